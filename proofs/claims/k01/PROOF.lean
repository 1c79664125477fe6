import PyProof.Rows.All
import Wide.All
import OpenK.AllK
import Wide.FinOn
import PyProof.EqAt
import PyProof.EqKinds
import PyProof.TupleCall
import HandS.ForMost
import HandS.ForExc
import HandS.AnyAll
import HandS.Wide
import HandS.Walk
import HandS.More
import HandS.Deep
import HandS.IsInst
import HandS.Style
import HandS.ExcCtx
import HandS.HotCalls
import HandS.ExcIs
import HandS.SortInts
import HandS.SortRule
import HandS.SetFor
import HandS.Conv
import HandS.EndTab
import KE.KNest
import PySem.Challenge.RW_sameweb_k01_rows
set_option Elab.async false
set_option linter.all false
set_option maxRecDepth 100000
set_option maxHeartbeats 8000000
/-! Data-level readings: a value is told by the data that it stands for; an expression's reading is told by a function over the frame's data. -/
namespace Mr
open PySem L2
abbrev St := L2.St

/-! ### answers of the mirror -/
inductive Md (α : Type) where
  | ok (a : α) | exc (c : Str) | bad
def Md.bind {α β : Type} (m : Md α) (f : α → Md β) : Md β := match m with
  | .ok a => f a
  | .exc c => .exc c
  | .bad => .bad
instance : Monad Md where
  pure := Md.ok
  bind := Md.bind
/-- what must hold behind m -/
def Wp {α : Type} (m : Md α) (post : α → Prop) (ex : Str → Prop) : Prop := match m with
  | .ok a => post a
  | .exc c => ex c
  | .bad => False
theorem Wp.bind {α β : Type} {m : Md α} {f : α → Md β} {post : β → Prop} {ex : Str → Prop} (h : Wp (m.bind f) post ex) : Wp m (fun a => Wp (f a) post ex) ex := by
  cases m <;> exact h
theorem Wp.mono {α : Type} {m : Md α} {p q : α → Prop} {ex ex' : Str → Prop} (h : Wp m p ex) (hp : ∀ a, p a → q a) (he : ∀ c, ex c → ex' c) : Wp m q ex' := by
  cases m with
  | ok a => exact hp a h
  | exc c => exact he c h
  | bad => exact h

/-! ### data -/
inductive Dt where
  | non | bl (b : Bool) | int (i : Int) | str (x : Str) | ty (n : String)
  | lst (xs : List Dt) | tup (xs : List Dt) | ins (C : Addr) (ns : List Str) (ds : List Dt)
  /-- a list, a tuple that is only read: the script, what the text has written -/
  | lsk (xs : List Dt) | tpk (xs : List Dt)
  /-- an empty dict -/
  | dic
  /-- an object by its address -/
  | adr (a : Addr)

/-! ### heaps -/
/-- all but code tables stays; tables stay tables -/
structure Ex (H H' : Hp) : Prop where
  same : ∀ b o, H b = some o → (∀ ps, o ≠ .tbl ps) → H' b = some o
  tabs : ∀ P ps, H P = some (.tbl ps) → ∃ qs, H' P = some (.tbl qs) ∧ (TriplesOk ps.toList → TriplesOk qs.toList)
theorem Ex.refl (H : Hp) : Ex H H := ⟨fun _ _ h _ => h, fun _ ps h => ⟨ps, h, fun t => t⟩⟩
theorem Ex.trans {H H1 H2 : Hp} (a : Ex H H1) (b : Ex H1 H2) : Ex H H2 := ⟨fun x o h n => b.same x o (a.same x o h n) n, fun P ps h => by
  obtain ⟨qs, h1, k1⟩ := a.tabs P ps h
  obtain ⟨rs, h2, k2⟩ := b.tabs P qs h1
  exact ⟨rs, h2, fun t => k2 (k1 t)⟩⟩
theorem Ex.tabG {H H' : Hp} (e : Ex H H') {P : Addr} (h : GxR.TabG H P) : GxR.TabG H' P := by
  obtain ⟨ps, q, t⟩ := h
  obtain ⟨qs, h1, k1⟩ := e.tabs P ps q
  exact ⟨qs, h1, k1 t⟩
theorem Ex.new {H : Hp} {p : Addr} {o : HO} (h : H p = none) : Ex H (upd H p o) := by
  refine ⟨fun b u e _ => ?_, fun P ps e => ⟨ps, ?_, fun t => t⟩⟩
  · rw [upd_ne (ne_of_none e h)]
    exact e
  · rw [upd_ne (ne_of_none e h)]
    exact e
/-- an object that the older heap doesn't know may change -/
theorem Ex.mut {G H : Hp} {p : Addr} {o : HO} (e : Ex G H) (h : G p = none) : Ex G (upd H p o) := by
  refine ⟨fun b u q n => ?_, fun P ps q => ?_⟩
  · rw [upd_ne (ne_of_none q h)]
    exact e.same b u q n
  · obtain ⟨qs, h1, k1⟩ := e.tabs P ps q
    exact ⟨qs, by rw [upd_ne (ne_of_none q h)]; exact h1, k1⟩
theorem Ex.lst {H H' : Hp} (e : Ex H H') {a : Addr} {xs : List V} (h : H a = some (.lst xs)) : H' a = some (.lst xs) := e.same a _ h fun _ z => by cases z
theorem Ex.tup {H H' : Hp} (e : Ex H H') {a : Addr} {xs : List V} (h : H a = some (.tup xs)) : H' a = some (.tup xs) := e.same a _ h fun _ z => by cases z
theorem Ex.ins {H H' : Hp} (e : Ex H H') {a C dx : Addr} {fs : List (Str × V)} (h : H a = some (.ins C dx fs)) : H' a = some (.ins C dx fs) := e.same a _ h fun _ z => by cases z
theorem Ex.ne {H H' : Hp} (e : Ex H H') {b : Addr} (h : H b ≠ none) : H' b ≠ none := by
  cases q : H b with
  | none => exact absurd q h
  | some o =>
    by_cases t : ∃ ps, o = .tbl ps
    · obtain ⟨ps, t⟩ := t
      rw [t] at q
      obtain ⟨qs, h1, _⟩ := e.tabs b ps q
      rw [h1]
      exact fun z => by cases z
    · rw [e.same b o q (fun ps z => t ⟨ps, z⟩)]
      exact fun z => by cases z
theorem Ex.free {H H' : Hp} (e : Ex H H') {b : Addr} (h : H' b = none) : H b = none := by
  cases q : H b with
  | none => rfl
  | some o => exact absurd h (e.ne (by rw [q]; exact fun z => by cases z))
theorem Ex.rd {H H' : Hp} {a : Addr} {u : HO} (e : Ex H H') (hu : ∀ ps, u ≠ .tbl ps) (h : Rd H a u) : Rd H' a u := by
  rcases h with h | ⟨o, h⟩
  · exact .inl (e.same a _ h hu)
  · exact .inr ⟨o, e.same a _ h fun ps z => by cases z⟩
theorem Ex.sqL {K : PySem.W.Frag} {H H' : Hp} {a : Addr} {xs : List V} (e : Ex H H') (h : SqL K H a xs) : SqL K H' a xs := by
  rcases h with h | h
  · exact .inl (e.rd (fun ps z => by cases z) h)
  · exact .inr h
theorem Ex.sqT {K : PySem.W.Frag} {H H' : Hp} {a : Addr} {xs : List V} (e : Ex H H') (h : SqT K H a xs) : SqT K H' a xs := by
  rcases h with h | h
  · exact .inl (e.rd (fun ps z => by cases z) h)
  · exact .inr h

/-! ### which value stands for which data -/
mutual
inductive Rp (K : PySem.W.Frag) (H : Hp) : V → Dt → Prop
  | non : Rp K H .non .non
  | bl (b : Bool) : Rp K H (.bl b) (.bl b)
  | int (i : Int) : Rp K H (.int i) (.int i)
  | str (x : Str) : Rp K H (.str x) (.str x)
  | ty (n : String) : Rp K H (.ty n) (.ty n)
  | lst {a : Addr} {vs : List V} {ds : List Dt} : H a = some (.lst vs) → RpL K H vs ds → Rp K H (.ref a) (.lst ds)
  | tup {a : Addr} {vs : List V} {ds : List Dt} : H a = some (.tup vs) → RpL K H vs ds → Rp K H (.ref a) (.tup ds)
  | lsk {a : Addr} {vs : List V} {ds : List Dt} : SqL K H a vs → RpL K H vs ds → Rp K H (.ref a) (.lsk ds)
  | tpk {a : Addr} {vs : List V} {ds : List Dt} : SqT K H a vs → RpL K H vs ds → Rp K H (.ref a) (.tpk ds)
  | dic {a : Addr} : H a = some (.dK []) → Rp K H (.ref a) .dic
  | adr (a : Addr) : Rp K H (.ref a) (.adr a)
  | ins {a C dx : Addr} {fs : List (Str × V)} {ds : List Dt} : H a = some (.ins C dx fs) → RpL K H (fs.map (·.2)) ds → Rp K H (.ref a) (.ins C (fs.map (·.1)) ds)
inductive RpL (K : PySem.W.Frag) (H : Hp) : List V → List Dt → Prop
  | nil : RpL K H [] []
  | cons {v : V} {vs : List V} {d : Dt} {ds : List Dt} : Rp K H v d → RpL K H vs ds → RpL K H (v :: vs) (d :: ds)
end
section
variable {K : PySem.W.Frag} {H H' : Hp}
mutual
theorem Rp.mono (e : Ex H H') : ∀ {v : V} {d : Dt}, Rp K H v d → Rp K H' v d
  | _, _, .non => .non
  | _, _, .bl b => .bl b
  | _, _, .int i => .int i
  | _, _, .str x => .str x
  | _, _, .ty n => .ty n
  | _, _, .lst h r => .lst (e.lst h) (RpL.mono e r)
  | _, _, .tup h r => .tup (e.tup h) (RpL.mono e r)
  | _, _, .lsk h r => .lsk (e.sqL h) (RpL.mono e r)
  | _, _, .tpk h r => .tpk (e.sqT h) (RpL.mono e r)
  | _, _, .dic h => .dic (e.same _ _ h fun _ z => by cases z)
  | _, _, .adr a => .adr a
  | _, _, .ins h r => .ins (e.ins h) (RpL.mono e r)
theorem RpL.mono (e : Ex H H') : ∀ {vs : List V} {ds : List Dt}, RpL K H vs ds → RpL K H' vs ds
  | _, _, .nil => .nil
  | _, _, .cons h r => .cons (Rp.mono e h) (RpL.mono e r)
end
theorem RpL.length : ∀ {vs : List V} {ds : List Dt}, RpL K H vs ds → vs.length = ds.length
  | _, _, .nil => rfl
  | _, _, .cons _ r => congrArg (· + 1) r.length
theorem RpL.get : ∀ {vs : List V} {ds : List Dt} {i : Nat} {v : V}, RpL K H vs ds → vs[i]? = some v → ∃ d, ds[i]? = some d ∧ Rp K H v d
  | _, _, _, _, .nil, e => by simp at e
  | _, _, 0, _, .cons h _, e => ⟨_, rfl, by cases e; exact h⟩
  | _, _, i + 1, v, .cons _ r, e => RpL.get (i := i) (v := v) r e
theorem RpL.at : ∀ {vs : List V} {ds : List Dt} {i : Nat} {d : Dt}, RpL K H vs ds → ds[i]? = some d → ∃ v, vs[i]? = some v ∧ Rp K H v d
  | _, _, _, _, .nil, e => by simp at e
  | _, _, 0, _, .cons h _, e => ⟨_, rfl, by cases e; exact h⟩
  | _, _, i + 1, d, .cons _ r, e => RpL.at (i := i) (d := d) r e
theorem RpL.app : ∀ {vs ws : List V} {ds es : List Dt}, RpL K H vs ds → RpL K H ws es → RpL K H (vs ++ ws) (ds ++ es)
  | _, _, _, _, .nil, s => s
  | _, _, _, _, .cons h r, s => .cons h (RpL.app r s)
theorem RpL.one {v : V} {d : Dt} (h : Rp K H v d) : RpL K H [v] [d] := .cons h .nil
theorem RpL.take : ∀ {vs : List V} {ds : List Dt} (n : Nat), RpL K H vs ds → RpL K H (vs.take n) (ds.take n)
  | _, _, 0, _ => .nil
  | _, _, _ + 1, .nil => .nil
  | _, _, n + 1, .cons h r => .cons h (RpL.take n r)
theorem RpL.drop : ∀ {vs : List V} {ds : List Dt} (n : Nat), RpL K H vs ds → RpL K H (vs.drop n) (ds.drop n)
  | _, _, 0, r => r
  | _, _, _ + 1, .nil => .nil
  | _, _, n + 1, .cons _ r => RpL.drop n r
theorem RpL.set {v : V} {d : Dt} (h : Rp K H v d) : ∀ {vs : List V} {ds : List Dt} (i : Nat), RpL K H vs ds → RpL K H (vs.set i v) (ds.set i d)
  | _, _, _, .nil => .nil
  | _, _, 0, .cons _ r => .cons h r
  | _, _, i + 1, .cons q r => .cons q (RpL.set h i r)
theorem RpL.erase : ∀ {vs : List V} {ds : List Dt} (i : Nat), RpL K H vs ds → RpL K H (vs.eraseIdx i) (ds.eraseIdx i)
  | _, _, _, .nil => .nil
  | _, _, 0, .cons _ r => r
  | _, _, i + 1, .cons q r => .cons q (RpL.erase i r)
theorem RpL.rev {vs : List V} {ds : List Dt} (h : RpL K H vs ds) : RpL K H vs.reverse ds.reverse := by
  have key : ∀ {vs : List V} {ds : List Dt}, RpL K H vs ds → RpL K H vs.reverse ds.reverse := by
    intro vs
    induction vs with
    | nil => intro ds h; cases h; exact .nil
    | cons v r ih =>
      intro ds h
      cases h with
      | cons h1 h2 =>
        rw [List.reverse_cons, List.reverse_cons]
        exact (ih h2).app (.one h1)
  exact key h
theorem RpL.rep {vs : List V} {ds : List Dt} (h : RpL K H vs ds) : ∀ k : Nat, RpL K H (List.replicate k vs).flatten (List.replicate k ds).flatten
  | 0 => .nil
  | k + 1 => by
    rw [List.replicate_succ, List.replicate_succ, List.flatten_cons, List.flatten_cons]
    exact h.app (RpL.rep h k)
theorem RpL.of_at {vs : List V} {ds : List Dt} (hl : vs.length = ds.length) (h : ∀ (i : Nat) v d, vs[i]? = some v → ds[i]? = some d → Rp K H v d) : RpL K H vs ds := by
  induction vs generalizing ds with
  | nil =>
    cases ds with
    | nil => exact .nil
    | cons d r => cases hl
  | cons v r ih =>
    cases ds with
    | nil => cases hl
    | cons d s =>
      refine .cons (h 0 v d rfl rfl) (ih (Nat.succ.inj hl) fun i v' d' h1 h2 => h (i + 1) v' d' h1 h2)
end

/-! ### growth: H the heap, S what may be shared (no list that the frame still changes) -/
structure Gr (H S H' S' : Hp) : Prop where
  hh : Ex H H'
  ss : Ex S S'
  sh : Ex S' H'
  fr : ∀ b, H b ≠ none → S b = none → S' b = none
theorem Gr.refl {H S : Hp} (h : Ex S H) : Gr H S H S := ⟨Ex.refl H, Ex.refl S, h, fun _ _ z => z⟩
theorem Gr.trans {H S H1 S1 H2 S2 : Hp} (a : Gr H S H1 S1) (b : Gr H1 S1 H2 S2) : Gr H S H2 S2 :=
  ⟨a.hh.trans b.hh, a.ss.trans b.ss, b.sh, fun c h z => b.fr c (a.hh.ne h) (a.fr c h z)⟩
/-- a new object that may be shared -/
theorem Gr.new {H S : Hp} (h : Ex S H) {p : Addr} {o : HO} (n : H p = none) : Gr H S (upd H p o) (upd S p o) := by
  have nS : S p = none := h.free n
  refine ⟨Ex.new n, Ex.new nS, ⟨fun b u e k => ?_, fun P ps e => ?_⟩, fun b hb z => ?_⟩
  · by_cases hb : b = p
    · rw [hb, upd_same] at e ⊢
      exact e
    · rw [upd_ne hb] at e ⊢
      exact h.same b u e k
  · by_cases hb : P = p
    · rw [hb, upd_same] at e
      rw [hb, upd_same]
      exact ⟨ps, e, fun t => t⟩
    · rw [upd_ne hb] at e
      obtain ⟨qs, h1, k1⟩ := h.tabs P ps e
      exact ⟨qs, by rw [upd_ne hb]; exact h1, k1⟩
  · have hb2 : b ≠ p := fun q => hb (q ▸ n)
    rw [upd_ne hb2]
    exact z
/-- a new object that the frame keeps to itself -/
theorem Gr.newO {H S : Hp} (h : Ex S H) {p : Addr} {o : HO} (n : H p = none) : Gr H S (upd H p o) S :=
  ⟨Ex.new n, Ex.refl S, h.trans (Ex.new n), fun _ _ z => z⟩
/-- what the frame kept to itself is shared from here on -/
theorem ex_give {S H : Hp} (h : Ex S H) {p : Addr} {vs : List V} (e : H p = some (.lst vs)) : Ex (upd S p (.lst vs)) H := by
  refine ⟨fun b u q k => ?_, fun P ps q => ?_⟩
  · by_cases hb : b = p
    · rw [hb, upd_same] at q
      rw [hb, e]
      exact q
    · rw [upd_ne hb] at q
      exact h.same b u q k
  · by_cases hb : P = p
    · rw [hb, upd_same] at q
      cases q
    · rw [upd_ne hb] at q
      exact h.tabs P ps q

/-! ### the frame's data: unknown, shared, or a list of its own that it may change -/
inductive Sd where
  | un | sh (d : Dt) | ow (ds : List Dt)
abbrev Fd := List Sd
/-- G, B: the heap and what was shared at the def's entry -/
structure Slt (K : PySem.W.Frag) (T : List Addr) (G B H S : Hp) (σ : St) (Δ : Fd) : Prop where
  len : σ.length = Δ.length
  gh : Ex G H
  bg : Ex B G
  bs : Ex B S
  sh : Ex S H
  fr : ∀ b, G b ≠ none → B b = none → S b = none
  tb : ∀ P ∈ T, GxR.TabG H P
  shd : ∀ (i : Nat) (d : Dt), Δ[i]? = some (.sh d) → ∃ v, σ[i]? = some (some v) ∧ Rp K S v d
  own : ∀ (i : Nat) (ds : List Dt), Δ[i]? = some (.ow ds) → ∃ a vs, σ[i]? = some (some (.ref a)) ∧ G a = none ∧ S a = none ∧ H a = some (.lst vs) ∧ RpL K S vs ds
  nd : ∀ (i j : Nat) (ds es : List Dt) (a : Addr), Δ[i]? = some (.ow ds) → Δ[j]? = some (.ow es) → σ[i]? = some (some (.ref a)) → σ[j]? = some (some (.ref a)) → i = j
section
variable {K : PySem.W.Frag} {T : List Addr} {G B H S H' S' : Hp} {σ : St} {Δ : Fd}
theorem Slt.grow (s : Slt K T G B H S σ Δ) (g : Gr H S H' S') : Slt K T G B H' S' σ Δ where
  len := s.len
  gh := s.gh.trans g.hh
  bg := s.bg
  bs := s.bs.trans g.ss
  sh := g.sh
  fr := fun b h z => g.fr b (s.gh.ne h) (s.fr b h z)
  tb := fun P h => g.hh.tabG (s.tb P h)
  shd := fun i d h => by
    obtain ⟨v, e, r⟩ := s.shd i d h
    exact ⟨v, e, r.mono g.ss⟩
  own := fun i ds h => by
    obtain ⟨a, vs, e, h1, h2, h3, r⟩ := s.own i ds h
    exact ⟨a, vs, e, h1, g.fr a (by rw [h3]; exact fun z => by cases z) h2, g.hh.lst h3, RpL.mono g.ss r⟩
  nd := s.nd
/-- a slot takes data that may be shared -/
theorem Slt.set (s : Slt K T G B H S σ Δ) (i : Nat) {v : V} {d : Dt} (r : Rp K S v d) : Slt K T G B H S (σ.set i (some v)) (Δ.set i (.sh d)) where
  len := by rw [List.length_set, List.length_set]; exact s.len
  gh := s.gh
  bg := s.bg
  bs := s.bs
  sh := s.sh
  fr := s.fr
  tb := s.tb
  shd := fun j e h => by
    by_cases hj : i = j
    · subst hj
      by_cases hl : i < Δ.length
      · rw [List.getElem?_set_self hl] at h
        cases h
        exact ⟨v, List.getElem?_set_self (by rw [s.len]; exact hl), r⟩
      · rw [List.getElem?_eq_none (by rw [List.length_set]; omega)] at h
        cases h
    · rw [List.getElem?_set_ne hj] at h ⊢
      exact s.shd j e h
  own := fun j ds h => by
    by_cases hj : i = j
    · subst hj
      by_cases hl : i < Δ.length
      · rw [List.getElem?_set_self hl] at h
        cases h
      · rw [List.getElem?_eq_none (by rw [List.length_set]; omega)] at h
        cases h
    · rw [List.getElem?_set_ne hj] at h
      obtain ⟨a, vs, e, q⟩ := s.own j ds h
      exact ⟨a, vs, by rw [List.getElem?_set_ne hj]; exact e, q⟩
  nd := fun j k ds es a h1 h2 h3 h4 => by
    have hj : i ≠ j := fun z => by
      subst z
      by_cases hl : i < Δ.length
      · rw [List.getElem?_set_self hl] at h1
        cases h1
      · rw [List.getElem?_eq_none (by rw [List.length_set]; omega)] at h1
        cases h1
    have hk : i ≠ k := fun z => by
      subst z
      by_cases hl : i < Δ.length
      · rw [List.getElem?_set_self hl] at h2
        cases h2
      · rw [List.getElem?_eq_none (by rw [List.length_set]; omega)] at h2
        cases h2
    rw [List.getElem?_set_ne hj] at h1 h3
    rw [List.getElem?_set_ne hk] at h2 h4
    exact s.nd j k ds es a h1 h2 h3 h4
/-- a slot takes a list of the frame's own -/
theorem Slt.setO (s : Slt K T G B H S σ Δ) (i : Nat) {a : Addr} {vs : List V} {ds : List Dt} (hG : G a = none) (hS : S a = none) (hH : H a = some (.lst vs)) (r : RpL K S vs ds)
    (hn : ∀ (j : Nat) (es : List Dt), j ≠ i → Δ[j]? = some (.ow es) → σ[j]? ≠ some (some (.ref a))) : Slt K T G B H S (σ.set i (some (.ref a))) (Δ.set i (.ow ds)) where
  len := by rw [List.length_set, List.length_set]; exact s.len
  gh := s.gh
  bg := s.bg
  bs := s.bs
  sh := s.sh
  fr := s.fr
  tb := s.tb
  shd := fun j e h => by
    by_cases hj : i = j
    · subst hj
      by_cases hl : i < Δ.length
      · rw [List.getElem?_set_self hl] at h
        cases h
      · rw [List.getElem?_eq_none (by rw [List.length_set]; omega)] at h
        cases h
    · rw [List.getElem?_set_ne hj] at h ⊢
      exact s.shd j e h
  own := fun j es h => by
    by_cases hj : i = j
    · subst hj
      by_cases hl : i < Δ.length
      · rw [List.getElem?_set_self hl] at h
        cases h
        exact ⟨a, vs, List.getElem?_set_self (by rw [s.len]; exact hl), hG, hS, hH, r⟩
      · rw [List.getElem?_eq_none (by rw [List.length_set]; omega)] at h
        cases h
    · rw [List.getElem?_set_ne hj] at h
      obtain ⟨b, ws, e, q⟩ := s.own j es h
      exact ⟨b, ws, by rw [List.getElem?_set_ne hj]; exact e, q⟩
  nd := fun j k es fs b h1 h2 h3 h4 => by
    have inb : ∀ {m : Nat} {x : Sd}, (Δ.set i x)[m]? ≠ none → m < Δ.length := fun {m x} h => by
      by_cases hl : m < Δ.length
      · exact hl
      · exact absurd (List.getElem?_eq_none (by rw [List.length_set]; omega)) h
    by_cases hj : i = j
    · by_cases hk : i = k
      · exact hj.symm.trans hk
      · subst hj
        have hl := inb (by rw [h1]; exact fun z => by cases z)
        rw [List.getElem?_set_self (by rw [s.len]; exact hl)] at h3
        cases h3
        rw [List.getElem?_set_ne hk] at h2 h4
        exact absurd h4 (hn k fs (Ne.symm hk) h2)
    · by_cases hk : i = k
      · subst hk
        have hl := inb (by rw [h2]; exact fun z => by cases z)
        rw [List.getElem?_set_self (by rw [s.len]; exact hl)] at h4
        cases h4
        rw [List.getElem?_set_ne hj] at h1 h3
        exact absurd h3 (hn j es (Ne.symm hj) h1)
      · rw [List.getElem?_set_ne hj] at h1 h3
        rw [List.getElem?_set_ne hk] at h2 h4
        exact s.nd j k es fs b h1 h2 h3 h4
/-- the slot's own list is changed -/
theorem Slt.put (s : Slt K T G B H S σ Δ) {i : Nat} {a : Addr} {ws : List V} {ds es : List Dt} (hi : Δ[i]? = some (.ow ds)) (ha : σ[i]? = some (some (.ref a))) (r : RpL K S ws es) :
    Slt K T G B (upd H a (.lst ws)) S σ (Δ.set i (.ow es)) := by
  obtain ⟨b, vs, e, hG, hS, hH, _⟩ := s.own i ds hi
  rw [ha] at e
  cases e
  have hl : i < Δ.length := (List.getElem?_eq_some_iff.mp hi).1
  refine ⟨by rw [List.length_set]; exact s.len, s.gh.mut hG, s.bg, s.bs, s.sh.mut hS, s.fr, fun P h => ?_, fun j d h => ?_, fun j fs h => ?_, fun j k fs gs c h1 h2 h3 h4 => ?_⟩
  · obtain ⟨ps, q, t⟩ := s.tb P h
    exact ⟨ps, by rw [upd_ne (ne_of q hH fun z => by cases z)]; exact q, t⟩
  · by_cases hj : i = j
    · subst hj
      rw [List.getElem?_set_self hl] at h
      cases h
    · rw [List.getElem?_set_ne hj] at h
      exact s.shd j d h
  · by_cases hj : i = j
    · subst hj
      rw [List.getElem?_set_self hl] at h
      cases h
      exact ⟨a, ws, ha, hG, hS, upd_same, r⟩
    · rw [List.getElem?_set_ne hj] at h
      obtain ⟨c, us, e, h1, h2, h3, q⟩ := s.own j fs h
      have ne : c ≠ a := fun z => hj (s.nd i j ds fs a hi h ha (z ▸ e))
      exact ⟨c, us, e, h1, h2, by rw [upd_ne ne]; exact h3, q⟩
  · have key : ∀ {m : Nat} {us : List Dt}, (Δ.set i (.ow es))[m]? = some (.ow us) → ∃ us', Δ[m]? = some (.ow us') := fun {m us} h => by
      by_cases hm : i = m
      · exact ⟨ds, hm ▸ hi⟩
      · rw [List.getElem?_set_ne hm] at h
        exact ⟨us, h⟩
    obtain ⟨_, h1'⟩ := key h1
    obtain ⟨_, h2'⟩ := key h2
    exact s.nd j k _ _ c h1' h2' h3 h4
/-- the slot's own list may be shared from here on -/
def give (i : Nat) (Δ : Fd) : Fd := match Δ[i]? with
  | some (.ow ds) => Δ.set i (.sh (.lst ds))
  | _ => Δ
theorem Slt.give (s : Slt K T G B H S σ Δ) (i : Nat) : ∃ S', Ex S S' ∧ Slt K T G B H S' σ (give i Δ) := by
  unfold Mr.give
  cases h : Δ[i]? with
  | none => exact ⟨S, Ex.refl S, s⟩
  | some x =>
    cases x with
    | un => exact ⟨S, Ex.refl S, s⟩
    | sh d => exact ⟨S, Ex.refl S, s⟩
    | ow ds =>
      obtain ⟨a, vs, e, hG, hS, hH, r⟩ := s.own i ds h
      have xS : Ex S (upd S a (.lst vs)) := Ex.new hS
      have hl : i < Δ.length := (List.getElem?_eq_some_iff.mp h).1
      refine ⟨upd S a (.lst vs), xS, ⟨by rw [List.length_set]; exact s.len, s.gh, s.bg, s.bs.trans xS, ex_give s.sh hH, fun b hb z => ?_, s.tb, fun j d q => ?_, fun j es q => ?_, fun j k es fs c h1 h2 h3 h4 => ?_⟩⟩
      · have nb : b ≠ a := fun y => hb (y ▸ hG)
        rw [upd_ne nb]
        exact s.fr b hb z
      · by_cases hj : i = j
        · subst hj
          rw [List.getElem?_set_self hl] at q
          cases q
          exact ⟨_, e, .lst upd_same (RpL.mono xS r)⟩
        · rw [List.getElem?_set_ne hj] at q
          obtain ⟨v, e1, r1⟩ := s.shd j d q
          exact ⟨v, e1, r1.mono xS⟩
      · by_cases hj : i = j
        · subst hj
          rw [List.getElem?_set_self hl] at q
          cases q
        · rw [List.getElem?_set_ne hj] at q
          obtain ⟨c, us, e1, h1, h2, h3, r1⟩ := s.own j es q
          have ne : c ≠ a := fun z => hj (s.nd i j ds es a h q e (z ▸ e1))
          exact ⟨c, us, e1, h1, by rw [upd_ne ne]; exact h2, h3, RpL.mono xS r1⟩
      · have key : ∀ {m : Nat} {us : List Dt}, (Δ.set i (.sh (.lst ds)))[m]? = some (.ow us) → Δ[m]? = some (.ow us) := fun {m us} q => by
          by_cases hm : i = m
          · subst hm
            rw [List.getElem?_set_self hl] at q
            cases q
          · rw [List.getElem?_set_ne hm] at q
            exact q
        exact s.nd j k es fs c (key h1) (key h2) h3 h4
end
end Mr
namespace Mr
open PySem L2

/-! ### the judgements -/
/-- how an answer is held: s, it may be shared; n, a new list of the frame's own; l, a list whose items may be shared; t, it is read at once -/
inductive Fl where
  | s | n | l | t
def Hd (K : PySem.W.Frag) (fl : Fl) (H S : Hp) (v : V) (d : Dt) : Prop := match fl with
  | .s => Rp K S v d
  | .n => ∃ p vs ds, v = .ref p ∧ d = .lst ds ∧ H p = some (.lst vs) ∧ S p = none ∧ RpL K S vs ds
  | .l => ∃ p vs ds, v = .ref p ∧ d = .lst ds ∧ H p = some (.lst vs) ∧ RpL K S vs ds
  | .t => Rp K H v d
/-- new: nobody had it -/
def Nw (fl : Fl) (H : Hp) (v : V) : Prop := match fl with
  | .n => ∃ p, v = .ref p ∧ H p = none
  | _ => True
/-- what is wished for where the class named c is raised -/
def XW (mg : Str → Option Value) (E : XK) (H : Hp) (c : Str) : Prop := ∃ C, mg c = some (.ref C) ∧ ∀ H', Ex H H' → E (.ref C) none H'
theorem XW.grow {mg : Str → Option Value} {E : XK} {H H' : Hp} {c : Str} (x : XW mg E H c) (e : Ex H H') : XW mg E H' c := by
  obtain ⟨C, h, k⟩ := x
  exact ⟨C, h, fun H2 e2 => k H2 (e.trans e2)⟩
/-- what surrounds: K the text's facts, T the tables of code, mg the module's names, E what is wished of errors -/
structure Wo where
  K : PySem.W.Frag
  T : List Addr
  mg : Str → Option Value
  E : XK
def SndE (W : Wo) (fl : Fl) (te : TE) (me : Fd → Md Dt) : Prop := ∀ (G B H S : Hp) (σ : St) (Δ : Fd) (Q : VK), Slt W.K W.T G B H S σ Δ →
  Wp (me Δ) (fun d => ∀ v H' S', Gr H S H' S' → Hd W.K fl H' S' v d → Nw fl H v → Q v H') (XW W.mg W.E H) → te σ H Q
def SndT (W : Wo) (tt : TT) (mt : Fd → Md Bool) : Prop := ∀ (G B H S : Hp) (σ : St) (Δ : Fd) (Q : Bool → Hp → Prop), Slt W.K W.T G B H S σ Δ →
  Wp (mt Δ) (fun b => ∀ H' S', Gr H S H' S' → Q b H') (XW W.mg W.E H) → tt σ H Q
def HdL (K : PySem.W.Frag) (fl : Fl) (H S : Hp) (vs : List V) (ds : List Dt) : Prop := match fl with
  | .s => RpL K S vs ds
  | _ => RpL K H vs ds
def SndA (W : Wo) (fl : Fl) (ta : TA) (ma : Fd → Md (List Dt)) : Prop := ∀ (G B H S : Hp) (σ : St) (Δ : Fd) (Q : List V → Hp → Prop), Slt W.K W.T G B H S σ Δ →
  Wp (ma Δ) (fun ds => ∀ vs H' S', Gr H S H' S' → HdL W.K fl H' S' vs ds → Q vs H') (XW W.mg W.E H) → ta σ H Q

section
variable {W : Wo} {fl fa fb : Fl} {te ta tb : TE} {me ma mb : Fd → Md Dt} {H S H' S' : Hp} {v : V} {d : Dt} {K : PySem.W.Frag}
theorem Hd.grow (h : Hd K fl H S v d) (g : Gr H S H' S') : Hd K fl H' S' v d := by
  cases fl with
  | s => exact Rp.mono g.ss h
  | t => exact Rp.mono g.hh h
  | n =>
    obtain ⟨p, vs, ds, e1, e2, e3, e4, r⟩ := h
    exact ⟨p, vs, ds, e1, e2, g.hh.lst e3, g.fr p (by rw [e3]; exact fun z => by cases z) e4, RpL.mono g.ss r⟩
  | l =>
    obtain ⟨p, vs, ds, e1, e2, e3, r⟩ := h
    exact ⟨p, vs, ds, e1, e2, g.hh.lst e3, RpL.mono g.ss r⟩
theorem Hd.toT (h : Hd K fl H S v d) (e : Ex S H) : Hd K .t H S v d := by
  cases fl with
  | s => exact Rp.mono e h
  | t => exact h
  | n =>
    obtain ⟨p, vs, ds, e1, e2, e3, e4, r⟩ := h
    subst e1 e2
    exact .lst e3 (RpL.mono e r)
  | l =>
    obtain ⟨p, vs, ds, e1, e2, e3, r⟩ := h
    subst e1 e2
    exact .lst e3 (RpL.mono e r)
/-- any answer may be read -/
theorem SndE.toT (h : SndE W fl te me) : SndE W .t te me := fun G B H S σ Δ Q s w => h G B H S σ Δ Q s (w.mono (fun d k v H' S' g r _ => k v H' S' g (r.toT g.sh) trivial) fun _ z => z)
/-- a new list may be shared -/
theorem Hd.give {G : Hp} (g : Gr G S H' S') (h : Hd K .n H' S' v d) (hn : Nw .n G v) : ∃ S2, Gr G S H' S2 ∧ Ex S' S2 ∧ Rp K S2 v d := by
  obtain ⟨p, vs, ds, e1, e2, e3, e4, r⟩ := h
  subst e1 e2
  obtain ⟨q, e5, e6⟩ := hn
  cases e5
  have x : Ex S' (upd S' p (.lst vs)) := Ex.new e4
  refine ⟨_, ⟨g.hh, g.ss.trans x, ex_give g.sh e3, fun b hb z => ?_⟩, x, .lst upd_same (RpL.mono x r)⟩
  rw [upd_ne (show b ≠ p from fun y => hb (by rw [y]; exact e6))]
  exact g.fr b hb z
theorem SndE.give (h : SndE W .n te me) : SndE W .s te me := fun G B H S σ Δ Q s w => h G B H S σ Δ Q s (w.mono (fun d k v H' S' g r n => by
  obtain ⟨S2, g2, _, r2⟩ := Hd.give g r n
  exact k v H' S2 g2 r2 trivial) fun _ z => z)
theorem SndE.nl (h : SndE W .n te me) : SndE W .l te me := fun G B H S σ Δ Q s w => h G B H S σ Δ Q s (w.mono (fun d k v H' S' g r n => k v H' S' g (by
  obtain ⟨p, vs, ds, e1, e2, e3, e4, r⟩ := r
  exact ⟨p, vs, ds, e1, e2, e3, r⟩) trivial) fun _ z => z)

/-! ### names, constants -/
def mVar (i : Nat) : Fd → Md Dt := fun Δ => match Δ[i]? with
  | some (.sh d) => .ok d
  | _ => .bad
def mOwn (i : Nat) : Fd → Md Dt := fun Δ => match Δ[i]? with
  | some (.ow ds) => .ok (.lst ds)
  | _ => .bad
def mAny (i : Nat) : Fd → Md Dt := fun Δ => match Δ[i]? with
  | some (.ow ds) => .ok (.lst ds)
  | some (.sh d) => .ok d
  | _ => .bad
theorem snd_var (i : Nat) : SndE W .s (tVar i) (mVar i) := by
  intro G B H S σ Δ Q s w
  unfold mVar at w
  split at w
  · rename_i d h
    obtain ⟨v, e, r⟩ := s.shd i d h
    exact ⟨v, e, w v H S (Gr.refl s.sh) r trivial⟩
  · exact w.elim
theorem snd_own (i : Nat) : SndE W .l (tVar i) (mOwn i) := by
  intro G B H S σ Δ Q s w
  unfold mOwn at w
  split at w
  · rename_i ds h
    obtain ⟨a, vs, e, _, _, h3, r⟩ := s.own i ds h
    exact ⟨.ref a, e, w (.ref a) H S (Gr.refl s.sh) ⟨a, vs, ds, rfl, rfl, h3, r⟩ trivial⟩
  · exact w.elim
theorem snd_any (i : Nat) : SndE W .t (tVar i) (mAny i) := by
  intro G B H S σ Δ Q s w
  unfold mAny at w
  split at w
  · rename_i ds h
    obtain ⟨a, vs, e, _, _, h3, r⟩ := s.own i ds h
    exact ⟨.ref a, e, w (.ref a) H S (Gr.refl s.sh) (.lst h3 (RpL.mono s.sh r)) trivial⟩
  · rename_i d h
    obtain ⟨v, e, r⟩ := s.shd i d h
    exact ⟨v, e, w v H S (Gr.refl s.sh) (r.mono s.sh) trivial⟩
  · exact w.elim
def mC (d : Dt) : Fd → Md Dt := fun _ => .ok d
theorem snd_c {v : V} {d : Dt} (r : ∀ H, Rp W.K H v d) : SndE W .s (tC v) (mC d) := fun G B H S σ Δ Q s w => w v H S (Gr.refl s.sh) (r S) trivial

/-! ### operators -/
def mBin (f : Dt → Dt → Md Dt) (ma mb : Fd → Md Dt) : Fd → Md Dt := fun Δ => (ma Δ).bind fun a => (mb Δ).bind fun b => f a b
def SndR (K : PySem.W.Frag) (fa fb fl : Fl) (r : R2) (f : Dt → Dt → Md Dt) : Prop := ∀ (H S : Hp) (x y : V) (a b : Dt) (Q : VK), Ex S H → Hd K fa H S x a → Hd K fb H S y b →
  Wp (f a b) (fun d => ∀ v H' S', Gr H S H' S' → Hd K fl H' S' v d → Nw fl H v → Q v H') (fun _ => False) → r x y H Q
theorem Nw.back (g : Gr H S H' S') (h : Nw fl H' v) : Nw fl H v := by
  cases fl with
  | n =>
    obtain ⟨p, e, h⟩ := h
    exact ⟨p, e, g.hh.free h⟩
  | _ => trivial
theorem snd_op {r : R2} {f : Dt → Dt → Md Dt} (ha : SndE W fa ta ma) (hb : SndE W fb tb mb) (hr : SndR W.K fa fb fl r f) (nx : ∀ a b c, f a b ≠ .exc c) : SndE W fl (tOp r ta tb) (mBin f ma mb) := by
  intro G B H S σ Δ Q s w
  refine ha G B H S σ Δ _ s (w.bind.mono (fun a k x H1 S1 g1 r1 _ => ?_) fun _ z => z)
  have s1 := s.grow g1
  refine hb G B H1 S1 σ Δ _ s1 (k.bind.mono (fun b k2 y H2 S2 g2 r2 _ => ?_) fun _ z => z.grow g1.hh)
  refine hr H2 S2 x y a b Q g2.sh (r1.grow g2) r2 ?_
  cases hf : f a b with
  | ok d =>
    rw [hf] at k2
    exact fun v H3 S3 g3 r3 n3 => k2 v H3 S3 ((g1.trans g2).trans g3) r3 (n3.back (g1.trans g2))
  | exc c => exact absurd hf (nx a b c)
  | bad =>
    rw [hf] at k2
    exact k2
def mUn (f : Dt → Md Dt) (ma : Fd → Md Dt) : Fd → Md Dt := fun Δ => (ma Δ).bind f
/-- two ints -/
def dI (g : Int → Int → Dt) : Dt → Dt → Md Dt
  | .int i, .int j => .ok (g i j)
  | _, _ => .bad
def dIC (c : Int → Int → Bool) (g : Int → Int → Dt) : Dt → Dt → Md Dt
  | .int i, .int j => if c i j = true then .ok (g i j) else .bad
  | _, _ => .bad
theorem Rp.isInt {x : V} {i : Int} (h : Rp K H x (.int i)) : x = .int i := by cases h; rfl
theorem sr_I0 {g : Int → Int → V} {g' : Int → Int → Dt} (hg : ∀ i j H, Rp K H (g i j) (g' i j)) : SndR K .t .t .s (rI0 g) (dI g') := by
  intro H S x y a b Q e ha hb w
  unfold dI at w
  split at w
  · cases Rp.isInt ha
    cases Rp.isInt hb
    exact ⟨_, _, rfl, rfl, w _ H S (Gr.refl e) (hg _ _ S) trivial⟩
  · exact w.elim
theorem sr_I {C : Int → Int → Prop} {c : Int → Int → Bool} {g : Int → Int → V} {g' : Int → Int → Dt} (hc : ∀ i j, c i j = true → C i j) (hg : ∀ i j H, Rp K H (g i j) (g' i j)) : SndR K .t .t .s (rI C g) (dIC c g') := by
  intro H S x y a b Q e ha hb w
  unfold dIC at w
  split at w
  · rename_i i j
    cases Rp.isInt ha
    cases Rp.isInt hb
    by_cases h : c i j = true
    · rw [if_pos h] at w
      exact ⟨_, _, rfl, rfl, hc _ _ h, w _ H S (Gr.refl e) (hg _ _ S) trivial⟩
    · rw [if_neg h] at w
      exact w.elim
  · exact w.elim
theorem dI_nx {g : Int → Int → Dt} (a b : Dt) (c : Str) : dI g a b ≠ .exc c := by
  unfold dI
  split <;> exact fun z => by cases z
theorem dIC_nx {k : Int → Int → Bool} {g : Int → Int → Dt} (a b : Dt) (c : Str) : dIC k g a b ≠ .exc c := by
  unfold dIC
  split
  · split <;> exact fun z => by cases z
  · exact fun z => by cases z

/-! ### arguments -/
def mNil : Fd → Md (List Dt) := fun _ => .ok []
def mCons (ma : Fd → Md Dt) (mr : Fd → Md (List Dt)) : Fd → Md (List Dt) := fun Δ => (ma Δ).bind fun a => (mr Δ).bind fun r => .ok (a :: r)
theorem sa_nil : SndA W fl tNil mNil := fun G B H S σ Δ Q s w => w [] H S (Gr.refl s.sh) (by cases fl <;> exact .nil)
theorem HdL.grow {vs : List V} {ds : List Dt} (h : HdL K fl H S vs ds) (g : Gr H S H' S') : HdL K fl H' S' vs ds := by
  cases fl with
  | s => exact RpL.mono g.ss h
  | _ => exact RpL.mono g.hh h
theorem sa_conss {tr : TA} {mr : Fd → Md (List Dt)} (ha : SndE W .s ta ma) (hr : SndA W .s tr mr) : SndA W .s (tCons ta tr) (mCons ma mr) := by
  intro G B H S σ Δ Q s w
  refine ha G B H S σ Δ _ s (w.bind.mono (fun a k x H1 S1 g1 r1 _ => ?_) fun _ z => z)
  refine hr G B H1 S1 σ Δ _ (s.grow g1) (k.bind.mono (fun b k2 y H2 S2 g2 r2 => ?_) fun _ z => z.grow g1.hh)
  exact k2 _ H2 S2 (g1.trans g2) (.cons (Rp.mono g2.ss r1) r2)
theorem sa_const {tr : TA} {mr : Fd → Md (List Dt)} (ha : SndE W .t ta ma) (hr : SndA W .t tr mr) : SndA W .t (tCons ta tr) (mCons ma mr) := by
  intro G B H S σ Δ Q s w
  refine ha G B H S σ Δ _ s (w.bind.mono (fun a k x H1 S1 g1 r1 _ => ?_) fun _ z => z)
  refine hr G B H1 S1 σ Δ _ (s.grow g1) (k.bind.mono (fun b k2 y H2 S2 g2 r2 => ?_) fun _ z => z.grow g1.hh)
  exact k2 _ H2 S2 (g1.trans g2) (.cons (Rp.mono g2.hh r1) r2)

/-! ### displays -/
def okLen (n : Nat) : Bool := decide (n ≤ 16777216)
theorem okLen_le {n : Nat} (h : okLen n = true) : n ≤ sizeLine := by
  rw [sizeLine_eq]
  exact of_decide_eq_true h
def mTup (ma : Fd → Md (List Dt)) : Fd → Md Dt := fun Δ => (ma Δ).bind fun ds => if okLen ds.length = true then .ok (.tup ds) else .bad
def mLst (ma : Fd → Md (List Dt)) : Fd → Md Dt := fun Δ => (ma Δ).bind fun ds => if okLen ds.length = true then .ok (.lst ds) else .bad
theorem snd_tup {ta : TA} {ma : Fd → Md (List Dt)} (ha : SndA W .s ta ma) : SndE W .s (tTup ta) (mTup ma) := by
  intro G B H S σ Δ Q s w
  refine ha G B H S σ Δ _ s (w.bind.mono (fun ds k vs H1 S1 g1 r1 => ?_) fun _ z => z)
  by_cases h : okLen ds.length = true
  · rw [if_pos h] at k
    have r1' : RpL W.K S1 vs ds := r1
    refine ⟨by rw [r1'.length]; exact okLen_le h, fun p hp => ?_⟩
    have g2 := Gr.new (o := .tup vs) g1.sh hp
    exact k _ _ _ (g1.trans g2) (.tup upd_same (RpL.mono g2.ss r1')) trivial
  · rw [if_neg h] at k
    exact k.elim
theorem snd_lst {ta : TA} {ma : Fd → Md (List Dt)} (ha : SndA W .s ta ma) : SndE W .n (tLst ta) (mLst ma) := by
  intro G B H S σ Δ Q s w
  refine ha G B H S σ Δ _ s (w.bind.mono (fun ds k vs H1 S1 g1 r1 => ?_) fun _ z => z)
  by_cases h : okLen ds.length = true
  · rw [if_pos h] at k
    have r1' : RpL W.K S1 vs ds := r1
    refine ⟨by rw [r1'.length]; exact okLen_le h, fun p hp => ?_⟩
    have g2 := Gr.newO (o := .lst vs) g1.sh hp
    exact k _ _ _ (g1.trans g2) ⟨p, vs, ds, rfl, rfl, upd_same, g1.sh.free hp, r1'⟩ ⟨p, rfl, g1.hh.free hp⟩
  · rw [if_neg h] at k
    exact k.elim

/-! ### calls -/
def mCB (f : List Dt → Md Dt) (ma : Fd → Md (List Dt)) : Fd → Md Dt := fun Δ => (ma Δ).bind f
def SndC (K : PySem.W.Frag) (fa fl : Fl) (r : List V → Hp → VK → Prop) (f : List Dt → Md Dt) : Prop := ∀ (H S : Hp) (vs : List V) (ds : List Dt) (Q : VK), Ex S H → HdL K fa H S vs ds →
  Wp (f ds) (fun d => ∀ v H' S', Gr H S H' S' → Hd K fl H' S' v d → Nw fl H v → Q v H') (fun _ => False) → r vs H Q
theorem snd_cb {r : List V → Hp → VK → Prop} {f : List Dt → Md Dt} {ta : TA} {ma : Fd → Md (List Dt)} (ha : SndA W fa ta ma) (hr : SndC W.K fa fl r f) (nx : ∀ ds c, f ds ≠ .exc c) : SndE W fl (tCB r ta) (mCB f ma) := by
  intro G B H S σ Δ Q s w
  refine ha G B H S σ Δ _ s (w.bind.mono (fun ds k vs H1 S1 g1 r1 => ?_) fun _ z => z)
  refine hr H1 S1 vs ds Q g1.sh r1 ?_
  cases hf : f ds with
  | ok d =>
    rw [hf] at k
    exact fun v H2 S2 g2 r2 n2 => k v H2 S2 (g1.trans g2) r2 (n2.back g1)
  | exc c => exact absurd hf (nx ds c)
  | bad =>
    rw [hf] at k
    exact k
/-! ### tests -/
def mT (ma : Fd → Md Dt) : Fd → Md Bool := fun Δ => (ma Δ).bind fun a => match a with
  | .bl b => .ok b
  | _ => .bad
theorem snd_test (ha : SndE W .t ta ma) : SndT W (tTest ta) (mT ma) := by
  intro G B H S σ Δ Q s w
  refine ha G B H S σ Δ _ s (w.bind.mono (fun a k x H1 S1 g1 r1 _ => ?_) fun _ z => z)
  cases a with
  | bl b =>
    cases r1
    exact ⟨b, rfl, k H1 S1 g1⟩
  | _ => exact k.elim
theorem snd_B (ha : SndE W .t ta ma) : SndT W (tB ta) (mT ma) := snd_test ha
def mAnd (a b : Fd → Md Bool) : Fd → Md Bool := fun Δ => (a Δ).bind fun x => if x = true then b Δ else .ok false
def mOr (a b : Fd → Md Bool) : Fd → Md Bool := fun Δ => (a Δ).bind fun x => if x = true then .ok true else b Δ
def mNot (a : Fd → Md Bool) : Fd → Md Bool := fun Δ => (a Δ).bind fun x => .ok (!x)
variable {t u : TT} {mt mu : Fd → Md Bool}
theorem snd_and (h1 : SndT W t mt) (h2 : SndT W u mu) : SndT W (tAnd t u) (mAnd mt mu) := by
  intro G B H S σ Δ Q s w
  refine h1 G B H S σ Δ _ s (w.bind.mono (fun a k H1 S1 g1 => ?_) fun _ z => z)
  cases a with
  | true => exact h2 G B H1 S1 σ Δ Q (s.grow g1) (Wp.mono k (fun b k2 H2 S2 g2 => k2 H2 S2 (g1.trans g2)) fun _ z => z.grow g1.hh)
  | false => exact k H1 S1 g1
theorem snd_or (h1 : SndT W t mt) (h2 : SndT W u mu) : SndT W (tOr t u) (mOr mt mu) := by
  intro G B H S σ Δ Q s w
  refine h1 G B H S σ Δ _ s (w.bind.mono (fun a k H1 S1 g1 => ?_) fun _ z => z)
  cases a with
  | true => exact k H1 S1 g1
  | false => exact h2 G B H1 S1 σ Δ Q (s.grow g1) (Wp.mono k (fun b k2 H2 S2 g2 => k2 H2 S2 (g1.trans g2)) fun _ z => z.grow g1.hh)
theorem snd_not (h1 : SndT W t mt) : SndT W (tNot t) (mNot mt) := fun G B H S σ Δ Q s w =>
  h1 G B H S σ Δ _ s (w.bind.mono (fun a k H1 S1 g1 => k H1 S1 g1) fun _ z => z)
/-! ### truth values as values -/
def mBl (mt : Fd → Md Bool) : Fd → Md Dt := fun Δ => (mt Δ).bind fun b => .ok (.bl b)
def mAndV (ma mb : Fd → Md Dt) : Fd → Md Dt := fun Δ => (mT ma Δ).bind fun c => if c = true then mb Δ else .ok (.bl false)
def mOrV (ma mb : Fd → Md Dt) : Fd → Md Dt := fun Δ => (mT ma Δ).bind fun c => if c = true then .ok (.bl true) else mb Δ
def mNotV (ma : Fd → Md Dt) : Fd → Md Dt := fun Δ => (mT ma Δ).bind fun c => .ok (.bl (!c))
theorem mT_w {ma : Fd → Md Dt} {Δ : Fd} {p : Bool → Prop} {ex : Str → Prop} (h : Wp (mT ma Δ) p ex) : Wp (ma Δ) (fun a => ∃ b, a = .bl b ∧ p b) ex := by
  refine h.bind.mono (fun a k => ?_) fun _ z => z
  cases a with
  | bl b => exact ⟨b, rfl, k⟩
  | _ => exact k.elim
theorem snd_andV (ha : SndE W .t ta ma) (hb : SndE W .s tb mb) : SndE W .s (tAndV ta tb) (mAndV ma mb) := by
  intro G B H S σ Δ Q s w
  refine ha G B H S σ Δ _ s ((mT_w w.bind).mono (fun a k x H1 S1 g1 r1 _ => ?_) fun _ z => z)
  obtain ⟨b, rfl, k⟩ := k
  cases r1
  refine ⟨b, rfl, ?_⟩
  cases b with
  | true => exact hb G B H1 S1 σ Δ Q (s.grow g1) (Wp.mono k (fun d k2 v H2 S2 g2 r2 n2 => k2 v H2 S2 (g1.trans g2) r2 n2) fun _ z => z.grow g1.hh)
  | false => exact k _ H1 S1 g1 (.bl false) trivial
theorem snd_orV (ha : SndE W .t ta ma) (hb : SndE W .s tb mb) : SndE W .s (tOrV ta tb) (mOrV ma mb) := by
  intro G B H S σ Δ Q s w
  refine ha G B H S σ Δ _ s ((mT_w w.bind).mono (fun a k x H1 S1 g1 r1 _ => ?_) fun _ z => z)
  obtain ⟨b, rfl, k⟩ := k
  cases r1
  refine ⟨b, rfl, ?_⟩
  cases b with
  | true => exact k _ H1 S1 g1 (.bl true) trivial
  | false => exact hb G B H1 S1 σ Δ Q (s.grow g1) (Wp.mono k (fun d k2 v H2 S2 g2 r2 n2 => k2 v H2 S2 (g1.trans g2) r2 n2) fun _ z => z.grow g1.hh)
theorem snd_notV (ha : SndE W .t ta ma) : SndE W .s (tNotV ta) (mNotV ma) := by
  intro G B H S σ Δ Q s w
  refine ha G B H S σ Δ _ s ((mT_w w.bind).mono (fun a k x H1 S1 g1 r1 _ => ?_) fun _ z => z)
  obtain ⟨b, rfl, k⟩ := k
  cases r1
  exact ⟨b, rfl, k _ H1 S1 g1 (.bl (!b)) trivial⟩
def mIfE (mt : Fd → Md Bool) (ma mb : Fd → Md Dt) : Fd → Md Dt := fun Δ => (mt Δ).bind fun c => if c = true then ma Δ else mb Δ
theorem snd_ifE (ht : SndT W t mt) (ha : SndE W fl ta ma) (hb : SndE W fl tb mb) : SndE W fl (tIf t ta tb) (mIfE mt ma mb) := by
  intro G B H S σ Δ Q s w
  refine ht G B H S σ Δ _ s (w.bind.mono (fun c k H1 S1 g1 => ?_) fun _ z => z)
  cases c with
  | true => exact ha G B H1 S1 σ Δ Q (s.grow g1) (Wp.mono k (fun d k2 v H2 S2 g2 r2 n2 => k2 v H2 S2 (g1.trans g2) r2 (n2.back g1)) fun _ z => z.grow g1.hh)
  | false => exact hb G B H1 S1 σ Δ Q (s.grow g1) (Wp.mono k (fun d k2 v H2 S2 g2 r2 n2 => k2 v H2 S2 (g1.trans g2) r2 (n2.back g1)) fun _ z => z.grow g1.hh)
end
end Mr
namespace Mr
open PySem L2

/-! ### ends -/
inductive Out where
  | nx (Δ : Fd) | bk (Δ : Fd) | ct (Δ : Fd) | rt (d : Dt)
/-- what a def hands back; nw: a new list that nobody else has -/
def Rt (K : PySem.W.Frag) (nw : Bool) (G B H : Hp) (v : V) (d : Dt) : Prop := ∃ S, Ex G H ∧ Ex B S ∧ Ex S H ∧ (∀ b, G b ≠ none → B b = none → S b = none) ∧
  (match nw with
  | true => Hd K .n H S v d ∧ Nw .n G v
  | false => Rp K S v d)
def OutOk (W : Wo) (nw : Bool) (G B : Hp) (D : Ends) : Out → Prop
  | .nx Δ => ∀ H S σ, Slt W.K W.T G B H S σ Δ → D.nx σ H
  | .bk Δ => ∀ H S σ, Slt W.K W.T G B H S σ Δ → D.bk σ H
  | .ct Δ => ∀ H S σ, Slt W.K W.T G B H S σ Δ → D.ct σ H
  | .rt d => ∀ v H, Rt W.K nw G B H v d → D.rt v H
def SndS (W : Wo) (nw : Bool) (ts : TS) (ms : Fd → Md Out) : Prop := ∀ (G B H S : Hp) (σ : St) (Δ : Fd) (D : Ends), Slt W.K W.T G B H S σ Δ →
  Wp (ms Δ) (OutOk W nw G B D) (XW W.mg W.E G) → ts D σ H
/-- a store; the slots that it writes -/
def SndG (K : PySem.W.Frag) (T : List Addr) (ws : List Nat) (g : TG) (tg : Dt → Fd → Md Fd) : Prop := ∀ (G B H S : Hp) (σ : St) (Δ : Fd) (v : V) (d : Dt) (Q : St → Hp → Prop), Slt K T G B H S σ Δ → Rp K S v d →
  Wp (tg d Δ) (fun Δ' => ∀ σ', Slt K T G B H S σ' Δ' → (∀ vs : List Nat, (∀ i ∈ ws, i ∈ vs) → wipe σ' vs = wipe σ vs) → Q σ' H) (fun _ => False) → g v σ H Q
def SndGs (K : PySem.W.Frag) (T : List Addr) (ws : List Nat) (g : TGs) (tg : List Dt → Fd → Md Fd) : Prop := ∀ (G B H S : Hp) (σ : St) (Δ : Fd) (vs : List V) (ds : List Dt) (Q : St → Hp → Prop), Slt K T G B H S σ Δ → RpL K S vs ds →
  Wp (tg ds Δ) (fun Δ' => ∀ σ', Slt K T G B H S σ' Δ' → (∀ vs : List Nat, (∀ i ∈ ws, i ∈ vs) → wipe σ' vs = wipe σ vs) → Q σ' H) (fun _ => False) → g vs σ H Q
theorem wipe_set {σ : St} {i : Nat} {x : Option V} : ∀ {vs : List Nat}, i ∈ vs → wipe (σ.set i x) vs = wipe σ vs
  | [], h => by cases h
  | v :: vs, h => by
    show (wipe (σ.set i x) vs).set v none = (wipe σ vs).set v none
    by_cases hm : i ∈ vs
    · rw [wipe_set hm]
    · have hv : i = v := by
        rcases List.mem_cons.mp h with z | z
        · exact z
        · exact absurd z hm
      subst hv
      refine List.ext_getElem? fun j => ?_
      by_cases hj : i = j
      · subst hj
        by_cases hl : i < σ.length
        · rw [List.getElem?_set_self (by rw [wipe_length, List.length_set]; exact hl), List.getElem?_set_self (by rw [wipe_length]; exact hl)]
        · rw [List.getElem?_eq_none (by rw [List.length_set, wipe_length, List.length_set]; omega), List.getElem?_eq_none (by rw [List.length_set, wipe_length]; omega)]
      · rw [List.getElem?_set_ne hj, List.getElem?_set_ne hj]
        by_cases hjv : j ∈ vs
        · have key : ∀ {ρ : St} {ws : List Nat}, j ∈ ws → (wipe ρ ws)[j]? = if j < ρ.length then some none else none := by
            intro ρ ws
            induction ws with
            | nil => intro h; cases h
            | cons w r ih =>
              intro hw
              unfold wipe
              by_cases hwj : w = j
              · subst hwj
                by_cases hl : w < ρ.length
                · rw [List.getElem?_set_self (by rw [wipe_length]; exact hl), if_pos hl]
                · rw [List.getElem?_eq_none (by rw [List.length_set, wipe_length]; omega), if_neg hl]
              · rw [List.getElem?_set_ne hwj]
                rcases List.mem_cons.mp hw with z | z
                · exact absurd z.symm hwj
                · exact ih z
          rw [key hjv, key hjv, List.length_set]
        · rw [wipe_out hjv, wipe_out hjv, List.getElem?_set_ne hj]

section
variable {W : Wo} {nw : Bool} {ta tb : TE} {ma mb : Fd → Md Dt} {t u : TS} {mt mu : Fd → Md Out} {tc : TT} {mc : Fd → Md Bool} {K : PySem.W.Frag} {T : List Addr} {g : TG} {tg : Dt → Fd → Md Fd} {G B H S : Hp} {σ : St} {Δ : Fd}
/-! ### stores -/
def gsName (i : Nat) : Dt → Fd → Md Fd := fun d Δ => .ok (Δ.set i (.sh d))
theorem sg_name (i : Nat) : SndG K T [i] (gName i) (gsName i) := fun G B H S σ Δ v d Q s r w => w _ (s.set i r) fun vs h => wipe_set (h i (by simp))
def gsNil : List Dt → Fd → Md Fd := fun ds Δ => match ds with
  | [] => .ok Δ
  | _ => .bad
def gsCons (a : Dt → Fd → Md Fd) (r : List Dt → Fd → Md Fd) : List Dt → Fd → Md Fd := fun ds Δ => match ds with
  | d :: es => (a d Δ).bind fun Δ' => r es Δ'
  | [] => .bad
theorem sgs_nil : SndGs K T [] gNil gsNil := by
  intro G B H S σ Δ vs ds Q s r w
  unfold gsNil at w
  split at w
  · cases r
    exact ⟨rfl, w _ s fun vs _ => rfl⟩
  · exact w.elim
theorem sgs_cons {ws1 ws2 : List Nat} {gs : TGs} {tgs : List Dt → Fd → Md Fd} (h1 : SndG K T ws1 g tg) (h2 : SndGs K T ws2 gs tgs) : SndGs K T (ws1 ++ ws2) (gCons g gs) (gsCons tg tgs) := by
  intro G B H S σ Δ vs ds Q s r w
  unfold gsCons at w
  split at w
  · cases r with
    | cons r1 r2 =>
      refine ⟨_, _, rfl, h1 G B H S σ Δ _ _ _ s r1 (w.bind.mono (fun Δ1 k σ1 s1 e1 => ?_) fun _ z => z)⟩
      exact h2 G B H S σ1 Δ1 _ _ Q s1 r2 (Wp.mono k (fun Δ2 k2 σ2 s2 e2 => k2 σ2 s2 fun vs hv => (e2 vs fun i hi => hv i (List.mem_append_right _ hi)).trans (e1 vs fun i hi => hv i (List.mem_append_left _ hi))) fun _ z => z)
  · exact w.elim
def gsTup (n : Nat) (r : List Dt → Fd → Md Fd) : Dt → Fd → Md Fd := fun d Δ => match d with
  | .tup ds => if ds.length = n then r ds Δ else .bad
  | .tpk ds => if ds.length = n then r ds Δ else .bad
  | _ => .bad
theorem sg_tup {n : Nat} {ws : List Nat} {gs : TGs} {tgs : List Dt → Fd → Md Fd} (h : SndGs K T ws gs tgs) : SndG K T ws (gTup K n gs) (gsTup n tgs) := by
  intro G B H S σ Δ v d Q s r w
  unfold gsTup at w
  split at w
  · rename_i ds
    by_cases hn : ds.length = n
    · rw [if_pos hn] at w
      cases r with
      | tup ha hr => exact ⟨_, _, rfl, .inl (.inl (s.sh.tup ha)), by rw [hr.length]; exact hn, h G B H S σ Δ _ _ Q s hr w⟩
    · rw [if_neg hn] at w
      exact w.elim
  · rename_i ds
    by_cases hn : ds.length = n
    · rw [if_pos hn] at w
      cases r with
      | tpk ha hr => exact ⟨_, _, rfl, s.sh.sqT ha, by rw [hr.length]; exact hn, h G B H S σ Δ _ _ Q s hr w⟩
    · rw [if_neg hn] at w
      exact w.elim
  · exact w.elim

/-! ### statements -/
theorem xw_up (s : Slt W.K W.T G B H S σ Δ) {c : Str} (z : XW W.mg W.E G c) : XW W.mg W.E H c := z.grow s.gh
def mSeq (a b : Fd → Md Out) : Fd → Md Out := fun Δ => (a Δ).bind fun o => match o with
  | .nx Δ' => b Δ'
  | o => .ok o
theorem ss_seq (h1 : SndS W nw t mt) (h2 : SndS W nw u mu) : SndS W nw (tSeq t u) (mSeq mt mu) := by
  intro G B H S σ Δ D s w
  refine h1 G B H S σ Δ _ s (w.bind.mono (fun o k => ?_) fun _ z => z)
  cases o with
  | nx Δ' => exact fun H' S' σ' s' => h2 G B H' S' σ' Δ' D s' k
  | bk Δ' => exact k
  | ct Δ' => exact k
  | rt d => exact k
def mNext : Fd → Md Out := fun Δ => .ok (.nx Δ)
theorem ss_next : SndS W nw tNext mNext := fun G B H S σ Δ D s w => w H S σ s
def mBreak : Fd → Md Out := fun Δ => .ok (.bk Δ)
theorem ss_break : SndS W nw tBreak mBreak := fun G B H S σ Δ D s w => w H S σ s
def mCont : Fd → Md Out := fun Δ => .ok (.ct Δ)
theorem ss_cont : SndS W nw tCont mCont := fun G B H S σ Δ D s w => w H S σ s
/-- a list of the frame's own is shared ahead of the statement -/
def mGive (i : Nat) (a : Fd → Md Out) : Fd → Md Out := fun Δ => a (give i Δ)
theorem ss_give (i : Nat) (h : SndS W nw t mt) : SndS W nw t (mGive i mt) := by
  intro G B H S σ Δ D s w
  obtain ⟨S', _, s'⟩ := s.give i
  exact h G B H S' σ _ D s' w
def mAsg (i : Nat) (a : Fd → Md Dt) : Fd → Md Out := fun Δ => (a Δ).bind fun d => .ok (.nx (Δ.set i (.sh d)))
theorem ss_asg (i : Nat) (h : SndE W .s ta ma) : SndS W nw (tAsg ta (gName i)) (mAsg i ma) := fun G B H S σ Δ D s w =>
  h G B H S σ Δ _ s (w.bind.mono (fun d k v H' S' g r _ => k H' S' _ ((s.grow g).set i r)) fun _ z => xw_up s z)
def mAsgT (tg : Dt → Fd → Md Fd) (a : Fd → Md Dt) : Fd → Md Out := fun Δ => (a Δ).bind fun d => match tg d Δ with
  | .ok Δ' => .ok (.nx Δ')
  | _ => .bad
theorem ss_asgT {ws : List Nat} (h : SndE W .s ta ma) (hg : SndG W.K W.T ws g tg) : SndS W nw (tAsg ta g) (mAsgT tg ma) := fun G B H S σ Δ D s w =>
  h G B H S σ Δ _ s (w.bind.mono (fun d k v H' S' gr r _ => by
    refine hg G B H' S' σ Δ v d _ (s.grow gr) r ?_
    revert k
    cases tg d Δ with
    | ok Δ' => exact fun k σ' s' _ => k H' S' σ' s'
    | exc c => exact fun k => k.elim
    | bad => exact fun k => k.elim) fun _ z => xw_up s z)
/-- a new list that the frame is to change -/
def mAsgO (i : Nat) (a : Fd → Md Dt) : Fd → Md Out := fun Δ => (a Δ).bind fun d => match d with
  | .lst ds => .ok (.nx (Δ.set i (.ow ds)))
  | _ => .bad
theorem ss_asgO (i : Nat) (h : SndE W .n ta ma) : SndS W nw (tAsg ta (gName i)) (mAsgO i ma) := fun G B H S σ Δ D s w =>
  h G B H S σ Δ _ s (w.bind.mono (fun d k v H' S' g r n => by
    obtain ⟨p, vs, ds, e1, e2, e3, e4, r⟩ := r
    subst e1 e2
    obtain ⟨q, e5, e6⟩ := n
    cases e5
    refine k H' S' _ ((s.grow g).setO i (s.gh.free e6) e4 e3 r fun j es _ ho hσ => ?_)
    obtain ⟨a, us, e, _, _, h3, _⟩ := s.own j es ho
    rw [hσ] at e
    cases e
    rw [e6] at h3
    cases h3) fun _ z => xw_up s z)
def mDrop (a : Fd → Md Dt) : Fd → Md Out := fun Δ => (a Δ).bind fun _ => .ok (.nx Δ)
theorem ss_drop {fl : Fl} (h : SndE W fl ta ma) : SndS W nw (tDrop ta) (mDrop ma) := fun G B H S σ Δ D s w =>
  h G B H S σ Δ _ s (w.bind.mono (fun d k v H' S' g r _ => k H' S' _ (s.grow g)) fun _ z => xw_up s z)
def mIfS (c : Fd → Md Bool) (a b : Fd → Md Out) : Fd → Md Out := fun Δ => (c Δ).bind fun x => if x = true then a Δ else b Δ
theorem ss_if (hc : SndT W tc mc) (h1 : SndS W nw t mt) (h2 : SndS W nw u mu) : SndS W nw (tIfS tc t u) (mIfS mc mt mu) := fun G B H S σ Δ D s w =>
  hc G B H S σ Δ _ s (w.bind.mono (fun x k H' S' g => by
    cases x with
    | true => exact h1 G B H' S' σ Δ D (s.grow g) k
    | false => exact h2 G B H' S' σ Δ D (s.grow g) k) fun _ z => xw_up s z)
def mRet (a : Fd → Md Dt) : Fd → Md Out := fun Δ => (a Δ).bind fun d => .ok (.rt d)
theorem ss_ret (h : SndE W .s ta ma) : SndS W false (tRet ta) (mRet ma) := fun G B H S σ Δ D s w =>
  h G B H S σ Δ _ s (w.bind.mono (fun d k v H' S' g r _ => by
    have s' := s.grow g
    exact k v H' ⟨S', s'.gh, s'.bs, s'.sh, s'.fr, r⟩) fun _ z => xw_up s z)
theorem ss_retn (h : SndE W .n ta ma) : SndS W true (tRet ta) (mRet ma) := fun G B H S σ Δ D s w =>
  h G B H S σ Δ _ s (w.bind.mono (fun d k v H' S' g r n => by
    have s' := s.grow g
    obtain ⟨p, e1, e2⟩ := n
    exact k v H' ⟨S', s'.gh, s'.bs, s'.sh, s'.fr, r, p, e1, s.gh.free e2⟩) fun _ z => xw_up s z)
def mRetO (i : Nat) : Fd → Md Out := fun Δ => match Δ[i]? with
  | some (.ow ds) => .ok (.rt (.lst ds))
  | _ => .bad
theorem ss_retO (i : Nat) : SndS W nw (tRet (tVar i)) (mRetO i) := by
  intro G B H S σ Δ D s w
  unfold mRetO at w
  split at w
  · rename_i ds h
    obtain ⟨a, vs, e, hG, hS, hH, r⟩ := s.own i ds h
    refine ⟨.ref a, e, w (.ref a) H ?_⟩
    cases nw with
    | true => exact ⟨S, s.gh, s.bs, s.sh, s.fr, ⟨a, vs, ds, rfl, rfl, hH, hS, r⟩, a, rfl, hG⟩
    | false =>
      have x : Ex S (upd S a (.lst vs)) := Ex.new hS
      refine ⟨_, s.gh, s.bs.trans x, ex_give s.sh hH, fun b hb z => ?_, .lst upd_same (RpL.mono x r)⟩
      rw [upd_ne (show b ≠ a from fun y => hb (by rw [y]; exact hG))]
      exact s.fr b hb z
  · exact w.elim
def mRetN : Fd → Md Out := fun _ => .ok (.rt .non)
theorem ss_retN : SndS W false tRetN mRetN := fun G B H S σ Δ D s w => w .non H ⟨S, s.gh, s.bs, s.sh, s.fr, .non⟩
def mRaise (c : Str) : Fd → Md Out := fun _ => .exc c
theorem ss_raise {c : Str} {C : Addr} (h : W.mg c = some (.ref C)) : SndS W nw (fun _ _ H => W.E (.ref C) none H) (mRaise c) := fun G B H S σ Δ D s w => by
  obtain ⟨C', h', k⟩ := w
  rw [h] at h'
  cases h'
  exact k H s.gh
/-! ### lists of the frame's own, changed -/
def mApp (i : Nat) (a : Fd → Md Dt) : Fd → Md Out := fun Δ => match Δ[i]? with
  | some (.ow ds) => if ds.length < 16777216 then (a Δ).bind fun d => .ok (.nx (Δ.set i (.ow (ds ++ [d])))) else .bad
  | _ => .bad
theorem lt_line {n : Nat} (h : n < 16777216) : n < sizeLine := by
  rw [sizeLine_eq]
  exact h
theorem ss_app (i : Nat) (h : SndE W .s ta ma) : SndS W nw (tDrop (tBM W.K "list" rAppend (tVar i) (tCons ta tNil))) (mApp i ma) := by
  intro G B H S σ Δ D s w
  unfold mApp at w
  split at w
  · rename_i ds hi
    by_cases hl : ds.length < 16777216
    · rw [if_pos hl] at w
      obtain ⟨a, vs, e, hG, hS, hH, r⟩ := s.own i ds hi
      refine ⟨.ref a, e, .inl ⟨rfl, vs, .of hH⟩, ?_⟩
      refine h G B H S σ Δ _ s (w.bind.mono (fun d k v H' S' g rv _ => ?_) fun _ z => xw_up s z)
      have s' := s.grow g
      refine ⟨a, vs, v, rfl, rfl, g.hh.lst hH, lt_line (by rw [r.length]; exact hl), ?_⟩
      exact k _ S' σ (s'.put hi e ((RpL.mono g.ss r).app (.one rv)))
    · rw [if_neg hl] at w
      exact w.elim
  · exact w.elim
/-- xs.append(ys.pop(k)) -/
def mAppPop (i j : Nat) (a : Fd → Md Dt) : Fd → Md Out := fun Δ => match Δ[i]?, Δ[j]? with
  | some (.ow ds), some (.ow es) => if ds.length < 16777216 ∧ i ≠ j then (a Δ).bind fun d => match d with
    | .int k => if 0 ≤ k ∧ k < 16777216 then (match es[k.toNat]? with
      | some y => .ok (.nx ((Δ.set j (.ow (es.eraseIdx k.toNat))).set i (.ow (ds ++ [y]))))
      | none => .bad) else .bad
    | _ => .bad
    else .bad
  | _, _ => .bad
theorem seqIndex_nat {n k : Nat} (h : k < n) : seqIndex? (k : Int) n = some k := by
  have h1 : ¬ ((k : Int) < 0) := by omega
  have h2 : (decide (0 ≤ (k : Int)) && decide ((k : Int) < (n : Int))) = true := by
    rw [Bool.and_eq_true, decide_eq_true_eq, decide_eq_true_eq]
    omega
  unfold seqIndex?
  simp only [if_neg h1, h2, if_true, Int.toNat_natCast]
theorem ss_appPop (i j : Nat) (h : SndE W .t ta ma) : SndS W nw (tDrop (tBM W.K "list" rAppend (tVar i) (tCons (tBM W.K "list" rPopAt (tVar j) (tCons ta tNil)) tNil))) (mAppPop i j ma) := by
  intro G B H S σ Δ D s w
  unfold mAppPop at w
  split at w
  · rename_i ds es hi hj
    by_cases hl : ds.length < 16777216 ∧ i ≠ j
    · rw [if_pos hl] at w
      obtain ⟨a, vs, e, hG, hS, hH, r⟩ := s.own i ds hi
      obtain ⟨b, us, e2, hG2, hS2, hH2, r2⟩ := s.own j es hj
      refine ⟨.ref a, e, .inl ⟨rfl, vs, .of hH⟩, .ref b, e2, .inl ⟨rfl, us, .of hH2⟩, ?_⟩
      refine h G B H S σ Δ _ s (w.bind.mono (fun d k v H' S' g rv _ => ?_) fun _ z => xw_up s z)
      have s' := s.grow g
      cases d with
      | int z =>
        cases Rp.isInt rv
        by_cases hz : 0 ≤ z ∧ z < 16777216
        · simp only [if_pos hz] at k
          cases hy : es[z.toNat]? with
          | none =>
            rw [hy] at k
            exact k.elim
          | some y =>
            rw [hy] at k
            obtain ⟨x, hx, rx⟩ := r2.at hy
            have hlt : z.toNat < us.length := (List.getElem?_eq_some_iff.mp hx).1
            have hzn : ((z.toNat : Nat) : Int) = z := Int.toNat_of_nonneg hz.1
            have hne : a ≠ b := fun q => hl.2 (s.nd i j ds es a hi hj e (q ▸ e2))
            have s2 := s'.put hj e2 (RpL.mono g.ss (r2.erase z.toNat))
            have hi2 : (Δ.set j (.ow (es.eraseIdx z.toNat)))[i]? = some (.ow ds) := by
              rw [List.getElem?_set_ne (Ne.symm hl.2)]
              exact hi
            refine ⟨b, us, z, z.toNat, x, rfl, rfl, g.hh.lst hH2, by omega, by omega, ?_, hx, a, vs, x, rfl, rfl, ?_, lt_line (by rw [r.length]; exact hl.1), ?_⟩
            · have q := seqIndex_nat hlt
              rw [hzn] at q
              exact q
            · rw [upd_ne hne]
              exact g.hh.lst hH
            · exact k _ S' σ (s2.put hi2 e ((RpL.mono g.ss r).app (.one (Rp.mono g.ss rx))))
        · simp only [if_neg hz] at k
          exact k.elim
      | _ => exact k.elim
    · rw [if_neg hl] at w
      exact w.elim
  · exact w.elim
/-- xs[i] = e, xs the frame's own -/
def mSetI (i : Nat) (a b : Fd → Md Dt) : Fd → Md Out := fun Δ => (a Δ).bind fun d => match Δ[i]? with
  | some (.ow ds) => (b Δ).bind fun k => match k with
    | .int k => (match ixN ds.length k with
      | some j => .ok (.nx (Δ.set i (.ow (ds.set j d))))
      | none => .bad)
    | _ => .bad
  | _ => .bad
theorem ss_setI (i : Nat) (h : SndE W .s ta ma) (hb : SndE W .t tb mb) : SndS W nw (tAsg ta (gSub (tVar i) tb rSetL)) (mSetI i ma mb) := by
  intro G B H S σ Δ D s w
  refine h G B H S σ Δ _ s (w.bind.mono (fun d k v H1 S1 g rv _ => ?_) fun _ z => xw_up s z)
  have s1 := s.grow g
  revert k
  cases hi : Δ[i]? with
  | none => exact fun k => k.elim
  | some x =>
    cases x with
    | ow ds =>
      intro k
      obtain ⟨a, vs, e, hG, hS, hH, r⟩ := s1.own i ds hi
      refine ⟨.ref a, e, ?_⟩
      refine hb G B H1 S1 σ Δ _ s1 (k.bind.mono (fun z k2 y H2 S2 g2 ry _ => ?_) fun _ z => xw_up s1 z)
      cases z with
      | int z =>
        cases Rp.isInt ry
        cases hx : ixN ds.length z with
        | none =>
          simp only [hx] at k2
          exact k2.elim
        | some j =>
          simp only [hx] at k2
          refine ⟨a, vs, z, j, rfl, rfl, g2.hh.lst hH, by rw [r.length]; exact hx, ?_⟩
          exact k2 _ S2 σ ((s1.grow g2).put hi e (RpL.set (Rp.mono g2.ss rv) j (RpL.mono g2.ss r)))
      | _ => exact k2.elim
    | _ => exact fun k => k.elim
end
end Mr
namespace Mr
open PySem L2

/-! ### what is walked -/
/-- J goes over xs, all of it shared in S0 -/
structure Walks (K : PySem.W.Frag) (J : It) (xs : List Dt) (S0 : Hp) : Prop where
  goes : ∀ (i : Nat) (H : Hp), i < xs.length → Ex S0 H → J.go i H
  stops : ∀ H, Ex S0 H → J.stop xs.length H
  yields : ∀ (i : Nat) (H S : Hp) (x : V) (H' : Hp), i < xs.length → Ex S0 S → Ex S H → J.yld i H x H' → ∃ d S', xs[i]? = some d ∧ Gr H S H' S' ∧ Rp K S' x d
def SndI (W : Wo) (wi : TI) (mi : Fd → Md (List Dt)) : Prop := ∀ (G B H S : Hp) (σ : St) (Δ : Fd) (R : It → Hp → Prop), Slt W.K W.T G B H S σ Δ →
  Wp (mi Δ) (fun xs => ∀ J H' S', Gr H S H' S' → Walks W.K J xs S' → R J H') (XW W.mg W.E H) → wi σ H R
section
variable {W : Wo} {fl : Fl} {te : TE} {me : Fd → Md Dt} {ta : TA} {ma : Fd → Md (List Dt)} {K : PySem.W.Frag}
def dSeq : Dt → Md (List Dt)
  | .lst ds => .ok ds
  | .lsk ds => .ok ds
  | _ => .bad
def mItL (me : Fd → Md Dt) : Fd → Md (List Dt) := fun Δ => (me Δ).bind dSeq
theorem getE {α : Type} {l : List α} {i : Nat} (h : i < l.length) : ∃ x, l[i]? = some x := ⟨l[i], List.getElem?_eq_getElem h⟩
theorem walks_list {a : Addr} {vs : List V} {ds : List Dt} {S : Hp} (h : SqL K S a vs) (r : RpL K S vs ds) : Walks K (Itl K a) ds S := by
  refine ⟨fun i H hi e => ?_, fun H e => ⟨vs, e.sqL h, by rw [r.length]; exact Nat.le_refl _⟩, fun i H S1 x H' hi e1 e2 y => ?_⟩
  · obtain ⟨x, hx⟩ := getE (l := vs) (i := i) (by rw [r.length]; exact hi)
    exact ⟨vs, x, e.sqL h, hx⟩
  · obtain ⟨e, y⟩ := y
    subst e
    obtain ⟨d, hd, rd⟩ := r.get (y vs ((e1.trans e2).sqL h))
    exact ⟨d, S1, hd, Gr.refl e2, rd.mono e1⟩
theorem walks_tup {a : Addr} {vs : List V} {ds : List Dt} {S : Hp} (h : SqT K S a vs) (r : RpL K S vs ds) : Walks K (Itt K a) ds S := by
  refine ⟨fun i H hi e => ?_, fun H e => ⟨vs, e.sqT h, by rw [r.length]; exact Nat.le_refl _⟩, fun i H S1 x H' hi e1 e2 y => ?_⟩
  · obtain ⟨x, hx⟩ := getE (l := vs) (i := i) (by rw [r.length]; exact hi)
    exact ⟨vs, x, e.sqT h, hx⟩
  · obtain ⟨e, y⟩ := y
    subst e
    obtain ⟨d, hd, rd⟩ := r.get (y vs ((e1.trans e2).sqT h))
    exact ⟨d, S1, hd, Gr.refl e2, rd.mono e1⟩
theorem si_list (h : SndE W .s te me) : SndI W (iList W.K te) (mItL me) := by
  intro G B H S σ Δ R s w
  refine h G B H S σ Δ _ s (w.bind.mono (fun d k v H' S' g r _ => ?_) fun _ z => z)
  unfold dSeq at k
  split at k
  · cases r with
    | lst ha hr => exact ⟨_, rfl, ⟨_, .of (g.sh.lst ha)⟩, k _ H' S' g (walks_list (.of ha) hr)⟩
  · cases r with
    | lsk ha hr => exact ⟨_, rfl, ⟨_, g.sh.sqL ha⟩, k _ H' S' g (walks_list ha hr)⟩
  · exact k.elim
def dTpl : Dt → Md (List Dt)
  | .tup ds => .ok ds
  | .tpk ds => .ok ds
  | _ => .bad
def mItT (me : Fd → Md Dt) : Fd → Md (List Dt) := fun Δ => (me Δ).bind dTpl
theorem si_tup (h : SndE W .s te me) : SndI W (iTup W.K te) (mItT me) := by
  intro G B H S σ Δ R s w
  refine h G B H S σ Δ _ s (w.bind.mono (fun d k v H' S' g r _ => ?_) fun _ z => z)
  unfold dTpl at k
  split at k
  · cases r with
    | tup ha hr => exact ⟨_, rfl, ⟨_, .of (g.sh.tup ha)⟩, k _ H' S' g (walks_tup (.of ha) hr)⟩
  · cases r with
    | tpk ha hr => exact ⟨_, rfl, ⟨_, g.sh.sqT ha⟩, k _ H' S' g (walks_tup ha hr)⟩
  · exact k.elim
/-- lo, lo + 1, .. -/
def rng (lo : Int) (n : Nat) : List Dt := (List.range n).map fun (i : Nat) => Dt.int (lo + (i : Int))
theorem rng_get {lo : Int} {n i : Nat} (h : i < n) : (rng lo n)[i]? = some (.int (lo + (i : Int))) := by
  unfold rng
  rw [List.getElem?_map, List.getElem?_range h]
  rfl
theorem rng_len {lo : Int} {n : Nat} : (rng lo n).length = n := by
  unfold rng
  rw [List.length_map, List.length_range]
theorem walks_rng {lo : Int} {n : Nat} {S : Hp} : Walks K (Itr lo n) (rng lo n) S := by
  refine ⟨fun i H hi _ => ?_, fun H _ => ?_, fun i H S1 x H' hi e1 e2 y => ?_⟩
  · rw [rng_len] at hi
    exact hi
  · show n ≤ _
    rw [rng_len]
    exact Nat.le_refl _
  · rw [rng_len] at hi
    obtain ⟨e, y⟩ := y
    subst e y
    exact ⟨_, S1, rng_get hi, Gr.refl e2, .int _⟩
def smallI (i : Int) : Bool := decide (-(2 ^ 62) ≤ i) && decide (i < 2 ^ 62)
theorem smallI_ok {i : Int} (h : smallI i = true) : -(2 ^ 62) ≤ i ∧ i < 2 ^ 62 := by
  unfold smallI at h
  rw [Bool.and_eq_true, decide_eq_true_eq, decide_eq_true_eq] at h
  exact h
def mIt1 (ma : Fd → Md (List Dt)) : Fd → Md (List Dt) := fun Δ => (ma Δ).bind fun ds => match ds with
  | [.int j] => if smallI j = true then .ok (rng 0 j.toNat) else .bad
  | _ => .bad
theorem si_rng1 (h : SndA W .t ta ma) : SndI W (iRng1 ta) (mIt1 ma) := by
  intro G B H S σ Δ R s w
  refine h G B H S σ Δ _ s (w.bind.mono (fun ds k vs H' S' g r => ?_) fun _ z => z)
  split at k
  · rename_i j
    by_cases hj : smallI j = true
    · rw [if_pos hj] at k
      cases r with
      | cons r1 r2 =>
        cases r1
        cases r2
        exact ⟨j, rfl, (smallI_ok hj).1, (smallI_ok hj).2, k _ H' S' g walks_rng⟩
    · rw [if_neg hj] at k
      exact k.elim
  · exact k.elim
def mIt2 (ma : Fd → Md (List Dt)) : Fd → Md (List Dt) := fun Δ => (ma Δ).bind fun ds => match ds with
  | [.int i, .int j] => if smallI i = true ∧ smallI j = true then .ok (rng i (j - i).toNat) else .bad
  | _ => .bad
theorem si_rng2 (h : SndA W .t ta ma) : SndI W (iRng2 ta) (mIt2 ma) := by
  intro G B H S σ Δ R s w
  refine h G B H S σ Δ _ s (w.bind.mono (fun ds k vs H' S' g r => ?_) fun _ z => z)
  split at k
  · rename_i i j
    by_cases hj : smallI i = true ∧ smallI j = true
    · rw [if_pos hj] at k
      cases r with
      | cons r1 r2 =>
        cases r1
        cases r2 with
        | cons r3 r4 =>
          cases r3
          cases r4
          exact ⟨i, j, rfl, ⟨(smallI_ok hj.1).1, (smallI_ok hj.1).2, (smallI_ok hj.2).1, (smallI_ok hj.2).2⟩, k _ H' S' g walks_rng⟩
    · rw [if_neg hj] at k
      exact k.elim
  · exact k.elim
/-- enumerate(xs) -/
def enu : Nat → List Dt → List Dt
  | _, [] => []
  | k, x :: r => .tup [.int (k : Int), x] :: enu (k + 1) r
theorem enu_get : ∀ {xs : List Dt} {k i : Nat} {x : Dt}, xs[i]? = some x → (enu k xs)[i]? = some (.tup [.int ((k + i : Nat) : Int), x])
  | [], _, _, _, h => by simp at h
  | y :: r, k, 0, x, h => by
    cases h
    rfl
  | y :: r, k, i + 1, x, h => by
    show (enu (k + 1) r)[i]? = _
    rw [enu_get (xs := r) (k := k + 1) (i := i) (x := x) h]
    have e : k + 1 + i = k + (i + 1) := by omega
    rw [e]
theorem enu_len : ∀ {xs : List Dt} {k : Nat}, (enu k xs).length = xs.length
  | [], _ => rfl
  | _ :: r, k => congrArg (· + 1) (enu_len (xs := r) (k := k + 1))
theorem walks_enum {a : Addr} {vs : List V} {ds : List Dt} {S : Hp} (h : SqL K S a vs) (r : RpL K S vs ds) : Walks K (Ite K a) (enu 0 ds) S := by
  refine ⟨fun i H hi e => ?_, fun H e => ⟨vs, e.sqL h, by rw [enu_len, r.length]; exact Nat.le_refl _⟩, fun i H S1 x H' hi e1 e2 y => ?_⟩
  · rw [enu_len] at hi
    obtain ⟨x, hx⟩ := getE (l := vs) (i := i) (by rw [r.length]; exact hi)
    exact ⟨vs, x, e.sqL h, hx⟩
  · obtain ⟨p, v, h1, h2, h3, h4⟩ := y
    obtain ⟨d, hd, rd⟩ := r.get (h4 vs ((e1.trans e2).sqL h))
    subst h1 h3
    have g := Gr.new (o := .tup [.int (i : Int), v]) e2 h2
    refine ⟨_, _, enu_get hd, g, .tup upd_same (.cons ?_ (.cons ((rd.mono e1).mono g.ss) .nil))⟩
    rw [Nat.zero_add]
    exact .int _

/-! ### for -/
def mForGo (tg : Dt → Fd → Md Fd) (mb : Fd → Md Out) : List Dt → Fd → Md Out
  | [], Δ => .ok (.nx Δ)
  | x :: r, Δ => match tg x Δ with
    | .ok Δ1 => (mb Δ1).bind fun o => match o with
      | .nx Δ2 => mForGo tg mb r Δ2
      | .ct Δ2 => mForGo tg mb r Δ2
      | .bk Δ2 => .ok (.nx Δ2)
      | .rt d => .ok (.rt d)
    | _ => .bad
def mFor (mi : Fd → Md (List Dt)) (tg : Dt → Fd → Md Fd) (mb : Fd → Md Out) : Fd → Md Out := fun Δ => (mi Δ).bind fun xs => mForGo tg mb xs Δ
open Classical in
/-- the heap without the frame's own lists -/
noncomputable def bare (H : Hp) (σ : St) (Δ : Fd) : Hp := fun b => if ∃ (i : Nat) (ds : List Dt), Δ[i]? = some (.ow ds) ∧ σ[i]? = some (some (.ref b)) then none else H b
section
variable {T : List Addr} {G B H S H' S' : Hp} {σ σ' : St} {Δ Δ' : Fd}
theorem bare_own {i : Nat} {ds : List Dt} {a : Addr} (h1 : Δ[i]? = some (.ow ds)) (h2 : σ[i]? = some (some (.ref a))) : bare H σ Δ a = none := by
  unfold bare
  exact if_pos ⟨i, ds, h1, h2⟩
theorem bare_some {b : Addr} {o : HO} (h : bare H σ Δ b = some o) : H b = some o := by
  unfold bare at h
  by_cases c : ∃ (i : Nat) (ds : List Dt), Δ[i]? = some (.ow ds) ∧ σ[i]? = some (some (.ref b))
  · rw [if_pos c] at h
    cases h
  · rw [if_neg c] at h
    exact h
theorem bare_not {b : Addr} (h : ∀ (i : Nat) (ds : List Dt), Δ[i]? = some (.ow ds) → σ[i]? ≠ some (some (.ref b))) : bare H σ Δ b = H b := by
  unfold bare
  refine if_neg fun c => ?_
  obtain ⟨i, ds, h1, h2⟩ := c
  exact h i ds h1 h2
theorem bare_ex : Ex (bare H σ Δ) H := ⟨fun b o e _ => bare_some e, fun P ps e => ⟨ps, bare_some e, fun t => t⟩⟩
theorem Slt.bareG (s : Slt K T G B H S σ Δ) : Ex G (bare H σ Δ) := by
  have key : ∀ {b : Addr} {o : HO}, G b ≠ none → H b = some o → bare H σ Δ b = some o := fun {b o} hb e => by
    rw [bare_not fun i ds h1 h2 => ?_]
    · exact e
    · obtain ⟨a, vs, q, hG, _⟩ := s.own i ds h1
      rw [h2] at q
      cases q
      exact hb hG
  exact ⟨fun b o e n => key (by rw [e]; exact fun z => by cases z) (s.gh.same b o e n), fun P ps e => by
    obtain ⟨qs, h1, k1⟩ := s.gh.tabs P ps e
    exact ⟨qs, key (by rw [e]; exact fun z => by cases z) h1, k1⟩⟩
theorem Slt.bareS (s : Slt K T G B H S σ Δ) : Ex S (bare H σ Δ) := by
  have key : ∀ {b : Addr} {o : HO}, S b ≠ none → H b = some o → bare H σ Δ b = some o := fun {b o} hb e => by
    rw [bare_not fun i ds h1 h2 => ?_]
    · exact e
    · obtain ⟨a, vs, q, _, hS, _⟩ := s.own i ds h1
      rw [h2] at q
      cases q
      exact hb hS
  exact ⟨fun b o e n => key (by rw [e]; exact fun z => by cases z) (s.sh.same b o e n), fun P ps e => by
    obtain ⟨qs, h1, k1⟩ := s.sh.tabs P ps e
    exact ⟨qs, key (by rw [e]; exact fun z => by cases z) h1, k1⟩⟩
/-- the same state, told from here -/
theorem Slt.here (s : Slt K T G B H S σ Δ) : Slt K T (bare H σ Δ) S H S σ Δ :=
  ⟨s.len, bare_ex, s.bareS, Ex.refl S, s.sh, fun _ _ z => z, s.tb, s.shd, fun i ds h => by
    obtain ⟨a, vs, e, _, q⟩ := s.own i ds h
    exact ⟨a, vs, e, bare_own h e, q⟩, s.nd⟩
/-- and told again from the entry -/
theorem Slt.back (s : Slt K T G B H S σ Δ) (s' : Slt K T (bare H σ Δ) S H' S' σ' Δ') : Slt K T G B H' S' σ' Δ' :=
  ⟨s'.len, s.bareG.trans s'.gh, s.bg, s.bs.trans s'.bs, s'.sh, fun b hb z => s'.fr b (s.bareG.ne hb) (s.fr b hb z), s'.tb, s'.shd, fun i ds h => by
    obtain ⟨a, vs, e, hG, q⟩ := s'.own i ds h
    exact ⟨a, vs, e, s.bareG.free hG, q⟩, s'.nd⟩
theorem Slt.backRt {nw : Bool} {v : V} {d : Dt} (s : Slt K T G B H S σ Δ) (h : Rt K nw (bare H σ Δ) S H' v d) : Rt K nw G B H' v d := by
  obtain ⟨S2, h1, h2, h3, h4, h5⟩ := h
  refine ⟨S2, s.bareG.trans h1, s.bs.trans h2, h3, fun b hb z => h4 b (s.bareG.ne hb) (s.fr b hb z), ?_⟩
  cases nw with
  | true =>
    obtain ⟨h6, p, e, h7⟩ := h5
    exact ⟨h6, p, e, s.bareG.free h7⟩
  | false => exact h5
end
theorem XW.down {mg : Str → Option Value} {E : XK} {G H : Hp} {c : Str} (x : XW mg E G c) (e : Ex G H) : XW mg E H c := x.grow e
theorem ss_for {nw : Bool} {wi : TI} {mi : Fd → Md (List Dt)} {ws : List Nat} {g : TG} {tg : Dt → Fd → Md Fd} {tb : TS} {mb : Fd → Md Out} (hi : SndI W wi mi) (hg : SndG W.K W.T ws g tg) (hb : SndS W nw tb mb) : SndS W nw (tFor wi g tb) (mFor mi tg mb) := by
  intro G B H S σ Δ D s w
  refine hi G B H S σ Δ _ s (w.bind.mono (fun xs k J H0 S0 g0 wk => ?_) fun _ z => xw_up s z)
  have s0 := s.grow g0
  refine for_it (n := xs.length) (G := fun H => Ex S0 H) (Y := fun i H x H' => Ex S0 H ∧ J.yld i H x H') ⟨fun i H hi h => wk.goes i H hi h, fun H h => wk.stops H h, fun i H x H' hi h y => ⟨h, y⟩⟩
    (fun i σ1 H1 => ∃ Δ1 S1, Slt W.K W.T G B H1 S1 σ1 Δ1 ∧ Ex S0 S1 ∧ Wp (mForGo tg mb (xs.drop i) Δ1) (OutOk W nw G B D) (XW W.mg W.E G)) ⟨Δ, S0, s0, Ex.refl S0, k⟩
    (fun i σ1 H1 hi ⟨Δ1, S1, s1, e1, _⟩ => e1.trans s1.sh) (fun i x σ1 H1 H2 hlt ⟨Δ1, S1, s1, e1, k1⟩ ⟨_, y⟩ => ?_) (fun σ1 H1 ⟨Δ1, S1, s1, e1, k1⟩ => ?_)
  · obtain ⟨d, S2, hd, g2, rd⟩ := wk.yields i H1 S1 x H2 hlt e1 s1.sh y
    have hdrop : xs.drop i = d :: xs.drop (i + 1) := by
      obtain ⟨h1, h2⟩ := List.getElem?_eq_some_iff.mp hd
      rw [← h2]
      exact List.drop_eq_getElem_cons h1
    rw [hdrop] at k1
    have s2 := s1.grow g2
    unfold mForGo at k1
    refine hg G B H2 S2 σ1 Δ1 x d _ s2 rd ?_
    revert k1
    cases tg d Δ1 with
    | exc c => exact fun k1 => k1.elim
    | bad => exact fun k1 => k1.elim
    | ok Δ2 =>
      intro k1 σ2 s3 _
      refine hb (bare H2 σ2 Δ2) S2 H2 S2 σ2 Δ2 _ s3.here (k1.bind.mono (fun o q => ?_) fun _ z => z.grow s3.bareG)
      cases o with
      | nx Δ3 => exact fun H3 S3 σ3 s4 => ⟨Δ3, S3, s3.back s4, (e1.trans g2.ss).trans s4.bs, q⟩
      | ct Δ3 => exact fun H3 S3 σ3 s4 => ⟨Δ3, S3, s3.back s4, (e1.trans g2.ss).trans s4.bs, q⟩
      | bk Δ3 => exact fun H3 S3 σ3 s4 => q H3 S3 σ3 (s3.back s4)
      | rt d => exact fun v H3 r => q v H3 (s3.backRt r)
  · rw [List.drop_length] at k1
    exact k1 H1 S1 σ1 s1

/-! ### list comprehensions -/
def wipeD (Δ : Fd) : List Nat → Fd
  | [] => Δ
  | v :: vs => (wipeD Δ vs).set v .un
section
variable {T : List Addr} {G B H S H' S' : Hp} {σ σ' : St} {Δ Δ' : Fd}
theorem wipeD_len : ∀ {vs : List Nat}, (wipeD Δ vs).length = Δ.length
  | [] => rfl
  | v :: vs => by
    show ((wipeD Δ vs).set v .un).length = _
    rw [List.length_set, wipeD_len]
theorem wipeD_at {i : Nat} {x : Sd} : ∀ {vs : List Nat}, (wipeD Δ vs)[i]? = some x → x ≠ .un → Δ[i]? = some x ∧ i ∉ vs
  | [], h, _ => ⟨h, by simp⟩
  | v :: vs, h, n => by
    have h : ((wipeD Δ vs).set v .un)[i]? = some x := h
    by_cases hi : v = i
    · subst hi
      by_cases hl : v < (wipeD Δ vs).length
      · rw [List.getElem?_set_self hl] at h
        cases h
        exact absurd rfl n
      · rw [List.getElem?_eq_none (by rw [List.length_set]; omega)] at h
        cases h
    · rw [List.getElem?_set_ne hi] at h
      obtain ⟨h1, h2⟩ := wipeD_at h n
      exact ⟨h1, by simp only [List.mem_cons, not_or]; exact ⟨fun e => hi e.symm, h2⟩⟩
theorem Slt.wipe (s : Slt K T G B H S σ Δ) (vs : List Nat) : Slt K T G B H S (wipe σ vs) (wipeD Δ vs) := by
  refine ⟨by rw [wipe_length, wipeD_len]; exact s.len, s.gh, s.bg, s.bs, s.sh, s.fr, s.tb, fun i d h => ?_, fun i ds h => ?_, fun i j ds es a h1 h2 h3 h4 => ?_⟩
  · obtain ⟨h1, h2⟩ := wipeD_at h (fun z => by cases z)
    obtain ⟨v, e, r⟩ := s.shd i d h1
    exact ⟨v, by rw [wipe_out h2]; exact e, r⟩
  · obtain ⟨h1, h2⟩ := wipeD_at h (fun z => by cases z)
    obtain ⟨a, us, e, q⟩ := s.own i ds h1
    exact ⟨a, us, by rw [wipe_out h2]; exact e, q⟩
  · obtain ⟨k1, _⟩ := wipeD_at h1 (fun z => by cases z)
    obtain ⟨k2, _⟩ := wipeD_at h2 (fun z => by cases z)
    exact s.nd i j ds es a k1 k2 (wipe_some h3).1 (wipe_some h4).1
/-- one more list of the frame's own, behind the slots -/
theorem Slt.more (s : Slt K T G B H S σ Δ) {p : Addr} (hp : H p = none) : Slt K T G B (upd H p (.lst [])) S (σ ++ [some (.ref p)]) (Δ ++ [.ow []]) := by
  have g : Gr H S (upd H p (.lst [])) S := Gr.newO s.sh hp
  have s' := s.grow g
  have hlen : σ.length = Δ.length := s.len
  have at1 : ∀ {i : Nat} {x : Sd}, (Δ ++ [Sd.ow []])[i]? = some x → (Δ[i]? = some x ∧ (σ ++ [some (V.ref p)])[i]? = σ[i]?) ∨ (x = .ow [] ∧ i = Δ.length ∧ (σ ++ [some (V.ref p)])[i]? = some (some (.ref p))) := fun {i x} h => by
    by_cases hi : i < Δ.length
    · rw [List.getElem?_append_left hi] at h
      exact .inl ⟨h, List.getElem?_append_left (by omega)⟩
    · rw [List.getElem?_append_right (by omega)] at h
      have h0 : i - Δ.length = 0 := by
        have := (List.getElem?_eq_some_iff.mp h).1
        simp only [List.length_cons, List.length_nil] at this
        omega
      rw [h0] at h
      cases h
      refine .inr ⟨rfl, by omega, ?_⟩
      rw [List.getElem?_append_right (by omega)]
      have h1 : i - σ.length = 0 := by omega
      rw [h1]
      rfl
  refine ⟨by rw [List.length_append, List.length_append, hlen]; rfl, s'.gh, s'.bg, s'.bs, s'.sh, s'.fr, s'.tb, fun i d h => ?_, fun i ds h => ?_, fun i j ds es a h1 h2 h3 h4 => ?_⟩
  · rcases at1 h with ⟨h1, h2⟩ | ⟨h1, _⟩
    · rw [h2]
      exact s'.shd i d h1
    · cases h1
  · rcases at1 h with ⟨h1, h2⟩ | ⟨h1, _, h2⟩
    · rw [h2]
      exact s'.own i ds h1
    · cases h1
      exact ⟨p, [], h2, s.gh.free hp, s.sh.free hp, upd_same, .nil⟩
  · have old : ∀ {k : Nat} {fs : List Dt}, Δ[k]? = some (.ow fs) → σ[k]? = some (some (.ref p)) → False := fun {k fs} q1 q2 => by
      obtain ⟨b, us, e, _, _, h5, _⟩ := s.own k fs q1
      rw [q2] at e
      cases e
      rw [hp] at h5
      cases h5
    rcases at1 h1 with ⟨a1, b1⟩ | ⟨a1, c1, b1⟩
    · rcases at1 h2 with ⟨a2, b2⟩ | ⟨a2, c2, b2⟩
      · exact s.nd i j ds es a a1 a2 (b1 ▸ h3) (b2 ▸ h4)
      · rw [b2] at h4
        cases h4
        exact (old a1 (b1 ▸ h3)).elim
    · rcases at1 h2 with ⟨a2, b2⟩ | ⟨a2, c2, b2⟩
      · rw [b1] at h3
        cases h3
        exact (old a2 (b2 ▸ h4)).elim
      · omega
theorem Slt.less {x : Option V} {y : Sd} (s : Slt K T G B H S (σ ++ [x]) (Δ ++ [y])) : Slt K T G B H S σ Δ := by
  have hlen : σ.length = Δ.length := by
    have := s.len
    rw [List.length_append, List.length_append] at this
    simpa using this
  have at1 : ∀ {i : Nat} {z : Sd}, Δ[i]? = some z → (Δ ++ [y])[i]? = some z ∧ (σ ++ [x])[i]? = σ[i]? := fun {i z} h => by
    have hi := (List.getElem?_eq_some_iff.mp h).1
    exact ⟨by rw [List.getElem?_append_left hi]; exact h, List.getElem?_append_left (by omega)⟩
  refine ⟨hlen, s.gh, s.bg, s.bs, s.sh, s.fr, s.tb, fun i d h => ?_, fun i ds h => ?_, fun i j ds es a h1 h2 h3 h4 => ?_⟩
  · obtain ⟨k1, k2⟩ := at1 h
    rw [← k2]
    exact s.shd i d k1
  · obtain ⟨k1, k2⟩ := at1 h
    rw [← k2]
    exact s.own i ds k1
  · obtain ⟨k1, k2⟩ := at1 h1
    obtain ⟨k3, k4⟩ := at1 h2
    exact s.nd i j ds es a k1 k3 (k2 ▸ h3) (k4 ▸ h4)
end
def mLcGo (tg : Dt → Fd → Md Fd) (mt : Fd → Md Bool) (me : Fd → Md Dt) (Δ : Fd) : List Dt → Md (List Dt)
  | [] => .ok []
  | x :: r => match tg x Δ with
    | .ok Δ1 => (mt Δ1).bind fun b => if b = true then (me Δ1).bind fun d => (mLcGo tg mt me Δ r).bind fun ds => .ok (d :: ds) else mLcGo tg mt me Δ r
    | _ => .bad
/-- no error leaves a comprehension's block -/
def calm {α : Type} : Md α → Md α
  | .exc _ => .bad
  | m => m
def mLc (mi : Fd → Md (List Dt)) (tg : Dt → Fd → Md Fd) (mt : Fd → Md Bool) (me : Fd → Md Dt) (vs : List Nat) : Fd → Md Dt := fun Δ => (mi Δ).bind fun xs =>
  if xs.length < 16777216 then (calm (mLcGo tg mt me (wipeD Δ vs) xs)).bind fun ds => .ok (.lst ds) else .bad
def mYes : Fd → Md Bool := fun _ => .ok true
theorem snd_yes : SndT W tYes mYes := fun G B H S σ Δ Q s w => w H S (Gr.refl s.sh)
theorem calm_w {α : Type} {m : Md α} {p : α → Prop} {ex : Str → Prop} (h : Wp (calm m) p ex) : Wp m p fun _ => False := by
  cases m <;> exact h
theorem snd_lc {wi : TI} {mi : Fd → Md (List Dt)} {ws : List Nat} {g : TG} {tg : Dt → Fd → Md Fd} {tt : TT} {mt : Fd → Md Bool} {vs : List Nat} (hi : SndI W wi mi) (hg : SndG W.K W.T ws g tg) (hw : ∀ i ∈ ws, i ∈ vs) (ht : SndT { W with E := E0 } tt mt) (he : SndE { W with E := E0 } .s te me) :
    SndE W .n (tLc wi g tt te vs) (mLc mi tg mt me vs) := by
  intro G B H S σ Δ Q s w
  refine hi G B H S σ Δ _ s (w.bind.mono (fun xs k J H0 S0 g0 wk D hD => ?_) fun _ z => z)
  by_cases hx : xs.length < 16777216
  · rw [if_pos hx] at k
    have s0 := s.grow g0
    have k0 := calm_w k.bind
    have hDH : H D = none := g0.hh.free hD
    refine lc_it (n := xs.length) (G := fun H => Ex S0 H) (Y := fun i H x H' => Ex S0 H ∧ J.yld i H x H') ⟨fun i H hi h => wk.goes i H hi h, fun H h => wk.stops H h, fun i H x H' hi h y => ⟨h, y⟩⟩
      (fun i H1 => ∃ S1 ds, Slt W.K W.T G B H1 S1 (wipe σ vs ++ [some (.ref D)]) (wipeD Δ vs ++ [.ow ds]) ∧ Ex S0 S1 ∧ Ex H H1 ∧ (∀ b, H b ≠ none → S b = none → S1 b = none) ∧ ds.length ≤ i ∧
        Wp (mLcGo tg mt me (wipeD Δ vs) (xs.drop i)) (fun es => ∀ v H' S', Gr H S H' S' → Hd W.K .n H' S' v (.lst (ds ++ es)) → Nw .n H v → Q v H') fun _ => False)
      ⟨S0, [], (s0.wipe vs).more hD, Ex.refl S0, g0.hh.trans (Ex.new hD), g0.fr, Nat.le_refl _, k0⟩ (fun i H1 hi ⟨S1, ds, s1, e1, _⟩ => e1.trans s1.sh) (fun i x H1 H2 hlt ⟨S1, ds, s1, e1, eH, fr, hlen, k1⟩ ⟨_, y⟩ => ?_) (fun H1 ⟨S1, ds, s1, e1, eH, fr, hlen, k1⟩ => ?_)
    · obtain ⟨d, S2, hd, g2, rd⟩ := wk.yields i H1 S1 x H2 hlt e1 s1.sh y
      have hdrop : xs.drop i = d :: xs.drop (i + 1) := by
        obtain ⟨h1, h2⟩ := List.getElem?_eq_some_iff.mp hd
        rw [← h2]
        exact List.drop_eq_getElem_cons h1
      rw [hdrop] at k1
      have s2 := s1.grow g2
      have fr2 : ∀ b, H b ≠ none → S b = none → S2 b = none := fun b hb z => g2.fr b (eH.ne hb) (fr b hb z)
      unfold mLcGo at k1
      refine hg G B H2 S2 (wipe σ vs) (wipeD Δ vs) x d _ s2.less rd ?_
      revert k1
      cases tg d (wipeD Δ vs) with
      | exc c => exact fun k1 => k1.elim
      | bad => exact fun k1 => k1.elim
      | ok Δ2 =>
        intro k1 σ2 s3 hwipe
        refine ⟨(hwipe vs hw).trans ?_, ?_⟩
        · have idem : ∀ us : List Nat, (∀ i ∈ us, i ∈ vs) → wipe (wipe σ us) vs = wipe σ vs := by
            intro us
            induction us with
            | nil => intro _; rfl
            | cons u r ih =>
              intro h
              show wipe ((wipe σ r).set u none) vs = _
              rw [wipe_set (h u List.mem_cons_self)]
              exact ih fun i hi => h i (List.mem_cons_of_mem _ hi)
          exact idem vs fun i hi => hi
        · refine ht G B H2 S2 σ2 Δ2 _ s3 (k1.bind.mono (fun b q H3 S3 g3 => ?_) fun _ z => z.elim)
          have s4 := s2.grow g3
          cases b with
          | false => exact ⟨S3, ds, s4, (e1.trans g2.ss).trans g3.ss, (eH.trans g2.hh).trans g3.hh, fun b hb z => g3.fr b ((eH.trans g2.hh).ne hb) (fr2 b hb z), Nat.le_succ_of_le hlen, q⟩
          | true =>
            have q : Wp ((me Δ2).bind fun d => (mLcGo tg mt me (wipeD Δ vs) (xs.drop (i + 1))).bind fun ds => .ok (d :: ds)) _ _ := q
            refine he G B H3 S3 σ2 Δ2 _ (s3.grow g3) (q.bind.mono (fun dv q2 v H4 S4 g4 rv _ => ?_) fun _ z => False.elim z)
            have s5 := s4.grow g4
            have hlD : (wipe σ vs).length = (wipeD Δ vs).length := by rw [wipe_length, wipeD_len]; exact s.len
            have hiD : (wipeD Δ vs ++ [Sd.ow ds])[(wipeD Δ vs).length]? = some (.ow ds) := by
              rw [List.getElem?_append_right (Nat.le_refl _), Nat.sub_self]
              rfl
            have hiS : (wipe σ vs ++ [some (V.ref D)])[(wipeD Δ vs).length]? = some (some (.ref D)) := by
              rw [← hlD, List.getElem?_append_right (Nat.le_refl _), Nat.sub_self]
              rfl
            obtain ⟨a, acc, ea, hG, hS, hH, r⟩ := s5.own _ _ hiD
            rw [hiS] at ea
            cases ea
            have s6 := s5.put hiD hiS (r.app (.one rv))
            have eset : (wipeD Δ vs ++ [Sd.ow ds]).set (wipeD Δ vs).length (.ow (ds ++ [dv])) = wipeD Δ vs ++ [Sd.ow (ds ++ [dv])] := by
              rw [List.set_append_right _ _ (Nat.le_refl _), Nat.sub_self]
              rfl
            rw [eset] at s6
            refine ⟨acc, hH, lt_line (by rw [r.length]; omega), S4, ds ++ [dv], s6, ((e1.trans g2.ss).trans g3.ss).trans g4.ss, (((eH.trans g2.hh).trans g3.hh).trans g4.hh).mut hDH, fun b hb z => g4.fr b (((eH.trans g2.hh).trans g3.hh).ne hb) (g3.fr b ((eH.trans g2.hh).ne hb) (fr2 b hb z)), ?_, ?_⟩
            · rw [List.length_append]
              exact Nat.succ_le_succ hlen
            · refine q2.bind.mono (fun es q3 v2 H' S' g' r' n' => ?_) fun _ z => z
              have e2 : ds ++ [dv] ++ es = ds ++ dv :: es := by rw [List.append_assoc]; rfl
              rw [e2] at r'
              exact q3 v2 H' S' g' r' n'
    · rw [List.drop_length] at k1
      have hiD : (wipeD Δ vs ++ [Sd.ow ds])[(wipeD Δ vs).length]? = some (.ow ds) := by
        rw [List.getElem?_append_right (Nat.le_refl _), Nat.sub_self]
        rfl
      have hlD : (wipe σ vs).length = (wipeD Δ vs).length := by rw [wipe_length, wipeD_len]; exact s.len
      have hiS : (wipe σ vs ++ [some (V.ref D)])[(wipeD Δ vs).length]? = some (some (.ref D)) := by
        rw [← hlD, List.getElem?_append_right (Nat.le_refl _), Nat.sub_self]
        rfl
      obtain ⟨a, acc, ea, hG, hS, hH, r⟩ := s1.own _ _ hiD
      rw [hiS] at ea
      cases ea
      have k2 : ∀ v H' S', Gr H S H' S' → Hd W.K .n H' S' v (.lst (ds ++ [])) → Nw .n H v → Q v H' := k1
      rw [List.append_nil] at k2
      exact k2 (.ref D) H1 S1 ⟨eH, g0.ss.trans e1, s1.sh, fr⟩ ⟨D, acc, ds, rfl, rfl, hH, hS, r⟩ ⟨D, rfl, hDH⟩
  · rw [if_neg hx] at k
    exact k.elim
end
end Mr
namespace Mr
open PySem L2

/-! ### what stands around a piece of code: room for calls, where errors go -/
structure Cok (X : Cx) (k : Nat) (E : XK) : Prop where
  calm : X.calm = true
  room : Room k X.A
  pas : Passes (L2N.CX X.prog X.w) X E
  own : PassesOwn (model X.prog X.w) X.A X.env X.xe
  nd : X.N.Nodup
  tk : L2N.Takes X (fun cls d _ H => E cls d H)
theorem takes_none {X : Cx} {W : WX} {E : Value → Shared → Prop} (h : ∀ c d σ H, ¬ W c d σ H) : L2N.Takes (X.wish E) W := fun u s' ⟨a, B, sI, pins, σ, H, cls, d, e, I, nb, up, sky, na, os, ag, w⟩ => absurd w (h _ _ _ _)
theorem passes_none {X : Cx} : Passes (L2N.CX X.prog X.w) X E0 := fun pins σ H s e s' I ⟨a, B, H', cls, d, _, _, _, _, _, _, _, w⟩ => w.elim
theorem cok_blk {X : Cx} {k : Nat} {E : XK} (c : Cok X k E) (s : Shared) (H : Hp) (scope : Scope) (C : Addr) (cl : List (Str × Addr)) (fp : List Addr) : Cok (X.blk s H scope (compEnvC scope cl C X.env) fp) k E0 :=
  ⟨c.calm, c.room, passes_none, PassesOwn.never, c.nd, fun u s' ⟨a, B, sI, pins, σ, H, cls, d, e, I, nb, up, sky, na, os, ag, w⟩ => w.elim⟩

/-! ### a piece of code, its reading, its mirror -/
structure DE (X : Cx) (T : List Addr) (E : XK) (fl : Fl) (e : Expr) (te : TE) (me : Fd → Md Dt) : Prop where
  pe : PE X e te
  sn : SndE ⟨X.K, T, X.mg, E⟩ fl te me
structure DT (X : Cx) (T : List Addr) (E : XK) (e : Expr) (tt : TT) (mt : Fd → Md Bool) : Prop where
  pt : PT X e tt
  sn : SndT ⟨X.K, T, X.mg, E⟩ tt mt
structure DW (X : Cx) (T : List Addr) (E : XK) (e : Expr) (tt : TT) (mt : Fd → Md Bool) : Prop where
  pw : PW X e tt
  sn : SndT ⟨X.K, T, X.mg, E⟩ tt mt
structure DA (X : Cx) (T : List Addr) (E : XK) (fl : Fl) (es : List Expr) (ta : TA) (ma : Fd → Md (List Dt)) : Prop where
  pa : PA X es ta
  sn : SndA ⟨X.K, T, X.mg, E⟩ fl ta ma
structure DG (X : Cx) (T : List Addr) (ws : List Nat) (e : Expr) (g : TG) (tg : Dt → Fd → Md Fd) : Prop where
  pg : PG X e g
  sn : SndG X.K T ws g tg
structure DGs (X : Cx) (T : List Addr) (ws : List Nat) (es : List Expr) (g : TGs) (tg : List Dt → Fd → Md Fd) : Prop where
  pg : PGs X es g
  sn : SndGs X.K T ws g tg
structure DI (X : Cx) (T : List Addr) (E : XK) (tg e : Expr) (wi : TI) (mi : Fd → Md (List Dt)) : Prop where
  pi : PI X tg e wi
  sn : SndI ⟨X.K, T, X.mg, E⟩ wi mi
structure DS (X : Cx) (T : List Addr) (E : XK) (nw : Bool) (st : Stmt) (ts : TS) (ms : Fd → Md Out) : Prop where
  ps : PS X st ts
  sn : SndS ⟨X.K, T, X.mg, E⟩ nw ts ms
structure DB (X : Cx) (T : List Addr) (E : XK) (nw : Bool) (st : List Stmt) (ts : TS) (ms : Fd → Md Out) : Prop where
  ps : PSs X st ts
  sn : SndS ⟨X.K, T, X.mg, E⟩ nw ts ms

section
variable {X : Cx} {T : List Addr} {E : XK} {fl fa fb fc : Fl} {nw : Bool} {a b c e tg : Expr} {es : List Expr} {ta tb tc te : TE} {ma mb mc me : Fd → Md Dt} {pos p p2 : Pos} {k : Nat} {tt tu : TT} {mt mu : Fd → Md Bool} {tas : TA} {mas : Fd → Md (List Dt)} {K : PySem.W.Frag}
theorem DE.t (h : DE X T E fl e te me) : DE X T E .t e te me := ⟨h.pe, h.sn.toT⟩
theorem DE.give (h : DE X T E .n e te me) : DE X T E .s e te me := ⟨h.pe, h.sn.give⟩
theorem DE.nl (h : DE X T E .n e te me) : DE X T E .l e te me := ⟨h.pe, h.sn.nl⟩
theorem d_give (h : DE X T E .n e te me) : DE X T E .s e te me := h.give
/-! names, constants -/
theorem dv (i : Nat) {x : Str} (hN : X.N[i]? = some x := by rfl) (hv : Vis X.env.scope x := by first | exact Or.inl rfl | exact Or.inr (Or.inl rfl) | exact Or.inr (Or.inr rfl)) (hd : (x == ("__debug__" : Str)) = false := by decide) (hcd : (x == ("__classdict__" : Str)) = false := by decide) :
    DE X T E .s (.Name x pos) (tVar i) (mVar i) := ⟨pe_var hN hv hd hcd, snd_var i⟩
theorem dO (i : Nat) {x : Str} (hN : X.N[i]? = some x := by rfl) (hv : Vis X.env.scope x := by first | exact Or.inl rfl | exact Or.inr (Or.inl rfl) | exact Or.inr (Or.inr rfl)) (hd : (x == ("__debug__" : Str)) = false := by decide) (hcd : (x == ("__classdict__" : Str)) = false := by decide) :
    DE X T E .l (.Name x pos) (tVar i) (mOwn i) := ⟨pe_var hN hv hd hcd, snd_own i⟩
theorem dAny (i : Nat) {x : Str} (hN : X.N[i]? = some x := by rfl) (hv : Vis X.env.scope x := by first | exact Or.inl rfl | exact Or.inr (Or.inl rfl) | exact Or.inr (Or.inr rfl)) (hd : (x == ("__debug__" : Str)) = false := by decide) (hcd : (x == ("__classdict__" : Str)) = false := by decide) :
    DE X T E .t (.Name x pos) (tVar i) (mAny i) := ⟨pe_var hN hv hd hcd, snd_any i⟩
theorem d_int {i : Int} {j : Nat} : DE X T E .s (.Constant (.int i) j pos) (tC (.int i)) (mC (.int i)) := ⟨pe_int, snd_c fun _ => .int i⟩
theorem d_str {x : Str} {j : Nat} : DE X T E .s (.Constant (.str x) j pos) (tC (.str x)) (mC (.str x)) := ⟨pe_str, snd_c fun _ => .str x⟩
theorem d_bl {q : Bool} {j : Nat} : DE X T E .s (.Constant (.bool q) j pos) (tC (.bl q)) (mC (.bl q)) := ⟨pe_bl, snd_c fun _ => .bl q⟩
theorem d_non {j : Nat} : DE X T E .s (.Constant .none j pos) (tC .non) (mC .non) := ⟨pe_non, snd_c fun _ => .non⟩
/-- a built-in class as a value -/
theorem d_ty {x : Str} {n : String} (hm : X.mg x = none) (hv : bootBuiltins x = some (.type n)) (hg : Gl X x := by rfl) (hn : x ≠ "__name__" := by decide) (hd : (x == ("__debug__" : Str)) = false := by decide) : DE X T E .s (.Name x pos) (tC (.ty n)) (mC (.ty n)) :=
  ⟨pe_bltn hg hm hv rfl hn hd, snd_c fun _ => .ty n⟩
/-- a number, a text of the module's top -/
theorem d_glI {x : Str} {i : Int} {t : Tok} (hm : X.mg x = some (.int i t)) (hg : Gl X x := by rfl) (hd : (x == ("__debug__" : Str)) = false := by decide) : DE X T E .s (.Name x pos) (tC (.int i)) (mC (.int i)) :=
  ⟨pe_glob hg hm ⟨t, rfl⟩ hd, snd_c fun _ => .int i⟩
/-- {} -/
theorem d_dic : DE X T E .s (.Dict [] [] pos) (fun _ H Q => ∀ p, H p = none → Q (.ref p) (upd H p (.dK []))) (mC .dic) := ⟨pe_dnewK, fun G B H S σ Δ Q s w p hp => by
  have g := Gr.new (o := .dK []) s.sh hp
  exact w _ _ _ g (Rp.dic upd_same) trivial⟩
/-! operators on whole numbers -/
theorem d_add (ha : DE X T E fa a ta ma) (hb : DE X T E fb b tb mb) : DE X T E .s (.BinOp a .Add b pos) (tOp (rI0 fun i j => .int (i + j)) ta tb) (mBin (dI fun i j => .int (i + j)) ma mb) :=
  ⟨pe_op op_add ha.pe hb.pe, snd_op ha.sn.toT hb.sn.toT (sr_I0 fun i j H => .int _) dI_nx⟩
theorem d_sub (ha : DE X T E fa a ta ma) (hb : DE X T E fb b tb mb) : DE X T E .s (.BinOp a .Sub b pos) (tOp (rI0 fun i j => .int (i - j)) ta tb) (mBin (dI fun i j => .int (i - j)) ma mb) :=
  ⟨pe_op op_sub ha.pe hb.pe, snd_op ha.sn.toT hb.sn.toT (sr_I0 fun i j H => .int _) dI_nx⟩
def mulOk (i j : Int) : Bool := decide (i.natAbs.log2 + j.natAbs.log2 < 134000000)
theorem mulOk_ok (i j : Int) (h : mulOk i j = true) : PySem.IntMulOk i j := by
  have q : i.natAbs.log2 + j.natAbs.log2 < 134000000 := of_decide_eq_true h
  have one : ∀ x : Int, Builtin.Int.intBits x ≤ x.natAbs.log2 + 1 := fun x => by
    unfold Builtin.Int.intBits
    split <;> omega
  have k1 := one i
  have k2 := one j
  have line : bitsLine = 134217728 := by decide
  unfold PySem.IntMulOk
  intro z
  have z1 := (Bool.and_eq_true_iff.mp z).2
  have z3 := z1
  unfold Builtin.Int.intTooBig at z3
  have z2 := of_decide_eq_true z3
  omega
theorem op_mulB : OpR X (binaryOp .Mult) (rI PySem.IntMulOk fun i j => .int (i * j)) := opI fun _ _ _ _ _ _ _ hc q => PyProof.Rows.mul_int q hc
theorem d_mul (ha : DE X T E fa a ta ma) (hb : DE X T E fb b tb mb) : DE X T E .s (.BinOp a .Mult b pos) (tOp (rI PySem.IntMulOk fun i j => .int (i * j)) ta tb) (mBin (dIC mulOk fun i j => .int (i * j)) ma mb) :=
  ⟨pe_op op_mulB ha.pe hb.pe, snd_op ha.sn.toT hb.sn.toT (sr_I mulOk_ok fun i j H => .int _) dIC_nx⟩
def posOk (_ j : Int) : Bool := decide (0 < j)
theorem d_mod (ha : DE X T E fa a ta ma) (hb : DE X T E fb b tb mb) : DE X T E .s (.BinOp a .Mod b pos) (tOp (rI (fun _ j => 0 < j) fun i j => .int (i % j)) ta tb) (mBin (dIC posOk fun i j => .int (i % j)) ma mb) :=
  ⟨pe_op op_mod ha.pe hb.pe, snd_op ha.sn.toT hb.sn.toT (sr_I (fun i j h => of_decide_eq_true h) fun i j H => .int _) dIC_nx⟩
def divOk (_ j : Int) : Bool := decide (0 < j) && decide (j < 1073741824)
theorem d_fdiv (ha : DE X T E fa a ta ma) (hb : DE X T E fb b tb mb) : DE X T E .s (.BinOp a .FloorDiv b pos) (tOp (rI CDiv fun i j => .int (i / j)) ta tb) (mBin (dIC divOk fun i j => .int (i / j)) ma mb) :=
  ⟨pe_op op_fdiv ha.pe hb.pe, snd_op ha.sn.toT hb.sn.toT (sr_I (fun i j h => by
    unfold divOk at h
    rw [Bool.and_eq_true, decide_eq_true_eq, decide_eq_true_eq] at h
    exact h) fun i j H => .int _) dIC_nx⟩
def powOk (i j : Int) : Bool := decide (0 ≤ j) && decide (j ≤ 1000000) && decide (i.natAbs < 2 ^ 64)
theorem d_pow (ha : DE X T E fa a ta ma) (hb : DE X T E fb b tb mb) : DE X T E .s (.BinOp a .Pow b pos) (tOp (rI CPow fun i j => .int (i ^ j.toNat)) ta tb) (mBin (dIC powOk fun i j => .int (i ^ j.toNat)) ma mb) :=
  ⟨pe_op op_pow ha.pe hb.pe, snd_op ha.sn.toT hb.sn.toT (sr_I (fun i j h => by
    unfold powOk at h
    rw [Bool.and_eq_true, Bool.and_eq_true, decide_eq_true_eq, decide_eq_true_eq, decide_eq_true_eq] at h
    exact ⟨h.1.1, h.1.2, h.2⟩) fun i j H => .int _) dIC_nx⟩
def mNeg (ma : Fd → Md Dt) : Fd → Md Dt := fun Δ => (ma Δ).bind fun d => match d with
  | .int i => .ok (.int (-i))
  | _ => .bad
theorem d_neg (ha : DE X T E fa a ta ma) : DE X T E .s (.UnaryOp .USub a pos) (tUn (rU fun i => .int (-i)) ta) (mNeg ma) := ⟨pe_un un_neg ha.pe, fun G B H S σ Δ Q s w =>
  ha.sn.toT G B H S σ Δ _ s (w.bind.mono (fun d q v H1 S1 g r _ => by
    cases d with
    | int i =>
      cases Rp.isInt r
      exact ⟨i, rfl, q _ H1 S1 g (.int _) trivial⟩
    | _ => exact q.elim) fun _ z => z)⟩
/-! comparisons -/
def dLt : Dt → Dt → Md Dt := dI fun i j => .bl (decide (i < j))
def dLe : Dt → Dt → Md Dt := dI fun i j => .bl (decide (i ≤ j))
def dGt : Dt → Dt → Md Dt := dI fun i j => .bl (decide (j < i))
def dGe : Dt → Dt → Md Dt := dI fun i j => .bl (decide (j ≤ i))
mutual
def toP : Dt → Option PyData
  | .non => some .none
  | .bl b => some (.bool b)
  | .int i => some (.int i)
  | .str x => some (.str x)
  | .lst xs => (toPs xs).map .list
  | .tup xs => (toPs xs).map .tuple
  | .lsk xs => (toPs xs).map .list
  | .tpk xs => (toPs xs).map .tuple
  | .ty _ => none
  | .dic => none
  | .adr _ => none
  | .ins _ _ _ => none
def toPs : List Dt → Option (List PyData)
  | [] => some []
  | x :: r => match toP x, toPs r with
    | some d, some ds => some (d :: ds)
    | _, _ => none
end
section
variable {H : Hp}
mutual
theorem rp_dp : ∀ {v : V} {d : Dt} {q : PyData}, Rp K H v d → toP d = some q → Dp K H v q
  | _, _, _, .non, e => by cases e; exact .non
  | _, _, _, .bl b, e => by cases e; exact .bl b
  | _, _, _, .int i, e => by cases e; exact .int i
  | _, _, _, .str x, e => by cases e; exact .str x
  | _, _, _, .ty n, e => by cases e
  | _, _, _, .lst h r, e => by
    unfold toP at e
    obtain ⟨qs, e1, e2⟩ := Option.map_eq_some_iff.mp e
    subst e2
    exact .lst (.of h) (rps_dps r e1)
  | _, _, _, .tup h r, e => by
    unfold toP at e
    obtain ⟨qs, e1, e2⟩ := Option.map_eq_some_iff.mp e
    subst e2
    exact .tup (.of h) (rps_dps r e1)
  | _, _, _, .lsk h r, e => by
    unfold toP at e
    obtain ⟨qs, e1, e2⟩ := Option.map_eq_some_iff.mp e
    subst e2
    exact .lst h (rps_dps r e1)
  | _, _, _, .tpk h r, e => by
    unfold toP at e
    obtain ⟨qs, e1, e2⟩ := Option.map_eq_some_iff.mp e
    subst e2
    exact .tup h (rps_dps r e1)
  | _, _, _, .dic h, e => by
    unfold toP at e
    cases e
  | _, _, _, .adr a, e => by
    unfold toP at e
    cases e
  | _, _, _, .ins h r, e => by
    unfold toP at e
    cases e
theorem rps_dps : ∀ {vs : List V} {ds : List Dt} {qs : List PyData}, RpL K H vs ds → toPs ds = some qs → DpAll K H vs qs
  | _, _, _, .nil, e => by cases e; exact .nil
  | _, _, qs, .cons (d := d) (ds := ds) h r, e => by
    unfold toPs at e
    cases h1 : toP d with
    | none =>
      rw [h1] at e
      cases e
    | some q =>
      cases h2 : toPs ds with
      | none =>
        rw [h1, h2] at e
        cases e
      | some rs =>
        rw [h1, h2] at e
        cases e
        exact .cons (rp_dp h h1) (rps_dps r h2)
end
end
def dEqv (a b : Dt) : Md Bool := match toP a, toP b with
  | some x, some y => if SeqAt.shaped x = true ∧ SeqAt.shaped y = true then .ok (PyData.eqv x y) else .bad
  | _, _ => .bad
def dEq (a b : Dt) : Md Dt := (dEqv a b).bind fun k => .ok (.bl k)
def dNe (a b : Dt) : Md Dt := (dEqv a b).bind fun k => .ok (.bl (!k))
theorem dEqv_ok {a b : Dt} {p : Bool → Prop} {ex : Str → Prop} (h : Wp (dEqv a b) p ex) : ∃ x y, toP a = some x ∧ toP b = some y ∧ SeqAt.shaped x = true ∧ SeqAt.shaped y = true ∧ p (PyData.eqv x y) := by
  unfold dEqv at h
  split at h
  · rename_i x y h1 h2
    by_cases hs : SeqAt.shaped x = true ∧ SeqAt.shaped y = true
    · rw [if_pos hs] at h
      exact ⟨x, y, h1, h2, hs.1, hs.2, h⟩
    · rw [if_neg hs] at h
      exact h.elim
  · exact h.elim
theorem dEqv_nx (a b : Dt) (c : Str) : dEqv a b ≠ .exc c := by
  unfold dEqv
  split
  · split <;> exact fun z => by cases z
  · exact fun z => by cases z
theorem bind_nx {α β : Type} {m : Md α} {f : α → Md β} (h1 : ∀ c, m ≠ .exc c) (h2 : ∀ a c, f a ≠ .exc c) : ∀ c, m.bind f ≠ .exc c := by
  intro c z
  cases m with
  | ok a => exact h2 a c z
  | exc d => exact h1 d rfl
  | bad => cases z
theorem sr_eq : SndR K .t .t .s (rEqD K) dEq := by
  intro H S x y a b Q e ha hb w
  obtain ⟨x', y', h1, h2, s1, s2, q⟩ := dEqv_ok (Wp.bind (show Wp ((dEqv a b).bind fun k => Md.ok (Dt.bl k)) _ _ from w))
  exact ⟨x', y', rp_dp ha h1, rp_dp hb h2, s1, s2, q _ H S (Gr.refl e) (.bl _) trivial⟩
theorem sr_ne : SndR K .t .t .s (rNeD K) dNe := by
  intro H S x y a b Q e ha hb w
  obtain ⟨x', y', h1, h2, s1, s2, q⟩ := dEqv_ok (Wp.bind (show Wp ((dEqv a b).bind fun k => Md.ok (Dt.bl (!k))) _ _ from w))
  exact ⟨x', y', rp_dp ha h1, rp_dp hb h2, s1, s2, q _ H S (Gr.refl e) (.bl _) trivial⟩
/-- x in xs, deep -/
def dInv (a b : Dt) : Md Bool := match toP a, b with
  | some x, .lst ds => (match toPs ds with
    | some ys => if SeqAt.shaped x = true ∧ SeqAt.shaped (.list ys) = true then .ok (ys.any fun z => PyData.eqv z x) else .bad
    | none => .bad)
  | _, _ => .bad
def dIn (a b : Dt) : Md Dt := (dInv a b).bind fun k => .ok (.bl k)
def dNotIn (a b : Dt) : Md Dt := (dInv a b).bind fun k => .ok (.bl (!k))
theorem dInv_ok {a b : Dt} {p : Bool → Prop} {ex : Str → Prop} (h : Wp (dInv a b) p ex) : ∃ x ds ys, toP a = some x ∧ b = .lst ds ∧ toPs ds = some ys ∧ SeqAt.shaped x = true ∧ SeqAt.shaped (.list ys) = true ∧ p (ys.any fun z => PyData.eqv z x) := by
  unfold dInv at h
  split at h
  · rename_i x ds h1
    split at h
    · rename_i ys h2
      by_cases hs : SeqAt.shaped x = true ∧ SeqAt.shaped (.list ys) = true
      · rw [if_pos hs] at h
        exact ⟨x, ds, ys, h1, rfl, h2, hs.1, hs.2, h⟩
      · rw [if_neg hs] at h
        exact h.elim
    · exact h.elim
  · exact h.elim
theorem dInv_nx (a b : Dt) (c : Str) : dInv a b ≠ .exc c := by
  unfold dInv
  split
  · split
    · split <;> exact fun z => by cases z
    · exact fun z => by cases z
  · exact fun z => by cases z
theorem sr_in : SndR K .t .t .s (rInD K) dIn := by
  intro H S x y a b Q e ha hb w
  obtain ⟨x', ds, ys, h1, h2, h3, s1, s2, q⟩ := dInv_ok (Wp.bind (show Wp ((dInv a b).bind fun k => Md.ok (Dt.bl k)) _ _ from w))
  subst h2
  refine ⟨x', ys, rp_dp ha h1, rp_dp hb (by unfold toP; rw [h3]; rfl), s1, s2, q _ H S (Gr.refl e) (.bl _) trivial⟩
theorem sr_notIn : SndR K .t .t .s (rNotInD K) dNotIn := by
  intro H S x y a b Q e ha hb w
  obtain ⟨x', ds, ys, h1, h2, h3, s1, s2, q⟩ := dInv_ok (Wp.bind (show Wp ((dInv a b).bind fun k => Md.ok (Dt.bl (!k))) _ _ from w))
  subst h2
  refine ⟨x', ys, rp_dp ha h1, rp_dp hb (by unfold toP; rw [h3]; rfl), s1, s2, q _ H S (Gr.refl e) (.bl _) trivial⟩
/-- is, is not between built-in classes -/
def dIs : Dt → Dt → Md Dt
  | .ty m, .ty n => .ok (.bl (decide (m = n)))
  | _, _ => .bad
def dIsNot : Dt → Dt → Md Dt
  | .ty m, .ty n => .ok (.bl (!decide (m = n)))
  | _, _ => .bad
def rIsTy2 : R2 := fun x y H Q => ∃ m n, x = .ty m ∧ y = .ty n ∧ Q (.bl (decide (m = n))) H
def rIsNotTy2 : R2 := fun x y H Q => ∃ m n, x = .ty m ∧ y = .ty n ∧ Q (.bl (!decide (m = n))) H
theorem sr_is : SndR K .t .t .s rIsTy2 dIs := by
  intro H S x y a b Q e ha hb w
  unfold dIs at w
  split at w
  · cases ha
    cases hb
    exact ⟨_, _, rfl, rfl, w _ H S (Gr.refl e) (.bl _) trivial⟩
  · exact w.elim
theorem sr_isNot : SndR K .t .t .s rIsNotTy2 dIsNot := by
  intro H S x y a b Q e ha hb w
  unfold dIsNot at w
  split at w
  · cases ha
    cases hb
    exact ⟨_, _, rfl, rfl, w _ H S (Gr.refl e) (.bl _) trivial⟩
  · exact w.elim
theorem nx2 {f : Dt → Dt → Md Dt} (h : ∀ a b, (∃ d, f a b = .ok d) ∨ f a b = .bad) : ∀ a b c, f a b ≠ .exc c := by
  intro a b c z
  rcases h a b with ⟨d, e⟩ | e <;> (rw [e] at z; cases z)
/-- a comparison by its rule, as a value and as a test -/
structure CmpOk (X : Cx) (op : CmpOp) (r : R2) (f : Dt → Dt → Md Dt) : Prop where
  o : OpR X (compareOp op) r
  s : SndR X.K .t .t .s r f
  n : ∀ a b c, f a b ≠ .exc c
theorem c_lt : CmpOk X .Lt (rI0 fun i j => .bl (decide (i < j))) dLt := ⟨op_lt, sr_I0 fun _ _ _ => .bl _, dI_nx⟩
theorem c_le : CmpOk X .LtE (rI0 fun i j => .bl (decide (i ≤ j))) dLe := ⟨op_le, sr_I0 fun _ _ _ => .bl _, dI_nx⟩
theorem c_gt : CmpOk X .Gt (rI0 fun i j => .bl (decide (j < i))) dGt := ⟨op_gt, sr_I0 fun _ _ _ => .bl _, dI_nx⟩
theorem c_ge : CmpOk X .GtE (rI0 fun i j => .bl (decide (j ≤ i))) dGe := ⟨op_ge, sr_I0 fun _ _ _ => .bl _, dI_nx⟩
theorem c_eq {K0 : PySem.W.Frag} (c : Cok X k E) (hK : X.K = K0 := by rfl) : CmpOk X .Eq (rEqD K0) dEq := by
  subst hK
  exact ⟨op_eqD c.room.units, sr_eq, fun a b => bind_nx (dEqv_nx a b) fun _ _ z => by cases z⟩
theorem c_ne {K0 : PySem.W.Frag} (c : Cok X k E) (hK : X.K = K0 := by rfl) : CmpOk X .NotEq (rNeD K0) dNe := by
  subst hK
  exact ⟨op_neD c.room.units, sr_ne, fun a b => bind_nx (dEqv_nx a b) fun _ _ z => by cases z⟩
theorem un65 {A : Around} (r : Room k A) : A.units + 65 < cLine := by have := r.un; omega
theorem c_in {K0 : PySem.W.Frag} (c : Cok X k E) (hK : X.K = K0 := by rfl) : CmpOk X .In (rInD K0) dIn := by
  subst hK
  exact ⟨op_inD (un65 c.room), sr_in, fun a b => bind_nx (dInv_nx a b) fun _ _ z => by cases z⟩
theorem c_notIn {K0 : PySem.W.Frag} (c : Cok X k E) (hK : X.K = K0 := by rfl) : CmpOk X .NotIn (rNotInD K0) dNotIn := by
  subst hK
  exact ⟨op_notInD (un65 c.room), sr_notIn, fun a b => bind_nx (dInv_nx a b) fun _ _ z => by cases z⟩
theorem c_is : CmpOk X .Is rIsTy2 dIs := ⟨op_isTy, sr_is, by intro a b c; unfold dIs; split <;> exact fun z => by cases z⟩
theorem c_isNot : CmpOk X .IsNot rIsNotTy2 dIsNot := ⟨op_isNotTy, sr_isNot, by intro a b c; unfold dIsNot; split <;> exact fun z => by cases z⟩
theorem d_cmp {op : CmpOp} {r : R2} {f : Dt → Dt → Md Dt} (h : CmpOk X op r f) (ha : DE X T E fa a ta ma) (hb : DE X T E fb b tb mb) (hm : behindInMarks op b = false := by first | exact nomark _ | rfl) : DE X T E .s (.Compare a [op] [b] pos) (tOp r ta tb) (mBin f ma mb) :=
  ⟨pe_cmpR h.o ha.pe hb.pe hm, snd_op ha.sn.toT hb.sn.toT h.s h.n⟩
theorem t_cmp {op : CmpOp} {r : R2} {f : Dt → Dt → Md Dt} (h : CmpOk X op r f) (ha : DE X T E fa a ta ma) (hb : DE X T E fb b tb mb) (hm : behindInMarks op b = false := by first | exact nomark _ | rfl) : DT X T E (.Compare a [op] [b] pos) (tTest (tOp r ta tb)) (mT (mBin f ma mb)) :=
  ⟨pt_cmpR h.o ha.pe hb.pe hm, snd_test (SndE.toT (snd_op ha.sn.toT hb.sn.toT h.s h.n))⟩
/-- a < b < c -/
def mChn (f g : Dt → Dt → Md Dt) (ma mb mc : Fd → Md Dt) : Fd → Md Dt := fun Δ => (ma Δ).bind fun x => (mb Δ).bind fun y => (f x y).bind fun z => match z with
  | .bl q => if q = true then (mc Δ).bind fun u => g y u else .ok (.bl false)
  | _ => .bad
theorem snd_chain {W : Wo} {r r' : R2} {f g : Dt → Dt → Md Dt} (ha : SndE W .t ta ma) (hb : SndE W .s tb mb) (hc : SndE W .t tc mc) (h1 : SndR W.K .t .t .s r f) (n1 : ∀ a b c, f a b ≠ .exc c) (h2 : SndR W.K .t .t .s r' g) (n2 : ∀ a b c, g a b ≠ .exc c) :
    SndE W .s (tChain r r' ta tb tc) (mChn f g ma mb mc) := by
  intro G B H S σ Δ Q s w
  refine ha G B H S σ Δ _ s (w.bind.mono (fun a q x H1 S1 g1 r1 _ => ?_) fun _ z => z)
  refine hb G B H1 S1 σ Δ _ (s.grow g1) (q.bind.mono (fun b q2 y H2 S2 g2 r2 _ => ?_) fun _ z => z.grow g1.hh)
  refine h1 H2 S2 x y a b _ g2.sh (r1.grow g2) (r2.toT g2.sh) ?_
  have q3 := q2.bind
  cases hf : f a b with
  | exc c => exact absurd hf (n1 a b c)
  | bad =>
    rw [hf] at q3
    exact q3
  | ok z =>
    rw [hf] at q3
    intro v H3 S3 g3 r3 _
    have gg := (g1.trans g2).trans g3
    revert q3
    cases z with
    | bl t =>
      intro q3
      cases r3
      refine ⟨t, rfl, ?_⟩
      cases t with
      | false => exact q3 _ H3 S3 gg (.bl false) trivial
      | true =>
        refine hc G B H3 S3 σ Δ _ (s.grow gg) (Wp.mono (Wp.bind q3) (fun c q4 u H4 S4 g4 r4 _ => ?_) fun _ z => z.grow gg.hh)
        refine h2 H4 S4 y u b c Q g4.sh (Rp.mono (g3.hh.trans g4.hh) (r2.toT g2.sh)) r4 ?_
        cases hg : g b c with
        | exc c' => exact absurd hg (n2 b c c')
        | bad =>
          rw [hg] at q4
          exact q4
        | ok d =>
          rw [hg] at q4
          exact fun v H5 S5 g5 r5 n5 => q4 v H5 S5 ((gg.trans g4).trans g5) r5 trivial
    | _ => exact fun q3 => q3.elim
theorem d_chain {op op' : CmpOp} {r r' : R2} {f g : Dt → Dt → Md Dt} (h1 : CmpOk X op r f) (h2 : CmpOk X op' r' g) (ha : DE X T E fa a ta ma) (hb : DE X T E .s b tb mb) (hc : DE X T E fc c tc mc) (hm : lastMarks [op, op'] [b, c] = false := by with_unfolding_all rfl) :
    DE X T E .s (.Compare a [op, op'] [b, c] pos) (tChain r r' ta tb tc) (mChn f g ma mb mc) := ⟨pe_chain h1.o h2.o ha.pe hb.pe hc.pe hm, snd_chain ha.sn.toT hb.sn hc.sn.toT h1.s h1.n h2.s h2.n⟩
theorem t_chain {op op' : CmpOp} {r r' : R2} {f g : Dt → Dt → Md Dt} (h1 : CmpOk X op r f) (h2 : CmpOk X op' r' g) (ha : DE X T E fa a ta ma) (hb : DE X T E .s b tb mb) (hc : DE X T E fc c tc mc) (hm : lastMarks [op, op'] [b, c] = false := by with_unfolding_all rfl) :
    DT X T E (.Compare a [op, op'] [b, c] pos) (tTest (tChain r r' ta tb tc)) (mT (mChn f g ma mb mc)) := ⟨pt_chain h1.o h2.o ha.pe hb.pe hc.pe hm, snd_test (SndE.toT (snd_chain ha.sn.toT hb.sn hc.sn.toT h1.s h1.n h2.s h2.n))⟩
/-! tests -/
theorem t_val (h : DE X T E fl e te me) (he : ∀ whole, isTrue e X.env whole = (do let v ← whole; standAt e.pos; holding [v] (truthy v)) := by intro _; rfl) : DT X T E e (tB te) (mT me) := ⟨pt_val h.pe he, snd_B h.sn.toT⟩
theorem w_and1 (h : DT X T E a tt mt) : DW X T E (.BoolOp .And [a] pos) tt mt := ⟨pw_and1 h.pt, h.sn⟩
theorem w_or1 (h : DT X T E a tt mt) : DW X T E (.BoolOp .Or [a] pos) tt mt := ⟨pw_or1 h.pt, h.sn⟩
theorem w_and {rest : List Expr} (h : DT X T E a tt mt) (h2 : DW X T E (.BoolOp .And (b :: rest) pos) tu mu) : DW X T E (.BoolOp .And (a :: b :: rest) pos) (tAnd tt tu) (mAnd mt mu) := ⟨pw_and h.pt h2.pw, snd_and h.sn h2.sn⟩
theorem w_or {rest : List Expr} (h : DT X T E a tt mt) (h2 : DW X T E (.BoolOp .Or (b :: rest) pos) tu mu) : DW X T E (.BoolOp .Or (a :: b :: rest) pos) (tOr tt tu) (mOr mt mu) := ⟨pw_or h.pt h2.pw, snd_or h.sn h2.sn⟩
theorem w_t (h : DW X T E e tt mt) : DT X T E e tt mt := ⟨h.pw.pt, h.sn⟩
theorem DW.t (h : DW X T E e tt mt) : DT X T E e tt mt := ⟨h.pw.pt, h.sn⟩
theorem t_not (h : DT X T E a tt mt) : DT X T E (.UnaryOp .Not a pos) (tNot tt) (mNot mt) := ⟨pt_not h.pt, snd_not h.sn⟩
/-! truth values as values -/
theorem d_one {op : BoolOp} (h : DE X T E .s a ta ma) : DE X T E .s (.BoolOp op [a] pos) ta ma := ⟨pe_one h.pe, h.sn⟩
theorem d_and {rest : List Expr} (ha : DE X T E fa a ta ma) (hb : DE X T E .s (.BoolOp .And (b :: rest) pos) tb mb) : DE X T E .s (.BoolOp .And (a :: b :: rest) pos) (tAndV ta tb) (mAndV ma mb) := ⟨pe_and ha.pe hb.pe, snd_andV ha.sn.toT hb.sn⟩
theorem d_or {rest : List Expr} (ha : DE X T E fa a ta ma) (hb : DE X T E .s (.BoolOp .Or (b :: rest) pos) tb mb) : DE X T E .s (.BoolOp .Or (a :: b :: rest) pos) (tOrV ta tb) (mOrV ma mb) := ⟨pe_or ha.pe hb.pe, snd_orV ha.sn.toT hb.sn⟩
theorem d_not (ha : DE X T E fa a ta ma) : DE X T E .s (.UnaryOp .Not a pos) (tNotV ta) (mNotV ma) := ⟨pe_not ha.pe, snd_notV ha.sn.toT⟩
theorem d_ifE (ht : DT X T E e tt mt) (ha : DE X T E fl a ta ma) (hb : DE X T E fl b tb mb) : DE X T E fl (.IfExp e a b pos) (tIf tt ta tb) (mIfE mt ma mb) := ⟨pe_ifExp ht.pt ha.pe hb.pe, snd_ifE ht.sn ha.sn hb.sn⟩
/-! arguments, displays -/
theorem a_nil : DA X T E fl [] tNil mNil := ⟨pa_nil, sa_nil⟩
theorem a_s (ha : DE X T E .s e te me) (hr : DA X T E .s es tas mas) (hs : starEach (e :: es) X.env = (false, eval e X.env) :: starEach es X.env := by rfl) : DA X T E .s (e :: es) (tCons te tas) (mCons me mas) := ⟨pa_cons ha.pe hr.pa hs, sa_conss ha.sn hr.sn⟩
theorem a_t (ha : DE X T E fa e te me) (hr : DA X T E .t es tas mas) (hs : starEach (e :: es) X.env = (false, eval e X.env) :: starEach es X.env := by rfl) : DA X T E .t (e :: es) (tCons te tas) (mCons me mas) := ⟨pa_cons ha.pe hr.pa hs, sa_const ha.sn.toT hr.sn⟩
theorem d_tup {x1 : Nat} (h : DA X T E .s es tas mas) : DE X T E .s (.Tuple es x1 pos) (tTup tas) (mTup mas) := ⟨pe_tup h.pa, snd_tup h.sn⟩
theorem d_lst (h : DA X T E .s es tas mas) : DE X T E .n (.List es pos) (tLst tas) (mLst mas) := ⟨pe_lst h.pa, snd_lst h.sn⟩
end
end Mr
namespace Mr
open PySem L2

/-! ### lists of ints, of truths, of pairs -/
def toInts : List Dt → Option (List Int)
  | [] => some []
  | .int i :: r => (toInts r).map (i :: ·)
  | _ => none
def toBls : List Dt → Option (List Bool)
  | [] => some []
  | .bl b :: r => (toBls r).map (b :: ·)
  | _ => none
def toPairs : List Dt → Option (List (Int × Int))
  | [] => some []
  | .tup [.int i, .int j] :: r => (toPairs r).map ((i, j) :: ·)
  | _ => none
section
variable {K : PySem.W.Frag} {H S H' S' : Hp}
theorem rp_ints : ∀ {vs : List V} {ds : List Dt} {ns : List Int}, RpL K H vs ds → toInts ds = some ns → vs = ns.map V.int ∧ ds = ns.map Dt.int
  | _, _, _, .nil, e => by cases e; exact ⟨rfl, rfl⟩
  | _, _, ns, .cons (d := d) h r, e => by
    cases d with
    | int i =>
      obtain ⟨ms, e1, e2⟩ := Option.map_eq_some_iff.mp (show (toInts _).map (i :: ·) = some ns from e)
      obtain ⟨q1, q2⟩ := rp_ints r e1
      cases h
      rw [← e2, q1, q2]
      exact ⟨rfl, rfl⟩
    | _ => cases e
theorem rp_bls : ∀ {vs : List V} {ds : List Dt} {bs : List Bool}, RpL K H vs ds → toBls ds = some bs → vs = bs.map V.bl
  | _, _, _, .nil, e => by cases e; rfl
  | _, _, ns, .cons (d := d) h r, e => by
    cases d with
    | bl i =>
      obtain ⟨ms, e1, e2⟩ := Option.map_eq_some_iff.mp (show (toBls _).map (i :: ·) = some ns from e)
      cases h
      rw [← e2, rp_bls r e1]
      rfl
    | _ => cases e
theorem rp_of_ints : ∀ ns : List Int, RpL K H (ns.map V.int) (ns.map Dt.int)
  | [] => .nil
  | i :: r => .cons (.int i) (rp_of_ints r)
theorem toInts_map : ∀ ns : List Int, toInts (ns.map Dt.int) = some ns
  | [] => rfl
  | i :: r => by
    show (toInts (r.map Dt.int)).map (i :: ·) = _
    rw [toInts_map r]
    rfl
theorem toBls_map : ∀ bs : List Bool, toBls (bs.map Dt.bl) = some bs
  | [] => rfl
  | i :: r => by
    show (toBls (r.map Dt.bl)).map (i :: ·) = _
    rw [toBls_map r]
    rfl
theorem toPairs_map : ∀ ps : List (Int × Int), toPairs (ps.map fun p => .tup [.int p.1, .int p.2]) = some ps
  | [] => rfl
  | i :: r => by
    show (toPairs (r.map fun p => .tup [.int p.1, .int p.2])).map ((i.1, i.2) :: ·) = _
    rw [toPairs_map r]
    rfl
/-- which pair a value is: read off the data at its place -/
theorem rp_pairs : ∀ {vs : List V} {ds : List Dt} {ps : List (Int × Int)}, RpL K H vs ds → toPairs ds = some ps → Paired (fun v p => ∃ t, v = V.ref t ∧ H t = some (.tup [.int p.1, .int p.2])) vs ps ∧ ds = ps.map fun p => .tup [.int p.1, .int p.2]
  | _, _, _, .nil, e => by cases e; exact ⟨.nil, rfl⟩
  | _, _, ps, .cons (d := d) (ds := ds) h r, e => by
    unfold toPairs at e
    split at e
    · rename_i e0
      cases e0
    · rename_i i j r' e0
      cases e0
      obtain ⟨ms, e1, e2⟩ := Option.map_eq_some_iff.mp e
      obtain ⟨q1, q2⟩ := rp_pairs r e1
      cases h with
      | tup ha hr =>
        cases hr with
        | cons h1 hr =>
          cases hr with
          | cons h2 hr =>
            cases hr
            cases h1
            cases h2
            subst e2
            exact ⟨.cons ⟨_, rfl, ha⟩ q1, by rw [q2]; rfl⟩
    · cases e
/-! ### sorting -/
def sortI (ns : List Int) : List Int := ns.mergeSort fun a b => decide (a ≤ b)
theorem sortI_of {ns ms : List Int} (hp : ms.Perm ns) (hs : ms.Pairwise (· ≤ ·)) : ms = sortI ns := by
  have h2 : (sortI ns).Pairwise (· ≤ ·) := (List.pairwise_mergeSort (le := fun a b => decide (a ≤ b)) (fun a b c h1 h2 => decide_eq_true (Int.le_trans (of_decide_eq_true h1) (of_decide_eq_true h2)))
    (fun a b => by rcases Int.le_total a b with h | h <;> simp [h]) ns).imp fun h => of_decide_eq_true h
  exact List.Perm.eq_of_pairwise (le := (· ≤ ·)) (fun a b _ _ h1 h2 => Int.le_antisymm h1 h2) hs h2 (hp.trans (List.mergeSort_perm ns _).symm)
def leP (p q : Int × Int) : Bool := !SrtO.lexB q p
def sortP (ps : List (Int × Int)) : List (Int × Int) := ps.mergeSort leP
theorem leP_iff {p q : Int × Int} : leP p q = true ↔ p.1 < q.1 ∨ (p.1 = q.1 ∧ p.2 ≤ q.2) := by
  unfold leP
  rw [Bool.not_eq_true', SrtO.lexB_no]
  omega
theorem sortP_of {ps qs : List (Int × Int)} (hp : qs.Perm ps) (hs : qs.Pairwise fun a b => leP a b = true) : qs = sortP ps := by
  have h2 : (sortP ps).Pairwise fun a b => leP a b = true := List.pairwise_mergeSort (le := leP) (fun a b c h1 h2 => by
    rw [leP_iff] at h1 h2 ⊢
    omega) (fun a b => by
    rw [Bool.or_eq_true, leP_iff, leP_iff]
    omega) ps
  refine List.Perm.eq_of_pairwise (le := fun a b => leP a b = true) (fun a b _ _ h1 h2 => ?_) hs h2 (hp.trans (List.mergeSort_perm ps _).symm)
  rw [leP_iff] at h1 h2
  exact Prod.ext (by omega) (by omega)

/-! ### answers that come from a list's items -/
/-- a list that isn't only read at once: its place, its items shared -/
theorem Hd.lst {fl : Fl} {v : V} {ds : List Dt} (h : Hd K fl H S v (.lst ds)) (hf : fl ≠ .t) (e : Ex S H) : ∃ p vs, v = .ref p ∧ H p = some (.lst vs) ∧ RpL K S vs ds := by
  cases fl with
  | t => exact absurd rfl hf
  | s =>
    cases h with
    | lst ha r => exact ⟨_, _, rfl, e.lst ha, r⟩
  | n =>
    obtain ⟨p, vs, es, e1, e2, e3, _, r⟩ := h
    cases e2
    exact ⟨p, vs, e1, e3, r⟩
  | l =>
    obtain ⟨p, vs, es, e1, e2, e3, r⟩ := h
    cases e2
    exact ⟨p, vs, e1, e3, r⟩
theorem Hd.tup {fl : Fl} {v : V} {ds : List Dt} (h : Hd K fl H S v (.tup ds)) (hf : fl ≠ .t) (e : Ex S H) : ∃ p vs, v = .ref p ∧ H p = some (.tup vs) ∧ RpL K S vs ds := by
  cases fl with
  | t => exact absurd rfl hf
  | s =>
    cases h with
    | tup ha r => exact ⟨_, _, rfl, e.tup ha, r⟩
  | n =>
    obtain ⟨p, vs, es, e1, e2, _⟩ := h
    cases e2
  | l =>
    obtain ⟨p, vs, es, e1, e2, _⟩ := h
    cases e2
theorem Hd.lsk {fl : Fl} {v : V} {ds : List Dt} (h : Hd K fl H S v (.lsk ds)) (hf : fl ≠ .t) (e : Ex S H) : ∃ p vs, v = .ref p ∧ SqL K H p vs ∧ RpL K S vs ds := by
  cases fl with
  | t => exact absurd rfl hf
  | s =>
    cases h with
    | lsk ha r => exact ⟨_, _, rfl, e.sqL ha, r⟩
  | n =>
    obtain ⟨p, vs, es, e1, e2, _⟩ := h
    cases e2
  | l =>
    obtain ⟨p, vs, es, e1, e2, _⟩ := h
    cases e2
theorem Hd.tpk {fl : Fl} {v : V} {ds : List Dt} (h : Hd K fl H S v (.tpk ds)) (hf : fl ≠ .t) (e : Ex S H) : ∃ p vs, v = .ref p ∧ SqT K H p vs ∧ RpL K S vs ds := by
  cases fl with
  | t => exact absurd rfl hf
  | s =>
    cases h with
    | tpk ha r => exact ⟨_, _, rfl, e.sqT ha, r⟩
  | n =>
    obtain ⟨p, vs, es, e1, e2, _⟩ := h
    cases e2
  | l =>
    obtain ⟨p, vs, es, e1, e2, _⟩ := h
    cases e2
theorem RpL.atI {vs : List V} {ds : List Dt} {i : Int} {d : Dt} (r : RpL K H vs ds) (h : atI ds i = some d) : ∃ v, L2.atI vs i = some v ∧ Rp K H v d := by
  unfold L2.atI at h ⊢
  rw [r.length]
  cases q : ixN ds.length i with
  | none =>
    rw [q] at h
    cases h
  | some j =>
    rw [q] at h
    exact r.at h
/-- a new list is laid -/
theorem new_lst {fl : Fl} {Q : VK} {ds : List Dt} (e : Ex S H) {vs : List V} (r : RpL K S vs ds) (k : ∀ v H' S', Gr H S H' S' → Hd K .n H' S' v (.lst ds) → Nw .n H v → Q v H') : ∀ p, H p = none → Q (.ref p) (upd H p (.lst vs)) :=
  fun p hp => k _ _ S (Gr.newO e hp) ⟨p, vs, ds, rfl, rfl, upd_same, e.free hp, r⟩ ⟨p, rfl, hp⟩
end
/-! ### one operand -/
def mU (f : Dt → Md Dt) (ma : Fd → Md Dt) : Fd → Md Dt := fun Δ => (ma Δ).bind f
def SndU (K : PySem.W.Frag) (fa fl : Fl) (r : V → Hp → VK → Prop) (f : Dt → Md Dt) : Prop := ∀ (H S : Hp) (x : V) (a : Dt) (Q : VK), Ex S H → Hd K fa H S x a →
  Wp (f a) (fun d => ∀ v H' S', Gr H S H' S' → Hd K fl H' S' v d → Nw fl H v → Q v H') (fun _ => False) → r x H Q
theorem snd_u {W : Wo} {fa fl : Fl} {ta te : TE} {ma : Fd → Md Dt} {r : V → Hp → VK → Prop} {f : Dt → Md Dt} (ht : ∀ σ H Q, (ta σ H fun x H1 => r x H1 Q) → te σ H Q) (ha : SndE W fa ta ma) (hr : SndU W.K fa fl r f) (nx : ∀ a c, f a ≠ .exc c) : SndE W fl te (mU f ma) := by
  intro G B H S σ Δ Q s w
  refine ht σ H Q (ha G B H S σ Δ _ s (w.bind.mono (fun a k x H1 S1 g1 r1 _ => ?_) fun _ z => z))
  refine hr H1 S1 x a Q g1.sh r1 ?_
  cases hf : f a with
  | ok d =>
    rw [hf] at k
    exact fun v H2 S2 g2 r2 n2 => k v H2 S2 (g1.trans g2) r2 (n2.back g1)
  | exc c => exact absurd hf (nx a c)
  | bad =>
    rw [hf] at k
    exact k
section
variable {X : Cx} {T : List Addr} {E : XK} {fl fa fb fc : Fl} {nw : Bool} {a b c e tg : Expr} {es : List Expr} {ta tb tc te : TE} {ma mb mc me : Fd → Md Dt} {pos p p2 : Pos} {k : Nat} {tas : TA} {mas : Fd → Md (List Dt)} {K : PySem.W.Frag}
/-! items -/
def dIx (a i : Dt) : Md Dt := match i with
  | .int i => (match a with
    | .lst ds => (match atI ds i with | some d => .ok d | none => .bad)
    | .lsk ds => (match atI ds i with | some d => .ok d | none => .bad)
    | .tup ds => (match atI ds i with | some d => .ok d | none => .bad)
    | .tpk ds => (match atI ds i with | some d => .ok d | none => .bad)
    | _ => .bad)
  | _ => .bad
theorem ix_nx {ds : List Dt} {i : Int} (c : Str) : (match atI ds i with | some d => Md.ok d | none => Md.bad) ≠ .exc c := by
  split <;> exact fun z => by cases z
theorem dIx_nx (a i : Dt) (c : Str) : dIx a i ≠ .exc c := by
  cases i with
  | int i => cases a <;> first | exact ix_nx c | exact fun z => by cases z
  | _ => exact fun z => by cases z
theorem atI_w {ds : List Dt} {i : Int} {p : Dt → Prop} {ex : Str → Prop} (w : Wp (match atI ds i with | some d => Md.ok d | none => Md.bad) p ex) : ∃ d, atI ds i = some d ∧ p d := by
  cases q : atI ds i with
  | none =>
    rw [q] at w
    exact w.elim
  | some d =>
    rw [q] at w
    exact ⟨d, rfl, w⟩
theorem sr_ix (hf : fa ≠ .t) : SndR K fa .t .s (rIx K) dIx := by
  intro H S x y a b Q e ha hb w
  unfold dIx at w
  cases b with
  | int i =>
    cases Rp.isInt hb
    cases a with
    | lst ds =>
      obtain ⟨d, hd, w⟩ := atI_w w
      obtain ⟨p, vs, rfl, h1, r⟩ := ha.lst hf e
      obtain ⟨v, hv, rv⟩ := r.atI hd
      exact .inl ⟨p, vs, i, v, rfl, rfl, .of h1, hv, w v H S (Gr.refl e) rv trivial⟩
    | lsk ds =>
      obtain ⟨d, hd, w⟩ := atI_w w
      obtain ⟨p, vs, rfl, h1, r⟩ := ha.lsk hf e
      obtain ⟨v, hv, rv⟩ := r.atI hd
      exact .inl ⟨p, vs, i, v, rfl, rfl, h1, hv, w v H S (Gr.refl e) rv trivial⟩
    | tup ds =>
      obtain ⟨d, hd, w⟩ := atI_w w
      obtain ⟨p, vs, rfl, h1, r⟩ := ha.tup hf e
      obtain ⟨v, hv, rv⟩ := r.atI hd
      exact .inr (.inl ⟨p, vs, i, v, rfl, rfl, .of h1, hv, w v H S (Gr.refl e) rv trivial⟩)
    | tpk ds =>
      obtain ⟨d, hd, w⟩ := atI_w w
      obtain ⟨p, vs, rfl, h1, r⟩ := ha.tpk hf e
      obtain ⟨v, hv, rv⟩ := r.atI hd
      exact .inr (.inl ⟨p, vs, i, v, rfl, rfl, h1, hv, w v H S (Gr.refl e) rv trivial⟩)
    | _ => exact w.elim
  | _ => exact w.elim
theorem sr_ixT : SndR K .t .t .t (rIx K) dIx := by
  intro H S x y a b Q e ha hb w
  have w' := sr_ix (K := K) (fa := .s) (fun z => by cases z) H H x y a b Q (Ex.refl H) (show Rp K H x a from ha) hb
  refine w' (w.mono (fun d k v H' S' g r _ => ?_) fun _ z => z)
  have g2 : Gr H S H' S := ⟨g.hh, Ex.refl S, e.trans g.hh, fun _ _ z => z⟩
  exact k v H' S g2 (Rp.mono g.sh r) trivial
theorem d_ix {K0 : PySem.W.Frag} (ha : DE X T E fa a ta ma) (hb : DE X T E fb b tb mb) (hf : fa ≠ .t := by exact fun z => by cases z) (hs : PlainIx b := by exact fun _ _ => rfl) (hK : X.K = K0 := by rfl) : DE X T E .s (.Subscript a b pos) (tOp (rIx K0) ta tb) (mBin dIx ma mb) := by
  subst hK
  exact ⟨pe_ix ix_seq ha.pe hb.pe hs, snd_op ha.sn hb.sn.toT (sr_ix hf) dIx_nx⟩
theorem d_ixT {K0 : PySem.W.Frag} (ha : DE X T E fa a ta ma) (hb : DE X T E fb b tb mb) (hs : PlainIx b := by exact fun _ _ => rfl) (hK : X.K = K0 := by rfl) : DE X T E .t (.Subscript a b pos) (tOp (rIx K0) ta tb) (mBin dIx ma mb) := by
  subst hK
  exact ⟨pe_ix ix_seq ha.pe hb.pe hs, snd_op ha.sn.toT hb.sn.toT sr_ixT dIx_nx⟩
/-! slices of lists -/
def SndO (W : Wo) (to : TO) (mo : Fd → Md (Option Int)) : Prop := ∀ (G B H S : Hp) (σ : St) (Δ : Fd) (Q : Option Int → Hp → Prop), Slt W.K W.T G B H S σ Δ →
  Wp (mo Δ) (fun d => ∀ H' S', Gr H S H' S' → Q d H') (XW W.mg W.E H) → to σ H Q
structure DO (X : Cx) (T : List Addr) (E : XK) (e : Option Expr) (to : TO) (mo : Fd → Md (Option Int)) : Prop where
  po : PO X e to
  sn : SndO ⟨X.K, T, X.mg, E⟩ to mo
def mNoO : Fd → Md (Option Int) := fun _ => .ok none
def mSoO (ma : Fd → Md Dt) : Fd → Md (Option Int) := fun Δ => (ma Δ).bind fun d => match d with
  | .int i => .ok (some i)
  | _ => .bad
theorem o_none : DO X T E none tNoPart mNoO := ⟨po_none, fun G B H S σ Δ Q s w => w H S (Gr.refl s.sh)⟩
theorem o_some (ha : DE X T E fa a ta ma) : DO X T E (some a) (tPart ta) (mSoO ma) := ⟨po_some ha.pe, fun G B H S σ Δ Q s w => ha.sn.toT G B H S σ Δ _ s (w.bind.mono (fun d q v H1 S1 g r _ => by
  cases d with
  | int i =>
    cases Rp.isInt r
    exact ⟨i, rfl, q H1 S1 g⟩
  | _ => exact q.elim) fun _ z => z)⟩
def cutD (xs : List Dt) (lo hi : Option Int) : List Dt := (xs.drop (HT.sIx xs.length 0 lo)).take (HT.sIx xs.length xs.length hi - HT.sIx xs.length 0 lo)
def mSl (ma : Fd → Md Dt) (ml mh : Fd → Md (Option Int)) : Fd → Md Dt := fun Δ => (ma Δ).bind fun d => (ml Δ).bind fun lo => (mh Δ).bind fun hi => match d with
  | .lst ds => .ok (.lst (cutD ds lo hi))
  | .lsk ds => .ok (.lst (cutD ds lo hi))
  | _ => .bad
theorem RpL.cut {H : Hp} {vs : List V} {ds : List Dt} (r : RpL K H vs ds) (lo hi : Option Int) : RpL K H (cutV vs lo hi) (cutD ds lo hi) := by
  unfold cutV cutD
  rw [r.length]
  exact (r.drop _).take _
variable {lo hi : Option Expr} {tl th : TO} {ml mh : Fd → Md (Option Int)}
theorem d_slice {K0 : PySem.W.Frag} (ha : DE X T E fa a ta ma) (hl : DO X T E lo tl ml) (hh : DO X T E hi th mh) (hf : fa ≠ .t := by exact fun z => by cases z) (hK : X.K = K0 := by rfl) : DE X T E .n (.Subscript a (.Slice lo hi none p2) pos) (tSl (rSlL K0) ta tl th) (mSl ma ml mh) := by
  subst hK
  exact ⟨pe_slice sl_list ha.pe hl.po hh.po, fun G B H S σ Δ Q s w => by
    refine ha.sn G B H S σ Δ _ s (w.bind.mono (fun d q v H1 S1 g1 r1 _ => ?_) fun _ z => z)
    refine hl.sn G B H1 S1 σ Δ _ (s.grow g1) (q.bind.mono (fun l q2 H2 S2 g2 => ?_) fun _ z => z.grow g1.hh)
    refine hh.sn G B H2 S2 σ Δ _ ((s.grow g1).grow g2) (q2.bind.mono (fun u q3 H3 S3 g3 => ?_) fun _ z => z.grow (g1.trans g2).hh)
    have gg := (g1.trans g2).trans g3
    have r3 := r1.grow (g2.trans g3)
    cases d with
    | lst ds =>
      obtain ⟨p, vs, rfl, h1, r⟩ := r3.lst hf g3.sh
      exact ⟨p, vs, rfl, .of h1, new_lst (fl := .n) g3.sh (r.cut l u) fun v H4 S4 g4 r4 n4 => q3 v H4 S4 (gg.trans g4) r4 (n4.back gg)⟩
    | lsk ds =>
      obtain ⟨p, vs, rfl, h1, r⟩ := r3.lsk hf g3.sh
      exact ⟨p, vs, rfl, h1, new_lst (fl := .n) g3.sh (r.cut l u) fun v H4 S4 g4 r4 n4 => q3 v H4 S4 (gg.trans g4) r4 (n4.back gg)⟩
    | _ => exact q3.elim⟩
/-! lists joined, repeated -/
def dCat : Dt → Dt → Md Dt
  | .lst ds, .lst es => if ds.length + es.length ≤ 16777216 then .ok (.lst (ds ++ es)) else .bad
  | _, _ => .bad
theorem dCat_nx (a b : Dt) (c : Str) : dCat a b ≠ .exc c := by
  unfold dCat
  split
  · split <;> exact fun z => by cases z
  · exact fun z => by cases z
theorem sr_cat (h1 : fa ≠ .t) (h2 : fb ≠ .t) : SndR K fa fb .n rCat dCat := by
  intro H S x y a b Q e ha hb w
  unfold dCat at w
  split at w
  · rename_i ds es
    by_cases hl : ds.length + es.length ≤ 16777216
    · rw [if_pos hl] at w
      obtain ⟨p, vs, rfl, k1, r1⟩ := ha.lst h1 e
      obtain ⟨q, us, rfl, k2, r2⟩ := hb.lst h2 e
      exact ⟨p, q, vs, us, rfl, rfl, k1, k2, by rw [r1.length, r2.length, sizeLine_eq]; exact hl, new_lst (fl := .n) e (r1.app r2) w⟩
    · rw [if_neg hl] at w
      exact w.elim
  · exact w.elim
theorem d_cat (ha : DE X T E fa a ta ma) (hb : DE X T E fb b tb mb) (h1 : fa ≠ .t := by exact fun z => by cases z) (h2 : fb ≠ .t := by exact fun z => by cases z) : DE X T E .n (.BinOp a .Add b pos) (tOp rCat ta tb) (mBin dCat ma mb) :=
  ⟨pe_op op_cat ha.pe hb.pe, snd_op ha.sn hb.sn (sr_cat h1 h2) dCat_nx⟩
def dRep : Dt → Dt → Md Dt
  | .lst ds, .int k => if -(2 ^ 63) ≤ k ∧ k < 2 ^ 63 ∧ ds.length * k.toNat ≤ 16777216 then .ok (.lst (List.replicate k.toNat ds).flatten) else .bad
  | _, _ => .bad
theorem dRep_nx (a b : Dt) (c : Str) : dRep a b ≠ .exc c := by
  unfold dRep
  split
  · split <;> exact fun z => by cases z
  · exact fun z => by cases z
theorem sr_rep (h1 : fa ≠ .t) : SndR K fa .t .n rRep dRep := by
  intro H S x y a b Q e ha hb w
  unfold dRep at w
  split at w
  · rename_i ds k
    by_cases hl : -(2 ^ 63) ≤ k ∧ k < 2 ^ 63 ∧ ds.length * k.toNat ≤ 16777216
    · rw [if_pos hl] at w
      obtain ⟨p, vs, rfl, k1, r1⟩ := ha.lst h1 e
      cases Rp.isInt hb
      exact ⟨p, k, vs, rfl, rfl, k1, hl.1, hl.2.1, by rw [r1.length, sizeLine_eq]; exact hl.2.2, new_lst (fl := .n) e (r1.rep _) w⟩
    · rw [if_neg hl] at w
      exact w.elim
  · exact w.elim
theorem d_rep (ha : DE X T E fa a ta ma) (hb : DE X T E fb b tb mb) (h1 : fa ≠ .t := by exact fun z => by cases z) : DE X T E .n (.BinOp a .Mult b pos) (tOp rRep ta tb) (mBin dRep ma mb) :=
  ⟨pe_op op_rep ha.pe hb.pe, snd_op ha.sn hb.sn.toT (sr_rep h1) dRep_nx⟩
/-! built-ins of one value -/
theorem one_cb {r : List V → Hp → VK → Prop} : ∀ σ H Q, (ta σ H fun x H1 => r [x] H1 Q) → tCB r (tCons ta tNil) σ H Q := fun σ H Q h => h
def dLen : Dt → Md Dt
  | .lst ds => .ok (.int (ds.length : Int))
  | .lsk ds => .ok (.int (ds.length : Int))
  | .tup ds => .ok (.int (ds.length : Int))
  | .tpk ds => .ok (.int (ds.length : Int))
  | .str x => if x.length ≤ 16777216 then .ok (.int (x.length : Int)) else .bad
  | _ => .bad
def rLenR (K : PySem.W.Frag) : List V → Hp → VK → Prop := fun xs H Q => ∃ x n, xs = [x] ∧ LenV K x H n ∧ Q (.int n) H
theorem d_len {K0 : PySem.W.Frag} (hm : X.mg "len" = none) (ha : DE X T E fa a ta ma) (hg : Gl X "len" := by rfl) (hs : starEach [a] X.env = (false, eval a X.env) :: starEach [] X.env := by rfl) (hpl : (backTo pos (starEach [] X.env)).any (·.1) = false := by rfl) (hK : X.K = K0 := by rfl) :
    DE X T E .s (.Call (.Name "len" p) [a] [] pos) (tCB (rLenR K0) (tCons ta tNil)) (mU dLen ma) := by
  subst hK
  exact ⟨pe_callB call_len hg hm PySem.boot_len (pa_cons ha.pe pa_nil hs) (he := hs) (hpl := hpl), snd_u (r := fun x H Q => rLenR X.K [x] H Q) one_cb ha.sn.toT (fun H S x a Q e h w => by
    cases a with
    | lst ds =>
      cases h with
      | lst k1 r => exact ⟨_, _, rfl, .inl ⟨_, .of k1, rfl⟩, by rw [r.length]; exact w _ H S (Gr.refl e) (.int _) trivial⟩
    | lsk ds =>
      cases h with
      | lsk k1 r => exact ⟨_, _, rfl, .inl ⟨_, k1, rfl⟩, by rw [r.length]; exact w _ H S (Gr.refl e) (.int _) trivial⟩
    | tup ds =>
      cases h with
      | tup k1 r => exact ⟨_, _, rfl, .inr ⟨_, .of k1, rfl⟩, by rw [r.length]; exact w _ H S (Gr.refl e) (.int _) trivial⟩
    | tpk ds =>
      cases h with
      | tpk k1 r => exact ⟨_, _, rfl, .inr ⟨_, k1, rfl⟩, by rw [r.length]; exact w _ H S (Gr.refl e) (.int _) trivial⟩
    | str z =>
      have w : Wp (if z.length ≤ 16777216 then Md.ok (Dt.int (z.length : Int)) else Md.bad) _ _ := w
      by_cases hz : z.length ≤ 16777216
      · rw [if_pos hz] at w
        cases h
        exact ⟨_, z.length, rfl, ⟨by rw [sizeLine_eq]; exact hz, rfl⟩, w _ H S (Gr.refl e) (.int _) trivial⟩
      · rw [if_neg hz] at w
        exact w.elim
    | _ => exact w.elim) (fun a c => by
      unfold dLen
      split <;> first | exact (fun z => by cases z) | (split <;> exact fun z => by cases z))⟩
def dList : Dt → Md Dt
  | .lst ds => .ok (.lst ds)
  | .lsk ds => .ok (.lst ds)
  | .tup ds => .ok (.lst ds)
  | .tpk ds => .ok (.lst ds)
  | _ => .bad
def rListR (K : PySem.W.Frag) : List V → Hp → VK → Prop := fun xs H Q => ∃ p ys, xs = [.ref p] ∧ (SqL K H p ys ∨ SqT K H p ys) ∧ ∀ l, H l = none → Q (.ref l) (upd H l (.lst ys))
theorem d_list {K0 : PySem.W.Frag} (hm : X.mg "list" = none) (ha : DE X T E fa a ta ma) (hf : fa ≠ .t := by exact fun z => by cases z) (hg : Gl X "list" := by rfl) (hs : starEach [a] X.env = (false, eval a X.env) :: starEach [] X.env := by rfl) (hpl : (backTo pos (starEach [] X.env)).any (·.1) = false := by rfl) (hK : X.K = K0 := by rfl) :
    DE X T E .n (.Call (.Name "list" p) [a] [] pos) (tCB (rListR K0) (tCons ta tNil)) (mU dList ma) := by
  subst hK
  exact ⟨pe_callTy call_list_of hg hm (by decide +kernel) (pa_cons ha.pe pa_nil hs) (he := hs) (hpl := hpl), snd_u (r := fun x H Q => rListR X.K [x] H Q) one_cb ha.sn (fun H S x a Q e h w => by
    cases a with
    | lst ds =>
      obtain ⟨p, vs, rfl, h1, r⟩ := h.lst hf e
      exact ⟨p, vs, rfl, .inl (.of h1), new_lst (fl := .n) e r w⟩
    | lsk ds =>
      obtain ⟨p, vs, rfl, h1, r⟩ := h.lsk hf e
      exact ⟨p, vs, rfl, .inl h1, new_lst (fl := .n) e r w⟩
    | tup ds =>
      obtain ⟨p, vs, rfl, h1, r⟩ := h.tup hf e
      exact ⟨p, vs, rfl, .inr (.of h1), new_lst (fl := .n) e r w⟩
    | tpk ds =>
      obtain ⟨p, vs, rfl, h1, r⟩ := h.tpk hf e
      exact ⟨p, vs, rfl, .inr h1, new_lst (fl := .n) e r w⟩
    | _ => exact w.elim) (fun a c => by unfold dList; split <;> exact fun z => by cases z)⟩
def dTuple : Dt → Md Dt
  | .lst ds => .ok (.tup ds)
  | .lsk ds => .ok (.tup ds)
  | .tup ds => .ok (.tup ds)
  | _ => .bad
def rTupleR (K : PySem.W.Frag) : List V → Hp → VK → Prop := fun xs H Q => ∃ p ys, xs = [.ref p] ∧ ((SqL K H p ys ∧ ∀ l, H l = none → Q (.ref l) (upd H l (.tup ys))) ∨ (SqT K H p ys ∧ Q (.ref p) H))
theorem d_tuple {K0 : PySem.W.Frag} (hm : X.mg "tuple" = none) (ha : DE X T E fa a ta ma) (hf : fa ≠ .t := by exact fun z => by cases z) (hg : Gl X "tuple" := by rfl) (hs : starEach [a] X.env = (false, eval a X.env) :: starEach [] X.env := by rfl) (hpl : (backTo pos (starEach [] X.env)).any (·.1) = false := by rfl) (hK : X.K = K0 := by rfl) :
    DE X T E .s (.Call (.Name "tuple" p) [a] [] pos) (tCB (rTupleR K0) (tCons ta tNil)) (mU dTuple ma) := by
  subst hK
  exact ⟨pe_callTy call_tuple_of hg hm (by decide +kernel) (pa_cons ha.pe pa_nil hs) (he := hs) (hpl := hpl), snd_u (r := fun x H Q => rTupleR X.K [x] H Q) one_cb ha.sn (fun H S x a Q e h w => by
    have fresh : ∀ {vs : List V} {ds : List Dt}, RpL X.K S vs ds → (∀ v H' S', Gr H S H' S' → Hd X.K .s H' S' v (.tup ds) → Nw .s H v → Q v H') → ∀ l, H l = none → Q (.ref l) (upd H l (.tup vs)) := fun {vs ds} r w l hl => by
      have g := Gr.new (o := .tup vs) e hl
      exact w _ _ _ g (Rp.tup upd_same (RpL.mono g.ss r)) trivial
    cases a with
    | lst ds =>
      obtain ⟨p, vs, rfl, h1, r⟩ := h.lst hf e
      exact ⟨p, vs, rfl, .inl ⟨.of h1, fresh r w⟩⟩
    | lsk ds =>
      obtain ⟨p, vs, rfl, h1, r⟩ := h.lsk hf e
      exact ⟨p, vs, rfl, .inl ⟨h1, fresh r w⟩⟩
    | tup ds =>
      have h2 := h
      obtain ⟨p, vs, rfl, h1, r⟩ := h2.tup hf e
      refine ⟨p, vs, rfl, .inr ⟨.of h1, ?_⟩⟩
      cases fa with
      | t => exact absurd rfl hf
      | s => exact w _ H S (Gr.refl e) h trivial
      | n =>
        obtain ⟨_, _, _, _, z, _⟩ := h
        cases z
      | l =>
        obtain ⟨_, _, _, _, z, _⟩ := h
        cases z
    | _ => exact w.elim) (fun a c => by unfold dTuple; split <;> exact fun z => by cases z)⟩
def dSorted : Dt → Md Dt
  | .lst ds => (match toInts ds with
    | some ns => .ok (.lst ((sortI ns).map Dt.int))
    | none => (match toPairs ds with
      | some ps => .ok (.lst ((sortP ps).map fun p => .tup [.int p.1, .int p.2]))
      | none => .bad))
  | _ => .bad
def rSortedR (K : PySem.W.Frag) : List V → Hp → VK → Prop := fun vs H Q => rSortedI K vs H Q ∨ rSortedPO K vs H Q
/-- the pairs behind values, by their places -/
noncomputable def pairOf (H : Hp) (v : V) : Int × Int := match v with
  | .ref t => (match H t with
    | some (.tup [.int i, .int j]) => (i, j)
    | _ => (0, 0))
  | _ => (0, 0)
theorem paired_pairs {H : Hp} : ∀ {vs : List V} {ps : List (Int × Int)}, Paired (fun v p => ∃ t, v = V.ref t ∧ H t = some (.tup [.int p.1, .int p.2])) vs ps → vs.map (pairOf H) = ps ∧ ∀ x ∈ vs, ∃ t, x = V.ref t ∧ H t = some (.tup [.int (pairOf H x).1, .int (pairOf H x).2])
  | _, _, .nil => ⟨rfl, fun x h => by cases h⟩
  | _, _, .cons (a := v) (b := p) h r => by
    obtain ⟨q1, q2⟩ := paired_pairs r
    obtain ⟨t, rfl, ht⟩ := h
    have e : pairOf H (.ref t) = p := by
      unfold pairOf
      simp only [ht]
    refine ⟨by rw [List.map_cons, q1, e], fun x hx => ?_⟩
    rcases List.mem_cons.mp hx with z | z
    · rw [z, e]
      exact ⟨t, rfl, ht⟩
    · exact q2 x z
theorem rp_mem {H : Hp} : ∀ {vs us : List V} {ds : List Dt}, RpL K H vs ds → (∀ u ∈ us, u ∈ vs) → ∀ {ps : List (Int × Int)} {G : Hp}, (∀ u ∈ us, ∃ d, Rp K H u d) := by
  intro vs us ds r h ps G u hu
  obtain ⟨i, hi, e⟩ := List.getElem_of_mem (h u hu)
  obtain ⟨d, _, rd⟩ := r.get (List.getElem?_eq_some_iff.mpr ⟨hi, e⟩)
  exact ⟨d, rd⟩
theorem rp_pairs_back {H : Hp} : ∀ {us : List V}, (∀ u ∈ us, Rp K H u (.tup [.int (pairOf H u).1, .int (pairOf H u).2])) → RpL K H us ((us.map (pairOf H)).map fun p => .tup [.int p.1, .int p.2])
  | [], _ => .nil
  | u :: r, h => .cons (h u List.mem_cons_self) (rp_pairs_back fun v hv => h v (List.mem_cons_of_mem _ hv))
theorem d_sorted {K0 : PySem.W.Frag} (hm : X.mg "sorted" = none) (ha : DE X T E fa a ta ma) (hf : fa ≠ .t := by exact fun z => by cases z) (hg : Gl X "sorted" := by rfl) (hs : starEach [a] X.env = (false, eval a X.env) :: starEach [] X.env := by rfl) (hpl : (backTo pos (starEach [] X.env)).any (·.1) = false := by rfl) (hK : X.K = K0 := by rfl) :
    DE X T E .n (.Call (.Name "sorted" p) [a] [] pos) (tCB (rSortedR K0) (tCons ta tNil)) (mU dSorted ma) := by
  subst hK
  exact ⟨pe_callB (CallR.or cr_sortedI cr_sortedPO) hg hm (by decide +kernel) (pa_cons ha.pe pa_nil hs) (he := hs) (hpl := hpl), snd_u (r := fun x H Q => rSortedR X.K [x] H Q) one_cb ha.sn (fun H S x a Q e h w => by
    cases a with
    | lst ds =>
      obtain ⟨p, vs, rfl, h1, r⟩ := h.lst hf e
      have w : Wp (match toInts ds with
        | some ns => Md.ok (Dt.lst ((sortI ns).map Dt.int))
        | none => (match toPairs ds with
          | some ps => .ok (.lst ((sortP ps).map fun p => .tup [.int p.1, .int p.2]))
          | none => .bad)) _ _ := w
      cases q : toInts ds with
      | some ns =>
        rw [q] at w
        obtain ⟨e1, e2⟩ := rp_ints r q
        subst e1
        refine .inl ⟨p, ns, rfl, .of h1, fun ms l hp hs hl => ?_⟩
        rw [sortI_of hp hs]
        exact new_lst (fl := .n) e (rp_of_ints _) w l hl
      | none =>
        rw [q] at w
        cases q2 : toPairs ds with
        | none =>
          rw [q2] at w
          exact w.elim
        | some ps =>
          rw [q2] at w
          obtain ⟨e1, e2⟩ := rp_pairs r q2
          obtain ⟨e3, e4⟩ := paired_pairs e1
          refine .inr ⟨p, vs, pairOf S, rfl, .of h1, fun x hx => ?_, fun ys l hs hst hl => ?_⟩
          · obtain ⟨t, ht1, ht2⟩ := e4 x hx
            exact ⟨t, ht1, e.tup ht2⟩
          · have hk : ys.map (pairOf S) = sortP ps := by
              refine sortP_of (by rw [← e3]; exact hst.perm.map _) ?_
              refine List.pairwise_map.mpr (hs.imp fun {u v} hh => ?_)
              unfold leP
              rw [Bool.not_eq_true']
              exact hh
            have hb := rp_pairs_back (K := X.K) (H := S) (us := ys) fun u hu => by
              obtain ⟨t, ht1, ht2⟩ := e4 u (hst.perm.mem_iff.mp hu)
              have z : Rp X.K S (.ref t) (.tup [.int (pairOf S u).1, .int (pairOf S u).2]) := .tup ht2 (.cons (.int _) (.cons (.int _) .nil))
              rw [← ht1] at z
              exact z
            rw [hk] at hb
            exact new_lst (fl := .n) e hb w l hl
    | _ => exact w.elim) (fun a c => by
      unfold dSorted
      split
      · split
        · exact fun z => by cases z
        · split <;> exact fun z => by cases z
      · exact fun z => by cases z)⟩
def dAll : Dt → Md Dt
  | .lst ds => (match toBls ds with
    | some bs => .ok (.bl (bs.all id))
    | none => .bad)
  | _ => .bad
def dAnyB : Dt → Md Dt
  | .lst ds => (match toBls ds with
    | some bs => .ok (.bl (bs.any id))
    | none => .bad)
  | _ => .bad
theorem d_all {K0 : PySem.W.Frag} (hc : X.calm = true) (hm : X.mg "all" = none) (ha : DE X T E fa a ta ma) (hg : Gl X "all" := by rfl) (hs : starEach [a] X.env = (false, eval a X.env) :: starEach [] X.env := by rfl) (hpl : (backTo pos (starEach [] X.env)).any (·.1) = false := by rfl) (hK : X.K = K0 := by rfl) :
    DE X T E .s (.Call (.Name "all" p) [a] [] pos) (tCB (rAll K0) (tCons ta tNil)) (mU dAll ma) := by
  subst hK
  exact ⟨pe_callB (cr_all hc) hg hm (by decide +kernel) (pa_cons ha.pe pa_nil hs) (he := hs) (hpl := hpl), snd_u (r := fun x H Q => rAll X.K [x] H Q) one_cb ha.sn.toT (fun H S x a Q e h w => by
    cases a with
    | lst ds =>
      cases h with
      | lst h1 r =>
        have w : Wp (match toBls ds with
          | some bs => Md.ok (Dt.bl (bs.all id))
          | none => .bad) _ _ := w
        cases q : toBls ds with
        | none =>
          rw [q] at w
          exact w.elim
        | some bs =>
          rw [q] at w
          rw [rp_bls r q] at h1
          exact ⟨_, bs, rfl, .of h1, w _ H S (Gr.refl e) (.bl _) trivial⟩
    | _ => exact w.elim) (fun a c => by
      unfold dAll
      split
      · split <;> exact fun z => by cases z
      · exact fun z => by cases z)⟩
/-! type(x) -/
def dType : Dt → Md Dt
  | .non => .ok (.ty "NoneType")
  | .bl _ => .ok (.ty "bool")
  | .int _ => .ok (.ty "int")
  | .str _ => .ok (.ty "str")
  | .lst _ => .ok (.ty "list")
  | .tup _ => .ok (.ty "tuple")
  | .dic => .ok (.ty "dict")
  | _ => .bad
def kTypD (x : V) (H : Hp) (Q : VK) : Prop := kTyp x H Q ∨ ∃ p kvs, x = .ref p ∧ H p = some (.dK kvs) ∧ Q (.ty "dict") H
theorem rl_typeD (pins : List (Addr × Obj)) (s : Shared) (σ : L2.St) (H : Hp) (x : V) (v : Value) (Q : VK) (I : Inv X pins σ H s) (r : RelV x v) (h : kTypD x H Q) :
    wpAny (model X.prog X.w) X.A (call (.type "type") [v]) (EP X pins σ Q) X.xe s := by
  rcases h with h | ⟨p, kvs, rfl, hp, q⟩
  · exact rl_type pins s σ H x v Q I r h
  · cases (show v = Value.ref p from r)
    obtain ⟨_, _, vs, _, o, es, ep, g1, g2, _⟩ := (show ObjOk X.prog X.w H s.heap p (.dK kvs) from I.hok p _ hp)
    exact call_type_of (Tx := "dict") ⟨o, g1, g2.1⟩ (by decide +kernel) ⟨.ty "dict", H, I, rfl, q⟩
theorem d_type (hm : X.mg "type" = none) (ha : DE X T E fa a ta ma) (hg : Gl X "type" := by rfl) (hs : starEach [a] X.env = (false, eval a X.env) :: starEach [] X.env := by rfl) :
    DE X T E .s (.Call (.Name "type" p) [a] [] pos) (tThenZ ta kTypD) (mU dType ma) :=
  ⟨pe_callTy (call_r1 rl_typeD) hg hm (by decide +kernel) (pa_cons ha.pe pa_nil hs) (he := hs), snd_u (r := kTypD) (fun σ H Q h => h) ha.sn.toT (fun H S x a Q e h w => by
    cases a with
    | non => cases h; exact .inl ⟨_, rfl, w _ H S (Gr.refl e) (.ty _) trivial⟩
    | bl _ => cases h; exact .inl ⟨_, rfl, w _ H S (Gr.refl e) (.ty _) trivial⟩
    | int _ => cases h; exact .inl ⟨_, rfl, w _ H S (Gr.refl e) (.ty _) trivial⟩
    | str _ => cases h; exact .inl ⟨_, rfl, w _ H S (Gr.refl e) (.ty _) trivial⟩
    | lst ds =>
      cases h with
      | lst h1 r => exact .inl ⟨"list", by simp only [zTyV, h1], w _ H S (Gr.refl e) (.ty _) trivial⟩
    | tup ds =>
      cases h with
      | tup h1 r => exact .inl ⟨"tuple", by simp only [zTyV, h1], w _ H S (Gr.refl e) (.ty _) trivial⟩
    | dic =>
      cases h with
      | dic h1 => exact .inr ⟨_, _, rfl, h1, w _ H S (Gr.refl e) (.ty _) trivial⟩
    | _ => exact w.elim) (fun a c => by unfold dType; split <;> exact fun z => by cases z)⟩
/-! isinstance(x, a built-in class) -/
def kindD : Dt → Option String
  | .non => some "NoneType"
  | .bl _ => some "bool"
  | .int _ => some "int"
  | .str _ => some "str"
  | .lst _ => some "list"
  | .tup _ => some "tuple"
  | .dic => some "dict"
  | _ => none
def kits : List (String × String × Bool) := [("NoneType", "int", false), ("NoneType", "bool", false), ("NoneType", "list", false), ("NoneType", "tuple", false), ("NoneType", "str", false), ("NoneType", "dict", false), ("bool", "int", true), ("bool", "bool", true), ("bool", "list", false), ("bool", "tuple", false), ("bool", "str", false), ("bool", "dict", false), ("int", "int", true), ("int", "bool", false), ("int", "list", false), ("int", "tuple", false), ("int", "str", false), ("int", "dict", false), ("str", "int", false), ("str", "bool", false), ("str", "list", false), ("str", "tuple", false), ("str", "str", true), ("str", "dict", false), ("list", "int", false), ("list", "bool", false), ("list", "list", true), ("list", "tuple", false), ("list", "str", false), ("list", "dict", false), ("tuple", "int", false), ("tuple", "bool", false), ("tuple", "list", false), ("tuple", "tuple", true), ("tuple", "str", false), ("tuple", "dict", false), ("dict", "int", false), ("dict", "bool", false), ("dict", "list", false), ("dict", "tuple", false), ("dict", "str", false), ("dict", "dict", true)]
def kitT (a b : String) : Option Bool := (kits.find? fun e => e.1 == a && e.2.1 == b).map fun e => e.2.2
theorem kits_ok : (kits.all fun e => kitB e.1 e.2.1 == some e.2.2) = true := by decide +kernel
theorem kitT_ok {a b : String} {r : Bool} (h : kitT a b = some r) : kitB a b = some r := by
  unfold kitT at h
  obtain ⟨e, he, h2⟩ := Option.map_eq_some_iff.mp h
  have h1 := List.all_eq_true.mp kits_ok e (List.mem_of_find?_eq_some he)
  have h3 := List.find?_some he
  rw [Bool.and_eq_true, beq_iff_eq, beq_iff_eq] at h3
  rw [← h3.1, ← h3.2, ← h2]
  exact beq_iff_eq.mp h1
def dIsi : List Dt → Md Dt
  | [d, .ty n] => (match kindD d with
    | some k => (match kitT k n with
      | some b => .ok (.bl b)
      | none => .bad)
    | none => .bad)
  | _ => .bad
theorem kindD_ty {H : Hp} {v : V} {d : Dt} {n : String} (r : Rp K H v d) (h : kindD d = some n) : TyX K H v (.type n) := by
  cases d with
  | non => cases h; cases r; exact .base .non
  | bl b => cases h; cases r; exact .base (.bl b)
  | int b => cases h; cases r; exact .base (.int b)
  | str b => cases h; cases r; exact .base (.str b)
  | lst ds =>
    cases h
    cases r with
    | lst h1 _ => exact .base (.lst h1)
  | tup ds =>
    cases h
    cases r with
    | tup h1 _ => exact .base (.tup h1)
  | dic =>
    cases h
    cases r with
    | dic h1 => exact .base (.dK h1)
  | _ => cases h
theorem d_isi {K0 : PySem.W.Frag} (hm : X.mg "isinstance" = none) (h : DA X T E .t (a :: es) tas mas) (hg : Gl X "isinstance" := by rfl) (hs : starEach (a :: es) X.env = (false, eval a X.env) :: starEach es X.env := by rfl) (hpl : (backTo pos (starEach es X.env)).any (·.1) = false := by rfl) (hK : X.K = K0 := by rfl) :
    DE X T E .s (.Call (.Name "isinstance" p) (a :: es) [] pos) (tCB (rIsi K0) tas) (mCB dIsi mas) := by
  subst hK
  exact ⟨pe_callB call_isi hg hm (by decide +kernel) h.pa (he := hs) (hpl := hpl), snd_cb h.sn (fun H S vs ds Q e hl w => by
    unfold dIsi at w
    split at w
    · rename_i d n
      cases hl with
      | cons h1 h2 =>
        cases h2 with
        | cons h3 h4 =>
          cases h3
          cases h4
          cases q1 : kindD d with
          | none =>
            rw [q1] at w
            exact w.elim
          | some kd =>
            simp only [q1] at w
            cases q2 : kitT kd n with
            | none =>
              rw [q2] at w
              exact w.elim
            | some b =>
              rw [q2] at w
              exact ⟨_, _, _, _, b, rfl, .ty n, kindD_ty h1 q1, kit_ty (kitT_ok q2), w _ H S (Gr.refl e) (.bl b) trivial⟩
    · exact w.elim) (fun ds c => by
      unfold dIsi
      split
      · split
        · split <;> exact fun z => by cases z
        · exact fun z => by cases z
      · exact fun z => by cases z)⟩
/-! min, max of two ints -/
def dMin : List Dt → Md Dt
  | [.int i, .int j] => .ok (.int (if j < i then j else i))
  | _ => .bad
def dMax : List Dt → Md Dt
  | [.int i, .int j] => .ok (.int (if j > i then j else i))
  | _ => .bad
def rMinR : List V → Hp → VK → Prop := fun xs H Q => ∃ i j, xs = [.int i, .int j] ∧ Q (.int (if j < i then j else i)) H
def rMaxR : List V → Hp → VK → Prop := fun xs H Q => ∃ i j, xs = [.int i, .int j] ∧ Q (.int (if j > i then j else i)) H
theorem two_ints {H : Hp} {vs : List V} {i j : Int} (r : RpL K H vs [.int i, .int j]) : vs = [.int i, .int j] := by
  cases r with
  | cons h1 h2 =>
    cases h2 with
    | cons h3 h4 =>
      cases h1
      cases h3
      cases h4
      rfl
theorem d_min (hc : X.calm = true) (hm : X.mg "min" = none) (h : DA X T E .t (a :: es) tas mas) (hg : Gl X "min" := by rfl) (hs : starEach (a :: es) X.env = (false, eval a X.env) :: starEach es X.env := by rfl) (hpl : (backTo pos (starEach es X.env)).any (·.1) = false := by rfl) :
    DE X T E .s (.Call (.Name "min" p) (a :: es) [] pos) (tCB rMinR tas) (mCB dMin mas) :=
  ⟨pe_callB (call_min2 hc) hg hm (by decide +kernel) h.pa (he := hs) (hpl := hpl), snd_cb h.sn (fun H S vs ds Q e hl w => by
    unfold dMin at w
    split at w
    · exact ⟨_, _, two_ints hl, w _ H S (Gr.refl e) (.int _) trivial⟩
    · exact w.elim) (fun ds c => by unfold dMin; split <;> exact fun z => by cases z)⟩
theorem d_max (hc : X.calm = true) (hm : X.mg "max" = none) (h : DA X T E .t (a :: es) tas mas) (hg : Gl X "max" := by rfl) (hs : starEach (a :: es) X.env = (false, eval a X.env) :: starEach es X.env := by rfl) (hpl : (backTo pos (starEach es X.env)).any (·.1) = false := by rfl) :
    DE X T E .s (.Call (.Name "max" p) (a :: es) [] pos) (tCB rMaxR tas) (mCB dMax mas) :=
  ⟨pe_callB (call_max2 hc) hg hm (by decide +kernel) h.pa (he := hs) (hpl := hpl), snd_cb h.sn (fun H S vs ds Q e hl w => by
    unfold dMax at w
    split at w
    · exact ⟨_, _, two_ints hl, w _ H S (Gr.refl e) (.int _) trivial⟩
    · exact w.elim) (fun ds c => by unfold dMax; split <;> exact fun z => by cases z)⟩
/-! xs.index(i), xs.count(i): ints -/
def dIndex (a b : Dt) : Md Dt := match a, b with
  | .lst ds, .int i => (match toInts ds with
    | some ns => if ns.idxOf i < ns.length then .ok (.int (ns.idxOf i : Nat)) else .bad
    | none => .bad)
  | _, _ => .bad
def dCount (a b : Dt) : Md Dt := match a, b with
  | .lst ds, .int i => (match toInts ds with
    | some ns => .ok (.int (ns.count i : Nat))
    | none => .bad)
  | _, _ => .bad
/-- a method of one argument, asked of what p takes -/
def SndM (K : PySem.W.Frag) (fa fb fl : Fl) (T : String) (r : V → List V → Hp → VK → Prop) (p : Dt → Bool) (f : Dt → Dt → Md Dt) : Prop := ∀ (H S : Hp) (x : V) (a : Dt), Ex S H → Hd K fa H S x a → p a = true → tyV K T x H ∧ ∀ (H2 S2 : Hp) (y : V) (b : Dt) (Q : VK), Gr H S H2 S2 → Hd K fb H2 S2 y b →
  Wp (f a b) (fun d => ∀ v H' S', Gr H2 S2 H' S' → Hd K fl H' S' v d → Nw fl H2 v → Q v H') (fun _ => False) → r x [y] H2 Q
def mM (p : Dt → Bool) (f : Dt → Dt → Md Dt) (ma mb : Fd → Md Dt) : Fd → Md Dt := fun Δ => (ma Δ).bind fun a => if p a = true then (mb Δ).bind fun b => f a b else .bad
theorem snd_bm {W : Wo} {TT : String} {r : V → List V → Hp → VK → Prop} {p : Dt → Bool} {f : Dt → Dt → Md Dt} (ha : SndE W fa ta ma) (hb : SndE W fb tb mb) (hr : SndM W.K fa fb fl TT r p f) (nx : ∀ a b c, f a b ≠ .exc c) :
    SndE W fl (tBM W.K TT r ta (tCons tb tNil)) (mM p f ma mb) := by
  intro G B H S σ Δ Q s w
  refine ha G B H S σ Δ _ s (w.bind.mono (fun a k x H1 S1 g1 r1 _ => ?_) fun _ z => z)
  by_cases hp : p a = true
  · rw [if_pos hp] at k
    obtain ⟨ty, h⟩ := hr H1 S1 x a g1.sh r1 hp
    refine ⟨ty, ?_⟩
    refine hb G B H1 S1 σ Δ _ (s.grow g1) (k.bind.mono (fun b k2 y H2 S2 g2 r2 _ => ?_) fun _ z => z.grow g1.hh)
    refine h H2 S2 y b Q g2 r2 ?_
    cases hf : f a b with
    | ok d =>
      rw [hf] at k2
      exact fun v H3 S3 g3 r3 n3 => k2 v H3 S3 ((g1.trans g2).trans g3) r3 (n3.back (g1.trans g2))
    | exc c => exact absurd hf (nx a b c)
    | bad =>
      rw [hf] at k2
      exact k2
  · rw [if_neg hp] at k
    exact k.elim
def isInts : Dt → Bool
  | .lst ds => (toInts ds).isSome
  | _ => false
theorem idx_first {ns : List Int} {i : Int} (h : ns.idxOf i < ns.length) : ns[ns.idxOf i]? = some i ∧ ∀ m, m < ns.idxOf i → ns[m]? ≠ some i := by
  refine ⟨?_, fun m hm z => ?_⟩
  · rw [List.getElem?_eq_getElem h]
    exact congrArg some (List.getElem_idxOf h)
  · obtain ⟨hl, e⟩ := List.getElem?_eq_some_iff.mp z
    have h2 := List.not_of_lt_findIdx (p := fun x => x == i) (xs := ns) (i := m) hm
    simp [e] at h2
theorem sm_index : SndM K .t .t .s "list" (rIndex K) isInts dIndex := by
  intro H S x a e h hp
  cases a with
  | lst ds =>
    cases q : toInts ds with
    | none => simp [isInts, q] at hp
    | some ns =>
      cases h with
      | lst h1 r =>
        rw [(rp_ints r q).1] at h1
        refine ⟨.inl ⟨rfl, _, .of h1⟩, fun H2 S2 y b Q g hy w => ?_⟩
        cases b with
        | int i =>
          cases Rp.isInt hy
          simp only [dIndex, q] at w
          by_cases hi : ns.idxOf i < ns.length
          · rw [if_pos hi] at w
            obtain ⟨f1, f2⟩ := idx_first hi
            refine ⟨_, _, _, ns.idxOf i, .int i, rfl, rfl, .of (g.hh.lst h1), rfl, ?_, ?_, ?_, fun m z hm hz => ?_, w _ H2 S2 (Gr.refl g.sh) (.int _) trivial⟩
            · rw [List.all_map]
              exact List.all_eq_true.mpr fun _ _ => rfl
            · rw [List.getElem?_map, f1]
              rfl
            · simp [eqV]
            · rw [List.getElem?_map] at hz
              cases q3 : ns[m]? with
              | none =>
                rw [q3] at hz
                cases hz
              | some j =>
                rw [q3] at hz
                cases hz
                have : j ≠ i := fun z => f2 m hm (by rw [q3, z])
                simp [eqV, this]
          · rw [if_neg hi] at w
            exact w.elim
        | _ => exact w.elim
  | _ => cases hp
theorem sm_count : SndM K .t .t .s "list" (rCntI K) isInts dCount := by
  intro H S x a e h hp
  cases a with
  | lst ds =>
    cases q : toInts ds with
    | none => simp [isInts, q] at hp
    | some ns =>
      cases h with
      | lst h1 r =>
        rw [(rp_ints r q).1] at h1
        refine ⟨.inl ⟨rfl, _, .of h1⟩, fun H2 S2 y b Q g hy w => ?_⟩
        cases b with
        | int i =>
          cases Rp.isInt hy
          simp only [dCount, q] at w
          exact ⟨_, ns, i, rfl, rfl, .of (g.hh.lst h1), w _ H2 S2 (Gr.refl g.sh) (.int _) trivial⟩
        | _ => exact w.elim
  | _ => cases hp
theorem dIndex_nx (a b : Dt) (c : Str) : dIndex a b ≠ .exc c := by
  unfold dIndex
  split
  · split
    · split <;> exact fun z => by cases z
    · exact fun z => by cases z
  · exact fun z => by cases z
theorem dCount_nx (a b : Dt) (c : Str) : dCount a b ≠ .exc c := by
  unfold dCount
  split
  · split <;> exact fun z => by cases z
  · exact fun z => by cases z
variable {apos : Pos}
theorem d_index {K0 : PySem.W.Frag} (ha : DE X T E fa a ta ma) (hb : DE X T E fb b tb mb) (hbase : attributeBase a "index" X.env (eval a X.env) = eval a X.env := by rfl)
    (hfew : ((backTo pos (starEach [b] X.env)).all (fun x => !x.1) && (backToKw pos (keywordEach [] X.env)).all (fun x => x.1.isSome) && decide (([b] : List Expr).length + ([] : List Keyword).length + (if ([] : List Keyword).isEmpty then 0 else 1) < 30)) = true := by rfl)
    (hline : (apos.endLine == pos.line) = true := by rfl) (hs : starEach [b] X.env = (false, eval b X.env) :: starEach [] X.env := by rfl) (hplain : (backTo pos (starEach [] X.env)).any (·.1) = false := by rfl) (hK : X.K = K0 := by rfl) :
    DE X T E .s (.Call (.Attribute a "index" apos) [b] [] pos) (tBM K0 "list" (rIndex K0) ta (tCons tb tNil)) (mM isInts dIndex ma mb) := by
  subst hK
  exact ⟨pe_bm PySem.F.plainAttrs_list PySem.F.slot_list_index PySem.F.type_list_index mt_index ha.pe (pa_cons hb.pe pa_nil hs) hbase hfew hline hs hplain, snd_bm ha.sn.toT hb.sn.toT sm_index dIndex_nx⟩
theorem d_count {K0 : PySem.W.Frag} (ha : DE X T E fa a ta ma) (hb : DE X T E fb b tb mb) (hbase : attributeBase a "count" X.env (eval a X.env) = eval a X.env := by rfl)
    (hfew : ((backTo pos (starEach [b] X.env)).all (fun x => !x.1) && (backToKw pos (keywordEach [] X.env)).all (fun x => x.1.isSome) && decide (([b] : List Expr).length + ([] : List Keyword).length + (if ([] : List Keyword).isEmpty then 0 else 1) < 30)) = true := by rfl)
    (hline : (apos.endLine == pos.line) = true := by rfl) (hs : starEach [b] X.env = (false, eval b X.env) :: starEach [] X.env := by rfl) (hplain : (backTo pos (starEach [] X.env)).any (·.1) = false := by rfl) (hK : X.K = K0 := by rfl) :
    DE X T E .s (.Call (.Attribute a "count" apos) [b] [] pos) (tBM K0 "list" (rCntI K0) ta (tCons tb tNil)) (mM isInts dCount ma mb) := by
  subst hK
  exact ⟨pe_bm PySem.F.plainAttrs_list PySem.F.slot_list_count PySem.F.type_list_count mt_lcount ha.pe (pa_cons hb.pe pa_nil hs) hbase hfew hline hs hplain, snd_bm ha.sn.toT hb.sn.toT sm_count dCount_nx⟩
end
end Mr
namespace Mr
open PySem L2

/-! ### defs -/
/-- a def's promise: from data that is shared in B to what its mirror says -/
def spD (K : PySem.W.Frag) (T : List Addr) (mg : Str → Option Value) (nw : Bool) (n : Nat) (mir : List Dt → Md Dt) : Sp := fun vs H Q E => vs.length = n ∧ (∀ P ∈ T, GxR.TabG H P) ∧ ∃ ds B, Ex B H ∧ RpL K B vs ds ∧
  Wp (mir ds) (fun d => ∀ v H', Rt K nw H B H' v d → Q v H') (XW mg E H)
/-- the def that the module's name x holds keeps that promise -/
structure DefOk (P : Program) (w : World) (K : PySem.W.Frag) (T : List Addr) (mg : Str → Option Value) (base : Heap) (k : Nat) (x : Str) (ps : List Str) (nw : Bool) (mir : List Dt → Md Dt) : Prop where
  ex : ∃ f fd, mg x = some (.ref f) ∧ PySem.W.keepIn K (.ref f) = true ∧ Binds K fd ps [] ∧ FnOk P w K mg base (L2N.CX P w) k f fd ps (spD K T mg nw ps.length mir)
def startD (n : Nat) (ds : List Dt) : Fd := ds.map Sd.sh ++ List.replicate (n - ds.length) .un
def mDef (nw : Bool) (n : Nat) (ms : Fd → Md Out) : List Dt → Md Dt := fun ds => (ms (startD n ds)).bind fun o => match o with
  | .rt d => .ok d
  | .nx _ => (match nw with | true => .bad | false => .ok .non)
  | _ => .bad
section
variable {K : PySem.W.Frag} {T : List Addr} {mg : Str → Option Value}
theorem slt_start {H B : Hp} {N : List Str} {vs : List V} {ds : List Dt} (tb : ∀ P ∈ T, GxR.TabG H P) (e : Ex B H) (r : RpL K B vs ds) (hn : vs.length ≤ N.length) : Slt K T H B H B (L2.start N vs) (startD N.length ds) := by
  have hl := r.length
  have at1 : ∀ {i : Nat} {x : Sd}, (startD N.length ds)[i]? = some x → (∃ d, ds[i]? = some d ∧ x = .sh d) ∨ x = .un := fun {i x} h => by
    unfold startD at h
    by_cases hi : i < ds.length
    · rw [List.getElem?_append_left (by rw [List.length_map]; exact hi), List.getElem?_map] at h
      cases q : ds[i]? with
      | none =>
        rw [q] at h
        cases h
      | some d =>
        rw [q] at h
        cases h
        exact .inl ⟨d, rfl, rfl⟩
    · rw [List.getElem?_append_right (by rw [List.length_map]; omega), List.getElem?_replicate] at h
      split at h <;> cases h
      exact .inr rfl
  refine ⟨?_, Ex.refl H, e, Ex.refl B, e, fun _ _ z => z, tb, fun i d h => ?_, fun i es h => ?_, fun i j es fs a h _ _ _ => ?_⟩
  · unfold L2.start startD
    rw [List.length_append, List.length_append, List.length_map, List.length_map, List.length_replicate, List.length_replicate, hl]
  · rcases at1 h with ⟨d', h1, h2⟩ | h1
    · cases h2
      obtain ⟨v, hv, rv⟩ := r.at h1
      refine ⟨v, ?_, rv⟩
      have hi : i < vs.length := (List.getElem?_eq_some_iff.mp hv).1
      unfold L2.start
      rw [List.getElem?_append_left (by rw [List.length_map]; exact hi), List.getElem?_map, hv]
      rfl
    · cases h1
  · rcases at1 h with ⟨d', _, h2⟩ | h1
    · cases h2
    · cases h1
  · rcases at1 h with ⟨d', _, h2⟩ | h1
    · cases h2
    · cases h1
variable {P : Program} {w : World} {base : Heap}
/-- what stands around a def's body -/
theorem cok_def {N : List Str} {qual : Str} {scope : Scope} {f : Addr} {cd : Value} {A : Around} {outer : List Env} {s : Shared} {H : Hp} {E : XK} {k : Nat} (hr : Room k (A.deeper (PyProof.Rows.envOfC qual scope s.heap.objs.size f cd))) (nd : N.Nodup) :
    Cok (cxOf (L2N.CX P w) P w K mg base N qual scope f cd A outer s H E) k E :=
  ⟨rfl, hr, L2N.passes_call (L2N.takes_of rfl rfl rfl rfl) fun _ _ _ _ h => h, passes_of rfl, nd, L2N.takes_of rfl rfl rfl rfl⟩
theorem fn_okD {x : Str} {st : Stmt} {f : Addr} {fd : FuncData} {N ps : List Str} {k n : Nat} {nw : Bool} {ms : Fd → Md Out} (hn : N.length = n) (F : Fun K x x st f fd) (S : FnScope N ps (defScope st))
    (body : ∀ (cdv : Value) (A : Around) (outer : List Env) (s : Shared) (H : Hp) (E : XK), Cok (cxOf (L2N.CX P w) P w K mg base N x (defScope st) f cdv A outer s H E) k E →
      ∃ t, DB (cxOf (L2N.CX P w) P w K mg base N x (defScope st) f cdv A outer s H E) T E nw (defBody st) t ms) :
    FnOk P w K mg base (L2N.CX P w) (k + 1) f fd ps (spD K T mg nw ps.length (mDef nw n ms)) := by
  subst hn
  obtain ⟨oc, od, kV, doc, pm, an, cdv, ct, osl, rfl, lk, hcd⟩ := F.ex
  refine fn_of lk hcd S (fun vs H Q E h => h.1) fun A outer s H vs Q E hr h => ?_
  obtain ⟨hl, tb, ds, B, e, r, wp⟩ := h
  obtain ⟨t, ht, sn⟩ := body cdv A outer s H E (cok_def hr S.nd)
  have hpl : ps.length ≤ N.length := by
    have := congrArg List.length S.pre
    rw [List.length_take] at this
    omega
  refine ⟨t, ht, sn H B H B _ _ _ (slt_start tb e r (by omega)) (wp.bind.mono (fun o q => ?_) fun _ z => z)⟩
  cases o with
  | rt d => exact fun v H' h => q v H' h
  | nx Δ =>
    cases nw with
    | true => exact q.elim
    | false => exact fun H' S' σ' s' => q .non H' ⟨S', s'.gh, s'.bs, s'.sh, s'.fr, .non⟩
  | bk Δ => exact q.elim
  | ct Δ => exact q.elim
theorem def_ok {x : Str} {st : Stmt} {f : Addr} {fd : FuncData} {N ps : List Str} {k n : Nat} {nw : Bool} {ms : Fd → Md Out} (hn : N.length = n) (F : Fun K x x st f fd) (S : FnScope N ps (defScope st)) (hm : mg x = some (.ref f)) (hb : Binds K fd ps [])
    (body : ∀ (cdv : Value) (A : Around) (outer : List Env) (s : Shared) (H : Hp) (E : XK), Cok (cxOf (L2N.CX P w) P w K mg base N x (defScope st) f cdv A outer s H E) k E →
      ∃ t, DB (cxOf (L2N.CX P w) P w K mg base N x (defScope st) f cdv A outer s H E) T E nw (defBody st) t ms) :
    DefOk P w K T mg base (k + 1) x ps nw (mDef nw n ms) := ⟨f, fd, hm, F.kp, hb, fn_okD hn F S body⟩
end

/-! ### calls -/
def mCall (n : Nat) (mir : List Dt → Md Dt) (ma : Fd → Md (List Dt)) : Fd → Md Dt := fun Δ => (ma Δ).bind fun ds => if ds.length = n then mir ds else .bad
def nwF : Bool → Fl
  | true => .n
  | false => .s
theorem snd_call {W : Wo} {nw : Bool} {n : Nat} {mir : List Dt → Md Dt} {ta : TA} {ma : Fd → Md (List Dt)} (h : SndA W .s ta ma) : SndE W (nwF nw) (tCall (spD W.K W.T W.mg nw n mir) [] W.E ta) (mCall n mir ma) := by
  intro G B H S σ Δ Q s w
  refine h G B H S σ Δ _ s (w.bind.mono (fun ds k vs H1 S1 g r => ?_) fun _ z => z)
  by_cases hn : ds.length = n
  · rw [if_pos hn] at k
    have r' : RpL W.K S1 vs ds := r
    show spD W.K W.T W.mg nw n mir (vs ++ []) H1 Q W.E
    rw [List.append_nil]
    refine ⟨by rw [r'.length]; exact hn, (s.grow g).tb, ds, S1, g.sh, r', k.mono (fun d q v H2 rt => ?_) fun _ z => z.grow g.hh⟩
    obtain ⟨S2, h1, h2, h3, h4, h5⟩ := rt
    have g2 : Gr H1 S1 H2 S2 := ⟨h1, h2, h3, h4⟩
    cases nw with
    | true => exact q v H2 S2 (g.trans g2) h5.1 (h5.2.back g)
    | false => exact q v H2 S2 (g.trans g2) h5 trivial
  · rw [if_neg hn] at k
    exact k.elim
def flatD : Dt → Bool
  | .non => true
  | .bl _ => true
  | .int _ => true
  | .str _ => true
  | .ty _ => true
  | _ => false
theorem Rp.flat {K : PySem.W.Frag} {H H' : Hp} {v : V} {d : Dt} (h : Rp K H v d) (hf : flatD d = true) : Rp K H' v d := by
  cases d with
  | non => cases h; exact .non
  | bl b => cases h; exact .bl b
  | int b => cases h; exact .int b
  | str b => cases h; exact .str b
  | ty b => cases h; exact .ty b
  | _ => cases hf
/-- a call whose arguments are only read, and that hands back a number, a truth, a text -/
def mCallF (n : Nat) (mir : List Dt → Md Dt) (ma : Fd → Md (List Dt)) : Fd → Md Dt := fun Δ => (ma Δ).bind fun ds => if ds.length = n then (mir ds).bind fun d => if flatD d = true then .ok d else .bad else .bad
theorem snd_callF {W : Wo} {n : Nat} {mir : List Dt → Md Dt} {ta : TA} {ma : Fd → Md (List Dt)} (h : SndA W .t ta ma) : SndE W .s (tCall (spD W.K W.T W.mg false n mir) [] W.E ta) (mCallF n mir ma) := by
  intro G B H S σ Δ Q s w
  refine h G B H S σ Δ _ s (w.bind.mono (fun ds k vs H1 S1 g r => ?_) fun _ z => z)
  by_cases hn : ds.length = n
  · rw [if_pos hn] at k
    have r' : RpL W.K H1 vs ds := r
    show spD W.K W.T W.mg false n mir (vs ++ []) H1 Q W.E
    rw [List.append_nil]
    refine ⟨by rw [r'.length]; exact hn, (s.grow g).tb, ds, H1, Ex.refl H1, r', k.bind.mono (fun d q v H2 rt => ?_) fun _ z => z.grow g.hh⟩
    obtain ⟨S2, h1, h2, h3, h4, h5⟩ := rt
    by_cases hf : flatD d = true
    · rw [if_pos hf] at q
      exact q v H2 S1 (g.trans ⟨h1, Ex.refl S1, g.sh.trans h1, fun _ _ z => z⟩) (Rp.flat h5 hf) trivial
    · rw [if_neg hf] at q
      exact q.elim
  · rw [if_neg hn] at k
    exact k.elim
section
variable {X : Cx} {T : List Addr} {E : XK} {fl fa fb fc : Fl} {nw : Bool} {a b c e tg iter elt : Expr} {es : List Expr} {ta tb tc te : TE} {ma mb mc me : Fd → Md Dt} {pos p p2 spos : Pos} {k j : Nat} {tas : TA} {mas : Fd → Md (List Dt)} {K : PySem.W.Frag} {x : Str} {ps : List Str} {mir : List Dt → Md Dt}
  {wi : TI} {mi : Fd → Md (List Dt)} {g : TG} {gs : Dt → Fd → Md Fd} {ws : List Nat} {tt : TT} {mt : Fd → Md Bool}
theorem d_call {K0 : PySem.W.Frag} {mg0 : Str → Option Value} (c : Cok X k E) (F : DefOk X.prog X.w K0 T mg0 X.base j x ps nw mir) (h : DA X T E .s (e :: es) tas mas) (hj : j ≤ k := by decide) (hg : Gl X x := by rfl) (hdb : (x == ("__debug__" : Str)) = false := by decide) (he : starEach (e :: es) X.env = (false, eval e X.env) :: starEach es X.env := by rfl) (hpl : (backTo pos (starEach es X.env)).any (·.1) = false := by rfl) (hK : X.K = K0 := by rfl) (hmg : X.mg = mg0 := by rfl) :
    DE X T E (nwF nw) (.Call (.Name x p) (e :: es) [] pos) (tCall (spD K0 T mg0 nw ps.length mir) [] E tas) (mCall ps.length mir mas) := by
  subst hK
  subst hmg
  obtain ⟨f, fd, hm, hk, hb, ok⟩ := F.ex
  exact ⟨pe_call ok (c.room.mono hj) hg hm hk hb .nil c.pas h.pa hdb he hpl, snd_call (W := ⟨X.K, T, X.mg, E⟩) h.sn⟩
theorem d_callF {K0 : PySem.W.Frag} {mg0 : Str → Option Value} (c : Cok X k E) (F : DefOk X.prog X.w K0 T mg0 X.base j x ps false mir) (h : DA X T E .t (e :: es) tas mas) (hj : j ≤ k := by decide) (hg : Gl X x := by rfl) (hdb : (x == ("__debug__" : Str)) = false := by decide) (he : starEach (e :: es) X.env = (false, eval e X.env) :: starEach es X.env := by rfl) (hpl : (backTo pos (starEach es X.env)).any (·.1) = false := by rfl) (hK : X.K = K0 := by rfl) (hmg : X.mg = mg0 := by rfl) :
    DE X T E .s (.Call (.Name x p) (e :: es) [] pos) (tCall (spD K0 T mg0 false ps.length mir) [] E tas) (mCallF ps.length mir mas) := by
  subst hK
  subst hmg
  obtain ⟨f, fd, hm, hk, hb, ok⟩ := F.ex
  exact ⟨pe_call ok (c.room.mono hj) hg hm hk hb .nil c.pas h.pa hdb he hpl, snd_callF (W := ⟨X.K, T, X.mg, E⟩) h.sn⟩
/-! list(range(n)) -/
def dListRg : Dt → Md Dt
  | .int n => if smallI n = true ∧ n.toNat ≤ 16777216 then .ok (.lst (rng 0 n.toNat)) else .bad
  | _ => .bad
theorem rgV_rng {H : Hp} (n : Int) : RpL K H (rgV 0 n) (rng 0 n.toNat) := by
  refine RpL.of_at (by rw [rgV_length, rng_len, Int.sub_zero]) fun i v d h1 h2 => ?_
  have hi : i < n.toNat := by
    have := (List.getElem?_eq_some_iff.mp h2).1
    rw [rng_len] at this
    exact this
  rw [rng_get hi] at h2
  cases h2
  unfold rgV at h1
  rw [Int.sub_zero, List.getElem?_map, List.getElem?_range hi] at h1
  cases h1
  exact .int _
theorem d_listRg (cc : Cok X k E) (hm : X.mg "list" = none) (hm2 : X.mg "range" = none) (ha : DE X T E fa a ta ma) (hg : Gl X "list" := by rfl) (hg2 : Gl X "range" := by rfl) (na : starEach [a] X.env = (false, eval a X.env) :: starEach [] X.env := by rfl)
    (nb : starEach [Expr.Call (.Name "range" p2) [a] [] spos] X.env = (false, eval (Expr.Call (.Name "range" p2) [a] [] spos) X.env) :: starEach [] X.env := by rfl) :
    DE X T E .n (.Call (.Name "list" p) [.Call (.Name "range" p2) [a] [] spos] [] pos) (tLstRg (tRg1 ta)) (mU dListRg ma) :=
  ⟨pe_listRg cc.calm hg hm (prg_1 hg2 hm2 ha.pe na) nb, snd_u (r := fun x H Q => ∃ n, x = .int n ∧ RgOk 0 n ∧ ∀ q, H q = none → Q (.ref q) (upd H q (.lst (rgV 0 n)))) (fun σ H Q h => h) ha.sn.toT (fun H S x a Q e h w => by
    cases a with
    | int n =>
      cases Rp.isInt h
      have w : Wp (if smallI n = true ∧ n.toNat ≤ 16777216 then Md.ok (Dt.lst (rng 0 n.toNat)) else Md.bad) _ _ := w
      by_cases hn : smallI n = true ∧ n.toNat ≤ 16777216
      · rw [if_pos hn] at w
        have h2 := smallI_ok hn.1
        exact ⟨n, rfl, ⟨by decide, by decide, h2.1, h2.2, by rw [Int.sub_zero]; exact hn.2⟩, new_lst (fl := .n) e (rgV_rng n) w⟩
      · rw [if_neg hn] at w
        exact w.elim
    | _ => exact w.elim) (fun a c => by
      unfold dListRg
      split
      · split <;> exact fun z => by cases z
      · exact fun z => by cases z)⟩
/-! walks -/
theorem i_list {K0 : PySem.W.Frag} (h : DE X T E .s e te me) (hK : X.K = K0 := by rfl) : DI X T E tg e (iList K0 te) (mItL me) := by
  subst hK
  exact ⟨pi_list h.pe, si_list h.sn⟩
theorem i_tup {K0 : PySem.W.Frag} (h : DE X T E .s e te me) (hK : X.K = K0 := by rfl) : DI X T E tg e (iTup K0 te) (mItT me) := by
  subst hK
  exact ⟨pi_tup h.pe, si_tup h.sn⟩
theorem i_rng1 (hm : X.mg "range" = none) (h : DA X T E .t [a] tas mas) (hg : Gl X "range" := by rfl) (hs : starEach [a] X.env = [(false, eval a X.env)] := by rfl) : DI X T E tg (.Call (.Name "range" p) [a] [] pos) (iRng1 tas) (mIt1 mas) := ⟨pi_range1 hg hm h.pa hs, si_rng1 h.sn⟩
theorem i_rng2 (hm : X.mg "range" = none) (h : DA X T E .t [a, b] tas mas) (hg : Gl X "range" := by rfl) (hs : starEach [a, b] X.env = [(false, eval a X.env), (false, eval b X.env)] := by rfl) (hs2 : starEach [b] X.env = [(false, eval b X.env)] := by rfl) :
    DI X T E tg (.Call (.Name "range" p) [a, b] [] pos) (iRng2 tas) (mIt2 mas) := ⟨pi_range2 hg hm h.pa hs hs2, si_rng2 h.sn⟩
def mItE (ma : Fd → Md (List Dt)) : Fd → Md (List Dt) := fun Δ => (ma Δ).bind fun ds => match ds with
  | [.lst xs] => .ok (enu 0 xs)
  | _ => .bad
theorem i_enum {K0 : PySem.W.Frag} {elts : List Expr} {kk : Nat} {tpos : Pos} (hm : X.mg "enumerate" = none) (h : DA X T E .s [a] tas mas) (hg : Gl X "enumerate" := by rfl) (hs : starEach [a] X.env = [(false, eval a X.env)] := by rfl) (hK : X.K = K0 := by rfl) : DI X T E (.Tuple elts kk tpos) (.Call (.Name "enumerate" p) [a] [] pos) (iEnum K0 tas) (mItE mas) := by
  subst hK
  exact ⟨pi_enum hg hm h.pa hs, fun G B H S σ Δ R s w => h.sn G B H S σ Δ _ s (w.bind.mono (fun ds q vs H1 S1 g1 r => by
    have r : RpL X.K S1 vs ds := r
    unfold mItE at w
    split at q
    · cases r with
      | cons r1 r2 =>
        cases r2
        cases r1 with
        | lst h1 h2 => exact ⟨_, _, rfl, .of (g1.sh.lst h1), q _ H1 S1 g1 (walks_enum (.of h1) h2)⟩
    · exact q.elim) fun _ z => z)⟩
/-! targets -/
theorem g_name (i : Nat) (nd : X.N.Nodup) (hi : X.N[i]? = some x := by rfl) (hx : Loc X.env.scope x := by first | exact Or.inl rfl | exact Or.inr rfl) (hf : X.fn x = true ∨ X.env.scope.names.lookup x = some .local := by first | exact .inl rfl | exact .inr rfl) : DG X T [i] (.Name x pos) (gName i) (gsName i) := ⟨pg_name nd hi hx hf, sg_name i⟩
theorem gs_nil : DGs X T [] [] gNil gsNil := ⟨pgs_nil, sgs_nil⟩
theorem gs_cons {ws1 ws2 : List Nat} {g : TG} {tg : Dt → Fd → Md Fd} {gs : TGs} {tgs : List Dt → Fd → Md Fd} {hx : Expr} {es : List Expr} (h1 : DG X T ws1 hx g tg) (h2 : DGs X T ws2 es gs tgs) (hs : (assignEach (hx :: es) X.env).map (fun x => x.snd) = assign hx X.env :: (assignEach es X.env).map (fun x => x.snd) := by rfl) : DGs X T (ws1 ++ ws2) (hx :: es) (gCons g gs) (gsCons tg tgs) := ⟨pgs_cons h1.pg h2.pg hs, sgs_cons h1.sn h2.sn⟩
theorem g_tup {K0 : PySem.W.Frag} {ws1 : List Nat} {gs : TGs} {tgs : List Dt → Fd → Md Fd} {n kk : Nat} (hc : X.calm = true) (h : DGs X T ws1 es gs tgs) (hn : (assignEach es X.env).length = n := by rfl) (hst : (assignEach es X.env).findIdx? (fun x => x.fst) = none := by rfl) (hK : X.K = K0 := by rfl) : DG X T ws1 (.Tuple es kk pos) (gTup K0 n gs) (gsTup n tgs) := by
  subst hK
  exact ⟨pg_tup hc h.pg hn hst, sg_tup h.sn⟩
/-! list comprehensions -/
structure DQ (X : Cx) (T : List Addr) (E : XK) (es : List Expr) (tt : TT) (mt : Fd → Md Bool) : Prop where
  pq : PTs X es tt
  sn : SndT ⟨X.K, T, X.mg, E⟩ tt mt
theorem q_nil : DQ X T E [] tYes mYes := ⟨pts_nil, snd_yes⟩
theorem q_one (h : DT X T E e tt mt) : DQ X T E [e] tt mt := ⟨pts_one h.pt, h.sn⟩
theorem mem_all {ws vs : List Nat} (h : ws.all (fun i => vs.contains i) = true) : ∀ i ∈ ws, i ∈ vs := fun i hi => by
  have := List.all_eq_true.mp h i hi
  simpa using this
theorem d_lc {scope : Scope} {own : List (Str × Nat)} {ifs : List Expr} (c : Cok X k E) (hi : DI X T E tg iter wi mi) (ok : BlkOk X.N X.env.scope scope own)
    (hg : ∀ (s : Shared) (H : Hp) (C : Addr) (cl : List (Str × Addr)) (fp : List Addr), Cok (X.blk s H scope (compEnvC scope cl C X.env) fp) k E0 → DG (X.blk s H scope (compEnvC scope cl C X.env) fp) T ws tg g gs)
    (ht : ∀ (s : Shared) (H : Hp) (C : Addr) (cl : List (Str × Addr)) (fp : List Addr), Cok (X.blk s H scope (compEnvC scope cl C X.env) fp) k E0 → DQ (X.blk s H scope (compEnvC scope cl C X.env) fp) T E0 ifs tt mt)
    (he : ∀ (s : Shared) (H : Hp) (C : Addr) (cl : List (Str × Addr)) (fp : List Addr), Cok (X.blk s H scope (compEnvC scope cl C X.env) fp) k E0 → DE (X.blk s H scope (compEnvC scope cl C X.env) fp) T E0 .s elt te me)
    (hw : ws.all (fun i => (own.map (·.2)).contains i) = true := by decide) (hs : ∀ x, foldedSetIterable iter X.env x = pure x := by intro _; rfl) :
    DE X T E .n (.ListComp elt [⟨tg, iter, ifs, 0⟩] scope pos) (tLc wi g tt te (own.map (·.2))) (mLc mi gs mt me (own.map (·.2))) :=
  ⟨pe_lc c.calm c.nd hi.pi ok (fun s H C cl fp => (hg s H C cl fp (cok_blk c ..)).pg) (fun s H C cl fp => (ht s H C cl fp (cok_blk c ..)).pq) (fun s H C cl fp => (he s H C cl fp (cok_blk c ..)).pe) hs,
   snd_lc (W := ⟨X.K, T, X.mg, E⟩) hi.sn (hg X.s_0 (fun _ => none) 0 [] [] (cok_blk c ..)).sn (mem_all hw) (ht X.s_0 (fun _ => none) 0 [] [] (cok_blk c ..)).sn (he X.s_0 (fun _ => none) 0 [] [] (cok_blk c ..)).sn⟩
end
end Mr
namespace Mr
open PySem L2

/-- an own error class over ValueError without an __init__ -/
structure ExcK (K : PySem.W.Frag) (C : Addr) : Prop where
  xc : PySem.W.excIn K C [.type "ValueError", .type "Exception", .type "BaseException", .type "object"] "ValueError.__new__" = true
  kp : PySem.W.keepIn K (.ref C) = true
  be : PySem.W.subIn K (.ref C) (.type "BaseException") = some true
  ty : PySem.W.typeIn K (.ref C) = some (.type "type")
section
variable {X : Cx} {T : List Addr} {E : XK} {fl fa fb fc : Fl} {nw : Bool} {a b c e tg iter elt : Expr} {es : List Expr} {ta tb tc te : TE} {ma mb mc me : Fd → Md Dt} {pos pos' p p2 spos apos : Pos} {k j : Nat} {K : PySem.W.Frag} {x y : Str}
  {wi : TI} {mi : Fd → Md (List Dt)} {g : TG} {gs : Dt → Fd → Md Fd} {ws : List Nat} {tt : TT} {mt : Fd → Md Bool} {st : Stmt} {rest as bs : List Stmt} {t u : TS} {mo mu : Fd → Md Out}
theorem b_nil : DB X T E nw [] tNext mNext := ⟨pss_nil, ss_next⟩
theorem b_one (h : DS X T E nw st t mo) : DB X T E nw [st] t mo := ⟨pss_one h.ps, h.sn⟩
theorem b_cons (h : DS X T E nw st t mo) (h2 : DB X T E nw rest u mu) : DB X T E nw (st :: rest) (tSeq t u) (mSeq mo mu) := ⟨pss_cons h.ps h2.ps, ss_seq h.sn h2.sn⟩
theorem s_pass : DS X T E nw (.Pass pos) tNext mNext := ⟨ps_pass, ss_next⟩
theorem s_break : DS X T E nw (.Break pos) tBreak mBreak := ⟨ps_break, ss_break⟩
theorem s_cont : DS X T E nw (.Continue pos) tCont mCont := ⟨ps_continue, ss_cont⟩
theorem s_give (i : Nat) (h : DS X T E nw st t mo) : DS X T E nw st t (mGive i mo) := ⟨h.ps, ss_give i h.sn⟩
theorem s_set (i : Nat) (cc : Cok X k E) (he : DE X T E .s e te me) (hi : X.N[i]? = some x := by rfl) (hx : Loc X.env.scope x := by first | exact Or.inl rfl | exact Or.inr rfl) (hs : swapsWith e (some (.Name x pos')) pos.line X.env = pure false := by rfl) (hf : X.fn x = true ∨ X.env.scope.names.lookup x = some .local := by first | exact .inl rfl | exact .inr rfl) :
    DS X T E nw (.Assign [.Name x pos'] e pos) (tAsg te (gName i)) (mAsg i me) := ⟨ps_set cc.nd hi hx he.pe hs hf, ss_asg i he.sn⟩
theorem s_setO (i : Nat) (cc : Cok X k E) (he : DE X T E .n e te me) (hi : X.N[i]? = some x := by rfl) (hx : Loc X.env.scope x := by first | exact Or.inl rfl | exact Or.inr rfl) (hs : swapsWith e (some (.Name x pos')) pos.line X.env = pure false := by rfl) (hf : X.fn x = true ∨ X.env.scope.names.lookup x = some .local := by first | exact .inl rfl | exact .inr rfl) :
    DS X T E nw (.Assign [.Name x pos'] e pos) (tAsg te (gName i)) (mAsgO i me) := ⟨ps_set cc.nd hi hx he.pe hs hf, ss_asgO i he.sn⟩
section
variable {scope : Scope} {own : List (Str × Nat)} {ifs : List Expr}
theorem s_setLc (i : Nat) (cc : Cok X k E) (hi : DI X T E tg iter wi mi) (ok : BlkOk X.N X.env.scope scope own)
    (hg : ∀ (s : Shared) (H : Hp) (C : Addr) (cl : List (Str × Addr)) (fp : List Addr), Cok (X.blk s H scope (compEnvC scope cl C X.env) fp) k E0 → DG (X.blk s H scope (compEnvC scope cl C X.env) fp) T ws tg g gs)
    (ht : ∀ (s : Shared) (H : Hp) (C : Addr) (cl : List (Str × Addr)) (fp : List Addr), Cok (X.blk s H scope (compEnvC scope cl C X.env) fp) k E0 → DQ (X.blk s H scope (compEnvC scope cl C X.env) fp) T E0 ifs tt mt)
    (he : ∀ (s : Shared) (H : Hp) (C : Addr) (cl : List (Str × Addr)) (fp : List Addr), Cok (X.blk s H scope (compEnvC scope cl C X.env) fp) k E0 → DE (X.blk s H scope (compEnvC scope cl C X.env) fp) T E0 .s elt te me)
    (hy : X.N[i]? = some y := by rfl) (hyl : X.env.scope.names.lookup y = some .local := by rfl) (hsw : swapsWith (.ListComp elt [⟨tg, iter, ifs, 0⟩] scope pos) (some (.Name y pos')) spos.line X.env = pure true := by exact sw_true rfl rfl rfl (by decide +kernel))
    (hw : ws.all (fun i => (own.map (·.2)).contains i) = true := by decide) (hs : ∀ x, foldedSetIterable iter X.env x = pure x := by intro _; rfl) :
    DS X T E nw (.Assign [.Name y pos'] (.ListComp elt [⟨tg, iter, ifs, 0⟩] scope pos) spos) (tAsg (tLc wi g tt te (own.map (·.2))) (gName i)) (mAsg i (mLc mi gs mt me (own.map (·.2)))) :=
  ⟨ps_setLc cc.calm cc.nd hy hyl hsw hi.pi ok (fun s H C cl fp => (hg s H C cl fp (cok_blk cc ..)).pg) (fun s H C cl fp => (ht s H C cl fp (cok_blk cc ..)).pq) (fun s H C cl fp => (he s H C cl fp (cok_blk cc ..)).pe) hs,
   ss_asg i (d_lc (pos := pos) cc hi ok hg ht he hw hs).give.sn⟩
theorem s_setLcO (i : Nat) (cc : Cok X k E) (hi : DI X T E tg iter wi mi) (ok : BlkOk X.N X.env.scope scope own)
    (hg : ∀ (s : Shared) (H : Hp) (C : Addr) (cl : List (Str × Addr)) (fp : List Addr), Cok (X.blk s H scope (compEnvC scope cl C X.env) fp) k E0 → DG (X.blk s H scope (compEnvC scope cl C X.env) fp) T ws tg g gs)
    (ht : ∀ (s : Shared) (H : Hp) (C : Addr) (cl : List (Str × Addr)) (fp : List Addr), Cok (X.blk s H scope (compEnvC scope cl C X.env) fp) k E0 → DQ (X.blk s H scope (compEnvC scope cl C X.env) fp) T E0 ifs tt mt)
    (he : ∀ (s : Shared) (H : Hp) (C : Addr) (cl : List (Str × Addr)) (fp : List Addr), Cok (X.blk s H scope (compEnvC scope cl C X.env) fp) k E0 → DE (X.blk s H scope (compEnvC scope cl C X.env) fp) T E0 .s elt te me)
    (hy : X.N[i]? = some y := by rfl) (hyl : X.env.scope.names.lookup y = some .local := by rfl) (hsw : swapsWith (.ListComp elt [⟨tg, iter, ifs, 0⟩] scope pos) (some (.Name y pos')) spos.line X.env = pure true := by exact sw_true rfl rfl rfl (by decide +kernel))
    (hw : ws.all (fun i => (own.map (·.2)).contains i) = true := by decide) (hs : ∀ x, foldedSetIterable iter X.env x = pure x := by intro _; rfl) :
    DS X T E nw (.Assign [.Name y pos'] (.ListComp elt [⟨tg, iter, ifs, 0⟩] scope pos) spos) (tAsg (tLc wi g tt te (own.map (·.2))) (gName i)) (mAsgO i (mLc mi gs mt me (own.map (·.2)))) :=
  ⟨ps_setLc cc.calm cc.nd hy hyl hsw hi.pi ok (fun s H C cl fp => (hg s H C cl fp (cok_blk cc ..)).pg) (fun s H C cl fp => (ht s H C cl fp (cok_blk cc ..)).pq) (fun s H C cl fp => (he s H C cl fp (cok_blk cc ..)).pe) hs,
   ss_asgO i (d_lc (pos := pos) cc hi ok hg ht he hw hs).sn⟩
end
theorem s_asgT (he : DE X T E .s e te me) (hg : DG X T ws tg g gs) (hs : swapsWithSole [tg] e pos.line X.env = pure false := by rfl) (hw : swappedStores [tg] e X.env = pure none := by rfl) (h1 : (assignEach [tg] X.env).map (fun x => x.snd) = [assign tg X.env] := by rfl) : DS X T E nw (.Assign [tg] e pos) (tAsg te g) (mAsgT gs me) := ⟨ps_asg he.pe hg.pg hs hw h1, ss_asgT he.sn hg.sn⟩
theorem s_drop (he : DE X T E fl e te me) (hs : swapsWith e none pos.line X.env = pure false := by rfl) : DS X T E nw (.Expr e pos) (tDrop te) (mDrop me) := ⟨ps_expr he.pe hs, ss_drop he.sn⟩
theorem s_if (hc : DT X T E c tt mt) (h1 : DB X T E nw as t mo) (h2 : DB X T E nw bs u mu) : DS X T E nw (.If c as bs pos) (tIfS tt t u) (mIfS mt mo mu) := ⟨ps_if hc.pt h1.ps h2.ps, ss_if hc.sn h1.sn h2.sn⟩
theorem s_ret (he : DE X T E .s e te me) : DS X T E false (.Return (some e) pos) (tRet te) (mRet me) := ⟨ps_ret he.pe, ss_ret he.sn⟩
theorem s_retn (he : DE X T E .n e te me) : DS X T E true (.Return (some e) pos) (tRet te) (mRet me) := ⟨ps_ret he.pe, ss_retn he.sn⟩
theorem s_retO (i : Nat) (hN : X.N[i]? = some x := by rfl) (hv : Vis X.env.scope x := by first | exact Or.inl rfl | exact Or.inr (Or.inl rfl) | exact Or.inr (Or.inr rfl)) (hd : (x == ("__debug__" : Str)) = false := by decide) (hcd : (x == ("__classdict__" : Str)) = false := by decide) :
    DS X T E nw (.Return (some (.Name x p)) pos) (tRet (tVar i)) (mRetO i) := ⟨ps_ret (pe_var hN hv hd hcd), ss_retO i⟩
theorem s_retN : DS X T E false (.Return none pos) tRetN mRetN := ⟨ps_retN, ss_retN⟩
theorem s_for (cc : Cok X k E) (hi : DI X T E tg iter wi mi) (hg : DG X T ws tg g gs) (hb : DB X T E nw as t mo) (hs : ∀ x, foldedSetIterable iter X.env x = pure x := by intro _; rfl) : DS X T E nw (.For tg iter as [] pos) (tFor wi g t) (mFor mi gs mo) :=
  ⟨ps_for cc.own cc.calm hi.pi hg.pg hb.ps hs, ss_for (W := ⟨X.K, T, X.mg, E⟩) hi.sn hg.sn hb.sn⟩
theorem s_raise {C : Addr} {m : Str} {jj : Nat} {p3 : Pos} (cc : Cok X k E) (hm : X.mg x = some (.ref C)) (xc : ExcK X.K C) (hg : Gl X x := by rfl) (hdb : (x == ("__debug__" : Str)) = false := by decide) :
    DS X T E nw (.Raise (some (.Call (.Name x p) [.Constant (.str m) jj p2] [] p3)) none pos) (fun _ _ H => E (.ref C) none H) (mRaise x) :=
  ⟨L2N.ps_raise cc.calm cc.tk (L2N.pmk_own PySem.F.excBase_ValueError xc.xc hm xc.kp (raises_own xc.be xc.ty) hg hdb), ss_raise (W := ⟨X.K, T, X.mg, E⟩) hm⟩
/-! a list of the frame's own is changed -/
theorem s_app (i : Nat) (hb : DE X T E .s e te me) (hN : X.N[i]? = some x := by rfl) (hv : Vis X.env.scope x := by first | exact Or.inl rfl | exact Or.inr (Or.inl rfl) | exact Or.inr (Or.inr rfl)) (hd : (x == ("__debug__" : Str)) = false := by decide) (hcd : (x == ("__classdict__" : Str)) = false := by decide)
    (hbase : attributeBase (.Name x p) "append" X.env (eval (.Name x p) X.env) = eval (.Name x p) X.env := by rfl)
    (hfew : ((backTo pos' (starEach [e] X.env)).all (fun x => !x.1) && (backToKw pos' (keywordEach [] X.env)).all (fun x => x.1.isSome) && decide (([e] : List Expr).length + ([] : List Keyword).length + (if ([] : List Keyword).isEmpty then 0 else 1) < 30)) = true := by rfl)
    (hline : (apos.endLine == pos'.line) = true := by rfl) (hs : starEach [e] X.env = (false, eval e X.env) :: starEach [] X.env := by rfl) (hplain : (backTo pos' (starEach [] X.env)).any (·.1) = false := by rfl)
    (hsw : swapsWith (.Call (.Attribute (.Name x p) "append" apos) [e] [] pos') none pos.line X.env = pure false := by rfl) :
    DS X T E nw (.Expr (.Call (.Attribute (.Name x p) "append" apos) [e] [] pos') pos) (tDrop (tBM X.K "list" rAppend (tVar i) (tCons te tNil))) (mApp i me) :=
  ⟨ps_expr (pe_bm PySem.F.plainAttrs_list PySem.F.slot_list_append PySem.F.type_list_append mt_append (pe_var hN hv hd hcd) (pa_cons hb.pe pa_nil hs) hbase hfew hline hs hplain) hsw, ss_app (W := ⟨X.K, T, X.mg, E⟩) i hb.sn⟩
theorem s_appPop (i l : Nat) {apos2 p5 : Pos} (hb : DE X T E fb e te me) (hN : X.N[i]? = some x := by rfl) (hv : Vis X.env.scope x := by first | exact Or.inl rfl | exact Or.inr (Or.inl rfl) | exact Or.inr (Or.inr rfl)) (hd : (x == ("__debug__" : Str)) = false := by decide) (hcd : (x == ("__classdict__" : Str)) = false := by decide)
    (hN2 : X.N[l]? = some y := by rfl) (hv2 : Vis X.env.scope y := by first | exact Or.inl rfl | exact Or.inr (Or.inl rfl) | exact Or.inr (Or.inr rfl)) (hd2 : (y == ("__debug__" : Str)) = false := by decide) (hcd2 : (y == ("__classdict__" : Str)) = false := by decide)
    (hbase : attributeBase (.Name x p) "append" X.env (eval (.Name x p) X.env) = eval (.Name x p) X.env := by rfl) (hbase2 : attributeBase (.Name y p2) "pop" X.env (eval (.Name y p2) X.env) = eval (.Name y p2) X.env := by rfl)
    (hfew : ((backTo pos' (starEach [Expr.Call (.Attribute (.Name y p2) "pop" apos2) [e] [] p5] X.env)).all (fun x => !x.1) && (backToKw pos' (keywordEach [] X.env)).all (fun x => x.1.isSome) && decide (([Expr.Call (.Attribute (.Name y p2) "pop" apos2) [e] [] p5] : List Expr).length + ([] : List Keyword).length + (if ([] : List Keyword).isEmpty then 0 else 1) < 30)) = true := by rfl)
    (hfew2 : ((backTo p5 (starEach [e] X.env)).all (fun x => !x.1) && (backToKw p5 (keywordEach [] X.env)).all (fun x => x.1.isSome) && decide (([e] : List Expr).length + ([] : List Keyword).length + (if ([] : List Keyword).isEmpty then 0 else 1) < 30)) = true := by rfl)
    (hline : (apos.endLine == pos'.line) = true := by rfl) (hline2 : (apos2.endLine == p5.line) = true := by rfl)
    (hs : starEach [Expr.Call (.Attribute (.Name y p2) "pop" apos2) [e] [] p5] X.env = (false, eval (Expr.Call (.Attribute (.Name y p2) "pop" apos2) [e] [] p5) X.env) :: starEach [] X.env := by rfl) (hs2 : starEach [e] X.env = (false, eval e X.env) :: starEach [] X.env := by rfl)
    (hplain : (backTo pos' (starEach [] X.env)).any (·.1) = false := by rfl) (hplain2 : (backTo p5 (starEach [] X.env)).any (·.1) = false := by rfl)
    (hsw : swapsWith (.Call (.Attribute (.Name x p) "append" apos) [Expr.Call (.Attribute (.Name y p2) "pop" apos2) [e] [] p5] [] pos') none pos.line X.env = pure false := by rfl) :
    DS X T E nw (.Expr (.Call (.Attribute (.Name x p) "append" apos) [.Call (.Attribute (.Name y p2) "pop" apos2) [e] [] p5] [] pos') pos) (tDrop (tBM X.K "list" rAppend (tVar i) (tCons (tBM X.K "list" rPopAt (tVar l) (tCons te tNil)) tNil))) (mAppPop i l me) :=
  ⟨ps_expr (pe_bm PySem.F.plainAttrs_list PySem.F.slot_list_append PySem.F.type_list_append mt_append (pe_var hN hv hd hcd) (pa_cons (pe_bm PySem.F.plainAttrs_list PySem.F.slot_list_pop PySem.F.type_list_pop mt_popAt (pe_var hN2 hv2 hd2 hcd2) (pa_cons hb.pe pa_nil hs2) hbase2 hfew2 hline2 hs2 hplain2) pa_nil hs) hbase hfew hline hs hplain) hsw, ss_appPop (W := ⟨X.K, T, X.mg, E⟩) i l hb.sn.toT⟩
theorem s_setI (i : Nat) (ha : DE X T E .s a ta ma) (hb : DE X T E fb b tb mb) (hN : X.N[i]? = some x := by rfl) (hv : Vis X.env.scope x := by first | exact Or.inl rfl | exact Or.inr (Or.inl rfl) | exact Or.inr (Or.inr rfl)) (hd : (x == ("__debug__" : Str)) = false := by decide) (hcd : (x == ("__classdict__" : Str)) = false := by decide)
    (hs : swapsWithSole [.Subscript (.Name x p) b p2] a pos.line X.env = pure false := by rfl) (hw : swappedStores [.Subscript (.Name x p) b p2] a X.env = pure none := by rfl) (h1 : (assignEach [.Subscript (.Name x p) b p2] X.env).map (fun x => x.snd) = [assign (.Subscript (.Name x p) b p2) X.env] := by rfl)
    (h2 : ∀ v, assign (.Subscript (.Name x p) b p2) X.env v = (do
      let ov ← holding [v] (eval (.Name x p) X.env)
      let iv ← holding [v, ov] (eval b X.env)
      standAt p2
      holding [v, ov, iv] (setItem ov iv v)
      release [v, ov, iv] []) := by intro _; rfl) :
    DS X T E nw (.Assign [.Subscript (.Name x p) b p2] a pos) (tAsg ta (gSub (tVar i) tb rSetL)) (mSetI i ma mb) := ⟨ps_asg ha.pe (pg_sub (pe_var hN hv hd hcd) hb.pe set_list h2) hs hw h1, ss_setI i ha.sn hb.sn.toT⟩
end
end Mr
/-! Quiet code: it makes no generator and changes nothing but its own frame. What an element of a generator expression may call. -/
namespace Mr
open PySem L2 PySem.Spec PyProof.Rows

/-! ### what a value is, by objects that stay -/
abbrev Oh := Addr → Option Obj
mutual
inductive Qv (g : Oh) : Value → Dt → Prop
  | non : Qv g .none .non
  | bl (b : Bool) : Qv g (.bool b) (.bl b)
  | int (i : Int) (t : Tok) : Qv g (.int i t) (.int i)
  | str (x : Str) (t : Tok) : Qv g (.str x t) (.str x)
  | ty (n : String) : Qv g (.type n) (.ty n)
  | lst {a : Addr} {o : Obj} {its : List Value} {ds : List Dt} {n : Nat} : g a = some o → o.cls = .type "list" → o.data = .seq its.toArray n → ds.length ≤ sizeLine → Qvs g its ds → Qv g (.ref a) (.lst ds)
  | tup {a : Addr} {o : Obj} {its : List Value} {ds : List Dt} {n : Nat} : g a = some o → o.cls = .type "tuple" → o.data = .seq its.toArray n → ds.length ≤ sizeLine → Qvs g its ds → Qv g (.ref a) (.tup ds)
  | dic {a : Addr} {o : Obj} : g a = some o → o.cls = .type "dict" → Qv g (.ref a) .dic
inductive Qvs (g : Oh) : List Value → List Dt → Prop
  | nil : Qvs g [] []
  | cons {v : Value} {vs : List Value} {d : Dt} {ds : List Dt} : Qv g v d → Qvs g vs ds → Qvs g (v :: vs) (d :: ds)
end
theorem Qvs.length {g : Oh} : ∀ {vs : List Value} {ds : List Dt}, Qvs g vs ds → vs.length = ds.length
  | _, _, .nil => rfl
  | _, _, .cons _ r => congrArg (· + 1) r.length
theorem Qvs.get {g : Oh} : ∀ {vs : List Value} {ds : List Dt} {i : Nat} {v : Value}, Qvs g vs ds → vs[i]? = some v → ∃ d, ds[i]? = some d ∧ Qv g v d
  | _, _, _, _, .nil, e => by simp at e
  | _, _, 0, _, .cons h _, e => ⟨_, rfl, by cases e; exact h⟩
  | _, _, i + 1, v, .cons _ r, e => Qvs.get (i := i) (v := v) r e
theorem Qvs.at {g : Oh} : ∀ {vs : List Value} {ds : List Dt} {i : Nat} {d : Dt}, Qvs g vs ds → ds[i]? = some d → ∃ v, vs[i]? = some v ∧ Qv g v d
  | _, _, _, _, .nil, e => by simp at e
  | _, _, 0, _, .cons h _, e => ⟨_, rfl, by cases e; exact h⟩
  | _, _, i + 1, d, .cons _ r, e => Qvs.at (i := i) (d := d) r e
/-- data that quiet code may handle -/
def qok : Dt → Bool
  | .non => true
  | .bl _ => true
  | .int _ => true
  | .str _ => true
  | .ty _ => true
  | .lst xs => go xs
  | .tup xs => go xs
  | .dic => true
  | _ => false
where go : List Dt → Bool
  | [] => true
  | d :: r => qok d && go r
section
variable {X : Cx} {pins : List (Addr × Obj)} {σ : St} {H : Hp} {s : Shared} {g : Oh}
mutual
/-- what is tracked, by the heap's objects -/
theorem qv_of (I : Inv X pins σ H s) (hg : ∀ b o, s.heap.get? b = some o → o.cls ≠ .none → g b = some o) : ∀ {d : Dt} {v : V} {u : Value}, qok d = true → Rp X.K H v d → RelV v u → Qv g u d
  | .non, _, _, _, .non, r => by cases r; exact .non
  | .bl _, _, _, _, .bl b, r => by cases r; exact .bl b
  | .int _, _, _, _, .int i, r => by obtain ⟨t, rfl⟩ := r; exact .int i t
  | .str _, _, _, _, .str x, r => by obtain ⟨t, rfl⟩ := r; exact .str x t
  | .ty _, _, _, _, .ty n, r => by cases r; exact .ty n
  | .lst ds, .ref a, _, q, .lst (vs := vs) h k, r => by
    cases r
    obtain ⟨its, rv, ⟨o, n, e1, e2, e3, e4⟩, hz⟩ := I.list (.of h : SqL X.K H a vs)
    exact .lst (hg _ _ e1 (by rw [e2]; exact fun z => by cases z)) e2 e4 (by rw [← k.length]; exact hz) (qvs_of I hg q k rv)
  | .tup ds, .ref a, _, q, .tup (vs := vs) h k, r => by
    cases r
    obtain ⟨its, rv, ⟨o, e1, e2, n, e4⟩, hz⟩ := I.tuple (.inl (.inl h) : SqT X.K H a vs)
    exact .tup (hg _ _ e1 (by rw [e2]; exact fun z => by cases z)) e2 e4 (by rw [← k.length]; exact hz) (qvs_of I hg q k rv)
  | .dic, .ref a, _, _, .dic h, r => by
    cases r
    obtain ⟨_, _, vs, _, o, es, ep, g1, g2, _⟩ := (show ObjOk X.prog X.w H s.heap a (.dK []) from I.hok a _ h)
    exact .dic (hg _ _ g1 (by rw [g2.1]; exact fun z => by cases z)) g2.1
theorem qvs_of (I : Inv X pins σ H s) (hg : ∀ b o, s.heap.get? b = some o → o.cls ≠ .none → g b = some o) : ∀ {ds : List Dt} {vs : List V} {us : List Value}, qok.go ds = true → RpL X.K H vs ds → Vals vs us → Qvs g us ds
  | [], _, _, _, .nil, r => by cases r; exact .nil
  | d :: ds, _, _, q, .cons h k, r => by
    rw [qok.go, Bool.and_eq_true] at q
    cases r with
    | cons r1 r2 => exact .cons (qv_of I hg q.1 h r1) (qvs_of I hg q.2 k r2)
end
end
end Mr
namespace Mr
open PySem L2 PySem.Spec PyProof.Rows

/-! ### quiet code: its surroundings, its state -/
structure Qx where
  prog : Program
  w : World
  K : PySem.W.Frag
  mg : Str → Option Value
  base : Heap
  env : Env
  N : List Str
  k : Nat
  g : Oh
structure Qs (X : Qx) (s : Shared) (Δ : Fd) : Prop where
  mod : Mod X.K X.mg X.base
  kind : X.env.scope.kind = .function
  glob : X.env.globals = mainGlobals
  blt : X.env.builtins = builtinsNs
  nd : X.N.Nodup
  bs : ∀ b o, X.base.get? b = some o → b ≠ X.env.locals ∧ s.heap.get? b = some o
  gs : ∀ b o, X.g b = some o → b ≠ X.env.locals ∧ s.heap.get? b = some o
  loc : ∃ m, s.heap.Ns X.env.locals m ∧ ∀ (i : Nat) (x : Str) (d : Dt), X.N[i]? = some x → Δ[i]? = some (.sh d) → Vis X.env.scope x → ∃ u, Qv X.g u d ∧ Look X.env s.heap m x u
theorem md_bind {α β : Type} {m : Md α} {f : α → Md β} {b : β} (h : m.bind f = .ok b) : ∃ a, m = .ok a ∧ f a = .ok b := by
  cases m with
  | ok a => exact ⟨a, rfl, h⟩
  | exc c => cases h
  | bad => cases h
theorem kp_refl (s : Shared) : Keeps s s := ⟨s.heap, s.toks, rfl, fun _ _ e => e⟩
theorem kp_tok (s : Shared) (k : Nat) : Keeps s { s with toks := k } := ⟨s.heap, k, rfl, fun _ _ e => e⟩
theorem kp_trans {a b c : Shared} (x : Keeps a b) (y : Keeps b c) : Keeps a c := by
  obtain ⟨h1, t1, rfl, k1⟩ := x
  obtain ⟨h2, t2, rfl, k2⟩ := y
  exact ⟨h2, t2, rfl, fun b o e => k2 b o (k1 b o e)⟩
/-- all stays but what stands at L -/
def Kb (L : Addr) (s s' : Shared) : Prop := ∃ h tk, s' = { s with heap := h, toks := tk } ∧ ∀ b o, b ≠ L → s.heap.get? b = some o → h.get? b = some o
theorem Kb.of {L : Addr} {s s' : Shared} (x : Keeps s s') : Kb L s s' := by
  obtain ⟨h1, t1, rfl, k1⟩ := x
  exact ⟨h1, t1, rfl, fun b o _ e => k1 b o e⟩
theorem Kb.trans {L : Addr} {a b c : Shared} (x : Kb L a b) (y : Kb L b c) : Kb L a c := by
  obtain ⟨h1, t1, rfl, k1⟩ := x
  obtain ⟨h2, t2, rfl, k2⟩ := y
  exact ⟨h2, t2, rfl, fun b o n e => k2 b o n (k1 b o n e)⟩
theorem Qs.keep {X : Qx} {s s' : Shared} {Δ : Fd} (q : Qs X s Δ) (k : Keeps s s') : Qs X s' Δ := by
  obtain ⟨h1, t1, rfl, k1⟩ := k
  refine ⟨q.mod, q.kind, q.glob, q.blt, q.nd, fun b o e => ⟨(q.bs b o e).1, k1 b o (q.bs b o e).2⟩, fun b o e => ⟨(q.gs b o e).1, k1 b o (q.gs b o e).2⟩, ?_⟩
  obtain ⟨m, hn, hl⟩ := q.loc
  refine ⟨m, hn.keeps k1, fun i x d h1 h2 h3 => ?_⟩
  obtain ⟨u, qv, l⟩ := hl i x d h1 h2 h3
  refine ⟨u, qv, ?_⟩
  rcases l with l | ⟨a, c, e, o, r⟩
  · exact .inl l
  · exact .inr ⟨a, c, e, by first | exact ⟨_, k1 _ _ r.1, r.2⟩ | exact ⟨o, k1 _ _ r.1, r.2⟩⟩
/-- quiet pieces with their mirrors -/
def QE (X : Qx) (e : Expr) (me : Fd → Md Dt) : Prop := ∀ (A : Around) (E : Value → Shared → Prop) (s : Shared) (Δ : Fd) (d : Dt), Room X.k A → Qs X s Δ → me Δ = .ok d →
  wpAny (model X.prog X.w) A (eval e X.env) (fun u s' => Qv X.g u d ∧ Keeps s s') E s
def QT (X : Qx) (e : Expr) (mt : Fd → Md Bool) : Prop := ∀ (A : Around) (E : Value → Shared → Prop) (s : Shared) (Δ : Fd) (b : Bool), Room X.k A → Qs X s Δ → mt Δ = .ok b →
  wpAny (model X.prog X.w) A (isTrue e X.env (eval e X.env)) (fun c s' => c = b ∧ Keeps s s') E s
def QW (X : Qx) (e : Expr) (mt : Fd → Md Bool) : Prop := ∀ (whole : Sem Value) (A : Around) (E : Value → Shared → Prop) (s : Shared) (Δ : Fd) (b : Bool), Room X.k A → Qs X s Δ → mt Δ = .ok b →
  wpAny (model X.prog X.w) A (isTrue e X.env whole) (fun c s' => c = b ∧ Keeps s s') E s
def QA (X : Qx) (es : List Expr) (ma : Fd → Md (List Dt)) : Prop := ∀ (pos : Pos) (A : Around) (E : Value → Shared → Prop) (s : Shared) (Δ : Fd) (ds : List Dt), Room X.k A → Qs X s Δ → ma Δ = .ok ds →
  wpAny (model X.prog X.w) A (spliced (backTo pos (starEach es X.env))) (fun us s' => Qvs X.g us ds ∧ Keeps s s') E s
def QEnd (X : Qx) (s : Shared) (o : Out) (fl : Flow) (s' : Shared) : Prop := match o, fl with
  | .rt d, .ret u => Qv X.g u d ∧ Kb X.env.locals s s'
  | .nx Δ', .next => Qs X s' Δ' ∧ Kb X.env.locals s s'
  | _, _ => False
def QS (X : Qx) (st : Stmt) (mo : Fd → Md Out) : Prop := ∀ (A : Around) (E : Value → Shared → Prop) (s : Shared) (Δ : Fd) (o : Out), Room X.k A → Qs X s Δ → mo Δ = .ok o →
  wpAny (model X.prog X.w) A (exec st X.env) (fun fl s' => QEnd X s o fl s') E s
def QB (X : Qx) (st : List Stmt) (mo : Fd → Md Out) : Prop := ∀ (A : Around) (E : Value → Shared → Prop) (s : Shared) (Δ : Fd) (o : Out), Room X.k A → Qs X s Δ → mo Δ = .ok o →
  wpAny (model X.prog X.w) A (execs st X.env) (fun fl s' => QEnd X s o fl s') E s
/-- a def that may be called so -/
structure QDef (P : Program) (w : World) (K : PySem.W.Frag) (mg : Str → Option Value) (base : Heap) (k : Nat) (x : Str) (n : Nat) (mir : List Dt → Md Dt) : Prop where
  ex : ∃ f, mg x = some (.ref f) ∧ PySem.W.keepIn K (.ref f) = true ∧ ∀ (A : Around) (E : Value → Shared → Prop) (s : Shared) (g : Oh) (us : List Value) (ds : List Dt) (d : Dt), Room k A → Mod K mg base →
    (∀ b o, base.get? b = some o → s.heap.get? b = some o) → (∀ b o, g b = some o → s.heap.get? b = some o) → Qvs g us ds → ds.length = n → mir ds = .ok d →
    wpAny (model P w) A (call (.ref f) us) (fun u s' => Qv g u d ∧ Keeps s s') E s

section
variable {X : Qx} {x : Str} {p pos p2 : Pos} {e a b c : Expr} {es : List Expr} {me ma mb mc : Fd → Md Dt} {mt mu : Fd → Md Bool} {mas : Fd → Md (List Dt)} {mo mp : Fd → Md Out} {j k n : Nat} {mir : List Dt → Md Dt}
def QGl (X : Qx) (x : Str) : Prop := X.env.kindOf x = some .globalImplicit
theorem y_var (i : Nat) (hN : X.N[i]? = some x := by rfl) (hv : Vis X.env.scope x := by first | exact Or.inl rfl | exact Or.inr (Or.inl rfl) | exact Or.inr (Or.inr rfl)) (hd : (x == ("__debug__" : Str)) = false := by decide) (hcd : (x == ("__classdict__" : Str)) = false := by decide) : QE X (.Name x pos) (mVar i) := by
  intro A E s Δ d hr q h
  unfold mVar at h
  split at h
  · rename_i d' hd'
    cases h
    obtain ⟨m, hn, hl⟩ := q.loc
    obtain ⟨u, qv, l⟩ := hl i x _ hN hd' hv
    have fin : Qv X.g u _ ∧ Keeps s s := ⟨qv, kp_refl s⟩
    rcases l with ⟨hk, hm⟩ | ⟨hk, c, hc, hcell⟩
    · exact wpAny_Name (wpAny_loadName_local q.kind hk hn hm fin) hd
    · rcases hk with hk | hk
      · exact wpAny_Name (wpAny_loadName_cell q.kind hk hc hcell fin) hd
      · exact wpAny_Name (wpAny_loadName_free q.kind hk hc hcell fin hcd) hd
  · cases h
theorem y_int {i : Int} {j : Nat} : QE X (.Constant (.int i) j pos) (mC (.int i)) := fun A E s Δ d hr q h => by cases h; exact wpAny_Constant_int ⟨.int i _, kp_tok _ _⟩
theorem y_bl {i : Bool} {j : Nat} : QE X (.Constant (.bool i) j pos) (mC (.bl i)) := fun A E s Δ d hr q h => by cases h; exact Constant_bool ⟨.bl i, kp_refl _⟩
theorem y_non {j : Nat} : QE X (.Constant .none j pos) (mC .non) := fun A E s Δ d hr q h => by cases h; exact Constant_none ⟨.non, kp_refl _⟩
theorem y_str {i : Str} {j : Nat} : QE X (.Constant (.str i) j pos) (mC (.str i)) := fun A E s Δ d hr q h => by cases h; exact Calls.Constant_str ⟨.str i _, kp_tok _ _⟩
/-- a global name -/
theorem q_ld {A : Around} {E : Value → Shared → Prop} {s : Shared} {Δ : Fd} {u : Value} {Q : Value → Shared → Prop} (q : Qs X s Δ) (hg : QGl X x) (hm : X.mg x = some u) (h : Q u s) (hd : (x == ("__debug__" : Str)) = false) : wpAny (model X.prog X.w) A (eval (.Name x pos) X.env) Q E s :=
  Calls.Name_function_global q.kind hg (Calls.loadGlobal_global (by rw [q.glob]; exact q.mod.glob.keeps fun b o e => (q.bs b o e).2) hm h) hd
theorem q_ldB {A : Around} {E : Value → Shared → Prop} {s : Shared} {Δ : Fd} {u : Value} {Q : Value → Shared → Prop} (q : Qs X s Δ) (hg : QGl X x) (hm : X.mg x = none) (hv : bootBuiltins x = some u) (h : Q u s) (hn : x ≠ "__name__") (hd : (x == ("__debug__" : Str)) = false) : wpAny (model X.prog X.w) A (eval (.Name x pos) X.env) Q E s := by
  obtain ⟨mb, h1, h2⟩ := q.mod.blt
  have bk : ∀ b o, X.base.get? b = some o → s.heap.get? b = some o := fun b o e => (q.bs b o e).2
  exact Calls.Name_function_global q.kind hg (Calls.loadGlobal_builtin (by rw [q.glob]; exact q.mod.glob.keeps bk) hm (by rw [q.blt]; exact h1.keeps bk) ((h2 x hn).trans hv) h) hd
theorem y_glI {i : Int} {t : Tok} (hm : X.mg x = some (.int i t)) (hg : QGl X x := by rfl) (hd : (x == ("__debug__" : Str)) = false := by decide) : QE X (.Name x pos) (mC (.int i)) := fun A E s Δ d hr q h => by cases h; exact q_ld q hg hm ⟨.int i t, kp_refl _⟩ hd
theorem y_ty {n : String} (hm : X.mg x = none) (hv : bootBuiltins x = some (.type n)) (hg : QGl X x := by rfl) (hn : x ≠ "__name__" := by decide) (hd : (x == ("__debug__" : Str)) = false := by decide) : QE X (.Name x pos) (mC (.ty n)) := fun A E s Δ d hr q h => by cases h; exact q_ldB q hg hm hv ⟨.ty n, kp_refl _⟩ hn hd
/-! arguments -/
theorem ya_nil : QA X [] mNil := fun _ A E s Δ d hr q h => by cases h; exact Calls.spliced_nil ⟨.nil, kp_refl _⟩
theorem ya_cons (h1 : QE X e me) (h2 : QA X es mas) (hs : starEach (e :: es) X.env = (false, eval e X.env) :: starEach es X.env := by rfl) : QA X (e :: es) (mCons me mas) := by
  intro pos A E s Δ ds hr q h
  obtain ⟨d1, e1, h⟩ := md_bind h
  obtain ⟨d2, e2, h⟩ := md_bind h
  cases h
  rw [hs]
  show wpAny _ _ (spliced ((false, eval e X.env) :: backTo pos (starEach es X.env))) _ _ s
  refine Calls.spliced_cons (thn (h1 A E s Δ d1 hr q e1) fun u s1 ⟨v1, k1⟩ => ?_)
  exact thn (h2 pos A E s1 Δ d2 hr (q.keep k1) e2) fun us s2 ⟨v2, k2⟩ => ⟨.cons v1 v2, kp_trans k1 k2⟩
/-! calls -/
theorem q_callF {A : Around} {E : Value → Shared → Prop} {s : Shared} {Δ : Fd} {ds : List Dt} {d : Dt} (F : QDef X.prog X.w X.K X.mg X.base j x n mir) (hj : j ≤ X.k) (hr : Room X.k A) (q : Qs X s Δ) (h : QA X (e :: es) mas) (e1 : mas Δ = .ok ds) (hn : ds.length = n) (e2 : mir ds = .ok d) (hg : QGl X x)
    (hdb : (x == ("__debug__" : Str)) = false) (he : starEach (e :: es) X.env = (false, eval e X.env) :: starEach es X.env) (hpl : (backTo pos (starEach es X.env)).any (·.1) = false) :
    wpAny (model X.prog X.w) A (eval (.Call (.Name x p) (e :: es) [] pos) X.env) (fun u s' => Qv X.g u d ∧ Keeps s s') E s := by
  obtain ⟨f, hm, hk, run⟩ := F.ex
  refine wpAny_Call_Name_kw (q_ld q hg hm ?_ hdb)
  have bk : ∀ b o, X.base.get? b = some o → s.heap.get? b = some o := fun b o e => (q.bs b o e).2
  refine PySem.W.callWith_K (h₀ := X.base) q.mod.kin hk (thn (h pos A E s Δ ds hr q e1) fun us s1 ⟨v1, k1⟩ => ?_) he hpl
  have q1 := q.keep k1
  refine ⟨q.mod.kin.keeps fun b o e => (q1.bs b o e).2, ?_⟩
  exact thn (run A E s1 X.g us ds d (hr.mono hj) q.mod (fun b o e => (q1.bs b o e).2) (fun b o e => (q1.gs b o e).2) v1 hn e2) fun u s2 ⟨v2, k2⟩ => ⟨v2, kp_trans k1 k2⟩
theorem y_call (F : QDef X.prog X.w X.K X.mg X.base j x n mir) (h : QA X (e :: es) mas) (hj : j ≤ X.k := by exact Nat.le_of_ble_eq_true rfl) (hg : QGl X x := by rfl) (hdb : (x == ("__debug__" : Str)) = false := by decide) (he : starEach (e :: es) X.env = (false, eval e X.env) :: starEach es X.env := by rfl)
    (hpl : (backTo pos (starEach es X.env)).any (·.1) = false := by rfl) : QE X (.Call (.Name x p) (e :: es) [] pos) (mCall n mir mas) := by
  intro A E s Δ d hr q w
  obtain ⟨ds, e1, w⟩ := md_bind w
  by_cases hn : ds.length = n
  · rw [if_pos hn] at w
    exact q_callF F hj hr q h e1 hn w hg hdb he hpl
  · rw [if_neg hn] at w
    cases w
theorem y_len (hm : X.mg "len" = none) (ha : QE X a ma) (hg : QGl X "len" := by rfl) (hs : starEach [a] X.env = (false, eval a X.env) :: starEach [] X.env := by rfl) : QE X (.Call (.Name "len" p) [a] [] pos) (mU dLen ma) := by
  intro A E s Δ d hr q w
  obtain ⟨d1, e1, w⟩ := md_bind w
  have hl := line63
  have hz : sizeLine = 16777216 := sizeLine_eq
  refine wpAny_Call_Name_kw (q_ldB q hg hm (u := .builtin "len") (by decide +kernel) ?_ (by decide) (by decide))
  refine PyProof.Rows.callWith_builtin1 (thn (ya_cons ha ya_nil hs pos A E s Δ [d1] hr q (by unfold mCons mNil; rw [e1]; rfl)) fun us s1 ⟨v1, k1⟩ => ?_) hs rfl
  have q1 := q.keep k1
  cases v1 with
  | cons v1 v2 =>
    cases v2
    cases v1 with
    | lst g1 g2 g3 g4 g5 =>
      cases w
      have hlen := g5.length
      refine Calls.call_len_list ⟨_, (q1.gs _ _ g1).2, g2, _, g3⟩ (by simp only [List.size_toArray]; omega) ⟨?_, kp_trans k1 (kp_tok _ _)⟩
      simp only [List.size_toArray]
      rw [hlen]
      exact .int _ _
    | tup g1 g2 g3 g4 g5 =>
      cases w
      have hlen := g5.length
      refine len_tuple ⟨_, (q1.gs _ _ g1).2, g2, _, g3⟩ (by simp only [List.size_toArray]; omega) ⟨?_, kp_trans k1 (kp_tok _ _)⟩
      simp only [List.size_toArray]
      rw [hlen]
      exact .int _ _
    | str x t =>
      have w : (if x.length ≤ 16777216 then Md.ok (Dt.int (x.length : Int)) else .bad) = .ok d := w
      by_cases h9 : x.length ≤ 16777216
      · rw [if_pos h9] at w
        cases w
        exact len_str (by omega) ⟨.int _ _, kp_trans k1 (kp_tok _ _)⟩
      · rw [if_neg h9] at w
        cases w
    | _ => cases w
theorem y_type (hm : X.mg "type" = none) (ha : QE X a ma) (hg : QGl X "type" := by rfl) (hs : starEach [a] X.env = (false, eval a X.env) :: starEach [] X.env := by rfl) : QE X (.Call (.Name "type" p) [a] [] pos) (mU dType ma) := by
  intro A E s Δ d hr q w
  obtain ⟨d1, e1, w⟩ := md_bind w
  refine wpAny_Call_Name_kw (q_ldB q hg hm (u := .type "type") (by decide +kernel) ?_ (by decide) (by decide))
  refine PyProof.Rows.callWith_type1 (thn (ya_cons ha ya_nil hs pos A E s Δ [d1] hr q (by unfold mCons mNil; rw [e1]; rfl)) fun us s1 ⟨v1, k1⟩ => ?_) hs rfl
  have q1 := q.keep k1
  cases v1 with
  | cons v1 v2 =>
    cases v2
    cases v1 with
    | non => cases w; exact call_type_of (Tx := "NoneType") rfl (by decide +kernel) ⟨.ty _, k1⟩
    | bl _ => cases w; exact call_type_of (Tx := "bool") rfl (by decide +kernel) ⟨.ty _, k1⟩
    | int _ _ => cases w; exact call_type_of (Tx := "int") rfl (by decide +kernel) ⟨.ty _, k1⟩
    | str _ _ => cases w; exact call_type_of (Tx := "str") rfl (by decide +kernel) ⟨.ty _, k1⟩
    | ty _ => cases w
    | lst g1 g2 g3 g4 g5 => cases w; exact call_type_of (Tx := "list") ⟨_, (q1.gs _ _ g1).2, g2⟩ (by decide +kernel) ⟨.ty _, k1⟩
    | tup g1 g2 g3 g4 g5 => cases w; exact call_type_of (Tx := "tuple") ⟨_, (q1.gs _ _ g1).2, g2⟩ (by decide +kernel) ⟨.ty _, k1⟩
    | dic g1 g2 => cases w; exact call_type_of (Tx := "dict") ⟨_, (q1.gs _ _ g1).2, g2⟩ (by decide +kernel) ⟨.ty _, k1⟩
end
end Mr
namespace Mr
open PySem L2 PySem.Spec PyProof.Rows

/-! ### quiet comparisons -/
def QOp (X : Qx) (op : CmpOp) (f : Dt → Dt → Md Dt) : Prop := ∀ (A : Around) (E : Value → Shared → Prop) (s : Shared) (a b d : Dt) (u v : Value), Qv X.g u a → Qv X.g v b → f a b = .ok d →
  wpAny (model X.prog X.w) A (compareOp op u v) (fun r s' => (∃ k, r = .bool k ∧ d = .bl k) ∧ Keeps s s') E s
section
variable {X : Qx} {x : Str} {p pos p2 : Pos} {e a b c : Expr} {es : List Expr} {me ma mb mc : Fd → Md Dt} {mt mu : Fd → Md Bool} {mas : Fd → Md (List Dt)} {mo mp : Fd → Md Out} {j k n : Nat} {mir : List Dt → Md Dt}
theorem qo_int {op : CmpOp} {f : Int → Int → Bool} (rule : ∀ (A : Around) (E : Value → Shared → Prop) (i j : Int) (t u : Tok) (Q : Value → Shared → Prop) (s : Shared), Q (.bool (f i j)) s → wpAny (model X.prog X.w) A (compareOp op (.int i t) (.int j u)) Q E s) : QOp X op (dI fun i j => .bl (f i j)) := by
  intro A E s a b d u v ha hb h
  cases ha with
  | int i t =>
    cases hb with
    | int i' t' => cases h; exact rule A E i i' t t' _ s ⟨⟨_, rfl, rfl⟩, kp_refl s⟩
    | _ => cases h
  | _ => cases h
theorem qo_lt : QOp X .Lt dLt := qo_int fun _ _ _ _ _ _ _ _ h => lt_int h
theorem qo_le : QOp X .LtE dLe := qo_int fun _ _ _ _ _ _ _ _ h => le_int h
theorem qo_gt : QOp X .Gt dGt := qo_int fun _ _ _ _ _ _ _ _ h => gt_int h
theorem qo_ge : QOp X .GtE dGe := qo_int fun _ _ _ _ _ _ _ _ h => ge_int h
theorem qo_is : QOp X .Is dIs := by
  intro A E s a b d u v ha hb h
  cases ha with
  | ty m =>
    cases hb with
    | ty n =>
      cases h
      by_cases e : m = n
      · subst e
        exact wpAny_is_self rfl ⟨⟨true, rfl, by simp⟩, kp_refl s⟩
      · exact wpAny_is_other rfl (fun z => e (Value.type.inj z)) ⟨⟨false, rfl, by simp [e]⟩, kp_refl s⟩
    | _ => cases h
  | _ => cases h
theorem qo_isNot : QOp X .IsNot dIsNot := by
  intro A E s a b d u v ha hb h
  cases ha with
  | ty m =>
    cases hb with
    | ty n =>
      cases h
      by_cases e : m = n
      · subst e
        exact wpAny_isNot_self rfl ⟨⟨false, rfl, by simp⟩, kp_refl s⟩
      · exact wpAny_isNot_other rfl (fun z => e (Value.type.inj z)) ⟨⟨true, rfl, by simp [e]⟩, kp_refl s⟩
    | _ => cases h
  | _ => cases h
theorem y_cmp {op : CmpOp} {f : Dt → Dt → Md Dt} (h : QOp X op f) (ha : QE X a ma) (hb : QE X b mb) (hm : behindInMarks op b = false := by first | exact nomark _ | rfl) : QE X (.Compare a [op] [b] pos) (mBin f ma mb) := by
  intro A E s Δ d hr q w
  obtain ⟨d1, e1, w⟩ := md_bind w
  obtain ⟨d2, e2, w⟩ := md_bind w
  refine wpAny_Compare1 (thn (ha A E s Δ d1 hr q e1) fun u s1 ⟨v1, k1⟩ => thn (hb A E s1 Δ d2 hr (q.keep k1) e2) fun v s2 ⟨v2, k2⟩ => ?_) hm
  refine thn (h A E s2 d1 d2 d u v v1 v2 w) fun r s3 ⟨⟨k, e3, e4⟩, k3⟩ => ?_
  subst e3
  subst e4
  exact ⟨.bl k, kp_trans k1 (kp_trans k2 k3)⟩
theorem yt_cmp {op : CmpOp} {f : Dt → Dt → Md Dt} (h : QOp X op f) (ha : QE X a ma) (hb : QE X b mb) (hm : behindInMarks op b = false := by first | exact nomark _ | rfl) : QT X (.Compare a [op] [b] pos) (mT (mBin f ma mb)) := by
  intro A E s Δ q0 hr q w
  obtain ⟨d0, w, e0⟩ := md_bind w
  obtain ⟨d1, e1, w⟩ := md_bind w
  obtain ⟨d2, e2, w⟩ := md_bind w
  refine wpAny_isTrue_Compare1 (thn (ha A E s Δ d1 hr q e1) fun u s1 ⟨v1, k1⟩ => thn (hb A E s1 Δ d2 hr (q.keep k1) e2) fun v s2 ⟨v2, k2⟩ => ?_) hm
  refine thn (h A E s2 d1 d2 d0 u v v1 v2 w) fun r s3 ⟨⟨k, e3, e4⟩, k3⟩ => ?_
  subst e3
  subst e4
  cases e0
  exact wpAny_truthy_bool ⟨rfl, kp_trans k1 (kp_trans k2 k3)⟩
/-- == and != of ints -/
def IntM (m : Fd → Md Dt) : Prop := ∀ Δ d, m Δ = .ok d → ∃ i, d = .int i
theorem intM_c {i : Int} : IntM (mC (.int i)) := fun Δ d h => by cases h; exact ⟨i, rfl⟩
theorem intM_len : IntM (mU dLen ma) := fun Δ d h => by
  obtain ⟨d1, _, h⟩ := md_bind h
  cases d1 with
  | str x =>
    have h : (if x.length ≤ 16777216 then Md.ok (Dt.int (x.length : Int)) else .bad) = .ok d := h
    by_cases h9 : x.length ≤ 16777216
    · rw [if_pos h9] at h; cases h; exact ⟨_, rfl⟩
    · rw [if_neg h9] at h; cases h
  | lst _ => cases h; exact ⟨_, rfl⟩
  | lsk _ => cases h; exact ⟨_, rfl⟩
  | tup _ => cases h; exact ⟨_, rfl⟩
  | tpk _ => cases h; exact ⟨_, rfl⟩
  | _ => cases h
theorem dNe_int (i j : Int) : dNe (.int i) (.int j) = .ok (.bl (!(i == j))) := by
  first
  | rfl
  | (unfold dNe dEqv; rfl)
  | (unfold dNe dEqv toP; simp [Md.bind])
theorem dEq_int (i j : Int) : dEq (.int i) (.int j) = .ok (.bl (i == j)) := by
  first
  | rfl
  | (unfold dEq dEqv; rfl)
  | (unfold dEq dEqv toP; simp [Md.bind])
theorem yt_neI (i1 : IntM ma) (i2 : IntM mb) (ha : QE X a ma) (hb : QE X b mb) (hm : behindInMarks .NotEq b = false := by first | exact nomark _ | rfl) : QT X (.Compare a [.NotEq] [b] pos) (mT (mBin dNe ma mb)) := by
  intro A E s Δ q0 hr q w
  obtain ⟨d0, w, e0⟩ := md_bind w
  obtain ⟨d1, e1, w⟩ := md_bind w
  obtain ⟨d2, e2, w⟩ := md_bind w
  obtain ⟨i, rfl⟩ := i1 _ _ e1
  obtain ⟨i', rfl⟩ := i2 _ _ e2
  rw [dNe_int] at w
  cases w
  cases e0
  refine wpAny_isTrue_Compare1 (thn (ha A E s Δ _ hr q e1) fun u s1 ⟨v1, k1⟩ => thn (hb A E s1 Δ _ hr (q.keep k1) e2) fun v s2 ⟨v2, k2⟩ => ?_) hm
  cases v1
  cases v2
  exact ne_int (wpAny_truthy_bool ⟨rfl, kp_trans k1 k2⟩)
theorem yt_eqI (i1 : IntM ma) (i2 : IntM mb) (ha : QE X a ma) (hb : QE X b mb) (hm : behindInMarks .Eq b = false := by first | exact nomark _ | rfl) : QT X (.Compare a [.Eq] [b] pos) (mT (mBin dEq ma mb)) := by
  intro A E s Δ q0 hr q w
  obtain ⟨d0, w, e0⟩ := md_bind w
  obtain ⟨d1, e1, w⟩ := md_bind w
  obtain ⟨d2, e2, w⟩ := md_bind w
  obtain ⟨i, rfl⟩ := i1 _ _ e1
  obtain ⟨i', rfl⟩ := i2 _ _ e2
  rw [dEq_int] at w
  cases w
  cases e0
  refine wpAny_isTrue_Compare1 (thn (ha A E s Δ _ hr q e1) fun u s1 ⟨v1, k1⟩ => thn (hb A E s1 Δ _ hr (q.keep k1) e2) fun v s2 ⟨v2, k2⟩ => ?_) hm
  cases v1
  cases v2
  exact eq_int (wpAny_truthy_bool ⟨rfl, kp_trans k1 k2⟩)
/-- a chain of two -/
theorem y_chain {op op' : CmpOp} {f g : Dt → Dt → Md Dt} (h1 : QOp X op f) (h2 : QOp X op' g) (ha : QE X a ma) (hb : QE X b mb) (hc : QE X c mc) (hm : lastMarks [op, op'] [b, c] = false := by with_unfolding_all rfl) : QE X (.Compare a [op, op'] [b, c] pos) (mChn f g ma mb mc) := by
  intro A E s Δ d hr q w
  obtain ⟨d1, e1, w⟩ := md_bind w
  obtain ⟨d2, e2, w⟩ := md_bind w
  obtain ⟨d3, e3, w⟩ := md_bind w
  refine Compare_chain (thn (ha A E s Δ d1 hr q e1) fun u s1 ⟨v1, k1⟩ => chain_link (thn (hb A E s1 Δ d2 hr (q.keep k1) e2) fun v s2 ⟨v2, k2⟩ =>
    thn (h1 A E s2 d1 d2 d3 u v v1 v2 e3) fun r s3 ⟨⟨k, e4, e5⟩, k3⟩ => ?_)) hm
  subst e4
  subst e5
  refine wpAny_truthy_bool ?_
  have k13 := kp_trans k1 (kp_trans k2 k3)
  cases k with
  | false => cases w; exact ite_ff ⟨.bl false, k13⟩
  | true =>
    obtain ⟨d4, e6, w⟩ := md_bind (show (mc Δ).bind (fun u => g d2 u) = .ok d from w)
    refine ite_tt (chain_last (thn (hc A E s3 Δ d4 hr (q.keep k13) e6) fun u' s4 ⟨v4, k4⟩ => thn (h2 A E s4 d2 d4 d v u' v2 v4 w) fun r s5 ⟨⟨k', e7, e8⟩, k5⟩ => ?_))
    subst e7
    subst e8
    exact ⟨.bl k', kp_trans k13 (kp_trans k4 k5)⟩
/-! and, or, not, if -/
theorem y_one {op : BoolOp} (h : QE X a ma) : QE X (.BoolOp op [a] pos) ma := fun A E s Δ d hr q w => BoolOp_one (h A E s Δ d hr q w)
theorem mT_ok {Δ : Fd} {k : Bool} (h : mT ma Δ = .ok k) : ma Δ = .ok (.bl k) := by
  obtain ⟨d, e, h⟩ := md_bind h
  cases d with
  | bl q => cases h; exact e
  | _ => cases h
theorem y_and {rest : List Expr} (ha : QE X a ma) (hb : QE X (.BoolOp .And (b :: rest) pos) mb) : QE X (.BoolOp .And (a :: b :: rest) pos) (mAndV ma mb) := by
  intro A E s Δ d hr q w
  obtain ⟨k, e1, w⟩ := md_bind w
  refine BoolOp_and (thn (ha A E s Δ _ hr q (mT_ok e1)) fun u s1 ⟨v1, k1⟩ => ?_)
  cases v1
  refine wpAny_truthy_bool ?_
  cases k with
  | true => exact thn (hb A E s1 Δ d hr (q.keep k1) w) fun u2 s2 ⟨v2, k2⟩ => ⟨v2, kp_trans k1 k2⟩
  | false => cases w; exact ⟨.bl false, k1⟩
theorem y_or {rest : List Expr} (ha : QE X a ma) (hb : QE X (.BoolOp .Or (b :: rest) pos) mb) : QE X (.BoolOp .Or (a :: b :: rest) pos) (mOrV ma mb) := by
  intro A E s Δ d hr q w
  obtain ⟨k, e1, w⟩ := md_bind w
  refine BoolOp_or (thn (ha A E s Δ _ hr q (mT_ok e1)) fun u s1 ⟨v1, k1⟩ => ?_)
  cases v1
  refine wpAny_truthy_bool ?_
  cases k with
  | true => cases w; exact ⟨.bl true, k1⟩
  | false => exact thn (hb A E s1 Δ d hr (q.keep k1) w) fun u2 s2 ⟨v2, k2⟩ => ⟨v2, kp_trans k1 k2⟩
theorem y_not (ha : QE X a ma) : QE X (.UnaryOp .Not a pos) (mNotV ma) := by
  intro A E s Δ d hr q w
  obtain ⟨k, e1, w⟩ := md_bind w
  cases w
  refine UnaryOp_ (thn (ha A E s Δ _ hr q (mT_ok e1)) fun u s1 ⟨v1, k1⟩ => ?_)
  cases v1
  exact PyProof.Rows.not_of (wpAny_truthy_bool ⟨.bl (!k), k1⟩)
theorem yt_val (h : QE X e me) (he : ∀ whole, isTrue e X.env whole = (do let v ← whole; standAt e.pos; holding [v] (truthy v)) := by intro _; rfl) : QT X e (mT me) := by
  intro A E s Δ b hr q w
  refine isTrue_plain (thn (h A E s Δ _ hr q (mT_ok w)) fun u s1 ⟨v1, k1⟩ => ?_) (he _)
  cases v1
  exact wpAny_truthy_bool ⟨rfl, k1⟩
theorem yt_chain {op op' : CmpOp} {f g : Dt → Dt → Md Dt} (h1 : QOp X op f) (h2 : QOp X op' g) (ha : QE X a ma) (hb : QE X b mb) (hc : QE X c mc) (hm : lastMarks [op, op'] [b, c] = false := by with_unfolding_all rfl) : QT X (.Compare a [op, op'] [b, c] pos) (mT (mChn f g ma mb mc)) := by
  intro A E s Δ q0 hr q w
  obtain ⟨d1, e1, w⟩ := md_bind (mT_ok w)
  obtain ⟨d2, e2, w⟩ := md_bind w
  obtain ⟨d3, e3, w⟩ := md_bind w
  refine isTrue_chain (thn (ha A E s Δ d1 hr q e1) fun u s1 ⟨v1, k1⟩ => test_link (thn (hb A E s1 Δ d2 hr (q.keep k1) e2) fun v s2 ⟨v2, k2⟩ =>
    thn (h1 A E s2 d1 d2 d3 u v v1 v2 e3) fun r s3 ⟨⟨k, e4, e5⟩, k3⟩ => ?_)) hm
  subst e4
  subst e5
  refine wpAny_truthy_bool ?_
  have k13 := kp_trans k1 (kp_trans k2 k3)
  cases k with
  | false => cases w; exact ite_ff ⟨rfl, k13⟩
  | true =>
    obtain ⟨d4, e6, w⟩ := md_bind (show (mc Δ).bind (fun u => g d2 u) = .ok (.bl q0) from w)
    refine ite_tt (test_last (thn (hc A E s3 Δ d4 hr (q.keep k13) e6) fun u' s4 ⟨v4, k4⟩ => thn (h2 A E s4 d2 d4 _ v u' v2 v4 w) fun r s5 ⟨⟨k', e7, e8⟩, k5⟩ => ?_))
    subst e7
    cases e8
    exact wpAny_truthy_bool ⟨rfl, kp_trans k13 (kp_trans k4 k5)⟩
theorem yw_t (h : QW X e mt) : QT X e mt := h _
theorem yw_and1 (h : QT X a mt) : QW X (.BoolOp .And [a] pos) mt := fun wh A E s Δ b hr q w => isTrue_and (thn (h A E s Δ b hr q w) fun c s1 ⟨e1, k1⟩ => by
  subst e1
  cases c with
  | true => exact isTrue_and_nil ⟨rfl, k1⟩
  | false => exact ⟨rfl, k1⟩)
theorem yw_or1 (h : QT X a mt) : QW X (.BoolOp .Or [a] pos) mt := fun wh A E s Δ b hr q w => isTrue_or (thn (h A E s Δ b hr q w) fun c s1 ⟨e1, k1⟩ => by
  subst e1
  cases c with
  | false => exact isTrue_or_nil ⟨rfl, k1⟩
  | true => exact ⟨rfl, k1⟩)
theorem yw_and {rest : List Expr} (h : QT X a mt) (h2 : QW X (.BoolOp .And (b :: rest) pos) mu) : QW X (.BoolOp .And (a :: b :: rest) pos) (mAnd mt mu) := fun wh A E s Δ r hr q w => by
  obtain ⟨k, e, w⟩ := md_bind w
  refine isTrue_and (thn (h A E s Δ k hr q e) fun c s1 ⟨e1, k1⟩ => ?_)
  subst e1
  cases c with
  | true => exact thn (h2 wh A E s1 Δ r hr (q.keep k1) w) fun c2 s2 ⟨e2, k2⟩ => ⟨e2, kp_trans k1 k2⟩
  | false => cases w; exact ⟨rfl, k1⟩
theorem yw_or {rest : List Expr} (h : QT X a mt) (h2 : QW X (.BoolOp .Or (b :: rest) pos) mu) : QW X (.BoolOp .Or (a :: b :: rest) pos) (mOr mt mu) := fun wh A E s Δ r hr q w => by
  obtain ⟨k, e, w⟩ := md_bind w
  refine isTrue_or (thn (h A E s Δ k hr q e) fun c s1 ⟨e1, k1⟩ => ?_)
  subst e1
  cases c with
  | true => cases w; exact ⟨rfl, k1⟩
  | false => exact thn (h2 wh A E s1 Δ r hr (q.keep k1) w) fun c2 s2 ⟨e2, k2⟩ => ⟨e2, kp_trans k1 k2⟩
theorem yt_not (h : QT X a mt) : QT X (.UnaryOp .Not a pos) (mNot mt) := fun A E s Δ r hr q w => by
  obtain ⟨k, e, w⟩ := md_bind w
  cases w
  exact isTrue_not (thn (h A E s Δ k hr q e) fun c s1 ⟨e1, k1⟩ => by subst e1; exact ⟨rfl, k1⟩)
/-! statements -/
theorem yb_nil : QB X [] mNext := fun A E s Δ o hr q w => by cases w; exact wpAny_execs_nil ⟨q, .of (kp_refl s)⟩
theorem QEnd.after {s s1 s' : Shared} {o : Out} {fl : Flow} (k : Kb X.env.locals s s1) (h : QEnd X s1 o fl s') : QEnd X s o fl s' := by
  cases o with
  | rt d =>
    cases fl with
    | ret u => exact ⟨h.1, k.trans h.2⟩
    | _ => exact h.elim
  | nx Δ =>
    cases fl with
    | next => exact ⟨h.1, k.trans h.2⟩
    | _ => exact h.elim
  | bk _ => exact h.elim
  | ct _ => exact h.elim
theorem yb_one {st : Stmt} (h : QS X st mo) : QB X [st] mo := fun A E s Δ o hr q w => wpAny_execs_cons (thn (h A E s Δ o hr q w) fun fl s1 r => by
  cases fl with
  | next => exact wpAny_execs_nil r
  | ret v => exact r
  | brk => exact r
  | cont => exact r)
theorem yb_cons {st : Stmt} {rest : List Stmt} (h : QS X st mo) (h2 : QB X rest mp) : QB X (st :: rest) (mSeq mo mp) := fun A E s Δ o hr q w => by
  obtain ⟨o1, e1, w⟩ := md_bind w
  refine wpAny_execs_cons (thn (h A E s Δ o1 hr q e1) fun fl s1 r => ?_)
  cases o1 with
  | nx Δ' =>
    cases fl with
    | next => exact thn (h2 A E s1 Δ' o hr r.1 w) fun fl2 s2 r2 => r2.after r.2
    | _ => exact r.elim
  | rt d =>
    cases w
    cases fl with
    | ret u => exact r
    | _ => exact r.elim
  | bk _ => exact (by cases fl <;> exact r.elim)
  | ct _ => exact (by cases fl <;> exact r.elim)
theorem ys_if {as bs : List Stmt} (hc : QT X c mt) (h1 : QB X as mo) (h2 : QB X bs mp) : QS X (.If c as bs pos) (mIfS mt mo mp) := fun A E s Δ o hr q w => by
  obtain ⟨k, e, w⟩ := md_bind w
  refine wpAny_If (thn (hc A E s Δ k hr q e) fun d s1 ⟨e1, k1⟩ => ?_)
  subst e1
  cases d with
  | true => exact thn (h1 A E s1 Δ o hr (q.keep k1) w) fun fl s2 r => r.after (.of k1)
  | false => exact thn (h2 A E s1 Δ o hr (q.keep k1) w) fun fl s2 r => r.after (.of k1)
theorem ys_ret (h : QE X e me) : QS X (.Return (some e) pos) (mRet me) := fun A E s Δ o hr q w => by
  obtain ⟨d, e1, w⟩ := md_bind w
  cases w
  exact wpAny_Return_some (thn (h A E s Δ d hr q e1) fun u s1 ⟨v1, k1⟩ => ⟨v1, .of k1⟩)
end
end Mr
namespace Mr
open PySem L2 PySem.Spec PyProof.Rows

/-! ### quiet stores -/
def QGs (X : Qx) (es : List Expr) (tg : List Dt → Fd → Md Fd) : Prop := ∀ (A : Around) (E : Value → Shared → Prop) (s : Shared) (Δ Δ' : Fd) (us : List Value) (ds : List Dt), Qs X s Δ → Qvs X.g us ds → tg ds Δ = .ok Δ' →
  wpAny (model X.prog X.w) A (assignInOrder ((assignEach es X.env).map (·.2)) us) (fun _ s' => Qs X s' Δ' ∧ Kb X.env.locals s s') E s
section
variable {X : Qx} {x : Str} {p pos p2 : Pos} {e : Expr} {es : List Expr} {me : Fd → Md Dt} {tg : List Dt → Fd → Md Fd}
theorem q_store {A : Around} {E : Value → Shared → Prop} {s : Shared} {Δ : Fd} {u : Value} {d : Dt} (i : Nat) (q : Qs X s Δ) (hN : X.N[i]? = some x) (hx : X.env.scope.names.lookup x = some .local) (hc : X.env.cells = []) (v : Qv X.g u d) :
    wpAny (model X.prog X.w) A (storeName X.env x u) (fun _ s' => Qs X s' (Δ.set i (.sh d)) ∧ Kb X.env.locals s s') E s := by
  obtain ⟨m, hn, hl⟩ := q.loc
  refine wpAny_storeName_local hx hn (fun h' hn' hs => ?_) (by rw [q.kind]; rfl)
  have kb : ∀ b o, b ≠ X.env.locals → s.heap.get? b = some o → h'.get? b = some o := fun b o n e => (hs.2 b n).trans e
  refine ⟨⟨q.mod, q.kind, q.glob, q.blt, q.nd, fun b o e => ⟨(q.bs b o e).1, kb b o (q.bs b o e).1 (q.bs b o e).2⟩, fun b o e => ⟨(q.gs b o e).1, kb b o (q.gs b o e).1 (q.gs b o e).2⟩, _, hn', fun j y d' h1 h2 h3 => ?_⟩, ⟨h', _, rfl, kb⟩⟩
  by_cases hj : i = j
  · subst hj
    have hlt : i < Δ.length := by
      have h9 := (List.getElem?_eq_some_iff.mp h2).1
      rw [List.length_set] at h9
      exact h9
    rw [List.getElem?_set_self hlt] at h2
    cases h2
    rw [hN] at h1
    cases h1
    exact ⟨u, v, .inl ⟨hx, by simp⟩⟩
  · rw [List.getElem?_set_ne hj] at h2
    obtain ⟨u', v', l⟩ := hl j y d' h1 h2 h3
    have ne : y ≠ x := fun z => by
      subst z
      exact hj (nodup_ix q.nd hN h1)
    refine ⟨u', v', ?_⟩
    rcases l with ⟨l1, l2⟩ | ⟨a, c, e1, _⟩
    · exact .inl ⟨l1, by simp only [ne, if_false]; exact l2⟩
    · rw [hc] at e1
      cases e1
theorem yg_nil : QGs X [] gsNil := fun A E s Δ Δ' us ds q v h => by
  unfold gsNil at h
  split at h
  · cases h
    cases v
    exact assignInOrder_nil ⟨q, .of (kp_refl s)⟩
  · cases h
theorem yg_name (i : Nat) (h2 : QGs X es tg) (hN : X.N[i]? = some x := by rfl) (hx : X.env.scope.names.lookup x = some .local := by rfl) (hc : X.env.cells = [] := by rfl)
    (hs : (assignEach (.Name x pos :: es) X.env).map (·.2) = assign (.Name x pos) X.env :: (assignEach es X.env).map (·.2) := by rfl) : QGs X (.Name x pos :: es) (gsCons (gsName i) tg) := fun A E s Δ Δ' us ds q v h => by
  unfold gsCons at h
  split at h
  · obtain ⟨Δ1, e1, h⟩ := md_bind h
    cases e1
    cases v with
    | cons v1 v2 =>
      rw [hs]
      refine assignInOrder_cons (wpAny_assign_Name (thn (q_store i q hN hx hc v1) fun _ s1 ⟨q1, k1⟩ => ?_))
      exact thn (h2 A E s1 _ Δ' _ _ q1 v2 h) fun _ s2 ⟨q2, k2⟩ => ⟨q2, k1.trans k2⟩
  · cases h
theorem ys_unp {kk n : Nat} {tpos : Pos} (he : QE X e me) (hg : QGs X es tg) (hn : (assignEach es X.env).length = n := by rfl) (hst : (assignEach es X.env).findIdx? (fun x => x.fst) = none := by rfl)
    (hs : swapsWithSole [.Tuple es kk tpos] e pos.line X.env = pure false := by rfl) (hw : swappedStores [.Tuple es kk tpos] e X.env = pure none := by rfl)
    (h1 : (assignEach [.Tuple es kk tpos] X.env).map (·.2) = [assign (.Tuple es kk tpos) X.env] := by rfl) : QS X (.Assign [.Tuple es kk tpos] e pos) (mAsgT (gsTup n tg) me) := fun A E s Δ o hr q w => by
  obtain ⟨d, e1, w⟩ := md_bind w
  refine wpAny_Assign_stores (thn (he A E s Δ d hr q e1) fun u s1 ⟨v1, k1⟩ => ?_) hs hw
  rw [h1]
  have q1 := q.keep k1
  have e2 : ∃ Δ', gsTup n tg d Δ = .ok Δ' ∧ o = .nx Δ' := by
    revert w
    cases gsTup n tg d Δ with
    | ok Δ' => exact fun w => ⟨Δ', rfl, by cases w; rfl⟩
    | exc c => exact fun w => by cases w
    | bad => exact fun w => by cases w
  obtain ⟨Δ', e2, rfl⟩ := e2
  show wpAny _ A (assign (.Tuple es kk tpos) X.env u) _ _ s1
  cases v1 with
  | @tup a o' its ds n' g1 g2 g3 g4 g5 =>
    have e3 : (if ds.length = n then tg ds Δ else .bad) = .ok Δ' := e2
    by_cases hl : ds.length = n
    · rw [if_pos hl] at e3
      refine assign_Tuple_tuple hr.hd ⟨_, (q1.gs _ _ g1).2, g2, _, g3⟩ (by rw [hn, ← hl, ← g5.length]; simp) hst fun h' hx => ?_
      have k2 : Keeps s1 { s1 with heap := h' } := ⟨h', s1.toks, rfl, fun b o e => hx b o (Nat.ne_of_lt (Heap.lt_size e)) e⟩
      refine thn (hg A E _ Δ Δ' _ ds (q1.keep k2) (by simpa using g5) e3) fun _ s2 ⟨q2, k3⟩ => ⟨q2, ?_⟩
      exact (Kb.of (kp_trans k1 k2)).trans k3
    · rw [if_neg hl] at e3
      cases e3
  | _ => cases e2
end
/-! ### a quiet def -/
abbrev qxOf (P : Program) (w : World) (K : PySem.W.Frag) (mg : Str → Option Value) (base : Heap) (N : List Str) (qual : Str) (scope : Scope) (f : Addr) (cd : Value) (k : Nat) (L : Addr) (g : Oh) : Qx where
  prog := P
  w := w
  K := K
  mg := mg
  base := base
  env := envOfC qual scope L f cd
  N := N
  k := k
  g := g
theorem startD_at {n : Nat} {ds : List Dt} {i : Nat} {d : Dt} (h : (startD n ds)[i]? = some (.sh d)) : ds[i]? = some d := by
  unfold startD at h
  by_cases hi : i < ds.length
  · rw [List.getElem?_append_left (by rw [List.length_map]; exact hi), List.getElem?_map] at h
    cases q : ds[i]? with
    | none => rw [q] at h; cases h
    | some d' => rw [q] at h; cases h; rfl
  · rw [List.getElem?_append_right (by rw [List.length_map]; omega), List.getElem?_replicate] at h
    split at h <;> cases h
theorem q_def {P : Program} {W : World} {K : PySem.W.Frag} {mg : Str → Option Value} {base : Heap} {x : Str} {st : Stmt} {f : Addr} {fd : FuncData} {N ps : List Str} {k n : Nat} {nw : Bool} {ms : Fd → Md Out} (hn : N.length = n) (F : Fun K x x st f fd) (S : FnScope N ps (defScope st)) (hm : mg x = some (.ref f)) (hb : Binds K fd ps [])
    (hcl : ∀ L, cellsFrom L (defScope st).names [] = [])
    (body : ∀ (cdv : Value) (L : Addr) (g : Oh), QB (qxOf P W K mg base N x (defScope st) f cdv k L g) (defBody st) ms) :
    QDef P W K mg base (k + 1) x ps.length (mDef nw n ms) := by
  subst hn
  refine ⟨f, hm, F.kp, fun A E s g us ds d hr mod bk gk v hlen w => ?_⟩
  obtain ⟨oc, od, kV, doc, pm, an, cdv, ct, osl, rfl, lk, hcd⟩ := F.ex
  have KX : K.In s.heap := mod.kin.keeps bk
  have hlu : us.length = ps.length := v.length.trans hlen
  have hpl : ps.length ≤ N.length := by
    have := congrArg List.length S.pre
    rw [List.length_take] at this
    omega
  have hkind : ∀ y ∈ ps.zip us, (defScope st).names.lookup y.1 = some .local ∨ ((defScope st).names.lookup y.1 = some .cell ∧ ((cellsFrom (s.heap.objs.size + 1) (defScope st).names []).lookup y.1).isSome = true) := fun ⟨nm, val⟩ hy => by
    rcases S.par nm (List.of_mem_zip hy).1 with q | q
    · exact .inl q
    · exact .inr ⟨q, PySem.W.cellsFrom_some _ _ _ (.inl q)⟩
  have hb2 := hb s us KX (by rw [List.append_nil]; exact hlu)
  rw [List.append_nil] at hb2
  refine wpAny_call (codeAny_call_function hr.depth (KX _ _ lk) rfl S.co S.gen rfl (PySem.W.codeRec_of KX hcd) (hb2 _ _ _ _ ?_))
  refine wpAny_newFunctionEnv_cells S.kind hkind fun env he s1 xx => ?_
  subst he
  refine ⟨(mod.nolimit.keeps bk).keeps xx.toInCall.keep, codeAny_func ?_⟩
  obtain ⟨o, e1, w⟩ := md_bind w
  have keep1 := xx.toInCall.keep
  have hk1 : Keeps s s1 := by
    obtain ⟨h1, tk, rfl, hk⟩ := xx.done
    exact ⟨h1, tk, rfl, hk⟩
  have q : Qs (qxOf P W K mg base N x (defScope st) f cdv k s.heap.objs.size g) s1 (startD N.length ds) := by
    refine ⟨mod, S.kind, rfl, rfl, S.nd, fun b o e => ⟨Nat.ne_of_lt (Heap.lt_size (bk b o e)), keep1 b o (bk b o e)⟩, fun b o e => ⟨Nat.ne_of_lt (Heap.lt_size (gk b o e)), keep1 b o (gk b o e)⟩, _, xx.toInCall.ns, fun i y d' h1 h2 h3 => ?_⟩
    have h2 := startD_at h2
    have hi : i < ps.length := by
      have := (List.getElem?_eq_some_iff.mp h2).1
      omega
    have hp : ps[i]? = some y := by
      rw [← S.pre, List.getElem?_take_of_lt (by omega)]
      exact h1
    obtain ⟨u, hu, qv⟩ := v.at h2
    have ndP : ps.Nodup := by rw [← S.pre]; exact S.nd.sublist (List.take_sublist _ _)
    rcases S.par y (List.mem_of_getElem? hp) with c1 | c1
    · exact ⟨u, qv, .inl ⟨c1, bindL_get ndP hp hu c1⟩⟩
    · obtain ⟨c, e⟩ := cell_has (n := s.heap.objs.size + 1) c1
      rw [hcl] at e
      cases e
  refine thn (body cdv s.heap.objs.size g (A.deeper _) _ s1 _ o (hr.deeper _) q e1) fun fl s2 r => ?_
  have fin : Kb s.heap.objs.size s1 s2 → Keeps s s2 := fun k2 => by
    obtain ⟨h1, t1, rfl, k1⟩ := hk1
    obtain ⟨h2, t2, rfl, k2⟩ := k2
    exact ⟨h2, t2, rfl, fun b o e => k2 b o (Nat.ne_of_lt (Heap.lt_size e)) (k1 b o e)⟩
  cases o with
  | rt d' =>
    cases w
    cases fl with
    | ret u => exact ⟨r.1, fin r.2⟩
    | _ => exact r.elim
  | nx Δ' =>
    cases fl with
    | next =>
      cases nw with
      | true => cases w
      | false => cases w; exact ⟨.non, fin r.2⟩
    | _ => exact r.elim
  | bk _ => cases w
  | ct _ => cases w
end Mr
namespace Mr
open PySem L2 PySem.Spec PyProof.Rows

/-! ### all(.. for x in a list): the element is quiet code -/
def cut : Sd → Sd
  | .sh d => if qok d = true then .sh d else .un
  | _ => .un
def allB (f : Dt → Md Dt) : List Dt → Option (List Bool)
  | [] => some []
  | d :: r => match f d, allB f r with
    | .ok (.bl q), some bs => some (q :: bs)
    | _, _ => none
def mGen (i : Nat) (fin : List Bool → Bool) (mi : Fd → Md Dt) (me : Fd → Md Dt) : Fd → Md Dt := fun Δ => (mi Δ).bind fun d => match d with
  | .lst ds => if qok.go ds = true ∧ i < Δ.length then (match allB (fun d => me ((Δ.map cut).set i (.sh d))) ds with
    | some bs => .ok (.bl (fin bs))
    | none => .bad) else .bad
  | _ => .bad
theorem allB_cons {f : Dt → Md Dt} {d : Dt} {r : List Dt} {bs : List Bool} (h : allB f (d :: r) = some bs) : ∃ q t, bs = q :: t ∧ f d = .ok (.bl q) ∧ allB f r = some t := by
  unfold allB at h
  split at h
  · rename_i q t e1 e2
    cases h
    exact ⟨q, t, rfl, e1, e2⟩
  · cases h
theorem allB_len {f : Dt → Md Dt} : ∀ {ds : List Dt} {bs : List Bool}, allB f ds = some bs → bs.length = ds.length
  | [], _, h => by cases h; rfl
  | d :: r, bs, h => by
    obtain ⟨q, t, rfl, _, e⟩ := allB_cons h
    exact congrArg (· + 1) (allB_len e)
theorem allB_at {f : Dt → Md Dt} : ∀ {ds : List Dt} {bs : List Bool} {i : Nat} {d : Dt}, allB f ds = some bs → ds[i]? = some d → ∃ b, bs[i]? = some b ∧ f d = .ok (.bl b)
  | [], _, _, _, _, e => by simp at e
  | d :: r, bs, 0, d', h, e => by
    obtain ⟨q, t, rfl, e1, _⟩ := allB_cons h
    cases e
    exact ⟨q, rfl, e1⟩
  | d :: r, bs, i + 1, d', h, e => by
    obtain ⟨q, t, rfl, _, e2⟩ := allB_cons h
    exact allB_at (i := i) e2 e
/-- what the generator expression asks for; its frame as it is seen from within -/
structure GenIn (K : PySem.W.Frag) (P : Addr) (i : Nat) (me : Fd → Md Dt) (σ : L2.St) (H : Hp) (v : V) (ds : List Dt) (Δ : Fd) (bs : List Bool) : Prop where
  lst : Rp K H v (.lst ds)
  ok : qok.go ds = true
  fr : ∀ (j : Nat) (d : Dt), Δ[j]? = some (.sh d) → qok d = true ∧ ∃ x, σ[j]? = some (some x) ∧ Rp K H x d
  li : i < Δ.length
  run : allB (fun d => me (Δ.set i (.sh d))) ds = some bs
  tab : GxR.TabG H P
def tGen (K : PySem.W.Frag) (P : Addr) (i : Nat) (me : Fd → Md Dt) (fin : List Bool → Bool) (ti : TE) : TE := fun σ H Q => ti σ H fun v H1 => ∃ ds Δ bs, GenIn K P i me σ H1 v ds Δ bs ∧ ∀ H2, GxR.Tabbed P H1 H2 → Q (.bl (fin bs)) H2
theorem ex_tabbed {P : Addr} {H1 H2 : Hp} (t : GxR.TabG H1 P) (h : GxR.Tabbed P H1 H2) : Ex H1 H2 := by
  obtain ⟨⟨qs, e1, e2⟩, h3⟩ := h
  obtain ⟨ps, e4, e5⟩ := t
  refine ⟨fun b o e n => ?_, fun P' ps' e => ?_⟩
  · have nb : b ≠ P := fun z => by
      subst z
      rw [e4] at e
      cases e
      exact n ps rfl
    rw [h3 b nb]
    exact e
  · by_cases z : P' = P
    · subst z
      exact ⟨qs, e1, fun _ => e2⟩
    · exact ⟨ps', by rw [h3 P' z]; exact e, fun t => t⟩
theorem cut_at {Δ : Fd} {j : Nat} {d : Dt} (h : (Δ.map cut)[j]? = some (.sh d)) : Δ[j]? = some (.sh d) ∧ qok d = true := by
  rw [List.getElem?_map] at h
  cases q : Δ[j]? with
  | none => rw [q] at h; cases h
  | some e =>
    rw [q] at h
    cases e with
    | sh d' =>
      have h : (if qok d' = true then Sd.sh d' else .un) = .sh d := Option.some.inj h
      by_cases z : qok d' = true
      · rw [if_pos z] at h; cases h; exact ⟨rfl, z⟩
      · rw [if_neg z] at h; cases h
    | _ => cases h
theorem snd_gen {W : Wo} {ti : TE} {mi me : Fd → Md Dt} {P : Addr} {i : Nat} {fin : List Bool → Bool} (h : SndE W .s ti mi) (hP : P ∈ W.T) : SndE W .s (tGen W.K P i me fin ti) (mGen i fin mi me) := by
  intro G B H S σ Δ Q s w
  refine h G B H S σ Δ _ s (w.bind.mono (fun d k v H1 S1 g r _ => ?_) fun _ z => z)
  cases d with
  | lst ds =>
    have k : Wp (if qok.go ds = true ∧ i < Δ.length then (match allB (fun d => me ((Δ.map cut).set i (.sh d))) ds with
      | some bs => Md.ok (Dt.bl (fin bs))
      | none => .bad) else .bad) _ _ := k
    by_cases hq : qok.go ds = true ∧ i < Δ.length
    · rw [if_pos hq] at k
      have s1 := s.grow g
      have tb := s1.tb P hP
      cases hb : allB (fun d => me ((Δ.map cut).set i (.sh d))) ds with
      | none => rw [hb] at k; exact k.elim
      | some bs =>
        rw [hb] at k
        refine ⟨ds, Δ.map cut, bs, ⟨r.mono g.sh, hq.1, fun j d e => ?_, by rw [List.length_map]; exact hq.2, hb, tb⟩, fun H2 ht => ?_⟩
        · obtain ⟨e1, e2⟩ := cut_at e
          obtain ⟨x, e3, e4⟩ := s1.shd j d e1
          exact ⟨e2, x, e3, e4.mono g.sh⟩
        · have ex := ex_tabbed tb ht
          exact k _ H2 S1 (g.trans ⟨ex, Ex.refl S1, g.sh.trans ex, fun _ _ z => z⟩) (.bl _) trivial
    · rw [if_neg hq] at k
      exact k.elim
  | _ => exact k.elim
end Mr
namespace Mr
open PySem L2 PySem.Spec PyProof.Rows

/-- the element's surroundings: the block's frame at C -/
abbrev gxOf (X : Cx) (scope : Scope) (k : Nat) (g : Oh) (C : Addr) (cv : Value) : Qx where
  prog := X.prog
  w := X.w
  K := X.K
  mg := X.mg
  base := X.base
  env := genEnv scope (cloFrom X.env.cells scope.names []) C cv builtinsNs X.env
  N := X.N
  k := k
  g := g
/-- the generator, made and not yet walked -/
def Made (X : Cx) (pins : List (Addr × Obj)) (σ : L2.St) (H1 : Hp) (P : Addr) (bs : List Bool) (g : Addr) (s5 : Shared) : Prop :=
  ∃ (fp wr : List Addr) (G : Array GenState → Array GenState → Prop) (F : Nat → Value → Prop) (St : Nat → Shared → Prop),
    WalksS X.prog X.w X.A.in1 g fp wr G bs.length F St ∧ St 0 s5 ∧
    TruthOf X.prog X.w X.A.in1 F (fun j => (bs[j]?).getD false) ∧
    ∀ s', Moved wr G s5 s' → ∃ H2, GxR.Tabbed P H1 H2 ∧ Inv X pins σ H2 s'
section
variable {X : Cx} {pins : List (Addr × Obj)} {σ : L2.St} {H : Hp} {s : Shared}
theorem room_in {k : Nat} {A A' : Around} (r : Room (k + 1) A) (h : A'.handled = none) (hd : A'.depth ≤ A.depth + 1) (hu : A'.units ≤ A.units + 8) : Room k A' :=
  ⟨h, by have := r.dp; omega, by have := r.un; omega⟩
theorem gen_list {c P : Addr} {elt iter : Expr} {x : Str} {px gpos : Pos} {scope : Scope} {me : Fd → Md Dt} {ti : TE} {k i : Nat} {Q' : Value → Shared → Prop} {R : List Bool → Hp → Prop}
    (hr : Room (k + 1) X.A) (TB : GxR.TabB X.base X.mg c P) (hcode : X.env.code = .ref c) (ok : BlkOk X.N X.env.scope scope [(x, i)]) (nd : X.N.Nodup) (hco : scope.isCoroutine = false) (hcell : ∀ y ∈ scope.names, y.2 ≠ .cell) (hdot : scope.names.lookup (".0" : Str) = some NameKind.local) (hloc : scope.names.lookup x = some .local)
    (hi : PE X iter ti) (hel : ∀ (g : Oh) (C : Addr) (cv : Value), QE (gxOf X scope k g C cv) elt me) (hs : ∀ v, genFold iter X.env v = pure v) (I : Inv X pins σ H s)
    (h : ti σ H fun v H1 => ∃ ds Δ bs, GenIn X.K P i me σ H1 v ds Δ bs ∧ R bs H1) (hQ : ∀ bs H1 g s5, R bs H1 → Made X pins σ H1 P bs g s5 → Q' (.ref g) s5) :
    wpAny (model X.prog X.w) X.A (eval (.GeneratorExp elt [⟨.Name x px, iter, [], 0⟩] scope gpos) X.env) Q' X.xe s := by
  have hfree : ∀ y ∈ scope.names, y.2 = .free → ∃ c, X.env.cells.lookup y.1 = some c := fun y hy e => by
    rcases ok.free y hy e with z | z
    · exact I.ok.has _ (.inl z)
    · exact I.ok.has _ (.inr z)
  refine wpAny_GeneratorExp_walksQD hr.hd hco (closure_ok hfree) hcell hdot hloc ok.kind (by have := hr.dp; omega) ?_ hs
  refine thn (hi.run pins s σ H _ I h) fun xv s1 ⟨v, H1, I1, r1, q1⟩ => ?_
  obtain ⟨ds, Δ, bs, gi, q1⟩ := q1
  obtain ⟨ps, hP, ht⟩ := gi.tab
  have hPs : s1.heap.get? P = some { cls := .none, data := .fields ps } := I1.hok P _ hP
  obtain ⟨l, vs, rfl, hlst, rvs⟩ : ∃ l vs, v = .ref l ∧ H1 l = some (.lst vs) ∧ RpL X.K H1 vs ds := by
    cases gi.lst with
    | lst a b => exact ⟨_, _, rfl, a, b⟩
  cases r1
  obtain ⟨its, rv, ⟨ol, nl, e1, e2, e3, e4⟩, hz⟩ := I1.list (.of hlst : SqL X.K H1 l vs)
  have hl : s1.heap.IsList l its.toArray := ⟨ol, e1, e2, nl, e4⟩
  have hlen : its.toArray.size = bs.length := by
    rw [allB_len gi.run, ← rvs.length, rv.length]
    simp
  have hlt : l < s1.heap.objs.size := Heap.lt_size e1
  refine wpAny_pyIter_list hl ?_
  generalize ho : ({ cls := .type "list_iterator", data := .fields #[.ref l, .int 0 0] } : Obj) = o
  have hPlt : P < s1.heap.objs.size := Heap.lt_size hPs
  have hP2 : (s1.heap.push o).get? P = some { cls := .none, data := .fields ps } := Heap.get?_push_of_some _ hPs
  have cd : PySem.W.CodeHd (s1.heap.push o) c P := TB.code.keeps fun b u e => Heap.get?_push_of_some _ (I1.bk b u e)
  have lim2 : (s1.heap.push o).NoLimit := I1.nolimit.push o
  let g : Oh := fun b => if b = P then none else s1.heap.get? b
  have gat : ∀ {b u}, g b = some u → b ≠ P ∧ s1.heap.get? b = some u := fun {b u} e => by
    have e : (if b = P then none else s1.heap.get? b) = some u := e
    by_cases z : b = P
    · rw [if_pos z] at e; cases e
    · rw [if_neg z] at e; exact ⟨z, e⟩
  have gin : ∀ b u, s1.heap.get? b = some u → u.cls ≠ .none → g b = some u := fun b u e n => by
    show (if b = P then none else s1.heap.get? b) = some u
    by_cases z : b = P
    · subst z
      rw [hPs] at e
      cases e
      exact absurd rfl n
    · rw [if_neg z]; exact e
  have bP : ∀ b u, X.base.get? b = some u → b ≠ P := fun b u e z => by
    have := (I1.bs b u e).2
    rw [z, hP] at this
    cases this
  have qits : Qvs g its ds := qvs_of I1 gin gi.ok rvs rv
  have cont : ∀ (code : Value) (h3 : Heap) (tk : Nat) (ps' : Array Value), Heap.ExtBut P (s1.heap.push o) h3 → (s1.heap.push o).objs.size ≤ h3.objs.size → h3.get? P = some { cls := .none, data := .fields ps' } → (∃ more, ps' = ps ++ more) → TriplesOk ps'.toList →
      wpAny (model X.prog X.w) X.A (builtinsFor X.env.globals X.env.builtins) (fun bi s₄ =>
        ∃ Ia fp wr n₀ Pf St₀ pz F, Value.ref s1.heap.objs.size = .ref Ia ∧ (∀ A' : Around, A'.handled = none → PySem.Walks X.prog X.w A' Ia fp wr n₀ Pf St₀) ∧ St₀ 0 s₄.heap ∧ (∀ b ∈ fp, b < s₄.heap.objs.size) ∧ s₄.heap.NoLimit ∧ cStatics ∉ wr ∧
          (∀ href : Heap, (∀ b o, s₄.heap.get? b = some o → href.get? b = some o) →
            QuietGenD X.prog X.w (genEnv scope (cloFrom X.env.cells scope.names []) s₄.heap.objs.size code bi X.env) x [] elt (List.range s₄.heap.objs.size) wr Pf pz F href (X.A.depth + 1) (X.A.units + 8)) ∧
          (∀ a h₅ tk gs, gs.bare = true → s₄.heap.objs.size < a → h₅.objs.size = a + 1 → (∀ b o, s₄.heap.get? b = some o → h₅.get? b = some o) →
            WalksS X.prog X.w X.A.in4 a (a :: s₄.heap.objs.size :: List.range s₄.heap.objs.size) (s₄.heap.objs.size :: wr) (GenOnlyQ s₄.gens.size) (passing pz n₀ 0).length
              (fun j y => ∃ i, (passing pz n₀ 0)[j]? = some i ∧ F i y) (GenAt X.prog X.w X.A.in4 a s₄.gens.size s₄.heap.objs.size (List.range s₄.heap.objs.size) wr pz n₀ F) →
            GenAt X.prog X.w X.A.in4 a s₄.gens.size s₄.heap.objs.size (List.range s₄.heap.objs.size) wr pz n₀ F 0 { s₄ with gens := s₄.gens.push gs, toks := tk, heap := h₅ } →
            Q' (.ref a) { s₄ with gens := s₄.gens.push gs, toks := tk, heap := h₅ })) X.xe { s1 with heap := h3, toks := tk } := by
    intro code h3 tk ps' hx hsz hP3 hmore ht3
    obtain ⟨bm, ob, f1, f2, f3, f4, f5, f6, f7, f8⟩ := TB.bm
    have hcP : cStatics ≠ P := fun e => by
      obtain ⟨_, hns, _⟩ := I1.nolimit
      obtain ⟨o', es, ep, ho, hd, _⟩ := hns
      rw [e, hPs] at ho
      cases ho
      cases hd
    have hcl : cStatics < s1.heap.objs.size := let ⟨_, hns, _⟩ := I1.nolimit; hns.lt
    have sz2 : (s1.heap.push o).objs.size = s1.heap.objs.size + 1 := Heap.size_push ..
    have keep3 : ∀ b u, b ≠ P → s1.heap.get? b = some u → h3.get? b = some u := fun b u hb e => hx b u hb (Heap.get?_push_of_some _ e)
    have iat : h3.get? s1.heap.objs.size = some o := hx _ _ (fun z => Nat.lt_irrefl _ (z ▸ hPlt)) (Heap.get?_push_size _ (by rw [← ho]; rfl))
    have notw : ∀ b u, s1.heap.get? b = some u → b ∉ [s1.heap.objs.size] := fun b u e z => by
      have := Heap.lt_size e
      rcases List.mem_cons.mp z with z | z
      · rw [z] at this; exact Nat.lt_irrefl _ this
      · cases z
    refine wpAny_builtinsFor (m := X.mg) (by rw [I1.ok.glob]; exact ((I1.mod.glob.keeps I1.bk).push o).extBut hx TB.gP) f1 f2 (keep3 _ _ f4 (I1.bk _ _ f5)) f6 f7 f8 ?_
    refine ⟨s1.heap.objs.size, [s1.heap.objs.size, l], [s1.heap.objs.size], its.toArray.size, _, _, (fun _ => true), (fun j y => ∃ b, bs[j]? = some b ∧ y = .bool b), rfl, (fun A' hA => PySem.Walks.list hA _ _ (Nat.ne_of_lt hlt) its.toArray), ⟨⟨o, iat, (by subst ho; rfl), (by subst ho; rfl)⟩, ⟨ol, keep3 _ _ (fun z => ?_) e1, e2, nl, e4⟩⟩, ?_, lim2.extBut hx hcP, ?_, ?_, ?_⟩
    · rw [z, hPs] at e1
      cases e1
      cases e2
    · intro b hb
      show b < h3.objs.size
      have h9 : s1.heap.objs.size < h3.objs.size := Nat.lt_of_lt_of_le (by rw [sz2]; exact Nat.lt_succ_self _) hsz
      rcases List.mem_cons.mp hb with z | z
      · exact z ▸ h9
      · rcases List.mem_cons.mp z with z | z
        · exact z ▸ Nat.lt_trans hlt h9
        · cases z
    · intro z
      rcases List.mem_cons.mp z with z | z
      · exact Nat.ne_of_lt hcl z
      · cases z
    · intro href hhref
      have old : ∀ (s₂ : Shared), (∀ b ∈ List.range h3.objs.size, b ∉ [s1.heap.objs.size] → ∀ o, href.get? b = some o → s₂.heap.get? b = some o) → ∀ b u, b ≠ P → s1.heap.get? b = some u → b ≠ h3.objs.size ∧ s₂.heap.get? b = some u := fun s₂ hk b u nb e => by
        have e3 := keep3 b u nb e
        have l3 := Heap.lt_size e3
        exact ⟨Nat.ne_of_lt l3, hk b (List.mem_range.mpr l3) (notw b u e) u (hhref b u e3)⟩
      refine ⟨fun A' E' j v s₂ m₂ hA _ _ hPv hn hm hk => ?_, fun A' E' j v s₂ m₂ hA hD hU hPv hp hn hm hk => ?_⟩
      · simp only [List.forIn_nil]
        exact wpAny_pure ⟨rfl, kp_refl _⟩
      · have hPv : its.toArray[j]? = some v := hPv
        rw [List.getElem?_toArray] at hPv
        obtain ⟨d, hd, qd⟩ := qits.get hPv
        obtain ⟨b, hb, hme⟩ := allB_at gi.run hd
        have o2 := old s₂ hk
        refine thn (hel g h3.objs.size code A' E' s₂ (Δ.set i (.sh d)) (.bl b) (room_in hr hA hD hU) ⟨I1.mod, ok.kind, I1.ok.glob, rfl, nd, fun b u e => o2 b u (bP b u e) (I1.bk b u e), fun b u e => o2 b u (gat e).1 (gat e).2, m₂, hn, fun t y d' h1 h2 h3' => ?_⟩ hme) fun y s3 ⟨qy, k3⟩ => ?_
        · have own := ok.own
          have hix : X.N[i]? = some x := ok.ix (x, i) (by simp)
          have hv : scope.names.lookup y = some .local ∨ scope.names.lookup y = some .cell ∨ scope.names.lookup y = some .free := h3'
          rcases hv with hv | hv | hv
          · rcases own _ (PySem.mem_of_lookup hv) (.inl rfl) with z | z
            · have z : y = x := by simpa using z
              subst z
              have := nodup_ix nd h1 hix
              subst this
              rw [List.getElem?_set_self gi.li] at h2
              cases h2
              exact ⟨v, qd, .inl ⟨hv, hm⟩⟩
            · exact absurd (List.mem_of_getElem? h1) z
          · exact absurd rfl (hcell _ (PySem.mem_of_lookup hv))
          · have ne : i ≠ t := fun z => by
              subst z
              rw [hix] at h1
              cases h1
              rw [hloc] at hv
              cases hv
            rw [List.getElem?_set_ne ne] at h2
            obtain ⟨qk, xv, hx1, rp⟩ := gi.fr t d' h2
            have hfr := ok.free _ (PySem.mem_of_lookup hv) rfl
            obtain ⟨m, _, hlk⟩ := I1.loc
            obtain ⟨u, ru, lk⟩ := hlk t y xv h1 hx1 (.inr hfr)
            have hc2 : ∃ c, X.env.cells.lookup y = some c ∧ s1.heap.IsCell c (some u) := by
              rcases lk with ⟨l1, _⟩ | ⟨_, c, l1, l2⟩
              · have l1 : X.env.scope.names.lookup y = some .local := l1
                rcases hfr with z | z <;> (rw [z] at l1; cases l1)
              · exact ⟨c, l1, l2⟩
            obtain ⟨cc, hcc, oc, hoc, hdc⟩ := hc2
            have hlc : (cloFrom X.env.cells scope.names []).lookup y = some cc := by
              obtain ⟨c', e'⟩ := mem_lookup (cloFrom_has (cells := X.env.cells) (acc := []) (PySem.mem_of_lookup hv))
              rcases cloFrom_mem (PySem.mem_of_lookup e') with z | ⟨_, z⟩
              · cases z
              · rw [hcc] at z
                rw [e', z]
                rfl
            refine ⟨u, qv_of I1 gin qk rp ru, .inr ⟨.inr hv, cc, hlc, oc, (o2 cc oc (fun z => ?_) hoc).2, hdc⟩⟩
            rw [z, hPs] at hoc
            cases hoc
            cases hdc
        · cases qy
          exact ⟨⟨b, hb, rfl⟩, k3⟩
    · intro gg h5 tk5 gs hgb hag hsz5 hk5 W5 hat
      simp only [GxR.passing_true, List.length_range] at W5
      rw [hlen] at W5 hat
      refine hQ bs H1 gg _ q1 ⟨_, _, _, _, _, W5.in4_1, hat, ?_, fun s' hm => ?_⟩
      · intro j y sj Qj Ej hy hQj
        obtain ⟨i2, hij, b, hb, rfl⟩ := hy
        obtain ⟨hj, ej⟩ := List.getElem?_eq_some_iff.mp hij
        rw [List.getElem_range] at ej
        subst ej
        have hQ2 : Qj ((bs[j]?).getD false) sj := hQj
        rw [hb] at hQ2
        exact wpAny_truthy_bool hQ2
      · obtain ⟨more, em⟩ := hmore
        have nwr : ∀ b u, s1.heap.get? b = some u → b ∉ h3.objs.size :: [s1.heap.objs.size] := fun b u e hb => by
          have hl := Heap.lt_size e
          rcases List.mem_cons.mp hb with z | z
          · rw [z] at hl
            have h9 : (h3.objs.size : Nat) < s1.heap.objs.size := hl
            omega
          · exact notw b u e z
        have J := GxR.inv_tab (more := more) (h' := s'.heap) (g' := s'.gens) (d' := s'.drawn) (t' := s'.toks) I1 hP (fun b u hb e => hm.heap b u (nwr b u e) (hk5 b u (keep3 b u hb e)))
          (by rw [← em]; exact hm.heap P _ (nwr P _ hPs) (hk5 P _ hP3)) (AllBare.movedS (I1.bare.push hgb) hm)
        rw [GxR.sh_eta s1 s' hm.os] at J
        exact ⟨upd H1 P (.tbl (ps ++ more)), ⟨⟨ps ++ more, upd_same, by rw [← em]; exact ht3⟩, fun b hb => upd_ne hb⟩, J⟩
  refine ⟨lim2, ?_⟩
  cases hf : codeAmong gpos ps.toList with
  | none =>
    refine wpAny_genexprCodeX hcode (cd.code hP2 ht) (cd.tab hP2) hf fun c' h' tk hx hge hlt hco' _ htab' _ => ?_
    obtain ⟨o1, vs, g1, tf, fl, tg, inF, tx, tt, op, _, _, _, _, _, _, _, _, _, htr, _⟩ := hco'
    exact cont _ h' tk _ hx (Nat.le_trans hge (Nat.le_of_lt hlt)) htab'.2 ⟨_, rfl⟩ htr
  | some cv =>
    refine wpAny_genexprCode_hit hcode (cd.code hP2 ht) hf ?_
    exact cont cv (s1.heap.push o) s1.toks ps (Heap.ExtBut.refl _ _) (Nat.le_refl _) hP2 ⟨#[], by simp⟩ ht
end
end Mr
namespace Mr
open PySem L2 PySem.Spec PyProof.Rows
section
variable {X : Cx} {T : List Addr} {E : XK} {p pos px gpos : Pos} {k i : Nat} {c P : Addr} {elt iter : Expr} {x : Str} {scope : Scope} {ti : TE} {mi me : Fd → Md Dt}
theorem all_at (bs : List Bool) : (List.range bs.length).all (fun j => (bs[j]?).getD false) = bs.all id := by
  rw [Bool.eq_iff_iff, List.all_eq_true, List.all_eq_true]
  constructor
  · intro h b hb
    obtain ⟨j, hj, e⟩ := List.getElem_of_mem hb
    have q := h j (List.mem_range.mpr hj)
    rw [List.getElem?_eq_getElem hj, e] at q
    exact q
  · intro h j hj
    have hj' := List.mem_range.mp hj
    rw [List.getElem?_eq_getElem hj']
    exact h _ (List.getElem_mem hj')
theorem any_at (bs : List Bool) : (List.range bs.length).any (fun j => (bs[j]?).getD false) = bs.any id := by
  rw [Bool.eq_iff_iff, List.any_eq_true, List.any_eq_true]
  constructor
  · intro ⟨j, hj, q⟩
    have hj' := List.mem_range.mp hj
    rw [List.getElem?_eq_getElem hj'] at q
    exact ⟨_, List.getElem_mem hj', q⟩
  · intro ⟨b, hb, q⟩
    obtain ⟨j, hj, e⟩ := List.getElem_of_mem hb
    refine ⟨j, List.mem_range.mpr hj, ?_⟩
    rw [List.getElem?_eq_getElem hj, e]
    exact q
theorem pe_allG (hr : Room (k + 1) X.A) (hg : Gl X "all") (hm : X.mg "all" = none) (TB : GxR.TabB X.base X.mg c P) (hcode : X.env.code = .ref c) (ok : BlkOk X.N X.env.scope scope [(x, i)]) (nd : X.N.Nodup) (hco : scope.isCoroutine = false) (hcell : ∀ y ∈ scope.names, y.2 ≠ .cell)
    (hdot : scope.names.lookup (".0" : Str) = some NameKind.local) (hloc : scope.names.lookup x = some .local) (hi : PE X iter ti) (hel : ∀ (g : Oh) (C : Addr) (cv : Value), QE (gxOf X scope k g C cv) elt me) (hs : ∀ v, genFold iter X.env v = pure v)
    (he : starEach [.GeneratorExp elt [⟨.Name x px, iter, [], 0⟩] scope gpos] X.env = (false, eval (.GeneratorExp elt [⟨.Name x px, iter, [], 0⟩] scope gpos) X.env) :: starEach [] X.env) :
    PE X (.Call (.Name "all" p) [.GeneratorExp elt [⟨.Name x px, iter, [], 0⟩] scope gpos] [] pos) (tGen X.K P i me (fun bs => bs.all id) ti) := by
  refine ⟨fun pins s σ H Q I h => ?_⟩
  refine wpAny_Call_Name_kw (ld_blt I hg hm (u := .builtin "all") (by decide +kernel) ?_)
  refine PyProof.Rows.callWith_builtin1 ?_ he rfl
  rw [he]
  show wpAny _ _ (spliced ((false, _) :: backTo pos (starEach [] X.env))) _ _ s
  have h2 : ti σ H fun v H1 => ∃ ds Δ bs, GenIn X.K P i me σ H1 v ds Δ bs ∧ ∀ H2, GxR.Tabbed P H1 H2 → Q (.bl (bs.all id)) H2 := h
  refine Calls.spliced_cons (gen_list (R := fun bs H1 => ∀ H2, GxR.Tabbed P H1 H2 → Q (.bl (bs.all id)) H2) hr TB hcode ok nd hco hcell hdot hloc hi hel hs I h2 fun bs H1 g s5 hR hG => ?_)
  obtain ⟨fp, wr, G, F, St, W, hst, htr, hI⟩ := hG
  refine Calls.spliced_nil ?_
  refine call_all_walkS (W.self 0 _ _ _ hst ⟨g, fp, wr, G, _, F, St, _, rfl, W, hst, htr, fun s' hmv => ?_⟩)
  obtain ⟨H2, hT, J⟩ := hI s' hmv
  exact ⟨.bl _, H2, J, rfl, by rw [all_at bs]; exact hR H2 hT⟩
theorem pe_anyG (hr : Room (k + 1) X.A) (hg : Gl X "any") (hm : X.mg "any" = none) (TB : GxR.TabB X.base X.mg c P) (hcode : X.env.code = .ref c) (ok : BlkOk X.N X.env.scope scope [(x, i)]) (nd : X.N.Nodup) (hco : scope.isCoroutine = false) (hcell : ∀ y ∈ scope.names, y.2 ≠ .cell)
    (hdot : scope.names.lookup (".0" : Str) = some NameKind.local) (hloc : scope.names.lookup x = some .local) (hi : PE X iter ti) (hel : ∀ (g : Oh) (C : Addr) (cv : Value), QE (gxOf X scope k g C cv) elt me) (hs : ∀ v, genFold iter X.env v = pure v)
    (he : starEach [.GeneratorExp elt [⟨.Name x px, iter, [], 0⟩] scope gpos] X.env = (false, eval (.GeneratorExp elt [⟨.Name x px, iter, [], 0⟩] scope gpos) X.env) :: starEach [] X.env) :
    PE X (.Call (.Name "any" p) [.GeneratorExp elt [⟨.Name x px, iter, [], 0⟩] scope gpos] [] pos) (tGen X.K P i me (fun bs => bs.any id) ti) := by
  refine ⟨fun pins s σ H Q I h => ?_⟩
  refine wpAny_Call_Name_kw (ld_blt I hg hm (u := .builtin "any") (by decide +kernel) ?_)
  refine PyProof.Rows.callWith_builtin1 ?_ he rfl
  rw [he]
  show wpAny _ _ (spliced ((false, _) :: backTo pos (starEach [] X.env))) _ _ s
  have h2 : ti σ H fun v H1 => ∃ ds Δ bs, GenIn X.K P i me σ H1 v ds Δ bs ∧ ∀ H2, GxR.Tabbed P H1 H2 → Q (.bl (bs.any id)) H2 := h
  refine Calls.spliced_cons (gen_list (R := fun bs H1 => ∀ H2, GxR.Tabbed P H1 H2 → Q (.bl (bs.any id)) H2) hr TB hcode ok nd hco hcell hdot hloc hi hel hs I h2 fun bs H1 g s5 hR hG => ?_)
  obtain ⟨fp, wr, G, F, St, W, hst, htr, hI⟩ := hG
  refine Calls.spliced_nil ?_
  refine call_any_walkS (W.self 0 _ _ _ hst ⟨g, fp, wr, G, _, F, St, _, rfl, W, hst, htr, fun s' hmv => ?_⟩)
  obtain ⟨H2, hT, J⟩ := hI s' hmv
  exact ⟨.bl _, H2, J, rfl, by rw [any_at bs]; exact hR H2 hT⟩
theorem d_allG (cc : Cok X (k + 1) E) (hm : X.mg "all" = none) (TB : GxR.TabB X.base X.mg c P) (hP : P ∈ T) (hcode : X.env.code = .ref c) (ok : BlkOk X.N X.env.scope scope [(x, i)]) (hi : DE X T E .s iter ti mi) (hel : ∀ (g : Oh) (C : Addr) (cv : Value), QE (gxOf X scope k g C cv) elt me)
    (hg : Gl X "all" := by rfl) (hco : scope.isCoroutine = false := by rfl) (hcell : ∀ y ∈ scope.names, y.2 ≠ .cell := by decide) (hdot : scope.names.lookup (".0" : Str) = some NameKind.local := by rfl) (hloc : scope.names.lookup x = some .local := by rfl)
    (hs : ∀ v, genFold iter X.env v = pure v := by intro _; rfl) (he : starEach [.GeneratorExp elt [⟨.Name x px, iter, [], 0⟩] scope gpos] X.env = (false, eval (.GeneratorExp elt [⟨.Name x px, iter, [], 0⟩] scope gpos) X.env) :: starEach [] X.env := by rfl) :
    DE X T E .s (.Call (.Name "all" p) [.GeneratorExp elt [⟨.Name x px, iter, [], 0⟩] scope gpos] [] pos) (tGen X.K P i me (fun bs => bs.all id) ti) (mGen i (fun bs => bs.all id) mi me) :=
  ⟨pe_allG cc.room hg hm TB hcode ok cc.nd hco hcell hdot hloc hi.pe hel hs he, snd_gen (W := ⟨X.K, T, X.mg, E⟩) hi.sn hP⟩
theorem d_anyG (cc : Cok X (k + 1) E) (hm : X.mg "any" = none) (TB : GxR.TabB X.base X.mg c P) (hP : P ∈ T) (hcode : X.env.code = .ref c) (ok : BlkOk X.N X.env.scope scope [(x, i)]) (hi : DE X T E .s iter ti mi) (hel : ∀ (g : Oh) (C : Addr) (cv : Value), QE (gxOf X scope k g C cv) elt me)
    (hg : Gl X "any" := by rfl) (hco : scope.isCoroutine = false := by rfl) (hcell : ∀ y ∈ scope.names, y.2 ≠ .cell := by decide) (hdot : scope.names.lookup (".0" : Str) = some NameKind.local := by rfl) (hloc : scope.names.lookup x = some .local := by rfl)
    (hs : ∀ v, genFold iter X.env v = pure v := by intro _; rfl) (he : starEach [.GeneratorExp elt [⟨.Name x px, iter, [], 0⟩] scope gpos] X.env = (false, eval (.GeneratorExp elt [⟨.Name x px, iter, [], 0⟩] scope gpos) X.env) :: starEach [] X.env := by rfl) :
    DE X T E .s (.Call (.Name "any" p) [.GeneratorExp elt [⟨.Name x px, iter, [], 0⟩] scope gpos] [] pos) (tGen X.K P i me (fun bs => bs.any id) ti) (mGen i (fun bs => bs.any id) mi me) :=
  ⟨pe_anyG cc.room hg hm TB hcode ok cc.nd hco hcell hdot hloc hi.pe hel hs he, snd_gen (W := ⟨X.K, T, X.mg, E⟩) hi.sn hP⟩
end
/-- a def with a code table: its code object is known -/
theorem def_okG {P : Program} {w : World} {K : PySem.W.Frag} {T : List Addr} {mg : Str → Option Value} {base : Heap} {x : Str} {st : Stmt} {f c : Addr} {fd : FuncData} {N ps : List Str} {k n : Nat} {nw : Bool} {ms : Fd → Md Out} (hc : fd.code = .ref c) (hn : N.length = n) (F : Fun K x x st f fd) (S : FnScope N ps (defScope st)) (hm : mg x = some (.ref f)) (hb : Binds K fd ps [])
    (body : ∀ (A : Around) (outer : List Env) (s : Shared) (H : Hp) (E : XK), Cok (cxOf (L2N.CX P w) P w K mg base N x (defScope st) f (.ref c) A outer s H E) k E →
      ∃ t, DB (cxOf (L2N.CX P w) P w K mg base N x (defScope st) f (.ref c) A outer s H E) T E nw (defBody st) t ms) :
    DefOk P w K T mg base (k + 1) x ps nw (mDef nw n ms) := by
  subst hn
  refine ⟨f, fd, hm, F.kp, hb, ?_⟩
  obtain ⟨oc, od, kV, doc, pm, an, cdv, ct, osl, rfl, lk, hcd⟩ := F.ex
  have hc : cdv = .ref c := hc
  subst hc
  refine fn_of lk hcd S (fun vs H Q E h => h.1) fun A outer s H vs Q E hr h => ?_
  obtain ⟨hl, tb, ds, B, e, r, wp⟩ := h
  obtain ⟨t, ht, sn⟩ := body A outer s H E (cok_def hr S.nd)
  have hpl : ps.length ≤ N.length := by
    have := congrArg List.length S.pre
    rw [List.length_take] at this
    omega
  refine ⟨t, ht, sn H B H B _ _ _ (slt_start tb e r (by omega)) (wp.bind.mono (fun o q => ?_) fun _ z => z)⟩
  cases o with
  | rt d => exact fun v H' h => q v H' h
  | nx Δ =>
    cases nw with
    | true => exact q.elim
    | false => exact fun H' S' σ' s' => q .non H' ⟨S', s'.gh, s'.bs, s'.sh, s'.fr, .non⟩
  | bk Δ => exact q.elim
  | ct Δ => exact q.elim
end Mr
/-! Within an except suite, and in defs that are called from one. -/
namespace Mr
open PySem L2 L2H PySem.Spec PyProof.Rows

/-- a comprehension's block that bears the handled exception -/
abbrev blkH (X : Cx) (p : Addr × Obj) (s : Shared) (H : Hp) (sc : Scope) (ev : Env) (fp : List Addr) : Cx := { X.blk s H sc ev fp with pn := [p] }
section
variable {X : Cx}
theorem lc_hot {pins : List (Addr × Obj)} {s : Shared} {σ : L2.St} {H : Hp} {Q : VK} {elt tg iter : Expr} {sc : Scope} {own : List (Str × Nat)} {pos pos' : Pos} {wi : TI} {g : TG} {te : TE} {Qf : Value → Shared → Prop} {p : Addr × Obj}
    (hp : Hot1 X.A p) (hpn : p ∈ X.pn) (nd : X.N.Nodup) (I : Inv X pins σ H s) (hi : PIH X tg iter wi) (bo : BlkOk X.N X.env.scope sc own)
    (hg : ∀ (s : Shared) (H : Hp) (C : Addr) (cl : List (Str × Addr)) (fp : List Addr), PG (blkH X p s H sc (compEnvC sc cl C X.env) fp) tg g)
    (hel : ∀ (s : Shared) (H : Hp) (C : Addr) (cl : List (Str × Addr)) (fp : List Addr), PE (blkH X p s H sc (compEnvC sc cl C X.env) fp) elt te) (hs : ∀ x, foldedSetIterable iter X.env x = pure x)
    (h : tLc wi g tYes te (own.map (·.2)) σ H Q)
    (out : ∀ D C s' m H', Inv X pins σ H' s' → Q (.ref D) H' → s'.heap.Ns C m → FpOk X pins H' C → compPost (model X.prog X.w) X.A X.xe none Qf (.ref D) C (.ok .next) s') :
    wpAny (model X.prog X.w) X.A (comprehension (.ListComp elt [⟨tg, iter, [], 0⟩] sc pos) sc X.env pos' (newList []) false (eval iter X.env) none) Qf X.xe s := by
  have caught : ∀ y ∈ sc.names, y.2 = .free → ∃ c, X.env.cells.lookup y.1 = some c := fun y hy e => (bo.free y hy e).elim (fun z => I.ok.has _ (.inl z)) fun z => I.ok.has _ (.inr z)
  refine wpAny_comprehension_free (use := none) rfl hs (closure_ok caught) bo.kind (fun y hy e => by rw [bo.uniq y hy, e]) (thn (hi.run pins s σ H _ I h) fun xv sa hxa => thn hxa fun iv sb hb => ?_)
  obtain ⟨it, fp, tn, J, Hb, rfl, Ib, T, tb, fb, q⟩ := hb
  refine wpAny_newObj_type (newEnv_comp ?_) (Nat.zero_le _)
  obtain ⟨D, hD⟩ : ∃ D, D = sb.heap.objs.size := ⟨_, rfl⟩
  have freeD : Hb D = none := Ib.hok.fresh (Nat.le_of_eq hD.symm)
  obtain ⟨W, ⟨m0, w0⟩, step⟩ := q D freeD
  obtain ⟨sc3, hsc⟩ : ∃ z : Shared, z = { sb with heap := sb.heap.push { cls := .type "list", data := .seq ([] : List Value).toArray } } := ⟨_, rfl⟩
  have hh3 : sc3.heap = sb.heap.push { cls := .type "list", data := .seq ([] : List Value).toArray } := by rw [hsc]
  have Ic : Inv X pins σ (upd Hb D (.lst [])) sc3 := by
    rw [hsc]
    refine Ib.laid (t' := sb.toks) (fun b o e => Heap.get?_push_of_some _ e) (Nat.le_of_eq hD.symm) ⟨Nat.zero_le _, [], 0, .nil, ?_⟩
    rw [hD]
    exact Heap.get?_push_size _ rfl
  have small : ∀ b ∈ fp, b < sb.heap.objs.size := fun b hb => let ⟨o, e, _⟩ := T.obj _ _ tb b hb; Heap.lt_size e
  have fc : ∀ b ∈ fp, FpOk X pins (upd Hb D (.lst [])) b ∧ b < sc3.heap.objs.size := fun b hb => by
    have lt := small b hb
    have ne : b ≠ D := fun z => by rw [z, hD] at lt; exact Nat.lt_irrefl _ lt
    exact ⟨⟨by rw [upd_ne ne]; exact (fb b hb).1, (fb b hb).2⟩, by rw [hh3, Heap.size_push]; exact Nat.lt_succ_of_lt lt⟩
  have tc : tn 0 sc3.heap := T.keep _ _ _ tb fun b _ o e => by rw [hh3]; exact Heap.get?_push_of_some _ e
  have Ib0 := block_start Ic bo nd fc
  have gg := hg sc3 (upd Hb D (.lst [])) sc3.heap.objs.size (cellsFrom (sc3.heap.objs.size + 1) sc.names (cloFrom X.env.cells sc.names [])) fp
  have ee := hel sc3 (upd Hb D (.lst [])) sc3.heap.objs.size (cellsFrom (sc3.heap.objs.size + 1) sc.names (cloFrom X.env.cells sc.names [])) fp
  rw [← hsc, ← hD]
  show codeAny _ _ (.compStart (.ListComp elt [⟨tg, iter, [], 0⟩] sc pos) 0 (.ref it) (.ref D) (compEnvC sc (cellsFrom (sc3.heap.objs.size + 1) sc.names (cloFrom X.env.cells sc.names [])) sc3.heap.objs.size X.env)) (compPost (model X.prog X.w) X.A X.xe none Qf (.ref D) sc3.heap.objs.size) { sc3 with heap := pushCells (sc3.heap.push { cls := .type "dict", data := .dict #[] }) sc.names }
  generalize hev : compEnvC sc (cellsFrom (sc3.heap.objs.size + 1) sc.names (cloFrom X.env.cells sc.names [])) sc3.heap.objs.size X.env = ev at Ib0 gg ee ⊢
  have evL : ev.locals = sc3.heap.objs.size := by rw [← hev]; rfl
  generalize hHc : upd Hb D (.lst []) = Hc at Ic Ib0 gg ee w0 fc
  have nfp : ∀ b ∈ fp, Hc b = none := fun b hb => (fc b hb).1.1
  have kp : ∀ b o, sc3.heap.get? b = some o → (pushCells (sc3.heap.push { cls := .type "dict", data := .dict #[] }) sc.names).get? b = some o := fun b o e => pushCells_keeps _ _ _ _ (Heap.get?_push_of_some _ e)
  generalize hsd : ({ sc3 with heap := pushCells (sc3.heap.push { cls := .type "dict", data := .dict #[] }) sc.names } : Shared) = sd at Ib0 ⊢
  have kp2 : ∀ b o, sc3.heap.get? b = some o → sd.heap.get? b = some o := fun b o e => by rw [← hsd]; exact kp b o e
  -- the handled exception, seen from the block
  have pa := Ic.pin p (List.mem_append_left _ hpn)
  have Id : Inv (blkH X p sc3 Hc sc ev fp) [] (wipe σ (own.map (·.2))) Hc sd := by
    have i := Ib0
    refine ⟨⟨i.ok.mod, i.ok.kind, i.ok.glob, i.ok.blt, i.ok.above, i.ok.inj, i.ok.has, i.ok.cab, i.ok.hd, i.ok.frames, i.ok.stk, i.ok.exf, i.ok.bs, i.ok.bsz, i.ok.noex, i.ok.exfs, i.ok.funs, i.ok.frf⟩, i.os, i.bare, i.base, i.loc, i.cell, i.free, i.freeC, fun r hr => ?_, i.hok, i.len⟩
    have hr : r = p := by simpa using hr
    subst hr
    refine ⟨kp2 _ _ pa.1, pa.2.1, fun z => ?_, fun hm => (List.mem_cons.mp (Ic.stkSub r.1 hm)).elim pa.2.2.1 pa.2.2.2.1, pa.2.2.2.2⟩
    have lt := Heap.lt_size pa.1
    have z : r.1 = ev.locals := z
    rw [evL] at z
    rw [z] at lt
    exact Nat.lt_irrefl _ lt
  have td : tn 0 sd.heap := T.keep _ _ _ tc fun b _ o e => kp2 b o e
  have hcH : HotC (blkH X p sc3 Hc sc ev fp) := ⟨p, hp, by simp⟩
  have stat : ∀ {σ' : L2.St} {H' : Hp} {s' : Shared}, Inv (blkH X p sc3 Hc sc ev fp) [] σ' H' s' → tn 0 sd.heap → (∀ b ∈ fp, H' b = none) → ∀ b ∈ fp, FpOk (blkH X p sc3 Hc sc ev fp) [] H' b := fun {σ' H' s'} I' _ hn b hb =>
    ⟨hn b hb, (I'.ok.exf b hb).1, I'.ok.exfs b hb, .inl hb, fun x c e => (I'.ok.exf b hb).2 x c e, fun r hr => by
      have hr : r = p := by simpa using hr
      subst hr
      exact (fc b hb).1.2.2.2.2.2 r (List.mem_append_left _ hpn)⟩
  have loop : codeAny (model X.prog X.w) X.A (.compLoop (.ListComp elt [⟨tg, iter, [], 0⟩] sc pos) 0 (.ref it) (.ref D) ev) (compPost (model X.prog X.w) X.A X.xe none Qf (.ref D) sc3.heap.objs.size) sd := by
    refine compLoop_any (fun n s' => ∃ i H', Inv (blkH X p sc3 Hc sc ev fp) [] (wipe σ (own.map (·.2))) H' s' ∧ tn i s'.heap ∧ (∀ b ∈ fp, H' b = none) ∧ W i n H') ?_ m0 ⟨0, Hc, Id, td, nfp, w0⟩
    rintro n s5 ⟨i, H5, I5, t5, n5, w5⟩
    rcases step i n H5 w5 with ⟨stop, qq⟩ | ⟨go, Nx, hNx, turn⟩
    · refine thnF (T.done (blkH X p sc3 Hc sc ev fp) rfl rfl rfl hcH i [] s5 _ H5 (fun _ _ => False) I5 (stat I5 td n5) t5 stop) fun r s6 ⟨hr, I6⟩ => ?_
      subst hr
      have I7 : Inv X pins σ H5 s6 := Ic.call' (ch := fp) I6.os I6.base I6.hok I6.bare fun b hb => let z := (fc b hb).1.2; ⟨z.2.2.1, z.1, z.2.2.2.1, z.2.2.2.2⟩
      have nC : H5 sc3.heap.objs.size = none := by
        have z : H5 ev.locals = none := I6.free
        rw [evL] at z
        exact z
      obtain ⟨m, hn, _⟩ := I6.loc
      have hn : s6.heap.Ns ev.locals m := hn
      rw [evL] at hn
      exact out D sc3.heap.objs.size s6 m H5 I7 qq hn (Ic.fpOk (Nat.le_refl _) nC)
    · refine thnF (T.item (blkH X p sc3 Hc sc ev fp) rfl rfl rfl hcH i [] s5 _ H5 (fun _ _ => False) I5 (stat I5 td n5) t5 go) fun r s6 ⟨u, hr, h6⟩ => ?_
      subst hr
      refine thnF h6 fun _ s7 ⟨x, H7, I7, r7, y7, t7, n7⟩ => ?_
      have J7 := I7.pinned (stat I7 td n7) (T.obj _ _ t7)
      refine thnF (gg.run _ s7 _ H7 x u _ J7 r7 (turn x H7 y7)) fun _ s8 ⟨σ8, H8, I8, hw8, q8⟩ => ?_
      refine thnF (wpAny_tests_nil (Q := fun b s9 => b = true ∧ Inv (blkH X p sc3 Hc sc ev fp) ([] ++ pinsAt fp s7.heap) σ8 H8 s9) ⟨rfl, I8⟩) fun b s9 ⟨hb9, I9⟩ => ?_
      subst hb9
      simp only [if_true]
      refine thnF (ee.run _ s9 σ8 H8 _ I9 q8) fun z s10 ⟨yv, H10, I10, r10, acc, hD10, hz10, nx⟩ => ?_
      refine app_ok (X := blkH X p sc3 Hc sc ev fp) I10 hD10 hz10 r10 fun s11 I11 => ?_
      obtain ⟨m', hm, w'⟩ := hNx _ nx
      have still : ∀ b ∈ fp, ∀ o, s7.heap.get? b = some o → s11.heap.get? b = some o ∧ (upd H10 D (.lst (acc ++ [yv]))) b = none := fun b hb o e =>
        let z := I11.pin (b, o) (List.mem_append_right _ (List.mem_append_right _ (mem_pinsAt hb e)))
        ⟨z.1, z.2.1⟩
      have hl : (wipe σ (own.map (·.2))).length = σ8.length := by rw [← hw8, wipe_length]
      refine ⟨m', hm, i + 1, _, (I11.unpinned (pins := [])).weak hl (fun j v e => ?_), T.keep _ _ _ t7 fun b hb o e => (still b hb o e).1, fun b hb => let ⟨o, e, _⟩ := T.obj _ _ t7 b hb; (still b hb o e).2, w'⟩
      rw [← hw8] at e
      exact (wipe_some e).1
  exact codeAny_compStart_list loop (T.self X.A 0 _ _ _ td loop)
theorem pe_lcH {elt tg iter : Expr} {sc : Scope} {own : List (Str × Nat)} {pos : Pos} {wi : TI} {g : TG} {te : TE} {p : Addr × Obj} (hp : Hot1 X.A p) (hpn : p ∈ X.pn) (nd : X.N.Nodup) (hi : PIH X tg iter wi) (bo : BlkOk X.N X.env.scope sc own)
    (hg : ∀ (s : Shared) (H : Hp) (C : Addr) (cl : List (Str × Addr)) (fp : List Addr), PG (blkH X p s H sc (compEnvC sc cl C X.env) fp) tg g)
    (hel : ∀ (s : Shared) (H : Hp) (C : Addr) (cl : List (Str × Addr)) (fp : List Addr), PE (blkH X p s H sc (compEnvC sc cl C X.env) fp) elt te) (hs : ∀ x, foldedSetIterable iter X.env x = pure x := by intro _; rfl) :
    PE X (.ListComp elt [⟨tg, iter, [], 0⟩] sc pos) (tLc wi g tYes te (own.map (·.2))) := by
  refine ⟨fun pins s σ H Q I h => ?_⟩
  rw [eval_ListComp]
  refine lc_hot hp hpn nd I hi bo hg hel hs h fun D C s' m H' I' q hn f => ⟨m, hn, fun h'' sb => ?_⟩
  obtain ⟨f0, f1, f2, f3, f4, f5⟩ := f
  exact ⟨.ref D, H', I'.turned (t' := s'.toks) (fun b o hb e => (sb.2 b hb).trans e) f0 f1 f3 f4 f5, rfl, q⟩
end
end Mr
namespace Mr
open PySem L2 L2H PySem.Spec PyProof.Rows

/-! ### defs that an except suite calls with its exception -/
structure Hok (X : Cx) (k : Nat) (p : Addr × Obj) (D : Addr) : Prop where
  room : RoomH k X.A
  hot : Hot1 X.A p
  pn : p ∈ X.pn
  nd : X.N.Nodup
  zc : Zc (.ref D) none p.2
structure HotOk (P : Program) (w : World) (K : PySem.W.Frag) (mg : Str → Option Value) (base : Heap) (k : Nat) (x : Str) (D : Addr) (ps : List Str) (mir : Addr → List Dt → Md Dt) : Prop where
  ex : ∃ f fd, mg x = some (.ref f) ∧ PySem.W.keepIn K (.ref f) = true ∧ Binds K fd ps [] ∧
    ∀ (A : Around) (outer : List Env) (s : Shared) (H : Hp) (args : Args) (us : List Value) (vs : List V) (Q : VK) (E : XK) (p : Addr × Obj) (B : Hp) (ds : List Dt), RoomH k A → Hot1 A p → PinOk outer H s p → Zc (.ref D) none p.2 → Env0 P w K mg base A outer s H →
      BindsTo s fd args (ps.zip us) → Vals vs us → vs.length = ps.length → Ex B H → RpL K B vs ds → Wp (mir p.1 ds) (fun d => ∀ v H', Rt K false H B H' v d → Q v H') (XW mg E H) → codeAny (model P w) A (.call (.ref f) args) (CR (L2N.CX P w) outer P w H s Q E) s
theorem hot_ok {P : Program} {w : World} {K : PySem.W.Frag} {mg : Str → Option Value} {base : Heap} {x : Str} {st : Stmt} {f D : Addr} {fd : FuncData} {N ps : List Str} {k n : Nat} {ms : Addr → Fd → Md Out} (hn : N.length = n) (F : Fun K x x st f fd) (S : FnScope N ps (defScope st)) (hm : mg x = some (.ref f)) (hb : Binds K fd ps [])
    (body : ∀ (cdv : Value) (A : Around) (outer : List Env) (s : Shared) (H : Hp) (E : XK) (p : Addr × Obj), Hok (cxH (L2N.CX P w) P w K mg base N x (defScope st) f cdv A outer s H E p) k p D →
      ∃ t, DB (cxH (L2N.CX P w) P w K mg base N x (defScope st) f cdv A outer s H E p) [] E false (defBody st) t (ms p.1)) :
    HotOk P w K mg base (k + 1) x D ps (fun a => mDef false n (ms a)) := by
  subst hn
  refine ⟨f, fd, hm, F.kp, hb, ?_⟩
  obtain ⟨oc, od, kV, doc, pm, an, cdv, ct, osl, rfl, lk, hcd⟩ := F.ex
  intro A outer s H args us vs Q E p B ds hr hot hpin hz e0 hbt rv hl e r wp
  have stay : ∀ b o, base.get? b = some o → s.heap.get? b = some o := fun b o z => (e0.bs b o z).1
  have KX : K.In s.heap := e0.mod.kin.keeps stay
  have kinds : ∀ y ∈ ps.zip us, (defScope st).names.lookup y.1 = some .local ∨ ((defScope st).names.lookup y.1 = some .cell ∧ ((cellsFrom (s.heap.objs.size + 1) (defScope st).names []).lookup y.1).isSome = true) := fun ⟨nm, val⟩ hy => by
    rcases S.par nm (List.of_mem_zip hy).1 with z | z
    · exact .inl z
    · exact .inr ⟨z, PySem.W.cellsFrom_some _ _ _ (.inl z)⟩
  refine codeAny_call_function hr.depth (KX _ _ lk) rfl S.co S.gen rfl (PySem.W.codeRec_of KX hcd) (hbt _ _ _ _ (wpAny_newFunctionEnv_cells S.kind kinds fun env he s1 xx => ?_))
  subst he
  refine ⟨(e0.mod.nolimit.keeps stay).keeps xx.toInCall.keep, codeAny_func ?_⟩
  obtain ⟨t, ht, sn⟩ := body cdv A outer s H E p ⟨hr.deeper _, hot, by simp [cxH], S.nd, hz⟩
  have hpl : ps.length ≤ N.length := by
    have := congrArg List.length S.pre
    rw [List.length_take] at this
    omega
  have I := inv_startH (CX := L2N.CX P w) (E := E) S hpin e0 hl rv xx
  have go : t { nx := fun _ H' => Q .non H', rt := Q } (L2.start N vs) H := sn H B H B _ _ _ (slt_start (T := []) (fun _ z => by cases z) e r (by omega)) (wp.bind.mono (fun o q => by
    cases o with
    | rt d => exact fun v H' h => q v H' h
    | nx Δ => exact fun H' S' σ' s' => q .non H' ⟨S', s'.gh, s'.bs, s'.sh, s'.fr, .non⟩
    | bk Δ => exact q.elim
    | ct Δ => exact q.elim) fun _ z => z)
  refine wpAny_mono (ht.run [] s1 _ H _ I go) (fun fl s' hs => ?_) fun e s' hs => hs
  cases fl with
  | ret u =>
    obtain ⟨v, σ', H', J, r2, q⟩ := hs
    exact ⟨v, H', J.os, J.bare, J.base, J.hok, r2, q⟩
  | next =>
    obtain ⟨σ', H', J, q⟩ := hs
    exact ⟨V.non, H', J.os, J.bare, J.base, J.hok, rfl, q⟩
  | brk =>
    obtain ⟨_, _, _, q⟩ := hs
    exact q.elim
  | cont =>
    obtain ⟨_, _, _, q⟩ := hs
    exact q.elim

/-! ### what such a def may do -/
section
variable {X : Cx} {T : List Addr} {E : XK} {fl fa fb : Fl} {nw : Bool} {a b e tg elt iter : Expr} {ta tb te : TE} {ma mb me : Fd → Md Dt} {pos p1 p2 p3 p4 : Pos} {k : Nat} {p : Addr × Obj} {D : Addr} {x : Str}
theorem c_eqH {K0 : PySem.W.Frag} (c : Hok X k p D) (hK : X.K = K0 := by rfl) : CmpOk X .Eq (rEqD K0) dEq := by
  subst hK
  exact ⟨op_eqD (by have := c.room.un; omega), sr_eq, fun a b => bind_nx (dEqv_nx a b) fun _ _ z => by cases z⟩
def dIsX (a : Addr) (b : Bool) : Dt → Md Dt
  | .adr a' => if a' = a then .ok (.bl b) else .bad
  | _ => .bad
theorem call_isP (C : ExcC X.K D) (c : Hok X k p D) : CallR X (.builtin "isinstance") (rIsE X.K D p.1) := by
  intro pins s σ H xs us Q I r h
  obtain ⟨cV, cv, b, rfl, hcv, e, q⟩ := h
  cases r with
  | cons r1 rr =>
    cases rr with
    | cons r2 rr =>
      cases rr
      cases r1
      have ec := hcv _ r2
      subst ec
      obtain ⟨hget, _⟩ := I.pin p (List.mem_append_left _ c.pn)
      have J : PySem.W.InstAt s.heap p.1 p.2 D none := by
        obtain ⟨h1, h2⟩ := c.zc
        obtain ⟨_, vs, hv, _⟩ := c.hot
        obtain ⟨a0, oc, od, oda, osl⟩ := p
        dsimp only at h1 h2 hv
        subst h1 h2 hv
        exact ⟨hget, rfl, rfl, trivial⟩
      exact PySem.W.kia_one (PySem.W.handS_kitx_exc C.hg C.hk C.hs C.hd C.ha C.hn C.ht C.hm) I.kIn J e (fun z => nomatch z) fun tk => ⟨.bl b, H, I.kept (t' := tk) fun _ _ z => z, rfl, q⟩
theorem d_isX {cV : V} {cv : Value} {q : Bool} (C : ExcC X.K D) (c : Hok X k p D) (hm : X.mg "isinstance" = none) (he : DE X T E .s e te me) (hc : PE X b (tC cV)) (hcv : ∀ u, RelV cV u → u = cv) (hk : PySem.W.kitOne X.K (.ref D) cv = some q) (hg : Gl X "isinstance" := by rfl)
    (hs : starEach [e, b] X.env = (false, eval e X.env) :: starEach [b] X.env := by rfl) (hs2 : starEach [b] X.env = (false, eval b X.env) :: starEach [] X.env := by rfl) (hpl : (backTo pos (starEach [b] X.env)).any (·.1) = false := by rfl) :
    DE X T E .s (.Call (.Name "isinstance" p1) [e, b] [] pos) (tCB (rIsE X.K D p.1) (tCons te (tCons (tC cV) tNil))) (mU (dIsX p.1 q) me) :=
  ⟨pe_callB (call_isP C c) hg hm (by decide +kernel) (pa_cons he.pe (pa_cons hc pa_nil hs2) hs) (he := hs) (hpl := hpl), fun G B H S σ Δ Q s w => he.sn G B H S σ Δ _ s (w.bind.mono (fun d k v H1 S1 g r _ => by
    cases d with
    | adr a' =>
      have k : Wp (if a' = p.1 then Md.ok (Dt.bl q) else .bad) _ _ := k
      by_cases z : a' = p.1
      · rw [if_pos z] at k
        cases r
        exact ⟨cV, cv, q, by rw [z], hcv, hk, k _ H1 S1 g (.bl _) trivial⟩
      · rw [if_neg z] at k
        exact k.elim
    | _ => exact k.elim) fun _ z => z)⟩
theorem s_setN {pos' : Pos} (i : Nat) (nd : X.N.Nodup) (he : DE X T E .s e te me) (hi : X.N[i]? = some x := by rfl) (hx : Loc X.env.scope x := by first | exact Or.inl rfl | exact Or.inr rfl) (hs : swapsWith e (some (.Name x pos')) pos.line X.env = pure false := by rfl) (hf : X.fn x = true ∨ X.env.scope.names.lookup x = some .local := by first | exact .inl rfl | exact .inr rfl) :
    DS X T E nw (.Assign [.Name x pos'] e pos) (tAsg te (gName i)) (mAsg i me) := ⟨ps_set nd hi hx he.pe hs hf, ss_asg i he.sn⟩
theorem hok_blk (c : Hok X k p D) (s : Shared) (H : Hp) (sc : Scope) (C : Addr) (cl : List (Str × Addr)) (fp : List Addr) : Hok (blkH X p s H sc (compEnvC sc cl C X.env) fp) k p D := ⟨c.room, c.hot, by simp, c.nd, c.zc⟩
theorem d_lcH {sc : Scope} {own : List (Str × Nat)} {wi : TI} {mi : Fd → Md (List Dt)} {g : TG} {gs : Dt → Fd → Md Fd} {ws : List Nat} (c : Hok X k p D) (hi : PIH X tg iter wi) (si : SndI ⟨X.K, T, X.mg, E⟩ wi mi) (bo : BlkOk X.N X.env.scope sc own)
    (hg : ∀ (s : Shared) (H : Hp) (C : Addr) (cl : List (Str × Addr)) (fp : List Addr), Hok (blkH X p s H sc (compEnvC sc cl C X.env) fp) k p D → DG (blkH X p s H sc (compEnvC sc cl C X.env) fp) T ws tg g gs)
    (he : ∀ (s : Shared) (H : Hp) (C : Addr) (cl : List (Str × Addr)) (fp : List Addr), Hok (blkH X p s H sc (compEnvC sc cl C X.env) fp) k p D → DE (blkH X p s H sc (compEnvC sc cl C X.env) fp) T E0 .s elt te me)
    (hw : ws.all (fun i => (own.map (·.2)).contains i) = true := by decide) (hs : ∀ x, foldedSetIterable iter X.env x = pure x := by intro _; rfl) :
    DE X T E .n (.ListComp elt [⟨tg, iter, [], 0⟩] sc pos) (tLc wi g tYes te (own.map (·.2))) (mLc mi gs mYes me (own.map (·.2))) :=
  ⟨pe_lcH c.hot c.pn c.nd hi bo (fun s H C cl fp => (hg s H C cl fp (hok_blk c ..)).pg) (fun s H C cl fp => (he s H C cl fp (hok_blk c ..)).pe) hs,
   snd_lc (W := ⟨X.K, T, X.mg, E⟩) si (hg X.s_0 (fun _ => none) 0 [] [] (hok_blk c ..)).sn (mem_all hw) snd_yes (he X.s_0 (fun _ => none) 0 [] [] (hok_blk c ..)).sn⟩
end

/-! ### the suite's call -/
def tHot (K : PySem.W.Frag) (i : Nat) (a : Addr) (res : Dt) : TE := fun σ H Q => σ[i]? = some (some (.ref a)) ∧ ∀ v H', Rt K false H H H' v res → Q v H'
theorem pe_hot {X : Cx} {k i j : Nat} {a D : Addr} {oe : Obj} {n x : Str} {kk : Int} {ps : List Str} {mir : Addr → List Dt → Md Dt} {res : Dt} {p1 p2 p3 pos : Pos} (F : HotOk X.prog X.w X.K X.mg X.base k x D ps mir) (hl : ps.length = 2) (hr : RoomH k X.A) (hot : Hot1 X.A (a, oe)) (hpn : (a, oe) ∈ X.pn) (hz : Zc (.ref D) none oe)
    (hN : X.N[i]? = some n) (hv : Vis X.env.scope n) (hg : Gl X x) (hres : ∀ a, mir a [.adr a, .int kk] = .ok res) (hd : (n == ("__debug__" : Str)) = false) (hcd : (n == ("__classdict__" : Str)) = false) (hdb : (x == ("__debug__" : Str)) = false)
    (hs : starEach [.Name n p2, .Constant (.int kk) j p3] X.env = (false, eval (.Name n p2) X.env) :: starEach [.Constant (.int kk) j p3] X.env) (hs2 : starEach [.Constant (.int kk) j p3] X.env = (false, eval (.Constant (.int kk) j p3) X.env) :: starEach [] X.env)
    (hpl : (backTo pos (starEach [.Constant (.int kk) j p3] X.env)).any (·.1) = false) : PE X (.Call (.Name x p1) [.Name n p2, .Constant (.int kk) j p3] [] pos) (tHot X.K i a res) := by
  refine ⟨fun pins s σ H Q I h => ?_⟩
  obtain ⟨hi, hq⟩ := h
  obtain ⟨f, fd, hm, hk, hb, run⟩ := F.ex
  have ha : PA X [.Name n p2, .Constant (.int kk) j p3] (tCons (tVar i) (tCons (tC (.int kk)) tNil)) := pa_cons (pe_var hN hv hd hcd) (pa_cons pe_int pa_nil hs2) hs
  refine wpAny_Call_Name_kw (ld_glob I hg hm ?_ hdb)
  refine PySem.W.callWith_K (h₀ := X.base) I.ok.mod.kin hk (thn (ha.run pos pins s σ H (fun vs H1 => vs = [V.ref a, .int kk] ∧ H1 = H) I ⟨_, hi, rfl, rfl⟩) fun us s1 hh => ?_) hs hpl
  obtain ⟨vs, H1, I1, r1, rfl, rfl⟩ := hh
  refine ⟨I1.kIn, ?_⟩
  have hu : us.length = ps.length := by rw [← r1.length, hl]; rfl
  have bt := hb s1 us I1.kIn (by rw [List.append_nil]; exact hu)
  rw [List.append_nil] at bt
  have P1 := I1.pin (a, oe) (List.mem_append_left _ hpn)
  have hpin : PinOk X.stack H1 s1 (a, oe) := ⟨P1.1, P1.2.1, fun hm => (List.mem_cons.mp (I1.stkSub _ hm)).elim P1.2.2.1 P1.2.2.2.1, P1.2.2.2.2⟩
  have wp : Wp (mir a [.adr a, .int kk]) (fun d => ∀ v H', Rt X.K false H1 H1 H' v d → Q v H') (XW X.mg (fun _ _ _ => False) H1) := by
    rw [hres]
    exact hq
  refine wpAny_call (codeAny_mono (run X.A X.stack s1 H1 ⟨us, []⟩ us _ Q (fun _ _ _ => False) (a, oe) H1 [.adr a, .int kk] hr hot hpin hz I1.env0 bt r1 (by rw [hl]; rfl) (Ex.refl H1) (.cons (.adr a) (.cons (.int kk) .nil)) wp) fun r s' hq2 => ?_)
  cases r with
  | error e =>
    obtain ⟨_, _, _, _, _, _, _, _, _, _, _, _, z⟩ := hq2
    exact z.elim
  | ok fl =>
    cases fl with
    | ret u => exact I1.after hq2
    | next => exact False.elim hq2
    | brk => exact False.elim hq2
    | cont => exact False.elim hq2
end Mr
namespace Mr
open PySem L2 L2H PySem.Spec PyProof.Rows

theorem roomH_mark {k : Nat} {A : Around} {h : Option Value} (r : RoomH k A) : RoomH k (A.mark h) := ⟨r.dp, r.un⟩
/-! ### try: .. except C as n: return g(n, k) -/
def mTry (c0 : Str) (res : Dt) (mb : Fd → Md Out) : Fd → Md Out := fun Δ => match mb Δ with
  | .ok o => .ok o
  | .exc c => if c = c0 then .ok (.rt res) else .bad
  | .bad => .bad
def tSuite (K : PySem.W.Frag) (D : Addr) (i : Nat) (res : Dt) : Addr → Value → Option Addr → TS := fun a cls d Dn σ H => cls = .ref D ∧ d = none ∧ σ[i]? = some (some (.ref a)) ∧ ∀ v H', Rt K false H H H' v res → Dn.rt v H'
/-- what the body's exceptions are wished to be -/
def EW (n : Nat) (W : WX) : XK := fun cls d H => ∀ σ : L2.St, σ.length = n → W cls d σ H
theorem takes_ew {X : Cx} {W : WX} (tk : L2N.Takes X W) : L2N.Takes X (fun cls d _ H => EW X.N.length W cls d H) := fun u s' ⟨a, B, sI, pins, σ, H, cls, d, e, I, nb, up, sky, na, os, ag, w⟩ =>
  tk u s' ⟨a, B, sI, pins, σ, H, cls, d, e, I, nb, up, sky, na, os, ag, w σ I.len⟩
section
variable {P : Program} {w : World} {K : PySem.W.Frag} {mg : Str → Option Value} {base : Heap} {N : List Str} {qual : Str} {scope : Scope} {f : Addr} {cd : Value} {A : Around} {outer : List Env} {s0 : Shared} {H0 : Hp} {E : XK} {T : List Addr} {nw : Bool}
theorem s_tryAs {k j kx : Nat} {x n g c0 : Str} {cv : Value} {kk : Int} {ps : List Str} {mir : Addr → List Dt → Md Dt} {res : Dt} {body : List Stmt} {tb : XK → TS} {mb : Fd → Md Out} {D : Addr} {p1 p2 p3 p4 p5 np pos pos' : Pos} (i : Nat)
    (cc : Cok (cxOf (L2N.CX P w) P w K mg base N qual scope f cd A outer s0 H0 E) k E) (F : HotOk P w K mg base kx g D ps mir) (hl : ps.length = 2) (hx : PySem.W.exmOne K (.ref D) cv = some true) (hD : mg c0 = some (.ref D)) (hcv : mg x = some cv) (hres : ∀ a, mir a [.adr a, .int kk] = .ok res) (hflat : flatD res = true) (hnw : nw = false)
    (hb : ∀ (pn : List (Addr × Obj)) (xe : Value → Shared → Prop) (E' : XK), Cok ((cxOf (L2N.CX P w) P w K mg base N qual scope f cd A outer s0 H0 E).tr pn xe) k E' → DB ((cxOf (L2N.CX P w) P w K mg base N qual scope f cd A outer s0 H0 E).tr pn xe) T E' nw body (tb E') mb)
    (hkx : kx ≤ k := by exact Nat.le_of_ble_eq_true rfl) (hi : N[i]? = some n := by rfl) (hln : scope.names.lookup n = some .local := by rfl) (hg : scope.names.lookup g = some .globalImplicit := by rfl) (hgx : scope.names.lookup x = some .globalImplicit := by rfl)
    (hd : (n == ("__debug__" : Str)) = false := by decide) (hcd : (n == ("__classdict__" : Str)) = false := by decide) (hdb : (g == ("__debug__" : Str)) = false := by decide) (hdx : (x == ("__debug__" : Str)) = false := by decide)
    (hs : starEach [.Name n p2, .Constant (.int kk) j p3] (envOfC qual scope s0.heap.objs.size f cd) = (false, eval (.Name n p2) (envOfC qual scope s0.heap.objs.size f cd)) :: starEach [.Constant (.int kk) j p3] (envOfC qual scope s0.heap.objs.size f cd) := by rfl)
    (hs2 : starEach [.Constant (.int kk) j p3] (envOfC qual scope s0.heap.objs.size f cd) = (false, eval (.Constant (.int kk) j p3) (envOfC qual scope s0.heap.objs.size f cd)) :: starEach [] (envOfC qual scope s0.heap.objs.size f cd) := by rfl)
    (hpl : (backTo p4 (starEach [.Constant (.int kk) j p3] (envOfC qual scope s0.heap.objs.size f cd))).any (·.1) = false := by rfl) :
    DS (cxOf (L2N.CX P w) P w K mg base N qual scope f cd A outer s0 H0 E) T E nw (.Try body [.ExceptHandler (some (.Name x np)) (some n) [.Return (some (.Call (.Name g p1) [.Name n p2, .Constant (.int kk) j p3] [] p4)) p5] pos'] [] [] pos)
      (fun Dn σ H => tb (EW N.length (wAs K cv i (tSuite K D i res) (fun cls d _ H => E cls d H) Dn)) Dn σ H) (mTry c0 res mb) := by
  subst hnw
  refine ⟨?_, ?_⟩
  · refine L2N.ps_try_as (X := cxOf (L2N.CX P w) P w K mg base N qual scope f cd A outer s0 H0 E) (tb := fun W => tb (EW N.length W)) rfl rfl cc.nd hi hln ⟨hgx, hdx, .inl hcv⟩ cc.tk (fun W pn xe tk po => ?_) fun a oe cls d pn hz hv => ?_
    · have tk2 := takes_ew tk
      exact (hb pn xe _ ⟨cc.calm, cc.room, L2N.passes_call tk2 fun _ _ _ _ h => h, po, cc.nd, tk2⟩).ps
    · refine ⟨fun pins s σ H Dn I h => ?_⟩
      obtain ⟨rfl, rfl, e1, e2⟩ := h
      obtain ⟨vs, hvs⟩ := hv
      have pe := pe_hot (X := (cxOf (L2N.CX P w) P w K mg base N qual scope f cd A outer s0 H0 E).suite a ((a, oe) :: pn)) (n := n) (x := g) (i := i) (j := j) (kk := kk) (p1 := p1) (p2 := p2) (p3 := p3) (pos := p4) (a := a) (oe := oe) F hl (roomH_mark ((roomH_of cc.room).mono hkx)) ⟨rfl, vs, hvs, hz.2.2 vs hvs⟩ List.mem_cons_self hz.zc hi (.inl hln) hg hres hd hcd hdb hs hs2 hpl
      exact (pss_one (ps_ret pe)).run pins s σ H Dn I ⟨e1, e2⟩
  · intro G B H S σ Δ Dn sl wp
    have ck : Cok ((cxOf (L2N.CX P w) P w K mg base N qual scope f cd A outer s0 H0 E).tr [] (cxOf (L2N.CX P w) P w K mg base N qual scope f cd A outer s0 H0 (EW N.length (wAs K cv i (tSuite K D i res) (fun cls d _ H => E cls d H) Dn))).xe) k (EW N.length (wAs K cv i (tSuite K D i res) (fun cls d _ H => E cls d H) Dn)) := cok_def (E := EW N.length (wAs K cv i (tSuite K D i res) (fun cls d _ H => E cls d H) Dn)) cc.room cc.nd
    refine (hb _ _ _ ck).sn G B H S σ Δ Dn sl ?_
    show Wp (mb Δ) (OutOk ⟨K, T, mg, _⟩ false G B Dn) (XW mg _ G)
    have wp : Wp (match mb Δ with
      | .ok o => Md.ok o
      | .exc c => if c = c0 then .ok (.rt res) else .bad
      | .bad => .bad) (OutOk ⟨K, T, mg, E⟩ false G B Dn) (XW mg E G) := wp
    cases hm : mb Δ with
    | ok o =>
      rw [hm] at wp
      show OutOk _ false G B Dn o
      cases o with
      | nx Δ' => exact wp
      | bk Δ' => exact wp
      | ct Δ' => exact wp
      | rt d => exact wp
    | bad =>
      rw [hm] at wp
      exact wp.elim
    | exc c =>
      rw [hm] at wp
      by_cases hc : c = c0
      · subst hc
        have wp : Wp (if c = c then Md.ok (Out.rt res) else .bad) (OutOk ⟨K, T, mg, E⟩ false G B Dn) (XW mg E G) := wp
        rw [if_pos rfl] at wp
        have wp : ∀ v H, Rt K false G B H v res → Dn.rt v H := wp
        refine ⟨D, hD, fun H' ex σ' hl' => ⟨true, hx, fun _ a na => ⟨rfl, rfl, List.getElem?_set_self (by
          have := (List.getElem?_eq_some_iff.mp hi).1
          omega), fun v H2 ⟨S2, h1, h2, h3, h4, h5⟩ => wp v H2 ⟨B, ex.trans h1, Ex.refl B, sl.bg.trans (ex.trans h1), fun _ _ z => z, Rp.flat h5 hflat⟩⟩, fun z => by cases z⟩⟩
      · have wp : Wp (if c = c0 then Md.ok (Out.rt res) else .bad) (OutOk ⟨K, T, mg, E⟩ false G B Dn) (XW mg E G) := wp
        rw [if_neg hc] at wp
        exact wp.elim
end
end Mr
/-! A list of new lists that the frame changes at the end, and that nothing else has. -/
namespace Mr
open PySem L2 PySem.Spec PyProof.Rows

structure NwL (K : PySem.W.Frag) (H H' S' : Hp) (as : List Addr) (dss : List (List Dt)) : Prop where
  nd : as.Nodup
  len : as.length = dss.length
  at_ : ∀ (k : Nat) (a : Addr) (ds : List Dt), as[k]? = some a → dss[k]? = some ds → H a = none ∧ S' a = none ∧ ∃ vs, H' a = some (.lst vs) ∧ RpL K S' vs ds
def SndN (W : Wo) (ta : TA) (ma : Fd → Md (List (List Dt))) : Prop := ∀ (G B H S : Hp) (σ : L2.St) (Δ : Fd) (Q : List V → Hp → Prop), Slt W.K W.T G B H S σ Δ →
  Wp (ma Δ) (fun dss => ∀ (as : List Addr) (H' S' : Hp), Gr H S H' S' → NwL W.K H H' S' as dss → Q (as.map V.ref) H') (XW W.mg W.E H) → ta σ H Q
def mNNil : Fd → Md (List (List Dt)) := fun _ => .ok []
def mNCons (ma : Fd → Md Dt) (mr : Fd → Md (List (List Dt))) : Fd → Md (List (List Dt)) := fun Δ => (ma Δ).bind fun d => match d with
  | .lst ds => (mr Δ).bind fun r => .ok (ds :: r)
  | _ => .bad
section
variable {W : Wo} {K : PySem.W.Frag} {te : TE} {me : Fd → Md Dt} {ta : TA} {ma : Fd → Md (List (List Dt))}
theorem sn_nil : SndN W tNil mNNil := fun G B H S σ Δ Q s w => w [] H S (Gr.refl s.sh) ⟨.nil, rfl, fun k a ds h => by simp at h⟩
theorem sn_cons (h : SndE W .n te me) (k : SndN W ta ma) : SndN W (tCons te ta) (mNCons me ma) := by
  intro G B H S σ Δ Q s w
  refine h G B H S σ Δ _ s (w.bind.mono (fun d q v H1 S1 g1 hd nw => ?_) fun _ z => z)
  obtain ⟨p, vs, ds, rfl, rfl, e1, e2, r1⟩ := hd
  obtain ⟨p', z, hp⟩ := nw
  cases z
  have q : Wp ((ma Δ).bind fun r => Md.ok (ds :: r)) _ _ := q
  refine k G B H1 S1 σ Δ _ (s.grow g1) (q.bind.mono (fun dss q2 as H2 S2 g2 nl => ?_) fun _ z => z.grow g1.hh)
  have q2 : ∀ (as : List Addr) (H' S' : Hp), Gr H S H' S' → NwL W.K H H' S' as (ds :: dss) → Q (as.map V.ref) H' := q2
  refine q2 (p :: as) H2 S2 (g1.trans g2) ⟨?_, congrArg (· + 1) nl.len, fun j a es h1 h2 => ?_⟩
  · refine List.nodup_cons.mpr ⟨fun hm => ?_, nl.nd⟩
    obtain ⟨j, hj, e⟩ := List.getElem_of_mem hm
    have hj2 : j < dss.length := nl.len ▸ hj
    obtain ⟨z, _⟩ := nl.at_ j p dss[j] (List.getElem?_eq_some_iff.mpr ⟨hj, e⟩) (List.getElem?_eq_getElem hj2)
    rw [e1] at z
    cases z
  · cases j with
    | zero =>
      cases h1
      cases h2
      exact ⟨hp, g2.fr p (by rw [e1]; exact fun z => by cases z) e2, vs, g2.hh.lst e1, RpL.mono g2.ss r1⟩
    | succ j =>
      obtain ⟨z1, z2⟩ := nl.at_ j a es h1 h2
      exact ⟨g1.hh.free z1, z2⟩
end
/-- a block that only looks, or hands something back -/
def SndLk (W : Wo) (ts : TS) (ms : Fd → Md Out) : Prop := ∀ (G B H S : Hp) (σ : L2.St) (Δ : Fd) (D : Ends), Slt W.K W.T G B H S σ Δ →
  Wp (ms Δ) (fun o => match o with
    | .rt d => ∀ v H', Rt W.K false G B H' v d → D.rt v H'
    | .nx _ => ∀ H' S', Gr H S H' S' → D.nx σ H'
    | _ => False) (XW W.mg W.E H) → ts D σ H
section
variable {W : Wo} {K : PySem.W.Frag}
theorem sc_next : SndLk W tNext mNext := fun G B H S σ Δ D s w => w H S (Gr.refl s.sh)
theorem sc_ret {te : TE} {me : Fd → Md Dt} (h : SndE W .s te me) : SndLk W (tRet te) (mRet me) := fun G B H S σ Δ D s w => h G B H S σ Δ _ s (w.bind.mono (fun d k v H' S' g r _ => by
  have s' := s.grow g
  exact k v H' ⟨S', s'.gh, s'.bs, s'.sh, s'.fr, r⟩) fun _ z => z)
theorem sc_if {tt : TT} {mt : Fd → Md Bool} {t u : TS} {mo mp : Fd → Md Out} (h : SndT W tt mt) (h1 : SndLk W t mo) (h2 : SndLk W u mp) : SndLk W (tIfS tt t u) (mIfS mt mo mp) := fun G B H S σ Δ D s w =>
  h G B H S σ Δ _ s (w.bind.mono (fun b k H' S' g => by
    have s' := s.grow g
    cases b with
    | true => exact h1 G B H' S' σ Δ D s' (Wp.mono k (fun o q => by
        cases o with
        | nx _ => exact fun H2 S2 g2 => q H2 S2 (g.trans g2)
        | rt d => exact q
        | bk _ => exact q
        | ct _ => exact q) fun _ z => z.grow g.hh)
    | false => exact h2 G B H' S' σ Δ D s' (Wp.mono k (fun o q => by
        cases o with
        | nx _ => exact fun H2 S2 g2 => q H2 S2 (g.trans g2)
        | rt d => exact q
        | bk _ => exact q
        | ct _ => exact q) fun _ z => z.grow g.hh)) fun _ z => z)
def mSeqC (a b : Fd → Md Out) : Fd → Md Out := fun Δ => (a Δ).bind fun o => match o with
  | .nx _ => b Δ
  | o => .ok o
theorem sc_seq {t u : TS} {mo mp : Fd → Md Out} (h1 : SndLk W t mo) (h2 : SndLk W u mp) : SndLk W (tSeq t u) (mSeqC mo mp) := fun G B H S σ Δ D s w => by
  refine h1 G B H S σ Δ _ s (w.bind.mono (fun o k => ?_) fun _ z => z)
  cases o with
  | nx Δ' => exact fun H' S' g => h2 G B H' S' σ Δ D (s.grow g) (Wp.mono k (fun o q => by
        cases o with
        | nx _ => exact fun H2 S2 g2 => q H2 S2 (g.trans g2)
        | rt d => exact q
        | bk _ => exact q
        | ct _ => exact q) fun _ z => z.grow g.hh)
  | rt d => exact k
  | bk _ => exact k.elim
  | ct _ => exact k.elim
end
/-! told = [new lists]; looks; for r in told: r.append(c) -/
def mTold (i j : Nat) (mn : Fd → Md (List (List Dt))) (mc : Fd → Md Out) : Fd → Md Out := fun Δ => if i < Δ.length ∧ j < Δ.length ∧ i ≠ j then (mn Δ).bind fun dss => if dss.length ≤ 16777216 ∧ (dss.all fun ds => decide (ds.length < 16777216)) = true then (mc (Δ.set i (.sh (.lst (dss.map Dt.lst))))).bind fun o => match o with
  | .rt d => .ok (.rt d)
  | .nx _ => .ok (.nx ((Δ.set i .un).set j .un))
  | _ => .bad
  else .bad else .bad
section
variable {W : Wo} {K : PySem.W.Frag}
open Classical in
noncomputable def shareAll (H2 S1 : Hp) (l : List Addr) : Hp := fun b => if b ∈ l then H2 b else S1 b
theorem share_in {H2 S1 : Hp} {l : List Addr} {b : Addr} (h : b ∈ l) : shareAll H2 S1 l b = H2 b := if_pos h
theorem share_out {H2 S1 : Hp} {l : List Addr} {b : Addr} (h : b ∉ l) : shareAll H2 S1 l b = S1 b := if_neg h
/-- what the frame doesn't name may have changed -/
theorem Slt.aside {T : List Addr} {G B H S H8 : Hp} {σ σ8 : L2.St} {Δ : Fd} {i j : Nat} (s : Slt K T G B H S σ Δ) (e : Ex H H8) (e2 : Ex S H8) (hl : σ8.length = σ.length) (ha : ∀ t, t ≠ i → t ≠ j → σ8[t]? = σ[t]?) : Slt K T G B H8 S σ8 ((Δ.set i .un).set j .un) := by
  have at1 : ∀ {t : Nat} {x : Sd}, x ≠ .un → ((Δ.set i .un).set j .un)[t]? = some x → t ≠ i ∧ t ≠ j ∧ Δ[t]? = some x := fun {t x} hx h => by
    by_cases hj : j = t
    · subst hj
      by_cases q : j < (Δ.set i Sd.un).length
      · rw [List.getElem?_set_self q] at h
        cases h
        exact absurd rfl hx
      · rw [List.getElem?_eq_none (by rw [List.length_set]; omega)] at h
        cases h
    · rw [List.getElem?_set_ne hj] at h
      by_cases hi : i = t
      · subst hi
        by_cases q : i < Δ.length
        · rw [List.getElem?_set_self q] at h
          cases h
          exact absurd rfl hx
        · rw [List.getElem?_eq_none (by rw [List.length_set]; omega)] at h
          cases h
      · rw [List.getElem?_set_ne hi] at h
        exact ⟨fun z => hi z.symm, fun z => hj z.symm, h⟩
  refine ⟨by rw [List.length_set, List.length_set, hl]; exact s.len, s.gh.trans e, s.bg, s.bs, e2, s.fr, fun P hP => e.tabG (s.tb P hP), fun t d h => ?_, fun t ds h => ?_, fun t u ds es a h1 h2 h3 h4 => ?_⟩
  · obtain ⟨n1, n2, h⟩ := at1 (by simp) h
    rw [ha t n1 n2]
    exact s.shd t d h
  · obtain ⟨n1, n2, h⟩ := at1 (by simp) h
    obtain ⟨a, vs, q1, q2, q3, q4, q5⟩ := s.own t ds h
    exact ⟨a, vs, by rw [ha t n1 n2]; exact q1, q2, q3, e.lst q4, q5⟩
  · obtain ⟨n1, n2, h1⟩ := at1 (by simp) h1
    obtain ⟨n3, n4, h2⟩ := at1 (by simp) h2
    rw [ha t n1 n2] at h3
    rw [ha u n3 n4] at h4
    exact s.nd t u ds es a h1 h2 h3 h4
theorem ss_told {ta : TA} {mn : Fd → Md (List (List Dt))} {tc : TS} {mc : Fd → Md Out} {i j : Nat} {c : Int} (hn : SndN W ta mn) (hc : SndLk W tc mc) :
    SndS W false (tSeq (tAsg (tLst ta) (gName i)) (tSeq tc (tFor (iList W.K (tVar i)) (gName j) (tDrop (tBM W.K "list" rAppend (tVar j) (tCons (tC (.int c)) tNil)))))) (mTold i j mn mc) := by
  intro G B H S σ Δ D s w
  unfold mTold at w
  by_cases hb : i < Δ.length ∧ j < Δ.length ∧ i ≠ j
  · rw [if_pos hb] at w
    obtain ⟨hi, hj, hij⟩ := hb
    refine hn G B H S σ Δ _ s (w.bind.mono (fun dss q as H1 S1 g1 nl => ?_) fun _ z => xw_up s z)
    by_cases hz : dss.length ≤ 16777216 ∧ (dss.all fun ds => decide (ds.length < 16777216)) = true
    · rw [if_pos hz] at q
      refine ⟨by rw [List.length_map, nl.len, sizeLine_eq]; exact hz.1, fun p hp => ?_⟩
      have fresh : ∀ a ∈ as, H a = none ∧ S1 a = none ∧ H1 a ≠ none := fun a ha => by
        obtain ⟨k, hk, e⟩ := List.getElem_of_mem ha
        have hk2 : k < dss.length := nl.len ▸ hk
        obtain ⟨z1, z2, vs, z3, _⟩ := nl.at_ k a dss[k] (List.getElem?_eq_some_iff.mpr ⟨hk, e⟩) (List.getElem?_eq_getElem (nl.len ▸ hk))
        exact ⟨z1, z2, by rw [z3]; exact fun z => by cases z⟩
      have ap : ∀ a ∈ as, a ≠ p := fun a ha z => (fresh a ha).2.2 (z ▸ hp)
      have pH : H p = none := g1.hh.free hp
      have pS : S1 p = none := g1.sh.free hp
      have up : ∀ b, b ≠ p → upd H1 p (.lst (as.map V.ref)) b = H1 b := fun b hb => upd_ne hb
      generalize hH2 : upd H1 p (HO.lst (as.map V.ref)) = H2 at up
      have Hp2 : H2 p = some (.lst (as.map V.ref)) := by rw [← hH2]; exact upd_same
      have x12 : Ex H1 H2 := by rw [← hH2]; exact Ex.new hp
      have outS : ∀ b, S1 b ≠ none → b ∉ p :: as := fun b hb hm => by
        rcases List.mem_cons.mp hm with z | z
        · exact hb (z ▸ pS)
        · exact hb (fresh b z).2.1
      have xs : Ex S1 (shareAll H2 S1 (p :: as)) := ⟨fun b o e _ => by rw [share_out (outS b (by rw [e]; exact fun z => by cases z))]; exact e, fun P ps e => ⟨ps, by rw [share_out (outS P (by rw [e]; exact fun z => by cases z))]; exact e, fun t => t⟩⟩
      have gr : Gr H S H2 (shareAll H2 S1 (p :: as)) := by
        refine ⟨g1.hh.trans x12, g1.ss.trans xs, ⟨fun b o e n => ?_, fun P ps e => ?_⟩, fun b h1 h2 => ?_⟩
        · by_cases hm : b ∈ p :: as
          · rw [share_in hm] at e
            exact e
          · rw [share_out hm] at e
            exact (g1.sh.trans x12).same b o e n
        · by_cases hm : P ∈ p :: as
          · rw [share_in hm] at e
            exact ⟨ps, e, fun t => t⟩
          · rw [share_out hm] at e
            exact (g1.sh.trans x12).tabs P ps e
        · have hm : b ∉ p :: as := fun hm => by
            rcases List.mem_cons.mp hm with z | z
            · exact h1 (z ▸ pH)
            · exact h1 (fresh b z).1
          rw [share_out hm]
          exact g1.fr b h1 h2
      have told : Rp W.K (shareAll H2 S1 (p :: as)) (.ref p) (.lst (dss.map Dt.lst)) := by
        refine .lst (by rw [share_in List.mem_cons_self]; exact Hp2) (RpL.of_at (by rw [List.length_map, List.length_map, nl.len]) fun k v d h1 h2 => ?_)
        rw [List.getElem?_map] at h1 h2
        obtain ⟨a, ha, rfl⟩ := Option.map_eq_some_iff.mp h1
        obtain ⟨ds, hd, rfl⟩ := Option.map_eq_some_iff.mp h2
        obtain ⟨_, _, vs, z3, z4⟩ := nl.at_ k a ds ha hd
        have am := List.mem_of_getElem? ha
        exact .lst (by rw [share_in (List.mem_cons_of_mem _ am), up a (ap a am)]; exact z3) (RpL.mono xs z4)
      have s2 := (s.grow gr).set i told
      refine hc G B H2 _ _ _ _ s2 (q.bind.mono (fun o k => ?_) fun _ z => (xw_up s z).grow gr.hh)
      cases o with
      | bk _ => exact k.elim
      | ct _ => exact k.elim
      | rt d => exact k
      | nx Δ' =>
        intro H5 S5 g5
        have k : ∀ (H' S' : Hp) (σ' : L2.St), Slt W.K W.T G B H' S' σ' ((Δ.set i .un).set j .un) → D.nx σ' H' := k
        have il : i < σ.length := by rw [s.len]; exact hi
        refine ⟨.ref p, List.getElem?_set_self il, p, rfl, ⟨_, .of (g5.hh.lst Hp2)⟩, ?_⟩
        have big : ∀ (t : Nat) (a : Addr) (ds : List Dt), as[t]? = some a → dss[t]? = some ds → ∃ vs, H5 a = some (.lst vs) ∧ vs.length < sizeLine := fun t a ds ha hd => by
          obtain ⟨_, _, vs, z3, z4⟩ := nl.at_ t a ds ha hd
          refine ⟨vs, g5.hh.lst (by rw [up a (ap a (List.mem_of_getElem? ha))]; exact z3), ?_⟩
          rw [z4.length, sizeLine_eq]
          exact of_decide_eq_true (List.all_eq_true.mp hz.2 ds (List.mem_of_getElem? hd))
        have eH : Ex H H5 := gr.hh.trans g5.hh
        have eS : Ex S H5 := gr.ss.trans (g5.ss.trans g5.sh)
        refine ⟨fun t m σ' H' => t ≤ as.length ∧ m = as.length - t ∧ σ'.length = σ.length ∧ (∀ u, u ≠ i → u ≠ j → σ'[u]? = σ[u]?) ∧ Ex H H' ∧ Ex S H' ∧ H' p = some (.lst (as.map V.ref)) ∧ ∀ u a, t ≤ u → as[u]? = some a → ∃ vs, H' a = some (.lst vs) ∧ vs.length < sizeLine,
          ⟨as.length, Nat.zero_le _, rfl, by rw [List.length_set], fun u n1 _ => List.getElem?_set_ne fun z => n1 z.symm, eH, eS, g5.hh.lst Hp2, fun u a _ ha => ?_⟩, ?_⟩
        · have hu : u < dss.length := nl.len ▸ (List.getElem?_eq_some_iff.mp ha).1
          exact big u a dss[u] ha (List.getElem?_eq_getElem hu)
        · rintro t m σ' H' ⟨h1, h2, h3, h4, h5, h6, h7, h8⟩
          by_cases ht : t = as.length
          · exact .inl ⟨⟨_, .of h7, by rw [List.length_map]; omega⟩, k H' S σ' (s.aside h5 h6 h3 h4)⟩
          · have htl : t < as.length := by omega
            have hat : (as.map V.ref)[t]? = some (.ref as[t]) := by rw [List.getElem?_map, List.getElem?_eq_getElem htl]; rfl
            refine .inr ⟨⟨_, _, .of h7, hat⟩, fun σ2 H2' => (t + 1 ≤ as.length ∧ σ2.length = σ.length ∧ (∀ u, u ≠ i → u ≠ j → σ2[u]? = σ[u]?) ∧ Ex H H2' ∧ Ex S H2' ∧ H2' p = some (.lst (as.map V.ref)) ∧ ∀ u a, t + 1 ≤ u → as[u]? = some a → ∃ vs, H2' a = some (.lst vs) ∧ vs.length < sizeLine), fun σ2 H2' ⟨a1, a2, a3, a4, a5, a6, a7⟩ => ⟨as.length - (t + 1), by omega, a1, rfl, a2, a3, a4, a5, a6, a7⟩, ?_⟩
            rintro x H6 ⟨rfl, hx⟩
            have hx := hx _ (.of h7)
            rw [hat] at hx
            cases hx
            obtain ⟨vs, v1, v2⟩ := h8 t as[t] (Nat.le_refl t) (List.getElem?_eq_getElem htl)
            have jl : j < σ'.length := by rw [h3, s.len]; exact hj
            have am : as[t] ∈ as := List.getElem_mem htl
            refine ⟨.ref as[t], List.getElem?_set_self jl, .inl ⟨rfl, vs, .of v1⟩, as[t], vs, .int c, rfl, rfl, v1, v2, ?_⟩
            refine ⟨by omega, by rw [List.length_set]; exact h3, fun u n1 n2 => by rw [List.getElem?_set_ne fun z => n2 z.symm]; exact h4 u n1 n2, h5.mut (fresh _ am).1, h6.mut (s.sh.free (fresh _ am).1), by rw [upd_ne fun z => ap _ am z.symm]; exact h7, fun u a hu ha => ?_⟩
            have ne : a ≠ as[t] := fun z => by
              have e1 := (List.getElem?_eq_getElem htl).symm ▸ (show as[u]? = some as[t] from z ▸ ha)
              have := (List.getElem?_inj (List.getElem?_eq_some_iff.mp ha).1 nl.nd).mp (ha.trans (z ▸ (List.getElem?_eq_getElem htl).symm))
              omega
            rw [upd_ne ne]
            exact h8 u a (by omega) ha
    · rw [if_neg hz] at q
      exact q.elim
  · rw [if_neg hb] at w
    exact w.elim
end
end Mr
namespace Mr
open PySem L2 PySem.Spec PyProof.Rows
structure DN (X : Cx) (T : List Addr) (E : XK) (es : List Expr) (ta : TA) (mn : Fd → Md (List (List Dt))) : Prop where
  pa : PA X es ta
  sn : SndN ⟨X.K, T, X.mg, E⟩ ta mn
structure DLk (X : Cx) (T : List Addr) (E : XK) (st : Stmt) (ts : TS) (ms : Fd → Md Out) : Prop where
  ps : PS X st ts
  sn : SndLk ⟨X.K, T, X.mg, E⟩ ts ms
section
variable {X : Cx} {T : List Addr} {E : XK} {fl : Fl} {c e : Expr} {es : List Expr} {te : TE} {me : Fd → Md Dt} {ta : TA} {mn : Fd → Md (List (List Dt))} {tt : TT} {mt : Fd → Md Bool} {pos p p2 p3 p4 p5 p6 p7 p8 apos cpos rpos : Pos} {k : Nat} {x y : Str}
theorem n_nil : DN X T E [] tNil mNNil := ⟨pa_nil, sn_nil⟩
theorem n_cons (h : DE X T E .n e te me) (r : DN X T E es ta mn) (hs : starEach (e :: es) X.env = (false, eval e X.env) :: starEach es X.env := by rfl) : DN X T E (e :: es) (tCons te ta) (mNCons me mn) := ⟨pa_cons h.pe r.pa hs, sn_cons h.sn r.sn⟩
theorem lk_if (hc : DT X T E c tt mt) (he : DE X T E .s e te me) : DLk X T E (.If c [.Return (some e) rpos] [] pos) (tIfS tt (tRet te) tNext) (mIfS mt (mRet me) mNext) :=
  ⟨ps_if hc.pt (pss_one (ps_ret he.pe)) pss_nil, sc_if hc.sn (sc_ret he.sn) sc_next⟩
theorem b_told {s1 s2 s3 : Stmt} {t1 t2 t3 : TS} {m1 m2 m3 : Fd → Md Out} {v : Int} {jj : Nat} (i j : Nat) (cc : Cok X k E) (hn : DN X T E es ta mn) (h1 : DLk X T E s1 t1 m1) (h2 : DLk X T E s2 t2 m2) (h3 : DLk X T E s3 t3 m3)
    (hi : X.N[i]? = some x := by rfl) (hx : X.env.scope.names.lookup x = some .local := by rfl) (hj : X.N[j]? = some y := by rfl) (hy : X.env.scope.names.lookup y = some .local := by rfl)
    (hd : (x == ("__debug__" : Str)) = false := by decide) (hcd : (x == ("__classdict__" : Str)) = false := by decide) (hd2 : (y == ("__debug__" : Str)) = false := by decide) (hcd2 : (y == ("__classdict__" : Str)) = false := by decide)
    (hsw : swapsWith (.List es p2) (some (.Name x p)) pos.line X.env = pure false := by rfl)
    (hs : ∀ z, foldedSetIterable (.Name x p4) X.env z = pure z := by intro _; rfl)
    (hbase : attributeBase (.Name y p6) "append" X.env (eval (.Name y p6) X.env) = eval (.Name y p6) X.env := by rfl)
    (hfew : ((backTo cpos (starEach [.Constant (.int v) jj p7] X.env)).all (fun x => !x.1) && (backToKw cpos (keywordEach [] X.env)).all (fun x => x.1.isSome) && decide (([.Constant (.int v) jj p7] : List Expr).length + ([] : List Keyword).length + (if ([] : List Keyword).isEmpty then 0 else 1) < 30)) = true := by rfl)
    (hline : (apos.endLine == cpos.line) = true := by rfl) (hst : starEach [.Constant (.int v) jj p7] X.env = (false, eval (.Constant (.int v) jj p7) X.env) :: starEach [] X.env := by rfl) (hplain : (backTo cpos (starEach [] X.env)).any (·.1) = false := by rfl)
    (hsw2 : swapsWith (.Call (.Attribute (.Name y p6) "append" apos) [.Constant (.int v) jj p7] [] cpos) none p8.line X.env = pure false := by rfl) :
    DB X T E false (.Assign [.Name x p] (.List es p2) pos :: s1 :: s2 :: s3 :: [.For (.Name y p3) (.Name x p4) [.Expr (.Call (.Attribute (.Name y p6) "append" apos) [.Constant (.int v) jj p7] [] cpos) p8] [] p5])
      (tSeq (tAsg (tLst ta) (gName i)) (tSeq (tSeq t1 (tSeq t2 t3)) (tFor (iList X.K (tVar i)) (gName j) (tDrop (tBM X.K "list" rAppend (tVar j) (tCons (tC (.int v)) tNil)))))) (mTold i j mn (mSeqC m1 (mSeqC m2 m3))) := by
  refine ⟨?_, ss_told (W := ⟨X.K, T, X.mg, E⟩) hn.sn (sc_seq h1.sn (sc_seq h2.sn h3.sn))⟩
  have pF : PS X (.For (.Name y p3) (.Name x p4) [.Expr (.Call (.Attribute (.Name y p6) "append" apos) [.Constant (.int v) jj p7] [] cpos) p8] [] p5) (tFor (iList X.K (tVar i)) (gName j) (tDrop (tBM X.K "list" rAppend (tVar j) (tCons (tC (.int v)) tNil)))) :=
    ps_for cc.own cc.calm (pi_list (pe_var hi (.inl hx) hd hcd)) (pg_name cc.nd hj (.inl hy) (.inr hy)) (pss_one (ps_expr (pe_bm PySem.F.plainAttrs_list PySem.F.slot_list_append PySem.F.type_list_append mt_append (pe_var hj (.inl hy) hd2 hcd2) (pa_cons pe_int pa_nil hst) hbase hfew hline hst hplain) hsw2)) hs
  have q := pss_cons (ps_set cc.nd hi (.inl hx) (pe_lst hn.pa) hsw (.inr hx)) (pss_cons h1.ps (pss_cons h2.ps (pss_cons h3.ps (pss_one pF))))
  exact q
end
end Mr
/-! What mirrors answer, step by step (functions kept closed, so that nothing is unfolded). -/
namespace Mr
open PySem L2
section
variable {Δ Δ' : Fd} {ma mb : Fd → Md Dt} {mt mu : Fd → Md Bool} {mo mp : Fd → Md Out} {mas : Fd → Md (List Dt)} {a b d : Dt} {ds es : List Dt} {f : Dt → Dt → Md Dt} {g : Dt → Md Dt} {o : Out} {k : Bool} {i j : Nat} {r : Md Dt} {ro : Md Out} {rb : Md Bool}
theorem bind_ok {α β : Type} {x : α} {h : α → Md β} : (Md.ok x).bind h = h x := rfl
theorem var_ok (h : Δ[i]? = some (.sh d)) : mVar i Δ = .ok d := by
  unfold mVar
  rw [h]
theorem own_ok (h : Δ[i]? = some (.ow ds)) : mOwn i Δ = .ok (.lst ds) := by
  unfold mOwn
  rw [h]
theorem c_ok : mC d Δ = .ok d := rfl
theorem u_ok (h : ma Δ = .ok a) : mU g ma Δ = g a := by
  unfold mU
  rw [h]
  rfl
theorem bin_ok (h1 : ma Δ = .ok a) (h2 : mb Δ = .ok b) : mBin f ma mb Δ = f a b := by
  unfold mBin
  rw [h1, bind_ok, h2]
  rfl
theorem t_ok (h : ma Δ = .ok (.bl k)) : mT ma Δ = .ok k := by
  unfold mT
  rw [h]
  rfl
theorem not_ok (h : mt Δ = .ok k) : mNot mt Δ = .ok (!k) := by
  unfold mNot
  rw [h]
  rfl
theorem and_t (h : mt Δ = .ok true) : mAnd mt mu Δ = mu Δ := by
  unfold mAnd
  rw [h]
  rfl
theorem and_f (h : mt Δ = .ok false) : mAnd mt mu Δ = .ok false := by
  unfold mAnd
  rw [h]
  rfl
theorem or_t (h : mt Δ = .ok true) : mOr mt mu Δ = .ok true := by
  unfold mOr
  rw [h]
  rfl
theorem or_f (h : mt Δ = .ok false) : mOr mt mu Δ = mu Δ := by
  unfold mOr
  rw [h]
  rfl
theorem andV_t (h : ma Δ = .ok (.bl true)) : mAndV ma mb Δ = mb Δ := by
  unfold mAndV
  rw [t_ok h]
  rfl
theorem andV_f (h : ma Δ = .ok (.bl false)) : mAndV ma mb Δ = .ok (.bl false) := by
  unfold mAndV
  rw [t_ok h]
  rfl
theorem orV_t (h : ma Δ = .ok (.bl true)) : mOrV ma mb Δ = .ok (.bl true) := by
  unfold mOrV
  rw [t_ok h]
  rfl
theorem orV_f (h : ma Δ = .ok (.bl false)) : mOrV ma mb Δ = mb Δ := by
  unfold mOrV
  rw [t_ok h]
  rfl
theorem notV_ok (h : ma Δ = .ok (.bl k)) : mNotV ma Δ = .ok (.bl (!k)) := by
  unfold mNotV
  rw [t_ok h]
  rfl
theorem nil_ok : mNil Δ = .ok [] := rfl
theorem cons_ok (h1 : ma Δ = .ok a) (h2 : mas Δ = .ok ds) : mCons ma mas Δ = .ok (a :: ds) := by
  unfold mCons
  rw [h1, bind_ok, h2]
  rfl
theorem lst_ok (h : mas Δ = .ok ds) (hl : ds.length ≤ 16777216) : mLst mas Δ = .ok (.lst ds) := by
  unfold mLst
  rw [h, bind_ok]
  exact if_pos (decide_eq_true hl)
theorem tup_ok (h : mas Δ = .ok ds) (hl : ds.length ≤ 16777216) : mTup mas Δ = .ok (.tup ds) := by
  unfold mTup
  rw [h, bind_ok]
  exact if_pos (decide_eq_true hl)
theorem call_ok {n : Nat} {mir : List Dt → Md Dt} (h : mas Δ = .ok ds) (hn : ds.length = n) : mCall n mir mas Δ = mir ds := by
  unfold mCall
  rw [h, bind_ok]
  exact if_pos hn
theorem callF_ok {n : Nat} {mir : List Dt → Md Dt} (h : mas Δ = .ok ds) (hn : ds.length = n) (hm : mir ds = .ok d) (hf : flatD d = true) : mCallF n mir mas Δ = .ok d := by
  unfold mCallF
  rw [h, bind_ok, if_pos hn, hm, bind_ok]
  exact if_pos hf
theorem seq_nx (h : mo Δ = .ok (.nx Δ')) : mSeq mo mp Δ = mp Δ' := by
  unfold mSeq
  rw [h]
  rfl
theorem seq_rt (h : mo Δ = .ok (.rt d)) : mSeq mo mp Δ = .ok (.rt d) := by
  unfold mSeq
  rw [h]
  rfl
theorem seq_exc {c : Str} (h : mo Δ = .exc c) : mSeq mo mp Δ = .exc c := by
  unfold mSeq
  rw [h]
  rfl
theorem if_t (h : mt Δ = .ok true) : mIfS mt mo mp Δ = mo Δ := by
  unfold mIfS
  rw [h]
  rfl
theorem if_f (h : mt Δ = .ok false) : mIfS mt mo mp Δ = mp Δ := by
  unfold mIfS
  rw [h]
  rfl
theorem ret_ok (h : ma Δ = .ok d) : mRet ma Δ = .ok (.rt d) := by
  unfold mRet
  rw [h]
  rfl
theorem ret_exc {c : Str} (h : ma Δ = .exc c) : mRet ma Δ = .exc c := by
  unfold mRet
  rw [h]
  rfl
theorem retO_ok (h : Δ[i]? = some (.ow ds)) : mRetO i Δ = .ok (.rt (.lst ds)) := by
  unfold mRetO
  rw [h]
theorem asg_ok (h : ma Δ = .ok d) : mAsg i ma Δ = .ok (.nx (Δ.set i (.sh d))) := by
  unfold mAsg
  rw [h]
  rfl
theorem asg_exc {c : Str} (h : ma Δ = .exc c) : mAsg i ma Δ = .exc c := by
  unfold mAsg
  rw [h]
  rfl
theorem asgO_ok (h : ma Δ = .ok (.lst ds)) : mAsgO i ma Δ = .ok (.nx (Δ.set i (.ow ds))) := by
  unfold mAsgO
  rw [h]
  rfl
theorem for_ok {mi : Fd → Md (List Dt)} {tg : Dt → Fd → Md Fd} (h : mi Δ = .ok ds) : mFor mi tg mo Δ = mForGo tg mo ds Δ := by
  unfold mFor
  rw [h]
  rfl
theorem go_nil {tg : Dt → Fd → Md Fd} : mForGo tg mo [] Δ = .ok (.nx Δ) := rfl
theorem go_nx {tg : Dt → Fd → Md Fd} {Δ1 Δ2 : Fd} (h1 : tg a Δ = .ok Δ1) (h2 : mo Δ1 = .ok (.nx Δ2)) : mForGo tg mo (a :: ds) Δ = mForGo tg mo ds Δ2 := by
  show (match tg a Δ with
    | .ok Δ1 => (mo Δ1).bind fun o => match o with
      | .nx Δ2 => mForGo tg mo ds Δ2
      | .ct Δ2 => mForGo tg mo ds Δ2
      | .bk Δ2 => .ok (.nx Δ2)
      | .rt d => .ok (.rt d)
    | _ => .bad) = _
  rw [h1]
  show ((mo Δ1).bind _) = _
  rw [h2]
  rfl
theorem go_rt {tg : Dt → Fd → Md Fd} {Δ1 : Fd} (h1 : tg a Δ = .ok Δ1) (h2 : mo Δ1 = .ok (.rt d)) : mForGo tg mo (a :: ds) Δ = .ok (.rt d) := by
  show (match tg a Δ with
    | .ok Δ1 => (mo Δ1).bind fun o => match o with
      | .nx Δ2 => mForGo tg mo ds Δ2
      | .ct Δ2 => mForGo tg mo ds Δ2
      | .bk Δ2 => .ok (.nx Δ2)
      | .rt d => .ok (.rt d)
    | _ => .bad) = _
  rw [h1]
  show ((mo Δ1).bind _) = _
  rw [h2]
  rfl
theorem name_ok : gsName i d Δ = .ok (Δ.set i (.sh d)) := rfl
theorem def_rt {nw : Bool} {n : Nat} {ms : Fd → Md Out} (h : ms (startD n ds) = .ok (.rt d)) : mDef nw n ms ds = .ok d := by
  unfold mDef
  rw [h]
  rfl
theorem def_exc {nw : Bool} {n : Nat} {ms : Fd → Md Out} {c : Str} (h : ms (startD n ds) = .exc c) : mDef nw n ms ds = .exc c := by
  unfold mDef
  rw [h]
  rfl
theorem lc_ok {mi : Fd → Md (List Dt)} {tg : Dt → Fd → Md Fd} {vs : List Nat} (h : mi Δ = .ok ds) (hl : ds.length < 16777216) (h2 : mLcGo tg mt ma (wipeD Δ vs) ds = .ok es) : mLc mi tg mt ma vs Δ = .ok (.lst es) := by
  unfold mLc
  rw [h, bind_ok, if_pos hl, h2]
  rfl
theorem gen_ok {fin : List Bool → Bool} {bs : List Bool} (h : mb Δ = .ok (.lst ds)) (hq : qok.go ds = true) (hi : i < Δ.length) (hb : allB (fun d => ma ((Δ.map cut).set i (.sh d))) ds = some bs) : mGen i fin mb ma Δ = .ok (.bl (fin bs)) := by
  unfold mGen
  rw [h, bind_ok]
  show (if qok.go ds = true ∧ i < Δ.length then _ else _) = _
  rw [if_pos ⟨hq, hi⟩, hb]
end
end Mr
namespace Mr
open PySem L2 PySem.Spec PyProof.Rows
/-- the end, with the tables of the defs in names -/
theorem walk_tabs {l : PySem.W.OpenLaw} {n k : Nat} {q : Program} {loose : List Str} {XP : (Str → Option Value) → Heap → Prop} {YP : World → Heap → Prop} {d : DefRec} {K : Params → PySem.W.Frag} {CX : World → CXT} {x : Str} (names : List Str)
    (hn : l.most = some n) (hn2 : n ≤ sizeLine) (hdf : d.params.defaults = []) (hr : Room k callerA) (hrec : names.all (fun y => ((recsOf q).find? fun e => e.name == y).isSome) = true) (hY : ∀ (w : World) (h : Heap), YP w h → (K w.params).In h)
    (F : ∀ (w : World) (mg : Str → Option Value) (fa : Addr) (h : Heap), YP w h → (K w.params).In h → h.Ns mainGlobals mg → mg d.name = some (.ref fa) → (∀ y ∈ names, ∀ c P, PySem.W.tabIn (K w.params) y = some (c, P) → PySem.W.CodeHd h c P ∧ h.get? P = some { cls := .none, data := .fields #[] }) → LamX.LawAtS l w (K w.params) (CX w) k n x mg fa h)
    (hCX : ∀ (w : World) (H : Hp) (s : Shared) (e : Value) (s' : Shared), CX w [] H s (fun _ _ _ => False) e s' → False) : PySem.W.WalkO q loose XP YP l.row.toRowW d [] (fun f vs => PySem.call f vs) := by
  refine Att.attach_callB hn hdf fun w s₀ s₁ mg mb fa o pm cd doc a vs ns G Y ho hd hcd hmg hobj hints hlen hbits hg => ?_
  have KX := hY w _ Y
  obtain ⟨fd, cs, sp, hT, nT, C, hb, hsp, hF⟩ := F w mg fa _ Y KX G.T.g hmg fun y hy c P ht => by
    obtain ⟨d', hd'⟩ := Option.isSome_iff_exists.mp (List.all_eq_true.mp hrec y hy)
    exact PySem.W.tab_of G.T KX hd' ht
  exact LamX.law_callTs KX G.T.g G.T.b G.T.builtins G.T.nolimit hg hT nT C G.T.bmain hobj hints (Nat.le_trans hlen hn2) hr hF hb (fun H hH hS => hsp H a ns hlen hbits hH hS) fun H e s' => hCX w H s₁ e s'
theorem tabB_of {base : Heap} {mg : Str → Option Value} {c P : Addr} (t : LamX.TabB base mg c P) : GxR.TabB base mg c P := ⟨t.1, t.2, t.3⟩
theorem cxN_end {P : Program} (w : World) (H : Hp) (s : Shared) (e : Value) (s' : Shared) : L2N.CX P w [] H s (fun _ _ _ => False) e s' → False := fun ⟨_, _, _, _, _, _, _, _, _, _, _, _, z⟩ => z
theorem kit_self {K : PySem.W.Frag} {t : Value} : PySem.W.kitOne K t t = some true := if_pos (by simp)
theorem kit_ref {K : PySem.W.Frag} {D C : Addr} {b : Bool} (h1 : PySem.W.subIn K (.ref D) (.ref C) = some b) (h2 : PySem.W.isClsIn K C = true) (h3 : PySem.W.typeIn K (.ref C) = some (.type "type")) (hne : (Value.ref D == Value.ref C) = false) : PySem.W.kitOne K (.ref D) (.ref C) = some b := by
  have h2' : (PySem.W.clsIn K C).isSome = true := h2
  unfold PySem.W.kitOne
  rw [hne, if_neg Bool.false_ne_true]
  show (if ((PySem.W.clsIn K C).isSome && PySem.W.typeIn K (.ref C) == some (.type "type")) = true then PySem.W.subIn K (.ref D) (.ref C) else none) = some b
  rw [if_pos (by rw [h2', h3]; rfl)]
  exact h1
theorem kit_ve {K : PySem.W.Frag} {D : Addr} {b : Bool} (h1 : PySem.W.subIn K (.ref D) (.type "ValueError") = some b) : PySem.W.kitOne K (.ref D) (.type "ValueError") = some b := by
  unfold PySem.W.kitOne
  rw [show (Value.ref D == Value.type "ValueError") = false from rfl, if_neg Bool.false_ne_true]
  show (if PySem.W.kitMeta "ValueError" = true then PySem.W.subIn K (.ref D) (.type "ValueError") else none) = some b
  rw [if_pos (by decide +kernel)]
  exact h1
theorem tab_in {K : PySem.W.Frag} {x : Str} {f c P : Addr} {oc e : Value} {od dd : Option Addr} {fd : FuncData} {sl s2 : Array (Option Value)} {vs : Array Value} (h1 : PySem.W.nsIn K mainGlobals x = some (some (.ref f))) (h2 : K.lookup f = some ⟨oc, od, .func fd, sl⟩) (h3 : fd.code = .ref c)
    (h4 : K.lookup c = some ⟨e, dd, .fields vs, s2⟩) (h5 : vs[11]? = some (.ref P)) : PySem.W.tabIn K x = some (c, P) := by
  unfold PySem.W.tabIn
  rw [h1]
  simp only [h2, h3, h4, h5]
/-- the script, as the law gets it -/
theorem rp_script {K : PySem.W.Frag} {H : Hp} {a : Addr} {ns : List Int} (h : SqL K H a (ns.map V.int)) : Rp K H (.ref a) (.lsk (ns.map Dt.int)) := by
  refine .lsk h ?_
  clear h
  induction ns with
  | nil => exact .nil
  | cons n r ih => exact .cons (.int n) ih
/-- the law answers True -/
theorem sp_true {K : PySem.W.Frag} {T : List Addr} {mg : Str → Option Value} {mir : List Dt → Md Dt} {H : Hp} {a : Addr} {ns : List Int} (tb : ∀ P ∈ T, H P = some (.tbl #[])) (h : SqL K H a (ns.map V.int)) (hm : mir [.lsk (ns.map Dt.int)] = .ok (.bl true)) :
    spD K T mg false 1 mir [.ref a] H (fun v _ => v = .bl true) fun _ _ _ => False := by
  refine ⟨rfl, fun P hP => ⟨#[], tb P hP, by first | exact TriplesOk.nil | trivial | simp [TriplesOk]⟩, [.lsk (ns.map Dt.int)], H, Ex.refl H, .cons (rp_script h) .nil, ?_⟩
  rw [hm]
  intro v H' ⟨S, _, _, _, _, r⟩
  cases r
  rfl
end Mr
namespace K1
open PySem L2 Mr
def topS (i : Nat) : Stmt := PySem.Challenge.pw_sameweb_k01_rows.main.body.getD i (.Pass ⟨0, 0, 0, 0⟩)
abbrev st_is_whole : Stmt := topS 9
abbrev st_is_row : Stmt := topS 11
abbrev st_behind : Stmt := topS 12
abbrev st_back : Stmt := topS 13
abbrev st_size_of : Stmt := topS 14
abbrev st_law_cell_at : Stmt := topS 16
abbrev st_law_mixed : Stmt := topS 17
abbrev st_law_whole : Stmt := topS 18
abbrev st_law_row : Stmt := topS 19
abbrev st_law_alike_rows : Stmt := topS 20
abbrev st_law_alone : Stmt := topS 21
abbrev st_law_thing : Stmt := topS 22
abbrev st_law_good : Stmt := topS 23
abbrev st_law_refused : Stmt := topS 24
abbrev st_law : Stmt := topS 25
abbrev N_is_whole : List Str := ["thing"]
theorem sc_is_whole : FnScope N_is_whole ["thing"] (defScope st_is_whole) := ⟨rfl, rfl, rfl, by decide +kernel, rfl, by decide +kernel, by decide +kernel⟩
abbrev N_is_row : List Str := ["thing", "size", "number"]
theorem sc_is_row : FnScope N_is_row ["thing", "size"] (defScope st_is_row) := ⟨rfl, rfl, rfl, by decide +kernel, rfl, by decide +kernel, by decide +kernel⟩
abbrev N_size_of : List Str := ["thing"]
theorem sc_size_of : FnScope N_size_of ["thing"] (defScope st_size_of) := ⟨rfl, rfl, rfl, by decide +kernel, rfl, by decide +kernel, by decide +kernel⟩
abbrev N_behind : List Str := ["one", "other", "size", "number"]
theorem sc_behind : FnScope N_behind ["one", "other"] (defScope st_behind) := ⟨rfl, rfl, rfl, by decide +kernel, rfl, by decide +kernel, by decide +kernel⟩
abbrev N_back : List Str := ["row", "undone", "place", "number"]
theorem sc_back : FnScope N_back ["row"] (defScope st_back) := ⟨rfl, rfl, rfl, by decide +kernel, rfl, by decide +kernel, by decide +kernel⟩
abbrev N_law_cell_at : List Str := ["_law_script", "_law_k"]
theorem sc_law_cell_at : FnScope N_law_cell_at ["_law_script", "_law_k"] (defScope st_law_cell_at) := ⟨rfl, rfl, rfl, by decide +kernel, rfl, by decide +kernel, by decide +kernel⟩
abbrev N_law_mixed : List Str := ["_law_cell", "_law_k", "_law_number"]
theorem sc_law_mixed : FnScope N_law_mixed ["_law_cell", "_law_k"] (defScope st_law_mixed) := ⟨rfl, rfl, rfl, by decide +kernel, rfl, by decide +kernel, by decide +kernel⟩
abbrev N_law_whole : List Str := ["_law_found"]
theorem sc_law_whole : FnScope N_law_whole ["_law_found"] (defScope st_law_whole) := ⟨rfl, rfl, rfl, by decide +kernel, rfl, by decide +kernel, by decide +kernel⟩
abbrev N_law_row : List Str := ["_law_size", "_law_number", "_law_left", "_law_found", "_law_k"]
theorem sc_law_row : FnScope N_law_row ["_law_size", "_law_number"] (defScope st_law_row) := ⟨rfl, rfl, rfl, by decide +kernel, rfl, by decide +kernel, by decide +kernel⟩
abbrev N_law_alike_rows : List Str := ["_law_found", "_law_due", "_law_one"]
theorem sc_law_alike_rows : FnScope N_law_alike_rows ["_law_found", "_law_due"] (defScope st_law_alike_rows) := ⟨rfl, rfl, rfl, by decide +kernel, rfl, by decide +kernel, by decide +kernel⟩
abbrev N_law_thing : List Str := ["_law_row_here", "_law_cell", "_law_at", "_law_way", "_law_other", "_law_some", "_law_place"]
theorem sc_law_thing : FnScope N_law_thing ["_law_row_here", "_law_cell"] (defScope st_law_thing) := ⟨rfl, rfl, rfl, by decide +kernel, rfl, by decide +kernel, by decide +kernel⟩
abbrev N_law_good : List Str := ["_law_thing_here", "_law_size", "_law_one"]
theorem sc_law_good : FnScope N_law_good ["_law_thing_here", "_law_size"] (defScope st_law_good) := ⟨rfl, rfl, rfl, by decide +kernel, rfl, by decide +kernel, by decide +kernel⟩
abbrev N_law_refused : List Str := ["_law_way", "_law_one", "_law_other", "_law_e"]
theorem sc_law_refused : FnScope N_law_refused ["_law_way", "_law_one", "_law_other"] (defScope st_law_refused) := ⟨rfl, rfl, rfl, by decide +kernel, rfl, by decide +kernel, by decide +kernel⟩
abbrev N_law : List Str := ["_law_script", "_law_size", "_law_one", "_law_other", "_law_thing_here", "_law_found", "_law_handed", "_law_due", "_law_undone", "_law_turn", "_law_told", "_law_row_here", "_law_longer", "_law_is_none", "_law_number", "_law_place"]
theorem sc_law : FnScope N_law ["_law_script"] (defScope st_law) := ⟨rfl, rfl, rfl, by decide +kernel, rfl, by decide +kernel, by decide +kernel⟩
abbrev N_law_alone : List Str := ["_law_e", "_law_which", "_law_kinds", "_law_k"]
theorem sc_law_alone : FnScope N_law_alone ["_law_e", "_law_which"] (defScope st_law_alone) := ⟨rfl, rfl, rfl, by decide +kernel, rfl, by decide +kernel, by decide +kernel⟩
def m_law_alone (q1 q2 q3 q4 q5 q6 q7 : Bool) (a : Addr) : Fd → Md Out := (mSeq (mAsg 2 (mLst (mCons (mU (dIsX a q1) (mVar 0)) (mCons (mU (dIsX a q2) (mVar 0)) (mCons (mU (dIsX a q3) (mVar 0)) (mCons (mU (dIsX a q4) (mVar 0)) mNil)))))) (mSeq (mAsg 2 (mBin dCat (mVar 2) (mLst (mCons (mU (dIsX a q5) (mVar 0)) (mCons (mU (dIsX a q6) (mVar 0)) mNil))))) (mRet (mAndV (mU (dIsX a q7) (mVar 0)) (mBin dEq (mVar 2) (mLc (mIt1 (mCons (mC (.int 6)) mNil)) (gsName 3) mYes (mBin dEq (mVar 3) (mVar 1)) [3]))))))
def M_law_alone (q1 q2 q3 q4 q5 q6 q7 : Bool) : Addr → List Dt → Md Dt := fun a => mDef false 4 (m_law_alone q1 q2 q3 q4 q5 q6 q7 a)
def m_is_whole : Fd → Md Out := (mRet (mBin dIs (mU dType (mVar 0)) (mC (.ty "int"))))
def M_is_whole : List Dt → Md Dt := mDef false 1 m_is_whole
def m_is_row : Fd → Md Out := (mSeq (mIfS (mOr (mNot (mT (mCall 1 M_is_whole (mCons (mVar 1) mNil)))) (mT (mBin dLt (mVar 1) (mC (.int 1))))) (mRet (mC (.bl false))) mNext) (mSeq (mIfS (mOr (mT (mBin dIsNot (mU dType (mVar 0)) (mC (.ty "list")))) (mT (mBin dNe (mU dLen (mVar 0)) (mVar 1)))) (mRet (mC (.bl false))) mNext) (mRet (mAndV (mGen 2 (fun bs => bs.all id) (mVar 0) (mCall 1 M_is_whole (mCons (mVar 2) mNil))) (mBin dEq (mU dSorted (mVar 0)) (mU dListRg (mVar 1)))))))
def M_is_row : List Dt → Md Dt := mDef false 3 m_is_row
def m_size_of : Fd → Md Out := (mSeq (mIfS (mOr (mT (mBin dIsNot (mU dType (mVar 0)) (mC (.ty "list")))) (mNot (mT (mCall 2 M_is_row (mCons (mVar 0) (mCons (mU dLen (mVar 0)) mNil)))))) (mRaise "BadRow") mNext) (mRet (mU dLen (mVar 0))))
def M_size_of : List Dt → Md Dt := mDef false 1 m_size_of
def m_behind : Fd → Md Out := (mSeq (mAsg 2 (mCall 1 M_size_of (mCons (mVar 0) mNil))) (mSeq (mIfS (mNot (mT (mCall 2 M_is_row (mCons (mVar 1) (mCons (mVar 2) mNil))))) (mRaise "BadRow") mNext) (mRet (mLc (mItL (mVar 0)) (gsName 3) mYes (mBin dIx (mVar 1) (mVar 3)) [3]))))
def M_behind : List Dt → Md Dt := mDef true 4 m_behind
def m_back : Fd → Md Out := (mSeq (mAsgO 1 (mBin dRep (mLst (mCons (mC (.int 0)) mNil)) (mCall 1 M_size_of (mCons (mVar 0) mNil)))) (mSeq (mFor (mItE (mCons (mVar 0) mNil)) (gsTup 2 (gsCons (gsName 2) (gsCons (gsName 3) gsNil))) (mSetI 1 (mVar 2) (mVar 3))) (mRetO 1)))
def M_back : List Dt → Md Dt := mDef true 4 m_back
def m_law_cell_at : Fd → Md Out := (mSeq (mIfS (mT (mBin dLt (mVar 1) (mU dLen (mVar 0)))) (mRet (mBin dIx (mVar 0) (mVar 1))) mNext) (mRet (mC (.int 0))))
def M_law_cell_at : List Dt → Md Dt := mDef false 2 m_law_cell_at
def m_law_mixed : Fd → Md Out := (mSeq (mAsg 2 (mBin (dI fun i j => .int (i + j)) (mBin (dI fun i j => .int (i + j)) (mVar 0) (mBin (dIC mulOk fun i j => .int (i * j)) (mC (.int 7919)) (mVar 1))) (mC (.int 13)))) (mRet (mBin (dIC divOk fun i j => .int (i / j)) (mBin (dIC posOk fun i j => .int (i % j)) (mBin (dIC mulOk fun i j => .int (i * j)) (mBin (dIC posOk fun i j => .int (i % j)) (mBin (dIC mulOk fun i j => .int (i * j)) (mVar 2) (mVar 2)) (mC (.int 1000000007))) (mC (.int 48271))) (mC (.int 998244353))) (mC (.int 11)))))
def M_law_mixed : List Dt → Md Dt := mDef false 3 m_law_mixed
def m_law_whole : Fd → Md Out := (mRet (mAndV (mCB dIsi (mCons (mVar 0) (mCons (mC (.ty "int")) mNil))) (mNotV (mCB dIsi (mCons (mVar 0) (mCons (mC (.ty "bool")) mNil))))))
def M_law_whole : List Dt → Md Dt := mDef false 1 m_law_whole
def m_law_row : Fd → Md Out := (mSeq (mAsgO 2 (mU dListRg (mVar 0))) (mSeq (mAsgO 3 (mLst mNil)) (mSeq (mFor (mIt1 (mCons (mVar 0) mNil)) (gsName 4) (mSeq (mAppPop 3 2 (mBin (dIC posOk fun i j => .int (i % j)) (mVar 1) (mU dLen (mOwn 2)))) (mAsg 1 (mBin (dI fun i j => .int (i + j)) (mBin (dIC divOk fun i j => .int (i / j)) (mVar 1) (mBin (dI fun i j => .int (i - j)) (mVar 0) (mVar 4))) (mBin (dIC mulOk fun i j => .int (i * j)) (mC (.int 7)) (mVar 4)))))) (mRetO 3))))
def M_law_row : List Dt → Md Dt := mDef true 5 m_law_row
def m_law_alike_rows : Fd → Md Out := (mSeq (mIfS (mOr (mNot (mT (mCB dIsi (mCons (mVar 0) (mCons (mC (.ty "list")) mNil))))) (mT (mBin dNe (mU dLen (mVar 0)) (mU dLen (mVar 1))))) (mRet (mC (.bl false))) mNext) (mRet (mAndV (mU dAll (mLc (mItL (mVar 0)) (gsName 2) mYes (mCall 1 M_law_whole (mCons (mVar 2) mNil)) [2])) (mBin dEq (mVar 0) (mVar 1)))))
def M_law_alike_rows : List Dt → Md Dt := mDef false 3 m_law_alike_rows
def m_law_thing : Fd → Md Out := (mSeq (mAsg 2 (mBin (dIC posOk fun i j => .int (i % j)) (mBin (dIC divOk fun i j => .int (i / j)) (mVar 1) (mC (.int 9))) (mU dLen (mVar 0)))) (mSeq (mAsg 3 (mBin (dIC posOk fun i j => .int (i % j)) (mVar 1) (mC (.int 9)))) (mSeq (mIfS (mT (mBin dEq (mVar 3) (mC (.int 1)))) (mSeq (mAsg 4 (mBin dIx (mVar 0) (mBin (dIC posOk fun i j => .int (i % j)) (mBin (dI fun i j => .int (i + j)) (mVar 2) (mC (.int 1))) (mU dLen (mVar 0))))) (mRet (mBin dCat (mBin dCat (mSl (mVar 0) mNoO (mSoO (mVar 2))) (mLst (mCons (mVar 4) mNil))) (mSl (mVar 0) (mSoO (mBin (dI fun i j => .int (i + j)) (mVar 2) (mC (.int 1)))) mNoO)))) mNext) (mSeq (mIfS (mT (mBin dEq (mVar 3) (mC (.int 2)))) (mRet (mBin dCat (mSl (mVar 0) mNoO (mSoO (mVar 2))) (mSl (mVar 0) (mSoO (mBin (dI fun i j => .int (i + j)) (mVar 2) (mC (.int 1)))) mNoO))) mNext) (mSeq (mIfS (mT (mBin dEq (mVar 3) (mC (.int 3)))) (mSeq (mAsg 5 (mLst (mCons (mNeg (mC (.int 1))) (mCons (mU dLen (mVar 0)) (mCons (mC (.bl true)) (mCons (mC (.bl false)) (mCons (mC (.str ("0" : Str))) (mCons (mC .non) (mCons (mBin (dI fun i j => .int (i + j)) (mU dLen (mVar 0)) (mBin (dIC powOk fun i j => .int (i ^ j.toNat)) (mC (.int 10)) (mC (.int 9)))) (mCons (mLst (mCons (mC (.int 0)) mNil)) (mCons (mLst mNil) mNil))))))))))) (mRet (mBin dCat (mBin dCat (mSl (mVar 0) mNoO (mSoO (mVar 2))) (mLst (mCons (mBin dIx (mVar 5) (mBin (dIC posOk fun i j => .int (i % j)) (mBin (dIC divOk fun i j => .int (i / j)) (mVar 1) (mC (.int 108))) (mC (.int 9)))) mNil))) (mSl (mVar 0) (mSoO (mBin (dI fun i j => .int (i + j)) (mVar 2) (mC (.int 1)))) mNoO)))) mNext) (mSeq (mIfS (mT (mBin dEq (mVar 3) (mC (.int 4)))) (mRet (mBin dIx (mLst (mCons (mU dTuple (mVar 0)) (mCons (mC .non) (mCons (mC (.int 7)) (mCons (mC (.str ("0" : Str))) (mCons (mC .dic) mNil)))))) (mBin (dIC posOk fun i j => .int (i % j)) (mBin (dIC divOk fun i j => .int (i / j)) (mVar 1) (mC (.int 9))) (mC (.int 5))))) mNext) (mSeq (mIfS (mT (mBin dEq (mVar 3) (mC (.int 5)))) (mSeq (mAsg 6 (mM isInts dIndex (mVar 0) (mCB dMin (mCons (mBin (dIC posOk fun i j => .int (i % j)) (mBin (dIC divOk fun i j => .int (i / j)) (mVar 1) (mC (.int 9))) (mC (.int 2))) (mCons (mBin (dI fun i j => .int (i - j)) (mU dLen (mVar 0)) (mC (.int 1))) mNil))))) (mRet (mBin dCat (mBin dCat (mSl (mVar 0) mNoO (mSoO (mVar 6))) (mLst (mCons (mBin dEq (mBin dIx (mVar 0) (mVar 6)) (mC (.int 1))) mNil))) (mSl (mVar 0) (mSoO (mBin (dI fun i j => .int (i + j)) (mVar 6) (mC (.int 1)))) mNoO)))) mNext) (mRet (mU dList (mVar 0))))))))))
def M_law_thing : List Dt → Md Dt := mDef false 7 m_law_thing
def m_law_good : Fd → Md Out := (mSeq (mIfS (mOr (mNot (mT (mCB dIsi (mCons (mVar 0) (mCons (mC (.ty "list")) mNil))))) (mT (mBin dNe (mU dLen (mVar 0)) (mVar 1)))) (mRet (mC (.bl false))) mNext) (mSeq (mFor (mItL (mVar 0)) (gsName 2) (mIfS (mOr (mNot (mT (mCall 1 M_law_whole (mCons (mVar 2) mNil)))) (mNot (mT (mChn dLe dLt (mC (.int 0)) (mVar 2) (mVar 1))))) (mRet (mC (.bl false))) mNext)) (mRet (mBin dEq (mLc (mIt1 (mCons (mVar 1) mNil)) (gsName 2) (mT (mBin dNe (mM isInts dCount (mVar 0) (mVar 2)) (mC (.int 1)))) (mVar 2) [2]) (mLst mNil)))))
def M_law_good : List Dt → Md Dt := mDef false 3 m_law_good
def m_law_refused : Fd → Md Out := (mSeq (mTry "BadRow" (.bl true) (mIfS (mT (mBin dEq (mVar 0) (mC (.int 0)))) (mDrop (mCall 2 M_behind (mCons (mVar 1) (mCons (mVar 2) mNil)))) (mDrop (mCall 1 M_back (mCons (mVar 1) mNil))))) (mRet (mC (.bl false))))
def M_law_refused : List Dt → Md Dt := mDef false 4 m_law_refused
def m_law : Fd → Md Out := (mSeq (mAsg 1 (mBin (dI fun i j => .int (i + j)) (mC (.int 1)) (mBin (dIC posOk fun i j => .int (i % j)) (mCall 2 M_law_cell_at (mCons (mVar 0) (mCons (mC (.int 0)) mNil))) (mC (.int 12))))) (mSeq (mAsg 2 (mCall 2 M_law_row (mCons (mVar 1) (mCons (mCall 2 M_law_mixed (mCons (mCall 2 M_law_cell_at (mCons (mVar 0) (mCons (mC (.int 1)) mNil))) (mCons (mC (.int 1)) mNil))) mNil)))) (mSeq (mAsg 3 (mCall 2 M_law_row (mCons (mVar 1) (mCons (mCall 2 M_law_mixed (mCons (mCall 2 M_law_cell_at (mCons (mVar 0) (mCons (mC (.int 2)) mNil))) (mCons (mC (.int 2)) mNil))) mNil)))) (mSeq (mAsg 4 (mCall 2 M_law_thing (mCons (mVar 2) (mCons (mCall 2 M_law_mixed (mCons (mCall 2 M_law_cell_at (mCons (mVar 0) (mCons (mC (.int 3)) mNil))) (mCons (mC (.int 3)) mNil))) mNil)))) (mSeq (mAsg 5 (mCall 2 M_is_row (mCons (mVar 4) (mCons (mVar 1) mNil)))) (mSeq (mIfS (mOr (mNot (mT (mCB dIsi (mCons (mVar 5) (mCons (mC (.ty "bool")) mNil))))) (mT (mBin dNe (mVar 5) (mCall 2 M_law_good (mCons (mVar 4) (mCons (mVar 1) mNil)))))) (mRet (mC (.bl false))) mNext) (mSeq (mAsg 6 (mLst (mCons (mU dList (mVar 2)) (mCons (mU dList (mVar 3)) mNil)))) (mSeq (mAsg 7 (mLc (mItL (mVar 2)) (gsName 14) mYes (mBin dIx (mVar 3) (mVar 14)) [14])) (mSeq (mAsg 8 (mLc (mIt1 (mCons (mVar 1) mNil)) (gsName 15) mYes (mM isInts dIndex (mVar 2) (mVar 15)) [15])) (mSeq (mFor (mIt1 (mCons (mC (.int 2)) mNil)) (gsName 9) (mTold 10 11 (mNCons (mCall 2 M_behind (mCons (mBin dIx (mVar 6) (mC (.int 0))) (mCons (mBin dIx (mVar 6) (mC (.int 1))) mNil))) (mNCons (mCall 1 M_back (mCons (mBin dIx (mVar 6) (mC (.int 0))) mNil)) (mNCons (mCall 2 M_behind (mCons (mBin dIx (mVar 6) (mC (.int 0))) (mCons (mCall 1 M_back (mCons (mBin dIx (mVar 6) (mC (.int 0))) mNil)) mNil))) mNNil))) (mSeqC (mIfS (mNot (mT (mCall 2 M_law_alike_rows (mCons (mBin dIx (mVar 10) (mC (.int 0))) (mCons (mVar 7) mNil))))) (mRet (mC (.bl false))) mNext) (mSeqC (mIfS (mNot (mT (mCall 2 M_law_alike_rows (mCons (mBin dIx (mVar 10) (mC (.int 1))) (mCons (mVar 8) mNil))))) (mRet (mC (.bl false))) mNext) (mIfS (mOr (mNot (mT (mCall 2 M_law_alike_rows (mCons (mBin dIx (mVar 10) (mC (.int 2))) (mCons (mU dListRg (mVar 1)) mNil))))) (mT (mBin dNe (mVar 6) (mLst (mCons (mVar 2) (mCons (mVar 3) mNil)))))) (mRet (mC (.bl false))) mNext))))) (mSeq (mAsg 12 (mCall 2 M_law_row (mCons (mBin (dI fun i j => .int (i + j)) (mVar 1) (mC (.int 1))) (mCons (mCall 2 M_law_mixed (mCons (mCall 2 M_law_cell_at (mCons (mVar 0) (mCons (mC (.int 4)) mNil))) (mCons (mC (.int 4)) mNil))) mNil)))) (mSeq (mIfS (mOr (mNot (mT (mCall 3 M_law_refused (mCons (mC (.int 0)) (mCons (mVar 2) (mCons (mVar 12) mNil)))))) (mNot (mT (mCall 3 M_law_refused (mCons (mC (.int 0)) (mCons (mVar 12) (mCons (mVar 2) mNil))))))) (mRet (mC (.bl false))) mNext) (mSeq (mIfS (mNot (mT (mCall 3 M_law_refused (mCons (mC (.int 1)) (mCons (mLst mNil) (mCons (mVar 2) mNil)))))) (mRet (mC (.bl false))) mNext) (mSeq (mIfS (mT (mVar 5)) (mRet (mC (.bl true))) mNext) (mSeq (mIfS (mNot (mT (mCall 3 M_law_refused (mCons (mC (.int 0)) (mCons (mVar 2) (mCons (mVar 4) mNil)))))) (mRet (mC (.bl false))) mNext) (mSeq (mAsg 13 (mOrV (mNotV (mCB dIsi (mCons (mVar 4) (mCons (mC (.ty "list")) mNil)))) (mNotV (mCall 2 M_law_good (mCons (mVar 4) (mCons (mU dLen (mVar 4)) mNil)))))) (mSeq (mIfS (mNot (mT (mVar 13))) (mRet (mC (.bl true))) mNext) (mRet (mAndV (mCall 3 M_law_refused (mCons (mC (.int 0)) (mCons (mVar 4) (mCons (mVar 3) mNil)))) (mCall 3 M_law_refused (mCons (mC (.int 1)) (mCons (mVar 4) (mCons (mVar 3) mNil)))))))))))))))))))))))
def M_law : List Dt → Md Dt := mDef false 16 m_law
end K1
namespace K1
open PySem L2 Mr
section
variable {P : Program} {w : World} {K : PySem.W.Frag} {T : List Addr} {mg : Str → Option Value} {base : Heap}
theorem ok_is_whole {f : Addr} {fd : FuncData} (F : Fun K "is_whole" "is_whole" st_is_whole f fd) (hm : mg "is_whole" = some (.ref f)) (hb : Binds K fd ["thing"] []) (b_int : mg "int" = none) (b_type : mg "type" = none) : DefOk P w K T mg base 1 "is_whole" ["thing"] false M_is_whole :=
  def_ok (N := N_is_whole) (n := 1) (k := 0) (nw := false) (ms := m_is_whole) rfl F sc_is_whole hm hb fun cdv A outer s H E cc => ⟨_, (by exact b_one (by exact s_ret (by exact d_cmp c_is (by exact d_type b_type (by exact dv 0)) (by exact d_ty b_int (by decide +kernel)))))⟩
theorem ok_is_row {f : Addr} {fd : FuncData} (F : Fun K "is_row" "is_row" st_is_row f fd) (hm : mg "is_row" = some (.ref f)) (hb : Binds K fd ["thing", "size"] []) {c Pt : Addr} (hc : fd.code = .ref c) (TB : GxR.TabB base mg c Pt) (hP : Pt ∈ T) (b_all : mg "all" = none) (f_is_whole : DefOk P w K T mg base 1 "is_whole" ["thing"] false M_is_whole) (b_len : mg "len" = none) (b_list : mg "list" = none) (q_is_whole : QDef P w K mg base 1 "is_whole" 1 M_is_whole) (b_range : mg "range" = none) (b_sorted : mg "sorted" = none) (b_type : mg "type" = none) : DefOk P w K T mg base 3 "is_row" ["thing", "size"] false M_is_row :=
  def_okG (N := N_is_row) (n := 3) (k := 2) (nw := false) (ms := m_is_row) hc rfl F sc_is_row hm hb fun A outer s H E cc => ⟨_, (by exact b_cons (by exact s_if (by exact w_t (by exact w_or (by exact t_not (by exact t_val (by exact d_call (K0 := K) (mg0 := mg) cc f_is_whole (by exact a_s (by exact dv 1) a_nil)))) (by exact w_or1 (by exact t_cmp c_lt (by exact dv 1) d_int)))) (by exact b_one (by exact s_ret d_bl)) b_nil) (by exact b_cons (by exact s_if (by exact w_t (by exact w_or (by exact t_cmp c_isNot (by exact d_type b_type (by exact dv 0)) (by exact d_ty b_list (by decide +kernel))) (by exact w_or1 (by exact t_cmp (c_ne (K0 := K) cc) (by exact d_len (K0 := K) b_len (by exact dv 0)) (by exact dv 1))))) (by exact b_one (by exact s_ret d_bl)) b_nil) (by exact b_one (by exact s_ret (by exact d_and (by exact d_allG cc b_all TB hP rfl (by exact blkOk_by (N := N_is_row) (sc := defScope st_is_row) (by decide +kernel)) (by exact dv 0) (by exact fun g' C' cv' => (by exact y_call q_is_whole (by exact ya_cons (by exact y_var 2) ya_nil)))) (by exact d_one (by exact d_cmp (c_eq (K0 := K) cc) (by exact d_sorted (K0 := K) b_sorted (by exact dv 0)) (by exact d_listRg cc b_list b_range (by exact dv 1)))))))))⟩
theorem ok_size_of {f : Addr} {fd : FuncData} (F : Fun K "_size_of" "_size_of" st_size_of f fd) (hm : mg "_size_of" = some (.ref f)) (hb : Binds K fd ["thing"] []) (f_is_row : DefOk P w K T mg base 3 "is_row" ["thing", "size"] false M_is_row) {C_BadRow : Addr} (g_BadRow : mg "BadRow" = some (.ref C_BadRow)) (x_BadRow : ExcK K C_BadRow) (b_len : mg "len" = none) (b_list : mg "list" = none) (b_type : mg "type" = none) : DefOk P w K T mg base 4 "_size_of" ["thing"] false M_size_of :=
  def_ok (N := N_size_of) (n := 1) (k := 3) (nw := false) (ms := m_size_of) rfl F sc_size_of hm hb fun cdv A outer s H E cc => ⟨_, (by exact b_cons (by exact s_if (by exact w_t (by exact w_or (by exact t_cmp c_isNot (by exact d_type b_type (by exact dv 0)) (by exact d_ty b_list (by decide +kernel))) (by exact w_or1 (by exact t_not (by exact t_val (by exact d_call (K0 := K) (mg0 := mg) cc f_is_row (by exact a_s (by exact dv 0) (by exact a_s (by exact d_len (K0 := K) b_len (by exact dv 0)) a_nil)))))))) (by exact b_one (by exact s_raise cc g_BadRow x_BadRow)) b_nil) (by exact b_one (by exact s_ret (by exact d_len (K0 := K) b_len (by exact dv 0)))))⟩
theorem ok_behind {f : Addr} {fd : FuncData} (F : Fun K "behind" "behind" st_behind f fd) (hm : mg "behind" = some (.ref f)) (hb : Binds K fd ["one", "other"] []) (f__size_of : DefOk P w K T mg base 4 "_size_of" ["thing"] false M_size_of) (f_is_row : DefOk P w K T mg base 3 "is_row" ["thing", "size"] false M_is_row) {C_BadRow : Addr} (g_BadRow : mg "BadRow" = some (.ref C_BadRow)) (x_BadRow : ExcK K C_BadRow) : DefOk P w K T mg base 5 "behind" ["one", "other"] true M_behind :=
  def_ok (N := N_behind) (n := 4) (k := 4) (nw := true) (ms := m_behind) rfl F sc_behind hm hb fun cdv A outer s H E cc => ⟨_, (by exact b_cons (by exact s_set 2 cc (by exact d_call (K0 := K) (mg0 := mg) cc f__size_of (by exact a_s (by exact dv 0) a_nil))) (by exact b_cons (by exact s_if (by exact t_not (by exact t_val (by exact d_call (K0 := K) (mg0 := mg) cc f_is_row (by exact a_s (by exact dv 1) (by exact a_s (by exact dv 2) a_nil))))) (by exact b_one (by exact s_raise cc g_BadRow x_BadRow)) b_nil) (by exact b_one (by exact s_retn (by exact d_lc (own := [(("number" : Str), 3)]) cc (by exact i_list (K0 := K) (by exact dv 0)) (by exact blkOk_by (N := N_behind) (sc := defScope st_behind) (by decide +kernel)) (by exact fun s' H' C' cl' fp' cc' => (by exact g_name 3 cc'.nd)) (by exact fun s' H' C' cl' fp' cc' => q_nil) (by exact fun s' H' C' cl' fp' cc' => (by exact d_ix (K0 := K) (by exact dv 1) (by exact dv 3))))))))⟩
theorem ok_back {f : Addr} {fd : FuncData} (F : Fun K "back" "back" st_back f fd) (hm : mg "back" = some (.ref f)) (hb : Binds K fd ["row"] []) (f__size_of : DefOk P w K T mg base 4 "_size_of" ["thing"] false M_size_of) (b_enumerate : mg "enumerate" = none) : DefOk P w K T mg base 5 "back" ["row"] true M_back :=
  def_ok (N := N_back) (n := 4) (k := 4) (nw := true) (ms := m_back) rfl F sc_back hm hb fun cdv A outer s H E cc => ⟨_, (by exact b_cons (by exact s_setO 1 cc (by exact d_rep (by exact d_lst (by exact a_s d_int a_nil)) (by exact d_call (K0 := K) (mg0 := mg) cc f__size_of (by exact a_s (by exact dv 0) a_nil)))) (by exact b_cons (by exact s_for cc (by exact i_enum (K0 := K) b_enumerate (by exact a_s (by exact dv 0) a_nil)) (by exact g_tup (K0 := K) cc.calm (by exact gs_cons (by exact g_name 2 cc.nd) (by exact gs_cons (by exact g_name 3 cc.nd) gs_nil))) (by exact b_one (by exact s_setI 1 (by exact dv 2) (by exact dv 3)))) (by exact b_one (by exact s_retO 1))))⟩
theorem ok_law_cell_at {f : Addr} {fd : FuncData} (F : Fun K "_law_cell_at" "_law_cell_at" st_law_cell_at f fd) (hm : mg "_law_cell_at" = some (.ref f)) (hb : Binds K fd ["_law_script", "_law_k"] []) (b_len : mg "len" = none) : DefOk P w K T mg base 1 "_law_cell_at" ["_law_script", "_law_k"] false M_law_cell_at :=
  def_ok (N := N_law_cell_at) (n := 2) (k := 0) (nw := false) (ms := m_law_cell_at) rfl F sc_law_cell_at hm hb fun cdv A outer s H E cc => ⟨_, (by exact b_cons (by exact s_if (by exact t_cmp c_lt (by exact dv 1) (by exact d_len (K0 := K) b_len (by exact dv 0))) (by exact b_one (by exact s_ret (by exact d_ix (K0 := K) (by exact dv 0) (by exact dv 1)))) b_nil) (by exact b_one (by exact s_ret d_int)))⟩
theorem ok_law_mixed {f : Addr} {fd : FuncData} (F : Fun K "_law_mixed" "_law_mixed" st_law_mixed f fd) (hm : mg "_law_mixed" = some (.ref f)) (hb : Binds K fd ["_law_cell", "_law_k"] [])  : DefOk P w K T mg base 1 "_law_mixed" ["_law_cell", "_law_k"] false M_law_mixed :=
  def_ok (N := N_law_mixed) (n := 3) (k := 0) (nw := false) (ms := m_law_mixed) rfl F sc_law_mixed hm hb fun cdv A outer s H E cc => ⟨_, (by exact b_cons (by exact s_set 2 cc (by exact d_add (by exact d_add (by exact dv 0) (by exact d_mul d_int (by exact dv 1))) d_int)) (by exact b_one (by exact s_ret (by exact d_fdiv (by exact d_mod (by exact d_mul (by exact d_mod (by exact d_mul (by exact dv 2) (by exact dv 2)) d_int) d_int) d_int) d_int))))⟩
theorem ok_law_whole {f : Addr} {fd : FuncData} (F : Fun K "_law_whole" "_law_whole" st_law_whole f fd) (hm : mg "_law_whole" = some (.ref f)) (hb : Binds K fd ["_law_found"] []) (b_bool : mg "bool" = none) (b_int : mg "int" = none) (b_isinstance : mg "isinstance" = none) : DefOk P w K T mg base 1 "_law_whole" ["_law_found"] false M_law_whole :=
  def_ok (N := N_law_whole) (n := 1) (k := 0) (nw := false) (ms := m_law_whole) rfl F sc_law_whole hm hb fun cdv A outer s H E cc => ⟨_, (by exact b_one (by exact s_ret (by exact d_and (by exact d_isi (K0 := K) b_isinstance (by exact a_t (by exact dv 0) (by exact a_t (by exact d_ty b_int (by decide +kernel)) a_nil))) (by exact d_one (by exact d_not (by exact d_isi (K0 := K) b_isinstance (by exact a_t (by exact dv 0) (by exact a_t (by exact d_ty b_bool (by decide +kernel)) a_nil))))))))⟩
theorem ok_law_row {f : Addr} {fd : FuncData} (F : Fun K "_law_row" "_law_row" st_law_row f fd) (hm : mg "_law_row" = some (.ref f)) (hb : Binds K fd ["_law_size", "_law_number"] []) (b_len : mg "len" = none) (b_list : mg "list" = none) (b_range : mg "range" = none) : DefOk P w K T mg base 1 "_law_row" ["_law_size", "_law_number"] true M_law_row :=
  def_ok (N := N_law_row) (n := 5) (k := 0) (nw := true) (ms := m_law_row) rfl F sc_law_row hm hb fun cdv A outer s H E cc => ⟨_, (by exact b_cons (by exact s_setO 2 cc (by exact d_listRg cc b_list b_range (by exact dv 0))) (by exact b_cons (by exact s_setO 3 cc (by exact d_lst a_nil)) (by exact b_cons (by exact s_for cc (by exact i_rng1 b_range (by exact a_t (by exact dv 0) a_nil)) (by exact g_name 4 cc.nd) (by exact b_cons (by exact s_appPop 3 2 (by exact d_mod (by exact dv 1) (by exact d_len (K0 := K) b_len (by exact dO 2)))) (by exact b_one (by exact s_set 1 cc (by exact d_add (by exact d_fdiv (by exact dv 1) (by exact d_sub (by exact dv 0) (by exact dv 4))) (by exact d_mul d_int (by exact dv 4))))))) (by exact b_one (by exact s_retO 3)))))⟩
theorem ok_law_alike_rows {f : Addr} {fd : FuncData} (F : Fun K "_law_alike_rows" "_law_alike_rows" st_law_alike_rows f fd) (hm : mg "_law_alike_rows" = some (.ref f)) (hb : Binds K fd ["_law_found", "_law_due"] []) (b_all : mg "all" = none) (f__law_whole : DefOk P w K T mg base 1 "_law_whole" ["_law_found"] false M_law_whole) (b_isinstance : mg "isinstance" = none) (b_len : mg "len" = none) (b_list : mg "list" = none) : DefOk P w K T mg base 2 "_law_alike_rows" ["_law_found", "_law_due"] false M_law_alike_rows :=
  def_ok (N := N_law_alike_rows) (n := 3) (k := 1) (nw := false) (ms := m_law_alike_rows) rfl F sc_law_alike_rows hm hb fun cdv A outer s H E cc => ⟨_, (by exact b_cons (by exact s_if (by exact w_t (by exact w_or (by exact t_not (by exact t_val (by exact d_isi (K0 := K) b_isinstance (by exact a_t (by exact dv 0) (by exact a_t (by exact d_ty b_list (by decide +kernel)) a_nil))))) (by exact w_or1 (by exact t_cmp (c_ne (K0 := K) cc) (by exact d_len (K0 := K) b_len (by exact dv 0)) (by exact d_len (K0 := K) b_len (by exact dv 1)))))) (by exact b_one (by exact s_ret d_bl)) b_nil) (by exact b_one (by exact s_ret (by exact d_and (by exact d_all (K0 := K) cc.calm b_all (by exact d_lc (own := [(("_law_one" : Str), 2)]) cc (by exact i_list (K0 := K) (by exact dv 0)) (by exact blkOk_by (N := N_law_alike_rows) (sc := defScope st_law_alike_rows) (by decide +kernel)) (by exact fun s' H' C' cl' fp' cc' => (by exact g_name 2 cc'.nd)) (by exact fun s' H' C' cl' fp' cc' => q_nil) (by exact fun s' H' C' cl' fp' cc' => (by exact d_call (K0 := K) (mg0 := mg) cc' f__law_whole (by exact a_s (by exact dv 2) a_nil))))) (by exact d_one (by exact d_cmp (c_eq (K0 := K) cc) (by exact dv 0) (by exact dv 1)))))))⟩
theorem ok_law_thing {f : Addr} {fd : FuncData} (F : Fun K "_law_thing" "_law_thing" st_law_thing f fd) (hm : mg "_law_thing" = some (.ref f)) (hb : Binds K fd ["_law_row_here", "_law_cell"] []) (b_len : mg "len" = none) (b_list : mg "list" = none) (b_min : mg "min" = none) (b_tuple : mg "tuple" = none) : DefOk P w K T mg base 1 "_law_thing" ["_law_row_here", "_law_cell"] false M_law_thing :=
  def_ok (N := N_law_thing) (n := 7) (k := 0) (nw := false) (ms := m_law_thing) rfl F sc_law_thing hm hb fun cdv A outer s H E cc => ⟨_, (by exact b_cons (by exact s_set 2 cc (by exact d_mod (by exact d_fdiv (by exact dv 1) d_int) (by exact d_len (K0 := K) b_len (by exact dv 0)))) (by exact b_cons (by exact s_set 3 cc (by exact d_mod (by exact dv 1) d_int)) (by exact b_cons (by exact s_if (by exact t_cmp (c_eq (K0 := K) cc) (by exact dv 3) d_int) (by exact b_cons (by exact s_set 4 cc (by exact d_ix (K0 := K) (by exact dv 0) (by exact d_mod (by exact d_add (by exact dv 2) d_int) (by exact d_len (K0 := K) b_len (by exact dv 0))))) (by exact b_one (by exact s_ret (by exact d_give (by exact d_cat (by exact d_cat (by exact d_slice (K0 := K) (by exact dv 0) o_none (by exact o_some (by exact dv 2))) (by exact d_lst (by exact a_s (by exact dv 4) a_nil))) (by exact d_slice (K0 := K) (by exact dv 0) (by exact o_some (by exact d_add (by exact dv 2) d_int)) o_none)))))) b_nil) (by exact b_cons (by exact s_if (by exact t_cmp (c_eq (K0 := K) cc) (by exact dv 3) d_int) (by exact b_one (by exact s_ret (by exact d_give (by exact d_cat (by exact d_slice (K0 := K) (by exact dv 0) o_none (by exact o_some (by exact dv 2))) (by exact d_slice (K0 := K) (by exact dv 0) (by exact o_some (by exact d_add (by exact dv 2) d_int)) o_none))))) b_nil) (by exact b_cons (by exact s_if (by exact t_cmp (c_eq (K0 := K) cc) (by exact dv 3) d_int) (by exact b_cons (by exact s_set 5 cc (by exact d_give (by exact d_lst (by exact a_s (by exact d_neg d_int) (by exact a_s (by exact d_len (K0 := K) b_len (by exact dv 0)) (by exact a_s d_bl (by exact a_s d_bl (by exact a_s d_str (by exact a_s d_non (by exact a_s (by exact d_add (by exact d_len (K0 := K) b_len (by exact dv 0)) (by exact d_pow d_int d_int)) (by exact a_s (by exact d_give (by exact d_lst (by exact a_s d_int a_nil))) (by exact a_s (by exact d_give (by exact d_lst a_nil)) a_nil)))))))))))) (by exact b_one (by exact s_ret (by exact d_give (by exact d_cat (by exact d_cat (by exact d_slice (K0 := K) (by exact dv 0) o_none (by exact o_some (by exact dv 2))) (by exact d_lst (by exact a_s (by exact d_ix (K0 := K) (by exact dv 5) (by exact d_mod (by exact d_fdiv (by exact dv 1) d_int) d_int)) a_nil))) (by exact d_slice (K0 := K) (by exact dv 0) (by exact o_some (by exact d_add (by exact dv 2) d_int)) o_none)))))) b_nil) (by exact b_cons (by exact s_if (by exact t_cmp (c_eq (K0 := K) cc) (by exact dv 3) d_int) (by exact b_one (by exact s_ret (by exact d_ix (K0 := K) (by exact d_lst (by exact a_s (by exact d_tuple (K0 := K) b_tuple (by exact dv 0)) (by exact a_s d_non (by exact a_s d_int (by exact a_s d_str (by exact a_s d_dic a_nil)))))) (by exact d_mod (by exact d_fdiv (by exact dv 1) d_int) d_int)))) b_nil) (by exact b_cons (by exact s_if (by exact t_cmp (c_eq (K0 := K) cc) (by exact dv 3) d_int) (by exact b_cons (by exact s_set 6 cc (by exact d_index (K0 := K) (by exact dv 0) (by exact d_min cc.calm b_min (by exact a_t (by exact d_mod (by exact d_fdiv (by exact dv 1) d_int) d_int) (by exact a_t (by exact d_sub (by exact d_len (K0 := K) b_len (by exact dv 0)) d_int) a_nil))))) (by exact b_one (by exact s_ret (by exact d_give (by exact d_cat (by exact d_cat (by exact d_slice (K0 := K) (by exact dv 0) o_none (by exact o_some (by exact dv 6))) (by exact d_lst (by exact a_s (by exact d_cmp (c_eq (K0 := K) cc) (by exact d_ix (K0 := K) (by exact dv 0) (by exact dv 6)) d_int) a_nil))) (by exact d_slice (K0 := K) (by exact dv 0) (by exact o_some (by exact d_add (by exact dv 6) d_int)) o_none)))))) b_nil) (by exact b_one (by exact s_ret (by exact d_give (by exact d_list (K0 := K) b_list (by exact dv 0))))))))))))⟩
theorem ok_law_good {f : Addr} {fd : FuncData} (F : Fun K "_law_good" "_law_good" st_law_good f fd) (hm : mg "_law_good" = some (.ref f)) (hb : Binds K fd ["_law_thing_here", "_law_size"] []) (f__law_whole : DefOk P w K T mg base 1 "_law_whole" ["_law_found"] false M_law_whole) (b_isinstance : mg "isinstance" = none) (b_len : mg "len" = none) (b_list : mg "list" = none) (b_range : mg "range" = none) : DefOk P w K T mg base 2 "_law_good" ["_law_thing_here", "_law_size"] false M_law_good :=
  def_ok (N := N_law_good) (n := 3) (k := 1) (nw := false) (ms := m_law_good) rfl F sc_law_good hm hb fun cdv A outer s H E cc => ⟨_, (by exact b_cons (by exact s_if (by exact w_t (by exact w_or (by exact t_not (by exact t_val (by exact d_isi (K0 := K) b_isinstance (by exact a_t (by exact dv 0) (by exact a_t (by exact d_ty b_list (by decide +kernel)) a_nil))))) (by exact w_or1 (by exact t_cmp (c_ne (K0 := K) cc) (by exact d_len (K0 := K) b_len (by exact dv 0)) (by exact dv 1))))) (by exact b_one (by exact s_ret d_bl)) b_nil) (by exact b_cons (by exact s_for cc (by exact i_list (K0 := K) (by exact dv 0)) (by exact g_name 2 cc.nd) (by exact b_one (by exact s_if (by exact w_t (by exact w_or (by exact t_not (by exact t_val (by exact d_call (K0 := K) (mg0 := mg) cc f__law_whole (by exact a_s (by exact dv 2) a_nil)))) (by exact w_or1 (by exact t_not (by exact t_chain c_le c_lt d_int (by exact dv 2) (by exact dv 1)))))) (by exact b_one (by exact s_ret d_bl)) b_nil))) (by exact b_one (by exact s_ret (by exact d_cmp (c_eq (K0 := K) cc) (by exact d_lc (own := [(("_law_one" : Str), 2)]) cc (by exact i_rng1 b_range (by exact a_t (by exact dv 1) a_nil)) (by exact blkOk_by (N := N_law_good) (sc := defScope st_law_good) (by decide +kernel)) (by exact fun s' H' C' cl' fp' cc' => (by exact g_name 2 cc'.nd)) (by exact fun s' H' C' cl' fp' cc' => (by exact q_one (by exact t_cmp (c_ne (K0 := K) cc') (by exact d_count (K0 := K) (by exact dv 0) (by exact dv 2)) d_int))) (by exact fun s' H' C' cl' fp' cc' => (by exact dv 2))) (by exact d_lst a_nil))))))⟩
theorem ok_law_refused {f : Addr} {fd : FuncData} (F : Fun K "_law_refused" "_law_refused" st_law_refused f fd) (hm : mg "_law_refused" = some (.ref f)) (hb : Binds K fd ["_law_way", "_law_one", "_law_other"] []) {C_BadRow : Addr} (g_BadRow : mg "BadRow" = some (.ref C_BadRow)) {C_WebError : Addr} (g_WebError : mg "WebError" = some (.ref C_WebError)) (f_back : DefOk P w K T mg base 5 "back" ["row"] true M_back) (f_behind : DefOk P w K T mg base 5 "behind" ["one", "other"] true M_behind) (e_BadRow_WebError : PySem.W.exmOne K (.ref C_BadRow) (.ref C_WebError) = some true) (h__law_alone_BadRow : HotOk P w K mg base 1 "_law_alone" C_BadRow ["_law_e", "_law_which"] (M_law_alone false true false false false false true)) (r__law_alone_BadRow : ∀ a, (M_law_alone false true false false false false true) a [.adr a, .int 1] = .ok (.bl true)) : DefOk P w K T mg base 6 "_law_refused" ["_law_way", "_law_one", "_law_other"] false M_law_refused :=
  def_ok (N := N_law_refused) (n := 4) (k := 5) (nw := false) (ms := m_law_refused) rfl F sc_law_refused hm hb fun cdv A outer s H E cc => ⟨_, (by exact b_cons (by exact s_tryAs (res := .bl true) (c0 := "BadRow") 3 cc h__law_alone_BadRow rfl e_BadRow_WebError g_BadRow g_WebError r__law_alone_BadRow rfl rfl (by exact fun pn' xe' E' cc1 => (by exact b_one (by exact s_if (by exact t_cmp (c_eq (K0 := K) cc1) (by exact dv 0) d_int) (by exact b_one (by exact s_drop (by exact d_call (K0 := K) (mg0 := mg) cc1 f_behind (by exact a_s (by exact dv 1) (by exact a_s (by exact dv 2) a_nil))))) (by exact b_one (by exact s_drop (by exact d_call (K0 := K) (mg0 := mg) cc1 f_back (by exact a_s (by exact dv 1) a_nil)))))))) (by exact b_one (by exact s_ret d_bl)))⟩
theorem fn_law {f : Addr} {fd : FuncData} (F : Fun K "law" "law" st_law f fd) (b_bool : mg "bool" = none) (f__law_alike_rows : DefOk P w K T mg base 2 "_law_alike_rows" ["_law_found", "_law_due"] false M_law_alike_rows) (f__law_cell_at : DefOk P w K T mg base 1 "_law_cell_at" ["_law_script", "_law_k"] false M_law_cell_at) (f__law_good : DefOk P w K T mg base 2 "_law_good" ["_law_thing_here", "_law_size"] false M_law_good) (f__law_mixed : DefOk P w K T mg base 1 "_law_mixed" ["_law_cell", "_law_k"] false M_law_mixed) (f__law_refused : DefOk P w K T mg base 6 "_law_refused" ["_law_way", "_law_one", "_law_other"] false M_law_refused) (f__law_row : DefOk P w K T mg base 1 "_law_row" ["_law_size", "_law_number"] true M_law_row) (f__law_thing : DefOk P w K T mg base 1 "_law_thing" ["_law_row_here", "_law_cell"] false M_law_thing) (f_back : DefOk P w K T mg base 5 "back" ["row"] true M_back) (f_behind : DefOk P w K T mg base 5 "behind" ["one", "other"] true M_behind) (f_is_row : DefOk P w K T mg base 3 "is_row" ["thing", "size"] false M_is_row) (b_isinstance : mg "isinstance" = none) (b_len : mg "len" = none) (b_list : mg "list" = none) (b_range : mg "range" = none) : FnOk P w K mg base (L2N.CX P w) 7 f fd ["_law_script"] (spD K T mg false 1 M_law) :=
  fn_okD (N := N_law) (n := 16) (k := 6) (nw := false) (ms := m_law) rfl F sc_law fun cdv A outer s H E cc => ⟨_, (by exact b_cons (by exact s_set 1 cc (by exact d_add d_int (by exact d_mod (by exact d_call (K0 := K) (mg0 := mg) cc f__law_cell_at (by exact a_s (by exact dv 0) (by exact a_s d_int a_nil))) d_int))) (by exact b_cons (by exact s_set 2 cc (by exact d_give (by exact d_call (K0 := K) (mg0 := mg) cc f__law_row (by exact a_s (by exact dv 1) (by exact a_s (by exact d_call (K0 := K) (mg0 := mg) cc f__law_mixed (by exact a_s (by exact d_call (K0 := K) (mg0 := mg) cc f__law_cell_at (by exact a_s (by exact dv 0) (by exact a_s d_int a_nil))) (by exact a_s d_int a_nil))) a_nil))))) (by exact b_cons (by exact s_set 3 cc (by exact d_give (by exact d_call (K0 := K) (mg0 := mg) cc f__law_row (by exact a_s (by exact dv 1) (by exact a_s (by exact d_call (K0 := K) (mg0 := mg) cc f__law_mixed (by exact a_s (by exact d_call (K0 := K) (mg0 := mg) cc f__law_cell_at (by exact a_s (by exact dv 0) (by exact a_s d_int a_nil))) (by exact a_s d_int a_nil))) a_nil))))) (by exact b_cons (by exact s_set 4 cc (by exact d_call (K0 := K) (mg0 := mg) cc f__law_thing (by exact a_s (by exact dv 2) (by exact a_s (by exact d_call (K0 := K) (mg0 := mg) cc f__law_mixed (by exact a_s (by exact d_call (K0 := K) (mg0 := mg) cc f__law_cell_at (by exact a_s (by exact dv 0) (by exact a_s d_int a_nil))) (by exact a_s d_int a_nil))) a_nil)))) (by exact b_cons (by exact s_set 5 cc (by exact d_call (K0 := K) (mg0 := mg) cc f_is_row (by exact a_s (by exact dv 4) (by exact a_s (by exact dv 1) a_nil)))) (by exact b_cons (by exact s_if (by exact w_t (by exact w_or (by exact t_not (by exact t_val (by exact d_isi (K0 := K) b_isinstance (by exact a_t (by exact dv 5) (by exact a_t (by exact d_ty b_bool (by decide +kernel)) a_nil))))) (by exact w_or1 (by exact t_cmp (c_ne (K0 := K) cc) (by exact dv 5) (by exact d_call (K0 := K) (mg0 := mg) cc f__law_good (by exact a_s (by exact dv 4) (by exact a_s (by exact dv 1) a_nil))))))) (by exact b_one (by exact s_ret d_bl)) b_nil) (by exact b_cons (by exact s_set 6 cc (by exact d_give (by exact d_lst (by exact a_s (by exact d_give (by exact d_list (K0 := K) b_list (by exact dv 2))) (by exact a_s (by exact d_give (by exact d_list (K0 := K) b_list (by exact dv 3))) a_nil))))) (by exact b_cons (by exact s_setLc 7 (own := [(("_law_number" : Str), 14)]) cc (by exact i_list (K0 := K) (by exact dv 2)) (by exact blkOk_by (N := N_law) (sc := defScope st_law) (by decide +kernel)) (by exact fun s' H' C' cl' fp' cc' => (by exact g_name 14 cc'.nd)) (by exact fun s' H' C' cl' fp' cc' => q_nil) (by exact fun s' H' C' cl' fp' cc' => (by exact d_ix (K0 := K) (by exact dv 3) (by exact dv 14)))) (by exact b_cons (by exact s_setLc 8 (own := [(("_law_place" : Str), 15)]) cc (by exact i_rng1 b_range (by exact a_t (by exact dv 1) a_nil)) (by exact blkOk_by (N := N_law) (sc := defScope st_law) (by decide +kernel)) (by exact fun s' H' C' cl' fp' cc' => (by exact g_name 15 cc'.nd)) (by exact fun s' H' C' cl' fp' cc' => q_nil) (by exact fun s' H' C' cl' fp' cc' => (by exact d_index (K0 := K) (by exact dv 2) (by exact dv 15)))) (by exact b_cons (by exact s_for cc (by exact i_rng1 b_range (by exact a_t d_int a_nil)) (by exact g_name 9 cc.nd) (by exact b_told 10 11 cc (by exact n_cons (by exact d_call (K0 := K) (mg0 := mg) cc f_behind (by exact a_s (by exact d_ix (K0 := K) (by exact dv 6) d_int) (by exact a_s (by exact d_ix (K0 := K) (by exact dv 6) d_int) a_nil))) (by exact n_cons (by exact d_call (K0 := K) (mg0 := mg) cc f_back (by exact a_s (by exact d_ix (K0 := K) (by exact dv 6) d_int) a_nil)) (by exact n_cons (by exact d_call (K0 := K) (mg0 := mg) cc f_behind (by exact a_s (by exact d_ix (K0 := K) (by exact dv 6) d_int) (by exact a_s (by exact d_give (by exact d_call (K0 := K) (mg0 := mg) cc f_back (by exact a_s (by exact d_ix (K0 := K) (by exact dv 6) d_int) a_nil))) a_nil))) n_nil))) (by exact lk_if (by exact t_not (by exact t_val (by exact d_call (K0 := K) (mg0 := mg) cc f__law_alike_rows (by exact a_s (by exact d_ix (K0 := K) (by exact dv 10) d_int) (by exact a_s (by exact dv 7) a_nil))))) d_bl) (by exact lk_if (by exact t_not (by exact t_val (by exact d_call (K0 := K) (mg0 := mg) cc f__law_alike_rows (by exact a_s (by exact d_ix (K0 := K) (by exact dv 10) d_int) (by exact a_s (by exact dv 8) a_nil))))) d_bl) (by exact lk_if (by exact w_t (by exact w_or (by exact t_not (by exact t_val (by exact d_call (K0 := K) (mg0 := mg) cc f__law_alike_rows (by exact a_s (by exact d_ix (K0 := K) (by exact dv 10) d_int) (by exact a_s (by exact d_give (by exact d_listRg cc b_list b_range (by exact dv 1))) a_nil))))) (by exact w_or1 (by exact t_cmp (c_ne (K0 := K) cc) (by exact dv 6) (by exact d_lst (by exact a_s (by exact dv 2) (by exact a_s (by exact dv 3) a_nil))))))) d_bl))) (by exact b_cons (by exact s_set 12 cc (by exact d_give (by exact d_call (K0 := K) (mg0 := mg) cc f__law_row (by exact a_s (by exact d_add (by exact dv 1) d_int) (by exact a_s (by exact d_call (K0 := K) (mg0 := mg) cc f__law_mixed (by exact a_s (by exact d_call (K0 := K) (mg0 := mg) cc f__law_cell_at (by exact a_s (by exact dv 0) (by exact a_s d_int a_nil))) (by exact a_s d_int a_nil))) a_nil))))) (by exact b_cons (by exact s_if (by exact w_t (by exact w_or (by exact t_not (by exact t_val (by exact d_call (K0 := K) (mg0 := mg) cc f__law_refused (by exact a_s d_int (by exact a_s (by exact dv 2) (by exact a_s (by exact dv 12) a_nil)))))) (by exact w_or1 (by exact t_not (by exact t_val (by exact d_call (K0 := K) (mg0 := mg) cc f__law_refused (by exact a_s d_int (by exact a_s (by exact dv 12) (by exact a_s (by exact dv 2) a_nil))))))))) (by exact b_one (by exact s_ret d_bl)) b_nil) (by exact b_cons (by exact s_if (by exact t_not (by exact t_val (by exact d_call (K0 := K) (mg0 := mg) cc f__law_refused (by exact a_s d_int (by exact a_s (by exact d_give (by exact d_lst a_nil)) (by exact a_s (by exact dv 2) a_nil)))))) (by exact b_one (by exact s_ret d_bl)) b_nil) (by exact b_cons (by exact s_if (by exact t_val (by exact dv 5)) (by exact b_one (by exact s_ret d_bl)) b_nil) (by exact b_cons (by exact s_if (by exact t_not (by exact t_val (by exact d_call (K0 := K) (mg0 := mg) cc f__law_refused (by exact a_s d_int (by exact a_s (by exact dv 2) (by exact a_s (by exact dv 4) a_nil)))))) (by exact b_one (by exact s_ret d_bl)) b_nil) (by exact b_cons (by exact s_set 13 cc (by exact d_or (by exact d_not (by exact d_isi (K0 := K) b_isinstance (by exact a_t (by exact dv 4) (by exact a_t (by exact d_ty b_list (by decide +kernel)) a_nil)))) (by exact d_one (by exact d_not (by exact d_call (K0 := K) (mg0 := mg) cc f__law_good (by exact a_s (by exact dv 4) (by exact a_s (by exact d_len (K0 := K) b_len (by exact dv 4)) a_nil))))))) (by exact b_cons (by exact s_if (by exact t_not (by exact t_val (by exact dv 13))) (by exact b_one (by exact s_ret d_bl)) b_nil) (by exact b_one (by exact s_ret (by exact d_and (by exact d_call (K0 := K) (mg0 := mg) cc f__law_refused (by exact a_s d_int (by exact a_s (by exact dv 4) (by exact a_s (by exact dv 3) a_nil)))) (by exact d_one (by exact d_call (K0 := K) (mg0 := mg) cc f__law_refused (by exact a_s d_int (by exact a_s (by exact dv 4) (by exact a_s (by exact dv 3) a_nil)))))))))))))))))))))))))⟩
theorem qd_is_whole {f : Addr} {fd : FuncData} (F : Fun K "is_whole" "is_whole" st_is_whole f fd) (hm : mg "is_whole" = some (.ref f)) (hb : Binds K fd ["thing"] []) (b_int : mg "int" = none) (b_type : mg "type" = none) : QDef P w K mg base 1 "is_whole" 1 M_is_whole :=
  q_def (N := N_is_whole) (n := 1) (k := 0) (nw := false) (ms := m_is_whole) rfl F sc_is_whole hm hb (by intro _; rfl) fun cdv L g => (by exact yb_one (by exact ys_ret (by exact y_cmp qo_is (by exact y_type b_type (by exact y_var 0)) (by exact y_ty b_int (by decide +kernel)))))
theorem hot_law_alone {f D : Addr} {fd : FuncData} (F : Fun K "_law_alone" "_law_alone" st_law_alone f fd) (hm : mg "_law_alone" = some (.ref f)) (hb : Binds K fd ["_law_e", "_law_which"] []) (xc : ExcC K D) (b_isinstance : mg "isinstance" = none) (b_range : mg "range" = none) (b_ValueError : mg "ValueError" = none) {C1 : Addr} (g1 : mg "BadWeb" = some (.ref C1)) {C2 : Addr} (g2 : mg "BadRow" = some (.ref C2)) {C3 : Addr} (g3 : mg "BadCells" = some (.ref C3)) {C4 : Addr} (g4 : mg "NoPoint" = some (.ref C4)) {C5 : Addr} (g5 : mg "NoTurn" = some (.ref C5)) {C6 : Addr} (g6 : mg "NoWeb" = some (.ref C6)) {q1 q2 q3 q4 q5 q6 q7 : Bool} (k1 : PySem.W.kitOne K (.ref D) (.ref C1) = some q1) (k2 : PySem.W.kitOne K (.ref D) (.ref C2) = some q2) (k3 : PySem.W.kitOne K (.ref D) (.ref C3) = some q3) (k4 : PySem.W.kitOne K (.ref D) (.ref C4) = some q4) (k5 : PySem.W.kitOne K (.ref D) (.ref C5) = some q5) (k6 : PySem.W.kitOne K (.ref D) (.ref C6) = some q6) (k7 : PySem.W.kitOne K (.ref D) (.type "ValueError") = some q7) : HotOk P w K mg base 1 "_law_alone" D ["_law_e", "_law_which"] (M_law_alone q1 q2 q3 q4 q5 q6 q7) :=
  hot_ok (N := N_law_alone) (n := 4) (k := 0) (ms := fun a => m_law_alone q1 q2 q3 q4 q5 q6 q7 a) rfl F sc_law_alone hm hb fun cdv A outer s H E p hk => ⟨_, (by exact b_cons (by exact s_setN 2 hk.nd (by exact d_give (by exact (by exact d_lst (by exact a_s (by exact d_isX (cV := .ref C1) xc hk b_isinstance (by exact dv 0) (pe_glob rfl g1 rfl) (fun _ h => by cases h; rfl) k1) (by exact a_s (by exact d_isX (cV := .ref C2) xc hk b_isinstance (by exact dv 0) (pe_glob rfl g2 rfl) (fun _ h => by cases h; rfl) k2) (by exact a_s (by exact d_isX (cV := .ref C3) xc hk b_isinstance (by exact dv 0) (pe_glob rfl g3 rfl) (fun _ h => by cases h; rfl) k3) (by exact a_s (by exact d_isX (cV := .ref C4) xc hk b_isinstance (by exact dv 0) (pe_glob rfl g4 rfl) (fun _ h => by cases h; rfl) k4) a_nil)))))))) (by exact b_cons (by exact s_setN 2 hk.nd (by exact d_give (by exact d_cat (by exact dv 2) (by exact (by exact d_lst (by exact a_s (by exact d_isX (cV := .ref C5) xc hk b_isinstance (by exact dv 0) (pe_glob rfl g5 rfl) (fun _ h => by cases h; rfl) k5) (by exact a_s (by exact d_isX (cV := .ref C6) xc hk b_isinstance (by exact dv 0) (pe_glob rfl g6 rfl) (fun _ h => by cases h; rfl) k6) a_nil))))))) (by exact b_one (by exact s_ret (by exact d_and (by exact (by exact d_isX (cV := .ty "ValueError") xc hk b_isinstance (by exact dv 0) (pe_bltn (v := .ty "ValueError") rfl b_ValueError (by decide +kernel) rfl) (fun _ h => by cases h; rfl) k7)) (by exact d_one (by exact d_cmp (c_eqH (K0 := K) hk) (by exact dv 2) (by exact (d_lcH (own := [(("_law_k" : Str), 3)]) hk (by exact L2H.pi_range1H rfl b_range (pa_cons pe_int pa_nil)) (by exact si_rng1 (DA.sn (X := L2H.cxH (L2N.CX P w) P w K mg base N_law_alone "_law_alone" (defScope st_law_alone) f cdv A outer s H E p) (es := [.Constant (.int 6) 0 ⟨0, 0, 0, 0⟩]) (by exact a_t (by exact d_int) a_nil))) (by exact blkOk_by (N := N_law_alone) (sc := defScope st_law_alone) (by decide +kernel)) (by exact fun s' H' C' cl' fp' hk' => (by exact g_name 3 hk'.nd)) (by exact fun s' H' C' cl' fp' hk' => (by exact d_cmp (c_eqH (K0 := K) hk') (by exact dv 3) (by exact dv 1))))))))))))⟩
end
end K1
/-! What the mirrors of k01 answer. -/
namespace K1
open PySem L2 Mr
abbrev il (xs : List Int) : List Dt := xs.map Dt.int
theorem il_len (xs : List Int) : (il xs).length = xs.length := List.length_map ..
theorem atI_nat {ds : List Dt} {k : Nat} {d : Dt} (h : ds[k]? = some d) : atI ds (k : Int) = some d := by
  have hk : k < ds.length := (List.getElem?_eq_some_iff.mp h).1
  unfold atI ixN
  rw [if_pos (Int.natCast_nonneg k), if_pos (by omega)]
  exact h
theorem mul_small {i j : Int} (hi : i.natAbs < 2 ^ 1100000) (hj : j.natAbs < 2 ^ 1100000) : mulOk i j = true := by
  have key : ∀ x : Nat, x < 2 ^ 1100000 → x.log2 < 1100000 ∨ x = 0 := fun x hx => by
    by_cases h : x = 0
    · exact .inr h
    · exact .inl ((Nat.log2_lt h).mpr hx)
  have one : ∀ x : Nat, x < 2 ^ 1100000 → x.log2 < 1100000 := fun x hx => by
    rcases key x hx with z | z
    · exact z
    · subst z
      decide
  have a := one _ hi
  have b := one _ hj
  unfold mulOk
  exact decide_eq_true (by omega)
theorem cell_at (ns : List Int) (k : Nat) : M_law_cell_at [.lsk (il ns), .int k] = .ok (.int (ns.getD k 0)) := by
  show (m_law_cell_at [.sh (.lsk (il ns)), .sh (.int k)]).bind _ = _
  have t : (mT (mBin dLt (mVar 1) (mU dLen (mVar 0)))) [.sh (.lsk (il ns)), .sh (.int k)] = .ok (decide ((k : Int) < ((il ns).length : Int))) := rfl
  unfold m_law_cell_at mSeq mIfS
  rw [t]
  by_cases h : k < ns.length
  · have e : decide ((k : Int) < ((il ns).length : Int)) = true := decide_eq_true (by rw [il_len]; omega)
    have q : (il ns)[k]? = some (.int (ns.getD k 0)) := by
      rw [List.getElem?_map, List.getElem?_eq_getElem h]
      simp [List.getD, List.getElem?_eq_getElem h]
    have r : (mRet (mBin dIx (mVar 0) (mVar 1))) [.sh (.lsk (il ns)), .sh (.int k)] = .ok (.rt (.int (ns.getD k 0))) := by
      show (match atI (il ns) (k : Int) with | some d => Md.ok d | none => Md.bad).bind _ = _
      rw [atI_nat q]
      rfl
    rw [e]
    simp only [Md.bind, if_true, r]
  · have e : decide ((k : Int) < ((il ns).length : Int)) = false := decide_eq_false (by rw [il_len]; omega)
    have q : ns.getD k 0 = 0 := by
      simp [List.getD, List.getElem?_eq_none (Nat.le_of_not_lt h)]
    rw [e, q]
    rfl
end K1
namespace K1
open PySem L2 Mr
def mixv (c k : Int) : Int := (c + 7919 * k + 13) * (c + 7919 * k + 13) % 1000000007 * 48271 % 998244353 / 11
theorem dIC_ok {c : Int → Int → Bool} {g : Int → Int → Dt} {i j : Int} (h : c i j = true) : dIC c g (.int i) (.int j) = .ok (g i j) := by
  unfold dIC
  exact if_pos h
theorem small_nat {i : Int} {n : Nat} (h : i.natAbs < n) (hn : n ≤ 2 ^ 64) : i.natAbs < 2 ^ 1100000 := Nat.lt_of_lt_of_le h (Nat.le_trans hn (Nat.pow_le_pow_right (by decide) (by decide)))
theorem big_add {c d : Int} (hc : c.natAbs < 2 ^ 1048576) (hd : d.natAbs < 2 ^ 64) : (c + d).natAbs < 2 ^ 1100000 := by
  have h1 : (2 : Nat) ^ 64 ≤ 2 ^ 1048576 := Nat.pow_le_pow_right (by decide) (by decide)
  have h2 : (2 : Nat) ^ 1048576 + 2 ^ 1048576 = 2 ^ 1048577 := by
    rw [Nat.pow_succ 2 1048576]
    exact (Nat.mul_two _).symm
  have h3 : (2 : Nat) ^ 1048577 ≤ 2 ^ 1100000 := Nat.pow_le_pow_right (by decide) (by decide)
  have h4 : (c + d).natAbs ≤ c.natAbs + d.natAbs := Int.natAbs_add_le ..
  exact Nat.lt_of_lt_of_le (Nat.lt_of_le_of_lt h4 (Nat.lt_of_lt_of_le (Nat.add_lt_add hc (Nat.lt_of_lt_of_le hd h1)) (Nat.le_of_eq h2))) h3
theorem mixed {c k : Int} (hc : c.natAbs < 2 ^ 1048576) (h0 : 0 ≤ k) (h1 : k ≤ 1000) : M_law_mixed [.int c, .int k] = .ok (.int (mixv c k)) := by
  have m1 : mulOk 7919 k = true := mul_small (small_nat (n := 7920) (by decide) (by decide)) (small_nat (n := 1001) (by omega) (by decide))
  have hb : (c + 7919 * k + 13).natAbs < 2 ^ 1100000 := by
    rw [Int.add_assoc]
    exact big_add hc (by omega)
  have m2 : mulOk (c + 7919 * k + 13) (c + 7919 * k + 13) = true := mul_small hb hb
  have m3 : mulOk ((c + 7919 * k + 13) * (c + 7919 * k + 13) % 1000000007) 48271 = true := by
    generalize (c + 7919 * k + 13) * (c + 7919 * k + 13) = x
    refine mul_small (small_nat (n := 1000000007) ?_ (by decide)) (small_nat (n := 48272) (by decide) (by decide))
    have a1 := Int.emod_nonneg x (show (1000000007 : Int) ≠ 0 by decide)
    have a2 := Int.emod_lt_of_pos x (show (0 : Int) < 1000000007 by decide)
    omega
  show (m_law_mixed [.sh (.int c), .sh (.int k), .un]).bind _ = _
  have e1 : (mAsg 2 (mBin (dI fun i j => .int (i + j)) (mBin (dI fun i j => .int (i + j)) (mVar 0) (mBin (dIC mulOk fun i j => .int (i * j)) (mC (.int 7919)) (mVar 1))) (mC (.int 13)))) [.sh (.int c), .sh (.int k), .un] = .ok (.nx [.sh (.int c), .sh (.int k), .sh (.int (c + 7919 * k + 13))]) := by
    have z : (mBin (dIC mulOk fun i j => .int (i * j)) (mC (.int 7919)) (mVar 1)) [.sh (.int c), .sh (.int k), .un] = .ok (.int (7919 * k)) := by
      show dIC mulOk (fun i j => .int (i * j)) (.int 7919) (.int k) = _
      exact dIC_ok m1
    unfold mAsg
    have z2 : (mBin (dI fun i j => .int (i + j)) (mBin (dI fun i j => .int (i + j)) (mVar 0) (mBin (dIC mulOk fun i j => .int (i * j)) (mC (.int 7919)) (mVar 1))) (mC (.int 13))) [.sh (.int c), .sh (.int k), .un] = .ok (.int (c + 7919 * k + 13)) := by
      show (((mBin (dIC mulOk fun i j => .int (i * j)) (mC (.int 7919)) (mVar 1)) [.sh (.int c), .sh (.int k), .un]).bind fun b => dI (fun i j => .int (i + j)) (.int c) b).bind _ = _
      rw [z]
      rfl
    rw [z2]
    rfl
  unfold m_law_mixed mSeq
  rw [e1]
  show (mRet _ [.sh (.int c), .sh (.int k), .sh (.int (c + 7919 * k + 13))]).bind _ = _
  generalize hx : c + 7919 * k + 13 = x at m2 m3
  have e2 : (mBin (dIC divOk fun i j => .int (i / j)) (mBin (dIC posOk fun i j => .int (i % j)) (mBin (dIC mulOk fun i j => .int (i * j)) (mBin (dIC posOk fun i j => .int (i % j)) (mBin (dIC mulOk fun i j => .int (i * j)) (mVar 2) (mVar 2)) (mC (.int 1000000007))) (mC (.int 48271))) (mC (.int 998244353))) (mC (.int 11))) [.sh (.int c), .sh (.int k), .sh (.int x)] = .ok (.int (x * x % 1000000007 * 48271 % 998244353 / 11)) := by
    show ((((dIC mulOk (fun i j => .int (i * j)) (.int x) (.int x)).bind fun a => dIC posOk (fun i j => .int (i % j)) a (.int 1000000007)).bind fun a => dIC mulOk (fun i j => .int (i * j)) a (.int 48271)).bind fun a => dIC posOk (fun i j => .int (i % j)) a (.int 998244353)).bind (fun a => dIC divOk (fun i j => .int (i / j)) a (.int 11)) = _
    rw [dIC_ok m2]
    show (((dIC posOk (fun i j => .int (i % j)) (.int (x * x)) (.int 1000000007)).bind fun a => dIC mulOk (fun i j => .int (i * j)) a (.int 48271)).bind fun a => dIC posOk (fun i j => .int (i % j)) a (.int 998244353)).bind (fun a => dIC divOk (fun i j => .int (i / j)) a (.int 11)) = _
    rw [dIC_ok (show posOk (x * x) 1000000007 = true from rfl)]
    show ((dIC mulOk (fun i j => .int (i * j)) (.int (x * x % 1000000007)) (.int 48271)).bind fun a => dIC posOk (fun i j => .int (i % j)) a (.int 998244353)).bind (fun a => dIC divOk (fun i j => .int (i / j)) a (.int 11)) = _
    rw [dIC_ok m3]
    rfl
  unfold mRet
  rw [e2]
  unfold mixv
  rw [hx]
  rfl
theorem mixv_ge (c k : Int) : 0 ≤ mixv c k := by
  unfold mixv
  exact Int.ediv_nonneg (Int.emod_nonneg _ (by decide)) (by decide)
theorem mixv_lt (c k : Int) : mixv c k < 100000000 := by
  unfold mixv
  generalize (c + 7919 * k + 13) * (c + 7919 * k + 13) % 1000000007 * 48271 = x
  have a2 := Int.emod_lt_of_pos x (show (0 : Int) < 998244353 by decide)
  omega
end K1
namespace K1
open PySem L2 Mr
/-- the whole numbers from k on, n of them -/
def nums (k : Int) : Nat → List Int
  | 0 => []
  | n + 1 => k :: nums (k + 1) n
theorem nums_len (n : Nat) : ∀ k, (nums k n).length = n := by
  induction n with
  | zero => exact fun _ => rfl
  | succ n ih => exact fun k => congrArg (· + 1) (ih (k + 1))
theorem nums_get (n : Nat) : ∀ (k : Int) (i : Nat), i < n → (nums k n)[i]? = some (k + i) := by
  induction n with
  | zero => exact fun _ _ h => absurd h (Nat.not_lt_zero _)
  | succ n ih =>
    intro k i h
    cases i with
    | zero => simp [nums]
    | succ i =>
      show (nums (k + 1) n)[i]? = _
      rw [ih (k + 1) i (Nat.lt_of_succ_lt_succ h)]
      congr 1
      omega
theorem rng_nums (lo : Int) (n : Nat) : rng lo n = il (nums lo n) := by
  apply List.ext_getElem?
  intro i
  by_cases h : i < n
  · rw [rng_get h, List.getElem?_map, nums_get n lo i h]
    rfl
  · rw [List.getElem?_eq_none (by rw [rng_len]; omega), List.getElem?_eq_none (by rw [il_len, nums_len]; omega)]
theorem perm_out {α : Type} : ∀ (l : List α) (j : Nat) (h : j < l.length), (l[j] :: l.eraseIdx j).Perm l
  | x :: r, 0, _ => List.Perm.refl _
  | x :: r, j + 1, h => by
    have q := perm_out r j (Nat.lt_of_succ_lt_succ h)
    exact (List.Perm.swap x _ _).trans (q.cons x)
theorem erase_il : ∀ (l : List Int) (j : Nat), (il l).eraseIdx j = il (l.eraseIdx j)
  | [], _ => rfl
  | x :: r, 0 => rfl
  | x :: r, j + 1 => congrArg (Dt.int x :: ·) (erase_il r j)
theorem appPop_ok {Δ : Fd} {i j k : Nat} {a : Fd → Md Dt} {ds es : List Dt} {y : Dt} (h1 : Δ[i]? = some (.ow ds)) (h2 : Δ[j]? = some (.ow es)) (hl : ds.length < 16777216) (hij : i ≠ j) (ha : a Δ = .ok (.int (k : Int))) (hk : k < 16777216) (hy : es[k]? = some y) :
    mAppPop i j a Δ = .ok (.nx ((Δ.set j (.ow (es.eraseIdx k))).set i (.ow (ds ++ [y])))) := by
  have c2 : 0 ≤ (k : Int) ∧ (k : Int) < 16777216 := ⟨by omega, by omega⟩
  unfold mAppPop
  simp only [h1, h2, if_pos (And.intro hl hij), ha, Md.bind, if_pos c2, Int.toNat_natCast, hy]
theorem sm_nat {n : Nat} (hn : n ≤ 1000) : smallI (n : Int) = true := by
  have h1 : -(2 ^ 62) ≤ (n : Int) := by omega
  have h2 : (n : Int) < 2 ^ 62 := by omega
  unfold smallI
  rw [decide_eq_true h1, decide_eq_true h2]
  rfl
theorem listRg_ok {n : Nat} (hn : n ≤ 1000) : dListRg (.int n) = .ok (.lst (il (nums 0 n))) := by
  have c : smallI (n : Int) = true ∧ n ≤ 16777216 := ⟨sm_nat hn, Nat.le_trans hn (by decide)⟩
  unfold dListRg
  simp only [Int.toNat_natCast, if_pos c, rng_nums]
theorem it1_ok {n : Nat} {Δ : Fd} {ma : Fd → Md (List Dt)} (hn : n ≤ 1000) (h : ma Δ = .ok [.int n]) : mIt1 ma Δ = .ok (il (nums 0 n)) := by
  have c : smallI (n : Int) = true := sm_nat hn
  unfold mIt1
  simp only [h, Md.bind, if_pos c, Int.toNat_natCast, rng_nums]
def rowBody : Fd → Md Out := (mSeq (mAppPop 3 2 (mBin (dIC posOk fun i j => .int (i % j)) (mVar 1) (mU dLen (mOwn 2)))) (mAsg 1 (mBin (dI fun i j => .int (i + j)) (mBin (dIC divOk fun i j => .int (i / j)) (mVar 1) (mBin (dI fun i j => .int (i - j)) (mVar 0) (mVar 4))) (mBin (dIC mulOk fun i j => .int (i * j)) (mC (.int 7)) (mVar 4)))))
theorem row_turn {n num k : Int} {left found : List Int} (hl : (left.length : Int) = n - k) (hp : 0 < left.length) (hk : 0 ≤ k) (hn : n ≤ 1000) (hf : found.length ≤ 1000) : ∃ y left' num', (y :: left').Perm left ∧
    rowBody [.sh (.int n), .sh (.int num), .ow (il left), .ow (il found), .sh (.int k)] = .ok (.nx [.sh (.int n), .sh (.int num'), .ow (il left'), .ow (il (found ++ [y])), .sh (.int k)]) := by
  have p1 : posOk num ((il left).length : Int) = true := by
    unfold posOk
    exact decide_eq_true (by rw [il_len]; omega)
  have r0 := Int.emod_nonneg num (show ((left.length : Int)) ≠ 0 by omega)
  have r1 := Int.emod_lt_of_pos num (show (0 : Int) < left.length by omega)
  obtain ⟨j, hj⟩ := Int.eq_ofNat_of_zero_le r0
  have hj2 : j < left.length := by omega
  have small : left.length ≤ 1000 := by omega
  refine ⟨left[j], left.eraseIdx j, num / (n - k) + 7 * k, ?_, ?_⟩
  · exact perm_out left j hj2
  · have ga : (il left)[j]? = some (.int left[j]) := by rw [List.getElem?_map, List.getElem?_eq_getElem hj2]; rfl
    have e1 : (mAppPop 3 2 (mBin (dIC posOk fun i j => .int (i % j)) (mVar 1) (mU dLen (mOwn 2)))) [.sh (.int n), .sh (.int num), .ow (il left), .ow (il found), .sh (.int k)] = .ok (.nx [.sh (.int n), .sh (.int num), .ow (il (left.eraseIdx j)), .ow (il (found ++ [left[j]])), .sh (.int k)]) := by
      have z : (mBin (dIC posOk fun i j => .int (i % j)) (mVar 1) (mU dLen (mOwn 2))) [.sh (.int n), .sh (.int num), .ow (il left), .ow (il found), .sh (.int k)] = .ok (.int j) := by
        show dIC posOk (fun i j => .int (i % j)) (.int num) (.int ((il left).length : Int)) = _
        rw [dIC_ok p1, il_len, hj]
      rw [appPop_ok (k := j) (y := .int left[j]) (ds := il found) (es := il left) rfl rfl (by rw [il_len]; omega) (by decide) z (by omega) ga]
      show Md.ok (Out.nx [.sh (.int n), .sh (.int num), .ow ((il left).eraseIdx j), .ow (il found ++ [.int left[j]]), .sh (.int k)]) = _
      rw [show (il left).eraseIdx j = il (left.eraseIdx j) from erase_il left j, show il found ++ [.int left[j]] = il (found ++ [left[j]]) by simp]
    have d1 : divOk num (n - k) = true := by
      unfold divOk
      rw [Bool.and_eq_true, decide_eq_true_eq, decide_eq_true_eq]
      omega
    have m1 : mulOk 7 k = true := mul_small (small_nat (n := 8) (by decide) (by decide)) (small_nat (n := 1001) (by omega) (by decide))
    unfold rowBody mSeq
    rw [e1]
    show (((dIC divOk (fun i j => .int (i / j)) (.int num) (.int (n - k))).bind fun a => (dIC mulOk (fun i j => .int (i * j)) (.int 7) (.int k)).bind fun b => dI (fun i j => .int (i + j)) a b).bind fun d => Md.ok (Out.nx (([.sh (.int n), .sh (.int num), .ow (il (left.eraseIdx j)), .ow (il (found ++ [left[j]])), .sh (.int k)] : Fd).set 1 (.sh d)))) = _
    rw [dIC_ok d1, dIC_ok m1]
    rfl
theorem row_go (n : Int) (hn : n ≤ 1000) : ∀ (m : Nat) (k num : Int) (left found : List Int) (s4 : Sd), (m : Int) = n - k → 0 ≤ k → left.length = m → (found.length : Int) = k →
    ∃ found' num' s4', found'.Perm (found ++ left) ∧ mForGo (gsName 4) rowBody (il (nums k m)) [.sh (.int n), .sh (.int num), .ow (il left), .ow (il found), s4] = .ok (.nx [.sh (.int n), .sh (.int num'), .ow (il []), .ow (il found'), s4']) := by
  intro m
  induction m with
  | zero =>
    intro k num left found s4 h1 h2 h3 h4
    have : left = [] := List.eq_nil_of_length_eq_zero h3
    subst this
    exact ⟨found, num, s4, by simp, rfl⟩
  | succ m ih =>
    intro k num left found s4 h1 h2 h3 h4
    obtain ⟨y, left', num', hp, e⟩ := row_turn (n := n) (num := num) (k := k) (left := left) (found := found) (by omega) (by omega) h2 hn (by omega)
    have hl' : left'.length = m := by
      have := hp.length_eq
      simp at this
      omega
    obtain ⟨f2, n2, s2, hp2, e2⟩ := ih (k + 1) num' left' (found ++ [y]) (.sh (.int k)) (by omega) (by omega) hl' (by simp; omega)
    refine ⟨f2, n2, s2, hp2.trans ?_, ?_⟩
    · rw [List.append_assoc]
      exact List.Perm.append_left found hp
    · show (rowBody [.sh (.int n), .sh (.int num), .ow (il left), .ow (il found), .sh (.int k)]).bind _ = _
      rw [e]
      exact e2
theorem row_is {n : Nat} (num : Int) (hn : n ≤ 1000) : ∃ r : List Int, r.Perm (nums 0 n) ∧ M_law_row [.int n, .int num] = .ok (.lst (il r)) := by
  obtain ⟨f, n2, s2, hp, e⟩ := row_go n (by omega) n 0 num (nums 0 n) [] .un (by omega) (by omega) (nums_len ..) rfl
  refine ⟨f, by simpa using hp, ?_⟩
  unfold M_law_row
  refine def_rt ?_
  unfold m_law_row
  refine (seq_nx (asgO_ok ((u_ok (var_ok rfl)).trans (listRg_ok hn)))).trans ?_
  refine (seq_nx (asgO_ok (lst_ok nil_ok (Nat.zero_le _)))).trans ?_
  exact (seq_nx (Δ' := [.sh (.int n), .sh (.int n2), .ow (il []), .ow (il f), s2]) ((for_ok (it1_ok hn (cons_ok (var_ok rfl) nil_ok))).trans e)).trans (retO_ok rfl)
end K1
namespace K1
open PySem L2 Mr
theorem toInts_il : ∀ xs : List Int, toInts (il xs) = some xs
  | [] => rfl
  | x :: r => by
    show (toInts (il r)).map (x :: ·) = _
    rw [toInts_il r]
    rfl
theorem qok_il : ∀ xs : List Int, qok.go (il xs) = true
  | [] => by simp [qok.go]
  | x :: r => by
    show qok.go (.int x :: il r) = true
    rw [qok.go, qok_il r]
    rfl
theorem nums_pw (n : Nat) : ∀ k : Int, (nums k n).Pairwise (fun a b => a ≤ b) ∧ ∀ x ∈ nums k n, k ≤ x := by
  induction n with
  | zero => exact fun _ => ⟨.nil, fun x h => by cases h⟩
  | succ n ih =>
    intro k
    obtain ⟨h1, h2⟩ := ih (k + 1)
    refine ⟨.cons (fun x hx => ?_) h1, fun x hx => ?_⟩
    · have := h2 x hx
      omega
    · rcases List.mem_cons.mp hx with z | z
      · omega
      · have := h2 x z
        omega
theorem sortI_pw (xs : List Int) : (sortI xs).Pairwise (fun a b => a ≤ b) := by
  have h := List.pairwise_mergeSort (le := fun a b : Int => decide (a ≤ b)) (fun a b c h1 h2 => by
    have h1 := of_decide_eq_true h1
    have h2 := of_decide_eq_true h2
    exact decide_eq_true (by omega)) (fun a b => by
    by_cases h : a ≤ b
    · rw [decide_eq_true h]; rfl
    · rw [decide_eq_true (show b ≤ a by omega), Bool.or_true]) xs
  exact h.imp fun h => of_decide_eq_true h
theorem sortI_perm (xs : List Int) : (sortI xs).Perm xs := List.mergeSort_perm ..
theorem sortI_nums {xs : List Int} {n : Nat} : sortI xs = nums 0 n ↔ xs.Perm (nums 0 n) := by
  constructor
  · intro h
    rw [← h]
    exact (sortI_perm xs).symm
  · intro h
    exact List.Perm.eq_of_pairwise (le := fun a b : Int => a ≤ b) (fun a b _ _ h1 h2 => by omega) (sortI_pw xs) (nums_pw n 0).1 ((sortI_perm xs).trans h)
/-- == of lists of whole numbers -/
theorem toPs_il : ∀ xs : List Int, toPs (il xs) = some (xs.map PyData.int)
  | [] => by simp [toPs]
  | x :: r => by
    show toPs (.int x :: il r) = _
    unfold toPs
    rw [toPs_il r]
    rfl
end K1
namespace K1
open PySem L2 Mr
theorem lay_il : ∀ xs : List Int, PyData.canLayAll0 (xs.map PyData.int) = true
  | [] => by rw [List.map_nil, PyData.canLayAll0]
  | x :: r => by
    rw [List.map_cons, PyData.canLayAll0, lay_il r]
    rfl
theorem dep_il : ∀ xs : List Int, PyData.depthAll (xs.map PyData.int) = 0
  | [] => by rw [List.map_nil, PyData.depthAll]
  | x :: r => by
    rw [List.map_cons, PyData.depthAll, dep_il r]
    rfl
theorem shp_il (xs : List Int) : SeqAt.shaped (.list (xs.map PyData.int)) = true := by
  unfold SeqAt.shaped
  rw [PyData.canLay0, lay_il, PyData.depth, dep_il]
  rfl
theorem eqv_il : ∀ xs ys : List Int, PyData.eqvAll (xs.map PyData.int) (ys.map PyData.int) = decide (xs = ys)
  | [], [] => by simp [PyData.eqvAll]
  | [], y :: s => by simp [PyData.eqvAll]
  | x :: r, [] => by simp [PyData.eqvAll]
  | x :: r, y :: s => by
    rw [List.map_cons, List.map_cons, PyData.eqvAll, eqv_il r s, PyData.eqv]
    by_cases h : x = y
    · subst h
      simp
    · simp [h]
theorem toP_il (xs : List Int) : toP (.lst (il xs)) = some (.list (xs.map PyData.int)) := by
  unfold toP
  rw [toPs_il]
  rfl
theorem dEqv_il (xs ys : List Int) : dEqv (.lst (il xs)) (.lst (il ys)) = .ok (decide (xs = ys)) := by
  unfold dEqv
  rw [toP_il, toP_il]
  show (if SeqAt.shaped (.list (xs.map PyData.int)) = true ∧ SeqAt.shaped (.list (ys.map PyData.int)) = true then Md.ok (PyData.eqv (.list (xs.map PyData.int)) (.list (ys.map PyData.int))) else .bad) = _
  rw [if_pos ⟨shp_il xs, shp_il ys⟩, PyData.eqv, eqv_il]
theorem dEq_il (xs ys : List Int) : dEq (.lst (il xs)) (.lst (il ys)) = .ok (.bl (decide (xs = ys))) := by
  unfold dEq
  rw [dEqv_il]
  rfl
theorem dNe_int2 (i j : Int) : dNe (.int i) (.int j) = .ok (.bl (!decide (i = j))) := by
  rw [dNe_int, Bool.beq_eq_decide_eq]
theorem len_il (xs : List Int) {n : Nat} (h : xs.length = n) : dLen (.lst (il xs)) = .ok (.int n) := by
  show Md.ok (Dt.int ((il xs).length : Int)) = _
  rw [il_len, h]
theorem sorted_il (xs : List Int) : dSorted (.lst (il xs)) = .ok (.lst (il (sortI xs))) := by
  unfold dSorted
  simp only [toInts_il]
theorem whole_int (i : Int) : M_is_whole [.int i] = .ok (.bl true) := rfl
theorem allB_il (f : Dt → Md Dt) (h : ∀ i : Int, f (.int i) = .ok (.bl true)) : ∀ xs : List Int, allB f (il xs) = some (List.replicate xs.length true)
  | [] => rfl
  | x :: r => by
    show (match f (.int x), allB f (il r) with
      | .ok (.bl q), some bs => some (q :: bs)
      | _, _ => none) = _
    rw [h x, allB_il f h r]
    rfl
/-- of a list of whole numbers: a row of its size or none -/
theorem is_row_il (xs : List Int) {n : Nat} (h1 : 1 ≤ n) (hn : n ≤ 1000) (hl : xs.length = n) : M_is_row [.lst (il xs), .int n] = .ok (.bl (decide (sortI xs = nums 0 n))) := by
  unfold M_is_row
  refine def_rt ?_
  have st : startD 3 [.lst (il xs), .int (n : Int)] = [.sh (.lst (il xs)), .sh (.int n), .un] := rfl
  rw [st]
  unfold m_is_row
  have w1 : (mT (mCall 1 M_is_whole (mCons (mVar 1) mNil))) [.sh (.lst (il xs)), .sh (.int n), .un] = .ok true := t_ok ((call_ok (cons_ok (var_ok rfl) nil_ok) rfl).trans (whole_int n))
  have w2 : (mT (mBin dLt (mVar 1) (mC (.int 1)))) [.sh (.lst (il xs)), .sh (.int n), .un] = .ok false := t_ok ((bin_ok (var_ok rfl) c_ok).trans (by
    show Md.ok (Dt.bl (decide ((n : Int) < 1))) = _
    rw [decide_eq_false (by omega)]))
  refine (seq_nx ((if_f ((or_f (not_ok w1)).trans w2)).trans rfl)).trans ?_
  have w3 : (mT (mBin dIsNot (mU dType (mVar 0)) (mC (.ty "list")))) [.sh (.lst (il xs)), .sh (.int n), .un] = .ok false := t_ok ((bin_ok ((u_ok (var_ok rfl)).trans (show dType (.lst (il xs)) = .ok (.ty "list") from rfl)) c_ok).trans rfl)
  have w4 : (mT (mBin dNe (mU dLen (mVar 0)) (mVar 1))) [.sh (.lst (il xs)), .sh (.int n), .un] = .ok false := t_ok ((bin_ok ((u_ok (var_ok rfl)).trans (len_il xs hl)) (var_ok rfl)).trans ((dNe_int2 _ _).trans (by
    rw [decide_eq_true rfl]
    rfl)))
  refine (seq_nx ((if_f ((or_f w3).trans w4)).trans rfl)).trans (ret_ok ?_)
  have all : (mGen 2 (fun bs => bs.all id) (mVar 0) (mCall 1 M_is_whole (mCons (mVar 2) mNil))) [.sh (.lst (il xs)), .sh (.int n), .un] = .ok (.bl true) := by
    refine (gen_ok (var_ok rfl) (qok_il xs) (Nat.lt_succ_self 2) (allB_il _ (fun i => ?_) xs)).trans ?_
    · exact (call_ok (cons_ok (var_ok rfl) nil_ok) rfl).trans (whole_int i)
    · simp
  refine (andV_t all).trans ((bin_ok ((u_ok (var_ok rfl)).trans (sorted_il xs)) ((u_ok (var_ok rfl)).trans (listRg_ok hn))).trans (dEq_il ..))
theorem is_row_yes {xs : List Int} {n : Nat} (h1 : 1 ≤ n) (hn : n ≤ 1000) (h : xs.Perm (nums 0 n)) : M_is_row [.lst (il xs), .int n] = .ok (.bl true) := by
  rw [is_row_il xs h1 hn (h.length_eq.trans (nums_len ..)), decide_eq_true (sortI_nums.mpr h)]
end K1
namespace K1
open PySem L2 Mr
theorem size_of_yes {xs : List Int} {n : Nat} (h1 : 1 ≤ n) (hn : n ≤ 1000) (h : xs.Perm (nums 0 n)) : M_size_of [.lst (il xs)] = .ok (.int n) := by
  have hl : xs.length = n := h.length_eq.trans (nums_len ..)
  unfold M_size_of
  refine def_rt ?_
  have st : startD 1 [.lst (il xs)] = [.sh (.lst (il xs))] := rfl
  rw [st]
  unfold m_size_of
  have w3 : (mT (mBin dIsNot (mU dType (mVar 0)) (mC (.ty "list")))) [.sh (.lst (il xs))] = .ok false := t_ok ((bin_ok ((u_ok (var_ok rfl)).trans (show dType (.lst (il xs)) = .ok (.ty "list") from rfl)) c_ok).trans rfl)
  have w4 : (mT (mCall 2 M_is_row (mCons (mVar 0) (mCons (mU dLen (mVar 0)) mNil)))) [.sh (.lst (il xs))] = .ok true := t_ok ((call_ok (cons_ok (var_ok rfl) (cons_ok ((u_ok (var_ok rfl)).trans (len_il xs hl)) nil_ok)) rfl).trans (is_row_yes h1 hn h))
  exact (seq_nx ((if_f ((or_f w3).trans (not_ok w4))).trans rfl)).trans (ret_ok ((u_ok (var_ok rfl)).trans (len_il xs hl)))
/-- a list comprehension over whole numbers, without a test -/
theorem lcGo_il {i : Nat} {me : Fd → Md Dt} {Δ : Fd} (f : Int → Int) : ∀ xs : List Int, (∀ x ∈ xs, me (Δ.set i (.sh (.int x))) = .ok (.int (f x))) → mLcGo (gsName i) mYes me Δ (il xs) = .ok (il (xs.map f))
  | [], _ => rfl
  | x :: r, h => by
    have e := lcGo_il f r fun y hy => h y (List.mem_cons_of_mem _ hy)
    show ((mYes (Δ.set i (.sh (.int x)))).bind fun b => if b = true then (me (Δ.set i (.sh (.int x)))).bind fun d => (mLcGo (gsName i) mYes me Δ (il r)).bind fun ds => .ok (d :: ds) else mLcGo (gsName i) mYes me Δ (il r)) = _
    rw [h x List.mem_cons_self, e]
    rfl
theorem mem_nums {n : Nat} : ∀ {k x : Int}, x ∈ nums k n ↔ k ≤ x ∧ x < k + n := by
  induction n with
  | zero =>
    intro k x
    simp [nums]
  | succ n ih =>
    intro k x
    rw [nums, List.mem_cons, ih]
    constructor
    · rintro (rfl | ⟨a, b⟩) <;> omega
    · intro ⟨a, b⟩
      omega
theorem at_il {ys : List Int} {x : Int} (h0 : 0 ≤ x) (h1 : x < ys.length) : dIx (.lst (il ys)) (.int x) = .ok (.int (ys.getD x.toNat 0)) := by
  obtain ⟨j, rfl⟩ := Int.eq_ofNat_of_zero_le h0
  have hj : j < ys.length := by omega
  show (match atI (il ys) (j : Int) with | some d => Md.ok d | none => Md.bad) = _
  have q : (il ys)[j]? = some (.int (ys.getD j 0)) := by
    rw [List.getElem?_map, List.getElem?_eq_getElem hj]
    simp [List.getD, List.getElem?_eq_getElem hj]
  rw [atI_nat q, Int.toNat_natCast]
def comp (xs ys : List Int) : List Int := xs.map fun x => ys.getD x.toNat 0
theorem behind_yes {xs ys : List Int} {n : Nat} (h1 : 1 ≤ n) (hn : n ≤ 1000) (hx : xs.Perm (nums 0 n)) (hy : ys.Perm (nums 0 n)) : M_behind [.lst (il xs), .lst (il ys)] = .ok (.lst (il (comp xs ys))) := by
  have hl : ys.length = n := hy.length_eq.trans (nums_len ..)
  have hl2 : xs.length = n := hx.length_eq.trans (nums_len ..)
  unfold M_behind
  refine def_rt ?_
  have st : startD 4 [.lst (il xs), .lst (il ys)] = [.sh (.lst (il xs)), .sh (.lst (il ys)), .un, .un] := rfl
  rw [st]
  unfold m_behind
  refine (seq_nx (asg_ok ((call_ok (cons_ok (var_ok rfl) nil_ok) rfl).trans (size_of_yes h1 hn hx)))).trans ?_
  have w4 : (mT (mCall 2 M_is_row (mCons (mVar 1) (mCons (mVar 2) mNil)))) [.sh (.lst (il xs)), .sh (.lst (il ys)), .sh (.int n), .un] = .ok true := t_ok ((call_ok (cons_ok (var_ok rfl) (cons_ok (var_ok rfl) nil_ok)) rfl).trans (is_row_yes h1 hn hy))
  refine (seq_nx ((if_f (not_ok w4)).trans rfl)).trans (ret_ok ?_)
  refine lc_ok (ds := il xs) rfl (by rw [il_len]; omega) ?_
  refine lcGo_il (fun x => ys.getD x.toNat 0) xs fun x hm => ?_
  have hb := mem_nums.mp (hx.mem_iff.mp hm)
  exact (bin_ok (var_ok rfl) (var_ok rfl)).trans (at_il (by omega) (by omega))
end K1
namespace K1
open PySem L2 Mr
theorem set_il : ∀ (l : List Int) (j : Nat) (x : Int), (il l).set j (.int x) = il (l.set j x)
  | [], _, _ => rfl
  | y :: r, 0, _ => rfl
  | y :: r, j + 1, x => congrArg (Dt.int y :: ·) (set_il r j x)
theorem setI_ok {Δ : Fd} {i : Nat} {ma mb : Fd → Md Dt} {zs : List Int} {v : Int} {j : Nat} (h1 : ma Δ = .ok (.int v)) (h2 : Δ[i]? = some (.ow (il zs))) (h3 : mb Δ = .ok (.int (j : Int))) (hj : j < zs.length) : mSetI i ma mb Δ = .ok (.nx (Δ.set i (.ow (il (zs.set j v))))) := by
  have hix : ixN (il zs).length (j : Int) = some j := by
    unfold ixN
    rw [il_len, if_pos (Int.natCast_nonneg j), if_pos (by omega), Int.toNat_natCast]
  unfold mSetI
  simp only [h1, h2, h3, Md.bind, hix, set_il]
theorem back_go {n : Nat} {one : Dt} : ∀ (rest : List Int) (k : Nat) (zs : List Int) (s2 s3 : Sd), zs.length = n → (∀ x ∈ rest, 0 ≤ x ∧ x < n) → rest.Nodup →
    ∃ zs' s2' s3', mForGo (gsTup 2 (gsCons (gsName 2) (gsCons (gsName 3) gsNil))) (mSetI 1 (mVar 2) (mVar 3)) (enu k (il rest)) [.sh one, .ow (il zs), s2, s3] = .ok (.nx [.sh one, .ow (il zs'), s2', s3']) ∧ zs'.length = n ∧
      (∀ (j : Nat) (x : Int), rest[j]? = some x → zs'[x.toNat]? = some ((k + j : Nat) : Int)) ∧ ∀ m, (∀ x ∈ rest, x.toNat ≠ m) → zs'[m]? = zs[m]?
  | [], k, zs, s2, s3, hl, _, _ => ⟨zs, s2, s3, rfl, hl, fun j x h => by simp at h, fun m _ => rfl⟩
  | x :: r, k, zs, s2, s3, hl, hb, nd => by
    obtain ⟨h0, h1⟩ := hb x List.mem_cons_self
    obtain ⟨j, rfl⟩ := Int.eq_ofNat_of_zero_le h0
    have hj : j < n := by omega
    obtain ⟨zs', a2, a3, e, l', p, q⟩ := back_go (n := n) (one := one) r (k + 1) (zs.set j k) (.sh (.int (k : Int))) (.sh (.int (j : Int))) (by rw [List.length_set]; exact hl) (fun y hy => hb y (List.mem_cons_of_mem _ hy)) (List.nodup_cons.mp nd).2
    refine ⟨zs', a2, a3, ?_, l', fun i y hy => ?_, fun m hm => ?_⟩
    · refine (go_nx (Δ1 := [.sh one, .ow (il zs), .sh (.int (k : Int)), .sh (.int (j : Int))]) rfl (setI_ok (zs := zs) (v := (k : Int)) (j := j) (var_ok rfl) rfl (var_ok rfl) (by omega))).trans e
    · cases i with
      | zero =>
        cases hy
        have : zs'[j]? = (zs.set j (k : Int))[j]? := q j fun y hy z => by
          have hy0 := (hb y (List.mem_cons_of_mem _ hy)).1
          have : y = (j : Int) := by omega
          exact (List.nodup_cons.mp nd).1 (this ▸ hy)
        rw [Int.toNat_natCast, this, List.getElem?_set_self (by omega)]
        rfl
      | succ i =>
        rw [p i y hy]
        congr 2
        omega
    · have hne : j ≠ m := fun z => hm (j : Int) List.mem_cons_self (by rw [Int.toNat_natCast]; exact z)
      rw [q m fun y hy => hm y (List.mem_cons_of_mem _ hy), List.getElem?_set_ne hne]
theorem nums_nd (n : Nat) : ∀ k, (nums k n).Nodup := by
  induction n with
  | zero => exact fun _ => .nil
  | succ n ih =>
    intro k
    refine List.nodup_cons.mpr ⟨fun h => ?_, ih (k + 1)⟩
    have := (mem_nums.mp h).1
    omega
theorem rep_il (n : Nat) : (List.replicate n (il [0])).flatten = il (List.replicate n 0) := by
  induction n with
  | zero => rfl
  | succ n ih =>
    rw [List.replicate_succ, List.flatten_cons, ih, List.replicate_succ]
    rfl
theorem dRep_ok {n : Nat} (hn : n ≤ 1000) : dRep (.lst (il [0])) (.int n) = .ok (.lst (il (List.replicate n 0))) := by
  have c : -(2 ^ 63) ≤ (n : Int) ∧ (n : Int) < 2 ^ 63 ∧ (il [0]).length * ((n : Int)).toNat ≤ 16777216 := by
    refine ⟨by omega, by omega, ?_⟩
    rw [il_len, Int.toNat_natCast]
    show 1 * n ≤ _
    omega
  unfold dRep
  simp only [if_pos c]
  rw [Int.toNat_natCast, rep_il]
theorem back_yes {xs : List Int} {n : Nat} (h1 : 1 ≤ n) (hn : n ≤ 1000) (hx : xs.Perm (nums 0 n)) : ∃ zs, M_back [.lst (il xs)] = .ok (.lst (il zs)) ∧ zs.length = n ∧ ∀ (j : Nat) (x : Int), xs[j]? = some x → zs[x.toNat]? = some (j : Int) := by
  obtain ⟨zs, a2, a3, e, l, p, _⟩ := back_go (n := n) (one := .lst (il xs)) xs 0 (List.replicate n 0) .un .un (by simp) (fun x hm => by
    have := mem_nums.mp (hx.mem_iff.mp hm)
    omega) (hx.nodup_iff.mpr (nums_nd n 0))
  refine ⟨zs, ?_, l, fun j x h => by rw [p j x h, Nat.zero_add]⟩
  unfold M_back
  refine def_rt ?_
  have st : startD 4 [.lst (il xs)] = [.sh (.lst (il xs)), .un, .un, .un] := rfl
  rw [st]
  unfold m_back
  refine (seq_nx (asgO_ok ((bin_ok (lst_ok (cons_ok c_ok nil_ok) (by decide)) ((call_ok (cons_ok (var_ok rfl) nil_ok) rfl).trans (size_of_yes h1 hn hx))).trans (dRep_ok hn)))).trans ?_
  exact (seq_nx (Δ' := [.sh (.lst (il xs)), .ow (il zs), a2, a3]) ((for_ok (ds := enu 0 (il xs)) rfl).trans e)).trans (retO_ok rfl)
end K1
namespace K1
open PySem L2 Mr
theorem law_whole_int (i : Int) : M_law_whole [.int i] = .ok (.bl true) := rfl
theorem law_whole_bl (b : Bool) : M_law_whole [.bl b] = .ok (.bl false) := rfl
theorem law_whole_str (x : Str) : M_law_whole [.str x] = .ok (.bl false) := rfl
theorem law_whole_non : M_law_whole [.non] = .ok (.bl false) := rfl
theorem law_whole_lst (ds : List Dt) : M_law_whole [.lst ds] = .ok (.bl false) := rfl
theorem isi_lst (ds : List Dt) : dIsi [.lst ds, .ty "list"] = .ok (.bl true) := rfl
theorem lcGo_wh {i : Nat} {me : Fd → Md Dt} {Δ : Fd} : ∀ xs : List Int, (∀ x ∈ xs, me (Δ.set i (.sh (.int x))) = .ok (.bl true)) → mLcGo (gsName i) mYes me Δ (il xs) = .ok (List.replicate xs.length (.bl true))
  | [], _ => rfl
  | x :: r, h => by
    have e := lcGo_wh r fun y hy => h y (List.mem_cons_of_mem _ hy)
    show ((mYes (Δ.set i (.sh (.int x)))).bind fun b => if b = true then (me (Δ.set i (.sh (.int x)))).bind fun d => (mLcGo (gsName i) mYes me Δ (il r)).bind fun ds => .ok (d :: ds) else mLcGo (gsName i) mYes me Δ (il r)) = _
    rw [h x List.mem_cons_self, e]
    rfl
theorem toBls_rep : ∀ n : Nat, toBls (List.replicate n (.bl true)) = some (List.replicate n true)
  | 0 => rfl
  | n + 1 => by
    show (toBls (List.replicate n (.bl true))).map (true :: ·) = _
    rw [toBls_rep n]
    rfl
theorem alike_il {xs ys : List Int} (hl : xs.length ≤ 1000) : M_law_alike_rows [.lst (il xs), .lst (il ys)] = .ok (.bl (decide (xs = ys))) := by
  unfold M_law_alike_rows
  refine def_rt ?_
  have st : startD 3 [.lst (il xs), .lst (il ys)] = [.sh (.lst (il xs)), .sh (.lst (il ys)), .un] := rfl
  rw [st]
  unfold m_law_alike_rows
  have w1 : (mT (mCB dIsi (mCons (mVar 0) (mCons (mC (.ty "list")) mNil)))) [.sh (.lst (il xs)), .sh (.lst (il ys)), .un] = .ok true := rfl
  have w2 : (mT (mBin dNe (mU dLen (mVar 0)) (mU dLen (mVar 1)))) [.sh (.lst (il xs)), .sh (.lst (il ys)), .un] = .ok (!decide ((xs.length : Int) = ys.length)) := t_ok ((bin_ok ((u_ok (var_ok rfl)).trans (len_il xs rfl)) ((u_ok (var_ok rfl)).trans (len_il ys rfl))).trans (dNe_int2 ..))
  by_cases h : xs.length = ys.length
  · have e : decide ((xs.length : Int) = ys.length) = true := decide_eq_true (by omega)
    rw [e] at w2
    refine (seq_nx ((if_f ((or_f (not_ok w1)).trans w2)).trans rfl)).trans (ret_ok ?_)
    have al : (mU dAll (mLc (mItL (mVar 0)) (gsName 2) mYes (mCall 1 M_law_whole (mCons (mVar 2) mNil)) [2])) [.sh (.lst (il xs)), .sh (.lst (il ys)), .un] = .ok (.bl true) := by
      refine (u_ok (lc_ok (ds := il xs) rfl (by rw [il_len]; omega) (lcGo_wh xs fun x _ => (call_ok (ds := [.int x]) (cons_ok (var_ok rfl) nil_ok) rfl).trans (law_whole_int x)))).trans ?_
      unfold dAll
      simp [toBls_rep]
    exact (andV_t al).trans ((bin_ok (var_ok rfl) (var_ok rfl)).trans (dEq_il ..))
  · have e : decide ((xs.length : Int) = ys.length) = false := decide_eq_false (by omega)
    have ne : xs ≠ ys := fun z => h (congrArg List.length z)
    rw [e] at w2
    rw [decide_eq_false ne]
    exact seq_rt ((if_t ((or_f (not_ok w1)).trans w2)).trans (ret_ok c_ok))
end K1
namespace K1
open PySem L2 Mr
/-- what may stand in a thing -/
def pl : Dt → Bool
  | .int _ => true
  | .bl _ => true
  | .str _ => true
  | .non => true
  | .lst _ => true
  | _ => false
def isI : Dt → Bool
  | .int _ => true
  | _ => false
theorem whole_pl {d : Dt} (h : pl d = true) : M_is_whole [d] = .ok (.bl (isI d)) := by
  cases d <;> first | rfl | cases h
theorem law_whole_pl {d : Dt} (h : pl d = true) : M_law_whole [d] = .ok (.bl (isI d)) := by
  cases d <;> first | rfl | cases h
theorem allB_pl {f : Dt → Md Dt} (h : ∀ d, pl d = true → f d = .ok (.bl (isI d))) : ∀ ds : List Dt, (∀ d ∈ ds, pl d = true) → allB f ds = some (ds.map isI)
  | [], _ => rfl
  | d :: r, hp => by
    show (match f d, allB f r with
      | .ok (.bl q), some bs => some (q :: bs)
      | _, _ => none) = _
    rw [h d (hp d List.mem_cons_self), allB_pl h r fun x hx => hp x (List.mem_cons_of_mem _ hx)]
    rfl
theorem isI_toInts : ∀ ds : List Dt, (ds.map isI).all id = (toInts ds).isSome
  | [] => rfl
  | .int i :: r => by
    show (true && (r.map isI).all id) = ((toInts r).map (i :: ·)).isSome
    rw [isI_toInts r, Bool.true_and, Option.isSome_map]
  | .non :: r => rfl
  | .bl _ :: r => rfl
  | .str _ :: r => rfl
  | .ty _ :: r => rfl
  | .lst _ :: r => rfl
  | .tup _ :: r => rfl
  | .ins _ _ _ :: r => rfl
  | .lsk _ :: r => rfl
  | .tpk _ :: r => rfl
  | .dic :: r => rfl
  | .adr _ :: r => rfl
theorem toInts_some : ∀ {ds : List Dt} {xs : List Int}, toInts ds = some xs → ds = il xs
  | [], xs, h => by cases h; rfl
  | .int i :: r, xs, h => by
    obtain ⟨ys, e, rfl⟩ := Option.map_eq_some_iff.mp (show (toInts r).map (i :: ·) = some xs from h)
    rw [toInts_some e]
    rfl
/-- whether a list is a row of size n -/
def rowB (ds : List Dt) (n : Nat) : Bool := match toInts ds with
  | some xs => decide (ds.length = n) && decide (sortI xs = nums 0 n)
  | none => false
theorem is_row_pl {ds : List Dt} {n : Nat} (hp : ∀ d ∈ ds, pl d = true) (hq : qok.go ds = true) (h1 : 1 ≤ n) (hn : n ≤ 1000) : M_is_row [.lst ds, .int n] = .ok (.bl (rowB ds n)) := by
  cases ti : toInts ds with
  | some xs =>
    have e := toInts_some ti
    subst e
    unfold rowB
    rw [ti]
    by_cases hl : xs.length = n
    · rw [is_row_il xs h1 hn hl]
      simp [hl]
    · have hl2 : ¬ (il xs).length = n := by rw [il_len]; exact hl
      simp only [hl2, decide_false, Bool.false_and]
      unfold M_is_row
      refine def_rt ?_
      have st : startD 3 [.lst (il xs), .int (n : Int)] = [.sh (.lst (il xs)), .sh (.int n), .un] := rfl
      rw [st]
      unfold m_is_row
      have w1 : (mT (mCall 1 M_is_whole (mCons (mVar 1) mNil))) [.sh (.lst (il xs)), .sh (.int n), .un] = .ok true := t_ok ((call_ok (ds := [.int n]) (cons_ok (var_ok rfl) nil_ok) rfl).trans (whole_int n))
      have w2 : (mT (mBin dLt (mVar 1) (mC (.int 1)))) [.sh (.lst (il xs)), .sh (.int n), .un] = .ok false := t_ok ((bin_ok (var_ok rfl) c_ok).trans (by
        show Md.ok (Dt.bl (decide ((n : Int) < 1))) = _
        rw [decide_eq_false (by omega)]))
      refine (seq_nx ((if_f ((or_f (not_ok w1)).trans w2)).trans rfl)).trans ?_
      have w3 : (mT (mBin dIsNot (mU dType (mVar 0)) (mC (.ty "list")))) [.sh (.lst (il xs)), .sh (.int n), .un] = .ok false := t_ok ((bin_ok ((u_ok (var_ok rfl)).trans (show dType (.lst (il xs)) = .ok (.ty "list") from rfl)) c_ok).trans rfl)
      have w4 : (mT (mBin dNe (mU dLen (mVar 0)) (mVar 1))) [.sh (.lst (il xs)), .sh (.int n), .un] = .ok true := t_ok ((bin_ok ((u_ok (var_ok rfl)).trans (len_il xs rfl)) (var_ok rfl)).trans ((dNe_int2 _ _).trans (by
        rw [decide_eq_false (by omega)]
        rfl)))
      exact seq_rt ((if_t ((or_f w3).trans w4)).trans (ret_ok c_ok))
  | none =>
    unfold rowB
    rw [ti]
    show _ = Md.ok (Dt.bl false)
    unfold M_is_row
    refine def_rt ?_
    have st : startD 3 [.lst ds, .int (n : Int)] = [.sh (.lst ds), .sh (.int n), .un] := rfl
    rw [st]
    unfold m_is_row
    have w1 : (mT (mCall 1 M_is_whole (mCons (mVar 1) mNil))) [.sh (.lst ds), .sh (.int n), .un] = .ok true := t_ok ((call_ok (ds := [.int n]) (cons_ok (var_ok rfl) nil_ok) rfl).trans (whole_int n))
    have w2 : (mT (mBin dLt (mVar 1) (mC (.int 1)))) [.sh (.lst ds), .sh (.int n), .un] = .ok false := t_ok ((bin_ok (var_ok rfl) c_ok).trans (by
      show Md.ok (Dt.bl (decide ((n : Int) < 1))) = _
      rw [decide_eq_false (by omega)]))
    refine (seq_nx ((if_f ((or_f (not_ok w1)).trans w2)).trans rfl)).trans ?_
    have w3 : (mT (mBin dIsNot (mU dType (mVar 0)) (mC (.ty "list")))) [.sh (.lst ds), .sh (.int n), .un] = .ok false := t_ok ((bin_ok ((u_ok (var_ok rfl)).trans (show dType (.lst ds) = .ok (.ty "list") from rfl)) c_ok).trans rfl)
    have w4 : (mT (mBin dNe (mU dLen (mVar 0)) (mVar 1))) [.sh (.lst ds), .sh (.int n), .un] = .ok (!decide ((ds.length : Int) = n)) := t_ok ((bin_ok ((u_ok (var_ok rfl)).trans (show dLen (.lst ds) = .ok (.int ds.length) from rfl)) (var_ok rfl)).trans (dNe_int2 _ _))
    by_cases hl : (ds.length : Int) = n
    · rw [decide_eq_true hl] at w4
      refine (seq_nx ((if_f ((or_f w3).trans w4)).trans rfl)).trans (ret_ok ?_)
      refine andV_f ((gen_ok (var_ok rfl) hq (Nat.lt_succ_self 2) (allB_pl (fun d hd => ?_) ds hp)).trans ?_)
      · exact (call_ok (ds := [d]) (cons_ok (var_ok rfl) nil_ok) rfl).trans (whole_pl hd)
      · rw [isI_toInts, ti]
        rfl
    · rw [decide_eq_false hl] at w4
      exact seq_rt ((if_t ((or_f w3).trans w4)).trans (ret_ok c_ok))
end K1
namespace K1
open PySem L2 Mr
/-- what is no list -/
def nl : Dt → Bool
  | .int _ => true
  | .bl _ => true
  | .str _ => true
  | .non => true
  | .tup _ => true
  | .dic => true
  | _ => false
theorem isNot_nl {d : Dt} (h : nl d = true) : (dType d).bind (fun t => dIsNot t (.ty "list")) = .ok (.bl true) := by
  cases d <;> first | (exact congrArg (fun b => Md.ok (Dt.bl b)) (by decide)) | rfl | cases h
theorem is_row_nl {d : Dt} {n : Nat} (hd : nl d = true) (h1 : 1 ≤ n) : M_is_row [d, .int n] = .ok (.bl false) := by
  unfold M_is_row
  refine def_rt ?_
  have st : startD 3 [d, .int (n : Int)] = [.sh d, .sh (.int n), .un] := rfl
  rw [st]
  unfold m_is_row
  have w1 : (mT (mCall 1 M_is_whole (mCons (mVar 1) mNil))) [.sh d, .sh (.int n), .un] = .ok true := t_ok ((call_ok (ds := [.int n]) (cons_ok (var_ok rfl) nil_ok) rfl).trans (whole_int n))
  have w2 : (mT (mBin dLt (mVar 1) (mC (.int 1)))) [.sh d, .sh (.int n), .un] = .ok false := t_ok ((bin_ok (var_ok rfl) c_ok).trans (by
    show Md.ok (Dt.bl (decide ((n : Int) < 1))) = _
    rw [decide_eq_false (by omega)]))
  refine (seq_nx ((if_f ((or_f (not_ok w1)).trans w2)).trans rfl)).trans ?_
  have w3 : (mT (mBin dIsNot (mU dType (mVar 0)) (mC (.ty "list")))) [.sh d, .sh (.int n), .un] = .ok true := t_ok (by
    have e := isNot_nl hd
    obtain ⟨t, e1, e2⟩ := md_bind e
    exact (bin_ok ((u_ok (var_ok rfl)).trans e1) c_ok).trans e2)
  exact seq_rt ((if_t (or_t w3)).trans (ret_ok c_ok))
theorem size_of_nl {d : Dt} (hd : nl d = true) : M_size_of [d] = .exc "BadRow" := by
  unfold M_size_of
  refine def_exc ?_
  have st : startD 1 [d] = [.sh d] := rfl
  rw [st]
  unfold m_size_of
  have w3 : (mT (mBin dIsNot (mU dType (mVar 0)) (mC (.ty "list")))) [.sh d] = .ok true := t_ok (by
    have e := isNot_nl hd
    obtain ⟨t, e1, e2⟩ := md_bind e
    exact (bin_ok ((u_ok (var_ok rfl)).trans e1) c_ok).trans e2)
  exact seq_exc ((if_t (or_t w3)).trans rfl)
theorem is_row_nil : M_is_row [.lst [], .int 0] = .ok (.bl false) := by
  unfold M_is_row
  refine def_rt ?_
  have st : startD 3 [.lst [], .int 0] = [.sh (.lst []), .sh (.int 0), .un] := rfl
  rw [st]
  unfold m_is_row
  have w1 : (mT (mCall 1 M_is_whole (mCons (mVar 1) mNil))) [.sh (.lst []), .sh (.int 0), .un] = .ok true := t_ok ((call_ok (ds := [.int 0]) (cons_ok (var_ok rfl) nil_ok) rfl).trans (whole_int 0))
  have w2 : (mT (mBin dLt (mVar 1) (mC (.int 1)))) [.sh (.lst []), .sh (.int 0), .un] = .ok true := t_ok ((bin_ok (var_ok rfl) c_ok).trans rfl)
  exact seq_rt ((if_t ((or_f (not_ok w1)).trans w2)).trans (ret_ok c_ok))
theorem size_of_no {ds : List Dt} (h : M_is_row [.lst ds, .int ds.length] = .ok (.bl false)) : M_size_of [.lst ds] = .exc "BadRow" := by
  unfold M_size_of
  refine def_exc ?_
  have st : startD 1 [.lst ds] = [.sh (.lst ds)] := rfl
  rw [st]
  unfold m_size_of
  have w3 : (mT (mBin dIsNot (mU dType (mVar 0)) (mC (.ty "list")))) [.sh (.lst ds)] = .ok false := t_ok ((bin_ok ((u_ok (var_ok rfl)).trans (show dType (.lst ds) = .ok (.ty "list") from rfl)) c_ok).trans rfl)
  have w4 : (mT (mCall 2 M_is_row (mCons (mVar 0) (mCons (mU dLen (mVar 0)) mNil)))) [.sh (.lst ds)] = .ok false := t_ok ((call_ok (cons_ok (var_ok rfl) (cons_ok ((u_ok (var_ok rfl)).trans (show dLen (.lst ds) = .ok (.int ds.length) from rfl)) nil_ok)) rfl).trans h)
  exact seq_exc ((if_t ((or_f w3).trans (not_ok w4))).trans rfl)
theorem call_exc {n : Nat} {mir : List Dt → Md Dt} {mas : Fd → Md (List Dt)} {Δ : Fd} {ds : List Dt} {c : Str} (h : mas Δ = .ok ds) (hn : ds.length = n) (hm : mir ds = .exc c) : mCall n mir mas Δ = .exc c := (call_ok h hn).trans hm
/-- the first one is no row -/
theorem behind_no1 {a b : Dt} (h : M_size_of [a] = .exc "BadRow") : M_behind [a, b] = .exc "BadRow" := by
  unfold M_behind
  refine def_exc ?_
  have st : startD 4 [a, b] = [.sh a, .sh b, .un, .un] := rfl
  rw [st]
  unfold m_behind
  exact seq_exc (asg_exc (call_exc (cons_ok (var_ok rfl) nil_ok) rfl h))
/-- the second one is none of its size -/
theorem behind_no2 {a b : Dt} {n : Int} (h : M_size_of [a] = .ok (.int n)) (h2 : M_is_row [b, .int n] = .ok (.bl false)) : M_behind [a, b] = .exc "BadRow" := by
  unfold M_behind
  refine def_exc ?_
  have st : startD 4 [a, b] = [.sh a, .sh b, .un, .un] := rfl
  rw [st]
  unfold m_behind
  refine (seq_nx (asg_ok ((call_ok (cons_ok (var_ok rfl) nil_ok) rfl).trans h))).trans ?_
  have w4 : (mT (mCall 2 M_is_row (mCons (mVar 1) (mCons (mVar 2) mNil)))) [.sh a, .sh b, .sh (.int n), .un] = .ok false := t_ok ((call_ok (cons_ok (var_ok rfl) (cons_ok (var_ok rfl) nil_ok)) rfl).trans h2)
  exact seq_exc ((if_t (not_ok w4)).trans rfl)
theorem bin_exc2 {f : Dt → Dt → Md Dt} {ma mb : Fd → Md Dt} {Δ : Fd} {a : Dt} {c : Str} (h1 : ma Δ = .ok a) (h2 : mb Δ = .exc c) : mBin f ma mb Δ = .exc c := by
  unfold mBin
  rw [h1, bind_ok, h2]
  rfl
theorem asgO_exc {i : Nat} {ma : Fd → Md Dt} {Δ : Fd} {c : Str} (h : ma Δ = .exc c) : mAsgO i ma Δ = .exc c := by
  unfold mAsgO
  rw [h]
  rfl
theorem back_no {a : Dt} (h : M_size_of [a] = .exc "BadRow") : M_back [a] = .exc "BadRow" := by
  unfold M_back
  refine def_exc ?_
  have st : startD 4 [a] = [.sh a, .un, .un, .un] := rfl
  rw [st]
  unfold m_back
  exact seq_exc (asgO_exc (bin_exc2 (lst_ok (cons_ok c_ok nil_ok) (by decide)) (call_exc (cons_ok (var_ok rfl) nil_ok) rfl h)))
theorem drop_exc {ma : Fd → Md Dt} {Δ : Fd} {c : Str} (h : ma Δ = .exc c) : mDrop ma Δ = .exc c := by
  unfold mDrop
  rw [h]
  rfl
theorem try_exc {c : Str} {res : Dt} {mb : Fd → Md Out} {Δ : Fd} (h : mb Δ = .exc c) : mTry c res mb Δ = .ok (.rt res) := by
  unfold mTry
  rw [h]
  exact if_pos rfl
theorem refused_behind {a b : Dt} (h : M_behind [a, b] = .exc "BadRow") : M_law_refused [.int 0, a, b] = .ok (.bl true) := by
  unfold M_law_refused
  refine def_rt ?_
  unfold m_law_refused
  refine seq_rt (try_exc ?_)
  have w : ∀ s3, (mT (mBin dEq (mVar 0) (mC (.int 0)))) [.sh (.int 0), .sh a, .sh b, s3] = .ok true := fun s3 => t_ok ((bin_ok (var_ok rfl) c_ok).trans (dEq_int 0 0))
  exact (if_t (w _)).trans (drop_exc (call_exc (cons_ok (var_ok rfl) (cons_ok (var_ok rfl) nil_ok)) rfl h))
theorem refused_back {a b : Dt} (h : M_back [a] = .exc "BadRow") : M_law_refused [.int 1, a, b] = .ok (.bl true) := by
  unfold M_law_refused
  refine def_rt ?_
  unfold m_law_refused
  refine seq_rt (try_exc ?_)
  have w : ∀ s3, (mT (mBin dEq (mVar 0) (mC (.int 0)))) [.sh (.int 1), .sh a, .sh b, s3] = .ok false := fun s3 => t_ok ((bin_ok (var_ok rfl) c_ok).trans (dEq_int 1 0))
  exact (if_f (w _)).trans (drop_exc (call_exc (cons_ok (var_ok rfl) nil_ok) rfl h))
end K1
namespace K1
open PySem L2 Mr
def goodBody : Fd → Md Out := (mIfS (mOr (mNot (mT (mCall 1 M_law_whole (mCons (mVar 2) mNil)))) (mNot (mT (mChn dLe dLt (mC (.int 0)) (mVar 2) (mVar 1))))) (mRet (mC (.bl false))) mNext)
theorem chn_ok {f g : Dt → Dt → Md Dt} {ma mb mc : Fd → Md Dt} {Δ : Fd} {a b c : Dt} {q q2 : Bool} (h1 : ma Δ = .ok a) (h2 : mb Δ = .ok b) (h3 : mc Δ = .ok c) (e1 : f a b = .ok (.bl q)) (e2 : g b c = .ok (.bl q2)) : mChn f g ma mb mc Δ = .ok (.bl (q && q2)) := by
  unfold mChn
  rw [h1, bind_ok, h2, bind_ok, e1, bind_ok]
  cases q with
  | true => 
    show (if true = true then (mc Δ).bind fun u => g b u else .ok (.bl false)) = _
    rw [if_pos rfl, h3, bind_ok, e2]
    rfl
  | false => rfl
def inB (n : Nat) : Dt → Bool
  | .int i => decide (0 ≤ i) && decide (i < n)
  | _ => false
theorem good_turn {a d : Dt} {n : Nat} (hd : pl d = true) : goodBody [.sh a, .sh (.int n), .sh d] = if inB n d = true then .ok (.nx [.sh a, .sh (.int n), .sh d]) else .ok (.rt (.bl false)) := by
  have w1 : (mT (mCall 1 M_law_whole (mCons (mVar 2) mNil))) [.sh a, .sh (.int n), .sh d] = .ok (isI d) := t_ok ((call_ok (ds := [d]) (cons_ok (var_ok rfl) nil_ok) rfl).trans (law_whole_pl hd))
  unfold goodBody
  by_cases hi : isI d = true
  · obtain ⟨i, rfl⟩ : ∃ i, d = .int i := by
      cases d <;> first | exact ⟨_, rfl⟩ | cases hi
    have w2 : (mT (mChn dLe dLt (mC (.int 0)) (mVar 2) (mVar 1))) [.sh a, .sh (.int n), .sh (.int i)] = .ok (inB n (.int i)) := t_ok (chn_ok c_ok (var_ok rfl) (var_ok rfl) rfl rfl)
    rw [show isI (.int i) = true from rfl] at w1
    cases hb : inB n (.int i) with
    | true =>
      rw [hb] at w2
      rw [if_pos rfl]
      exact (if_f ((or_f (not_ok w1)).trans (not_ok w2))).trans rfl
    | false =>
      rw [hb] at w2
      rw [if_neg Bool.false_ne_true]
      exact (if_t ((or_f (not_ok w1)).trans (not_ok w2))).trans (ret_ok c_ok)
  · have hi : isI d = false := Bool.eq_false_iff.mpr hi
    have hb : inB n d = false := by
      cases d <;> first | rfl | cases hi
    rw [hi] at w1
    rw [hb, if_neg Bool.false_ne_true]
    exact (if_t (or_t (not_ok w1))).trans (ret_ok c_ok)
theorem good_go {a : Dt} {n : Nat} : ∀ (ds : List Dt) (s2 : Sd), (∀ d ∈ ds, pl d = true) → (ds.all (inB n) = true → ∃ s2', mForGo (gsName 2) goodBody ds [.sh a, .sh (.int n), s2] = .ok (.nx [.sh a, .sh (.int n), s2'])) ∧
    (ds.all (inB n) = false → mForGo (gsName 2) goodBody ds [.sh a, .sh (.int n), s2] = .ok (.rt (.bl false)))
  | [], s2, _ => ⟨fun _ => ⟨s2, rfl⟩, fun h => by cases h⟩
  | d :: r, s2, hp => by
    have hd := hp d List.mem_cons_self
    have ih := good_go (a := a) (n := n) r (.sh d) fun x hx => hp x (List.mem_cons_of_mem _ hx)
    have t := good_turn (a := a) (d := d) (n := n) hd
    cases hb : inB n d with
    | true =>
      rw [hb, if_pos rfl] at t
      have e := go_nx (ds := r) (Δ := [.sh a, .sh (.int n), s2]) (tg := gsName 2) (a := d) (Δ1 := [.sh a, .sh (.int n), .sh d]) rfl t
      refine ⟨fun h => ?_, fun h => ?_⟩
      · rw [List.all_cons, hb, Bool.true_and] at h
        obtain ⟨s', q⟩ := ih.1 h
        exact ⟨s', e.trans q⟩
      · rw [List.all_cons, hb, Bool.true_and] at h
        exact e.trans (ih.2 h)
    | false =>
      rw [hb, if_neg Bool.false_ne_true] at t
      refine ⟨fun h => ?_, fun _ => go_rt (Δ1 := [.sh a, .sh (.int n), .sh d]) rfl t⟩
      rw [List.all_cons, hb] at h
      cases h
theorem inB_ints {n : Nat} : ∀ {ds : List Dt}, ds.all (inB n) = true → ∃ xs, toInts ds = some xs ∧ ds = il xs ∧ ∀ x ∈ xs, 0 ≤ x ∧ x < n
  | [], _ => ⟨[], rfl, rfl, fun x h => by cases h⟩
  | d :: r, h => by
    rw [List.all_cons, Bool.and_eq_true] at h
    obtain ⟨xs, e1, e2, e3⟩ := inB_ints (ds := r) h.2
    cases d with
    | int i =>
      have hb : (decide (0 ≤ i) && decide (i < (n : Int))) = true := h.1
      rw [Bool.and_eq_true, decide_eq_true_eq, decide_eq_true_eq] at hb
      refine ⟨i :: xs, ?_, by rw [e2]; rfl, fun x hx => ?_⟩
      · show (toInts r).map (i :: ·) = _
        rw [e1]
        rfl
      · rcases List.mem_cons.mp hx with z | z
        · rw [z]; exact hb
        · exact e3 x z
    | _ => cases h.1
/-- the numbers that don't stand just once -/
theorem odd_go {D : Dt} {xs : List Int} {n : Nat} {s2 : Sd} (hD : D = .lst (il xs)) : ∀ ks : List Int, mLcGo (gsName 2) (mT (mBin dNe (mM isInts dCount (mVar 0) (mVar 2)) (mC (.int 1)))) (mVar 2) [.sh D, .sh (.int n), s2] (il ks) = .ok (il (ks.filter fun k => !decide (xs.count k = 1)))
  | [] => rfl
  | k :: r => by
    subst hD
    have ih := odd_go (D := .lst (il xs)) (n := n) (s2 := s2) rfl r
    have cn : (mM isInts dCount (mVar 0) (mVar 2)) [.sh (.lst (il xs)), .sh (.int n), .sh (.int k)] = .ok (.int (xs.count k : Nat)) := by
      unfold mM
      rw [var_ok (d := .lst (il xs)) rfl, bind_ok]
      have hi : isInts (.lst (il xs)) = true := by
        unfold isInts
        simp only [toInts_il, Option.isSome_some]
      rw [if_pos hi, var_ok (d := .int k) rfl, bind_ok]
      unfold dCount
      simp only [toInts_il]
    have t : (mT (mBin dNe (mM isInts dCount (mVar 0) (mVar 2)) (mC (.int 1)))) [.sh (.lst (il xs)), .sh (.int n), .sh (.int k)] = .ok (!decide (xs.count k = 1)) := t_ok ((bin_ok cn c_ok).trans ((dNe_int2 _ _).trans (by
      congr 3
      by_cases h : xs.count k = 1
      · rw [h]; rfl
      · rw [decide_eq_false h, decide_eq_false (by omega)])))
    show (((mT (mBin dNe (mM isInts dCount (mVar 0) (mVar 2)) (mC (.int 1)))) [.sh (.lst (il xs)), .sh (.int n), .sh (.int k)]).bind fun b => if b = true then ((mVar 2) [.sh (.lst (il xs)), .sh (.int n), .sh (.int k)]).bind fun d => (mLcGo (gsName 2) (mT (mBin dNe (mM isInts dCount (mVar 0) (mVar 2)) (mC (.int 1)))) (mVar 2) [.sh (.lst (il xs)), .sh (.int n), s2] (il r)).bind fun ds => .ok (d :: ds) else mLcGo (gsName 2) (mT (mBin dNe (mM isInts dCount (mVar 0) (mVar 2)) (mC (.int 1)))) (mVar 2) [.sh (.lst (il xs)), .sh (.int n), s2] (il r)) = _
    rw [t, bind_ok, ih]
    cases hc : (!decide (xs.count k = 1)) with
    | true =>
      rw [if_pos rfl, List.filter_cons, hc, if_pos rfl]
      rfl
    | false =>
      rw [if_neg Bool.false_ne_true, List.filter_cons, hc, if_neg Bool.false_ne_true]
end K1
namespace K1
open PySem L2 Mr
theorem count_nums {n : Nat} (a : Int) : (nums 0 n).count a = if a ∈ nums 0 n then 1 else 0 := by
  by_cases h : a ∈ nums 0 n
  · rw [if_pos h]
    have h1 := List.nodup_iff_count.mp (nums_nd n 0) a
    have h2 := List.count_pos_iff.mpr h
    omega
  · rw [if_neg h]
    exact List.count_eq_zero.mpr h
theorem perm_counts {xs : List Int} {n : Nat} (hb : ∀ x ∈ xs, 0 ≤ x ∧ x < n) : xs.Perm (nums 0 n) ↔ ∀ k ∈ nums 0 n, xs.count k = 1 := by
  constructor
  · intro h k hk
    rw [h.count_eq, count_nums, if_pos hk]
  · intro h
    refine List.perm_iff_count.mpr fun a => ?_
    rw [count_nums]
    by_cases ha : a ∈ nums 0 n
    · rw [if_pos ha]
      exact h a ha
    · rw [if_neg ha]
      refine List.count_eq_zero.mpr fun hx => ha (mem_nums.mpr ?_)
      have := hb a hx
      omega
theorem law_good_pl {ds : List Dt} {n : Nat} (hp : ∀ d ∈ ds, pl d = true) (hn : n ≤ 1000) : M_law_good [.lst ds, .int n] = .ok (.bl (rowB ds n)) := by
  unfold M_law_good
  refine def_rt ?_
  have st : startD 3 [.lst ds, .int (n : Int)] = [.sh (.lst ds), .sh (.int n), .un] := rfl
  rw [st]
  unfold m_law_good
  have w1 : (mT (mCB dIsi (mCons (mVar 0) (mCons (mC (.ty "list")) mNil)))) [.sh (.lst ds), .sh (.int n), .un] = .ok true := rfl
  have w2 : (mT (mBin dNe (mU dLen (mVar 0)) (mVar 1))) [.sh (.lst ds), .sh (.int n), .un] = .ok (!decide ((ds.length : Int) = n)) := t_ok ((bin_ok ((u_ok (var_ok rfl)).trans (show dLen (.lst ds) = .ok (.int ds.length) from rfl)) (var_ok rfl)).trans (dNe_int2 _ _))
  by_cases hl : ds.length = n
  · rw [decide_eq_true (show (ds.length : Int) = n by omega)] at w2
    refine (seq_nx ((if_f ((or_f (not_ok w1)).trans w2)).trans rfl)).trans ?_
    obtain ⟨g1, g2⟩ := good_go (a := .lst ds) (n := n) ds .un hp
    cases hb : ds.all (inB n) with
    | false =>
      have no : rowB ds n = false := by
        unfold rowB
        cases ti : toInts ds with
        | none => rfl
        | some xs =>
          have e := toInts_some ti
          subst e
          show (decide ((il xs).length = n) && decide (sortI xs = nums 0 n)) = false
          rw [Bool.and_eq_false_iff]
          right
          refine decide_eq_false fun z => ?_
          have hpm := sortI_nums.mp z
          have : (il xs).all (inB n) = true := List.all_eq_true.mpr fun d hd => by
            obtain ⟨x, hx, rfl⟩ := List.mem_map.mp hd
            have := mem_nums.mp (hpm.mem_iff.mp hx)
            show (decide (0 ≤ x) && decide (x < (n : Int))) = true
            rw [decide_eq_true (by omega), decide_eq_true (by omega)]
            rfl
          rw [hb] at this
          cases this
      rw [no]
      refine seq_rt ((for_ok (ds := ds) rfl).trans ?_)
      exact g2 hb
    | true =>
      obtain ⟨s2, e⟩ := g1 hb
      obtain ⟨xs, ti, rfl, hr⟩ := inB_ints hb
      refine (seq_nx (Δ' := [.sh (.lst (il xs)), .sh (.int n), s2]) ((for_ok (ds := il xs) rfl).trans e)).trans (ret_ok ?_)
      have lc : (mLc (mIt1 (mCons (mVar 1) mNil)) (gsName 2) (mT (mBin dNe (mM isInts dCount (mVar 0) (mVar 2)) (mC (.int 1)))) (mVar 2) [2]) [.sh (.lst (il xs)), .sh (.int n), s2] = .ok (.lst (il ((nums 0 n).filter fun k => !decide (xs.count k = 1)))) :=
        lc_ok (it1_ok hn (cons_ok (var_ok rfl) nil_ok)) (by rw [il_len, nums_len]; omega) (odd_go rfl (nums 0 n))
      have q : decide (((nums 0 n).filter fun k => !decide (xs.count k = 1)) = []) = rowB (il xs) n := by
        unfold rowB
        rw [ti]
        simp only [hl, decide_true, Bool.true_and]
        refine decide_eq_decide.mpr ?_
        rw [sortI_nums, perm_counts hr, List.filter_eq_nil_iff]
        refine forall_congr' fun k => forall_congr' fun hk => ?_
        simp
      have e2 : dEq (.lst (il ((nums 0 n).filter fun k => !decide (xs.count k = 1)))) (.lst []) = .ok (.bl (rowB (il xs) n)) := by
        rw [← q]
        exact dEq_il _ []
      exact (bin_ok lc (lst_ok nil_ok (Nat.zero_le _))).trans e2
  · rw [decide_eq_false (show ¬ (ds.length : Int) = n by omega)] at w2
    have no : rowB ds n = false := by
      unfold rowB
      cases ti : toInts ds with
      | none => rfl
      | some xs =>
        show (decide (ds.length = n) && _) = false
        rw [decide_eq_false hl]
        rfl
    rw [no]
    exact seq_rt ((if_t ((or_f (not_ok w1)).trans w2)).trans (ret_ok c_ok))
theorem law_good_nl {d : Dt} {n : Nat} (hd : d ∈ ([.tup [], .non, .int 7, .str "0", .dic] : List Dt) ∨ ∃ xs, d = .tup (il xs)) : M_law_good [d, .int n] = .ok (.bl false) := by
  rcases hd with hd | ⟨xs, rfl⟩
  · simp only [List.mem_cons, List.not_mem_nil, or_false] at hd
    rcases hd with rfl | rfl | rfl | rfl | rfl <;> rfl
  · rfl
end K1
namespace K1
open PySem L2 Mr
def okD (d : Dt) : Bool := pl d && qok d
structure OkL (n : Nat) (ds : List Dt) : Prop where
  all : ∀ d ∈ ds, okD d = true
  len : ds.length ≤ n
theorem OkL.pl {n : Nat} {ds : List Dt} (h : OkL n ds) : ∀ d ∈ ds, K1.pl d = true := fun d hd => (Bool.and_eq_true_iff.mp (h.all d hd)).1
theorem go_of : ∀ {ds : List Dt}, (∀ d ∈ ds, okD d = true) → qok.go ds = true
  | [], _ => by simp [qok.go]
  | d :: r, h => by
    rw [qok.go, (Bool.and_eq_true_iff.mp (h d List.mem_cons_self)).2, go_of fun x hx => h x (List.mem_cons_of_mem _ hx)]
    rfl
theorem OkL.qok {n : Nat} {ds : List Dt} (h : OkL n ds) : qok.go ds = true := go_of h.all
theorem okL_il (xs : List Int) : OkL xs.length (il xs) := ⟨fun d hd => by
  obtain ⟨x, _, rfl⟩ := List.mem_map.mp hd
  rfl, Nat.le_of_eq (il_len xs)⟩
theorem OkL.cut {n : Nat} {ds : List Dt} (h : OkL n ds) (lo hi : Option Int) : OkL n (cutD ds lo hi) := by
  unfold cutD
  refine ⟨fun d hd => h.all d (List.mem_of_mem_drop (List.mem_of_mem_take hd)), ?_⟩
  rw [List.length_take, List.length_drop]
  have := h.len
  omega
theorem OkL.app {n m : Nat} {ds es : List Dt} (h : OkL n ds) (k : OkL m es) : OkL (n + m) (ds ++ es) := ⟨fun d hd => (List.mem_append.mp hd).elim (h.all d) (k.all d), by
  have := h.len
  have := k.len
  rw [List.length_append]
  omega⟩
theorem OkL.one {d : Dt} (h : okD d = true) : OkL 1 [d] := ⟨fun x hx => by
  have : x = d := by simpa using hx
  rw [this]
  exact h, Nat.le_refl 1⟩
/-- an expression that answers a list of such things -/
def GivesL (n : Nat) (m : Fd → Md Dt) (Δ : Fd) : Prop := ∃ ds, m Δ = .ok (.lst ds) ∧ OkL n ds
theorem gives_cat {n m : Nat} {ma mb : Fd → Md Dt} {Δ : Fd} (h : GivesL n ma Δ) (k : GivesL m mb Δ) (hs : n + m ≤ 16777216) : GivesL (n + m) (mBin dCat ma mb) Δ := by
  obtain ⟨ds, e1, o1⟩ := h
  obtain ⟨es, e2, o2⟩ := k
  refine ⟨ds ++ es, (bin_ok e1 e2).trans ?_, o1.app o2⟩
  have := o1.len
  have := o2.len
  unfold dCat
  exact if_pos (by omega)
theorem gives_lo {n : Nat} {ma mi : Fd → Md Dt} {Δ : Fd} {i : Int} (h : GivesL n ma Δ) (k : mi Δ = .ok (.int i)) : GivesL n (mSl ma mNoO (mSoO mi)) Δ := by
  obtain ⟨ds, e1, o1⟩ := h
  refine ⟨cutD ds none (some i), ?_, o1.cut ..⟩
  unfold mSl mNoO mSoO
  rw [e1, bind_ok, bind_ok, k]
  rfl
theorem gives_hi {n : Nat} {ma mi : Fd → Md Dt} {Δ : Fd} {i : Int} (h : GivesL n ma Δ) (k : mi Δ = .ok (.int i)) : GivesL n (mSl ma (mSoO mi) mNoO) Δ := by
  obtain ⟨ds, e1, o1⟩ := h
  refine ⟨cutD ds (some i) none, ?_, o1.cut ..⟩
  unfold mSl mNoO mSoO
  rw [e1, bind_ok, k]
  rfl
theorem gives_one {ma : Fd → Md Dt} {Δ : Fd} {d : Dt} (h : ma Δ = .ok d) (ho : okD d = true) : GivesL 1 (mLst (mCons ma mNil)) Δ := ⟨[d], lst_ok (cons_ok h nil_ok) (by show 1 ≤ 16777216; decide), .one ho⟩
end K1
namespace K1
open PySem L2 Mr
theorem mod_ok {i j : Int} (h : 0 < j) : dIC posOk (fun i j => .int (i % j)) (.int i) (.int j) = .ok (.int (i % j)) := dIC_ok (show posOk i j = true from decide_eq_true h)
theorem div_ok {i j : Int} (h : 0 < j) (h2 : j < 1073741824) : dIC divOk (fun i j => .int (i / j)) (.int i) (.int j) = .ok (.int (i / j)) := dIC_ok (by
  unfold divOk
  rw [decide_eq_true h, decide_eq_true h2]
  rfl)
theorem ix_in {ds : List Dt} {x : Int} (h0 : 0 ≤ x) (h1 : x < ds.length) : ∃ d, dIx (.lst ds) (.int x) = .ok d ∧ d ∈ ds := by
  obtain ⟨j, rfl⟩ := Int.eq_ofNat_of_zero_le h0
  have hj : j < ds.length := by omega
  refine ⟨ds[j], ?_, List.getElem_mem hj⟩
  show (match atI ds (j : Int) with | some d => Md.ok d | none => Md.bad) = _
  rw [atI_nat (List.getElem?_eq_getElem hj)]
/-- what the law's thing may be -/
def Thing (d : Dt) : Prop := (∃ ds, d = .lst ds ∧ OkL 100 ds) ∨ (nl d = true ∧ qok d = true ∧ ∀ n : Nat, M_law_good [d, .int n] = .ok (.bl false))
theorem thing_of {n : Nat} {m : Fd → Md Dt} {Δ : Fd} (h : GivesL n m Δ) (hn : n ≤ 100) : ∃ d, mRet m Δ = .ok (.rt d) ∧ Thing d := by
  obtain ⟨ds, e, o⟩ := h
  exact ⟨.lst ds, ret_ok e, .inl ⟨ds, rfl, o.all, Nat.le_trans o.len hn⟩⟩
theorem eq_way {Δ : Fd} {w k : Int} (h : Δ[3]? = some (.sh (.int w))) : (mT (mBin dEq (mVar 3) (mC (.int k)))) Δ = .ok (w == k) := t_ok ((bin_ok (var_ok h) c_ok).trans (dEq_int w k))
theorem thing_is {one : List Int} {n : Nat} {cell : Int} (h1 : 1 ≤ n) (hn : n ≤ 13) (ho : one.Perm (nums 0 n)) : ∃ d, M_law_thing [.lst (il one), .int cell] = .ok d ∧ Thing d := by
  have hl : one.length = n := ho.length_eq.trans (nums_len ..)
  suffices hS : ∃ d, m_law_thing [.sh (.lst (il one)), .sh (.int cell), .un, .un, .un, .un, .un] = .ok (.rt d) ∧ Thing d by
    obtain ⟨d, e, t⟩ := hS
    exact ⟨d, def_rt e, t⟩
  have pn : (0 : Int) < n := by omega
  have e1 : (mAsg 2 (mBin (dIC posOk fun i j => .int (i % j)) (mBin (dIC divOk fun i j => .int (i / j)) (mVar 1) (mC (.int 9))) (mU dLen (mVar 0)))) [.sh (.lst (il one)), .sh (.int cell), .un, .un, .un, .un, .un] = .ok (.nx [.sh (.lst (il one)), .sh (.int cell), .sh (.int (cell / 9 % n)), .un, .un, .un, .un]) :=
    asg_ok ((bin_ok ((bin_ok (var_ok rfl) c_ok).trans (div_ok (by decide) (by decide))) ((u_ok (var_ok rfl)).trans (len_il one hl))).trans (mod_ok pn))
  have a0 := Int.emod_nonneg (cell / 9) (show (n : Int) ≠ 0 by omega)
  have a1 := Int.emod_lt_of_pos (cell / 9) pn
  generalize cell / 9 % (n : Int) = a at e1 a0 a1
  have e2 : (mAsg 3 (mBin (dIC posOk fun i j => .int (i % j)) (mVar 1) (mC (.int 9)))) [.sh (.lst (il one)), .sh (.int cell), .sh (.int a), .un, .un, .un, .un] = .ok (.nx [.sh (.lst (il one)), .sh (.int cell), .sh (.int a), .sh (.int (cell % 9)), .un, .un, .un]) :=
    asg_ok ((bin_ok (var_ok rfl) c_ok).trans (mod_ok (by decide)))
  generalize cell % 9 = w at e2
  have gv : ∀ {s4 s5 s6 : Sd}, GivesL n (mVar 0) [.sh (.lst (il one)), .sh (.int cell), .sh (.int a), .sh (.int w), s4, s5, s6] := fun {s4 s5 s6} => ⟨il one, var_ok rfl, hl ▸ okL_il one⟩
  have pl1 : ∀ {Δ : Fd} {m : Fd → Md Dt} {i : Int}, m Δ = .ok (.int i) → (mBin (dI fun i j => .int (i + j)) m (mC (.int 1))) Δ = .ok (.int (i + 1)) := fun {Δ m i} h => (bin_ok h c_ok).trans rfl
  have lenE : ∀ {s4 s5 s6 : Sd}, (mU dLen (mVar 0)) [.sh (.lst (il one)), .sh (.int cell), .sh (.int a), .sh (.int w), s4, s5, s6] = .ok (.int n) := fun {s4 s5 s6} => (u_ok (var_ok rfl)).trans (len_il one hl)
  have vA : ∀ {s4 s5 s6 : Sd}, (mVar 2) [.sh (.lst (il one)), .sh (.int cell), .sh (.int a), .sh (.int w), s4, s5, s6] = .ok (.int a) := fun {s4 s5 s6} => var_ok rfl
  have vC : ∀ {s4 s5 s6 : Sd}, (mVar 1) [.sh (.lst (il one)), .sh (.int cell), .sh (.int a), .sh (.int w), s4, s5, s6] = .ok (.int cell) := fun {s4 s5 s6} => var_ok rfl
  have vO : ∀ {s4 s5 s6 : Sd}, (mVar 0) [.sh (.lst (il one)), .sh (.int cell), .sh (.int a), .sh (.int w), s4, s5, s6] = .ok (.lst (il one)) := fun {s4 s5 s6} => var_ok rfl
  have way : ∀ {s4 s5 s6 : Sd} (k : Int), (mT (mBin dEq (mVar 3) (mC (.int k)))) [.sh (.lst (il one)), .sh (.int cell), .sh (.int a), .sh (.int w), s4, s5, s6] = .ok (w == k) := fun {s4 s5 s6} k => eq_way rfl
  have yes : ∀ {s4 s5 s6 : Sd} {k : Int}, w = k → (mT (mBin dEq (mVar 3) (mC (.int k)))) [.sh (.lst (il one)), .sh (.int cell), .sh (.int a), .sh (.int w), s4, s5, s6] = .ok true := fun {s4 s5 s6 k} h => by
    rw [way k, h]
    simp
  have no : ∀ {s4 s5 s6 : Sd} {k : Int}, w ≠ k → (mT (mBin dEq (mVar 3) (mC (.int k)))) [.sh (.lst (il one)), .sh (.int cell), .sh (.int a), .sh (.int w), s4, s5, s6] = .ok false := fun {s4 s5 s6 k} h => by
    rw [way k]
    simp [h]
  unfold m_law_thing
  rw [seq_nx e1, seq_nx e2]
  by_cases w1 : w = 1
  · obtain ⟨x, ex, mx⟩ := ix_in (ds := il one) (x := (a + 1) % n) (Int.emod_nonneg _ (by omega)) (by rw [il_len, hl]; exact Int.emod_lt_of_pos _ pn)
    have hx : okD x = true := (okL_il one).all x mx
    have e4 : (mAsg 4 (mBin dIx (mVar 0) (mBin (dIC posOk fun i j => .int (i % j)) (mBin (dI fun i j => .int (i + j)) (mVar 2) (mC (.int 1))) (mU dLen (mVar 0))))) [.sh (.lst (il one)), .sh (.int cell), .sh (.int a), .sh (.int w), .un, .un, .un] = .ok (.nx [.sh (.lst (il one)), .sh (.int cell), .sh (.int a), .sh (.int w), .sh x, .un, .un]) :=
      asg_ok ((bin_ok vO ((bin_ok (pl1 vA) lenE).trans (mod_ok pn))).trans ex)
    have v4 : (mVar 4) [.sh (.lst (il one)), .sh (.int cell), .sh (.int a), .sh (.int w), .sh x, .un, .un] = .ok x := var_ok rfl
    obtain ⟨d, e, t⟩ := thing_of (gives_cat (gives_cat (gives_lo gv vA) (gives_one v4 hx) (by omega)) (gives_hi gv (pl1 vA)) (by omega)) (by omega)
    exact ⟨d, seq_rt ((if_t (yes w1)).trans ((seq_nx e4).trans e)), t⟩
  rw [seq_nx ((if_f (no w1)).trans rfl)]
  by_cases w2 : w = 2
  · obtain ⟨d, e, t⟩ := thing_of (gives_cat (gives_lo (gv (s4 := .un) (s5 := .un) (s6 := .un)) vA) (gives_hi gv (pl1 vA)) (by omega)) (by omega)
    exact ⟨d, seq_rt ((if_t (yes w2)).trans e), t⟩
  rw [seq_nx ((if_f (no w2)).trans rfl)]
  by_cases w3 : w = 3
  · have e5 : (mAsg 5 (mLst (mCons (mNeg (mC (.int 1))) (mCons (mU dLen (mVar 0)) (mCons (mC (.bl true)) (mCons (mC (.bl false)) (mCons (mC (.str ("0" : Str))) (mCons (mC .non) (mCons (mBin (dI fun i j => .int (i + j)) (mU dLen (mVar 0)) (mBin (dIC powOk fun i j => .int (i ^ j.toNat)) (mC (.int 10)) (mC (.int 9)))) (mCons (mLst (mCons (mC (.int 0)) mNil)) (mCons (mLst mNil) mNil))))))))))) [.sh (.lst (il one)), .sh (.int cell), .sh (.int a), .sh (.int w), .un, .un, .un] =
        .ok (.nx [.sh (.lst (il one)), .sh (.int cell), .sh (.int a), .sh (.int w), .un, .sh (.lst [.int (-1), .int n, .bl true, .bl false, .str "0", .non, .int (n + 10 ^ 9), .lst [.int 0], .lst []]), .un]) :=
      asg_ok (lst_ok (cons_ok rfl (cons_ok lenE (cons_ok c_ok (cons_ok c_ok (cons_ok c_ok (cons_ok c_ok (cons_ok ((bin_ok lenE ((bin_ok c_ok c_ok).trans (dIC_ok (show powOk 10 9 = true by decide)))).trans rfl) (cons_ok (lst_ok (cons_ok c_ok nil_ok) (by show 1 ≤ 16777216; decide)) (cons_ok (lst_ok nil_ok (by show 0 ≤ 16777216; decide)) nil_ok))))))))) (by show 9 ≤ 16777216; decide))
    obtain ⟨x, ex, mx⟩ := ix_in (ds := [.int (-1), .int n, .bl true, .bl false, .str "0", .non, .int (n + 10 ^ 9), .lst [.int 0], .lst []]) (x := cell / 108 % 9) (Int.emod_nonneg _ (by decide)) (Int.emod_lt_of_pos _ (by decide))
    have hx : okD x = true := by
      simp only [List.mem_cons, List.not_mem_nil, or_false] at mx
      rcases mx with rfl | rfl | rfl | rfl | rfl | rfl | rfl | rfl | rfl <;> rfl
    have v5 : (mBin dIx (mVar 5) (mBin (dIC posOk fun i j => .int (i % j)) (mBin (dIC divOk fun i j => .int (i / j)) (mVar 1) (mC (.int 108))) (mC (.int 9)))) [.sh (.lst (il one)), .sh (.int cell), .sh (.int a), .sh (.int w), .un, .sh (.lst [.int (-1), .int n, .bl true, .bl false, .str "0", .non, .int (n + 10 ^ 9), .lst [.int 0], .lst []]), .un] = .ok x :=
      (bin_ok (var_ok rfl) ((bin_ok ((bin_ok vC c_ok).trans (div_ok (by decide) (by decide))) c_ok).trans (mod_ok (by decide)))).trans ex
    obtain ⟨d, e, t⟩ := thing_of (gives_cat (gives_cat (gives_lo gv vA) (gives_one v5 hx) (by omega)) (gives_hi gv (pl1 vA)) (by omega)) (by omega)
    exact ⟨d, seq_rt ((if_t (yes w3)).trans ((seq_nx e5).trans e)), t⟩
  rw [seq_nx ((if_f (no w3)).trans rfl)]
  by_cases w4 : w = 4
  · obtain ⟨x, ex, mx⟩ := ix_in (ds := [.tup (il one), .non, .int 7, .str "0", .dic]) (x := cell / 9 % 5) (Int.emod_nonneg _ (by decide)) (Int.emod_lt_of_pos _ (by decide))
    have v : (mBin dIx (mLst (mCons (mU dTuple (mVar 0)) (mCons (mC .non) (mCons (mC (.int 7)) (mCons (mC (.str ("0" : Str))) (mCons (mC .dic) mNil)))))) (mBin (dIC posOk fun i j => .int (i % j)) (mBin (dIC divOk fun i j => .int (i / j)) (mVar 1) (mC (.int 9))) (mC (.int 5)))) [.sh (.lst (il one)), .sh (.int cell), .sh (.int a), .sh (.int w), .un, .un, .un] = .ok x :=
      (bin_ok (lst_ok (cons_ok ((u_ok vO).trans (show dTuple (.lst (il one)) = .ok (.tup (il one)) from rfl)) (cons_ok c_ok (cons_ok c_ok (cons_ok c_ok (cons_ok c_ok nil_ok))))) (by show 5 ≤ 16777216; decide)) ((bin_ok ((bin_ok vC c_ok).trans (div_ok (by decide) (by decide))) c_ok).trans (mod_ok (by decide)))).trans ex
    refine ⟨x, seq_rt ((if_t (yes w4)).trans (ret_ok v)), .inr ?_⟩
    simp only [List.mem_cons, List.not_mem_nil, or_false] at mx
    rcases mx with rfl | rfl | rfl | rfl | rfl
    · exact ⟨rfl, (show qok.go (il one) = true from qok_il one), fun m => rfl⟩
    · exact ⟨rfl, rfl, fun m => rfl⟩
    · exact ⟨rfl, rfl, fun m => rfl⟩
    · exact ⟨rfl, rfl, fun m => rfl⟩
    · exact ⟨rfl, rfl, fun m => rfl⟩
  rw [seq_nx ((if_f (no w4)).trans rfl)]
  by_cases w5 : w = 5
  · have q0 := Int.emod_nonneg (cell / 9) (show (2 : Int) ≠ 0 by decide)
    have q1 := Int.emod_lt_of_pos (cell / 9) (show (0 : Int) < 2 by decide)
    have mn : (mCB dMin (mCons (mBin (dIC posOk fun i j => .int (i % j)) (mBin (dIC divOk fun i j => .int (i / j)) (mVar 1) (mC (.int 9))) (mC (.int 2))) (mCons (mBin (dI fun i j => .int (i - j)) (mU dLen (mVar 0)) (mC (.int 1))) mNil))) [.sh (.lst (il one)), .sh (.int cell), .sh (.int a), .sh (.int w), .un, .un, .un] = .ok (.int (if (n : Int) - 1 < cell / 9 % 2 then (n : Int) - 1 else cell / 9 % 2)) := by
      unfold mCB
      rw [cons_ok ((bin_ok ((bin_ok vC c_ok).trans (div_ok (by decide) (by decide))) c_ok).trans (mod_ok (by decide))) (cons_ok ((bin_ok lenE c_ok).trans rfl) nil_ok)]
      rfl
    generalize hm : (if (n : Int) - 1 < cell / 9 % 2 then (n : Int) - 1 else cell / 9 % 2) = m at mn
    have m0 : 0 ≤ m ∧ m < n := by
      split at hm <;> omega
    have mem : m ∈ one := ho.mem_iff.mpr (mem_nums.mpr (by omega))
    have lt : one.idxOf m < one.length := List.idxOf_lt_length_of_mem mem
    have e6 : (mAsg 6 (mM isInts dIndex (mVar 0) (mCB dMin (mCons (mBin (dIC posOk fun i j => .int (i % j)) (mBin (dIC divOk fun i j => .int (i / j)) (mVar 1) (mC (.int 9))) (mC (.int 2))) (mCons (mBin (dI fun i j => .int (i - j)) (mU dLen (mVar 0)) (mC (.int 1))) mNil))))) [.sh (.lst (il one)), .sh (.int cell), .sh (.int a), .sh (.int w), .un, .un, .un] = .ok (.nx [.sh (.lst (il one)), .sh (.int cell), .sh (.int a), .sh (.int w), .un, .un, .sh (.int (one.idxOf m : Nat))]) := by
      refine asg_ok ?_
      unfold mM
      have hi : isInts (.lst (il one)) = true := by
        unfold isInts
        simp only [toInts_il, Option.isSome_some]
      rw [vO, bind_ok, if_pos hi, mn, bind_ok]
      unfold dIndex
      simp only [toInts_il, if_pos lt]
    have v6 : (mVar 6) [.sh (.lst (il one)), .sh (.int cell), .sh (.int a), .sh (.int w), .un, .un, .sh (.int (one.idxOf m : Nat))] = .ok (.int (one.idxOf m : Nat)) := var_ok rfl
    have v7 : (mBin dEq (mBin dIx (mVar 0) (mVar 6)) (mC (.int 1))) [.sh (.lst (il one)), .sh (.int cell), .sh (.int a), .sh (.int w), .un, .un, .sh (.int (one.idxOf m : Nat))] = .ok (.bl (one.getD (one.idxOf m) 0 == 1)) :=
      (bin_ok ((bin_ok vO v6).trans (at_il (by omega) (by omega))) c_ok).trans (dEq_int _ _)
    obtain ⟨d, e, t⟩ := thing_of (gives_cat (gives_cat (gives_lo gv v6) (gives_one v7 rfl) (by omega)) (gives_hi gv (pl1 v6)) (by omega)) (by omega)
    exact ⟨d, seq_rt ((if_t (yes w5)).trans ((seq_nx e6).trans e)), t⟩
  rw [seq_nx ((if_f (no w5)).trans rfl)]
  exact ⟨.lst (il one), ret_ok ((u_ok vO).trans rfl), .inl ⟨_, rfl, (okL_il one).all, by rw [il_len]; omega⟩⟩
end K1
namespace K1
open PySem L2 Mr
theorem bits_abs {z : Int} (h : Builtin.Int.intBits z ≤ 1048576) : z.natAbs < 2 ^ 1048576 := by
  unfold Builtin.Int.intBits at h
  by_cases q : z = 0
  · subst q
    exact Nat.pow_pos (by decide)
  · rw [if_neg (by simpa using q)] at h
    exact (Nat.log2_lt (by omega)).mp (by omega)
theorem getD_abs {ns : List Int} (hb : ∀ z ∈ ns, Builtin.Int.intBits z ≤ 1048576) (k : Nat) : (ns.getD k 0).natAbs < 2 ^ 1048576 := by
  by_cases h : k < ns.length
  · have e : ns.getD k 0 = ns[k] := by simp [List.getD, List.getElem?_eq_getElem h]
    rw [e]
    exact bits_abs (hb _ (List.getElem_mem h))
  · have e : ns.getD k 0 = 0 := by simp [List.getD, List.getElem?_eq_none (Nat.le_of_not_lt h)]
    rw [e]
    exact Nat.pow_pos (by decide)
theorem told_ok {i j : Nat} {mn : Fd → Md (List (List Dt))} {mc : Fd → Md Out} {Δ Δ' : Fd} {dss : List (List Dt)} (h1 : i < Δ.length) (h2 : j < Δ.length) (hij : i ≠ j) (hn : mn Δ = .ok dss) (hl : dss.length ≤ 1000) (ha : ∀ ds ∈ dss, ds.length ≤ 1000) (hc : mc (Δ.set i (.sh (.lst (dss.map Dt.lst)))) = .ok (.nx Δ')) :
    mTold i j mn mc Δ = .ok (.nx ((Δ.set i .un).set j .un)) := by
  unfold mTold
  rw [if_pos ⟨h1, h2, hij⟩, hn, bind_ok, if_pos ⟨by omega, List.all_eq_true.mpr fun ds hd => decide_eq_true (by have := ha ds hd; omega)⟩, hc]
  rfl
theorem ncons_ok {ma : Fd → Md Dt} {mr : Fd → Md (List (List Dt))} {Δ : Fd} {ds : List Dt} {r : List (List Dt)} (h1 : ma Δ = .ok (.lst ds)) (h2 : mr Δ = .ok r) : mNCons ma mr Δ = .ok (ds :: r) := by
  unfold mNCons
  rw [h1, bind_ok]
  show ((mr Δ).bind fun r => Md.ok (ds :: r)) = _
  rw [h2]
  rfl
theorem seqC_nx {a b : Fd → Md Out} {Δ Δ' : Fd} (h : a Δ = .ok (.nx Δ')) : mSeqC a b Δ = b Δ := by
  unfold mSeqC
  rw [h]
  rfl
theorem idx_il {one : List Int} {p : Int} (h : p ∈ one) {Δ : Fd} {ma mb : Fd → Md Dt} (h1 : ma Δ = .ok (.lst (il one))) (h2 : mb Δ = .ok (.int p)) : (mM isInts dIndex ma mb) Δ = .ok (.int (one.idxOf p : Nat)) := by
  have hi : isInts (.lst (il one)) = true := by
    unfold isInts
    simp only [toInts_il, Option.isSome_some]
  unfold mM
  rw [h1, bind_ok, if_pos hi, h2, bind_ok]
  unfold dIndex
  simp only [toInts_il, if_pos (List.idxOf_lt_length_of_mem h)]
/-- what undoes a row, by its places -/
theorem back_idx {one zs : List Int} {n : Nat} (ho : one.Perm (nums 0 n)) (hl : zs.length = n) (h : ∀ (j : Nat) (x : Int), one[j]? = some x → zs[x.toNat]? = some (j : Int)) : zs = (nums 0 n).map fun p => ((one.idxOf p : Nat) : Int) := by
  refine List.ext_getElem? fun k => ?_
  by_cases hk : k < n
  · rw [List.getElem?_map, nums_get n 0 k hk]
    have mem : (0 + (k : Int)) ∈ one := ho.mem_iff.mpr (mem_nums.mpr (by omega))
    have lt := List.idxOf_lt_length_of_mem mem
    have q := h (one.idxOf (0 + (k : Int))) (0 + (k : Int)) (by rw [List.getElem?_eq_getElem lt, List.getElem_idxOf])
    rw [show (0 + (k : Int)).toNat = k by omega] at q
    rw [q]
    rfl
  · rw [List.getElem?_eq_none (by omega), List.getElem?_eq_none (by rw [List.length_map, nums_len]; omega)]
theorem idx_perm {one : List Int} {n : Nat} (ho : one.Perm (nums 0 n)) : ((nums 0 n).map fun p => ((one.idxOf p : Nat) : Int)).Perm (nums 0 n) := by
  have hl : one.length = n := ho.length_eq.trans (nums_len ..)
  have hb : ∀ x ∈ (nums 0 n).map (fun p => ((one.idxOf p : Nat) : Int)), 0 ≤ x ∧ x < n := fun x hx => by
    obtain ⟨p, hp, rfl⟩ := List.mem_map.mp hx
    have := List.idxOf_lt_length_of_mem (ho.mem_iff.mpr hp)
    omega
  have nd : ((nums 0 n).map fun p => ((one.idxOf p : Nat) : Int)).Nodup := by
    refine List.Pairwise.map _ (R := fun a b => a ∈ nums 0 n ∧ b ∈ nums 0 n ∧ a ≠ b) (fun a b ⟨ha, hb, hab⟩ z => ?_) ?_
    · have la := List.idxOf_lt_length_of_mem (ho.mem_iff.mpr ha)
      have lb := List.idxOf_lt_length_of_mem (ho.mem_iff.mpr hb)
      have e1 : one[one.idxOf a] = a := List.getElem_idxOf la
      have e2 : one[one.idxOf b] = b := List.getElem_idxOf lb
      have z : one.idxOf a = one.idxOf b := by omega
      refine hab ?_
      rw [← e1, ← e2]
      simp only [z]
    · exact List.Pairwise.imp_of_mem (fun {a b} h1 h2 h3 => ⟨h1, h2, h3⟩) (nums_nd n 0)
  refine List.perm_iff_count.mpr fun a => ?_
  rw [count_nums]
  have c1 := List.nodup_iff_count.mp nd a
  by_cases ha : a ∈ nums 0 n
  · rw [if_pos ha]
    have hr := mem_nums.mp ha
    have hk : a.toNat < one.length := by omega
    have m : a ∈ (nums 0 n).map fun p => ((one.idxOf p : Nat) : Int) := by
      refine List.mem_map.mpr ⟨one[a.toNat], ho.mem_iff.mp (List.getElem_mem hk), ?_⟩
      have hnd : one.Nodup := ho.nodup_iff.mpr (nums_nd n 0)
      rw [List.Nodup.idxOf_getElem hnd]
      omega
    have := List.count_pos_iff.mpr m
    omega
  · rw [if_neg ha]
    refine List.count_eq_zero.mpr fun hx => ha (mem_nums.mpr ?_)
    have := hb a hx
    omega
theorem comp_back {one : List Int} {n : Nat} (ho : one.Perm (nums 0 n)) : comp one ((nums 0 n).map fun p => ((one.idxOf p : Nat) : Int)) = nums 0 n := by
  have hl : one.length = n := ho.length_eq.trans (nums_len ..)
  have hnd : one.Nodup := ho.nodup_iff.mpr (nums_nd n 0)
  refine List.ext_getElem? fun k => ?_
  unfold comp
  rw [List.getElem?_map]
  by_cases hk : k < n
  · have hk2 : k < one.length := by omega
    rw [List.getElem?_eq_getElem hk2, nums_get n 0 k hk]
    have hr := mem_nums.mp (ho.mem_iff.mp (List.getElem_mem hk2))
    have ht : one[k].toNat < n := by omega
    show some ((((nums 0 n).map fun p => ((one.idxOf p : Nat) : Int))).getD one[k].toNat 0) = _
    have g : ((nums 0 n).map fun p => ((one.idxOf p : Nat) : Int))[one[k].toNat]? = some ((one.idxOf one[k] : Nat) : Int) := by
      rw [List.getElem?_map, nums_get n 0 _ ht]
      rw [show (0 : Int) + (one[k].toNat : Int) = one[k] by omega]
      rfl
    rw [List.getD_eq_getElem?_getD, g, Option.getD_some, List.Nodup.idxOf_getElem hnd]
    congr 1
    omega
  · rw [List.getElem?_eq_none (by omega), List.getElem?_eq_none (by rw [nums_len]; omega)]
    rfl
end K1
namespace K1
open PySem L2 Mr
theorem thing_row {d : Dt} {n : Nat} (t : Thing d) (h1 : 1 ≤ n) (hn : n ≤ 1000) : ∃ b, M_is_row [d, .int n] = .ok (.bl b) ∧ M_law_good [d, .int n] = .ok (.bl b) := by
  rcases t with ⟨ds, rfl, o⟩ | ⟨h, _, g⟩
  · exact ⟨rowB ds n, is_row_pl o.pl o.qok h1 hn, law_good_pl o.pl hn⟩
  · exact ⟨false, is_row_nl h h1, g n⟩
theorem num_good {n : Nat} {num : Int} (hn : n ≤ 1000) : ∃ r : List Int, r.Perm (nums 0 n) ∧ M_law_row [.int n, .int num] = .ok (.lst (il r)) := row_is num hn
abbrev Fr (ns : List Int) (n : Nat) (a : List Sd) : Fd := .sh (.lsk (il ns)) :: .sh (.int n) :: a
theorem row_len {xs : List Int} {n : Nat} (h : xs.Perm (nums 0 n)) : xs.length = n := h.length_eq.trans (nums_len ..)
theorem isi_bool (b : Bool) : dIsi [.bl b, .ty "bool"] = .ok (.bl true) := rfl
theorem comp_lc {one other : List Int} {n : Nat} (ho : one.Perm (nums 0 n)) (hh : other.Perm (nums 0 n)) (hn : n ≤ 13) {Δ : Fd} (h2 : Δ[2]? = some (.sh (.lst (il one)))) (h3 : Δ[3]? = some (.sh (.lst (il other)))) (hl : 14 < Δ.length) :
    (mLc (mItL (mVar 2)) (gsName 14) mYes (mBin dIx (mVar 3) (mVar 14)) [14]) Δ = .ok (.lst (il (comp one other))) := by
  have l1 := row_len ho
  have l2 := row_len hh
  refine lc_ok (ds := il one) ?_ (by rw [il_len]; omega) ?_
  · unfold mItL
    rw [var_ok h2]
    rfl
  · refine lcGo_il (fun x => other.getD x.toNat 0) one fun x hx => ?_
    have hr := mem_nums.mp (ho.mem_iff.mp hx)
    have e3 : (((wipeD Δ [14]).set 14 (.sh (.int x))))[3]? = some (.sh (.lst (il other))) := by
      rw [List.getElem?_set_ne (by decide)]
      show ((Δ.set 14 .un))[3]? = _
      rw [List.getElem?_set_ne (by decide)]
      exact h3
    have e14 : (((wipeD Δ [14]).set 14 (.sh (.int x))))[14]? = some (.sh (.int x)) := by
      refine List.getElem?_set_self ?_
      show 14 < (Δ.set 14 .un).length
      rw [List.length_set]
      exact hl
    exact (bin_ok (var_ok e3) (var_ok e14)).trans (at_il (by omega) (by omega))
theorem idx_lc {one : List Int} {n : Nat} (ho : one.Perm (nums 0 n)) (hn : n ≤ 13) {Δ : Fd} (h1 : Δ[1]? = some (.sh (.int n))) (h2 : Δ[2]? = some (.sh (.lst (il one)))) (hl : 15 < Δ.length) :
    (mLc (mIt1 (mCons (mVar 1) mNil)) (gsName 15) mYes (mM isInts dIndex (mVar 2) (mVar 15)) [15]) Δ = .ok (.lst (il ((nums 0 n).map fun p => ((one.idxOf p : Nat) : Int)))) := by
  refine lc_ok (ds := il (nums 0 n)) (it1_ok (by omega) (cons_ok (var_ok h1) nil_ok)) (by rw [il_len, nums_len]; omega) ?_
  refine lcGo_il (fun p => ((one.idxOf p : Nat) : Int)) (nums 0 n) fun p hp => ?_
  have e2 : (((wipeD Δ [15]).set 15 (.sh (.int p))))[2]? = some (.sh (.lst (il one))) := by
    rw [List.getElem?_set_ne (by decide)]
    show ((Δ.set 15 .un))[2]? = _
    rw [List.getElem?_set_ne (by decide)]
    exact h2
  have e15 : (((wipeD Δ [15]).set 15 (.sh (.int p))))[15]? = some (.sh (.int p)) := by
    refine List.getElem?_set_self ?_
    show 15 < (Δ.set 15 .un).length
    rw [List.length_set]
    exact hl
  exact idx_il (ho.mem_iff.mpr hp) (var_ok e2) (var_ok e15)
/-- a pair of lists equals itself -/
theorem ne_pair (xs ys : List Int) : dNe (.lst [.lst (il xs), .lst (il ys)]) (.lst [.lst (il xs), .lst (il ys)]) = .ok (.bl false) := by
  have p : toP (.lst [.lst (il xs), .lst (il ys)]) = some (.list [.list (xs.map PyData.int), .list (ys.map PyData.int)]) := by
    unfold toP toPs
    rw [toP_il]
    unfold toPs
    rw [toP_il]
    rfl
  have sh : SeqAt.shaped (.list [.list (xs.map PyData.int), .list (ys.map PyData.int)]) = true := by
    unfold SeqAt.shaped
    simp only [PyData.canLay0, PyData.canLayAll0, PyData.depth, PyData.depthAll, lay_il, dep_il]
    rfl
  have q : PyData.eqv (.list [.list (xs.map PyData.int), .list (ys.map PyData.int)]) (.list [.list (xs.map PyData.int), .list (ys.map PyData.int)]) = true := by
    simp only [PyData.eqv, PyData.eqvAll, eqv_il, decide_true, Bool.and_self]
  unfold dNe dEqv
  rw [p]
  show ((if SeqAt.shaped (.list [.list (xs.map PyData.int), .list (ys.map PyData.int)]) = true ∧ SeqAt.shaped (.list [.list (xs.map PyData.int), .list (ys.map PyData.int)]) = true then Md.ok (PyData.eqv (.list [.list (xs.map PyData.int), .list (ys.map PyData.int)]) (.list [.list (xs.map PyData.int), .list (ys.map PyData.int)])) else .bad).bind _) = _
  rw [if_pos ⟨sh, sh⟩, q]
  rfl
end K1
namespace K1
open PySem L2 Mr
theorem cell_e {ns : List Int} {Δ : Fd} (k : Nat) (h : Δ[0]? = some (.sh (.lsk (il ns)))) : (mCall 2 M_law_cell_at (mCons (mVar 0) (mCons (mC (.int k)) mNil))) Δ = .ok (.int (ns.getD k 0)) := (call_ok (cons_ok (var_ok h) (cons_ok c_ok nil_ok)) rfl).trans (cell_at ns k)
theorem mix_e {ns : List Int} {Δ : Fd} (hb : ∀ z ∈ ns, Builtin.Int.intBits z ≤ 1048576) (k : Nat) (hk : k ≤ 1000) (h : Δ[0]? = some (.sh (.lsk (il ns)))) :
    (mCall 2 M_law_mixed (mCons (mCall 2 M_law_cell_at (mCons (mVar 0) (mCons (mC (.int k)) mNil))) (mCons (mC (.int k)) mNil))) Δ = .ok (.int (mixv (ns.getD k 0) k)) :=
  (call_ok (cons_ok (cell_e k h) (cons_ok c_ok nil_ok)) rfl).trans (mixed (getD_abs hb k) (by omega) (by omega))
def turnBody : Fd → Md Out := (mTold 10 11 (mNCons (mCall 2 M_behind (mCons (mBin dIx (mVar 6) (mC (.int 0))) (mCons (mBin dIx (mVar 6) (mC (.int 1))) mNil))) (mNCons (mCall 1 M_back (mCons (mBin dIx (mVar 6) (mC (.int 0))) mNil)) (mNCons (mCall 2 M_behind (mCons (mBin dIx (mVar 6) (mC (.int 0))) (mCons (mCall 1 M_back (mCons (mBin dIx (mVar 6) (mC (.int 0))) mNil)) mNil))) mNNil))) (mSeqC (mIfS (mNot (mT (mCall 2 M_law_alike_rows (mCons (mBin dIx (mVar 10) (mC (.int 0))) (mCons (mVar 7) mNil))))) (mRet (mC (.bl false))) mNext) (mSeqC (mIfS (mNot (mT (mCall 2 M_law_alike_rows (mCons (mBin dIx (mVar 10) (mC (.int 1))) (mCons (mVar 8) mNil))))) (mRet (mC (.bl false))) mNext) (mIfS (mOr (mNot (mT (mCall 2 M_law_alike_rows (mCons (mBin dIx (mVar 10) (mC (.int 2))) (mCons (mU dListRg (mVar 1)) mNil))))) (mT (mBin dNe (mVar 6) (mLst (mCons (mVar 2) (mCons (mVar 3) mNil)))))) (mRet (mC (.bl false))) mNext))))
theorem ix0 (a : Dt) (r : List Dt) : dIx (.lst (a :: r)) (.int 0) = .ok a := by
  show (match atI (a :: r) ((0 : Nat) : Int) with | some d => Md.ok d | none => Md.bad) = _
  rw [atI_nat (d := a) rfl]
theorem ix1 (a b : Dt) (r : List Dt) : dIx (.lst (a :: b :: r)) (.int 1) = .ok b := by
  show (match atI (a :: b :: r) ((1 : Nat) : Int) with | some d => Md.ok d | none => Md.bad) = _
  rw [atI_nat (d := b) rfl]
theorem ix2 (a b c : Dt) (r : List Dt) : dIx (.lst (a :: b :: c :: r)) (.int 2) = .ok c := by
  show (match atI (a :: b :: c :: r) ((2 : Nat) : Int) with | some d => Md.ok d | none => Md.bad) = _
  rw [atI_nat (d := c) rfl]
theorem turn_ok {one other : List Int} {n : Nat} {x0 x4 x5 x9 x10 x11 x12 x13 x14 x15 : Sd} (h1 : 1 ≤ n) (hn : n ≤ 13) (ho : one.Perm (nums 0 n)) (hh : other.Perm (nums 0 n)) :
    turnBody [x0, .sh (.int n), .sh (.lst (il one)), .sh (.lst (il other)), x4, x5, .sh (.lst [.lst (il one), .lst (il other)]), .sh (.lst (il (comp one other))), .sh (.lst (il ((nums 0 n).map fun p => ((one.idxOf p : Nat) : Int)))), x9, x10, x11, x12, x13, x14, x15] =
      .ok (.nx [x0, .sh (.int n), .sh (.lst (il one)), .sh (.lst (il other)), x4, x5, .sh (.lst [.lst (il one), .lst (il other)]), .sh (.lst (il (comp one other))), .sh (.lst (il ((nums 0 n).map fun p => ((one.idxOf p : Nat) : Int)))), x9, .un, .un, x12, x13, x14, x15]) := by
  have l1 := row_len ho
  have l2 := row_len hh
  obtain ⟨zs, eb, lz, pz⟩ := back_yes h1 (by omega) ho
  have ez := back_idx ho lz pz
  subst ez
  have lc : (comp one other).length = n := by
    unfold comp
    rw [List.length_map, l1]
  generalize hU : (nums 0 n).map (fun p => ((one.idxOf p : Nat) : Int)) = und at *
  have pu : und.Perm (nums 0 n) := hU ▸ idx_perm ho
  have cb : comp one und = nums 0 n := hU ▸ comp_back ho
  generalize hC : comp one other = due at *
  have bh : M_behind [.lst (il one), .lst (il other)] = .ok (.lst (il due)) := hC ▸ behind_yes h1 (by omega) ho hh
  have bb : M_behind [.lst (il one), .lst (il und)] = .ok (.lst (il (nums 0 n))) := cb ▸ behind_yes h1 (by omega) ho pu
  unfold turnBody
  have v6a : ∀ {x10 x11 : Sd}, (mBin dIx (mVar 6) (mC (.int 0))) [x0, .sh (.int n), .sh (.lst (il one)), .sh (.lst (il other)), x4, x5, .sh (.lst [.lst (il one), .lst (il other)]), .sh (.lst (il due)), .sh (.lst (il und)), x9, x10, x11, x12, x13, x14, x15] = .ok (.lst (il one)) := fun {x10 x11} => (bin_ok (var_ok rfl) c_ok).trans (ix0 _ _)
  have v6b : ∀ {x10 x11 : Sd}, (mBin dIx (mVar 6) (mC (.int 1))) [x0, .sh (.int n), .sh (.lst (il one)), .sh (.lst (il other)), x4, x5, .sh (.lst [.lst (il one), .lst (il other)]), .sh (.lst (il due)), .sh (.lst (il und)), x9, x10, x11, x12, x13, x14, x15] = .ok (.lst (il other)) := fun {x10 x11} => (bin_ok (var_ok rfl) c_ok).trans (ix1 _ _ _)
  refine (told_ok (Δ' := [x0, .sh (.int n), .sh (.lst (il one)), .sh (.lst (il other)), x4, x5, .sh (.lst [.lst (il one), .lst (il other)]), .sh (.lst (il due)), .sh (.lst (il und)), x9, .sh (.lst [.lst (il due), .lst (il und), .lst (il (nums 0 n))]), x11, x12, x13, x14, x15]) (dss := [il due, il und, il (nums 0 n)]) (by simp) (by simp) (by decide)
    (ncons_ok ((call_ok (cons_ok v6a (cons_ok v6b nil_ok)) rfl).trans bh) (ncons_ok ((call_ok (cons_ok v6a nil_ok) rfl).trans eb) (ncons_ok ((call_ok (cons_ok v6a (cons_ok ((call_ok (cons_ok v6a nil_ok) rfl).trans eb) nil_ok)) rfl).trans bb) rfl))) (by simp) (fun ds hd => ?_) ?_).trans rfl
  · simp only [List.mem_cons, List.not_mem_nil, or_false] at hd
    rcases hd with rfl | rfl | rfl
    · rw [il_len]; omega
    · rw [il_len, row_len pu]; omega
    · rw [il_len, nums_len]; omega
  · show (mSeqC _ _) [x0, .sh (.int n), .sh (.lst (il one)), .sh (.lst (il other)), x4, x5, .sh (.lst [.lst (il one), .lst (il other)]), .sh (.lst (il due)), .sh (.lst (il und)), x9, .sh (.lst [.lst (il due), .lst (il und), .lst (il (nums 0 n))]), x11, x12, x13, x14, x15] = _
    have al : ∀ xs : List Int, xs.length = n → M_law_alike_rows [.lst (il xs), .lst (il xs)] = .ok (.bl true) := fun xs hx => by
      rw [alike_il (by omega), decide_eq_true rfl]
    refine (seqC_nx ((if_f (not_ok (t_ok ((call_ok (cons_ok ((bin_ok (var_ok rfl) c_ok).trans (ix0 _ _)) (cons_ok (var_ok rfl) nil_ok)) rfl).trans (al due lc))))).trans rfl)).trans ?_
    refine (seqC_nx ((if_f (not_ok (t_ok ((call_ok (cons_ok ((bin_ok (var_ok rfl) c_ok).trans (ix1 _ _ _)) (cons_ok (var_ok rfl) nil_ok)) rfl).trans (al und (row_len pu)))))).trans rfl)).trans ?_
    refine (if_f ((or_f (not_ok (t_ok ((call_ok (cons_ok ((bin_ok (var_ok rfl) c_ok).trans (ix2 _ _ _ _)) (cons_ok ((u_ok (var_ok rfl)).trans (listRg_ok (by omega))) nil_ok)) rfl).trans (al _ (nums_len ..)))))).trans (t_ok ((bin_ok (var_ok rfl) (lst_ok (cons_ok (var_ok rfl) (cons_ok (var_ok rfl) nil_ok)) (by show 2 ≤ 16777216; decide))).trans (ne_pair one other))))).trans rfl
end K1
namespace K1
open PySem L2 Mr
theorem thing_size {d : Dt} (t : Thing d) : (∃ ds, d = .lst ds ∧ OkL 100 ds) ∨ nl d = true := t.elim .inl fun h => .inr h.1
theorem isi_nl {d : Dt} (h : nl d = true) : dIsi [d, .ty "list"] = .ok (.bl false) := by
  cases d <;> first | rfl | cases h
theorem math_law (ns : List Int) (hlen : ns.length ≤ 63) (hb : ∀ z ∈ ns, Builtin.Int.intBits z ≤ 1048576) : M_law [.lsk (ns.map Dt.int)] = .ok (.bl true) := by
  show M_law [.lsk (il ns)] = _
  have r0 := Int.emod_nonneg (ns.getD 0 0) (show (12 : Int) ≠ 0 by decide)
  have r1 := Int.emod_lt_of_pos (ns.getD 0 0) (show (0 : Int) < 12 by decide)
  obtain ⟨n, hn⟩ := Int.eq_ofNat_of_zero_le (show 0 ≤ 1 + ns.getD 0 0 % 12 by omega)
  have h1 : 1 ≤ n := by omega
  have h2 : n ≤ 12 := by omega
  obtain ⟨one, ho, eo⟩ := row_is (n := n) (mixv (ns.getD 1 0) 1) (by omega)
  obtain ⟨other, hh, eh⟩ := row_is (n := n) (mixv (ns.getD 2 0) 2) (by omega)
  obtain ⟨thing, et, ht⟩ := thing_is (cell := mixv (ns.getD 3 0) 3) h1 (by omega) ho
  obtain ⟨b, eb, eg⟩ := thing_row ht h1 (by omega)
  obtain ⟨longer, hg, el⟩ := row_is (n := n + 1) (mixv (ns.getD 4 0) 4) (by omega)
  have l1 := row_len ho
  unfold M_law
  refine def_rt ?_
  have st : startD 16 [.lsk (il ns)] = [.sh (.lsk (il ns)), .un, .un, .un, .un, .un, .un, .un, .un, .un, .un, .un, .un, .un, .un, .un] := rfl
  rw [st]
  unfold m_law
  refine (seq_nx (Δ' := [.sh (.lsk (il ns)), .sh (.int n), .un, .un, .un, .un, .un, .un, .un, .un, .un, .un, .un, .un, .un, .un]) (asg_ok ((bin_ok c_ok ((bin_ok (cell_e 0 rfl) c_ok).trans (mod_ok (by decide)))).trans (show dI (fun i j => .int (i + j)) (.int 1) (.int (ns.getD 0 0 % 12)) = .ok (.int n) from congrArg (fun z => Md.ok (Dt.int z)) hn)))).trans ?_
  refine (seq_nx (asg_ok ((call_ok (cons_ok (var_ok rfl) (cons_ok (mix_e hb 1 (by decide) rfl) nil_ok)) rfl).trans eo))).trans ?_
  refine (seq_nx (asg_ok ((call_ok (cons_ok (var_ok rfl) (cons_ok (mix_e hb 2 (by decide) rfl) nil_ok)) rfl).trans eh))).trans ?_
  refine (seq_nx (asg_ok ((call_ok (cons_ok (var_ok rfl) (cons_ok (mix_e hb 3 (by decide) rfl) nil_ok)) rfl).trans et))).trans ?_
  refine (seq_nx (asg_ok ((call_ok (cons_ok (var_ok rfl) (cons_ok (var_ok rfl) nil_ok)) rfl).trans eb))).trans ?_
  refine (seq_nx (Δ' := [.sh (.lsk (il ns)), .sh (.int n), .sh (.lst (il one)), .sh (.lst (il other)), .sh thing, .sh (.bl b), .un, .un, .un, .un, .un, .un, .un, .un, .un, .un]) ((if_f ((or_f (not_ok (t_ok (show (mCB dIsi (mCons (mVar 5) (mCons (mC (.ty "bool")) mNil))) _ = .ok (.bl true) from ?i1)))).trans (t_ok ((bin_ok (var_ok rfl) ((call_ok (cons_ok (var_ok rfl) (cons_ok (var_ok rfl) nil_ok)) rfl).trans eg)).trans (show dNe (.bl b) (.bl b) = .ok (.bl false) from ?i2))))).trans rfl)).trans ?_
  case i1 => cases b <;> rfl
  case i2 => cases b <;> rfl
  refine (seq_nx (Δ' := [.sh (.lsk (il ns)), .sh (.int n), .sh (.lst (il one)), .sh (.lst (il other)), .sh thing, .sh (.bl b), .sh (.lst [.lst (il one), .lst (il other)]), .un, .un, .un, .un, .un, .un, .un, .un, .un]) (asg_ok (lst_ok (cons_ok ((u_ok (var_ok rfl)).trans (show dList (.lst (il one)) = .ok (.lst (il one)) from rfl)) (cons_ok ((u_ok (var_ok rfl)).trans (show dList (.lst (il other)) = .ok (.lst (il other)) from rfl)) nil_ok)) (by show 2 ≤ 16777216; decide)))).trans ?_
  refine (seq_nx (asg_ok (comp_lc ho hh (by omega) rfl rfl (by simp)))).trans ?_
  refine (seq_nx (asg_ok (idx_lc ho (by omega) rfl rfl (by simp)))).trans ?_
  have turns : (mFor (mIt1 (mCons (mC (.int 2)) mNil)) (gsName 9) turnBody) [.sh (.lsk (il ns)), .sh (.int n), .sh (.lst (il one)), .sh (.lst (il other)), .sh thing, .sh (.bl b), .sh (.lst [.lst (il one), .lst (il other)]), .sh (.lst (il (comp one other))), .sh (.lst (il ((nums 0 n).map fun p => ((one.idxOf p : Nat) : Int)))), .un, .un, .un, .un, .un, .un, .un] =
      .ok (.nx [.sh (.lsk (il ns)), .sh (.int n), .sh (.lst (il one)), .sh (.lst (il other)), .sh thing, .sh (.bl b), .sh (.lst [.lst (il one), .lst (il other)]), .sh (.lst (il (comp one other))), .sh (.lst (il ((nums 0 n).map fun p => ((one.idxOf p : Nat) : Int)))), .sh (.int 1), .un, .un, .un, .un, .un, .un]) := by
    refine (for_ok (it1_ok (n := 2) (by decide) (cons_ok c_ok nil_ok))).trans ?_
    show mForGo (gsName 9) turnBody [.int 0, .int 1] _ = _
    refine (go_nx rfl (turn_ok h1 (by omega) ho hh)).trans ?_
    refine (go_nx rfl (turn_ok h1 (by omega) ho hh)).trans ?_
    exact go_nil
  unfold turnBody at turns
  refine (seq_nx turns).trans ?_
  refine (seq_nx (Δ' := [.sh (.lsk (il ns)), .sh (.int n), .sh (.lst (il one)), .sh (.lst (il other)), .sh thing, .sh (.bl b), .sh (.lst [.lst (il one), .lst (il other)]), .sh (.lst (il (comp one other))), .sh (.lst (il ((nums 0 n).map fun p => ((one.idxOf p : Nat) : Int)))), .sh (.int 1), .un, .un, .sh (.lst (il longer)), .un, .un, .un]) (asg_ok ((call_ok (cons_ok ((bin_ok (var_ok rfl) c_ok).trans (show _ = Md.ok (Dt.int ((n + 1 : Nat) : Int)) from rfl)) (cons_ok (mix_e hb 4 (by decide) rfl) nil_ok)) rfl).trans el))).trans ?_
  have szo := size_of_yes h1 (by omega) ho
  have szl := size_of_yes (by omega) (by omega) hg
  have no1 : M_is_row [.lst (il longer), .int n] = .ok (.bl false) := by
    rw [is_row_pl (fun d hd => (okL_il longer).pl d hd) (qok_il _) h1 (by omega)]
    unfold rowB
    rw [toInts_il]
    simp only [il_len, row_len hg]
    simp
  have no2 : M_is_row [.lst (il one), .int ((n + 1 : Nat) : Int)] = .ok (.bl false) := by
    rw [is_row_pl (fun d hd => (okL_il one).pl d hd) (qok_il _) (by omega) (by omega)]
    unfold rowB
    rw [toInts_il]
    simp only [il_len, l1]
    simp
  have f1 := refused_behind (behind_no2 szo no1)
  have f2 := refused_behind (behind_no2 szl no2)
  have f3 := refused_back (b := .lst (il one)) (back_no (size_of_no (ds := []) is_row_nil))
  refine (seq_nx ((if_f ((or_f (not_ok (t_ok ((call_ok (cons_ok c_ok (cons_ok (var_ok rfl) (cons_ok (var_ok rfl) nil_ok))) rfl).trans f1)))).trans (not_ok (t_ok ((call_ok (cons_ok c_ok (cons_ok (var_ok rfl) (cons_ok (var_ok rfl) nil_ok))) rfl).trans f2))))).trans rfl)).trans ?_
  refine (seq_nx ((if_f (not_ok (t_ok ((call_ok (cons_ok c_ok (cons_ok (lst_ok nil_ok (by show 0 ≤ 16777216; decide)) (cons_ok (var_ok rfl) nil_ok))) rfl).trans f3)))).trans rfl)).trans ?_
  cases b with
  | true => exact seq_rt ((if_t (t_ok (var_ok rfl))).trans (ret_ok c_ok))
  | false =>
    refine (seq_nx ((if_f (t_ok (var_ok rfl))).trans rfl)).trans ?_
    have f4 := refused_behind (behind_no2 szo eb)
    refine (seq_nx ((if_f (not_ok (t_ok ((call_ok (cons_ok c_ok (cons_ok (var_ok rfl) (cons_ok (var_ok rfl) nil_ok))) rfl).trans f4)))).trans rfl)).trans ?_
    -- whether the thing is a row of any size
    have fin : ∀ q : Bool, (mOrV (mNotV (mCB dIsi (mCons (mVar 4) (mCons (mC (.ty "list")) mNil)))) (mNotV (mCall 2 M_law_good (mCons (mVar 4) (mCons (mU dLen (mVar 4)) mNil))))) [.sh (.lsk (il ns)), .sh (.int n), .sh (.lst (il one)), .sh (.lst (il other)), .sh thing, .sh (.bl false), .sh (.lst [.lst (il one), .lst (il other)]), .sh (.lst (il (comp one other))), .sh (.lst (il ((nums 0 n).map fun p => ((one.idxOf p : Nat) : Int)))), .sh (.int 1), .un, .un, .sh (.lst (il longer)), .un, .un, .un] = .ok (.bl q) →
        (q = true → M_size_of [thing] = .exc "BadRow") →
        (mSeq (mAsg 13 (mOrV (mNotV (mCB dIsi (mCons (mVar 4) (mCons (mC (.ty "list")) mNil)))) (mNotV (mCall 2 M_law_good (mCons (mVar 4) (mCons (mU dLen (mVar 4)) mNil)))))) (mSeq (mIfS (mNot (mT (mVar 13))) (mRet (mC (.bl true))) mNext) (mRet (mAndV (mCall 3 M_law_refused (mCons (mC (.int 0)) (mCons (mVar 4) (mCons (mVar 3) mNil)))) (mCall 3 M_law_refused (mCons (mC (.int 1)) (mCons (mVar 4) (mCons (mVar 3) mNil)))))))) [.sh (.lsk (il ns)), .sh (.int n), .sh (.lst (il one)), .sh (.lst (il other)), .sh thing, .sh (.bl false), .sh (.lst [.lst (il one), .lst (il other)]), .sh (.lst (il (comp one other))), .sh (.lst (il ((nums 0 n).map fun p => ((one.idxOf p : Nat) : Int)))), .sh (.int 1), .un, .un, .sh (.lst (il longer)), .un, .un, .un] = .ok (.rt (.bl true)) := fun q e he => by
      refine (seq_nx (asg_ok e)).trans ?_
      cases q with
      | false => exact seq_rt ((if_t (not_ok (k := false) (t_ok (var_ok rfl)))).trans (ret_ok c_ok))
      | true =>
        have z := he rfl
        refine (seq_nx ((if_f (not_ok (k := true) (t_ok (var_ok rfl)))).trans rfl)).trans (ret_ok ?_)
        exact (andV_t ((call_ok (cons_ok c_ok (cons_ok (var_ok rfl) (cons_ok (var_ok rfl) nil_ok))) rfl).trans (refused_behind (behind_no1 z)))).trans ((call_ok (cons_ok c_ok (cons_ok (var_ok rfl) (cons_ok (var_ok rfl) nil_ok))) rfl).trans (refused_back (back_no z)))
    rcases thing_size ht with ⟨ds, rfl, o⟩ | hnl
    · have g := law_good_pl (n := ds.length) o.pl (Nat.le_trans o.len (by decide))
      refine fin (!rowB ds ds.length) ((orV_f (notV_ok (k := true) rfl)).trans (notV_ok ((call_ok (cons_ok (var_ok rfl) (cons_ok ((u_ok (var_ok rfl)).trans (show dLen (.lst ds) = .ok (.int ds.length) from rfl)) nil_ok)) rfl).trans g))) fun hq => ?_
      have hr : rowB ds ds.length = false := by simpa using hq
      by_cases h0 : ds.length = 0
      · have : ds = [] := List.eq_nil_of_length_eq_zero h0
        subst this
        exact size_of_no is_row_nil
      · refine size_of_no ?_
        rw [is_row_pl o.pl o.qok (by omega) (Nat.le_trans o.len (by decide)), hr]
    · refine fin true (orV_t (notV_ok (k := false) ?_)) fun _ => size_of_nl hnl
      unfold mCB
      rw [cons_ok (var_ok rfl) (cons_ok c_ok nil_ok)]
      exact isi_nl hnl
end K1
namespace K1
open PySem L2 Mr
theorem isx_here (a : Addr) (q : Bool) (r : Fd) : mU (dIsX a q) (mVar 0) (.sh (.adr a) :: r) = .ok (.bl q) := by
  show dIsX a q (.adr a) = _
  unfold dIsX
  exact if_pos rfl
theorem alone_BadRow : ∀ a, M_law_alone false true false false false false true a [.adr a, .int 1] = .ok (.bl true) := by
  intro a
  show (m_law_alone false true false false false false true a [.sh (.adr a), .sh (.int 1), .un, .un]).bind _ = _
  have e1 : (mAsg 2 (mLst (mCons (mU (dIsX a false) (mVar 0)) (mCons (mU (dIsX a true) (mVar 0)) (mCons (mU (dIsX a false) (mVar 0)) (mCons (mU (dIsX a false) (mVar 0)) mNil)))))) [.sh (.adr a), .sh (.int 1), .un, .un] = .ok (.nx [.sh (.adr a), .sh (.int 1), .sh (.lst [.bl false, .bl true, .bl false, .bl false]), .un]) := by
    unfold mAsg mLst mCons mNil
    simp only [isx_here, Md.bind]
    rfl
  have e2 : (mAsg 2 (mBin dCat (mVar 2) (mLst (mCons (mU (dIsX a false) (mVar 0)) (mCons (mU (dIsX a false) (mVar 0)) mNil))))) [.sh (.adr a), .sh (.int 1), .sh (.lst [.bl false, .bl true, .bl false, .bl false]), .un] = .ok (.nx [.sh (.adr a), .sh (.int 1), .sh (.lst [.bl false, .bl true, .bl false, .bl false, .bl false, .bl false]), .un]) := by
    unfold mAsg mBin mLst mCons mNil
    simp only [isx_here, Md.bind]
    rfl
  unfold m_law_alone mSeq
  simp only [e1, e2, Md.bind]
  unfold mRet mAndV mT
  simp only [isx_here, Md.bind]
  rfl
end K1
namespace K1
open PySem L2 Mr PyProof.Rows
/-- what the program's top has left -/
theorem all_mk {l : PySem.W.OpenLaw} {w : World} {K : PySem.W.Frag} {h : Heap} {mg : Str → Option Value} {fa : Addr} (X : K.In h) (G : h.Ns mainGlobals mg) (hfa : mg "law" = some (.ref fa)) (hbits : Nat)
    {f_is_whole : Addr} {od_is_whole an_is_whole : Option Addr} {sl_is_whole : Array (Option Value)} {oc_is_whole kV_is_whole dc_is_whole pm_is_whole cd_is_whole ct_is_whole : Value} {cc_is_row tP_is_row : Addr} {f_is_row : Addr} {od_is_row an_is_row : Option Addr} {sl_is_row : Array (Option Value)} {oc_is_row kV_is_row dc_is_row pm_is_row ct_is_row : Value} {f_behind : Addr} {od_behind an_behind : Option Addr} {sl_behind : Array (Option Value)} {oc_behind kV_behind dc_behind pm_behind cd_behind ct_behind : Value} {f_back : Addr} {od_back an_back : Option Addr} {sl_back : Array (Option Value)} {oc_back kV_back dc_back pm_back cd_back ct_back : Value} {f_size_of : Addr} {od_size_of an_size_of : Option Addr} {sl_size_of : Array (Option Value)} {oc_size_of kV_size_of dc_size_of pm_size_of cd_size_of ct_size_of : Value} {f_law_cell_at : Addr} {od_law_cell_at an_law_cell_at : Option Addr} {sl_law_cell_at : Array (Option Value)} {oc_law_cell_at kV_law_cell_at dc_law_cell_at pm_law_cell_at cd_law_cell_at ct_law_cell_at : Value} {f_law_mixed : Addr} {od_law_mixed an_law_mixed : Option Addr} {sl_law_mixed : Array (Option Value)} {oc_law_mixed kV_law_mixed dc_law_mixed pm_law_mixed cd_law_mixed ct_law_mixed : Value} {f_law_whole : Addr} {od_law_whole an_law_whole : Option Addr} {sl_law_whole : Array (Option Value)} {oc_law_whole kV_law_whole dc_law_whole pm_law_whole cd_law_whole ct_law_whole : Value} {f_law_row : Addr} {od_law_row an_law_row : Option Addr} {sl_law_row : Array (Option Value)} {oc_law_row kV_law_row dc_law_row pm_law_row cd_law_row ct_law_row : Value} {f_law_alike_rows : Addr} {od_law_alike_rows an_law_alike_rows : Option Addr} {sl_law_alike_rows : Array (Option Value)} {oc_law_alike_rows kV_law_alike_rows dc_law_alike_rows pm_law_alike_rows cd_law_alike_rows ct_law_alike_rows : Value} {f_law_alone : Addr} {od_law_alone an_law_alone : Option Addr} {sl_law_alone : Array (Option Value)} {oc_law_alone kV_law_alone dc_law_alone pm_law_alone cd_law_alone ct_law_alone : Value} {f_law_thing : Addr} {od_law_thing an_law_thing : Option Addr} {sl_law_thing : Array (Option Value)} {oc_law_thing kV_law_thing dc_law_thing pm_law_thing cd_law_thing ct_law_thing : Value} {f_law_good : Addr} {od_law_good an_law_good : Option Addr} {sl_law_good : Array (Option Value)} {oc_law_good kV_law_good dc_law_good pm_law_good cd_law_good ct_law_good : Value} {f_law_refused : Addr} {od_law_refused an_law_refused : Option Addr} {sl_law_refused : Array (Option Value)} {oc_law_refused kV_law_refused dc_law_refused pm_law_refused cd_law_refused ct_law_refused : Value} {f_law : Addr} {od_law an_law : Option Addr} {sl_law : Array (Option Value)} {oc_law kV_law dc_law pm_law cd_law ct_law : Value} {C_BadWeb : Addr} {C_BadRow : Addr} {C_BadCells : Addr} {C_NoPoint : Addr} {C_NoTurn : Addr} {C_NoWeb : Addr} {C_WebError : Addr}
    (a_is_whole : PySem.W.nsIn K mainGlobals "is_whole" = some (some (.ref f_is_whole))) (l_is_whole : K.lookup f_is_whole = some ⟨oc_is_whole, od_is_whole, .func (PySem.W.fnOf "is_whole" "is_whole" (defArgs st_is_whole) (defBody st_is_whole) (defScope st_is_whole) .none kV_is_whole dc_is_whole pm_is_whole an_is_whole cd_is_whole ct_is_whole), sl_is_whole⟩) (c_is_whole : PySem.W.codeIn K cd_is_whole "is_whole" = true) (k_is_whole : PySem.W.keepIn K (.ref f_is_whole) = true) (a_is_row : PySem.W.nsIn K mainGlobals "is_row" = some (some (.ref f_is_row))) (l_is_row : K.lookup f_is_row = some ⟨oc_is_row, od_is_row, .func (PySem.W.fnOf "is_row" "is_row" (defArgs st_is_row) (defBody st_is_row) (defScope st_is_row) .none kV_is_row dc_is_row pm_is_row an_is_row (.ref cc_is_row) ct_is_row), sl_is_row⟩) (c_is_row : PySem.W.codeIn K (.ref cc_is_row) "is_row" = true) (k_is_row : PySem.W.keepIn K (.ref f_is_row) = true) (t_is_row : PySem.W.tabIn K "is_row" = some (cc_is_row, tP_is_row)) (n_is_row : K.lookup tP_is_row = none) (a_behind : PySem.W.nsIn K mainGlobals "behind" = some (some (.ref f_behind))) (l_behind : K.lookup f_behind = some ⟨oc_behind, od_behind, .func (PySem.W.fnOf "behind" "behind" (defArgs st_behind) (defBody st_behind) (defScope st_behind) .none kV_behind dc_behind pm_behind an_behind cd_behind ct_behind), sl_behind⟩) (c_behind : PySem.W.codeIn K cd_behind "behind" = true) (k_behind : PySem.W.keepIn K (.ref f_behind) = true) (a_back : PySem.W.nsIn K mainGlobals "back" = some (some (.ref f_back))) (l_back : K.lookup f_back = some ⟨oc_back, od_back, .func (PySem.W.fnOf "back" "back" (defArgs st_back) (defBody st_back) (defScope st_back) .none kV_back dc_back pm_back an_back cd_back ct_back), sl_back⟩) (c_back : PySem.W.codeIn K cd_back "back" = true) (k_back : PySem.W.keepIn K (.ref f_back) = true) (a_size_of : PySem.W.nsIn K mainGlobals "_size_of" = some (some (.ref f_size_of))) (l_size_of : K.lookup f_size_of = some ⟨oc_size_of, od_size_of, .func (PySem.W.fnOf "_size_of" "_size_of" (defArgs st_size_of) (defBody st_size_of) (defScope st_size_of) .none kV_size_of dc_size_of pm_size_of an_size_of cd_size_of ct_size_of), sl_size_of⟩) (c_size_of : PySem.W.codeIn K cd_size_of "_size_of" = true) (k_size_of : PySem.W.keepIn K (.ref f_size_of) = true) (a_law_cell_at : PySem.W.nsIn K mainGlobals "_law_cell_at" = some (some (.ref f_law_cell_at))) (l_law_cell_at : K.lookup f_law_cell_at = some ⟨oc_law_cell_at, od_law_cell_at, .func (PySem.W.fnOf "_law_cell_at" "_law_cell_at" (defArgs st_law_cell_at) (defBody st_law_cell_at) (defScope st_law_cell_at) .none kV_law_cell_at dc_law_cell_at pm_law_cell_at an_law_cell_at cd_law_cell_at ct_law_cell_at), sl_law_cell_at⟩) (c_law_cell_at : PySem.W.codeIn K cd_law_cell_at "_law_cell_at" = true) (k_law_cell_at : PySem.W.keepIn K (.ref f_law_cell_at) = true) (a_law_mixed : PySem.W.nsIn K mainGlobals "_law_mixed" = some (some (.ref f_law_mixed))) (l_law_mixed : K.lookup f_law_mixed = some ⟨oc_law_mixed, od_law_mixed, .func (PySem.W.fnOf "_law_mixed" "_law_mixed" (defArgs st_law_mixed) (defBody st_law_mixed) (defScope st_law_mixed) .none kV_law_mixed dc_law_mixed pm_law_mixed an_law_mixed cd_law_mixed ct_law_mixed), sl_law_mixed⟩) (c_law_mixed : PySem.W.codeIn K cd_law_mixed "_law_mixed" = true) (k_law_mixed : PySem.W.keepIn K (.ref f_law_mixed) = true) (a_law_whole : PySem.W.nsIn K mainGlobals "_law_whole" = some (some (.ref f_law_whole))) (l_law_whole : K.lookup f_law_whole = some ⟨oc_law_whole, od_law_whole, .func (PySem.W.fnOf "_law_whole" "_law_whole" (defArgs st_law_whole) (defBody st_law_whole) (defScope st_law_whole) .none kV_law_whole dc_law_whole pm_law_whole an_law_whole cd_law_whole ct_law_whole), sl_law_whole⟩) (c_law_whole : PySem.W.codeIn K cd_law_whole "_law_whole" = true) (k_law_whole : PySem.W.keepIn K (.ref f_law_whole) = true) (a_law_row : PySem.W.nsIn K mainGlobals "_law_row" = some (some (.ref f_law_row))) (l_law_row : K.lookup f_law_row = some ⟨oc_law_row, od_law_row, .func (PySem.W.fnOf "_law_row" "_law_row" (defArgs st_law_row) (defBody st_law_row) (defScope st_law_row) .none kV_law_row dc_law_row pm_law_row an_law_row cd_law_row ct_law_row), sl_law_row⟩) (c_law_row : PySem.W.codeIn K cd_law_row "_law_row" = true) (k_law_row : PySem.W.keepIn K (.ref f_law_row) = true) (a_law_alike_rows : PySem.W.nsIn K mainGlobals "_law_alike_rows" = some (some (.ref f_law_alike_rows))) (l_law_alike_rows : K.lookup f_law_alike_rows = some ⟨oc_law_alike_rows, od_law_alike_rows, .func (PySem.W.fnOf "_law_alike_rows" "_law_alike_rows" (defArgs st_law_alike_rows) (defBody st_law_alike_rows) (defScope st_law_alike_rows) .none kV_law_alike_rows dc_law_alike_rows pm_law_alike_rows an_law_alike_rows cd_law_alike_rows ct_law_alike_rows), sl_law_alike_rows⟩) (c_law_alike_rows : PySem.W.codeIn K cd_law_alike_rows "_law_alike_rows" = true) (k_law_alike_rows : PySem.W.keepIn K (.ref f_law_alike_rows) = true) (a_law_alone : PySem.W.nsIn K mainGlobals "_law_alone" = some (some (.ref f_law_alone))) (l_law_alone : K.lookup f_law_alone = some ⟨oc_law_alone, od_law_alone, .func (PySem.W.fnOf "_law_alone" "_law_alone" (defArgs st_law_alone) (defBody st_law_alone) (defScope st_law_alone) .none kV_law_alone dc_law_alone pm_law_alone an_law_alone cd_law_alone ct_law_alone), sl_law_alone⟩) (c_law_alone : PySem.W.codeIn K cd_law_alone "_law_alone" = true) (k_law_alone : PySem.W.keepIn K (.ref f_law_alone) = true) (a_law_thing : PySem.W.nsIn K mainGlobals "_law_thing" = some (some (.ref f_law_thing))) (l_law_thing : K.lookup f_law_thing = some ⟨oc_law_thing, od_law_thing, .func (PySem.W.fnOf "_law_thing" "_law_thing" (defArgs st_law_thing) (defBody st_law_thing) (defScope st_law_thing) .none kV_law_thing dc_law_thing pm_law_thing an_law_thing cd_law_thing ct_law_thing), sl_law_thing⟩) (c_law_thing : PySem.W.codeIn K cd_law_thing "_law_thing" = true) (k_law_thing : PySem.W.keepIn K (.ref f_law_thing) = true) (a_law_good : PySem.W.nsIn K mainGlobals "_law_good" = some (some (.ref f_law_good))) (l_law_good : K.lookup f_law_good = some ⟨oc_law_good, od_law_good, .func (PySem.W.fnOf "_law_good" "_law_good" (defArgs st_law_good) (defBody st_law_good) (defScope st_law_good) .none kV_law_good dc_law_good pm_law_good an_law_good cd_law_good ct_law_good), sl_law_good⟩) (c_law_good : PySem.W.codeIn K cd_law_good "_law_good" = true) (k_law_good : PySem.W.keepIn K (.ref f_law_good) = true) (a_law_refused : PySem.W.nsIn K mainGlobals "_law_refused" = some (some (.ref f_law_refused))) (l_law_refused : K.lookup f_law_refused = some ⟨oc_law_refused, od_law_refused, .func (PySem.W.fnOf "_law_refused" "_law_refused" (defArgs st_law_refused) (defBody st_law_refused) (defScope st_law_refused) .none kV_law_refused dc_law_refused pm_law_refused an_law_refused cd_law_refused ct_law_refused), sl_law_refused⟩) (c_law_refused : PySem.W.codeIn K cd_law_refused "_law_refused" = true) (k_law_refused : PySem.W.keepIn K (.ref f_law_refused) = true) (a_law : PySem.W.nsIn K mainGlobals "law" = some (some (.ref f_law))) (l_law : K.lookup f_law = some ⟨oc_law, od_law, .func (PySem.W.fnOf "law" "law" (defArgs st_law) (defBody st_law) (defScope st_law) .none kV_law dc_law pm_law an_law cd_law ct_law), sl_law⟩) (c_law : PySem.W.codeIn K cd_law "law" = true) (k_law : PySem.W.keepIn K (.ref f_law) = true) (g_BadWeb : PySem.W.nsIn K mainGlobals "BadWeb" = some (some (.ref C_BadWeb))) (g_BadRow : PySem.W.nsIn K mainGlobals "BadRow" = some (some (.ref C_BadRow))) (g_BadCells : PySem.W.nsIn K mainGlobals "BadCells" = some (some (.ref C_BadCells))) (g_NoPoint : PySem.W.nsIn K mainGlobals "NoPoint" = some (some (.ref C_NoPoint))) (g_NoTurn : PySem.W.nsIn K mainGlobals "NoTurn" = some (some (.ref C_NoTurn))) (g_NoWeb : PySem.W.nsIn K mainGlobals "NoWeb" = some (some (.ref C_NoWeb))) (g_WebError : PySem.W.nsIn K mainGlobals "WebError" = some (some (.ref C_WebError))) (xx_BadRow : PySem.W.excIn K C_BadRow [.type "ValueError", .type "Exception", .type "BaseException", .type "object"] "ValueError.__new__" = true) (xk_BadRow : PySem.W.keepIn K (.ref C_BadRow) = true) (xb_BadRow : PySem.W.subIn K (.ref C_BadRow) (.type "BaseException") = some true) (xt_BadRow : PySem.W.typeIn K (.ref C_BadRow) = some (.type "type")) (xg_BadRow : PySem.W.findIn K (.ref C_BadRow) "__getattribute__" = some (some (.builtin "BaseException.__getattribute__"))) (xa_BadRow : PySem.W.findIn K (.ref C_BadRow) "__getattr__" = some none) (xd_BadRow : PySem.W.hasDictIn K C_BadRow = true) (xc_BadRow : PySem.W.findIn K (.ref C_BadRow) "__class__" = some (some (.builtin "object.__class__"))) (xm_BadRow : PySem.W.mroIn K C_BadRow (.type "object") = some true) (xw_BadRow : PySem.W.subIn K (.ref C_BadRow) (.ref C_WebError) = some true) (xi_BadRow_BadWeb : PySem.W.kitOne K (.ref C_BadRow) (.ref C_BadWeb) = some false) (xi_BadRow_BadRow : PySem.W.kitOne K (.ref C_BadRow) (.ref C_BadRow) = some true) (xi_BadRow_BadCells : PySem.W.kitOne K (.ref C_BadRow) (.ref C_BadCells) = some false) (xi_BadRow_NoPoint : PySem.W.kitOne K (.ref C_BadRow) (.ref C_NoPoint) = some false) (xi_BadRow_NoTurn : PySem.W.kitOne K (.ref C_BadRow) (.ref C_NoTurn) = some false) (xi_BadRow_NoWeb : PySem.W.kitOne K (.ref C_BadRow) (.ref C_NoWeb) = some false) (xv_BadRow : PySem.W.kitOne K (.ref C_BadRow) (.type "ValueError") = some true) (wb : PySem.W.subIn K (.ref C_WebError) (.type "BaseException") = some true) (wd : PySem.W.hasDictIn K C_WebError = true) (wt : PySem.W.typeIn K (.ref C_WebError) = some (.type "type")) (og : PySem.W.specialIn K (.builtin "object.__class__") "__get__" = some (some (.builtin "getset_descriptor.__get__"))) (ot : PySem.W.takesIn K (.builtin "object.__class__") = some true) (b_ValueError : PySem.W.nsIn K mainGlobals "ValueError" = some none) (b_all : PySem.W.nsIn K mainGlobals "all" = some none) (b_bool : PySem.W.nsIn K mainGlobals "bool" = some none) (b_enumerate : PySem.W.nsIn K mainGlobals "enumerate" = some none) (b_int : PySem.W.nsIn K mainGlobals "int" = some none) (b_isinstance : PySem.W.nsIn K mainGlobals "isinstance" = some none) (b_len : PySem.W.nsIn K mainGlobals "len" = some none) (b_list : PySem.W.nsIn K mainGlobals "list" = some none) (b_min : PySem.W.nsIn K mainGlobals "min" = some none) (b_range : PySem.W.nsIn K mainGlobals "range" = some none) (b_sorted : PySem.W.nsIn K mainGlobals "sorted" = some none) (b_tuple : PySem.W.nsIn K mainGlobals "tuple" = some none) (b_type : PySem.W.nsIn K mainGlobals "type" = some none)
    (tab : ∀ y ∈ (["is_row"] : List Str), ∀ c P, PySem.W.tabIn K y = some (c, P) → PySem.W.CodeHd h c P ∧ h.get? P = some { cls := .none, data := .fields #[] }) : LamX.LawAtS l w K (L2N.CX l.prog w) 7 63 "_law_script" mg fa h := by
  have hl := PySem.W.mg_of X G a_law
  have e := hfa.symm.trans hl
  cases e
  have F_law := fun_mk (st := st_law) l_law c_law k_law
  refine ⟨PySem.W.fnOf "law" "law" (defArgs st_law) (defBody st_law) (defScope st_law) .none kV_law dc_law pm_law an_law cd_law ct_law, [(cc_is_row, tP_is_row)], spD K [tP_is_row] mg false 1 M_law, ?_, ?_, ?_, fun s u => .of_eq rfl, fun H a nums hn hb tb hs => sp_true (fun P hP => ?_) hs (math_law nums hn hb), fun base kb gb tB => ?_⟩
  · intro p hp
    simp only [List.mem_cons, List.not_mem_nil, or_false] at hp
    rw [hp]
    exact (tab _ (by simp) _ _ t_is_row).2
  · intro p hp
    simp only [List.mem_cons, List.not_mem_nil, or_false] at hp
    rw [hp]
    exact n_is_row
  · intro p hp
    simp only [List.mem_cons, List.not_mem_nil, or_false] at hp
    rw [hp]
    exact (tab _ (by simp) _ _ t_is_row).1
  · have hp := hP
    simp only [List.mem_cons, List.not_mem_nil, or_false] at hp
    rw [hp]
    exact tb (cc_is_row, tP_is_row) (by simp)
  · have TB_is_row := tabB_of (tB (cc_is_row, tP_is_row) (by simp))
    have K_BadRow : ExcK K C_BadRow := ⟨xx_BadRow, xk_BadRow, xb_BadRow, xt_BadRow⟩
    have Q_BadRow : ExcC K C_BadRow := ⟨xg_BadRow, xa_BadRow, xb_BadRow, xd_BadRow, xc_BadRow, og, ot, xm_BadRow⟩
    have E_BadRow : PySem.W.exmOne K (.ref C_BadRow) (.ref C_WebError) = some true := PySem.W.exm_ref wb wd wt xw_BadRow
    have B_ValueError : mg "ValueError" = none := PySem.W.mg_none_of X G b_ValueError
    have B_all : mg "all" = none := PySem.W.mg_none_of X G b_all
    have B_bool : mg "bool" = none := PySem.W.mg_none_of X G b_bool
    have B_enumerate : mg "enumerate" = none := PySem.W.mg_none_of X G b_enumerate
    have B_int : mg "int" = none := PySem.W.mg_none_of X G b_int
    have B_isinstance : mg "isinstance" = none := PySem.W.mg_none_of X G b_isinstance
    have B_len : mg "len" = none := PySem.W.mg_none_of X G b_len
    have B_list : mg "list" = none := PySem.W.mg_none_of X G b_list
    have B_min : mg "min" = none := PySem.W.mg_none_of X G b_min
    have B_range : mg "range" = none := PySem.W.mg_none_of X G b_range
    have B_sorted : mg "sorted" = none := PySem.W.mg_none_of X G b_sorted
    have B_tuple : mg "tuple" = none := PySem.W.mg_none_of X G b_tuple
    have B_type : mg "type" = none := PySem.W.mg_none_of X G b_type
    have G_BadWeb : mg "BadWeb" = some (.ref C_BadWeb) := PySem.W.mg_of X G g_BadWeb
    have G_BadRow : mg "BadRow" = some (.ref C_BadRow) := PySem.W.mg_of X G g_BadRow
    have G_BadCells : mg "BadCells" = some (.ref C_BadCells) := PySem.W.mg_of X G g_BadCells
    have G_NoPoint : mg "NoPoint" = some (.ref C_NoPoint) := PySem.W.mg_of X G g_NoPoint
    have G_NoTurn : mg "NoTurn" = some (.ref C_NoTurn) := PySem.W.mg_of X G g_NoTurn
    have G_NoWeb : mg "NoWeb" = some (.ref C_NoWeb) := PySem.W.mg_of X G g_NoWeb
    have G_WebError : mg "WebError" = some (.ref C_WebError) := PySem.W.mg_of X G g_WebError
    have M_is_whole := PySem.W.mg_of X G a_is_whole
    have F_is_whole := fun_mk (st := st_is_whole) l_is_whole c_is_whole k_is_whole
    have N_is_whole := F_is_whole.binds (ps := ["thing"]) fun _ _ _ _ _ _ us hl => match us, hl with | [_], _ => rfl
    have M_is_row := PySem.W.mg_of X G a_is_row
    have F_is_row := fun_mk (st := st_is_row) l_is_row c_is_row k_is_row
    have N_is_row := F_is_row.binds (ps := ["thing", "size"]) fun _ _ _ _ _ _ us hl => match us, hl with | [_, _], _ => rfl
    have M_behind := PySem.W.mg_of X G a_behind
    have F_behind := fun_mk (st := st_behind) l_behind c_behind k_behind
    have N_behind := F_behind.binds (ps := ["one", "other"]) fun _ _ _ _ _ _ us hl => match us, hl with | [_, _], _ => rfl
    have M_back := PySem.W.mg_of X G a_back
    have F_back := fun_mk (st := st_back) l_back c_back k_back
    have N_back := F_back.binds (ps := ["row"]) fun _ _ _ _ _ _ us hl => match us, hl with | [_], _ => rfl
    have M_size_of := PySem.W.mg_of X G a_size_of
    have F_size_of := fun_mk (st := st_size_of) l_size_of c_size_of k_size_of
    have N_size_of := F_size_of.binds (ps := ["thing"]) fun _ _ _ _ _ _ us hl => match us, hl with | [_], _ => rfl
    have M_law_cell_at := PySem.W.mg_of X G a_law_cell_at
    have F_law_cell_at := fun_mk (st := st_law_cell_at) l_law_cell_at c_law_cell_at k_law_cell_at
    have N_law_cell_at := F_law_cell_at.binds (ps := ["_law_script", "_law_k"]) fun _ _ _ _ _ _ us hl => match us, hl with | [_, _], _ => rfl
    have M_law_mixed := PySem.W.mg_of X G a_law_mixed
    have F_law_mixed := fun_mk (st := st_law_mixed) l_law_mixed c_law_mixed k_law_mixed
    have N_law_mixed := F_law_mixed.binds (ps := ["_law_cell", "_law_k"]) fun _ _ _ _ _ _ us hl => match us, hl with | [_, _], _ => rfl
    have M_law_whole := PySem.W.mg_of X G a_law_whole
    have F_law_whole := fun_mk (st := st_law_whole) l_law_whole c_law_whole k_law_whole
    have N_law_whole := F_law_whole.binds (ps := ["_law_found"]) fun _ _ _ _ _ _ us hl => match us, hl with | [_], _ => rfl
    have M_law_row := PySem.W.mg_of X G a_law_row
    have F_law_row := fun_mk (st := st_law_row) l_law_row c_law_row k_law_row
    have N_law_row := F_law_row.binds (ps := ["_law_size", "_law_number"]) fun _ _ _ _ _ _ us hl => match us, hl with | [_, _], _ => rfl
    have M_law_alike_rows := PySem.W.mg_of X G a_law_alike_rows
    have F_law_alike_rows := fun_mk (st := st_law_alike_rows) l_law_alike_rows c_law_alike_rows k_law_alike_rows
    have N_law_alike_rows := F_law_alike_rows.binds (ps := ["_law_found", "_law_due"]) fun _ _ _ _ _ _ us hl => match us, hl with | [_, _], _ => rfl
    have M_law_alone := PySem.W.mg_of X G a_law_alone
    have F_law_alone := fun_mk (st := st_law_alone) l_law_alone c_law_alone k_law_alone
    have N_law_alone := F_law_alone.binds (ps := ["_law_e", "_law_which"]) fun _ _ _ _ _ _ us hl => match us, hl with | [_, _], _ => rfl
    have M_law_thing := PySem.W.mg_of X G a_law_thing
    have F_law_thing := fun_mk (st := st_law_thing) l_law_thing c_law_thing k_law_thing
    have N_law_thing := F_law_thing.binds (ps := ["_law_row_here", "_law_cell"]) fun _ _ _ _ _ _ us hl => match us, hl with | [_, _], _ => rfl
    have M_law_good := PySem.W.mg_of X G a_law_good
    have F_law_good := fun_mk (st := st_law_good) l_law_good c_law_good k_law_good
    have N_law_good := F_law_good.binds (ps := ["_law_thing_here", "_law_size"]) fun _ _ _ _ _ _ us hl => match us, hl with | [_, _], _ => rfl
    have M_law_refused := PySem.W.mg_of X G a_law_refused
    have F_law_refused := fun_mk (st := st_law_refused) l_law_refused c_law_refused k_law_refused
    have N_law_refused := F_law_refused.binds (ps := ["_law_way", "_law_one", "_law_other"]) fun _ _ _ _ _ _ us hl => match us, hl with | [_, _, _], _ => rfl
    have Y_is_whole := qd_is_whole (P := l.prog) (w := w) (K := K) (mg := mg) (base := base) F_is_whole M_is_whole N_is_whole (b_int := B_int) (b_type := B_type)
    have A_BadRow := hot_law_alone (P := l.prog) (w := w) (K := K) (mg := mg) (base := base) F_law_alone M_law_alone N_law_alone Q_BadRow B_isinstance B_range B_ValueError G_BadWeb G_BadRow G_BadCells G_NoPoint G_NoTurn G_NoWeb xi_BadRow_BadWeb xi_BadRow_BadRow xi_BadRow_BadCells xi_BadRow_NoPoint xi_BadRow_NoTurn xi_BadRow_NoWeb xv_BadRow
    have D_is_whole := ok_is_whole (P := l.prog) (w := w) (K := K) (T := [tP_is_row]) (mg := mg) (base := base) F_is_whole M_is_whole N_is_whole (b_int := B_int) (b_type := B_type)
    have D_is_row := ok_is_row (P := l.prog) (w := w) (K := K) (T := [tP_is_row]) (mg := mg) (base := base) F_is_row M_is_row N_is_row (hc := rfl) (TB := TB_is_row) (hP := by simp) (b_all := B_all) (f_is_whole := D_is_whole) (b_len := B_len) (b_list := B_list) (q_is_whole := Y_is_whole) (b_range := B_range) (b_sorted := B_sorted) (b_type := B_type)
    have D_size_of := ok_size_of (P := l.prog) (w := w) (K := K) (T := [tP_is_row]) (mg := mg) (base := base) F_size_of M_size_of N_size_of (f_is_row := D_is_row) (g_BadRow := G_BadRow) (x_BadRow := K_BadRow) (b_len := B_len) (b_list := B_list) (b_type := B_type)
    have D_behind := ok_behind (P := l.prog) (w := w) (K := K) (T := [tP_is_row]) (mg := mg) (base := base) F_behind M_behind N_behind (f__size_of := D_size_of) (f_is_row := D_is_row) (g_BadRow := G_BadRow) (x_BadRow := K_BadRow)
    have D_back := ok_back (P := l.prog) (w := w) (K := K) (T := [tP_is_row]) (mg := mg) (base := base) F_back M_back N_back (f__size_of := D_size_of) (b_enumerate := B_enumerate)
    have D_law_cell_at := ok_law_cell_at (P := l.prog) (w := w) (K := K) (T := [tP_is_row]) (mg := mg) (base := base) F_law_cell_at M_law_cell_at N_law_cell_at (b_len := B_len)
    have D_law_mixed := ok_law_mixed (P := l.prog) (w := w) (K := K) (T := [tP_is_row]) (mg := mg) (base := base) F_law_mixed M_law_mixed N_law_mixed 
    have D_law_whole := ok_law_whole (P := l.prog) (w := w) (K := K) (T := [tP_is_row]) (mg := mg) (base := base) F_law_whole M_law_whole N_law_whole (b_bool := B_bool) (b_int := B_int) (b_isinstance := B_isinstance)
    have D_law_row := ok_law_row (P := l.prog) (w := w) (K := K) (T := [tP_is_row]) (mg := mg) (base := base) F_law_row M_law_row N_law_row (b_len := B_len) (b_list := B_list) (b_range := B_range)
    have D_law_alike_rows := ok_law_alike_rows (P := l.prog) (w := w) (K := K) (T := [tP_is_row]) (mg := mg) (base := base) F_law_alike_rows M_law_alike_rows N_law_alike_rows (b_all := B_all) (f__law_whole := D_law_whole) (b_isinstance := B_isinstance) (b_len := B_len) (b_list := B_list)
    have D_law_thing := ok_law_thing (P := l.prog) (w := w) (K := K) (T := [tP_is_row]) (mg := mg) (base := base) F_law_thing M_law_thing N_law_thing (b_len := B_len) (b_list := B_list) (b_min := B_min) (b_tuple := B_tuple)
    have D_law_good := ok_law_good (P := l.prog) (w := w) (K := K) (T := [tP_is_row]) (mg := mg) (base := base) F_law_good M_law_good N_law_good (f__law_whole := D_law_whole) (b_isinstance := B_isinstance) (b_len := B_len) (b_list := B_list) (b_range := B_range)
    have D_law_refused := ok_law_refused (P := l.prog) (w := w) (K := K) (T := [tP_is_row]) (mg := mg) (base := base) F_law_refused M_law_refused N_law_refused (g_BadRow := G_BadRow) (g_WebError := G_WebError) (f_back := D_back) (f_behind := D_behind) (e_BadRow_WebError := E_BadRow) (h__law_alone_BadRow := A_BadRow) (r__law_alone_BadRow := alone_BadRow)
    exact fn_law (P := l.prog) (w := w) (K := K) (T := [tP_is_row]) (mg := mg) (base := base) F_law (b_bool := B_bool) (f__law_alike_rows := D_law_alike_rows) (f__law_cell_at := D_law_cell_at) (f__law_good := D_law_good) (f__law_mixed := D_law_mixed) (f__law_refused := D_law_refused) (f__law_row := D_law_row) (f__law_thing := D_law_thing) (f_back := D_back) (f_behind := D_behind) (f_is_row := D_is_row) (b_isinstance := B_isinstance) (b_len := B_len) (b_list := B_list) (b_range := B_range)
end K1
open PySem PySem.W PyProof.Rows
set_option maxRecDepth 100000 in
set_option maxHeartbeats 8000000 in
theorem PySem.Challenge.cw_sameweb_k01_rows_holds : PySem.Challenge.rw_sameweb_k01_rows.Holds := by
  w_on; o_law; k_head; (case hw => w_witness2)
  k_fill
  refine Mr.walk_tabs (l := PySem.Challenge.rw_sameweb_k01_rows) (k := 7) (n := 63) (CX := fun w => L2N.CX (PySem.Challenge.rw_sameweb_k01_rows).prog w) (x := "_law_script") ["is_row"] rfl (by decide) rfl ⟨rfl, by decide, by decide⟩ (by decide +kernel) (fun w h Y => PySem.W.kIn_of Y) ?F (fun w H s e s' => Mr.cxN_end w H s e s')
  case F =>
    intro w mg fa h Y KX G hmg tab
    refine' K1.all_mk KX G hmg 0 ?a_is_whole ?l_is_whole ?c_is_whole ?k_is_whole ?a_is_row ?l_is_row ?c_is_row ?k_is_row ?t_is_row ?n_is_row ?a_behind ?l_behind ?c_behind ?k_behind ?a_back ?l_back ?c_back ?k_back ?a_size_of ?l_size_of ?c_size_of ?k_size_of ?a_law_cell_at ?l_law_cell_at ?c_law_cell_at ?k_law_cell_at ?a_law_mixed ?l_law_mixed ?c_law_mixed ?k_law_mixed ?a_law_whole ?l_law_whole ?c_law_whole ?k_law_whole ?a_law_row ?l_law_row ?c_law_row ?k_law_row ?a_law_alike_rows ?l_law_alike_rows ?c_law_alike_rows ?k_law_alike_rows ?a_law_alone ?l_law_alone ?c_law_alone ?k_law_alone ?a_law_thing ?l_law_thing ?c_law_thing ?k_law_thing ?a_law_good ?l_law_good ?c_law_good ?k_law_good ?a_law_refused ?l_law_refused ?c_law_refused ?k_law_refused ?a_law ?l_law ?c_law ?k_law ?g_BadWeb ?g_BadRow ?g_BadCells ?g_NoPoint ?g_NoTurn ?g_NoWeb ?g_WebError ?xx_BadRow ?xk_BadRow ?xb_BadRow ?xt_BadRow ?xg_BadRow ?xa_BadRow ?xd_BadRow ?xc_BadRow ?xm_BadRow ?xw_BadRow ?xi_BadRow_BadWeb ?xi_BadRow_BadRow ?xi_BadRow_BadCells ?xi_BadRow_NoPoint ?xi_BadRow_NoTurn ?xi_BadRow_NoWeb ?xv_BadRow ?wb ?wd ?wt ?og ?ot ?b_ValueError ?b_all ?b_bool ?b_enumerate ?b_int ?b_isinstance ?b_len ?b_list ?b_min ?b_range ?b_sorted ?b_tuple ?b_type tab
    (case a_is_whole => k_is)
    (case l_is_whole => k_is)
    (case c_is_whole => k_is)
    (case k_is_whole => k_is)
    (case a_is_row => k_is)
    (case l_is_row => k_is)
    (case c_is_row => k_is)
    (case k_is_row => k_is)
    (case t_is_row => refine' Mr.tab_in ?h1 ?h2 ?h3 ?h4 ?h5; (case h1 => k_is); (case h2 => k_is); (case h3 => rfl); (case h4 => k_is); (case h5 => rfl))
    (case n_is_row => first | rfl | k_is | decide +kernel)
    (case a_behind => k_is)
    (case l_behind => k_is)
    (case c_behind => k_is)
    (case k_behind => k_is)
    (case a_back => k_is)
    (case l_back => k_is)
    (case c_back => k_is)
    (case k_back => k_is)
    (case a_size_of => k_is)
    (case l_size_of => k_is)
    (case c_size_of => k_is)
    (case k_size_of => k_is)
    (case a_law_cell_at => k_is)
    (case l_law_cell_at => k_is)
    (case c_law_cell_at => k_is)
    (case k_law_cell_at => k_is)
    (case a_law_mixed => k_is)
    (case l_law_mixed => k_is)
    (case c_law_mixed => k_is)
    (case k_law_mixed => k_is)
    (case a_law_whole => k_is)
    (case l_law_whole => k_is)
    (case c_law_whole => k_is)
    (case k_law_whole => k_is)
    (case a_law_row => k_is)
    (case l_law_row => k_is)
    (case c_law_row => k_is)
    (case k_law_row => k_is)
    (case a_law_alike_rows => k_is)
    (case l_law_alike_rows => k_is)
    (case c_law_alike_rows => k_is)
    (case k_law_alike_rows => k_is)
    (case a_law_alone => k_is)
    (case l_law_alone => k_is)
    (case c_law_alone => k_is)
    (case k_law_alone => k_is)
    (case a_law_thing => k_is)
    (case l_law_thing => k_is)
    (case c_law_thing => k_is)
    (case k_law_thing => k_is)
    (case a_law_good => k_is)
    (case l_law_good => k_is)
    (case c_law_good => k_is)
    (case k_law_good => k_is)
    (case a_law_refused => k_is)
    (case l_law_refused => k_is)
    (case c_law_refused => k_is)
    (case k_law_refused => k_is)
    (case a_law => k_is)
    (case l_law => k_is)
    (case c_law => k_is)
    (case k_law => k_is)
    (case g_BadWeb => k_is)
    (case g_BadRow => k_is)
    (case g_BadCells => k_is)
    (case g_NoPoint => k_is)
    (case g_NoTurn => k_is)
    (case g_NoWeb => k_is)
    (case g_WebError => k_is)
    (case xx_BadRow => k_exc)
    (case xk_BadRow => k_is)
    (case xb_BadRow => k_is)
    (case xt_BadRow => k_is)
    (case xg_BadRow => k_is)
    (case xa_BadRow => k_is)
    (case xd_BadRow => k_is)
    (case xc_BadRow => k_is)
    (case xm_BadRow => k_is)
    (case xw_BadRow => k_is)
    (case xi_BadRow_BadWeb => refine' Mr.kit_ref ?_ ?_ ?_ (by decide +kernel) <;> k_is)
    (case xi_BadRow_BadRow => exact Mr.kit_self)
    (case xi_BadRow_BadCells => refine' Mr.kit_ref ?_ ?_ ?_ (by decide +kernel) <;> k_is)
    (case xi_BadRow_NoPoint => refine' Mr.kit_ref ?_ ?_ ?_ (by decide +kernel) <;> k_is)
    (case xi_BadRow_NoTurn => refine' Mr.kit_ref ?_ ?_ ?_ (by decide +kernel) <;> k_is)
    (case xi_BadRow_NoWeb => refine' Mr.kit_ref ?_ ?_ ?_ (by decide +kernel) <;> k_is)
    (case xv_BadRow => refine' Mr.kit_ve ?_; k_is)
    (case wb => k_is)
    (case wd => k_is)
    (case wt => k_is)
    (case og => k_is)
    (case ot => k_is)
    (case b_ValueError => k_is)
    (case b_all => k_is)
    (case b_bool => k_is)
    (case b_enumerate => k_is)
    (case b_int => k_is)
    (case b_isinstance => k_is)
    (case b_len => k_is)
    (case b_list => k_is)
    (case b_min => k_is)
    (case b_range => k_is)
    (case b_sorted => k_is)
    (case b_tuple => k_is)
    (case b_type => k_is)
