import PyProof.Rows.All
import Wide.All
import OpenK.AllK
import Wide.FinOn
import PyProof.EqAt
import PyProof.EqKinds
import PyProof.TupleCall
import HandS.ForMost
import HandS.ForExc
import HandS.AnyAll
import HandS.Wide
import HandS.Walk
import HandS.More
import HandS.Deep
import HandS.IsInst
import HandS.Style
import HandS.ExcCtx
import HandS.HotCalls
import HandS.ExcIs
import KE.KDictKeyed
import HandS.SortInts
import HandS.SortRule
import HandS.SetFor
import HandS.Conv
import HandS.TupSets
import HandS.EndTab
import KE.KNest
import PySem.Challenge.RW_sameweb_k02_webs
set_option Elab.async false
set_option linter.all false
set_option maxRecDepth 100000
set_option maxHeartbeats 8000000
/-! Data-level readings: a value is told by the data that it stands for; an expression's reading is told by a function over the frame's data. -/
namespace Mr
open PySem L2
abbrev St := L2.St

/-! ### answers of the mirror -/
inductive Md (α : Type) where
  | ok (a : α) | exc (c : Str) | bad
def Md.bind {α β : Type} (m : Md α) (f : α → Md β) : Md β := match m with
  | .ok a => f a
  | .exc c => .exc c
  | .bad => .bad
instance : Monad Md where
  pure := Md.ok
  bind := Md.bind
/-- what must hold behind m -/
def Wp {α : Type} (m : Md α) (post : α → Prop) (ex : Str → Prop) : Prop := match m with
  | .ok a => post a
  | .exc c => ex c
  | .bad => False
theorem Wp.bind {α β : Type} {m : Md α} {f : α → Md β} {post : β → Prop} {ex : Str → Prop} (h : Wp (m.bind f) post ex) : Wp m (fun a => Wp (f a) post ex) ex := by
  cases m <;> exact h
theorem Wp.mono {α : Type} {m : Md α} {p q : α → Prop} {ex ex' : Str → Prop} (h : Wp m p ex) (hp : ∀ a, p a → q a) (he : ∀ c, ex c → ex' c) : Wp m q ex' := by
  cases m with
  | ok a => exact hp a h
  | exc c => exact he c h
  | bad => exact h

/-! ### data -/
inductive Dt where
  | non | bl (b : Bool) | int (i : Int) | str (x : Str) | ty (n : String)
  | lst (xs : List Dt) | tup (xs : List Dt) | ins (C : Addr) (ns : List Str) (ds : List Dt)
  /-- a list, a tuple that is only read: the script, what the text has written -/
  | lsk (xs : List Dt) | tpk (xs : List Dt)
  /-- an empty dict -/
  | dic
  /-- a dict that is only read: its keys, its values -/
  | dct (ks : List Key) (ds : List Dt)
  /-- an object by its address -/
  | adr (a : Addr)
  /-- a thing that may be changed, by its number -/
  | loc (n : Nat)
/-- what a thing that may be changed holds -/
inductive Cl where
  | lst (ds : List Dt) | ins (C : Addr) (ns : List Str) (ds : List Dt)
  | dK (ks : List Key) (ds : List Dt) | dN (ks : List PySem.NestedKey) (ds : List Dt)
/-- the text's facts; where the things that may be changed stand, what they hold -/
structure Kx where
  f : PySem.W.Frag
  r : List Addr
  m : List Cl
instance : Coe Kx PySem.W.Frag := ⟨Kx.f⟩

/-! ### heaps -/
/-- all but code tables stays; tables stay tables -/
structure Ex (H H' : Hp) : Prop where
  same : ∀ b o, H b = some o → (∀ ps, o ≠ .tbl ps) → H' b = some o
  tabs : ∀ P ps, H P = some (.tbl ps) → ∃ qs, H' P = some (.tbl qs) ∧ (TriplesOk ps.toList → TriplesOk qs.toList)
theorem Ex.refl (H : Hp) : Ex H H := ⟨fun _ _ h _ => h, fun _ ps h => ⟨ps, h, fun t => t⟩⟩
theorem Ex.trans {H H1 H2 : Hp} (a : Ex H H1) (b : Ex H1 H2) : Ex H H2 := ⟨fun x o h n => b.same x o (a.same x o h n) n, fun P ps h => by
  obtain ⟨qs, h1, k1⟩ := a.tabs P ps h
  obtain ⟨rs, h2, k2⟩ := b.tabs P qs h1
  exact ⟨rs, h2, fun t => k2 (k1 t)⟩⟩
theorem Ex.tabG {H H' : Hp} (e : Ex H H') {P : Addr} (h : GxR.TabG H P) : GxR.TabG H' P := by
  obtain ⟨ps, q, t⟩ := h
  obtain ⟨qs, h1, k1⟩ := e.tabs P ps q
  exact ⟨qs, h1, k1 t⟩
theorem Ex.new {H : Hp} {p : Addr} {o : HO} (h : H p = none) : Ex H (upd H p o) := by
  refine ⟨fun b u e _ => ?_, fun P ps e => ⟨ps, ?_, fun t => t⟩⟩
  · rw [upd_ne (ne_of_none e h)]
    exact e
  · rw [upd_ne (ne_of_none e h)]
    exact e
/-- an object that the older heap doesn't know may change -/
theorem Ex.mut {G H : Hp} {p : Addr} {o : HO} (e : Ex G H) (h : G p = none) : Ex G (upd H p o) := by
  refine ⟨fun b u q n => ?_, fun P ps q => ?_⟩
  · rw [upd_ne (ne_of_none q h)]
    exact e.same b u q n
  · obtain ⟨qs, h1, k1⟩ := e.tabs P ps q
    exact ⟨qs, by rw [upd_ne (ne_of_none q h)]; exact h1, k1⟩
theorem Ex.lst {H H' : Hp} (e : Ex H H') {a : Addr} {xs : List V} (h : H a = some (.lst xs)) : H' a = some (.lst xs) := e.same a _ h fun _ z => by cases z
theorem Ex.tup {H H' : Hp} (e : Ex H H') {a : Addr} {xs : List V} (h : H a = some (.tup xs)) : H' a = some (.tup xs) := e.same a _ h fun _ z => by cases z
theorem Ex.ins {H H' : Hp} (e : Ex H H') {a C dx : Addr} {fs : List (Str × V)} (h : H a = some (.ins C dx fs)) : H' a = some (.ins C dx fs) := e.same a _ h fun _ z => by cases z
theorem Ex.ne {H H' : Hp} (e : Ex H H') {b : Addr} (h : H b ≠ none) : H' b ≠ none := by
  cases q : H b with
  | none => exact absurd q h
  | some o =>
    by_cases t : ∃ ps, o = .tbl ps
    · obtain ⟨ps, t⟩ := t
      rw [t] at q
      obtain ⟨qs, h1, _⟩ := e.tabs b ps q
      rw [h1]
      exact fun z => by cases z
    · rw [e.same b o q (fun ps z => t ⟨ps, z⟩)]
      exact fun z => by cases z
theorem Ex.free {H H' : Hp} (e : Ex H H') {b : Addr} (h : H' b = none) : H b = none := by
  cases q : H b with
  | none => rfl
  | some o => exact absurd h (e.ne (by rw [q]; exact fun z => by cases z))
theorem Ex.rd {H H' : Hp} {a : Addr} {u : HO} (e : Ex H H') (hu : ∀ ps, u ≠ .tbl ps) (h : Rd H a u) : Rd H' a u := by
  rcases h with h | ⟨o, h⟩
  · exact .inl (e.same a _ h hu)
  · exact .inr ⟨o, e.same a _ h fun ps z => by cases z⟩
theorem Ex.sqL {K : PySem.W.Frag} {H H' : Hp} {a : Addr} {xs : List V} (e : Ex H H') (h : SqL K H a xs) : SqL K H' a xs := by
  rcases h with h | h
  · exact .inl (e.rd (fun ps z => by cases z) h)
  · exact .inr h
theorem Ex.sqT {K : PySem.W.Frag} {H H' : Hp} {a : Addr} {xs : List V} (e : Ex H H') (h : SqT K H a xs) : SqT K H' a xs := by
  rcases h with h | h
  · exact .inl (e.rd (fun ps z => by cases z) h)
  · exact .inr h

/-! ### which value stands for which data -/
mutual
inductive Rp (K : Kx) (H : Hp) : V → Dt → Prop
  | non : Rp K H .non .non
  | bl (b : Bool) : Rp K H (.bl b) (.bl b)
  | int (i : Int) : Rp K H (.int i) (.int i)
  | str (x : Str) : Rp K H (.str x) (.str x)
  | ty (n : String) : Rp K H (.ty n) (.ty n)
  | lst {a : Addr} {vs : List V} {ds : List Dt} : H a = some (.lst vs) → RpL K H vs ds → Rp K H (.ref a) (.lst ds)
  | tup {a : Addr} {vs : List V} {ds : List Dt} : H a = some (.tup vs) → RpL K H vs ds → Rp K H (.ref a) (.tup ds)
  | lsk {a : Addr} {vs : List V} {ds : List Dt} : SqL K.f H a vs → RpL K H vs ds → Rp K H (.ref a) (.lsk ds)
  | tpk {a : Addr} {vs : List V} {ds : List Dt} : SqT K.f H a vs → RpL K H vs ds → Rp K H (.ref a) (.tpk ds)
  | dic {a : Addr} : H a = some (.dK []) → Rp K H (.ref a) .dic
  | dct {a : Addr} {kvs : List (Key × V)} {ds : List Dt} : H a = some (.dK kvs) → RpL K H (kvs.map (·.2)) ds → Rp K H (.ref a) (.dct (kvs.map (·.1)) ds)
  | adr (a : Addr) : Rp K H (.ref a) (.adr a)
  | loc {a : Addr} {n : Nat} : K.r[n]? = some a → Rp K H (.ref a) (.loc n)
  | ins {a C dx : Addr} {fs : List (Str × V)} {ds : List Dt} : H a = some (.ins C dx fs) → RpL K H (fs.map (·.2)) ds → Rp K H (.ref a) (.ins C (fs.map (·.1)) ds)
inductive RpL (K : Kx) (H : Hp) : List V → List Dt → Prop
  | nil : RpL K H [] []
  | cons {v : V} {vs : List V} {d : Dt} {ds : List Dt} : Rp K H v d → RpL K H vs ds → RpL K H (v :: vs) (d :: ds)
end
section
variable {K : Kx} {H H' : Hp}
mutual
theorem Rp.mono (e : Ex H H') : ∀ {v : V} {d : Dt}, Rp K H v d → Rp K H' v d
  | _, _, .non => .non
  | _, _, .bl b => .bl b
  | _, _, .int i => .int i
  | _, _, .str x => .str x
  | _, _, .ty n => .ty n
  | _, _, .lst h r => .lst (e.lst h) (RpL.mono e r)
  | _, _, .tup h r => .tup (e.tup h) (RpL.mono e r)
  | _, _, .lsk h r => .lsk (e.sqL h) (RpL.mono e r)
  | _, _, .tpk h r => .tpk (e.sqT h) (RpL.mono e r)
  | _, _, .dic h => .dic (e.same _ _ h fun _ z => by cases z)
  | _, _, .dct h r => .dct (e.same _ _ h fun _ z => by cases z) (RpL.mono e r)
  | _, _, .adr a => .adr a
  | _, _, .loc h => .loc h
  | _, _, .ins h r => .ins (e.ins h) (RpL.mono e r)
theorem RpL.mono (e : Ex H H') : ∀ {vs : List V} {ds : List Dt}, RpL K H vs ds → RpL K H' vs ds
  | _, _, .nil => .nil
  | _, _, .cons h r => .cons (Rp.mono e h) (RpL.mono e r)
end
theorem RpL.length : ∀ {vs : List V} {ds : List Dt}, RpL K H vs ds → vs.length = ds.length
  | _, _, .nil => rfl
  | _, _, .cons _ r => congrArg (· + 1) r.length
theorem RpL.get : ∀ {vs : List V} {ds : List Dt} {i : Nat} {v : V}, RpL K H vs ds → vs[i]? = some v → ∃ d, ds[i]? = some d ∧ Rp K H v d
  | _, _, _, _, .nil, e => by simp at e
  | _, _, 0, _, .cons h _, e => ⟨_, rfl, by cases e; exact h⟩
  | _, _, i + 1, v, .cons _ r, e => RpL.get (i := i) (v := v) r e
theorem RpL.at : ∀ {vs : List V} {ds : List Dt} {i : Nat} {d : Dt}, RpL K H vs ds → ds[i]? = some d → ∃ v, vs[i]? = some v ∧ Rp K H v d
  | _, _, _, _, .nil, e => by simp at e
  | _, _, 0, _, .cons h _, e => ⟨_, rfl, by cases e; exact h⟩
  | _, _, i + 1, d, .cons _ r, e => RpL.at (i := i) (d := d) r e
theorem RpL.app : ∀ {vs ws : List V} {ds es : List Dt}, RpL K H vs ds → RpL K H ws es → RpL K H (vs ++ ws) (ds ++ es)
  | _, _, _, _, .nil, s => s
  | _, _, _, _, .cons h r, s => .cons h (RpL.app r s)
theorem RpL.one {v : V} {d : Dt} (h : Rp K H v d) : RpL K H [v] [d] := .cons h .nil
theorem RpL.take : ∀ {vs : List V} {ds : List Dt} (n : Nat), RpL K H vs ds → RpL K H (vs.take n) (ds.take n)
  | _, _, 0, _ => .nil
  | _, _, _ + 1, .nil => .nil
  | _, _, n + 1, .cons h r => .cons h (RpL.take n r)
theorem RpL.drop : ∀ {vs : List V} {ds : List Dt} (n : Nat), RpL K H vs ds → RpL K H (vs.drop n) (ds.drop n)
  | _, _, 0, r => r
  | _, _, _ + 1, .nil => .nil
  | _, _, n + 1, .cons _ r => RpL.drop n r
theorem RpL.set {v : V} {d : Dt} (h : Rp K H v d) : ∀ {vs : List V} {ds : List Dt} (i : Nat), RpL K H vs ds → RpL K H (vs.set i v) (ds.set i d)
  | _, _, _, .nil => .nil
  | _, _, 0, .cons _ r => .cons h r
  | _, _, i + 1, .cons q r => .cons q (RpL.set h i r)
theorem RpL.erase : ∀ {vs : List V} {ds : List Dt} (i : Nat), RpL K H vs ds → RpL K H (vs.eraseIdx i) (ds.eraseIdx i)
  | _, _, _, .nil => .nil
  | _, _, 0, .cons _ r => r
  | _, _, i + 1, .cons q r => .cons q (RpL.erase i r)
theorem RpL.rev {vs : List V} {ds : List Dt} (h : RpL K H vs ds) : RpL K H vs.reverse ds.reverse := by
  have key : ∀ {vs : List V} {ds : List Dt}, RpL K H vs ds → RpL K H vs.reverse ds.reverse := by
    intro vs
    induction vs with
    | nil => intro ds h; cases h; exact .nil
    | cons v r ih =>
      intro ds h
      cases h with
      | cons h1 h2 =>
        rw [List.reverse_cons, List.reverse_cons]
        exact (ih h2).app (.one h1)
  exact key h
theorem RpL.rep {vs : List V} {ds : List Dt} (h : RpL K H vs ds) : ∀ k : Nat, RpL K H (List.replicate k vs).flatten (List.replicate k ds).flatten
  | 0 => .nil
  | k + 1 => by
    rw [List.replicate_succ, List.replicate_succ, List.flatten_cons, List.flatten_cons]
    exact h.app (RpL.rep h k)
theorem RpL.of_at {vs : List V} {ds : List Dt} (hl : vs.length = ds.length) (h : ∀ (i : Nat) v d, vs[i]? = some v → ds[i]? = some d → Rp K H v d) : RpL K H vs ds := by
  induction vs generalizing ds with
  | nil =>
    cases ds with
    | nil => exact .nil
    | cons d r => cases hl
  | cons v r ih =>
    cases ds with
    | nil => cases hl
    | cons d s =>
      refine .cons (h 0 v d rfl rfl) (ih (Nat.succ.inj hl) fun i v' d' h1 h2 => h (i + 1) v' d' h1 h2)
end

/-! ### growth: H the heap, S what may be shared (no list that the frame still changes) -/
structure Gr (H S H' S' : Hp) : Prop where
  hh : Ex H H'
  ss : Ex S S'
  sh : Ex S' H'
  fr : ∀ b, H b ≠ none → S b = none → S' b = none
theorem Gr.refl {H S : Hp} (h : Ex S H) : Gr H S H S := ⟨Ex.refl H, Ex.refl S, h, fun _ _ z => z⟩
theorem Gr.trans {H S H1 S1 H2 S2 : Hp} (a : Gr H S H1 S1) (b : Gr H1 S1 H2 S2) : Gr H S H2 S2 :=
  ⟨a.hh.trans b.hh, a.ss.trans b.ss, b.sh, fun c h z => b.fr c (a.hh.ne h) (a.fr c h z)⟩
/-- a new object that may be shared -/
theorem Gr.new {H S : Hp} (h : Ex S H) {p : Addr} {o : HO} (n : H p = none) : Gr H S (upd H p o) (upd S p o) := by
  have nS : S p = none := h.free n
  refine ⟨Ex.new n, Ex.new nS, ⟨fun b u e k => ?_, fun P ps e => ?_⟩, fun b hb z => ?_⟩
  · by_cases hb : b = p
    · rw [hb, upd_same] at e ⊢
      exact e
    · rw [upd_ne hb] at e ⊢
      exact h.same b u e k
  · by_cases hb : P = p
    · rw [hb, upd_same] at e
      rw [hb, upd_same]
      exact ⟨ps, e, fun t => t⟩
    · rw [upd_ne hb] at e
      obtain ⟨qs, h1, k1⟩ := h.tabs P ps e
      exact ⟨qs, by rw [upd_ne hb]; exact h1, k1⟩
  · have hb2 : b ≠ p := fun q => hb (q ▸ n)
    rw [upd_ne hb2]
    exact z
/-- a new object that the frame keeps to itself -/
theorem Gr.newO {H S : Hp} (h : Ex S H) {p : Addr} {o : HO} (n : H p = none) : Gr H S (upd H p o) S :=
  ⟨Ex.new n, Ex.refl S, h.trans (Ex.new n), fun _ _ z => z⟩
/-- what the frame kept to itself is shared from here on -/
theorem ex_give {S H : Hp} (h : Ex S H) {p : Addr} {vs : List V} (e : H p = some (.lst vs)) : Ex (upd S p (.lst vs)) H := by
  refine ⟨fun b u q k => ?_, fun P ps q => ?_⟩
  · by_cases hb : b = p
    · rw [hb, upd_same] at q
      rw [hb, e]
      exact q
    · rw [upd_ne hb] at q
      exact h.same b u q k
  · by_cases hb : P = p
    · rw [hb, upd_same] at q
      cases q
    · rw [upd_ne hb] at q
      exact h.tabs P ps q

/-! ### the frame's data: unknown, shared, or a list of its own that it may change -/
inductive Sd where
  | un | sh (d : Dt) | ow (ds : List Dt)
abbrev Fd := List Sd
/-- what a thing that may be changed holds, in the heap -/
def ClAt (K : Kx) (H S : Hp) (a : Addr) : Cl → Prop
  | .lst ds => ∃ vs, H a = some (.lst vs) ∧ RpL K S vs ds
  | .ins C ns ds => ∃ dx fs, H a = some (.ins C dx fs) ∧ fs.map (·.1) = ns ∧ RpL K S (fs.map (·.2)) ds
  | .dK ks ds => ∃ kvs, H a = some (.dK kvs) ∧ kvs.map (·.1) = ks ∧ RpL K S (kvs.map (·.2)) ds
  | .dN _ _ => False
/-- the things that may be changed -/
structure Sto (K : Kx) (H S : Hp) : Prop where
  len : K.m.length = K.r.length
  nd : K.r.Nodup
  at_ : ∀ (n : Nat) (a : Addr) (c : Cl), K.r[n]? = some a → K.m[n]? = some c → S a = none ∧ ClAt K H S a c
/-- G, B: the heap and what was shared at the def's entry -/
structure Slt (K : Kx) (T : List Addr) (G B H S : Hp) (σ : St) (Δ : Fd) : Prop where
  len : σ.length = Δ.length
  gh : Ex G H
  bg : Ex B G
  bs : Ex B S
  sh : Ex S H
  fr : ∀ b, G b ≠ none → B b = none → S b = none
  tb : ∀ P ∈ T, GxR.TabG H P
  shd : ∀ (i : Nat) (d : Dt), Δ[i]? = some (.sh d) → ∃ v, σ[i]? = some (some v) ∧ Rp K S v d
  own : ∀ (i : Nat) (ds : List Dt), Δ[i]? = some (.ow ds) → ∃ a vs, σ[i]? = some (some (.ref a)) ∧ G a = none ∧ S a = none ∧ H a = some (.lst vs) ∧ RpL K S vs ds
  nd : ∀ (i j : Nat) (ds es : List Dt) (a : Addr), Δ[i]? = some (.ow ds) → Δ[j]? = some (.ow es) → σ[i]? = some (some (.ref a)) → σ[j]? = some (some (.ref a)) → i = j
  cl : Sto K H S
  co : ∀ (i : Nat) (ds : List Dt) (a : Addr), Δ[i]? = some (.ow ds) → σ[i]? = some (some (.ref a)) → a ∉ K.r
theorem ClAt.some {K : Kx} {H S : Hp} {a : Addr} {c : Cl} (h : ClAt K H S a c) : ∃ o, H a = some o ∧ ∀ ps, o ≠ .tbl ps := by
  cases c with
  | lst ds => obtain ⟨vs, h, _⟩ := h; exact ⟨_, h, fun _ z => by cases z⟩
  | ins C ns ds => obtain ⟨dx, fs, h, _⟩ := h; exact ⟨_, h, fun _ z => by cases z⟩
  | dK ks ds => obtain ⟨kvs, h, _⟩ := h; exact ⟨_, h, fun _ z => by cases z⟩
  | dN ks ds => exact h.elim
theorem ClAt.grow {K : Kx} {H S H' S' : Hp} {a : Addr} {c : Cl} (h : ClAt K H S a c) (e : H' a = H a) (x : Ex S S') : ClAt K H' S' a c := by
  cases c with
  | lst ds => obtain ⟨vs, h, r⟩ := h; exact ⟨vs, e.trans h, RpL.mono x r⟩
  | ins C ns ds => obtain ⟨dx, fs, h, q, r⟩ := h; exact ⟨dx, fs, e.trans h, q, RpL.mono x r⟩
  | dK ks ds => obtain ⟨kvs, h, q, r⟩ := h; exact ⟨kvs, e.trans h, q, RpL.mono x r⟩
  | dN ks ds => exact h.elim
theorem Sto.get {K : Kx} {H S : Hp} (s : Sto K H S) {a : Addr} (h : a ∈ K.r) : ∃ (n : Nat) (c : Cl), K.r[n]? = some a ∧ K.m[n]? = some c ∧ S a = none ∧ ClAt K H S a c := by
  obtain ⟨n, hn, e⟩ := List.getElem_of_mem h
  have h1 : K.r[n]? = some a := List.getElem?_eq_some_iff.mpr ⟨hn, e⟩
  have hm : n < K.m.length := by rw [s.len]; exact hn
  obtain ⟨k1, k2⟩ := s.at_ n a (K.m[n]'hm) h1 (List.getElem?_eq_getElem hm)
  exact ⟨n, K.m[n]'hm, h1, List.getElem?_eq_getElem hm, k1, k2⟩
theorem Sto.has {K : Kx} {H S : Hp} (s : Sto K H S) {a : Addr} (h : a ∈ K.r) : ∃ o, H a = some o ∧ ∀ ps, o ≠ .tbl ps := by
  obtain ⟨_, _, _, _, _, c⟩ := s.get h
  exact c.some
theorem Sto.grow {K : Kx} {H S H' S' : Hp} (s : Sto K H S) (g : Gr H S H' S') : Sto K H' S' := ⟨s.len, s.nd, fun n a c h1 h2 => by
  obtain ⟨k1, k2⟩ := s.at_ n a c h1 h2
  obtain ⟨o, e, ne⟩ := k2.some
  exact ⟨g.fr a (by rw [e]; exact fun z => by cases z) k1, k2.grow (by rw [e]; exact g.hh.same a o e ne) g.ss⟩⟩
/-- another list changes -/
theorem Sto.other {K : Kx} {H S : Hp} (s : Sto K H S) {p : Addr} {o : HO} (h : p ∉ K.r) : Sto K (upd H p o) S := ⟨s.len, s.nd, fun n a c h1 h2 => by
  obtain ⟨k1, k2⟩ := s.at_ n a c h1 h2
  have ne : a ≠ p := fun z => h (z ▸ List.mem_of_getElem? h1)
  exact ⟨k1, k2.grow (upd_ne ne) (Ex.refl S)⟩⟩
/-- another object may be shared -/
theorem Sto.share {K : Kx} {H S : Hp} (s : Sto K H S) {p : Addr} {o : HO} (h : p ∉ K.r) (x : Ex S (upd S p o)) : Sto K H (upd S p o) := ⟨s.len, s.nd, fun n a c h1 h2 => by
  obtain ⟨k1, k2⟩ := s.at_ n a c h1 h2
  have ne : a ≠ p := fun z => h (z ▸ List.mem_of_getElem? h1)
  exact ⟨by rw [upd_ne ne]; exact k1, k2.grow rfl x⟩⟩
theorem Sto.new {K : Kx} {H S : Hp} (s : Sto K H S) {p : Addr} (h : H p = none) : p ∉ K.r := fun z => by
  obtain ⟨o, e, _⟩ := s.has z
  rw [h] at e
  cases e
section
variable {K : Kx} {T : List Addr} {G B H S H' S' : Hp} {σ : St} {Δ : Fd}
theorem Slt.grow (s : Slt K T G B H S σ Δ) (g : Gr H S H' S') : Slt K T G B H' S' σ Δ where
  len := s.len
  gh := s.gh.trans g.hh
  bg := s.bg
  bs := s.bs.trans g.ss
  sh := g.sh
  fr := fun b h z => g.fr b (s.gh.ne h) (s.fr b h z)
  tb := fun P h => g.hh.tabG (s.tb P h)
  shd := fun i d h => by
    obtain ⟨v, e, r⟩ := s.shd i d h
    exact ⟨v, e, r.mono g.ss⟩
  own := fun i ds h => by
    obtain ⟨a, vs, e, h1, h2, h3, r⟩ := s.own i ds h
    exact ⟨a, vs, e, h1, g.fr a (by rw [h3]; exact fun z => by cases z) h2, g.hh.lst h3, RpL.mono g.ss r⟩
  nd := s.nd
  cl := s.cl.grow g
  co := s.co
/-- a slot takes data that may be shared -/
theorem Slt.set (s : Slt K T G B H S σ Δ) (i : Nat) {v : V} {d : Dt} (r : Rp K S v d) : Slt K T G B H S (σ.set i (some v)) (Δ.set i (.sh d)) where
  len := by rw [List.length_set, List.length_set]; exact s.len
  gh := s.gh
  bg := s.bg
  bs := s.bs
  sh := s.sh
  fr := s.fr
  tb := s.tb
  shd := fun j e h => by
    by_cases hj : i = j
    · subst hj
      by_cases hl : i < Δ.length
      · rw [List.getElem?_set_self hl] at h
        cases h
        exact ⟨v, List.getElem?_set_self (by rw [s.len]; exact hl), r⟩
      · rw [List.getElem?_eq_none (by rw [List.length_set]; omega)] at h
        cases h
    · rw [List.getElem?_set_ne hj] at h ⊢
      exact s.shd j e h
  own := fun j ds h => by
    by_cases hj : i = j
    · subst hj
      by_cases hl : i < Δ.length
      · rw [List.getElem?_set_self hl] at h
        cases h
      · rw [List.getElem?_eq_none (by rw [List.length_set]; omega)] at h
        cases h
    · rw [List.getElem?_set_ne hj] at h
      obtain ⟨a, vs, e, q⟩ := s.own j ds h
      exact ⟨a, vs, by rw [List.getElem?_set_ne hj]; exact e, q⟩
  nd := fun j k ds es a h1 h2 h3 h4 => by
    have hj : i ≠ j := fun z => by
      subst z
      by_cases hl : i < Δ.length
      · rw [List.getElem?_set_self hl] at h1
        cases h1
      · rw [List.getElem?_eq_none (by rw [List.length_set]; omega)] at h1
        cases h1
    have hk : i ≠ k := fun z => by
      subst z
      by_cases hl : i < Δ.length
      · rw [List.getElem?_set_self hl] at h2
        cases h2
      · rw [List.getElem?_eq_none (by rw [List.length_set]; omega)] at h2
        cases h2
    rw [List.getElem?_set_ne hj] at h1 h3
    rw [List.getElem?_set_ne hk] at h2 h4
    exact s.nd j k ds es a h1 h2 h3 h4
  cl := s.cl
  co := fun j ds a h1 h2 => by
    have hj : i ≠ j := fun z => by
      subst z
      by_cases hl : i < Δ.length
      · rw [List.getElem?_set_self hl] at h1
        cases h1
      · rw [List.getElem?_eq_none (by rw [List.length_set]; omega)] at h1
        cases h1
    rw [List.getElem?_set_ne hj] at h1 h2
    exact s.co j ds a h1 h2
/-- a slot takes a list of the frame's own -/
theorem Slt.setO (s : Slt K T G B H S σ Δ) (i : Nat) {a : Addr} {vs : List V} {ds : List Dt} (hG : G a = none) (hS : S a = none) (hH : H a = some (.lst vs)) (r : RpL K S vs ds)
    (hn : ∀ (j : Nat) (es : List Dt), j ≠ i → Δ[j]? = some (.ow es) → σ[j]? ≠ some (some (.ref a))) (hr : a ∉ K.r) : Slt K T G B H S (σ.set i (some (.ref a))) (Δ.set i (.ow ds)) where
  len := by rw [List.length_set, List.length_set]; exact s.len
  gh := s.gh
  bg := s.bg
  bs := s.bs
  sh := s.sh
  fr := s.fr
  tb := s.tb
  shd := fun j e h => by
    by_cases hj : i = j
    · subst hj
      by_cases hl : i < Δ.length
      · rw [List.getElem?_set_self hl] at h
        cases h
      · rw [List.getElem?_eq_none (by rw [List.length_set]; omega)] at h
        cases h
    · rw [List.getElem?_set_ne hj] at h ⊢
      exact s.shd j e h
  own := fun j es h => by
    by_cases hj : i = j
    · subst hj
      by_cases hl : i < Δ.length
      · rw [List.getElem?_set_self hl] at h
        cases h
        exact ⟨a, vs, List.getElem?_set_self (by rw [s.len]; exact hl), hG, hS, hH, r⟩
      · rw [List.getElem?_eq_none (by rw [List.length_set]; omega)] at h
        cases h
    · rw [List.getElem?_set_ne hj] at h
      obtain ⟨b, ws, e, q⟩ := s.own j es h
      exact ⟨b, ws, by rw [List.getElem?_set_ne hj]; exact e, q⟩
  nd := fun j k es fs b h1 h2 h3 h4 => by
    have inb : ∀ {m : Nat} {x : Sd}, (Δ.set i x)[m]? ≠ none → m < Δ.length := fun {m x} h => by
      by_cases hl : m < Δ.length
      · exact hl
      · exact absurd (List.getElem?_eq_none (by rw [List.length_set]; omega)) h
    by_cases hj : i = j
    · by_cases hk : i = k
      · exact hj.symm.trans hk
      · subst hj
        have hl := inb (by rw [h1]; exact fun z => by cases z)
        rw [List.getElem?_set_self (by rw [s.len]; exact hl)] at h3
        cases h3
        rw [List.getElem?_set_ne hk] at h2 h4
        exact absurd h4 (hn k fs (Ne.symm hk) h2)
    · by_cases hk : i = k
      · subst hk
        have hl := inb (by rw [h2]; exact fun z => by cases z)
        rw [List.getElem?_set_self (by rw [s.len]; exact hl)] at h4
        cases h4
        rw [List.getElem?_set_ne hj] at h1 h3
        exact absurd h3 (hn j es (Ne.symm hj) h1)
      · rw [List.getElem?_set_ne hj] at h1 h3
        rw [List.getElem?_set_ne hk] at h2 h4
        exact s.nd j k es fs b h1 h2 h3 h4
  cl := s.cl
  co := fun j es b h1 h2 => by
    by_cases hj : i = j
    · subst hj
      by_cases hl : i < Δ.length
      · rw [List.getElem?_set_self (by rw [s.len]; exact hl)] at h2
        cases h2
        exact hr
      · rw [List.getElem?_eq_none (by rw [List.length_set]; omega)] at h1
        cases h1
    · rw [List.getElem?_set_ne hj] at h1 h2
      exact s.co j es b h1 h2
/-- the slot's own list is changed -/
theorem Slt.put (s : Slt K T G B H S σ Δ) {i : Nat} {a : Addr} {ws : List V} {ds es : List Dt} (hi : Δ[i]? = some (.ow ds)) (ha : σ[i]? = some (some (.ref a))) (r : RpL K S ws es) :
    Slt K T G B (upd H a (.lst ws)) S σ (Δ.set i (.ow es)) := by
  obtain ⟨b, vs, e, hG, hS, hH, _⟩ := s.own i ds hi
  rw [ha] at e
  cases e
  have hl : i < Δ.length := (List.getElem?_eq_some_iff.mp hi).1
  refine ⟨by rw [List.length_set]; exact s.len, s.gh.mut hG, s.bg, s.bs, s.sh.mut hS, s.fr, fun P h => ?_, fun j d h => ?_, fun j fs h => ?_, fun j k fs gs c h1 h2 h3 h4 => ?_, s.cl.other (s.co i ds a hi ha), fun j fs c h1 h2 => ?_⟩
  · obtain ⟨ps, q, t⟩ := s.tb P h
    exact ⟨ps, by rw [upd_ne (ne_of q hH fun z => by cases z)]; exact q, t⟩
  · by_cases hj : i = j
    · subst hj
      rw [List.getElem?_set_self hl] at h
      cases h
    · rw [List.getElem?_set_ne hj] at h
      exact s.shd j d h
  · by_cases hj : i = j
    · subst hj
      rw [List.getElem?_set_self hl] at h
      cases h
      exact ⟨a, ws, ha, hG, hS, upd_same, r⟩
    · rw [List.getElem?_set_ne hj] at h
      obtain ⟨c, us, e, h1, h2, h3, q⟩ := s.own j fs h
      have ne : c ≠ a := fun z => hj (s.nd i j ds fs a hi h ha (z ▸ e))
      exact ⟨c, us, e, h1, h2, by rw [upd_ne ne]; exact h3, q⟩
  · have key : ∀ {m : Nat} {us : List Dt}, (Δ.set i (.ow es))[m]? = some (.ow us) → ∃ us', Δ[m]? = some (.ow us') := fun {m us} h => by
      by_cases hm : i = m
      · exact ⟨ds, hm ▸ hi⟩
      · rw [List.getElem?_set_ne hm] at h
        exact ⟨us, h⟩
    obtain ⟨_, h1'⟩ := key h1
    obtain ⟨_, h2'⟩ := key h2
    exact s.nd j k _ _ c h1' h2' h3 h4
  · by_cases hm : i = j
    · subst hm
      rw [ha] at h2
      cases h2
      exact s.co i ds a hi ha
    · rw [List.getElem?_set_ne hm] at h1
      exact s.co j fs c h1 h2
/-- the slot's own list may be shared from here on -/
def give (i : Nat) (Δ : Fd) : Fd := match Δ[i]? with
  | some (.ow ds) => Δ.set i (.sh (.lst ds))
  | _ => Δ
theorem Slt.give (s : Slt K T G B H S σ Δ) (i : Nat) : ∃ S', Ex S S' ∧ Slt K T G B H S' σ (give i Δ) := by
  unfold Mr.give
  cases h : Δ[i]? with
  | none => exact ⟨S, Ex.refl S, s⟩
  | some x =>
    cases x with
    | un => exact ⟨S, Ex.refl S, s⟩
    | sh d => exact ⟨S, Ex.refl S, s⟩
    | ow ds =>
      obtain ⟨a, vs, e, hG, hS, hH, r⟩ := s.own i ds h
      have xS : Ex S (upd S a (.lst vs)) := Ex.new hS
      have hl : i < Δ.length := (List.getElem?_eq_some_iff.mp h).1
      refine ⟨upd S a (.lst vs), xS, ⟨by rw [List.length_set]; exact s.len, s.gh, s.bg, s.bs.trans xS, ex_give s.sh hH, fun b hb z => ?_, s.tb, fun j d q => ?_, fun j es q => ?_, fun j k es fs c h1 h2 h3 h4 => ?_, s.cl.share (s.co i ds a h e) xS, fun j es c h1 h2 => ?_⟩⟩
      · have nb : b ≠ a := fun y => hb (y ▸ hG)
        rw [upd_ne nb]
        exact s.fr b hb z
      · by_cases hj : i = j
        · subst hj
          rw [List.getElem?_set_self hl] at q
          cases q
          exact ⟨_, e, .lst upd_same (RpL.mono xS r)⟩
        · rw [List.getElem?_set_ne hj] at q
          obtain ⟨v, e1, r1⟩ := s.shd j d q
          exact ⟨v, e1, r1.mono xS⟩
      · by_cases hj : i = j
        · subst hj
          rw [List.getElem?_set_self hl] at q
          cases q
        · rw [List.getElem?_set_ne hj] at q
          obtain ⟨c, us, e1, h1, h2, h3, r1⟩ := s.own j es q
          have ne : c ≠ a := fun z => hj (s.nd i j ds es a h q e (z ▸ e1))
          exact ⟨c, us, e1, h1, by rw [upd_ne ne]; exact h2, h3, RpL.mono xS r1⟩
      · have key : ∀ {m : Nat} {us : List Dt}, (Δ.set i (.sh (.lst ds)))[m]? = some (.ow us) → Δ[m]? = some (.ow us) := fun {m us} q => by
          by_cases hm : i = m
          · subst hm
            rw [List.getElem?_set_self hl] at q
            cases q
          · rw [List.getElem?_set_ne hm] at q
            exact q
        exact s.nd j k es fs c (key h1) (key h2) h3 h4
      · by_cases hm : i = j
        · subst hm
          rw [List.getElem?_set_self hl] at h1
          cases h1
        · rw [List.getElem?_set_ne hm] at h1
          exact s.co j es c h1 h2
end
end Mr
namespace Mr
open PySem L2

/-! ### the judgements -/
/-- how an answer is held: s, it may be shared; n, a new list of the frame's own; l, a list whose items may be shared; t, it is read at once -/
inductive Fl where
  | s | n | l | t
def Hd (K : Kx) (fl : Fl) (H S : Hp) (v : V) (d : Dt) : Prop := match fl with
  | .s => Rp K S v d
  | .n => ∃ p vs ds, v = .ref p ∧ d = .lst ds ∧ H p = some (.lst vs) ∧ S p = none ∧ RpL K S vs ds
  | .l => ∃ p vs ds, v = .ref p ∧ d = .lst ds ∧ H p = some (.lst vs) ∧ RpL K S vs ds
  | .t => Rp K H v d
/-- new: nobody had it -/
def Nw (fl : Fl) (H : Hp) (v : V) : Prop := match fl with
  | .n => ∃ p, v = .ref p ∧ H p = none
  | _ => True
/-- what is wished for where the class named c is raised -/
def XW (mg : Str → Option Value) (E : XK) (H : Hp) (c : Str) : Prop := ∃ C, mg c = some (.ref C) ∧ ∀ H', Ex H H' → E (.ref C) none H'
theorem XW.grow {mg : Str → Option Value} {E : XK} {H H' : Hp} {c : Str} (x : XW mg E H c) (e : Ex H H') : XW mg E H' c := by
  obtain ⟨C, h, k⟩ := x
  exact ⟨C, h, fun H2 e2 => k H2 (e.trans e2)⟩
/-- what surrounds: K the text's facts, T the tables of code, mg the module's names, E what is wished of errors -/
structure Wo where
  K : Kx
  T : List Addr
  mg : Str → Option Value
  E : XK
def SndE (W : Wo) (fl : Fl) (te : TE) (me : Fd → Md Dt) : Prop := ∀ (G B H S : Hp) (σ : St) (Δ : Fd) (Q : VK), Slt W.K W.T G B H S σ Δ →
  Wp (me Δ) (fun d => ∀ v H' S', Gr H S H' S' → Hd W.K fl H' S' v d → Nw fl H v → Q v H') (XW W.mg W.E H) → te σ H Q
def SndT (W : Wo) (tt : TT) (mt : Fd → Md Bool) : Prop := ∀ (G B H S : Hp) (σ : St) (Δ : Fd) (Q : Bool → Hp → Prop), Slt W.K W.T G B H S σ Δ →
  Wp (mt Δ) (fun b => ∀ H' S', Gr H S H' S' → Q b H') (XW W.mg W.E H) → tt σ H Q
def HdL (K : Kx) (fl : Fl) (H S : Hp) (vs : List V) (ds : List Dt) : Prop := match fl with
  | .s => RpL K S vs ds
  | _ => RpL K H vs ds
def SndA (W : Wo) (fl : Fl) (ta : TA) (ma : Fd → Md (List Dt)) : Prop := ∀ (G B H S : Hp) (σ : St) (Δ : Fd) (Q : List V → Hp → Prop), Slt W.K W.T G B H S σ Δ →
  Wp (ma Δ) (fun ds => ∀ vs H' S', Gr H S H' S' → HdL W.K fl H' S' vs ds → Q vs H') (XW W.mg W.E H) → ta σ H Q

section
variable {W : Wo} {fl fa fb : Fl} {te ta tb : TE} {me ma mb : Fd → Md Dt} {H S H' S' : Hp} {v : V} {d : Dt} {K : Kx}
theorem Hd.grow (h : Hd K fl H S v d) (g : Gr H S H' S') : Hd K fl H' S' v d := by
  cases fl with
  | s => exact Rp.mono g.ss h
  | t => exact Rp.mono g.hh h
  | n =>
    obtain ⟨p, vs, ds, e1, e2, e3, e4, r⟩ := h
    exact ⟨p, vs, ds, e1, e2, g.hh.lst e3, g.fr p (by rw [e3]; exact fun z => by cases z) e4, RpL.mono g.ss r⟩
  | l =>
    obtain ⟨p, vs, ds, e1, e2, e3, r⟩ := h
    exact ⟨p, vs, ds, e1, e2, g.hh.lst e3, RpL.mono g.ss r⟩
theorem Hd.toT (h : Hd K fl H S v d) (e : Ex S H) : Hd K .t H S v d := by
  cases fl with
  | s => exact Rp.mono e h
  | t => exact h
  | n =>
    obtain ⟨p, vs, ds, e1, e2, e3, e4, r⟩ := h
    subst e1 e2
    exact .lst e3 (RpL.mono e r)
  | l =>
    obtain ⟨p, vs, ds, e1, e2, e3, r⟩ := h
    subst e1 e2
    exact .lst e3 (RpL.mono e r)
/-- any answer may be read -/
theorem SndE.toT (h : SndE W fl te me) : SndE W .t te me := fun G B H S σ Δ Q s w => h G B H S σ Δ Q s (w.mono (fun d k v H' S' g r _ => k v H' S' g (r.toT g.sh) trivial) fun _ z => z)
/-- a new list may be shared -/
theorem Hd.give {G : Hp} (g : Gr G S H' S') (h : Hd K .n H' S' v d) (hn : Nw .n G v) : ∃ S2, Gr G S H' S2 ∧ Ex S' S2 ∧ Rp K S2 v d := by
  obtain ⟨p, vs, ds, e1, e2, e3, e4, r⟩ := h
  subst e1 e2
  obtain ⟨q, e5, e6⟩ := hn
  cases e5
  have x : Ex S' (upd S' p (.lst vs)) := Ex.new e4
  refine ⟨_, ⟨g.hh, g.ss.trans x, ex_give g.sh e3, fun b hb z => ?_⟩, x, .lst upd_same (RpL.mono x r)⟩
  rw [upd_ne (show b ≠ p from fun y => hb (by rw [y]; exact e6))]
  exact g.fr b hb z
theorem SndE.give (h : SndE W .n te me) : SndE W .s te me := fun G B H S σ Δ Q s w => h G B H S σ Δ Q s (w.mono (fun d k v H' S' g r n => by
  obtain ⟨S2, g2, _, r2⟩ := Hd.give g r n
  exact k v H' S2 g2 r2 trivial) fun _ z => z)
theorem SndE.nl (h : SndE W .n te me) : SndE W .l te me := fun G B H S σ Δ Q s w => h G B H S σ Δ Q s (w.mono (fun d k v H' S' g r n => k v H' S' g (by
  obtain ⟨p, vs, ds, e1, e2, e3, e4, r⟩ := r
  exact ⟨p, vs, ds, e1, e2, e3, r⟩) trivial) fun _ z => z)

/-! ### names, constants -/
def mVar (i : Nat) : Fd → Md Dt := fun Δ => match Δ[i]? with
  | some (.sh d) => .ok d
  | _ => .bad
def mOwn (i : Nat) : Fd → Md Dt := fun Δ => match Δ[i]? with
  | some (.ow ds) => .ok (.lst ds)
  | _ => .bad
def mAny (i : Nat) : Fd → Md Dt := fun Δ => match Δ[i]? with
  | some (.ow ds) => .ok (.lst ds)
  | some (.sh d) => .ok d
  | _ => .bad
theorem snd_var (i : Nat) : SndE W .s (tVar i) (mVar i) := by
  intro G B H S σ Δ Q s w
  unfold mVar at w
  split at w
  · rename_i d h
    obtain ⟨v, e, r⟩ := s.shd i d h
    exact ⟨v, e, w v H S (Gr.refl s.sh) r trivial⟩
  · exact w.elim
theorem snd_own (i : Nat) : SndE W .l (tVar i) (mOwn i) := by
  intro G B H S σ Δ Q s w
  unfold mOwn at w
  split at w
  · rename_i ds h
    obtain ⟨a, vs, e, _, _, h3, r⟩ := s.own i ds h
    exact ⟨.ref a, e, w (.ref a) H S (Gr.refl s.sh) ⟨a, vs, ds, rfl, rfl, h3, r⟩ trivial⟩
  · exact w.elim
theorem snd_any (i : Nat) : SndE W .t (tVar i) (mAny i) := by
  intro G B H S σ Δ Q s w
  unfold mAny at w
  split at w
  · rename_i ds h
    obtain ⟨a, vs, e, _, _, h3, r⟩ := s.own i ds h
    exact ⟨.ref a, e, w (.ref a) H S (Gr.refl s.sh) (.lst h3 (RpL.mono s.sh r)) trivial⟩
  · rename_i d h
    obtain ⟨v, e, r⟩ := s.shd i d h
    exact ⟨v, e, w v H S (Gr.refl s.sh) (r.mono s.sh) trivial⟩
  · exact w.elim
def mC (d : Dt) : Fd → Md Dt := fun _ => .ok d
theorem snd_c {v : V} {d : Dt} (r : ∀ H, Rp W.K H v d) : SndE W .s (tC v) (mC d) := fun G B H S σ Δ Q s w => w v H S (Gr.refl s.sh) (r S) trivial

/-! ### operators -/
def mBin (f : Dt → Dt → Md Dt) (ma mb : Fd → Md Dt) : Fd → Md Dt := fun Δ => (ma Δ).bind fun a => (mb Δ).bind fun b => f a b
def SndR (K : Kx) (fa fb fl : Fl) (r : R2) (f : Dt → Dt → Md Dt) : Prop := ∀ (H S : Hp) (x y : V) (a b : Dt) (Q : VK), Ex S H → Hd K fa H S x a → Hd K fb H S y b →
  Wp (f a b) (fun d => ∀ v H' S', Gr H S H' S' → Hd K fl H' S' v d → Nw fl H v → Q v H') (fun _ => False) → r x y H Q
theorem Nw.back (g : Gr H S H' S') (h : Nw fl H' v) : Nw fl H v := by
  cases fl with
  | n =>
    obtain ⟨p, e, h⟩ := h
    exact ⟨p, e, g.hh.free h⟩
  | _ => trivial
theorem snd_op {r : R2} {f : Dt → Dt → Md Dt} (ha : SndE W fa ta ma) (hb : SndE W fb tb mb) (hr : SndR W.K fa fb fl r f) (nx : ∀ a b c, f a b ≠ .exc c) : SndE W fl (tOp r ta tb) (mBin f ma mb) := by
  intro G B H S σ Δ Q s w
  refine ha G B H S σ Δ _ s (w.bind.mono (fun a k x H1 S1 g1 r1 _ => ?_) fun _ z => z)
  have s1 := s.grow g1
  refine hb G B H1 S1 σ Δ _ s1 (k.bind.mono (fun b k2 y H2 S2 g2 r2 _ => ?_) fun _ z => z.grow g1.hh)
  refine hr H2 S2 x y a b Q g2.sh (r1.grow g2) r2 ?_
  cases hf : f a b with
  | ok d =>
    rw [hf] at k2
    exact fun v H3 S3 g3 r3 n3 => k2 v H3 S3 ((g1.trans g2).trans g3) r3 (n3.back (g1.trans g2))
  | exc c => exact absurd hf (nx a b c)
  | bad =>
    rw [hf] at k2
    exact k2
def mUn (f : Dt → Md Dt) (ma : Fd → Md Dt) : Fd → Md Dt := fun Δ => (ma Δ).bind f
/-- two ints -/
def dI (g : Int → Int → Dt) : Dt → Dt → Md Dt
  | .int i, .int j => .ok (g i j)
  | _, _ => .bad
def dIC (c : Int → Int → Bool) (g : Int → Int → Dt) : Dt → Dt → Md Dt
  | .int i, .int j => if c i j = true then .ok (g i j) else .bad
  | _, _ => .bad
theorem Rp.isInt {x : V} {i : Int} (h : Rp K H x (.int i)) : x = .int i := by cases h; rfl
theorem sr_I0 {g : Int → Int → V} {g' : Int → Int → Dt} (hg : ∀ i j H, Rp K H (g i j) (g' i j)) : SndR K .t .t .s (rI0 g) (dI g') := by
  intro H S x y a b Q e ha hb w
  unfold dI at w
  split at w
  · cases Rp.isInt ha
    cases Rp.isInt hb
    exact ⟨_, _, rfl, rfl, w _ H S (Gr.refl e) (hg _ _ S) trivial⟩
  · exact w.elim
theorem sr_I {C : Int → Int → Prop} {c : Int → Int → Bool} {g : Int → Int → V} {g' : Int → Int → Dt} (hc : ∀ i j, c i j = true → C i j) (hg : ∀ i j H, Rp K H (g i j) (g' i j)) : SndR K .t .t .s (rI C g) (dIC c g') := by
  intro H S x y a b Q e ha hb w
  unfold dIC at w
  split at w
  · rename_i i j
    cases Rp.isInt ha
    cases Rp.isInt hb
    by_cases h : c i j = true
    · rw [if_pos h] at w
      exact ⟨_, _, rfl, rfl, hc _ _ h, w _ H S (Gr.refl e) (hg _ _ S) trivial⟩
    · rw [if_neg h] at w
      exact w.elim
  · exact w.elim
theorem dI_nx {g : Int → Int → Dt} (a b : Dt) (c : Str) : dI g a b ≠ .exc c := by
  unfold dI
  split <;> exact fun z => by cases z
theorem dIC_nx {k : Int → Int → Bool} {g : Int → Int → Dt} (a b : Dt) (c : Str) : dIC k g a b ≠ .exc c := by
  unfold dIC
  split
  · split <;> exact fun z => by cases z
  · exact fun z => by cases z

/-! ### arguments -/
def mNil : Fd → Md (List Dt) := fun _ => .ok []
def mCons (ma : Fd → Md Dt) (mr : Fd → Md (List Dt)) : Fd → Md (List Dt) := fun Δ => (ma Δ).bind fun a => (mr Δ).bind fun r => .ok (a :: r)
theorem sa_nil : SndA W fl tNil mNil := fun G B H S σ Δ Q s w => w [] H S (Gr.refl s.sh) (by cases fl <;> exact .nil)
theorem HdL.grow {vs : List V} {ds : List Dt} (h : HdL K fl H S vs ds) (g : Gr H S H' S') : HdL K fl H' S' vs ds := by
  cases fl with
  | s => exact RpL.mono g.ss h
  | _ => exact RpL.mono g.hh h
theorem sa_conss {tr : TA} {mr : Fd → Md (List Dt)} (ha : SndE W .s ta ma) (hr : SndA W .s tr mr) : SndA W .s (tCons ta tr) (mCons ma mr) := by
  intro G B H S σ Δ Q s w
  refine ha G B H S σ Δ _ s (w.bind.mono (fun a k x H1 S1 g1 r1 _ => ?_) fun _ z => z)
  refine hr G B H1 S1 σ Δ _ (s.grow g1) (k.bind.mono (fun b k2 y H2 S2 g2 r2 => ?_) fun _ z => z.grow g1.hh)
  exact k2 _ H2 S2 (g1.trans g2) (.cons (Rp.mono g2.ss r1) r2)
theorem sa_const {tr : TA} {mr : Fd → Md (List Dt)} (ha : SndE W .t ta ma) (hr : SndA W .t tr mr) : SndA W .t (tCons ta tr) (mCons ma mr) := by
  intro G B H S σ Δ Q s w
  refine ha G B H S σ Δ _ s (w.bind.mono (fun a k x H1 S1 g1 r1 _ => ?_) fun _ z => z)
  refine hr G B H1 S1 σ Δ _ (s.grow g1) (k.bind.mono (fun b k2 y H2 S2 g2 r2 => ?_) fun _ z => z.grow g1.hh)
  exact k2 _ H2 S2 (g1.trans g2) (.cons (Rp.mono g2.hh r1) r2)

/-! ### displays -/
def okLen (n : Nat) : Bool := decide (n ≤ 16777216)
theorem okLen_le {n : Nat} (h : okLen n = true) : n ≤ sizeLine := by
  rw [sizeLine_eq]
  exact of_decide_eq_true h
def mTup (ma : Fd → Md (List Dt)) : Fd → Md Dt := fun Δ => (ma Δ).bind fun ds => if okLen ds.length = true then .ok (.tup ds) else .bad
def mLst (ma : Fd → Md (List Dt)) : Fd → Md Dt := fun Δ => (ma Δ).bind fun ds => if okLen ds.length = true then .ok (.lst ds) else .bad
theorem snd_tup {ta : TA} {ma : Fd → Md (List Dt)} (ha : SndA W .s ta ma) : SndE W .s (tTup ta) (mTup ma) := by
  intro G B H S σ Δ Q s w
  refine ha G B H S σ Δ _ s (w.bind.mono (fun ds k vs H1 S1 g1 r1 => ?_) fun _ z => z)
  by_cases h : okLen ds.length = true
  · rw [if_pos h] at k
    have r1' : RpL W.K S1 vs ds := r1
    refine ⟨by rw [r1'.length]; exact okLen_le h, fun p hp => ?_⟩
    have g2 := Gr.new (o := .tup vs) g1.sh hp
    exact k _ _ _ (g1.trans g2) (.tup upd_same (RpL.mono g2.ss r1')) trivial
  · rw [if_neg h] at k
    exact k.elim
theorem snd_lst {ta : TA} {ma : Fd → Md (List Dt)} (ha : SndA W .s ta ma) : SndE W .n (tLst ta) (mLst ma) := by
  intro G B H S σ Δ Q s w
  refine ha G B H S σ Δ _ s (w.bind.mono (fun ds k vs H1 S1 g1 r1 => ?_) fun _ z => z)
  by_cases h : okLen ds.length = true
  · rw [if_pos h] at k
    have r1' : RpL W.K S1 vs ds := r1
    refine ⟨by rw [r1'.length]; exact okLen_le h, fun p hp => ?_⟩
    have g2 := Gr.newO (o := .lst vs) g1.sh hp
    exact k _ _ _ (g1.trans g2) ⟨p, vs, ds, rfl, rfl, upd_same, g1.sh.free hp, r1'⟩ ⟨p, rfl, g1.hh.free hp⟩
  · rw [if_neg h] at k
    exact k.elim

/-! ### calls -/
def mCB (f : List Dt → Md Dt) (ma : Fd → Md (List Dt)) : Fd → Md Dt := fun Δ => (ma Δ).bind f
def SndC (K : Kx) (fa fl : Fl) (r : List V → Hp → VK → Prop) (f : List Dt → Md Dt) : Prop := ∀ (H S : Hp) (vs : List V) (ds : List Dt) (Q : VK), Ex S H → HdL K fa H S vs ds →
  Wp (f ds) (fun d => ∀ v H' S', Gr H S H' S' → Hd K fl H' S' v d → Nw fl H v → Q v H') (fun _ => False) → r vs H Q
theorem snd_cb {r : List V → Hp → VK → Prop} {f : List Dt → Md Dt} {ta : TA} {ma : Fd → Md (List Dt)} (ha : SndA W fa ta ma) (hr : SndC W.K fa fl r f) (nx : ∀ ds c, f ds ≠ .exc c) : SndE W fl (tCB r ta) (mCB f ma) := by
  intro G B H S σ Δ Q s w
  refine ha G B H S σ Δ _ s (w.bind.mono (fun ds k vs H1 S1 g1 r1 => ?_) fun _ z => z)
  refine hr H1 S1 vs ds Q g1.sh r1 ?_
  cases hf : f ds with
  | ok d =>
    rw [hf] at k
    exact fun v H2 S2 g2 r2 n2 => k v H2 S2 (g1.trans g2) r2 (n2.back g1)
  | exc c => exact absurd hf (nx ds c)
  | bad =>
    rw [hf] at k
    exact k
/-! ### tests -/
def mT (ma : Fd → Md Dt) : Fd → Md Bool := fun Δ => (ma Δ).bind fun a => match a with
  | .bl b => .ok b
  | _ => .bad
theorem snd_test (ha : SndE W .t ta ma) : SndT W (tTest ta) (mT ma) := by
  intro G B H S σ Δ Q s w
  refine ha G B H S σ Δ _ s (w.bind.mono (fun a k x H1 S1 g1 r1 _ => ?_) fun _ z => z)
  cases a with
  | bl b =>
    cases r1
    exact ⟨b, rfl, k H1 S1 g1⟩
  | _ => exact k.elim
theorem snd_B (ha : SndE W .t ta ma) : SndT W (tB ta) (mT ma) := snd_test ha
def mAnd (a b : Fd → Md Bool) : Fd → Md Bool := fun Δ => (a Δ).bind fun x => if x = true then b Δ else .ok false
def mOr (a b : Fd → Md Bool) : Fd → Md Bool := fun Δ => (a Δ).bind fun x => if x = true then .ok true else b Δ
def mNot (a : Fd → Md Bool) : Fd → Md Bool := fun Δ => (a Δ).bind fun x => .ok (!x)
variable {t u : TT} {mt mu : Fd → Md Bool}
theorem snd_and (h1 : SndT W t mt) (h2 : SndT W u mu) : SndT W (tAnd t u) (mAnd mt mu) := by
  intro G B H S σ Δ Q s w
  refine h1 G B H S σ Δ _ s (w.bind.mono (fun a k H1 S1 g1 => ?_) fun _ z => z)
  cases a with
  | true => exact h2 G B H1 S1 σ Δ Q (s.grow g1) (Wp.mono k (fun b k2 H2 S2 g2 => k2 H2 S2 (g1.trans g2)) fun _ z => z.grow g1.hh)
  | false => exact k H1 S1 g1
theorem snd_or (h1 : SndT W t mt) (h2 : SndT W u mu) : SndT W (tOr t u) (mOr mt mu) := by
  intro G B H S σ Δ Q s w
  refine h1 G B H S σ Δ _ s (w.bind.mono (fun a k H1 S1 g1 => ?_) fun _ z => z)
  cases a with
  | true => exact k H1 S1 g1
  | false => exact h2 G B H1 S1 σ Δ Q (s.grow g1) (Wp.mono k (fun b k2 H2 S2 g2 => k2 H2 S2 (g1.trans g2)) fun _ z => z.grow g1.hh)
theorem snd_not (h1 : SndT W t mt) : SndT W (tNot t) (mNot mt) := fun G B H S σ Δ Q s w =>
  h1 G B H S σ Δ _ s (w.bind.mono (fun a k H1 S1 g1 => k H1 S1 g1) fun _ z => z)
/-! ### truth values as values -/
def mBl (mt : Fd → Md Bool) : Fd → Md Dt := fun Δ => (mt Δ).bind fun b => .ok (.bl b)
def mAndV (ma mb : Fd → Md Dt) : Fd → Md Dt := fun Δ => (mT ma Δ).bind fun c => if c = true then mb Δ else .ok (.bl false)
def mOrV (ma mb : Fd → Md Dt) : Fd → Md Dt := fun Δ => (mT ma Δ).bind fun c => if c = true then .ok (.bl true) else mb Δ
def mNotV (ma : Fd → Md Dt) : Fd → Md Dt := fun Δ => (mT ma Δ).bind fun c => .ok (.bl (!c))
theorem mT_w {ma : Fd → Md Dt} {Δ : Fd} {p : Bool → Prop} {ex : Str → Prop} (h : Wp (mT ma Δ) p ex) : Wp (ma Δ) (fun a => ∃ b, a = .bl b ∧ p b) ex := by
  refine h.bind.mono (fun a k => ?_) fun _ z => z
  cases a with
  | bl b => exact ⟨b, rfl, k⟩
  | _ => exact k.elim
theorem snd_andV (ha : SndE W .t ta ma) (hb : SndE W .s tb mb) : SndE W .s (tAndV ta tb) (mAndV ma mb) := by
  intro G B H S σ Δ Q s w
  refine ha G B H S σ Δ _ s ((mT_w w.bind).mono (fun a k x H1 S1 g1 r1 _ => ?_) fun _ z => z)
  obtain ⟨b, rfl, k⟩ := k
  cases r1
  refine ⟨b, rfl, ?_⟩
  cases b with
  | true => exact hb G B H1 S1 σ Δ Q (s.grow g1) (Wp.mono k (fun d k2 v H2 S2 g2 r2 n2 => k2 v H2 S2 (g1.trans g2) r2 n2) fun _ z => z.grow g1.hh)
  | false => exact k _ H1 S1 g1 (.bl false) trivial
theorem snd_orV (ha : SndE W .t ta ma) (hb : SndE W .s tb mb) : SndE W .s (tOrV ta tb) (mOrV ma mb) := by
  intro G B H S σ Δ Q s w
  refine ha G B H S σ Δ _ s ((mT_w w.bind).mono (fun a k x H1 S1 g1 r1 _ => ?_) fun _ z => z)
  obtain ⟨b, rfl, k⟩ := k
  cases r1
  refine ⟨b, rfl, ?_⟩
  cases b with
  | true => exact k _ H1 S1 g1 (.bl true) trivial
  | false => exact hb G B H1 S1 σ Δ Q (s.grow g1) (Wp.mono k (fun d k2 v H2 S2 g2 r2 n2 => k2 v H2 S2 (g1.trans g2) r2 n2) fun _ z => z.grow g1.hh)
theorem snd_notV (ha : SndE W .t ta ma) : SndE W .s (tNotV ta) (mNotV ma) := by
  intro G B H S σ Δ Q s w
  refine ha G B H S σ Δ _ s ((mT_w w.bind).mono (fun a k x H1 S1 g1 r1 _ => ?_) fun _ z => z)
  obtain ⟨b, rfl, k⟩ := k
  cases r1
  exact ⟨b, rfl, k _ H1 S1 g1 (.bl (!b)) trivial⟩
def mIfE (mt : Fd → Md Bool) (ma mb : Fd → Md Dt) : Fd → Md Dt := fun Δ => (mt Δ).bind fun c => if c = true then ma Δ else mb Δ
theorem snd_ifE (ht : SndT W t mt) (ha : SndE W fl ta ma) (hb : SndE W fl tb mb) : SndE W fl (tIf t ta tb) (mIfE mt ma mb) := by
  intro G B H S σ Δ Q s w
  refine ht G B H S σ Δ _ s (w.bind.mono (fun c k H1 S1 g1 => ?_) fun _ z => z)
  cases c with
  | true => exact ha G B H1 S1 σ Δ Q (s.grow g1) (Wp.mono k (fun d k2 v H2 S2 g2 r2 n2 => k2 v H2 S2 (g1.trans g2) r2 (n2.back g1)) fun _ z => z.grow g1.hh)
  | false => exact hb G B H1 S1 σ Δ Q (s.grow g1) (Wp.mono k (fun d k2 v H2 S2 g2 r2 n2 => k2 v H2 S2 (g1.trans g2) r2 (n2.back g1)) fun _ z => z.grow g1.hh)
end
end Mr
namespace Mr
open PySem L2

/-! ### ends -/
inductive Out where
  | nx (Δ : Fd) | bk (Δ : Fd) | ct (Δ : Fd) | rt (d : Dt)
/-- what a def hands back; nw: a new list that nobody else has -/
def Rt (K : Kx) (nw : Bool) (G B H : Hp) (v : V) (d : Dt) : Prop := ∃ S, Ex G H ∧ Ex B S ∧ Ex S H ∧ (∀ b, G b ≠ none → B b = none → S b = none) ∧
  (match nw with
  | true => Hd K .n H S v d ∧ Nw .n G v
  | false => Rp K S v d)
def OutOk (W : Wo) (nw : Bool) (G B : Hp) (D : Ends) : Out → Prop
  | .nx Δ => ∀ H S σ, Slt W.K W.T G B H S σ Δ → D.nx σ H
  | .bk Δ => ∀ H S σ, Slt W.K W.T G B H S σ Δ → D.bk σ H
  | .ct Δ => ∀ H S σ, Slt W.K W.T G B H S σ Δ → D.ct σ H
  | .rt d => ∀ v H, Rt W.K nw G B H v d → D.rt v H
def SndS (W : Wo) (nw : Bool) (ts : TS) (ms : Fd → Md Out) : Prop := ∀ (G B H S : Hp) (σ : St) (Δ : Fd) (D : Ends), Slt W.K W.T G B H S σ Δ →
  Wp (ms Δ) (OutOk W nw G B D) (XW W.mg W.E G) → ts D σ H
/-- a store; the slots that it writes -/
def SndG (K : Kx) (T : List Addr) (ws : List Nat) (g : TG) (tg : Dt → Fd → Md Fd) : Prop := ∀ (G B H S : Hp) (σ : St) (Δ : Fd) (v : V) (d : Dt) (Q : St → Hp → Prop), Slt K T G B H S σ Δ → Rp K S v d →
  Wp (tg d Δ) (fun Δ' => ∀ σ', Slt K T G B H S σ' Δ' → (∀ vs : List Nat, (∀ i ∈ ws, i ∈ vs) → wipe σ' vs = wipe σ vs) → Q σ' H) (fun _ => False) → g v σ H Q
def SndGs (K : Kx) (T : List Addr) (ws : List Nat) (g : TGs) (tg : List Dt → Fd → Md Fd) : Prop := ∀ (G B H S : Hp) (σ : St) (Δ : Fd) (vs : List V) (ds : List Dt) (Q : St → Hp → Prop), Slt K T G B H S σ Δ → RpL K S vs ds →
  Wp (tg ds Δ) (fun Δ' => ∀ σ', Slt K T G B H S σ' Δ' → (∀ vs : List Nat, (∀ i ∈ ws, i ∈ vs) → wipe σ' vs = wipe σ vs) → Q σ' H) (fun _ => False) → g vs σ H Q
theorem wipe_set {σ : St} {i : Nat} {x : Option V} : ∀ {vs : List Nat}, i ∈ vs → wipe (σ.set i x) vs = wipe σ vs
  | [], h => by cases h
  | v :: vs, h => by
    show (wipe (σ.set i x) vs).set v none = (wipe σ vs).set v none
    by_cases hm : i ∈ vs
    · rw [wipe_set hm]
    · have hv : i = v := by
        rcases List.mem_cons.mp h with z | z
        · exact z
        · exact absurd z hm
      subst hv
      refine List.ext_getElem? fun j => ?_
      by_cases hj : i = j
      · subst hj
        by_cases hl : i < σ.length
        · rw [List.getElem?_set_self (by rw [wipe_length, List.length_set]; exact hl), List.getElem?_set_self (by rw [wipe_length]; exact hl)]
        · rw [List.getElem?_eq_none (by rw [List.length_set, wipe_length, List.length_set]; omega), List.getElem?_eq_none (by rw [List.length_set, wipe_length]; omega)]
      · rw [List.getElem?_set_ne hj, List.getElem?_set_ne hj]
        by_cases hjv : j ∈ vs
        · have key : ∀ {ρ : St} {ws : List Nat}, j ∈ ws → (wipe ρ ws)[j]? = if j < ρ.length then some none else none := by
            intro ρ ws
            induction ws with
            | nil => intro h; cases h
            | cons w r ih =>
              intro hw
              unfold wipe
              by_cases hwj : w = j
              · subst hwj
                by_cases hl : w < ρ.length
                · rw [List.getElem?_set_self (by rw [wipe_length]; exact hl), if_pos hl]
                · rw [List.getElem?_eq_none (by rw [List.length_set, wipe_length]; omega), if_neg hl]
              · rw [List.getElem?_set_ne hwj]
                rcases List.mem_cons.mp hw with z | z
                · exact absurd z.symm hwj
                · exact ih z
          rw [key hjv, key hjv, List.length_set]
        · rw [wipe_out hjv, wipe_out hjv, List.getElem?_set_ne hj]

section
variable {W : Wo} {nw : Bool} {ta tb : TE} {ma mb : Fd → Md Dt} {t u : TS} {mt mu : Fd → Md Out} {tc : TT} {mc : Fd → Md Bool} {K : Kx} {T : List Addr} {g : TG} {tg : Dt → Fd → Md Fd} {G B H S : Hp} {σ : St} {Δ : Fd}
/-! ### stores -/
def gsName (i : Nat) : Dt → Fd → Md Fd := fun d Δ => .ok (Δ.set i (.sh d))
theorem sg_name (i : Nat) : SndG K T [i] (gName i) (gsName i) := fun G B H S σ Δ v d Q s r w => w _ (s.set i r) fun vs h => wipe_set (h i (by simp))
def gsNil : List Dt → Fd → Md Fd := fun ds Δ => match ds with
  | [] => .ok Δ
  | _ => .bad
def gsCons (a : Dt → Fd → Md Fd) (r : List Dt → Fd → Md Fd) : List Dt → Fd → Md Fd := fun ds Δ => match ds with
  | d :: es => (a d Δ).bind fun Δ' => r es Δ'
  | [] => .bad
theorem sgs_nil : SndGs K T [] gNil gsNil := by
  intro G B H S σ Δ vs ds Q s r w
  unfold gsNil at w
  split at w
  · cases r
    exact ⟨rfl, w _ s fun vs _ => rfl⟩
  · exact w.elim
theorem sgs_cons {ws1 ws2 : List Nat} {gs : TGs} {tgs : List Dt → Fd → Md Fd} (h1 : SndG K T ws1 g tg) (h2 : SndGs K T ws2 gs tgs) : SndGs K T (ws1 ++ ws2) (gCons g gs) (gsCons tg tgs) := by
  intro G B H S σ Δ vs ds Q s r w
  unfold gsCons at w
  split at w
  · cases r with
    | cons r1 r2 =>
      refine ⟨_, _, rfl, h1 G B H S σ Δ _ _ _ s r1 (w.bind.mono (fun Δ1 k σ1 s1 e1 => ?_) fun _ z => z)⟩
      exact h2 G B H S σ1 Δ1 _ _ Q s1 r2 (Wp.mono k (fun Δ2 k2 σ2 s2 e2 => k2 σ2 s2 fun vs hv => (e2 vs fun i hi => hv i (List.mem_append_right _ hi)).trans (e1 vs fun i hi => hv i (List.mem_append_left _ hi))) fun _ z => z)
  · exact w.elim
def gsTup (n : Nat) (r : List Dt → Fd → Md Fd) : Dt → Fd → Md Fd := fun d Δ => match d with
  | .tup ds => if ds.length = n then r ds Δ else .bad
  | .tpk ds => if ds.length = n then r ds Δ else .bad
  | _ => .bad
theorem sg_tup {n : Nat} {ws : List Nat} {gs : TGs} {tgs : List Dt → Fd → Md Fd} (h : SndGs K T ws gs tgs) : SndG K T ws (gTup K n gs) (gsTup n tgs) := by
  intro G B H S σ Δ v d Q s r w
  unfold gsTup at w
  split at w
  · rename_i ds
    by_cases hn : ds.length = n
    · rw [if_pos hn] at w
      cases r with
      | tup ha hr => exact ⟨_, _, rfl, .inl (.inl (s.sh.tup ha)), by rw [hr.length]; exact hn, h G B H S σ Δ _ _ Q s hr w⟩
    · rw [if_neg hn] at w
      exact w.elim
  · rename_i ds
    by_cases hn : ds.length = n
    · rw [if_pos hn] at w
      cases r with
      | tpk ha hr => exact ⟨_, _, rfl, s.sh.sqT ha, by rw [hr.length]; exact hn, h G B H S σ Δ _ _ Q s hr w⟩
    · rw [if_neg hn] at w
      exact w.elim
  · exact w.elim

/-! ### statements -/
theorem xw_up (s : Slt W.K W.T G B H S σ Δ) {c : Str} (z : XW W.mg W.E G c) : XW W.mg W.E H c := z.grow s.gh
def mSeq (a b : Fd → Md Out) : Fd → Md Out := fun Δ => (a Δ).bind fun o => match o with
  | .nx Δ' => b Δ'
  | o => .ok o
theorem ss_seq (h1 : SndS W nw t mt) (h2 : SndS W nw u mu) : SndS W nw (tSeq t u) (mSeq mt mu) := by
  intro G B H S σ Δ D s w
  refine h1 G B H S σ Δ _ s (w.bind.mono (fun o k => ?_) fun _ z => z)
  cases o with
  | nx Δ' => exact fun H' S' σ' s' => h2 G B H' S' σ' Δ' D s' k
  | bk Δ' => exact k
  | ct Δ' => exact k
  | rt d => exact k
def mNext : Fd → Md Out := fun Δ => .ok (.nx Δ)
theorem ss_next : SndS W nw tNext mNext := fun G B H S σ Δ D s w => w H S σ s
def mBreak : Fd → Md Out := fun Δ => .ok (.bk Δ)
theorem ss_break : SndS W nw tBreak mBreak := fun G B H S σ Δ D s w => w H S σ s
def mCont : Fd → Md Out := fun Δ => .ok (.ct Δ)
theorem ss_cont : SndS W nw tCont mCont := fun G B H S σ Δ D s w => w H S σ s
/-- a list of the frame's own is shared ahead of the statement -/
def mGive (i : Nat) (a : Fd → Md Out) : Fd → Md Out := fun Δ => a (give i Δ)
theorem ss_give (i : Nat) (h : SndS W nw t mt) : SndS W nw t (mGive i mt) := by
  intro G B H S σ Δ D s w
  obtain ⟨S', _, s'⟩ := s.give i
  exact h G B H S' σ _ D s' w
def mAsg (i : Nat) (a : Fd → Md Dt) : Fd → Md Out := fun Δ => (a Δ).bind fun d => .ok (.nx (Δ.set i (.sh d)))
theorem ss_asg (i : Nat) (h : SndE W .s ta ma) : SndS W nw (tAsg ta (gName i)) (mAsg i ma) := fun G B H S σ Δ D s w =>
  h G B H S σ Δ _ s (w.bind.mono (fun d k v H' S' g r _ => k H' S' _ ((s.grow g).set i r)) fun _ z => xw_up s z)
def mAsgT (tg : Dt → Fd → Md Fd) (a : Fd → Md Dt) : Fd → Md Out := fun Δ => (a Δ).bind fun d => match tg d Δ with
  | .ok Δ' => .ok (.nx Δ')
  | _ => .bad
theorem ss_asgT {ws : List Nat} (h : SndE W .s ta ma) (hg : SndG W.K W.T ws g tg) : SndS W nw (tAsg ta g) (mAsgT tg ma) := fun G B H S σ Δ D s w =>
  h G B H S σ Δ _ s (w.bind.mono (fun d k v H' S' gr r _ => by
    refine hg G B H' S' σ Δ v d _ (s.grow gr) r ?_
    revert k
    cases tg d Δ with
    | ok Δ' => exact fun k σ' s' _ => k H' S' σ' s'
    | exc c => exact fun k => k.elim
    | bad => exact fun k => k.elim) fun _ z => xw_up s z)
/-- a new list that the frame is to change -/
def mAsgO (i : Nat) (a : Fd → Md Dt) : Fd → Md Out := fun Δ => (a Δ).bind fun d => match d with
  | .lst ds => .ok (.nx (Δ.set i (.ow ds)))
  | _ => .bad
theorem ss_asgO (i : Nat) (h : SndE W .n ta ma) : SndS W nw (tAsg ta (gName i)) (mAsgO i ma) := fun G B H S σ Δ D s w =>
  h G B H S σ Δ _ s (w.bind.mono (fun d k v H' S' g r n => by
    obtain ⟨p, vs, ds, e1, e2, e3, e4, r⟩ := r
    subst e1 e2
    obtain ⟨q, e5, e6⟩ := n
    cases e5
    refine k H' S' _ ((s.grow g).setO i (s.gh.free e6) e4 e3 r (fun j es _ ho hσ => ?_) (s.cl.new e6))
    obtain ⟨a, us, e, _, _, h3, _⟩ := s.own j es ho
    rw [hσ] at e
    cases e
    rw [e6] at h3
    cases h3) fun _ z => xw_up s z)
def mDrop (a : Fd → Md Dt) : Fd → Md Out := fun Δ => (a Δ).bind fun _ => .ok (.nx Δ)
theorem ss_drop {fl : Fl} (h : SndE W fl ta ma) : SndS W nw (tDrop ta) (mDrop ma) := fun G B H S σ Δ D s w =>
  h G B H S σ Δ _ s (w.bind.mono (fun d k v H' S' g r _ => k H' S' _ (s.grow g)) fun _ z => xw_up s z)
def mIfS (c : Fd → Md Bool) (a b : Fd → Md Out) : Fd → Md Out := fun Δ => (c Δ).bind fun x => if x = true then a Δ else b Δ
theorem ss_if (hc : SndT W tc mc) (h1 : SndS W nw t mt) (h2 : SndS W nw u mu) : SndS W nw (tIfS tc t u) (mIfS mc mt mu) := fun G B H S σ Δ D s w =>
  hc G B H S σ Δ _ s (w.bind.mono (fun x k H' S' g => by
    cases x with
    | true => exact h1 G B H' S' σ Δ D (s.grow g) k
    | false => exact h2 G B H' S' σ Δ D (s.grow g) k) fun _ z => xw_up s z)
def mRet (a : Fd → Md Dt) : Fd → Md Out := fun Δ => (a Δ).bind fun d => .ok (.rt d)
theorem ss_ret (h : SndE W .s ta ma) : SndS W false (tRet ta) (mRet ma) := fun G B H S σ Δ D s w =>
  h G B H S σ Δ _ s (w.bind.mono (fun d k v H' S' g r _ => by
    have s' := s.grow g
    exact k v H' ⟨S', s'.gh, s'.bs, s'.sh, s'.fr, r⟩) fun _ z => xw_up s z)
theorem ss_retn (h : SndE W .n ta ma) : SndS W true (tRet ta) (mRet ma) := fun G B H S σ Δ D s w =>
  h G B H S σ Δ _ s (w.bind.mono (fun d k v H' S' g r n => by
    have s' := s.grow g
    obtain ⟨p, e1, e2⟩ := n
    exact k v H' ⟨S', s'.gh, s'.bs, s'.sh, s'.fr, r, p, e1, s.gh.free e2⟩) fun _ z => xw_up s z)
def mRetO (i : Nat) : Fd → Md Out := fun Δ => match Δ[i]? with
  | some (.ow ds) => .ok (.rt (.lst ds))
  | _ => .bad
theorem ss_retO (i : Nat) : SndS W nw (tRet (tVar i)) (mRetO i) := by
  intro G B H S σ Δ D s w
  unfold mRetO at w
  split at w
  · rename_i ds h
    obtain ⟨a, vs, e, hG, hS, hH, r⟩ := s.own i ds h
    refine ⟨.ref a, e, w (.ref a) H ?_⟩
    cases nw with
    | true => exact ⟨S, s.gh, s.bs, s.sh, s.fr, ⟨a, vs, ds, rfl, rfl, hH, hS, r⟩, a, rfl, hG⟩
    | false =>
      have x : Ex S (upd S a (.lst vs)) := Ex.new hS
      refine ⟨_, s.gh, s.bs.trans x, ex_give s.sh hH, fun b hb z => ?_, .lst upd_same (RpL.mono x r)⟩
      rw [upd_ne (show b ≠ a from fun y => hb (by rw [y]; exact hG))]
      exact s.fr b hb z
  · exact w.elim
def mRetN : Fd → Md Out := fun _ => .ok (.rt .non)
theorem ss_retN : SndS W false tRetN mRetN := fun G B H S σ Δ D s w => w .non H ⟨S, s.gh, s.bs, s.sh, s.fr, .non⟩
def mRaise (c : Str) : Fd → Md Out := fun _ => .exc c
theorem ss_raise {c : Str} {C : Addr} (h : W.mg c = some (.ref C)) : SndS W nw (fun _ _ H => W.E (.ref C) none H) (mRaise c) := fun G B H S σ Δ D s w => by
  obtain ⟨C', h', k⟩ := w
  rw [h] at h'
  cases h'
  exact k H s.gh
/-! ### lists of the frame's own, changed -/
def mApp (i : Nat) (a : Fd → Md Dt) : Fd → Md Out := fun Δ => match Δ[i]? with
  | some (.ow ds) => if ds.length < 16777216 then (a Δ).bind fun d => .ok (.nx (Δ.set i (.ow (ds ++ [d])))) else .bad
  | _ => .bad
theorem lt_line {n : Nat} (h : n < 16777216) : n < sizeLine := by
  rw [sizeLine_eq]
  exact h
theorem ss_app (i : Nat) (h : SndE W .s ta ma) : SndS W nw (tDrop (tBM W.K "list" rAppend (tVar i) (tCons ta tNil))) (mApp i ma) := by
  intro G B H S σ Δ D s w
  unfold mApp at w
  split at w
  · rename_i ds hi
    by_cases hl : ds.length < 16777216
    · rw [if_pos hl] at w
      obtain ⟨a, vs, e, hG, hS, hH, r⟩ := s.own i ds hi
      refine ⟨.ref a, e, .inl ⟨rfl, vs, .of hH⟩, ?_⟩
      refine h G B H S σ Δ _ s (w.bind.mono (fun d k v H' S' g rv _ => ?_) fun _ z => xw_up s z)
      have s' := s.grow g
      refine ⟨a, vs, v, rfl, rfl, g.hh.lst hH, lt_line (by rw [r.length]; exact hl), ?_⟩
      exact k _ S' σ (s'.put hi e ((RpL.mono g.ss r).app (.one rv)))
    · rw [if_neg hl] at w
      exact w.elim
  · exact w.elim
/-- xs.append(ys.pop(k)) -/
def mAppPop (i j : Nat) (a : Fd → Md Dt) : Fd → Md Out := fun Δ => match Δ[i]?, Δ[j]? with
  | some (.ow ds), some (.ow es) => if ds.length < 16777216 ∧ i ≠ j then (a Δ).bind fun d => match d with
    | .int k => if 0 ≤ k ∧ k < 16777216 then (match es[k.toNat]? with
      | some y => .ok (.nx ((Δ.set j (.ow (es.eraseIdx k.toNat))).set i (.ow (ds ++ [y]))))
      | none => .bad) else .bad
    | _ => .bad
    else .bad
  | _, _ => .bad
theorem seqIndex_nat {n k : Nat} (h : k < n) : seqIndex? (k : Int) n = some k := by
  have h1 : ¬ ((k : Int) < 0) := by omega
  have h2 : (decide (0 ≤ (k : Int)) && decide ((k : Int) < (n : Int))) = true := by
    rw [Bool.and_eq_true, decide_eq_true_eq, decide_eq_true_eq]
    omega
  unfold seqIndex?
  simp only [if_neg h1, h2, if_true, Int.toNat_natCast]
theorem ss_appPop (i j : Nat) (h : SndE W .t ta ma) : SndS W nw (tDrop (tBM W.K "list" rAppend (tVar i) (tCons (tBM W.K "list" rPopAt (tVar j) (tCons ta tNil)) tNil))) (mAppPop i j ma) := by
  intro G B H S σ Δ D s w
  unfold mAppPop at w
  split at w
  · rename_i ds es hi hj
    by_cases hl : ds.length < 16777216 ∧ i ≠ j
    · rw [if_pos hl] at w
      obtain ⟨a, vs, e, hG, hS, hH, r⟩ := s.own i ds hi
      obtain ⟨b, us, e2, hG2, hS2, hH2, r2⟩ := s.own j es hj
      refine ⟨.ref a, e, .inl ⟨rfl, vs, .of hH⟩, .ref b, e2, .inl ⟨rfl, us, .of hH2⟩, ?_⟩
      refine h G B H S σ Δ _ s (w.bind.mono (fun d k v H' S' g rv _ => ?_) fun _ z => xw_up s z)
      have s' := s.grow g
      cases d with
      | int z =>
        cases Rp.isInt rv
        by_cases hz : 0 ≤ z ∧ z < 16777216
        · simp only [if_pos hz] at k
          cases hy : es[z.toNat]? with
          | none =>
            rw [hy] at k
            exact k.elim
          | some y =>
            rw [hy] at k
            obtain ⟨x, hx, rx⟩ := r2.at hy
            have hlt : z.toNat < us.length := (List.getElem?_eq_some_iff.mp hx).1
            have hzn : ((z.toNat : Nat) : Int) = z := Int.toNat_of_nonneg hz.1
            have hne : a ≠ b := fun q => hl.2 (s.nd i j ds es a hi hj e (q ▸ e2))
            have s2 := s'.put hj e2 (RpL.mono g.ss (r2.erase z.toNat))
            have hi2 : (Δ.set j (.ow (es.eraseIdx z.toNat)))[i]? = some (.ow ds) := by
              rw [List.getElem?_set_ne (Ne.symm hl.2)]
              exact hi
            refine ⟨b, us, z, z.toNat, x, rfl, rfl, g.hh.lst hH2, by omega, by omega, ?_, hx, a, vs, x, rfl, rfl, ?_, lt_line (by rw [r.length]; exact hl.1), ?_⟩
            · have q := seqIndex_nat hlt
              rw [hzn] at q
              exact q
            · rw [upd_ne hne]
              exact g.hh.lst hH
            · exact k _ S' σ (s2.put hi2 e ((RpL.mono g.ss r).app (.one (Rp.mono g.ss rx))))
        · simp only [if_neg hz] at k
          exact k.elim
      | _ => exact k.elim
    · rw [if_neg hl] at w
      exact w.elim
  · exact w.elim
/-- xs[i] = e, xs the frame's own -/
def mSetI (i : Nat) (a b : Fd → Md Dt) : Fd → Md Out := fun Δ => (a Δ).bind fun d => match Δ[i]? with
  | some (.ow ds) => (b Δ).bind fun k => match k with
    | .int k => (match ixN ds.length k with
      | some j => .ok (.nx (Δ.set i (.ow (ds.set j d))))
      | none => .bad)
    | _ => .bad
  | _ => .bad
theorem ss_setI (i : Nat) (h : SndE W .s ta ma) (hb : SndE W .t tb mb) : SndS W nw (tAsg ta (gSub (tVar i) tb rSetL)) (mSetI i ma mb) := by
  intro G B H S σ Δ D s w
  refine h G B H S σ Δ _ s (w.bind.mono (fun d k v H1 S1 g rv _ => ?_) fun _ z => xw_up s z)
  have s1 := s.grow g
  revert k
  cases hi : Δ[i]? with
  | none => exact fun k => k.elim
  | some x =>
    cases x with
    | ow ds =>
      intro k
      obtain ⟨a, vs, e, hG, hS, hH, r⟩ := s1.own i ds hi
      refine ⟨.ref a, e, ?_⟩
      refine hb G B H1 S1 σ Δ _ s1 (k.bind.mono (fun z k2 y H2 S2 g2 ry _ => ?_) fun _ z => xw_up s1 z)
      cases z with
      | int z =>
        cases Rp.isInt ry
        cases hx : ixN ds.length z with
        | none =>
          simp only [hx] at k2
          exact k2.elim
        | some j =>
          simp only [hx] at k2
          refine ⟨a, vs, z, j, rfl, rfl, g2.hh.lst hH, by rw [r.length]; exact hx, ?_⟩
          exact k2 _ S2 σ ((s1.grow g2).put hi e (RpL.set (Rp.mono g2.ss rv) j (RpL.mono g2.ss r)))
      | _ => exact k2.elim
    | _ => exact fun k => k.elim
end
end Mr
namespace Mr
open PySem L2

/-! ### what is walked -/
/-- J goes over xs, all of it shared in S0 -/
structure Walks (K : Kx) (J : It) (xs : List Dt) (S0 : Hp) : Prop where
  goes : ∀ (i : Nat) (H : Hp), i < xs.length → Ex S0 H → J.go i H
  stops : ∀ H, Ex S0 H → J.stop xs.length H
  yields : ∀ (i : Nat) (H S : Hp) (x : V) (H' : Hp), i < xs.length → Ex S0 S → Ex S H → J.yld i H x H' → ∃ d S', xs[i]? = some d ∧ Gr H S H' S' ∧ Rp K S' x d
def SndI (W : Wo) (wi : TI) (mi : Fd → Md (List Dt)) : Prop := ∀ (G B H S : Hp) (σ : St) (Δ : Fd) (R : It → Hp → Prop), Slt W.K W.T G B H S σ Δ →
  Wp (mi Δ) (fun xs => ∀ J H' S', Gr H S H' S' → Walks W.K J xs S' → R J H') (XW W.mg W.E H) → wi σ H R
/-- J goes over xs while nothing changes; Hb: the heap, S0: what is shared -/
structure WalksH (K : Kx) (J : It) (xs : List Dt) (Hb S0 : Hp) : Prop where
  goes : ∀ (i : Nat) (H : Hp), i < xs.length → Ex Hb H → J.go i H
  stops : ∀ H, Ex Hb H → J.stop xs.length H
  yields : ∀ (i : Nat) (H S : Hp) (x : V) (H' : Hp), i < xs.length → Ex Hb H → Ex S0 S → Ex S H → J.yld i H x H' → ∃ d S', xs[i]? = some d ∧ Gr H S H' S' ∧ Rp K S' x d
def SndJ (W : Wo) (wi : TI) (mi : Fd → Md (List Dt)) : Prop := ∀ (G B H S : Hp) (σ : St) (Δ : Fd) (R : It → Hp → Prop), Slt W.K W.T G B H S σ Δ →
  Wp (mi Δ) (fun xs => ∀ J H' S', Gr H S H' S' → WalksH W.K J xs H' S' → R J H') (XW W.mg W.E H) → wi σ H R
theorem Walks.h {K : Kx} {J : It} {xs : List Dt} {Hb S0 : Hp} (w : Walks K J xs S0) (e : Ex S0 Hb) : WalksH K J xs Hb S0 :=
  ⟨fun i H hi h => w.goes i H hi (e.trans h), fun H h => w.stops H (e.trans h), fun i H S x H' hi _ e1 e2 y => w.yields i H S x H' hi e1 e2 y⟩
theorem SndI.j {W : Wo} {wi : TI} {mi : Fd → Md (List Dt)} (h : SndI W wi mi) : SndJ W wi mi := fun G B H S σ Δ R s w => h G B H S σ Δ R s (w.mono (fun xs k J H' S' g wk => k J H' S' g (wk.h g.sh)) fun _ z => z)
section
variable {W : Wo} {fl : Fl} {te : TE} {me : Fd → Md Dt} {ta : TA} {ma : Fd → Md (List Dt)} {K : Kx}
def dSeq : Dt → Md (List Dt)
  | .lst ds => .ok ds
  | .lsk ds => .ok ds
  | _ => .bad
def mItL (me : Fd → Md Dt) : Fd → Md (List Dt) := fun Δ => (me Δ).bind dSeq
theorem getE {α : Type} {l : List α} {i : Nat} (h : i < l.length) : ∃ x, l[i]? = some x := ⟨l[i], List.getElem?_eq_getElem h⟩
theorem walks_list {a : Addr} {vs : List V} {ds : List Dt} {S : Hp} (h : SqL K S a vs) (r : RpL K S vs ds) : Walks K (Itl K a) ds S := by
  refine ⟨fun i H hi e => ?_, fun H e => ⟨vs, e.sqL h, by rw [r.length]; exact Nat.le_refl _⟩, fun i H S1 x H' hi e1 e2 y => ?_⟩
  · obtain ⟨x, hx⟩ := getE (l := vs) (i := i) (by rw [r.length]; exact hi)
    exact ⟨vs, x, e.sqL h, hx⟩
  · obtain ⟨e, y⟩ := y
    subst e
    obtain ⟨d, hd, rd⟩ := r.get (y vs ((e1.trans e2).sqL h))
    exact ⟨d, S1, hd, Gr.refl e2, rd.mono e1⟩
theorem walks_tup {a : Addr} {vs : List V} {ds : List Dt} {S : Hp} (h : SqT K S a vs) (r : RpL K S vs ds) : Walks K (Itt K a) ds S := by
  refine ⟨fun i H hi e => ?_, fun H e => ⟨vs, e.sqT h, by rw [r.length]; exact Nat.le_refl _⟩, fun i H S1 x H' hi e1 e2 y => ?_⟩
  · obtain ⟨x, hx⟩ := getE (l := vs) (i := i) (by rw [r.length]; exact hi)
    exact ⟨vs, x, e.sqT h, hx⟩
  · obtain ⟨e, y⟩ := y
    subst e
    obtain ⟨d, hd, rd⟩ := r.get (y vs ((e1.trans e2).sqT h))
    exact ⟨d, S1, hd, Gr.refl e2, rd.mono e1⟩
theorem si_list (h : SndE W .s te me) : SndI W (iList W.K te) (mItL me) := by
  intro G B H S σ Δ R s w
  refine h G B H S σ Δ _ s (w.bind.mono (fun d k v H' S' g r _ => ?_) fun _ z => z)
  unfold dSeq at k
  split at k
  · cases r with
    | lst ha hr => exact ⟨_, rfl, ⟨_, .of (g.sh.lst ha)⟩, k _ H' S' g (walks_list (.of ha) hr)⟩
  · cases r with
    | lsk ha hr => exact ⟨_, rfl, ⟨_, g.sh.sqL ha⟩, k _ H' S' g (walks_list ha hr)⟩
  · exact k.elim
theorem walks_listH {a : Addr} {vs : List V} {ds : List Dt} {Hb S : Hp} (h : SqL K Hb a vs) (r : RpL K S vs ds) : WalksH K (Itl K a) ds Hb S := by
  refine ⟨fun i H hi e => ?_, fun H e => ⟨vs, e.sqL h, by rw [r.length]; exact Nat.le_refl _⟩, fun i H S1 x H' hi e0 e1 e2 y => ?_⟩
  · obtain ⟨x, hx⟩ := getE (l := vs) (i := i) (by rw [r.length]; exact hi)
    exact ⟨vs, x, e.sqL h, hx⟩
  · obtain ⟨e, y⟩ := y
    subst e
    obtain ⟨d, hd, rd⟩ := r.get (y vs (e0.sqL h))
    exact ⟨d, S1, hd, Gr.refl e2, rd.mono e1⟩
theorem sj_list (h : SndE W .l te me) : SndJ W (iList W.K te) (mItL me) := by
  intro G B H S σ Δ R s w
  refine h G B H S σ Δ _ s (w.bind.mono (fun d k v H' S' g r _ => ?_) fun _ z => z)
  obtain ⟨p, vs, ds, rfl, rfl, e3, r⟩ := r
  exact ⟨p, rfl, ⟨vs, .of e3⟩, k _ H' S' g (walks_listH (.of e3) r)⟩
def dTpl : Dt → Md (List Dt)
  | .tup ds => .ok ds
  | .tpk ds => .ok ds
  | _ => .bad
def mItT (me : Fd → Md Dt) : Fd → Md (List Dt) := fun Δ => (me Δ).bind dTpl
theorem si_tup (h : SndE W .s te me) : SndI W (iTup W.K te) (mItT me) := by
  intro G B H S σ Δ R s w
  refine h G B H S σ Δ _ s (w.bind.mono (fun d k v H' S' g r _ => ?_) fun _ z => z)
  unfold dTpl at k
  split at k
  · cases r with
    | tup ha hr => exact ⟨_, rfl, ⟨_, .of (g.sh.tup ha)⟩, k _ H' S' g (walks_tup (.of ha) hr)⟩
  · cases r with
    | tpk ha hr => exact ⟨_, rfl, ⟨_, g.sh.sqT ha⟩, k _ H' S' g (walks_tup ha hr)⟩
  · exact k.elim
/-- lo, lo + 1, .. -/
def rng (lo : Int) (n : Nat) : List Dt := (List.range n).map fun (i : Nat) => Dt.int (lo + (i : Int))
theorem rng_get {lo : Int} {n i : Nat} (h : i < n) : (rng lo n)[i]? = some (.int (lo + (i : Int))) := by
  unfold rng
  rw [List.getElem?_map, List.getElem?_range h]
  rfl
theorem rng_len {lo : Int} {n : Nat} : (rng lo n).length = n := by
  unfold rng
  rw [List.length_map, List.length_range]
theorem walks_rng {lo : Int} {n : Nat} {S : Hp} : Walks K (Itr lo n) (rng lo n) S := by
  refine ⟨fun i H hi _ => ?_, fun H _ => ?_, fun i H S1 x H' hi e1 e2 y => ?_⟩
  · rw [rng_len] at hi
    exact hi
  · show n ≤ _
    rw [rng_len]
    exact Nat.le_refl _
  · rw [rng_len] at hi
    obtain ⟨e, y⟩ := y
    subst e y
    exact ⟨_, S1, rng_get hi, Gr.refl e2, .int _⟩
def smallI (i : Int) : Bool := decide (-(2 ^ 62) ≤ i) && decide (i < 2 ^ 62)
theorem smallI_ok {i : Int} (h : smallI i = true) : -(2 ^ 62) ≤ i ∧ i < 2 ^ 62 := by
  unfold smallI at h
  rw [Bool.and_eq_true, decide_eq_true_eq, decide_eq_true_eq] at h
  exact h
def mIt1 (ma : Fd → Md (List Dt)) : Fd → Md (List Dt) := fun Δ => (ma Δ).bind fun ds => match ds with
  | [.int j] => if smallI j = true then .ok (rng 0 j.toNat) else .bad
  | _ => .bad
theorem si_rng1 (h : SndA W .t ta ma) : SndI W (iRng1 ta) (mIt1 ma) := by
  intro G B H S σ Δ R s w
  refine h G B H S σ Δ _ s (w.bind.mono (fun ds k vs H' S' g r => ?_) fun _ z => z)
  split at k
  · rename_i j
    by_cases hj : smallI j = true
    · rw [if_pos hj] at k
      cases r with
      | cons r1 r2 =>
        cases r1
        cases r2
        exact ⟨j, rfl, (smallI_ok hj).1, (smallI_ok hj).2, k _ H' S' g walks_rng⟩
    · rw [if_neg hj] at k
      exact k.elim
  · exact k.elim
def mIt2 (ma : Fd → Md (List Dt)) : Fd → Md (List Dt) := fun Δ => (ma Δ).bind fun ds => match ds with
  | [.int i, .int j] => if smallI i = true ∧ smallI j = true then .ok (rng i (j - i).toNat) else .bad
  | _ => .bad
theorem si_rng2 (h : SndA W .t ta ma) : SndI W (iRng2 ta) (mIt2 ma) := by
  intro G B H S σ Δ R s w
  refine h G B H S σ Δ _ s (w.bind.mono (fun ds k vs H' S' g r => ?_) fun _ z => z)
  split at k
  · rename_i i j
    by_cases hj : smallI i = true ∧ smallI j = true
    · rw [if_pos hj] at k
      cases r with
      | cons r1 r2 =>
        cases r1
        cases r2 with
        | cons r3 r4 =>
          cases r3
          cases r4
          exact ⟨i, j, rfl, ⟨(smallI_ok hj.1).1, (smallI_ok hj.1).2, (smallI_ok hj.2).1, (smallI_ok hj.2).2⟩, k _ H' S' g walks_rng⟩
    · rw [if_neg hj] at k
      exact k.elim
  · exact k.elim
/-- enumerate(xs) -/
def enu : Nat → List Dt → List Dt
  | _, [] => []
  | k, x :: r => .tup [.int (k : Int), x] :: enu (k + 1) r
theorem enu_get : ∀ {xs : List Dt} {k i : Nat} {x : Dt}, xs[i]? = some x → (enu k xs)[i]? = some (.tup [.int ((k + i : Nat) : Int), x])
  | [], _, _, _, h => by simp at h
  | y :: r, k, 0, x, h => by
    cases h
    rfl
  | y :: r, k, i + 1, x, h => by
    show (enu (k + 1) r)[i]? = _
    rw [enu_get (xs := r) (k := k + 1) (i := i) (x := x) h]
    have e : k + 1 + i = k + (i + 1) := by omega
    rw [e]
theorem enu_len : ∀ {xs : List Dt} {k : Nat}, (enu k xs).length = xs.length
  | [], _ => rfl
  | _ :: r, k => congrArg (· + 1) (enu_len (xs := r) (k := k + 1))
theorem walks_enum {a : Addr} {vs : List V} {ds : List Dt} {S : Hp} (h : SqL K S a vs) (r : RpL K S vs ds) : Walks K (Ite K a) (enu 0 ds) S := by
  refine ⟨fun i H hi e => ?_, fun H e => ⟨vs, e.sqL h, by rw [enu_len, r.length]; exact Nat.le_refl _⟩, fun i H S1 x H' hi e1 e2 y => ?_⟩
  · rw [enu_len] at hi
    obtain ⟨x, hx⟩ := getE (l := vs) (i := i) (by rw [r.length]; exact hi)
    exact ⟨vs, x, e.sqL h, hx⟩
  · obtain ⟨p, v, h1, h2, h3, h4⟩ := y
    obtain ⟨d, hd, rd⟩ := r.get (h4 vs ((e1.trans e2).sqL h))
    subst h1 h3
    have g := Gr.new (o := .tup [.int (i : Int), v]) e2 h2
    refine ⟨_, _, enu_get hd, g, .tup upd_same (.cons ?_ (.cons ((rd.mono e1).mono g.ss) .nil))⟩
    rw [Nat.zero_add]
    exact .int _

/-! ### for -/
def mForGo (tg : Dt → Fd → Md Fd) (mb : Fd → Md Out) : List Dt → Fd → Md Out
  | [], Δ => .ok (.nx Δ)
  | x :: r, Δ => match tg x Δ with
    | .ok Δ1 => (mb Δ1).bind fun o => match o with
      | .nx Δ2 => mForGo tg mb r Δ2
      | .ct Δ2 => mForGo tg mb r Δ2
      | .bk Δ2 => .ok (.nx Δ2)
      | .rt d => .ok (.rt d)
    | _ => .bad
def mFor (mi : Fd → Md (List Dt)) (tg : Dt → Fd → Md Fd) (mb : Fd → Md Out) : Fd → Md Out := fun Δ => (mi Δ).bind fun xs => mForGo tg mb xs Δ
open Classical in
/-- the heap without the frame's own lists -/
noncomputable def bare (H : Hp) (σ : St) (Δ : Fd) : Hp := fun b => if ∃ (i : Nat) (ds : List Dt), Δ[i]? = some (.ow ds) ∧ σ[i]? = some (some (.ref b)) then none else H b
section
variable {T : List Addr} {G B H S H' S' : Hp} {σ σ' : St} {Δ Δ' : Fd}
theorem bare_own {i : Nat} {ds : List Dt} {a : Addr} (h1 : Δ[i]? = some (.ow ds)) (h2 : σ[i]? = some (some (.ref a))) : bare H σ Δ a = none := by
  unfold bare
  exact if_pos ⟨i, ds, h1, h2⟩
theorem bare_some {b : Addr} {o : HO} (h : bare H σ Δ b = some o) : H b = some o := by
  unfold bare at h
  by_cases c : ∃ (i : Nat) (ds : List Dt), Δ[i]? = some (.ow ds) ∧ σ[i]? = some (some (.ref b))
  · rw [if_pos c] at h
    cases h
  · rw [if_neg c] at h
    exact h
theorem bare_not {b : Addr} (h : ∀ (i : Nat) (ds : List Dt), Δ[i]? = some (.ow ds) → σ[i]? ≠ some (some (.ref b))) : bare H σ Δ b = H b := by
  unfold bare
  refine if_neg fun c => ?_
  obtain ⟨i, ds, h1, h2⟩ := c
  exact h i ds h1 h2
theorem bare_ex : Ex (bare H σ Δ) H := ⟨fun b o e _ => bare_some e, fun P ps e => ⟨ps, bare_some e, fun t => t⟩⟩
theorem Slt.bareG (s : Slt K T G B H S σ Δ) : Ex G (bare H σ Δ) := by
  have key : ∀ {b : Addr} {o : HO}, G b ≠ none → H b = some o → bare H σ Δ b = some o := fun {b o} hb e => by
    rw [bare_not fun i ds h1 h2 => ?_]
    · exact e
    · obtain ⟨a, vs, q, hG, _⟩ := s.own i ds h1
      rw [h2] at q
      cases q
      exact hb hG
  exact ⟨fun b o e n => key (by rw [e]; exact fun z => by cases z) (s.gh.same b o e n), fun P ps e => by
    obtain ⟨qs, h1, k1⟩ := s.gh.tabs P ps e
    exact ⟨qs, key (by rw [e]; exact fun z => by cases z) h1, k1⟩⟩
theorem Slt.bareS (s : Slt K T G B H S σ Δ) : Ex S (bare H σ Δ) := by
  have key : ∀ {b : Addr} {o : HO}, S b ≠ none → H b = some o → bare H σ Δ b = some o := fun {b o} hb e => by
    rw [bare_not fun i ds h1 h2 => ?_]
    · exact e
    · obtain ⟨a, vs, q, _, hS, _⟩ := s.own i ds h1
      rw [h2] at q
      cases q
      exact hb hS
  exact ⟨fun b o e n => key (by rw [e]; exact fun z => by cases z) (s.sh.same b o e n), fun P ps e => by
    obtain ⟨qs, h1, k1⟩ := s.sh.tabs P ps e
    exact ⟨qs, key (by rw [e]; exact fun z => by cases z) h1, k1⟩⟩
/-- the same state, told from here -/
theorem Slt.here (s : Slt K T G B H S σ Δ) : Slt K T (bare H σ Δ) S H S σ Δ :=
  ⟨s.len, bare_ex, s.bareS, Ex.refl S, s.sh, fun _ _ z => z, s.tb, s.shd, fun i ds h => by
    obtain ⟨a, vs, e, _, q⟩ := s.own i ds h
    exact ⟨a, vs, e, bare_own h e, q⟩, s.nd, s.cl, s.co⟩
/-- and told again from the entry -/
theorem Slt.back (s : Slt K T G B H S σ Δ) (s' : Slt K T (bare H σ Δ) S H' S' σ' Δ') : Slt K T G B H' S' σ' Δ' :=
  ⟨s'.len, s.bareG.trans s'.gh, s.bg, s.bs.trans s'.bs, s'.sh, fun b hb z => s'.fr b (s.bareG.ne hb) (s.fr b hb z), s'.tb, s'.shd, fun i ds h => by
    obtain ⟨a, vs, e, hG, q⟩ := s'.own i ds h
    exact ⟨a, vs, e, s.bareG.free hG, q⟩, s'.nd, s'.cl, s'.co⟩
theorem Slt.backRt {nw : Bool} {v : V} {d : Dt} (s : Slt K T G B H S σ Δ) (h : Rt K nw (bare H σ Δ) S H' v d) : Rt K nw G B H' v d := by
  obtain ⟨S2, h1, h2, h3, h4, h5⟩ := h
  refine ⟨S2, s.bareG.trans h1, s.bs.trans h2, h3, fun b hb z => h4 b (s.bareG.ne hb) (s.fr b hb z), ?_⟩
  cases nw with
  | true =>
    obtain ⟨h6, p, e, h7⟩ := h5
    exact ⟨h6, p, e, s.bareG.free h7⟩
  | false => exact h5
end
theorem XW.down {mg : Str → Option Value} {E : XK} {G H : Hp} {c : Str} (x : XW mg E G c) (e : Ex G H) : XW mg E H c := x.grow e
theorem ss_for {nw : Bool} {wi : TI} {mi : Fd → Md (List Dt)} {ws : List Nat} {g : TG} {tg : Dt → Fd → Md Fd} {tb : TS} {mb : Fd → Md Out} (hi : SndI W wi mi) (hg : SndG W.K W.T ws g tg) (hb : SndS W nw tb mb) : SndS W nw (tFor wi g tb) (mFor mi tg mb) := by
  intro G B H S σ Δ D s w
  refine hi G B H S σ Δ _ s (w.bind.mono (fun xs k J H0 S0 g0 wk => ?_) fun _ z => xw_up s z)
  have s0 := s.grow g0
  refine for_it (n := xs.length) (G := fun H => Ex S0 H) (Y := fun i H x H' => Ex S0 H ∧ J.yld i H x H') ⟨fun i H hi h => wk.goes i H hi h, fun H h => wk.stops H h, fun i H x H' hi h y => ⟨h, y⟩⟩
    (fun i σ1 H1 => ∃ Δ1 S1, Slt W.K W.T G B H1 S1 σ1 Δ1 ∧ Ex S0 S1 ∧ Wp (mForGo tg mb (xs.drop i) Δ1) (OutOk W nw G B D) (XW W.mg W.E G)) ⟨Δ, S0, s0, Ex.refl S0, k⟩
    (fun i σ1 H1 hi ⟨Δ1, S1, s1, e1, _⟩ => e1.trans s1.sh) (fun i x σ1 H1 H2 hlt ⟨Δ1, S1, s1, e1, k1⟩ ⟨_, y⟩ => ?_) (fun σ1 H1 ⟨Δ1, S1, s1, e1, k1⟩ => ?_)
  · obtain ⟨d, S2, hd, g2, rd⟩ := wk.yields i H1 S1 x H2 hlt e1 s1.sh y
    have hdrop : xs.drop i = d :: xs.drop (i + 1) := by
      obtain ⟨h1, h2⟩ := List.getElem?_eq_some_iff.mp hd
      rw [← h2]
      exact List.drop_eq_getElem_cons h1
    rw [hdrop] at k1
    have s2 := s1.grow g2
    unfold mForGo at k1
    refine hg G B H2 S2 σ1 Δ1 x d _ s2 rd ?_
    revert k1
    cases tg d Δ1 with
    | exc c => exact fun k1 => k1.elim
    | bad => exact fun k1 => k1.elim
    | ok Δ2 =>
      intro k1 σ2 s3 _
      refine hb (bare H2 σ2 Δ2) S2 H2 S2 σ2 Δ2 _ s3.here (k1.bind.mono (fun o q => ?_) fun _ z => z.grow s3.bareG)
      cases o with
      | nx Δ3 => exact fun H3 S3 σ3 s4 => ⟨Δ3, S3, s3.back s4, (e1.trans g2.ss).trans s4.bs, q⟩
      | ct Δ3 => exact fun H3 S3 σ3 s4 => ⟨Δ3, S3, s3.back s4, (e1.trans g2.ss).trans s4.bs, q⟩
      | bk Δ3 => exact fun H3 S3 σ3 s4 => q H3 S3 σ3 (s3.back s4)
      | rt d => exact fun v H3 r => q v H3 (s3.backRt r)
  · rw [List.drop_length] at k1
    exact k1 H1 S1 σ1 s1

/-! ### list comprehensions -/
def wipeD (Δ : Fd) : List Nat → Fd
  | [] => Δ
  | v :: vs => (wipeD Δ vs).set v .un
section
variable {T : List Addr} {G B H S H' S' : Hp} {σ σ' : St} {Δ Δ' : Fd}
theorem wipeD_len : ∀ {vs : List Nat}, (wipeD Δ vs).length = Δ.length
  | [] => rfl
  | v :: vs => by
    show ((wipeD Δ vs).set v .un).length = _
    rw [List.length_set, wipeD_len]
theorem wipeD_at {i : Nat} {x : Sd} : ∀ {vs : List Nat}, (wipeD Δ vs)[i]? = some x → x ≠ .un → Δ[i]? = some x ∧ i ∉ vs
  | [], h, _ => ⟨h, by simp⟩
  | v :: vs, h, n => by
    have h : ((wipeD Δ vs).set v .un)[i]? = some x := h
    by_cases hi : v = i
    · subst hi
      by_cases hl : v < (wipeD Δ vs).length
      · rw [List.getElem?_set_self hl] at h
        cases h
        exact absurd rfl n
      · rw [List.getElem?_eq_none (by rw [List.length_set]; omega)] at h
        cases h
    · rw [List.getElem?_set_ne hi] at h
      obtain ⟨h1, h2⟩ := wipeD_at h n
      exact ⟨h1, by simp only [List.mem_cons, not_or]; exact ⟨fun e => hi e.symm, h2⟩⟩
theorem Slt.wipe (s : Slt K T G B H S σ Δ) (vs : List Nat) : Slt K T G B H S (wipe σ vs) (wipeD Δ vs) := by
  refine ⟨by rw [wipe_length, wipeD_len]; exact s.len, s.gh, s.bg, s.bs, s.sh, s.fr, s.tb, fun i d h => ?_, fun i ds h => ?_, fun i j ds es a h1 h2 h3 h4 => ?_, s.cl, fun i ds a h1 h2 => s.co i ds a (wipeD_at h1 (fun z => by cases z)).1 (wipe_some h2).1⟩
  · obtain ⟨h1, h2⟩ := wipeD_at h (fun z => by cases z)
    obtain ⟨v, e, r⟩ := s.shd i d h1
    exact ⟨v, by rw [wipe_out h2]; exact e, r⟩
  · obtain ⟨h1, h2⟩ := wipeD_at h (fun z => by cases z)
    obtain ⟨a, us, e, q⟩ := s.own i ds h1
    exact ⟨a, us, by rw [wipe_out h2]; exact e, q⟩
  · obtain ⟨k1, _⟩ := wipeD_at h1 (fun z => by cases z)
    obtain ⟨k2, _⟩ := wipeD_at h2 (fun z => by cases z)
    exact s.nd i j ds es a k1 k2 (wipe_some h3).1 (wipe_some h4).1
/-- one more list of the frame's own, behind the slots -/
theorem Slt.more (s : Slt K T G B H S σ Δ) {p : Addr} (hp : H p = none) : Slt K T G B (upd H p (.lst [])) S (σ ++ [some (.ref p)]) (Δ ++ [.ow []]) := by
  have g : Gr H S (upd H p (.lst [])) S := Gr.newO s.sh hp
  have s' := s.grow g
  have hlen : σ.length = Δ.length := s.len
  have at1 : ∀ {i : Nat} {x : Sd}, (Δ ++ [Sd.ow []])[i]? = some x → (Δ[i]? = some x ∧ (σ ++ [some (V.ref p)])[i]? = σ[i]?) ∨ (x = .ow [] ∧ i = Δ.length ∧ (σ ++ [some (V.ref p)])[i]? = some (some (.ref p))) := fun {i x} h => by
    by_cases hi : i < Δ.length
    · rw [List.getElem?_append_left hi] at h
      exact .inl ⟨h, List.getElem?_append_left (by omega)⟩
    · rw [List.getElem?_append_right (by omega)] at h
      have h0 : i - Δ.length = 0 := by
        have := (List.getElem?_eq_some_iff.mp h).1
        simp only [List.length_cons, List.length_nil] at this
        omega
      rw [h0] at h
      cases h
      refine .inr ⟨rfl, by omega, ?_⟩
      rw [List.getElem?_append_right (by omega)]
      have h1 : i - σ.length = 0 := by omega
      rw [h1]
      rfl
  refine ⟨by rw [List.length_append, List.length_append, hlen]; rfl, s'.gh, s'.bg, s'.bs, s'.sh, s'.fr, s'.tb, fun i d h => ?_, fun i ds h => ?_, fun i j ds es a h1 h2 h3 h4 => ?_, s'.cl, fun i ds a h1 h2 => ?_⟩
  · rcases at1 h with ⟨h1, h2⟩ | ⟨h1, _⟩
    · rw [h2]
      exact s'.shd i d h1
    · cases h1
  · rcases at1 h with ⟨h1, h2⟩ | ⟨h1, _, h2⟩
    · rw [h2]
      exact s'.own i ds h1
    · cases h1
      exact ⟨p, [], h2, s.gh.free hp, s.sh.free hp, upd_same, .nil⟩
  · have old : ∀ {k : Nat} {fs : List Dt}, Δ[k]? = some (.ow fs) → σ[k]? = some (some (.ref p)) → False := fun {k fs} q1 q2 => by
      obtain ⟨b, us, e, _, _, h5, _⟩ := s.own k fs q1
      rw [q2] at e
      cases e
      rw [hp] at h5
      cases h5
    rcases at1 h1 with ⟨a1, b1⟩ | ⟨a1, c1, b1⟩
    · rcases at1 h2 with ⟨a2, b2⟩ | ⟨a2, c2, b2⟩
      · exact s.nd i j ds es a a1 a2 (b1 ▸ h3) (b2 ▸ h4)
      · rw [b2] at h4
        cases h4
        exact (old a1 (b1 ▸ h3)).elim
    · rcases at1 h2 with ⟨a2, b2⟩ | ⟨a2, c2, b2⟩
      · rw [b1] at h3
        cases h3
        exact (old a2 (b2 ▸ h4)).elim
      · omega
  · rcases at1 h1 with ⟨a1, b1⟩ | ⟨_, _, b1⟩
    · exact s.co i ds a a1 (b1 ▸ h2)
    · rw [b1] at h2
      cases h2
      exact s.cl.new hp
theorem Slt.less {x : Option V} {y : Sd} (s : Slt K T G B H S (σ ++ [x]) (Δ ++ [y])) : Slt K T G B H S σ Δ := by
  have hlen : σ.length = Δ.length := by
    have := s.len
    rw [List.length_append, List.length_append] at this
    simpa using this
  have at1 : ∀ {i : Nat} {z : Sd}, Δ[i]? = some z → (Δ ++ [y])[i]? = some z ∧ (σ ++ [x])[i]? = σ[i]? := fun {i z} h => by
    have hi := (List.getElem?_eq_some_iff.mp h).1
    exact ⟨by rw [List.getElem?_append_left hi]; exact h, List.getElem?_append_left (by omega)⟩
  refine ⟨hlen, s.gh, s.bg, s.bs, s.sh, s.fr, s.tb, fun i d h => ?_, fun i ds h => ?_, fun i j ds es a h1 h2 h3 h4 => ?_, s.cl, fun i ds a h1 h2 => by
      obtain ⟨k1, k2⟩ := at1 h1
      exact s.co i ds a k1 (k2 ▸ h2)⟩
  · obtain ⟨k1, k2⟩ := at1 h
    rw [← k2]
    exact s.shd i d k1
  · obtain ⟨k1, k2⟩ := at1 h
    rw [← k2]
    exact s.own i ds k1
  · obtain ⟨k1, k2⟩ := at1 h1
    obtain ⟨k3, k4⟩ := at1 h2
    exact s.nd i j ds es a k1 k3 (k2 ▸ h3) (k4 ▸ h4)
end
def mLcGo (tg : Dt → Fd → Md Fd) (mt : Fd → Md Bool) (me : Fd → Md Dt) (Δ : Fd) : List Dt → Md (List Dt)
  | [] => .ok []
  | x :: r => match tg x Δ with
    | .ok Δ1 => (mt Δ1).bind fun b => if b = true then (me Δ1).bind fun d => (mLcGo tg mt me Δ r).bind fun ds => .ok (d :: ds) else mLcGo tg mt me Δ r
    | _ => .bad
/-- no error leaves a comprehension's block -/
def calm {α : Type} : Md α → Md α
  | .exc _ => .bad
  | m => m
def mLc (mi : Fd → Md (List Dt)) (tg : Dt → Fd → Md Fd) (mt : Fd → Md Bool) (me : Fd → Md Dt) (vs : List Nat) : Fd → Md Dt := fun Δ => (mi Δ).bind fun xs =>
  if xs.length < 16777216 then (calm (mLcGo tg mt me (wipeD Δ vs) xs)).bind fun ds => .ok (.lst ds) else .bad
def mYes : Fd → Md Bool := fun _ => .ok true
theorem snd_yes : SndT W tYes mYes := fun G B H S σ Δ Q s w => w H S (Gr.refl s.sh)
theorem calm_w {α : Type} {m : Md α} {p : α → Prop} {ex : Str → Prop} (h : Wp (calm m) p ex) : Wp m p fun _ => False := by
  cases m <;> exact h
theorem snd_lc {wi : TI} {mi : Fd → Md (List Dt)} {ws : List Nat} {g : TG} {tg : Dt → Fd → Md Fd} {tt : TT} {mt : Fd → Md Bool} {vs : List Nat} (hi : SndJ W wi mi) (hg : SndG W.K W.T ws g tg) (hw : ∀ i ∈ ws, i ∈ vs) (ht : SndT { W with E := E0 } tt mt) (he : SndE { W with E := E0 } .s te me) :
    SndE W .n (tLc wi g tt te vs) (mLc mi tg mt me vs) := by
  intro G B H S σ Δ Q s w
  refine hi G B H S σ Δ _ s (w.bind.mono (fun xs k J H0 S0 g0 wk D hD => ?_) fun _ z => z)
  by_cases hx : xs.length < 16777216
  · rw [if_pos hx] at k
    have s0 := s.grow g0
    have k0 := calm_w k.bind
    have hDH : H D = none := g0.hh.free hD
    refine lc_it (n := xs.length) (G := fun H => Ex H0 H) (Y := fun i H x H' => Ex H0 H ∧ J.yld i H x H') ⟨fun i H hi h => wk.goes i H hi h, fun H h => wk.stops H h, fun i H x H' hi h y => ⟨h, y⟩⟩
      (fun i H1 => ∃ S1 ds, Slt W.K W.T G B H1 S1 (wipe σ vs ++ [some (.ref D)]) (wipeD Δ vs ++ [.ow ds]) ∧ Ex S0 S1 ∧ Ex H0 H1 ∧ (∀ b, H b ≠ none → S b = none → S1 b = none) ∧ ds.length ≤ i ∧
        Wp (mLcGo tg mt me (wipeD Δ vs) (xs.drop i)) (fun es => ∀ v H' S', Gr H S H' S' → Hd W.K .n H' S' v (.lst (ds ++ es)) → Nw .n H v → Q v H') fun _ => False)
      ⟨S0, [], (s0.wipe vs).more hD, Ex.refl S0, Ex.new hD, g0.fr, Nat.le_refl _, k0⟩ (fun i H1 hi ⟨S1, ds, s1, e1, eH, _⟩ => eH) (fun i x H1 H2 hlt ⟨S1, ds, s1, e1, eH, fr, hlen, k1⟩ ⟨_, y⟩ => ?_) (fun H1 ⟨S1, ds, s1, e1, eH, fr, hlen, k1⟩ => ?_)
    · obtain ⟨d, S2, hd, g2, rd⟩ := wk.yields i H1 S1 x H2 hlt eH e1 s1.sh y
      have hdrop : xs.drop i = d :: xs.drop (i + 1) := by
        obtain ⟨h1, h2⟩ := List.getElem?_eq_some_iff.mp hd
        rw [← h2]
        exact List.drop_eq_getElem_cons h1
      rw [hdrop] at k1
      have s2 := s1.grow g2
      have fr2 : ∀ b, H b ≠ none → S b = none → S2 b = none := fun b hb z => g2.fr b (eH.ne (g0.hh.ne hb)) (fr b hb z)
      unfold mLcGo at k1
      refine hg G B H2 S2 (wipe σ vs) (wipeD Δ vs) x d _ s2.less rd ?_
      revert k1
      cases tg d (wipeD Δ vs) with
      | exc c => exact fun k1 => k1.elim
      | bad => exact fun k1 => k1.elim
      | ok Δ2 =>
        intro k1 σ2 s3 hwipe
        refine ⟨(hwipe vs hw).trans ?_, ?_⟩
        · have idem : ∀ us : List Nat, (∀ i ∈ us, i ∈ vs) → wipe (wipe σ us) vs = wipe σ vs := by
            intro us
            induction us with
            | nil => intro _; rfl
            | cons u r ih =>
              intro h
              show wipe ((wipe σ r).set u none) vs = _
              rw [wipe_set (h u List.mem_cons_self)]
              exact ih fun i hi => h i (List.mem_cons_of_mem _ hi)
          exact idem vs fun i hi => hi
        · refine ht G B H2 S2 σ2 Δ2 _ s3 (k1.bind.mono (fun b q H3 S3 g3 => ?_) fun _ z => z.elim)
          have s4 := s2.grow g3
          cases b with
          | false => exact ⟨S3, ds, s4, (e1.trans g2.ss).trans g3.ss, (eH.trans g2.hh).trans g3.hh, fun b hb z => g3.fr b ((eH.trans g2.hh).ne (g0.hh.ne hb)) (fr2 b hb z), Nat.le_succ_of_le hlen, q⟩
          | true =>
            have q : Wp ((me Δ2).bind fun d => (mLcGo tg mt me (wipeD Δ vs) (xs.drop (i + 1))).bind fun ds => .ok (d :: ds)) _ _ := q
            refine he G B H3 S3 σ2 Δ2 _ (s3.grow g3) (q.bind.mono (fun dv q2 v H4 S4 g4 rv _ => ?_) fun _ z => False.elim z)
            have s5 := s4.grow g4
            have hlD : (wipe σ vs).length = (wipeD Δ vs).length := by rw [wipe_length, wipeD_len]; exact s.len
            have hiD : (wipeD Δ vs ++ [Sd.ow ds])[(wipeD Δ vs).length]? = some (.ow ds) := by
              rw [List.getElem?_append_right (Nat.le_refl _), Nat.sub_self]
              rfl
            have hiS : (wipe σ vs ++ [some (V.ref D)])[(wipeD Δ vs).length]? = some (some (.ref D)) := by
              rw [← hlD, List.getElem?_append_right (Nat.le_refl _), Nat.sub_self]
              rfl
            obtain ⟨a, acc, ea, hG, hS, hH, r⟩ := s5.own _ _ hiD
            rw [hiS] at ea
            cases ea
            have s6 := s5.put hiD hiS (r.app (.one rv))
            have eset : (wipeD Δ vs ++ [Sd.ow ds]).set (wipeD Δ vs).length (.ow (ds ++ [dv])) = wipeD Δ vs ++ [Sd.ow (ds ++ [dv])] := by
              rw [List.set_append_right _ _ (Nat.le_refl _), Nat.sub_self]
              rfl
            rw [eset] at s6
            refine ⟨acc, hH, lt_line (by rw [r.length]; omega), S4, ds ++ [dv], s6, ((e1.trans g2.ss).trans g3.ss).trans g4.ss, (((eH.trans g2.hh).trans g3.hh).trans g4.hh).mut hD, fun b hb z => g4.fr b (((eH.trans g2.hh).trans g3.hh).ne (g0.hh.ne hb)) (g3.fr b ((eH.trans g2.hh).ne (g0.hh.ne hb)) (fr2 b hb z)), ?_, ?_⟩
            · rw [List.length_append]
              exact Nat.succ_le_succ hlen
            · refine q2.bind.mono (fun es q3 v2 H' S' g' r' n' => ?_) fun _ z => z
              have e2 : ds ++ [dv] ++ es = ds ++ dv :: es := by rw [List.append_assoc]; rfl
              rw [e2] at r'
              exact q3 v2 H' S' g' r' n'
    · rw [List.drop_length] at k1
      have hiD : (wipeD Δ vs ++ [Sd.ow ds])[(wipeD Δ vs).length]? = some (.ow ds) := by
        rw [List.getElem?_append_right (Nat.le_refl _), Nat.sub_self]
        rfl
      have hlD : (wipe σ vs).length = (wipeD Δ vs).length := by rw [wipe_length, wipeD_len]; exact s.len
      have hiS : (wipe σ vs ++ [some (V.ref D)])[(wipeD Δ vs).length]? = some (some (.ref D)) := by
        rw [← hlD, List.getElem?_append_right (Nat.le_refl _), Nat.sub_self]
        rfl
      obtain ⟨a, acc, ea, hG, hS, hH, r⟩ := s1.own _ _ hiD
      rw [hiS] at ea
      cases ea
      have k2 : ∀ v H' S', Gr H S H' S' → Hd W.K .n H' S' v (.lst (ds ++ [])) → Nw .n H v → Q v H' := k1
      rw [List.append_nil] at k2
      exact k2 (.ref D) H1 S1 ⟨g0.hh.trans eH, g0.ss.trans e1, s1.sh, fr⟩ ⟨D, acc, ds, rfl, rfl, hH, hS, r⟩ ⟨D, rfl, hDH⟩
  · rw [if_neg hx] at k
    exact k.elim
end
end Mr
namespace Mr
open PySem L2

/-! ### what stands around a piece of code: room for calls, where errors go -/
structure Cok (X : Cx) (k : Nat) (E : XK) : Prop where
  calm : X.calm = true
  room : Room k X.A
  pas : Passes (L2N.CX X.prog X.w) X E
  own : PassesOwn (model X.prog X.w) X.A X.env X.xe
  nd : X.N.Nodup
  tk : L2N.Takes X (fun cls d _ H => E cls d H)
theorem takes_none {X : Cx} {W : WX} {E : Value → Shared → Prop} (h : ∀ c d σ H, ¬ W c d σ H) : L2N.Takes (X.wish E) W := fun u s' ⟨a, B, sI, pins, σ, H, cls, d, e, I, nb, up, sky, na, os, ag, w⟩ => absurd w (h _ _ _ _)
theorem passes_none {X : Cx} : Passes (L2N.CX X.prog X.w) X E0 := fun pins σ H s e s' I ⟨a, B, H', cls, d, _, _, _, _, _, _, _, w⟩ => w.elim
theorem cok_blk {X : Cx} {k : Nat} {E : XK} (c : Cok X k E) (s : Shared) (H : Hp) (scope : Scope) (C : Addr) (cl : List (Str × Addr)) (fp : List Addr) : Cok (X.blk s H scope (compEnvC scope cl C X.env) fp) k E0 :=
  ⟨c.calm, c.room, passes_none, PassesOwn.never, c.nd, fun u s' ⟨a, B, sI, pins, σ, H, cls, d, e, I, nb, up, sky, na, os, ag, w⟩ => w.elim⟩

/-! ### a piece of code, its reading, its mirror -/
/-- where the things that may be changed stand, what they hold -/
structure Mm where
  r : List Addr
  m : List Cl
abbrev kx (X : Cx) (M : Mm) : Kx := ⟨X.K, M.r, M.m⟩
structure DE (X : Cx) (T : List Addr) (M : Mm) (E : XK) (fl : Fl) (e : Expr) (te : TE) (me : Fd → Md Dt) : Prop where
  pe : PE X e te
  sn : SndE ⟨kx X M, T, X.mg, E⟩ fl te me
structure DT (X : Cx) (T : List Addr) (M : Mm) (E : XK) (e : Expr) (tt : TT) (mt : Fd → Md Bool) : Prop where
  pt : PT X e tt
  sn : SndT ⟨kx X M, T, X.mg, E⟩ tt mt
structure DW (X : Cx) (T : List Addr) (M : Mm) (E : XK) (e : Expr) (tt : TT) (mt : Fd → Md Bool) : Prop where
  pw : PW X e tt
  sn : SndT ⟨kx X M, T, X.mg, E⟩ tt mt
structure DA (X : Cx) (T : List Addr) (M : Mm) (E : XK) (fl : Fl) (es : List Expr) (ta : TA) (ma : Fd → Md (List Dt)) : Prop where
  pa : PA X es ta
  sn : SndA ⟨kx X M, T, X.mg, E⟩ fl ta ma
structure DG (X : Cx) (T : List Addr) (M : Mm) (ws : List Nat) (e : Expr) (g : TG) (tg : Dt → Fd → Md Fd) : Prop where
  pg : PG X e g
  sn : SndG (kx X M) T ws g tg
structure DGs (X : Cx) (T : List Addr) (M : Mm) (ws : List Nat) (es : List Expr) (g : TGs) (tg : List Dt → Fd → Md Fd) : Prop where
  pg : PGs X es g
  sn : SndGs (kx X M) T ws g tg
structure DI (X : Cx) (T : List Addr) (M : Mm) (E : XK) (tg e : Expr) (wi : TI) (mi : Fd → Md (List Dt)) : Prop where
  pi : PI X tg e wi
  sn : SndI ⟨kx X M, T, X.mg, E⟩ wi mi
structure DS (X : Cx) (T : List Addr) (M : Mm) (E : XK) (nw : Bool) (st : Stmt) (ts : TS) (ms : Fd → Md Out) : Prop where
  ps : PS X st ts
  sn : SndS ⟨kx X M, T, X.mg, E⟩ nw ts ms
structure DB (X : Cx) (T : List Addr) (M : Mm) (E : XK) (nw : Bool) (st : List Stmt) (ts : TS) (ms : Fd → Md Out) : Prop where
  ps : PSs X st ts
  sn : SndS ⟨kx X M, T, X.mg, E⟩ nw ts ms

section
variable {X : Cx} {T : List Addr} {M : Mm} {E : XK} {fl fa fb fc : Fl} {nw : Bool} {a b c e tg : Expr} {es : List Expr} {ta tb tc te : TE} {ma mb mc me : Fd → Md Dt} {pos p p2 : Pos} {k : Nat} {tt tu : TT} {mt mu : Fd → Md Bool} {tas : TA} {mas : Fd → Md (List Dt)} {K : Kx}
theorem DE.t (h : DE X T M E fl e te me) : DE X T M E .t e te me := ⟨h.pe, h.sn.toT⟩
theorem DE.give (h : DE X T M E .n e te me) : DE X T M E .s e te me := ⟨h.pe, h.sn.give⟩
theorem DE.nl (h : DE X T M E .n e te me) : DE X T M E .l e te me := ⟨h.pe, h.sn.nl⟩
theorem d_give (h : DE X T M E .n e te me) : DE X T M E .s e te me := h.give
/-! names, constants -/
theorem dv (i : Nat) {x : Str} (hN : X.N[i]? = some x := by rfl) (hv : Vis X.env.scope x := by first | exact Or.inl rfl | exact Or.inr (Or.inl rfl) | exact Or.inr (Or.inr rfl)) (hd : (x == ("__debug__" : Str)) = false := by decide) (hcd : (x == ("__classdict__" : Str)) = false := by decide) :
    DE X T M E .s (.Name x pos) (tVar i) (mVar i) := ⟨pe_var hN hv hd hcd, snd_var i⟩
theorem dO (i : Nat) {x : Str} (hN : X.N[i]? = some x := by rfl) (hv : Vis X.env.scope x := by first | exact Or.inl rfl | exact Or.inr (Or.inl rfl) | exact Or.inr (Or.inr rfl)) (hd : (x == ("__debug__" : Str)) = false := by decide) (hcd : (x == ("__classdict__" : Str)) = false := by decide) :
    DE X T M E .l (.Name x pos) (tVar i) (mOwn i) := ⟨pe_var hN hv hd hcd, snd_own i⟩
theorem dAny (i : Nat) {x : Str} (hN : X.N[i]? = some x := by rfl) (hv : Vis X.env.scope x := by first | exact Or.inl rfl | exact Or.inr (Or.inl rfl) | exact Or.inr (Or.inr rfl)) (hd : (x == ("__debug__" : Str)) = false := by decide) (hcd : (x == ("__classdict__" : Str)) = false := by decide) :
    DE X T M E .t (.Name x pos) (tVar i) (mAny i) := ⟨pe_var hN hv hd hcd, snd_any i⟩
theorem d_int {i : Int} {j : Nat} : DE X T M E .s (.Constant (.int i) j pos) (tC (.int i)) (mC (.int i)) := ⟨pe_int, snd_c fun _ => .int i⟩
theorem d_str {x : Str} {j : Nat} : DE X T M E .s (.Constant (.str x) j pos) (tC (.str x)) (mC (.str x)) := ⟨pe_str, snd_c fun _ => .str x⟩
theorem d_bl {q : Bool} {j : Nat} : DE X T M E .s (.Constant (.bool q) j pos) (tC (.bl q)) (mC (.bl q)) := ⟨pe_bl, snd_c fun _ => .bl q⟩
theorem d_non {j : Nat} : DE X T M E .s (.Constant .none j pos) (tC .non) (mC .non) := ⟨pe_non, snd_c fun _ => .non⟩
/-- a built-in class as a value -/
theorem d_ty {x : Str} {n : String} (hm : X.mg x = none) (hv : bootBuiltins x = some (.type n)) (hg : Gl X x := by rfl) (hn : x ≠ "__name__" := by decide) (hd : (x == ("__debug__" : Str)) = false := by decide) : DE X T M E .s (.Name x pos) (tC (.ty n)) (mC (.ty n)) :=
  ⟨pe_bltn hg hm hv rfl hn hd, snd_c fun _ => .ty n⟩
/-- a number, a text of the module's top -/
theorem d_glI {x : Str} {i : Int} {t : Tok} (hm : X.mg x = some (.int i t)) (hg : Gl X x := by rfl) (hd : (x == ("__debug__" : Str)) = false := by decide) : DE X T M E .s (.Name x pos) (tC (.int i)) (mC (.int i)) :=
  ⟨pe_glob hg hm ⟨t, rfl⟩ hd, snd_c fun _ => .int i⟩
/-- {} -/
theorem d_dic : DE X T M E .s (.Dict [] [] pos) (fun _ H Q => ∀ p, H p = none → Q (.ref p) (upd H p (.dK []))) (mC .dic) := ⟨pe_dnewK, fun G B H S σ Δ Q s w p hp => by
  have g := Gr.new (o := .dK []) s.sh hp
  exact w _ _ _ g (Rp.dic upd_same) trivial⟩
/-! operators on whole numbers -/
theorem d_add (ha : DE X T M E fa a ta ma) (hb : DE X T M E fb b tb mb) : DE X T M E .s (.BinOp a .Add b pos) (tOp (rI0 fun i j => .int (i + j)) ta tb) (mBin (dI fun i j => .int (i + j)) ma mb) :=
  ⟨pe_op op_add ha.pe hb.pe, snd_op ha.sn.toT hb.sn.toT (sr_I0 fun i j H => .int _) dI_nx⟩
theorem d_sub (ha : DE X T M E fa a ta ma) (hb : DE X T M E fb b tb mb) : DE X T M E .s (.BinOp a .Sub b pos) (tOp (rI0 fun i j => .int (i - j)) ta tb) (mBin (dI fun i j => .int (i - j)) ma mb) :=
  ⟨pe_op op_sub ha.pe hb.pe, snd_op ha.sn.toT hb.sn.toT (sr_I0 fun i j H => .int _) dI_nx⟩
def mulOk (i j : Int) : Bool := decide (i.natAbs.log2 + j.natAbs.log2 < 134000000)
theorem mulOk_ok (i j : Int) (h : mulOk i j = true) : PySem.IntMulOk i j := by
  have q : i.natAbs.log2 + j.natAbs.log2 < 134000000 := of_decide_eq_true h
  have one : ∀ x : Int, Builtin.Int.intBits x ≤ x.natAbs.log2 + 1 := fun x => by
    unfold Builtin.Int.intBits
    split <;> omega
  have k1 := one i
  have k2 := one j
  have line : bitsLine = 134217728 := by decide
  unfold PySem.IntMulOk
  intro z
  have z1 := (Bool.and_eq_true_iff.mp z).2
  have z3 := z1
  unfold Builtin.Int.intTooBig at z3
  have z2 := of_decide_eq_true z3
  omega
theorem op_mulB : OpR X (binaryOp .Mult) (rI PySem.IntMulOk fun i j => .int (i * j)) := opI fun _ _ _ _ _ _ _ hc q => PyProof.Rows.mul_int q hc
theorem d_mul (ha : DE X T M E fa a ta ma) (hb : DE X T M E fb b tb mb) : DE X T M E .s (.BinOp a .Mult b pos) (tOp (rI PySem.IntMulOk fun i j => .int (i * j)) ta tb) (mBin (dIC mulOk fun i j => .int (i * j)) ma mb) :=
  ⟨pe_op op_mulB ha.pe hb.pe, snd_op ha.sn.toT hb.sn.toT (sr_I mulOk_ok fun i j H => .int _) dIC_nx⟩
def posOk (_ j : Int) : Bool := decide (0 < j)
theorem d_mod (ha : DE X T M E fa a ta ma) (hb : DE X T M E fb b tb mb) : DE X T M E .s (.BinOp a .Mod b pos) (tOp (rI (fun _ j => 0 < j) fun i j => .int (i % j)) ta tb) (mBin (dIC posOk fun i j => .int (i % j)) ma mb) :=
  ⟨pe_op op_mod ha.pe hb.pe, snd_op ha.sn.toT hb.sn.toT (sr_I (fun i j h => of_decide_eq_true h) fun i j H => .int _) dIC_nx⟩
def divOk (_ j : Int) : Bool := decide (0 < j) && decide (j < 1073741824)
theorem d_fdiv (ha : DE X T M E fa a ta ma) (hb : DE X T M E fb b tb mb) : DE X T M E .s (.BinOp a .FloorDiv b pos) (tOp (rI CDiv fun i j => .int (i / j)) ta tb) (mBin (dIC divOk fun i j => .int (i / j)) ma mb) :=
  ⟨pe_op op_fdiv ha.pe hb.pe, snd_op ha.sn.toT hb.sn.toT (sr_I (fun i j h => by
    unfold divOk at h
    rw [Bool.and_eq_true, decide_eq_true_eq, decide_eq_true_eq] at h
    exact h) fun i j H => .int _) dIC_nx⟩
def powOk (i j : Int) : Bool := decide (0 ≤ j) && decide (j ≤ 1000000) && decide (i.natAbs < 2 ^ 64)
theorem d_pow (ha : DE X T M E fa a ta ma) (hb : DE X T M E fb b tb mb) : DE X T M E .s (.BinOp a .Pow b pos) (tOp (rI CPow fun i j => .int (i ^ j.toNat)) ta tb) (mBin (dIC powOk fun i j => .int (i ^ j.toNat)) ma mb) :=
  ⟨pe_op op_pow ha.pe hb.pe, snd_op ha.sn.toT hb.sn.toT (sr_I (fun i j h => by
    unfold powOk at h
    rw [Bool.and_eq_true, Bool.and_eq_true, decide_eq_true_eq, decide_eq_true_eq, decide_eq_true_eq] at h
    exact ⟨h.1.1, h.1.2, h.2⟩) fun i j H => .int _) dIC_nx⟩
def mNeg (ma : Fd → Md Dt) : Fd → Md Dt := fun Δ => (ma Δ).bind fun d => match d with
  | .int i => .ok (.int (-i))
  | _ => .bad
theorem d_neg (ha : DE X T M E fa a ta ma) : DE X T M E .s (.UnaryOp .USub a pos) (tUn (rU fun i => .int (-i)) ta) (mNeg ma) := ⟨pe_un un_neg ha.pe, fun G B H S σ Δ Q s w =>
  ha.sn.toT G B H S σ Δ _ s (w.bind.mono (fun d q v H1 S1 g r _ => by
    cases d with
    | int i =>
      cases Rp.isInt r
      exact ⟨i, rfl, q _ H1 S1 g (.int _) trivial⟩
    | _ => exact q.elim) fun _ z => z)⟩
/-! comparisons -/
def dLt : Dt → Dt → Md Dt := dI fun i j => .bl (decide (i < j))
def dLe : Dt → Dt → Md Dt := dI fun i j => .bl (decide (i ≤ j))
def dGt : Dt → Dt → Md Dt := dI fun i j => .bl (decide (j < i))
def dGe : Dt → Dt → Md Dt := dI fun i j => .bl (decide (j ≤ i))
mutual
def toP : Dt → Option PyData
  | .non => some .none
  | .bl b => some (.bool b)
  | .int i => some (.int i)
  | .str x => some (.str x)
  | .lst xs => (toPs xs).map .list
  | .tup xs => (toPs xs).map .tuple
  | .lsk xs => (toPs xs).map .list
  | .tpk xs => (toPs xs).map .tuple
  | .ty _ => none
  | .dic => none
  | .adr _ => none
  | .dct _ _ => none
  | .loc _ => none
  | .ins _ _ _ => none
def toPs : List Dt → Option (List PyData)
  | [] => some []
  | x :: r => match toP x, toPs r with
    | some d, some ds => some (d :: ds)
    | _, _ => none
end
section
variable {H : Hp}
mutual
theorem rp_dp : ∀ {v : V} {d : Dt} {q : PyData}, Rp K H v d → toP d = some q → Dp K H v q
  | _, _, _, .non, e => by cases e; exact .non
  | _, _, _, .bl b, e => by cases e; exact .bl b
  | _, _, _, .int i, e => by cases e; exact .int i
  | _, _, _, .str x, e => by cases e; exact .str x
  | _, _, _, .ty n, e => by cases e
  | _, _, _, .lst h r, e => by
    unfold toP at e
    obtain ⟨qs, e1, e2⟩ := Option.map_eq_some_iff.mp e
    subst e2
    exact .lst (.of h) (rps_dps r e1)
  | _, _, _, .tup h r, e => by
    unfold toP at e
    obtain ⟨qs, e1, e2⟩ := Option.map_eq_some_iff.mp e
    subst e2
    exact .tup (.of h) (rps_dps r e1)
  | _, _, _, .lsk h r, e => by
    unfold toP at e
    obtain ⟨qs, e1, e2⟩ := Option.map_eq_some_iff.mp e
    subst e2
    exact .lst h (rps_dps r e1)
  | _, _, _, .tpk h r, e => by
    unfold toP at e
    obtain ⟨qs, e1, e2⟩ := Option.map_eq_some_iff.mp e
    subst e2
    exact .tup h (rps_dps r e1)
  | _, _, _, .dic h, e => by
    unfold toP at e
    cases e
  | _, _, _, .adr a, e => by
    unfold toP at e
    cases e
  | _, _, _, .dct _ _, e => by
    unfold toP at e
    cases e
  | _, _, _, .loc _, e => by
    unfold toP at e
    cases e
  | _, _, _, .ins h r, e => by
    unfold toP at e
    cases e
theorem rps_dps : ∀ {vs : List V} {ds : List Dt} {qs : List PyData}, RpL K H vs ds → toPs ds = some qs → DpAll K H vs qs
  | _, _, _, .nil, e => by cases e; exact .nil
  | _, _, qs, .cons (d := d) (ds := ds) h r, e => by
    unfold toPs at e
    cases h1 : toP d with
    | none =>
      rw [h1] at e
      cases e
    | some q =>
      cases h2 : toPs ds with
      | none =>
        rw [h1, h2] at e
        cases e
      | some rs =>
        rw [h1, h2] at e
        cases e
        exact .cons (rp_dp h h1) (rps_dps r h2)
end
end
def dEqv (a b : Dt) : Md Bool := match toP a, toP b with
  | some x, some y => if SeqAt.shaped x = true ∧ SeqAt.shaped y = true then .ok (PyData.eqv x y) else .bad
  | _, _ => .bad
def dEq (a b : Dt) : Md Dt := (dEqv a b).bind fun k => .ok (.bl k)
def dNe (a b : Dt) : Md Dt := (dEqv a b).bind fun k => .ok (.bl (!k))
theorem dEqv_ok {a b : Dt} {p : Bool → Prop} {ex : Str → Prop} (h : Wp (dEqv a b) p ex) : ∃ x y, toP a = some x ∧ toP b = some y ∧ SeqAt.shaped x = true ∧ SeqAt.shaped y = true ∧ p (PyData.eqv x y) := by
  unfold dEqv at h
  split at h
  · rename_i x y h1 h2
    by_cases hs : SeqAt.shaped x = true ∧ SeqAt.shaped y = true
    · rw [if_pos hs] at h
      exact ⟨x, y, h1, h2, hs.1, hs.2, h⟩
    · rw [if_neg hs] at h
      exact h.elim
  · exact h.elim
theorem dEqv_nx (a b : Dt) (c : Str) : dEqv a b ≠ .exc c := by
  unfold dEqv
  split
  · split <;> exact fun z => by cases z
  · exact fun z => by cases z
theorem bind_nx {α β : Type} {m : Md α} {f : α → Md β} (h1 : ∀ c, m ≠ .exc c) (h2 : ∀ a c, f a ≠ .exc c) : ∀ c, m.bind f ≠ .exc c := by
  intro c z
  cases m with
  | ok a => exact h2 a c z
  | exc d => exact h1 d rfl
  | bad => cases z
theorem sr_eq : SndR K .t .t .s (rEqD K) dEq := by
  intro H S x y a b Q e ha hb w
  obtain ⟨x', y', h1, h2, s1, s2, q⟩ := dEqv_ok (Wp.bind (show Wp ((dEqv a b).bind fun k => Md.ok (Dt.bl k)) _ _ from w))
  exact ⟨x', y', rp_dp ha h1, rp_dp hb h2, s1, s2, q _ H S (Gr.refl e) (.bl _) trivial⟩
theorem sr_ne : SndR K .t .t .s (rNeD K) dNe := by
  intro H S x y a b Q e ha hb w
  obtain ⟨x', y', h1, h2, s1, s2, q⟩ := dEqv_ok (Wp.bind (show Wp ((dEqv a b).bind fun k => Md.ok (Dt.bl (!k))) _ _ from w))
  exact ⟨x', y', rp_dp ha h1, rp_dp hb h2, s1, s2, q _ H S (Gr.refl e) (.bl _) trivial⟩
/-- x in xs, deep -/
def dInv (a b : Dt) : Md Bool := match toP a, b with
  | some x, .lst ds => (match toPs ds with
    | some ys => if SeqAt.shaped x = true ∧ SeqAt.shaped (.list ys) = true then .ok (ys.any fun z => PyData.eqv z x) else .bad
    | none => .bad)
  | _, _ => .bad
def dIn (a b : Dt) : Md Dt := (dInv a b).bind fun k => .ok (.bl k)
def dNotIn (a b : Dt) : Md Dt := (dInv a b).bind fun k => .ok (.bl (!k))
theorem dInv_ok {a b : Dt} {p : Bool → Prop} {ex : Str → Prop} (h : Wp (dInv a b) p ex) : ∃ x ds ys, toP a = some x ∧ b = .lst ds ∧ toPs ds = some ys ∧ SeqAt.shaped x = true ∧ SeqAt.shaped (.list ys) = true ∧ p (ys.any fun z => PyData.eqv z x) := by
  unfold dInv at h
  split at h
  · rename_i x ds h1
    split at h
    · rename_i ys h2
      by_cases hs : SeqAt.shaped x = true ∧ SeqAt.shaped (.list ys) = true
      · rw [if_pos hs] at h
        exact ⟨x, ds, ys, h1, rfl, h2, hs.1, hs.2, h⟩
      · rw [if_neg hs] at h
        exact h.elim
    · exact h.elim
  · exact h.elim
theorem dInv_nx (a b : Dt) (c : Str) : dInv a b ≠ .exc c := by
  unfold dInv
  split
  · split
    · split <;> exact fun z => by cases z
    · exact fun z => by cases z
  · exact fun z => by cases z
theorem sr_in : SndR K .t .t .s (rInD K) dIn := by
  intro H S x y a b Q e ha hb w
  obtain ⟨x', ds, ys, h1, h2, h3, s1, s2, q⟩ := dInv_ok (Wp.bind (show Wp ((dInv a b).bind fun k => Md.ok (Dt.bl k)) _ _ from w))
  subst h2
  refine ⟨x', ys, rp_dp ha h1, rp_dp hb (by unfold toP; rw [h3]; rfl), s1, s2, q _ H S (Gr.refl e) (.bl _) trivial⟩
theorem sr_notIn : SndR K .t .t .s (rNotInD K) dNotIn := by
  intro H S x y a b Q e ha hb w
  obtain ⟨x', ds, ys, h1, h2, h3, s1, s2, q⟩ := dInv_ok (Wp.bind (show Wp ((dInv a b).bind fun k => Md.ok (Dt.bl (!k))) _ _ from w))
  subst h2
  refine ⟨x', ys, rp_dp ha h1, rp_dp hb (by unfold toP; rw [h3]; rfl), s1, s2, q _ H S (Gr.refl e) (.bl _) trivial⟩
/-- is, is not between built-in classes -/
def dIs : Dt → Dt → Md Dt
  | .ty m, .ty n => .ok (.bl (decide (m = n)))
  | _, _ => .bad
def dIsNot : Dt → Dt → Md Dt
  | .ty m, .ty n => .ok (.bl (!decide (m = n)))
  | _, _ => .bad
def rIsTy2 : R2 := fun x y H Q => ∃ m n, x = .ty m ∧ y = .ty n ∧ Q (.bl (decide (m = n))) H
def rIsNotTy2 : R2 := fun x y H Q => ∃ m n, x = .ty m ∧ y = .ty n ∧ Q (.bl (!decide (m = n))) H
theorem sr_is : SndR K .t .t .s rIsTy2 dIs := by
  intro H S x y a b Q e ha hb w
  unfold dIs at w
  split at w
  · cases ha
    cases hb
    exact ⟨_, _, rfl, rfl, w _ H S (Gr.refl e) (.bl _) trivial⟩
  · exact w.elim
theorem sr_isNot : SndR K .t .t .s rIsNotTy2 dIsNot := by
  intro H S x y a b Q e ha hb w
  unfold dIsNot at w
  split at w
  · cases ha
    cases hb
    exact ⟨_, _, rfl, rfl, w _ H S (Gr.refl e) (.bl _) trivial⟩
  · exact w.elim
theorem nx2 {f : Dt → Dt → Md Dt} (h : ∀ a b, (∃ d, f a b = .ok d) ∨ f a b = .bad) : ∀ a b c, f a b ≠ .exc c := by
  intro a b c z
  rcases h a b with ⟨d, e⟩ | e <;> (rw [e] at z; cases z)
/-- a comparison by its rule, as a value and as a test -/
structure CmpOk (X : Cx) (M : Mm) (op : CmpOp) (r : R2) (f : Dt → Dt → Md Dt) : Prop where
  o : OpR X (compareOp op) r
  s : SndR (kx X M) .t .t .s r f
  n : ∀ a b c, f a b ≠ .exc c
theorem c_lt : CmpOk X M .Lt (rI0 fun i j => .bl (decide (i < j))) dLt := ⟨op_lt, sr_I0 fun _ _ _ => .bl _, dI_nx⟩
theorem c_le : CmpOk X M .LtE (rI0 fun i j => .bl (decide (i ≤ j))) dLe := ⟨op_le, sr_I0 fun _ _ _ => .bl _, dI_nx⟩
theorem c_gt : CmpOk X M .Gt (rI0 fun i j => .bl (decide (j < i))) dGt := ⟨op_gt, sr_I0 fun _ _ _ => .bl _, dI_nx⟩
theorem c_ge : CmpOk X M .GtE (rI0 fun i j => .bl (decide (j ≤ i))) dGe := ⟨op_ge, sr_I0 fun _ _ _ => .bl _, dI_nx⟩
theorem c_eq {K0 : PySem.W.Frag} (c : Cok X k E) (hK : X.K = K0 := by rfl) : CmpOk X M .Eq (rEqD K0) dEq := by
  subst hK
  exact ⟨op_eqD c.room.units, sr_eq, fun a b => bind_nx (dEqv_nx a b) fun _ _ z => by cases z⟩
theorem c_ne {K0 : PySem.W.Frag} (c : Cok X k E) (hK : X.K = K0 := by rfl) : CmpOk X M .NotEq (rNeD K0) dNe := by
  subst hK
  exact ⟨op_neD c.room.units, sr_ne, fun a b => bind_nx (dEqv_nx a b) fun _ _ z => by cases z⟩
theorem un65 {A : Around} (r : Room k A) : A.units + 65 < cLine := by have := r.un; omega
theorem c_in {K0 : PySem.W.Frag} (c : Cok X k E) (hK : X.K = K0 := by rfl) : CmpOk X M .In (rInD K0) dIn := by
  subst hK
  exact ⟨op_inD (un65 c.room), sr_in, fun a b => bind_nx (dInv_nx a b) fun _ _ z => by cases z⟩
theorem c_notIn {K0 : PySem.W.Frag} (c : Cok X k E) (hK : X.K = K0 := by rfl) : CmpOk X M .NotIn (rNotInD K0) dNotIn := by
  subst hK
  exact ⟨op_notInD (un65 c.room), sr_notIn, fun a b => bind_nx (dInv_nx a b) fun _ _ z => by cases z⟩
theorem c_is : CmpOk X M .Is rIsTy2 dIs := ⟨op_isTy, sr_is, by intro a b c; unfold dIs; split <;> exact fun z => by cases z⟩
theorem c_isNot : CmpOk X M .IsNot rIsNotTy2 dIsNot := ⟨op_isNotTy, sr_isNot, by intro a b c; unfold dIsNot; split <;> exact fun z => by cases z⟩
theorem d_cmp {op : CmpOp} {r : R2} {f : Dt → Dt → Md Dt} (h : CmpOk X M op r f) (ha : DE X T M E fa a ta ma) (hb : DE X T M E fb b tb mb) (hm : behindInMarks op b = false := by first | exact nomark _ | rfl) : DE X T M E .s (.Compare a [op] [b] pos) (tOp r ta tb) (mBin f ma mb) :=
  ⟨pe_cmpR h.o ha.pe hb.pe hm, snd_op ha.sn.toT hb.sn.toT h.s h.n⟩
theorem t_cmp {op : CmpOp} {r : R2} {f : Dt → Dt → Md Dt} (h : CmpOk X M op r f) (ha : DE X T M E fa a ta ma) (hb : DE X T M E fb b tb mb) (hm : behindInMarks op b = false := by first | exact nomark _ | rfl) : DT X T M E (.Compare a [op] [b] pos) (tTest (tOp r ta tb)) (mT (mBin f ma mb)) :=
  ⟨pt_cmpR h.o ha.pe hb.pe hm, snd_test (SndE.toT (snd_op ha.sn.toT hb.sn.toT h.s h.n))⟩
/-- a < b < c -/
def mChn (f g : Dt → Dt → Md Dt) (ma mb mc : Fd → Md Dt) : Fd → Md Dt := fun Δ => (ma Δ).bind fun x => (mb Δ).bind fun y => (f x y).bind fun z => match z with
  | .bl q => if q = true then (mc Δ).bind fun u => g y u else .ok (.bl false)
  | _ => .bad
theorem snd_chain {W : Wo} {r r' : R2} {f g : Dt → Dt → Md Dt} (ha : SndE W .t ta ma) (hb : SndE W .s tb mb) (hc : SndE W .t tc mc) (h1 : SndR W.K .t .t .s r f) (n1 : ∀ a b c, f a b ≠ .exc c) (h2 : SndR W.K .t .t .s r' g) (n2 : ∀ a b c, g a b ≠ .exc c) :
    SndE W .s (tChain r r' ta tb tc) (mChn f g ma mb mc) := by
  intro G B H S σ Δ Q s w
  refine ha G B H S σ Δ _ s (w.bind.mono (fun a q x H1 S1 g1 r1 _ => ?_) fun _ z => z)
  refine hb G B H1 S1 σ Δ _ (s.grow g1) (q.bind.mono (fun b q2 y H2 S2 g2 r2 _ => ?_) fun _ z => z.grow g1.hh)
  refine h1 H2 S2 x y a b _ g2.sh (r1.grow g2) (r2.toT g2.sh) ?_
  have q3 := q2.bind
  cases hf : f a b with
  | exc c => exact absurd hf (n1 a b c)
  | bad =>
    rw [hf] at q3
    exact q3
  | ok z =>
    rw [hf] at q3
    intro v H3 S3 g3 r3 _
    have gg := (g1.trans g2).trans g3
    revert q3
    cases z with
    | bl t =>
      intro q3
      cases r3
      refine ⟨t, rfl, ?_⟩
      cases t with
      | false => exact q3 _ H3 S3 gg (.bl false) trivial
      | true =>
        refine hc G B H3 S3 σ Δ _ (s.grow gg) (Wp.mono (Wp.bind q3) (fun c q4 u H4 S4 g4 r4 _ => ?_) fun _ z => z.grow gg.hh)
        refine h2 H4 S4 y u b c Q g4.sh (Rp.mono (g3.hh.trans g4.hh) (r2.toT g2.sh)) r4 ?_
        cases hg : g b c with
        | exc c' => exact absurd hg (n2 b c c')
        | bad =>
          rw [hg] at q4
          exact q4
        | ok d =>
          rw [hg] at q4
          exact fun v H5 S5 g5 r5 n5 => q4 v H5 S5 ((gg.trans g4).trans g5) r5 trivial
    | _ => exact fun q3 => q3.elim
theorem d_chain {op op' : CmpOp} {r r' : R2} {f g : Dt → Dt → Md Dt} (h1 : CmpOk X M op r f) (h2 : CmpOk X M op' r' g) (ha : DE X T M E fa a ta ma) (hb : DE X T M E .s b tb mb) (hc : DE X T M E fc c tc mc) (hm : lastMarks [op, op'] [b, c] = false := by with_unfolding_all rfl) :
    DE X T M E .s (.Compare a [op, op'] [b, c] pos) (tChain r r' ta tb tc) (mChn f g ma mb mc) := ⟨pe_chain h1.o h2.o ha.pe hb.pe hc.pe hm, snd_chain ha.sn.toT hb.sn hc.sn.toT h1.s h1.n h2.s h2.n⟩
theorem t_chain {op op' : CmpOp} {r r' : R2} {f g : Dt → Dt → Md Dt} (h1 : CmpOk X M op r f) (h2 : CmpOk X M op' r' g) (ha : DE X T M E fa a ta ma) (hb : DE X T M E .s b tb mb) (hc : DE X T M E fc c tc mc) (hm : lastMarks [op, op'] [b, c] = false := by with_unfolding_all rfl) :
    DT X T M E (.Compare a [op, op'] [b, c] pos) (tTest (tChain r r' ta tb tc)) (mT (mChn f g ma mb mc)) := ⟨pt_chain h1.o h2.o ha.pe hb.pe hc.pe hm, snd_test (SndE.toT (snd_chain ha.sn.toT hb.sn hc.sn.toT h1.s h1.n h2.s h2.n))⟩
/-! tests -/
theorem t_val (h : DE X T M E fl e te me) (he : ∀ whole, isTrue e X.env whole = (do let v ← whole; standAt e.pos; holding [v] (truthy v)) := by intro _; rfl) : DT X T M E e (tB te) (mT me) := ⟨pt_val h.pe he, snd_B h.sn.toT⟩
theorem w_and1 (h : DT X T M E a tt mt) : DW X T M E (.BoolOp .And [a] pos) tt mt := ⟨pw_and1 h.pt, h.sn⟩
theorem w_or1 (h : DT X T M E a tt mt) : DW X T M E (.BoolOp .Or [a] pos) tt mt := ⟨pw_or1 h.pt, h.sn⟩
theorem w_and {rest : List Expr} (h : DT X T M E a tt mt) (h2 : DW X T M E (.BoolOp .And (b :: rest) pos) tu mu) : DW X T M E (.BoolOp .And (a :: b :: rest) pos) (tAnd tt tu) (mAnd mt mu) := ⟨pw_and h.pt h2.pw, snd_and h.sn h2.sn⟩
theorem w_or {rest : List Expr} (h : DT X T M E a tt mt) (h2 : DW X T M E (.BoolOp .Or (b :: rest) pos) tu mu) : DW X T M E (.BoolOp .Or (a :: b :: rest) pos) (tOr tt tu) (mOr mt mu) := ⟨pw_or h.pt h2.pw, snd_or h.sn h2.sn⟩
theorem w_t (h : DW X T M E e tt mt) : DT X T M E e tt mt := ⟨h.pw.pt, h.sn⟩
theorem DW.t (h : DW X T M E e tt mt) : DT X T M E e tt mt := ⟨h.pw.pt, h.sn⟩
theorem t_not (h : DT X T M E a tt mt) : DT X T M E (.UnaryOp .Not a pos) (tNot tt) (mNot mt) := ⟨pt_not h.pt, snd_not h.sn⟩
/-! truth values as values -/
theorem d_one {op : BoolOp} (h : DE X T M E .s a ta ma) : DE X T M E .s (.BoolOp op [a] pos) ta ma := ⟨pe_one h.pe, h.sn⟩
theorem d_and {rest : List Expr} (ha : DE X T M E fa a ta ma) (hb : DE X T M E .s (.BoolOp .And (b :: rest) pos) tb mb) : DE X T M E .s (.BoolOp .And (a :: b :: rest) pos) (tAndV ta tb) (mAndV ma mb) := ⟨pe_and ha.pe hb.pe, snd_andV ha.sn.toT hb.sn⟩
theorem d_or {rest : List Expr} (ha : DE X T M E fa a ta ma) (hb : DE X T M E .s (.BoolOp .Or (b :: rest) pos) tb mb) : DE X T M E .s (.BoolOp .Or (a :: b :: rest) pos) (tOrV ta tb) (mOrV ma mb) := ⟨pe_or ha.pe hb.pe, snd_orV ha.sn.toT hb.sn⟩
theorem d_not (ha : DE X T M E fa a ta ma) : DE X T M E .s (.UnaryOp .Not a pos) (tNotV ta) (mNotV ma) := ⟨pe_not ha.pe, snd_notV ha.sn.toT⟩
theorem d_ifE (ht : DT X T M E e tt mt) (ha : DE X T M E fl a ta ma) (hb : DE X T M E fl b tb mb) : DE X T M E fl (.IfExp e a b pos) (tIf tt ta tb) (mIfE mt ma mb) := ⟨pe_ifExp ht.pt ha.pe hb.pe, snd_ifE ht.sn ha.sn hb.sn⟩
/-! arguments, displays -/
theorem a_nil : DA X T M E fl [] tNil mNil := ⟨pa_nil, sa_nil⟩
theorem a_s (ha : DE X T M E .s e te me) (hr : DA X T M E .s es tas mas) (hs : starEach (e :: es) X.env = (false, eval e X.env) :: starEach es X.env := by rfl) : DA X T M E .s (e :: es) (tCons te tas) (mCons me mas) := ⟨pa_cons ha.pe hr.pa hs, sa_conss ha.sn hr.sn⟩
theorem a_t (ha : DE X T M E fa e te me) (hr : DA X T M E .t es tas mas) (hs : starEach (e :: es) X.env = (false, eval e X.env) :: starEach es X.env := by rfl) : DA X T M E .t (e :: es) (tCons te tas) (mCons me mas) := ⟨pa_cons ha.pe hr.pa hs, sa_const ha.sn.toT hr.sn⟩
theorem d_tup {x1 : Nat} (h : DA X T M E .s es tas mas) : DE X T M E .s (.Tuple es x1 pos) (tTup tas) (mTup mas) := ⟨pe_tup h.pa, snd_tup h.sn⟩
theorem d_lst (h : DA X T M E .s es tas mas) : DE X T M E .n (.List es pos) (tLst tas) (mLst mas) := ⟨pe_lst h.pa, snd_lst h.sn⟩
end
end Mr
namespace Mr
open PySem L2

/-! ### lists of ints, of truths, of pairs -/
def toInts : List Dt → Option (List Int)
  | [] => some []
  | .int i :: r => (toInts r).map (i :: ·)
  | _ => none
def toBls : List Dt → Option (List Bool)
  | [] => some []
  | .bl b :: r => (toBls r).map (b :: ·)
  | _ => none
def toPairs : List Dt → Option (List (Int × Int))
  | [] => some []
  | .tup [.int i, .int j] :: r => (toPairs r).map ((i, j) :: ·)
  | _ => none
section
variable {K : Kx} {H S H' S' : Hp}
theorem rp_ints : ∀ {vs : List V} {ds : List Dt} {ns : List Int}, RpL K H vs ds → toInts ds = some ns → vs = ns.map V.int ∧ ds = ns.map Dt.int
  | _, _, _, .nil, e => by cases e; exact ⟨rfl, rfl⟩
  | _, _, ns, .cons (d := d) h r, e => by
    cases d with
    | int i =>
      obtain ⟨ms, e1, e2⟩ := Option.map_eq_some_iff.mp (show (toInts _).map (i :: ·) = some ns from e)
      obtain ⟨q1, q2⟩ := rp_ints r e1
      cases h
      rw [← e2, q1, q2]
      exact ⟨rfl, rfl⟩
    | _ => cases e
theorem rp_bls : ∀ {vs : List V} {ds : List Dt} {bs : List Bool}, RpL K H vs ds → toBls ds = some bs → vs = bs.map V.bl
  | _, _, _, .nil, e => by cases e; rfl
  | _, _, ns, .cons (d := d) h r, e => by
    cases d with
    | bl i =>
      obtain ⟨ms, e1, e2⟩ := Option.map_eq_some_iff.mp (show (toBls _).map (i :: ·) = some ns from e)
      cases h
      rw [← e2, rp_bls r e1]
      rfl
    | _ => cases e
theorem rp_of_ints : ∀ ns : List Int, RpL K H (ns.map V.int) (ns.map Dt.int)
  | [] => .nil
  | i :: r => .cons (.int i) (rp_of_ints r)
theorem toInts_map : ∀ ns : List Int, toInts (ns.map Dt.int) = some ns
  | [] => rfl
  | i :: r => by
    show (toInts (r.map Dt.int)).map (i :: ·) = _
    rw [toInts_map r]
    rfl
theorem toBls_map : ∀ bs : List Bool, toBls (bs.map Dt.bl) = some bs
  | [] => rfl
  | i :: r => by
    show (toBls (r.map Dt.bl)).map (i :: ·) = _
    rw [toBls_map r]
    rfl
theorem toPairs_map : ∀ ps : List (Int × Int), toPairs (ps.map fun p => .tup [.int p.1, .int p.2]) = some ps
  | [] => rfl
  | i :: r => by
    show (toPairs (r.map fun p => .tup [.int p.1, .int p.2])).map ((i.1, i.2) :: ·) = _
    rw [toPairs_map r]
    rfl
/-- which pair a value is: read off the data at its place -/
theorem rp_pairs : ∀ {vs : List V} {ds : List Dt} {ps : List (Int × Int)}, RpL K H vs ds → toPairs ds = some ps → Paired (fun v p => ∃ t, v = V.ref t ∧ H t = some (.tup [.int p.1, .int p.2])) vs ps ∧ ds = ps.map fun p => .tup [.int p.1, .int p.2]
  | _, _, _, .nil, e => by cases e; exact ⟨.nil, rfl⟩
  | _, _, ps, .cons (d := d) (ds := ds) h r, e => by
    unfold toPairs at e
    split at e
    · rename_i e0
      cases e0
    · rename_i i j r' e0
      cases e0
      obtain ⟨ms, e1, e2⟩ := Option.map_eq_some_iff.mp e
      obtain ⟨q1, q2⟩ := rp_pairs r e1
      cases h with
      | tup ha hr =>
        cases hr with
        | cons h1 hr =>
          cases hr with
          | cons h2 hr =>
            cases hr
            cases h1
            cases h2
            subst e2
            exact ⟨.cons ⟨_, rfl, ha⟩ q1, by rw [q2]; rfl⟩
    · cases e
/-! ### sorting -/
def sortI (ns : List Int) : List Int := ns.mergeSort fun a b => decide (a ≤ b)
theorem sortI_of {ns ms : List Int} (hp : ms.Perm ns) (hs : ms.Pairwise (· ≤ ·)) : ms = sortI ns := by
  have h2 : (sortI ns).Pairwise (· ≤ ·) := (List.pairwise_mergeSort (le := fun a b => decide (a ≤ b)) (fun a b c h1 h2 => decide_eq_true (Int.le_trans (of_decide_eq_true h1) (of_decide_eq_true h2)))
    (fun a b => by rcases Int.le_total a b with h | h <;> simp [h]) ns).imp fun h => of_decide_eq_true h
  exact List.Perm.eq_of_pairwise (le := (· ≤ ·)) (fun a b _ _ h1 h2 => Int.le_antisymm h1 h2) hs h2 (hp.trans (List.mergeSort_perm ns _).symm)
def leP (p q : Int × Int) : Bool := !SrtO.lexB q p
def sortP (ps : List (Int × Int)) : List (Int × Int) := ps.mergeSort leP
theorem leP_iff {p q : Int × Int} : leP p q = true ↔ p.1 < q.1 ∨ (p.1 = q.1 ∧ p.2 ≤ q.2) := by
  unfold leP
  rw [Bool.not_eq_true', SrtO.lexB_no]
  omega
theorem sortP_of {ps qs : List (Int × Int)} (hp : qs.Perm ps) (hs : qs.Pairwise fun a b => leP a b = true) : qs = sortP ps := by
  have h2 : (sortP ps).Pairwise fun a b => leP a b = true := List.pairwise_mergeSort (le := leP) (fun a b c h1 h2 => by
    rw [leP_iff] at h1 h2 ⊢
    omega) (fun a b => by
    rw [Bool.or_eq_true, leP_iff, leP_iff]
    omega) ps
  refine List.Perm.eq_of_pairwise (le := fun a b => leP a b = true) (fun a b _ _ h1 h2 => ?_) hs h2 (hp.trans (List.mergeSort_perm ps _).symm)
  rw [leP_iff] at h1 h2
  exact Prod.ext (by omega) (by omega)

/-! ### answers that come from a list's items -/
/-- a list that isn't only read at once: its place, its items shared -/
theorem Hd.lst {fl : Fl} {v : V} {ds : List Dt} (h : Hd K fl H S v (.lst ds)) (hf : fl ≠ .t) (e : Ex S H) : ∃ p vs, v = .ref p ∧ H p = some (.lst vs) ∧ RpL K S vs ds := by
  cases fl with
  | t => exact absurd rfl hf
  | s =>
    cases h with
    | lst ha r => exact ⟨_, _, rfl, e.lst ha, r⟩
  | n =>
    obtain ⟨p, vs, es, e1, e2, e3, _, r⟩ := h
    cases e2
    exact ⟨p, vs, e1, e3, r⟩
  | l =>
    obtain ⟨p, vs, es, e1, e2, e3, r⟩ := h
    cases e2
    exact ⟨p, vs, e1, e3, r⟩
theorem Hd.tup {fl : Fl} {v : V} {ds : List Dt} (h : Hd K fl H S v (.tup ds)) (hf : fl ≠ .t) (e : Ex S H) : ∃ p vs, v = .ref p ∧ H p = some (.tup vs) ∧ RpL K S vs ds := by
  cases fl with
  | t => exact absurd rfl hf
  | s =>
    cases h with
    | tup ha r => exact ⟨_, _, rfl, e.tup ha, r⟩
  | n =>
    obtain ⟨p, vs, es, e1, e2, _⟩ := h
    cases e2
  | l =>
    obtain ⟨p, vs, es, e1, e2, _⟩ := h
    cases e2
theorem Hd.lsk {fl : Fl} {v : V} {ds : List Dt} (h : Hd K fl H S v (.lsk ds)) (hf : fl ≠ .t) (e : Ex S H) : ∃ p vs, v = .ref p ∧ SqL K H p vs ∧ RpL K S vs ds := by
  cases fl with
  | t => exact absurd rfl hf
  | s =>
    cases h with
    | lsk ha r => exact ⟨_, _, rfl, e.sqL ha, r⟩
  | n =>
    obtain ⟨p, vs, es, e1, e2, _⟩ := h
    cases e2
  | l =>
    obtain ⟨p, vs, es, e1, e2, _⟩ := h
    cases e2
theorem Hd.tpk {fl : Fl} {v : V} {ds : List Dt} (h : Hd K fl H S v (.tpk ds)) (hf : fl ≠ .t) (e : Ex S H) : ∃ p vs, v = .ref p ∧ SqT K H p vs ∧ RpL K S vs ds := by
  cases fl with
  | t => exact absurd rfl hf
  | s =>
    cases h with
    | tpk ha r => exact ⟨_, _, rfl, e.sqT ha, r⟩
  | n =>
    obtain ⟨p, vs, es, e1, e2, _⟩ := h
    cases e2
  | l =>
    obtain ⟨p, vs, es, e1, e2, _⟩ := h
    cases e2
theorem RpL.atI {vs : List V} {ds : List Dt} {i : Int} {d : Dt} (r : RpL K H vs ds) (h : atI ds i = some d) : ∃ v, L2.atI vs i = some v ∧ Rp K H v d := by
  unfold L2.atI at h ⊢
  rw [r.length]
  cases q : ixN ds.length i with
  | none =>
    rw [q] at h
    cases h
  | some j =>
    rw [q] at h
    exact r.at h
/-- a new list is laid -/
theorem new_lst {fl : Fl} {Q : VK} {ds : List Dt} (e : Ex S H) {vs : List V} (r : RpL K S vs ds) (k : ∀ v H' S', Gr H S H' S' → Hd K .n H' S' v (.lst ds) → Nw .n H v → Q v H') : ∀ p, H p = none → Q (.ref p) (upd H p (.lst vs)) :=
  fun p hp => k _ _ S (Gr.newO e hp) ⟨p, vs, ds, rfl, rfl, upd_same, e.free hp, r⟩ ⟨p, rfl, hp⟩
end
/-! ### one operand -/
def mU (f : Dt → Md Dt) (ma : Fd → Md Dt) : Fd → Md Dt := fun Δ => (ma Δ).bind f
def SndU (K : Kx) (fa fl : Fl) (r : V → Hp → VK → Prop) (f : Dt → Md Dt) : Prop := ∀ (H S : Hp) (x : V) (a : Dt) (Q : VK), Ex S H → Hd K fa H S x a →
  Wp (f a) (fun d => ∀ v H' S', Gr H S H' S' → Hd K fl H' S' v d → Nw fl H v → Q v H') (fun _ => False) → r x H Q
theorem snd_u {W : Wo} {fa fl : Fl} {ta te : TE} {ma : Fd → Md Dt} {r : V → Hp → VK → Prop} {f : Dt → Md Dt} (ht : ∀ σ H Q, (ta σ H fun x H1 => r x H1 Q) → te σ H Q) (ha : SndE W fa ta ma) (hr : SndU W.K fa fl r f) (nx : ∀ a c, f a ≠ .exc c) : SndE W fl te (mU f ma) := by
  intro G B H S σ Δ Q s w
  refine ht σ H Q (ha G B H S σ Δ _ s (w.bind.mono (fun a k x H1 S1 g1 r1 _ => ?_) fun _ z => z))
  refine hr H1 S1 x a Q g1.sh r1 ?_
  cases hf : f a with
  | ok d =>
    rw [hf] at k
    exact fun v H2 S2 g2 r2 n2 => k v H2 S2 (g1.trans g2) r2 (n2.back g1)
  | exc c => exact absurd hf (nx a c)
  | bad =>
    rw [hf] at k
    exact k
section
variable {X : Cx} {T : List Addr} {M : Mm} {E : XK} {fl fa fb fc : Fl} {nw : Bool} {a b c e tg : Expr} {es : List Expr} {ta tb tc te : TE} {ma mb mc me : Fd → Md Dt} {pos p p2 : Pos} {k : Nat} {tas : TA} {mas : Fd → Md (List Dt)} {K : Kx}
/-! items -/
def dIx (a i : Dt) : Md Dt := match i with
  | .int i => (match a with
    | .lst ds => (match atI ds i with | some d => .ok d | none => .bad)
    | .lsk ds => (match atI ds i with | some d => .ok d | none => .bad)
    | .tup ds => (match atI ds i with | some d => .ok d | none => .bad)
    | .tpk ds => (match atI ds i with | some d => .ok d | none => .bad)
    | _ => .bad)
  | _ => .bad
theorem ix_nx {ds : List Dt} {i : Int} (c : Str) : (match atI ds i with | some d => Md.ok d | none => Md.bad) ≠ .exc c := by
  split <;> exact fun z => by cases z
theorem dIx_nx (a i : Dt) (c : Str) : dIx a i ≠ .exc c := by
  cases i with
  | int i => cases a <;> first | exact ix_nx c | exact fun z => by cases z
  | _ => exact fun z => by cases z
theorem atI_w {ds : List Dt} {i : Int} {p : Dt → Prop} {ex : Str → Prop} (w : Wp (match atI ds i with | some d => Md.ok d | none => Md.bad) p ex) : ∃ d, atI ds i = some d ∧ p d := by
  cases q : atI ds i with
  | none =>
    rw [q] at w
    exact w.elim
  | some d =>
    rw [q] at w
    exact ⟨d, rfl, w⟩
theorem sr_ix (hf : fa ≠ .t) : SndR K fa .t .s (rIx K) dIx := by
  intro H S x y a b Q e ha hb w
  unfold dIx at w
  cases b with
  | int i =>
    cases Rp.isInt hb
    cases a with
    | lst ds =>
      obtain ⟨d, hd, w⟩ := atI_w w
      obtain ⟨p, vs, rfl, h1, r⟩ := ha.lst hf e
      obtain ⟨v, hv, rv⟩ := r.atI hd
      exact .inl ⟨p, vs, i, v, rfl, rfl, .of h1, hv, w v H S (Gr.refl e) rv trivial⟩
    | lsk ds =>
      obtain ⟨d, hd, w⟩ := atI_w w
      obtain ⟨p, vs, rfl, h1, r⟩ := ha.lsk hf e
      obtain ⟨v, hv, rv⟩ := r.atI hd
      exact .inl ⟨p, vs, i, v, rfl, rfl, h1, hv, w v H S (Gr.refl e) rv trivial⟩
    | tup ds =>
      obtain ⟨d, hd, w⟩ := atI_w w
      obtain ⟨p, vs, rfl, h1, r⟩ := ha.tup hf e
      obtain ⟨v, hv, rv⟩ := r.atI hd
      exact .inr (.inl ⟨p, vs, i, v, rfl, rfl, .of h1, hv, w v H S (Gr.refl e) rv trivial⟩)
    | tpk ds =>
      obtain ⟨d, hd, w⟩ := atI_w w
      obtain ⟨p, vs, rfl, h1, r⟩ := ha.tpk hf e
      obtain ⟨v, hv, rv⟩ := r.atI hd
      exact .inr (.inl ⟨p, vs, i, v, rfl, rfl, h1, hv, w v H S (Gr.refl e) rv trivial⟩)
    | _ => exact w.elim
  | _ => exact w.elim
theorem sr_ixT : SndR K .t .t .t (rIx K) dIx := by
  intro H S x y a b Q e ha hb w
  have w' := sr_ix (K := K) (fa := .s) (fun z => by cases z) H H x y a b Q (Ex.refl H) (show Rp K H x a from ha) hb
  refine w' (w.mono (fun d k v H' S' g r _ => ?_) fun _ z => z)
  have g2 : Gr H S H' S := ⟨g.hh, Ex.refl S, e.trans g.hh, fun _ _ z => z⟩
  exact k v H' S g2 (Rp.mono g.sh r) trivial
theorem d_ix {K0 : PySem.W.Frag} (ha : DE X T M E fa a ta ma) (hb : DE X T M E fb b tb mb) (hf : fa ≠ .t := by exact fun z => by cases z) (hs : PlainIx b := by exact fun _ _ => rfl) (hK : X.K = K0 := by rfl) : DE X T M E .s (.Subscript a b pos) (tOp (rIx K0) ta tb) (mBin dIx ma mb) := by
  subst hK
  exact ⟨pe_ix ix_seq ha.pe hb.pe hs, snd_op ha.sn hb.sn.toT (sr_ix hf) dIx_nx⟩
theorem d_ixT {K0 : PySem.W.Frag} (ha : DE X T M E fa a ta ma) (hb : DE X T M E fb b tb mb) (hs : PlainIx b := by exact fun _ _ => rfl) (hK : X.K = K0 := by rfl) : DE X T M E .t (.Subscript a b pos) (tOp (rIx K0) ta tb) (mBin dIx ma mb) := by
  subst hK
  exact ⟨pe_ix ix_seq ha.pe hb.pe hs, snd_op ha.sn.toT hb.sn.toT sr_ixT dIx_nx⟩
/-! slices of lists -/
def SndO (W : Wo) (to : TO) (mo : Fd → Md (Option Int)) : Prop := ∀ (G B H S : Hp) (σ : St) (Δ : Fd) (Q : Option Int → Hp → Prop), Slt W.K W.T G B H S σ Δ →
  Wp (mo Δ) (fun d => ∀ H' S', Gr H S H' S' → Q d H') (XW W.mg W.E H) → to σ H Q
structure DO (X : Cx) (T : List Addr) (M : Mm) (E : XK) (e : Option Expr) (to : TO) (mo : Fd → Md (Option Int)) : Prop where
  po : PO X e to
  sn : SndO ⟨kx X M, T, X.mg, E⟩ to mo
def mNoO : Fd → Md (Option Int) := fun _ => .ok none
def mSoO (ma : Fd → Md Dt) : Fd → Md (Option Int) := fun Δ => (ma Δ).bind fun d => match d with
  | .int i => .ok (some i)
  | _ => .bad
theorem o_none : DO X T M E none tNoPart mNoO := ⟨po_none, fun G B H S σ Δ Q s w => w H S (Gr.refl s.sh)⟩
theorem o_some (ha : DE X T M E fa a ta ma) : DO X T M E (some a) (tPart ta) (mSoO ma) := ⟨po_some ha.pe, fun G B H S σ Δ Q s w => ha.sn.toT G B H S σ Δ _ s (w.bind.mono (fun d q v H1 S1 g r _ => by
  cases d with
  | int i =>
    cases Rp.isInt r
    exact ⟨i, rfl, q H1 S1 g⟩
  | _ => exact q.elim) fun _ z => z)⟩
def cutD (xs : List Dt) (lo hi : Option Int) : List Dt := (xs.drop (HT.sIx xs.length 0 lo)).take (HT.sIx xs.length xs.length hi - HT.sIx xs.length 0 lo)
def mSl (ma : Fd → Md Dt) (ml mh : Fd → Md (Option Int)) : Fd → Md Dt := fun Δ => (ma Δ).bind fun d => (ml Δ).bind fun lo => (mh Δ).bind fun hi => match d with
  | .lst ds => .ok (.lst (cutD ds lo hi))
  | .lsk ds => .ok (.lst (cutD ds lo hi))
  | _ => .bad
theorem RpL.cut {H : Hp} {vs : List V} {ds : List Dt} (r : RpL K H vs ds) (lo hi : Option Int) : RpL K H (cutV vs lo hi) (cutD ds lo hi) := by
  unfold cutV cutD
  rw [r.length]
  exact (r.drop _).take _
variable {lo hi : Option Expr} {tl th : TO} {ml mh : Fd → Md (Option Int)}
theorem d_slice {K0 : PySem.W.Frag} (ha : DE X T M E fa a ta ma) (hl : DO X T M E lo tl ml) (hh : DO X T M E hi th mh) (hf : fa ≠ .t := by exact fun z => by cases z) (hK : X.K = K0 := by rfl) : DE X T M E .n (.Subscript a (.Slice lo hi none p2) pos) (tSl (rSlL K0) ta tl th) (mSl ma ml mh) := by
  subst hK
  exact ⟨pe_slice sl_list ha.pe hl.po hh.po, fun G B H S σ Δ Q s w => by
    refine ha.sn G B H S σ Δ _ s (w.bind.mono (fun d q v H1 S1 g1 r1 _ => ?_) fun _ z => z)
    refine hl.sn G B H1 S1 σ Δ _ (s.grow g1) (q.bind.mono (fun l q2 H2 S2 g2 => ?_) fun _ z => z.grow g1.hh)
    refine hh.sn G B H2 S2 σ Δ _ ((s.grow g1).grow g2) (q2.bind.mono (fun u q3 H3 S3 g3 => ?_) fun _ z => z.grow (g1.trans g2).hh)
    have gg := (g1.trans g2).trans g3
    have r3 := r1.grow (g2.trans g3)
    cases d with
    | lst ds =>
      obtain ⟨p, vs, rfl, h1, r⟩ := r3.lst hf g3.sh
      exact ⟨p, vs, rfl, .of h1, new_lst (fl := .n) g3.sh (r.cut l u) fun v H4 S4 g4 r4 n4 => q3 v H4 S4 (gg.trans g4) r4 (n4.back gg)⟩
    | lsk ds =>
      obtain ⟨p, vs, rfl, h1, r⟩ := r3.lsk hf g3.sh
      exact ⟨p, vs, rfl, h1, new_lst (fl := .n) g3.sh (r.cut l u) fun v H4 S4 g4 r4 n4 => q3 v H4 S4 (gg.trans g4) r4 (n4.back gg)⟩
    | _ => exact q3.elim⟩
/-! lists joined, repeated -/
def dCat : Dt → Dt → Md Dt
  | .lst ds, .lst es => if ds.length + es.length ≤ 16777216 then .ok (.lst (ds ++ es)) else .bad
  | _, _ => .bad
theorem dCat_nx (a b : Dt) (c : Str) : dCat a b ≠ .exc c := by
  unfold dCat
  split
  · split <;> exact fun z => by cases z
  · exact fun z => by cases z
theorem sr_cat (h1 : fa ≠ .t) (h2 : fb ≠ .t) : SndR K fa fb .n rCat dCat := by
  intro H S x y a b Q e ha hb w
  unfold dCat at w
  split at w
  · rename_i ds es
    by_cases hl : ds.length + es.length ≤ 16777216
    · rw [if_pos hl] at w
      obtain ⟨p, vs, rfl, k1, r1⟩ := ha.lst h1 e
      obtain ⟨q, us, rfl, k2, r2⟩ := hb.lst h2 e
      exact ⟨p, q, vs, us, rfl, rfl, k1, k2, by rw [r1.length, r2.length, sizeLine_eq]; exact hl, new_lst (fl := .n) e (r1.app r2) w⟩
    · rw [if_neg hl] at w
      exact w.elim
  · exact w.elim
theorem d_cat (ha : DE X T M E fa a ta ma) (hb : DE X T M E fb b tb mb) (h1 : fa ≠ .t := by exact fun z => by cases z) (h2 : fb ≠ .t := by exact fun z => by cases z) : DE X T M E .n (.BinOp a .Add b pos) (tOp rCat ta tb) (mBin dCat ma mb) :=
  ⟨pe_op op_cat ha.pe hb.pe, snd_op ha.sn hb.sn (sr_cat h1 h2) dCat_nx⟩
def dRep : Dt → Dt → Md Dt
  | .lst ds, .int k => if -(2 ^ 63) ≤ k ∧ k < 2 ^ 63 ∧ ds.length * k.toNat ≤ 16777216 then .ok (.lst (List.replicate k.toNat ds).flatten) else .bad
  | _, _ => .bad
theorem dRep_nx (a b : Dt) (c : Str) : dRep a b ≠ .exc c := by
  unfold dRep
  split
  · split <;> exact fun z => by cases z
  · exact fun z => by cases z
theorem sr_rep (h1 : fa ≠ .t) : SndR K fa .t .n rRep dRep := by
  intro H S x y a b Q e ha hb w
  unfold dRep at w
  split at w
  · rename_i ds k
    by_cases hl : -(2 ^ 63) ≤ k ∧ k < 2 ^ 63 ∧ ds.length * k.toNat ≤ 16777216
    · rw [if_pos hl] at w
      obtain ⟨p, vs, rfl, k1, r1⟩ := ha.lst h1 e
      cases Rp.isInt hb
      exact ⟨p, k, vs, rfl, rfl, k1, hl.1, hl.2.1, by rw [r1.length, sizeLine_eq]; exact hl.2.2, new_lst (fl := .n) e (r1.rep _) w⟩
    · rw [if_neg hl] at w
      exact w.elim
  · exact w.elim
theorem d_rep (ha : DE X T M E fa a ta ma) (hb : DE X T M E fb b tb mb) (h1 : fa ≠ .t := by exact fun z => by cases z) : DE X T M E .n (.BinOp a .Mult b pos) (tOp rRep ta tb) (mBin dRep ma mb) :=
  ⟨pe_op op_rep ha.pe hb.pe, snd_op ha.sn hb.sn.toT (sr_rep h1) dRep_nx⟩
/-! built-ins of one value -/
theorem one_cb {r : List V → Hp → VK → Prop} : ∀ σ H Q, (ta σ H fun x H1 => r [x] H1 Q) → tCB r (tCons ta tNil) σ H Q := fun σ H Q h => h
def dLen : Dt → Md Dt
  | .lst ds => .ok (.int (ds.length : Int))
  | .lsk ds => .ok (.int (ds.length : Int))
  | .tup ds => .ok (.int (ds.length : Int))
  | .tpk ds => .ok (.int (ds.length : Int))
  | .str x => if x.length ≤ 16777216 then .ok (.int (x.length : Int)) else .bad
  | _ => .bad
def rLenR (K : PySem.W.Frag) : List V → Hp → VK → Prop := fun xs H Q => ∃ x n, xs = [x] ∧ LenV K x H n ∧ Q (.int n) H
theorem d_len {K0 : PySem.W.Frag} (hm : X.mg "len" = none) (ha : DE X T M E fa a ta ma) (hg : Gl X "len" := by rfl) (hs : starEach [a] X.env = (false, eval a X.env) :: starEach [] X.env := by rfl) (hpl : (backTo pos (starEach [] X.env)).any (·.1) = false := by rfl) (hK : X.K = K0 := by rfl) :
    DE X T M E .s (.Call (.Name "len" p) [a] [] pos) (tCB (rLenR K0) (tCons ta tNil)) (mU dLen ma) := by
  subst hK
  exact ⟨pe_callB call_len hg hm PySem.boot_len (pa_cons ha.pe pa_nil hs) (he := hs) (hpl := hpl), snd_u (r := fun x H Q => rLenR X.K [x] H Q) one_cb ha.sn.toT (fun H S x a Q e h w => by
    cases a with
    | lst ds =>
      cases h with
      | lst k1 r => exact ⟨_, _, rfl, .inl ⟨_, .of k1, rfl⟩, by rw [r.length]; exact w _ H S (Gr.refl e) (.int _) trivial⟩
    | lsk ds =>
      cases h with
      | lsk k1 r => exact ⟨_, _, rfl, .inl ⟨_, k1, rfl⟩, by rw [r.length]; exact w _ H S (Gr.refl e) (.int _) trivial⟩
    | tup ds =>
      cases h with
      | tup k1 r => exact ⟨_, _, rfl, .inr ⟨_, .of k1, rfl⟩, by rw [r.length]; exact w _ H S (Gr.refl e) (.int _) trivial⟩
    | tpk ds =>
      cases h with
      | tpk k1 r => exact ⟨_, _, rfl, .inr ⟨_, k1, rfl⟩, by rw [r.length]; exact w _ H S (Gr.refl e) (.int _) trivial⟩
    | str z =>
      have w : Wp (if z.length ≤ 16777216 then Md.ok (Dt.int (z.length : Int)) else Md.bad) _ _ := w
      by_cases hz : z.length ≤ 16777216
      · rw [if_pos hz] at w
        cases h
        exact ⟨_, z.length, rfl, ⟨by rw [sizeLine_eq]; exact hz, rfl⟩, w _ H S (Gr.refl e) (.int _) trivial⟩
      · rw [if_neg hz] at w
        exact w.elim
    | _ => exact w.elim) (fun a c => by
      unfold dLen
      split <;> first | exact (fun z => by cases z) | (split <;> exact fun z => by cases z))⟩
def dList : Dt → Md Dt
  | .lst ds => .ok (.lst ds)
  | .lsk ds => .ok (.lst ds)
  | .tup ds => .ok (.lst ds)
  | .tpk ds => .ok (.lst ds)
  | _ => .bad
def rListR (K : PySem.W.Frag) : List V → Hp → VK → Prop := fun xs H Q => ∃ p ys, xs = [.ref p] ∧ (SqL K H p ys ∨ SqT K H p ys) ∧ ∀ l, H l = none → Q (.ref l) (upd H l (.lst ys))
theorem d_list {K0 : PySem.W.Frag} (hm : X.mg "list" = none) (ha : DE X T M E fa a ta ma) (hf : fa ≠ .t := by exact fun z => by cases z) (hg : Gl X "list" := by rfl) (hs : starEach [a] X.env = (false, eval a X.env) :: starEach [] X.env := by rfl) (hpl : (backTo pos (starEach [] X.env)).any (·.1) = false := by rfl) (hK : X.K = K0 := by rfl) :
    DE X T M E .n (.Call (.Name "list" p) [a] [] pos) (tCB (rListR K0) (tCons ta tNil)) (mU dList ma) := by
  subst hK
  exact ⟨pe_callTy call_list_of hg hm (by decide +kernel) (pa_cons ha.pe pa_nil hs) (he := hs) (hpl := hpl), snd_u (r := fun x H Q => rListR X.K [x] H Q) one_cb ha.sn (fun H S x a Q e h w => by
    cases a with
    | lst ds =>
      obtain ⟨p, vs, rfl, h1, r⟩ := h.lst hf e
      exact ⟨p, vs, rfl, .inl (.of h1), new_lst (fl := .n) e r w⟩
    | lsk ds =>
      obtain ⟨p, vs, rfl, h1, r⟩ := h.lsk hf e
      exact ⟨p, vs, rfl, .inl h1, new_lst (fl := .n) e r w⟩
    | tup ds =>
      obtain ⟨p, vs, rfl, h1, r⟩ := h.tup hf e
      exact ⟨p, vs, rfl, .inr (.of h1), new_lst (fl := .n) e r w⟩
    | tpk ds =>
      obtain ⟨p, vs, rfl, h1, r⟩ := h.tpk hf e
      exact ⟨p, vs, rfl, .inr h1, new_lst (fl := .n) e r w⟩
    | _ => exact w.elim) (fun a c => by unfold dList; split <;> exact fun z => by cases z)⟩
def dTuple : Dt → Md Dt
  | .lst ds => .ok (.tup ds)
  | .lsk ds => .ok (.tup ds)
  | .tup ds => .ok (.tup ds)
  | _ => .bad
def rTupleR (K : PySem.W.Frag) : List V → Hp → VK → Prop := fun xs H Q => ∃ p ys, xs = [.ref p] ∧ ((SqL K H p ys ∧ ∀ l, H l = none → Q (.ref l) (upd H l (.tup ys))) ∨ (SqT K H p ys ∧ Q (.ref p) H))
theorem d_tuple {K0 : PySem.W.Frag} (hm : X.mg "tuple" = none) (ha : DE X T M E fa a ta ma) (hf : fa ≠ .t := by exact fun z => by cases z) (hg : Gl X "tuple" := by rfl) (hs : starEach [a] X.env = (false, eval a X.env) :: starEach [] X.env := by rfl) (hpl : (backTo pos (starEach [] X.env)).any (·.1) = false := by rfl) (hK : X.K = K0 := by rfl) :
    DE X T M E .s (.Call (.Name "tuple" p) [a] [] pos) (tCB (rTupleR K0) (tCons ta tNil)) (mU dTuple ma) := by
  subst hK
  exact ⟨pe_callTy call_tuple_of hg hm (by decide +kernel) (pa_cons ha.pe pa_nil hs) (he := hs) (hpl := hpl), snd_u (r := fun x H Q => rTupleR X.K [x] H Q) one_cb ha.sn (fun H S x a Q e h w => by
    have fresh : ∀ {vs : List V} {ds : List Dt}, RpL (kx X M) S vs ds → (∀ v H' S', Gr H S H' S' → Hd (kx X M) .s H' S' v (.tup ds) → Nw .s H v → Q v H') → ∀ l, H l = none → Q (.ref l) (upd H l (.tup vs)) := fun {vs ds} r w l hl => by
      have g := Gr.new (o := .tup vs) e hl
      exact w _ _ _ g (Rp.tup upd_same (RpL.mono g.ss r)) trivial
    cases a with
    | lst ds =>
      obtain ⟨p, vs, rfl, h1, r⟩ := h.lst hf e
      exact ⟨p, vs, rfl, .inl ⟨.of h1, fresh r w⟩⟩
    | lsk ds =>
      obtain ⟨p, vs, rfl, h1, r⟩ := h.lsk hf e
      exact ⟨p, vs, rfl, .inl ⟨h1, fresh r w⟩⟩
    | tup ds =>
      have h2 := h
      obtain ⟨p, vs, rfl, h1, r⟩ := h2.tup hf e
      refine ⟨p, vs, rfl, .inr ⟨.of h1, ?_⟩⟩
      cases fa with
      | t => exact absurd rfl hf
      | s => exact w _ H S (Gr.refl e) h trivial
      | n =>
        obtain ⟨_, _, _, _, z, _⟩ := h
        cases z
      | l =>
        obtain ⟨_, _, _, _, z, _⟩ := h
        cases z
    | _ => exact w.elim) (fun a c => by unfold dTuple; split <;> exact fun z => by cases z)⟩
def dSorted : Dt → Md Dt
  | .lst ds => (match toInts ds with
    | some ns => .ok (.lst ((sortI ns).map Dt.int))
    | none => (match toPairs ds with
      | some ps => .ok (.lst ((sortP ps).map fun p => .tup [.int p.1, .int p.2]))
      | none => .bad))
  | _ => .bad
def rSortedR (K : PySem.W.Frag) : List V → Hp → VK → Prop := fun vs H Q => rSortedI K vs H Q ∨ rSortedPO K vs H Q
/-- the pairs behind values, by their places -/
noncomputable def pairOf (H : Hp) (v : V) : Int × Int := match v with
  | .ref t => (match H t with
    | some (.tup [.int i, .int j]) => (i, j)
    | _ => (0, 0))
  | _ => (0, 0)
theorem paired_pairs {H : Hp} : ∀ {vs : List V} {ps : List (Int × Int)}, Paired (fun v p => ∃ t, v = V.ref t ∧ H t = some (.tup [.int p.1, .int p.2])) vs ps → vs.map (pairOf H) = ps ∧ ∀ x ∈ vs, ∃ t, x = V.ref t ∧ H t = some (.tup [.int (pairOf H x).1, .int (pairOf H x).2])
  | _, _, .nil => ⟨rfl, fun x h => by cases h⟩
  | _, _, .cons (a := v) (b := p) h r => by
    obtain ⟨q1, q2⟩ := paired_pairs r
    obtain ⟨t, rfl, ht⟩ := h
    have e : pairOf H (.ref t) = p := by
      unfold pairOf
      simp only [ht]
    refine ⟨by rw [List.map_cons, q1, e], fun x hx => ?_⟩
    rcases List.mem_cons.mp hx with z | z
    · rw [z, e]
      exact ⟨t, rfl, ht⟩
    · exact q2 x z
theorem rp_mem {H : Hp} : ∀ {vs us : List V} {ds : List Dt}, RpL K H vs ds → (∀ u ∈ us, u ∈ vs) → ∀ {ps : List (Int × Int)} {G : Hp}, (∀ u ∈ us, ∃ d, Rp K H u d) := by
  intro vs us ds r h ps G u hu
  obtain ⟨i, hi, e⟩ := List.getElem_of_mem (h u hu)
  obtain ⟨d, _, rd⟩ := r.get (List.getElem?_eq_some_iff.mpr ⟨hi, e⟩)
  exact ⟨d, rd⟩
theorem rp_pairs_back {H : Hp} : ∀ {us : List V}, (∀ u ∈ us, Rp K H u (.tup [.int (pairOf H u).1, .int (pairOf H u).2])) → RpL K H us ((us.map (pairOf H)).map fun p => .tup [.int p.1, .int p.2])
  | [], _ => .nil
  | u :: r, h => .cons (h u List.mem_cons_self) (rp_pairs_back fun v hv => h v (List.mem_cons_of_mem _ hv))
theorem d_sorted {K0 : PySem.W.Frag} (hm : X.mg "sorted" = none) (ha : DE X T M E fa a ta ma) (hf : fa ≠ .t := by exact fun z => by cases z) (hg : Gl X "sorted" := by rfl) (hs : starEach [a] X.env = (false, eval a X.env) :: starEach [] X.env := by rfl) (hpl : (backTo pos (starEach [] X.env)).any (·.1) = false := by rfl) (hK : X.K = K0 := by rfl) :
    DE X T M E .n (.Call (.Name "sorted" p) [a] [] pos) (tCB (rSortedR K0) (tCons ta tNil)) (mU dSorted ma) := by
  subst hK
  exact ⟨pe_callB (CallR.or cr_sortedI cr_sortedPO) hg hm (by decide +kernel) (pa_cons ha.pe pa_nil hs) (he := hs) (hpl := hpl), snd_u (r := fun x H Q => rSortedR X.K [x] H Q) one_cb ha.sn (fun H S x a Q e h w => by
    cases a with
    | lst ds =>
      obtain ⟨p, vs, rfl, h1, r⟩ := h.lst hf e
      have w : Wp (match toInts ds with
        | some ns => Md.ok (Dt.lst ((sortI ns).map Dt.int))
        | none => (match toPairs ds with
          | some ps => .ok (.lst ((sortP ps).map fun p => .tup [.int p.1, .int p.2]))
          | none => .bad)) _ _ := w
      cases q : toInts ds with
      | some ns =>
        rw [q] at w
        obtain ⟨e1, e2⟩ := rp_ints r q
        subst e1
        refine .inl ⟨p, ns, rfl, .of h1, fun ms l hp hs hl => ?_⟩
        rw [sortI_of hp hs]
        exact new_lst (fl := .n) e (rp_of_ints _) w l hl
      | none =>
        rw [q] at w
        cases q2 : toPairs ds with
        | none =>
          rw [q2] at w
          exact w.elim
        | some ps =>
          rw [q2] at w
          obtain ⟨e1, e2⟩ := rp_pairs r q2
          obtain ⟨e3, e4⟩ := paired_pairs e1
          refine .inr ⟨p, vs, pairOf S, rfl, .of h1, fun x hx => ?_, fun ys l hs hst hl => ?_⟩
          · obtain ⟨t, ht1, ht2⟩ := e4 x hx
            exact ⟨t, ht1, e.tup ht2⟩
          · have hk : ys.map (pairOf S) = sortP ps := by
              refine sortP_of (by rw [← e3]; exact hst.perm.map _) ?_
              refine List.pairwise_map.mpr (hs.imp fun {u v} hh => ?_)
              unfold leP
              rw [Bool.not_eq_true']
              exact hh
            have hb := rp_pairs_back (K := kx X M) (H := S) (us := ys) fun u hu => by
              obtain ⟨t, ht1, ht2⟩ := e4 u (hst.perm.mem_iff.mp hu)
              have z : Rp (kx X M) S (.ref t) (.tup [.int (pairOf S u).1, .int (pairOf S u).2]) := .tup ht2 (.cons (.int _) (.cons (.int _) .nil))
              rw [← ht1] at z
              exact z
            rw [hk] at hb
            exact new_lst (fl := .n) e hb w l hl
    | _ => exact w.elim) (fun a c => by
      unfold dSorted
      split
      · split
        · exact fun z => by cases z
        · split <;> exact fun z => by cases z
      · exact fun z => by cases z)⟩
def dAll : Dt → Md Dt
  | .lst ds => (match toBls ds with
    | some bs => .ok (.bl (bs.all id))
    | none => .bad)
  | _ => .bad
def dAnyB : Dt → Md Dt
  | .lst ds => (match toBls ds with
    | some bs => .ok (.bl (bs.any id))
    | none => .bad)
  | _ => .bad
theorem d_all {K0 : PySem.W.Frag} (hc : X.calm = true) (hm : X.mg "all" = none) (ha : DE X T M E fa a ta ma) (hg : Gl X "all" := by rfl) (hs : starEach [a] X.env = (false, eval a X.env) :: starEach [] X.env := by rfl) (hpl : (backTo pos (starEach [] X.env)).any (·.1) = false := by rfl) (hK : X.K = K0 := by rfl) :
    DE X T M E .s (.Call (.Name "all" p) [a] [] pos) (tCB (rAll K0) (tCons ta tNil)) (mU dAll ma) := by
  subst hK
  exact ⟨pe_callB (cr_all hc) hg hm (by decide +kernel) (pa_cons ha.pe pa_nil hs) (he := hs) (hpl := hpl), snd_u (r := fun x H Q => rAll X.K [x] H Q) one_cb ha.sn.toT (fun H S x a Q e h w => by
    cases a with
    | lst ds =>
      cases h with
      | lst h1 r =>
        have w : Wp (match toBls ds with
          | some bs => Md.ok (Dt.bl (bs.all id))
          | none => .bad) _ _ := w
        cases q : toBls ds with
        | none =>
          rw [q] at w
          exact w.elim
        | some bs =>
          rw [q] at w
          rw [rp_bls r q] at h1
          exact ⟨_, bs, rfl, .of h1, w _ H S (Gr.refl e) (.bl _) trivial⟩
    | _ => exact w.elim) (fun a c => by
      unfold dAll
      split
      · split <;> exact fun z => by cases z
      · exact fun z => by cases z)⟩
/-! type(x) -/
def dType : Dt → Md Dt
  | .non => .ok (.ty "NoneType")
  | .bl _ => .ok (.ty "bool")
  | .int _ => .ok (.ty "int")
  | .str _ => .ok (.ty "str")
  | .lst _ => .ok (.ty "list")
  | .tup _ => .ok (.ty "tuple")
  | .dic => .ok (.ty "dict")
  | _ => .bad
def kTypD (x : V) (H : Hp) (Q : VK) : Prop := kTyp x H Q ∨ ∃ p kvs, x = .ref p ∧ H p = some (.dK kvs) ∧ Q (.ty "dict") H
theorem rl_typeD (pins : List (Addr × Obj)) (s : Shared) (σ : L2.St) (H : Hp) (x : V) (v : Value) (Q : VK) (I : Inv X pins σ H s) (r : RelV x v) (h : kTypD x H Q) :
    wpAny (model X.prog X.w) X.A (call (.type "type") [v]) (EP X pins σ Q) X.xe s := by
  rcases h with h | ⟨p, kvs, rfl, hp, q⟩
  · exact rl_type pins s σ H x v Q I r h
  · cases (show v = Value.ref p from r)
    obtain ⟨_, _, vs, _, o, es, ep, g1, g2, _⟩ := (show ObjOk X.prog X.w H s.heap p (.dK kvs) from I.hok p _ hp)
    exact call_type_of (Tx := "dict") ⟨o, g1, g2.1⟩ (by decide +kernel) ⟨.ty "dict", H, I, rfl, q⟩
theorem d_type (hm : X.mg "type" = none) (ha : DE X T M E fa a ta ma) (hg : Gl X "type" := by rfl) (hs : starEach [a] X.env = (false, eval a X.env) :: starEach [] X.env := by rfl) :
    DE X T M E .s (.Call (.Name "type" p) [a] [] pos) (tThenZ ta kTypD) (mU dType ma) :=
  ⟨pe_callTy (call_r1 rl_typeD) hg hm (by decide +kernel) (pa_cons ha.pe pa_nil hs) (he := hs), snd_u (r := kTypD) (fun σ H Q h => h) ha.sn.toT (fun H S x a Q e h w => by
    cases a with
    | non => cases h; exact .inl ⟨_, rfl, w _ H S (Gr.refl e) (.ty _) trivial⟩
    | bl _ => cases h; exact .inl ⟨_, rfl, w _ H S (Gr.refl e) (.ty _) trivial⟩
    | int _ => cases h; exact .inl ⟨_, rfl, w _ H S (Gr.refl e) (.ty _) trivial⟩
    | str _ => cases h; exact .inl ⟨_, rfl, w _ H S (Gr.refl e) (.ty _) trivial⟩
    | lst ds =>
      cases h with
      | lst h1 r => exact .inl ⟨"list", by simp only [zTyV, h1], w _ H S (Gr.refl e) (.ty _) trivial⟩
    | tup ds =>
      cases h with
      | tup h1 r => exact .inl ⟨"tuple", by simp only [zTyV, h1], w _ H S (Gr.refl e) (.ty _) trivial⟩
    | dic =>
      cases h with
      | dic h1 => exact .inr ⟨_, _, rfl, h1, w _ H S (Gr.refl e) (.ty _) trivial⟩
    | _ => exact w.elim) (fun a c => by unfold dType; split <;> exact fun z => by cases z)⟩
/-! isinstance(x, a built-in class) -/
def kindD : Dt → Option String
  | .non => some "NoneType"
  | .bl _ => some "bool"
  | .int _ => some "int"
  | .str _ => some "str"
  | .lst _ => some "list"
  | .tup _ => some "tuple"
  | .dic => some "dict"
  | _ => none
def kits : List (String × String × Bool) := [("NoneType", "int", false), ("NoneType", "bool", false), ("NoneType", "list", false), ("NoneType", "tuple", false), ("NoneType", "str", false), ("NoneType", "dict", false), ("bool", "int", true), ("bool", "bool", true), ("bool", "list", false), ("bool", "tuple", false), ("bool", "str", false), ("bool", "dict", false), ("int", "int", true), ("int", "bool", false), ("int", "list", false), ("int", "tuple", false), ("int", "str", false), ("int", "dict", false), ("str", "int", false), ("str", "bool", false), ("str", "list", false), ("str", "tuple", false), ("str", "str", true), ("str", "dict", false), ("list", "int", false), ("list", "bool", false), ("list", "list", true), ("list", "tuple", false), ("list", "str", false), ("list", "dict", false), ("tuple", "int", false), ("tuple", "bool", false), ("tuple", "list", false), ("tuple", "tuple", true), ("tuple", "str", false), ("tuple", "dict", false), ("dict", "int", false), ("dict", "bool", false), ("dict", "list", false), ("dict", "tuple", false), ("dict", "str", false), ("dict", "dict", true)]
def kitT (a b : String) : Option Bool := (kits.find? fun e => e.1 == a && e.2.1 == b).map fun e => e.2.2
theorem kits_ok : (kits.all fun e => kitB e.1 e.2.1 == some e.2.2) = true := by decide +kernel
theorem kitT_ok {a b : String} {r : Bool} (h : kitT a b = some r) : kitB a b = some r := by
  unfold kitT at h
  obtain ⟨e, he, h2⟩ := Option.map_eq_some_iff.mp h
  have h1 := List.all_eq_true.mp kits_ok e (List.mem_of_find?_eq_some he)
  have h3 := List.find?_some he
  rw [Bool.and_eq_true, beq_iff_eq, beq_iff_eq] at h3
  rw [← h3.1, ← h3.2, ← h2]
  exact beq_iff_eq.mp h1
def dIsi : List Dt → Md Dt
  | [d, .ty n] => (match kindD d with
    | some k => (match kitT k n with
      | some b => .ok (.bl b)
      | none => .bad)
    | none => .bad)
  | _ => .bad
theorem kindD_ty {H : Hp} {v : V} {d : Dt} {n : String} (r : Rp K H v d) (h : kindD d = some n) : TyX K H v (.type n) := by
  cases d with
  | non => cases h; cases r; exact .base .non
  | bl b => cases h; cases r; exact .base (.bl b)
  | int b => cases h; cases r; exact .base (.int b)
  | str b => cases h; cases r; exact .base (.str b)
  | lst ds =>
    cases h
    cases r with
    | lst h1 _ => exact .base (.lst h1)
  | tup ds =>
    cases h
    cases r with
    | tup h1 _ => exact .base (.tup h1)
  | dic =>
    cases h
    cases r with
    | dic h1 => exact .base (.dK h1)
  | _ => cases h
theorem d_isi {K0 : PySem.W.Frag} (hm : X.mg "isinstance" = none) (h : DA X T M E .t (a :: es) tas mas) (hg : Gl X "isinstance" := by rfl) (hs : starEach (a :: es) X.env = (false, eval a X.env) :: starEach es X.env := by rfl) (hpl : (backTo pos (starEach es X.env)).any (·.1) = false := by rfl) (hK : X.K = K0 := by rfl) :
    DE X T M E .s (.Call (.Name "isinstance" p) (a :: es) [] pos) (tCB (rIsi K0) tas) (mCB dIsi mas) := by
  subst hK
  exact ⟨pe_callB call_isi hg hm (by decide +kernel) h.pa (he := hs) (hpl := hpl), snd_cb h.sn (fun H S vs ds Q e hl w => by
    unfold dIsi at w
    split at w
    · rename_i d n
      cases hl with
      | cons h1 h2 =>
        cases h2 with
        | cons h3 h4 =>
          cases h3
          cases h4
          cases q1 : kindD d with
          | none =>
            rw [q1] at w
            exact w.elim
          | some kd =>
            simp only [q1] at w
            cases q2 : kitT kd n with
            | none =>
              rw [q2] at w
              exact w.elim
            | some b =>
              rw [q2] at w
              exact ⟨_, _, _, _, b, rfl, .ty n, kindD_ty h1 q1, kit_ty (kitT_ok q2), w _ H S (Gr.refl e) (.bl b) trivial⟩
    · exact w.elim) (fun ds c => by
      unfold dIsi
      split
      · split
        · split <;> exact fun z => by cases z
        · exact fun z => by cases z
      · exact fun z => by cases z)⟩
/-! min, max of two ints -/
def dMin : List Dt → Md Dt
  | [.int i, .int j] => .ok (.int (if j < i then j else i))
  | _ => .bad
def dMax : List Dt → Md Dt
  | [.int i, .int j] => .ok (.int (if j > i then j else i))
  | _ => .bad
def rMinR : List V → Hp → VK → Prop := fun xs H Q => ∃ i j, xs = [.int i, .int j] ∧ Q (.int (if j < i then j else i)) H
def rMaxR : List V → Hp → VK → Prop := fun xs H Q => ∃ i j, xs = [.int i, .int j] ∧ Q (.int (if j > i then j else i)) H
theorem two_ints {H : Hp} {vs : List V} {i j : Int} (r : RpL K H vs [.int i, .int j]) : vs = [.int i, .int j] := by
  cases r with
  | cons h1 h2 =>
    cases h2 with
    | cons h3 h4 =>
      cases h1
      cases h3
      cases h4
      rfl
theorem d_min (hc : X.calm = true) (hm : X.mg "min" = none) (h : DA X T M E .t (a :: es) tas mas) (hg : Gl X "min" := by rfl) (hs : starEach (a :: es) X.env = (false, eval a X.env) :: starEach es X.env := by rfl) (hpl : (backTo pos (starEach es X.env)).any (·.1) = false := by rfl) :
    DE X T M E .s (.Call (.Name "min" p) (a :: es) [] pos) (tCB rMinR tas) (mCB dMin mas) :=
  ⟨pe_callB (call_min2 hc) hg hm (by decide +kernel) h.pa (he := hs) (hpl := hpl), snd_cb h.sn (fun H S vs ds Q e hl w => by
    unfold dMin at w
    split at w
    · exact ⟨_, _, two_ints hl, w _ H S (Gr.refl e) (.int _) trivial⟩
    · exact w.elim) (fun ds c => by unfold dMin; split <;> exact fun z => by cases z)⟩
theorem d_max (hc : X.calm = true) (hm : X.mg "max" = none) (h : DA X T M E .t (a :: es) tas mas) (hg : Gl X "max" := by rfl) (hs : starEach (a :: es) X.env = (false, eval a X.env) :: starEach es X.env := by rfl) (hpl : (backTo pos (starEach es X.env)).any (·.1) = false := by rfl) :
    DE X T M E .s (.Call (.Name "max" p) (a :: es) [] pos) (tCB rMaxR tas) (mCB dMax mas) :=
  ⟨pe_callB (call_max2 hc) hg hm (by decide +kernel) h.pa (he := hs) (hpl := hpl), snd_cb h.sn (fun H S vs ds Q e hl w => by
    unfold dMax at w
    split at w
    · exact ⟨_, _, two_ints hl, w _ H S (Gr.refl e) (.int _) trivial⟩
    · exact w.elim) (fun ds c => by unfold dMax; split <;> exact fun z => by cases z)⟩
/-! xs.index(i), xs.count(i): ints -/
def dIndex (a b : Dt) : Md Dt := match a, b with
  | .lst ds, .int i => (match toInts ds with
    | some ns => if ns.idxOf i < ns.length then .ok (.int (ns.idxOf i : Nat)) else .bad
    | none => .bad)
  | _, _ => .bad
def dCount (a b : Dt) : Md Dt := match a, b with
  | .lst ds, .int i => (match toInts ds with
    | some ns => .ok (.int (ns.count i : Nat))
    | none => .bad)
  | _, _ => .bad
/-- a method of one argument, asked of what p takes -/
def SndM (K : Kx) (fa fb fl : Fl) (T : String) (r : V → List V → Hp → VK → Prop) (p : Dt → Bool) (f : Dt → Dt → Md Dt) : Prop := ∀ (H S : Hp) (x : V) (a : Dt), Ex S H → Hd K fa H S x a → p a = true → tyV K T x H ∧ ∀ (H2 S2 : Hp) (y : V) (b : Dt) (Q : VK), Gr H S H2 S2 → Hd K fb H2 S2 y b →
  Wp (f a b) (fun d => ∀ v H' S', Gr H2 S2 H' S' → Hd K fl H' S' v d → Nw fl H2 v → Q v H') (fun _ => False) → r x [y] H2 Q
def mM (p : Dt → Bool) (f : Dt → Dt → Md Dt) (ma mb : Fd → Md Dt) : Fd → Md Dt := fun Δ => (ma Δ).bind fun a => if p a = true then (mb Δ).bind fun b => f a b else .bad
theorem snd_bm {W : Wo} {TT : String} {r : V → List V → Hp → VK → Prop} {p : Dt → Bool} {f : Dt → Dt → Md Dt} (ha : SndE W fa ta ma) (hb : SndE W fb tb mb) (hr : SndM W.K fa fb fl TT r p f) (nx : ∀ a b c, f a b ≠ .exc c) :
    SndE W fl (tBM W.K TT r ta (tCons tb tNil)) (mM p f ma mb) := by
  intro G B H S σ Δ Q s w
  refine ha G B H S σ Δ _ s (w.bind.mono (fun a k x H1 S1 g1 r1 _ => ?_) fun _ z => z)
  by_cases hp : p a = true
  · rw [if_pos hp] at k
    obtain ⟨ty, h⟩ := hr H1 S1 x a g1.sh r1 hp
    refine ⟨ty, ?_⟩
    refine hb G B H1 S1 σ Δ _ (s.grow g1) (k.bind.mono (fun b k2 y H2 S2 g2 r2 _ => ?_) fun _ z => z.grow g1.hh)
    refine h H2 S2 y b Q g2 r2 ?_
    cases hf : f a b with
    | ok d =>
      rw [hf] at k2
      exact fun v H3 S3 g3 r3 n3 => k2 v H3 S3 ((g1.trans g2).trans g3) r3 (n3.back (g1.trans g2))
    | exc c => exact absurd hf (nx a b c)
    | bad =>
      rw [hf] at k2
      exact k2
  · rw [if_neg hp] at k
    exact k.elim
def isInts : Dt → Bool
  | .lst ds => (toInts ds).isSome
  | _ => false
theorem idx_first {ns : List Int} {i : Int} (h : ns.idxOf i < ns.length) : ns[ns.idxOf i]? = some i ∧ ∀ m, m < ns.idxOf i → ns[m]? ≠ some i := by
  refine ⟨?_, fun m hm z => ?_⟩
  · rw [List.getElem?_eq_getElem h]
    exact congrArg some (List.getElem_idxOf h)
  · obtain ⟨hl, e⟩ := List.getElem?_eq_some_iff.mp z
    have h2 := List.not_of_lt_findIdx (p := fun x => x == i) (xs := ns) (i := m) hm
    simp [e] at h2
theorem sm_index : SndM K .t .t .s "list" (rIndex K) isInts dIndex := by
  intro H S x a e h hp
  cases a with
  | lst ds =>
    cases q : toInts ds with
    | none => simp [isInts, q] at hp
    | some ns =>
      cases h with
      | lst h1 r =>
        rw [(rp_ints r q).1] at h1
        refine ⟨.inl ⟨rfl, _, .of h1⟩, fun H2 S2 y b Q g hy w => ?_⟩
        cases b with
        | int i =>
          cases Rp.isInt hy
          simp only [dIndex, q] at w
          by_cases hi : ns.idxOf i < ns.length
          · rw [if_pos hi] at w
            obtain ⟨f1, f2⟩ := idx_first hi
            refine ⟨_, _, _, ns.idxOf i, .int i, rfl, rfl, .of (g.hh.lst h1), rfl, ?_, ?_, ?_, fun m z hm hz => ?_, w _ H2 S2 (Gr.refl g.sh) (.int _) trivial⟩
            · rw [List.all_map]
              exact List.all_eq_true.mpr fun _ _ => rfl
            · rw [List.getElem?_map, f1]
              rfl
            · simp [eqV]
            · rw [List.getElem?_map] at hz
              cases q3 : ns[m]? with
              | none =>
                rw [q3] at hz
                cases hz
              | some j =>
                rw [q3] at hz
                cases hz
                have : j ≠ i := fun z => f2 m hm (by rw [q3, z])
                simp [eqV, this]
          · rw [if_neg hi] at w
            exact w.elim
        | _ => exact w.elim
  | _ => cases hp
theorem sm_count : SndM K .t .t .s "list" (rCntI K) isInts dCount := by
  intro H S x a e h hp
  cases a with
  | lst ds =>
    cases q : toInts ds with
    | none => simp [isInts, q] at hp
    | some ns =>
      cases h with
      | lst h1 r =>
        rw [(rp_ints r q).1] at h1
        refine ⟨.inl ⟨rfl, _, .of h1⟩, fun H2 S2 y b Q g hy w => ?_⟩
        cases b with
        | int i =>
          cases Rp.isInt hy
          simp only [dCount, q] at w
          exact ⟨_, ns, i, rfl, rfl, .of (g.hh.lst h1), w _ H2 S2 (Gr.refl g.sh) (.int _) trivial⟩
        | _ => exact w.elim
  | _ => cases hp
theorem dIndex_nx (a b : Dt) (c : Str) : dIndex a b ≠ .exc c := by
  unfold dIndex
  split
  · split
    · split <;> exact fun z => by cases z
    · exact fun z => by cases z
  · exact fun z => by cases z
theorem dCount_nx (a b : Dt) (c : Str) : dCount a b ≠ .exc c := by
  unfold dCount
  split
  · split <;> exact fun z => by cases z
  · exact fun z => by cases z
variable {apos : Pos}
theorem d_index {K0 : PySem.W.Frag} (ha : DE X T M E fa a ta ma) (hb : DE X T M E fb b tb mb) (hbase : attributeBase a "index" X.env (eval a X.env) = eval a X.env := by rfl)
    (hfew : ((backTo pos (starEach [b] X.env)).all (fun x => !x.1) && (backToKw pos (keywordEach [] X.env)).all (fun x => x.1.isSome) && decide (([b] : List Expr).length + ([] : List Keyword).length + (if ([] : List Keyword).isEmpty then 0 else 1) < 30)) = true := by rfl)
    (hline : (apos.endLine == pos.line) = true := by rfl) (hs : starEach [b] X.env = (false, eval b X.env) :: starEach [] X.env := by rfl) (hplain : (backTo pos (starEach [] X.env)).any (·.1) = false := by rfl) (hK : X.K = K0 := by rfl) :
    DE X T M E .s (.Call (.Attribute a "index" apos) [b] [] pos) (tBM K0 "list" (rIndex K0) ta (tCons tb tNil)) (mM isInts dIndex ma mb) := by
  subst hK
  exact ⟨pe_bm PySem.F.plainAttrs_list PySem.F.slot_list_index PySem.F.type_list_index mt_index ha.pe (pa_cons hb.pe pa_nil hs) hbase hfew hline hs hplain, snd_bm ha.sn.toT hb.sn.toT sm_index dIndex_nx⟩
theorem d_count {K0 : PySem.W.Frag} (ha : DE X T M E fa a ta ma) (hb : DE X T M E fb b tb mb) (hbase : attributeBase a "count" X.env (eval a X.env) = eval a X.env := by rfl)
    (hfew : ((backTo pos (starEach [b] X.env)).all (fun x => !x.1) && (backToKw pos (keywordEach [] X.env)).all (fun x => x.1.isSome) && decide (([b] : List Expr).length + ([] : List Keyword).length + (if ([] : List Keyword).isEmpty then 0 else 1) < 30)) = true := by rfl)
    (hline : (apos.endLine == pos.line) = true := by rfl) (hs : starEach [b] X.env = (false, eval b X.env) :: starEach [] X.env := by rfl) (hplain : (backTo pos (starEach [] X.env)).any (·.1) = false := by rfl) (hK : X.K = K0 := by rfl) :
    DE X T M E .s (.Call (.Attribute a "count" apos) [b] [] pos) (tBM K0 "list" (rCntI K0) ta (tCons tb tNil)) (mM isInts dCount ma mb) := by
  subst hK
  exact ⟨pe_bm PySem.F.plainAttrs_list PySem.F.slot_list_count PySem.F.type_list_count mt_lcount ha.pe (pa_cons hb.pe pa_nil hs) hbase hfew hline hs hplain, snd_bm ha.sn.toT hb.sn.toT sm_count dCount_nx⟩
end
end Mr
namespace Mr
open PySem L2

/-! ### data without things that may be changed -/
mutual
def nl : Dt → Bool
  | .loc _ => false
  | .lst xs => nls xs
  | .tup xs => nls xs
  | .lsk xs => nls xs
  | .tpk xs => nls xs
  | .dct _ xs => nls xs
  | .ins _ _ xs => nls xs
  | .non => true
  | .bl _ => true
  | .int _ => true
  | .str _ => true
  | .ty _ => true
  | .dic => true
  | .adr _ => true
def nls : List Dt → Bool
  | [] => true
  | d :: r => nl d && nls r
end
section
variable {K K' : Kx} {H : Hp}
mutual
theorem Rp.ext (hf : K.f = K'.f) (hr : ∀ (n : Nat) a, K.r[n]? = some a → K'.r[n]? = some a) : ∀ {v : V} {d : Dt}, Rp K H v d → Rp K' H v d
  | _, _, .non => .non
  | _, _, .bl b => .bl b
  | _, _, .int i => .int i
  | _, _, .str x => .str x
  | _, _, .ty n => .ty n
  | _, _, .lst h r => .lst h (RpL.ext hf hr r)
  | _, _, .tup h r => .tup h (RpL.ext hf hr r)
  | _, _, .lsk h r => .lsk (hf ▸ h) (RpL.ext hf hr r)
  | _, _, .tpk h r => .tpk (hf ▸ h) (RpL.ext hf hr r)
  | _, _, .dic h => .dic h
  | _, _, .dct h r => .dct h (RpL.ext hf hr r)
  | _, _, .adr a => .adr a
  | _, _, .loc h => .loc (hr _ _ h)
  | _, _, .ins h r => .ins h (RpL.ext hf hr r)
theorem RpL.ext (hf : K.f = K'.f) (hr : ∀ (n : Nat) a, K.r[n]? = some a → K'.r[n]? = some a) : ∀ {vs : List V} {ds : List Dt}, RpL K H vs ds → RpL K' H vs ds
  | _, _, .nil => .nil
  | _, _, .cons h r => .cons (Rp.ext hf hr h) (RpL.ext hf hr r)
end
mutual
theorem Rp.nl (hf : K.f = K'.f) : ∀ {v : V} {d : Dt}, Rp K H v d → Mr.nl d = true → Rp K' H v d
  | _, _, .non, _ => .non
  | _, _, .bl b, _ => .bl b
  | _, _, .int i, _ => .int i
  | _, _, .str x, _ => .str x
  | _, _, .ty n, _ => .ty n
  | _, _, .lst h r, q => .lst h (RpL.nl hf r (by unfold Mr.nl at q; exact q))
  | _, _, .tup h r, q => .tup h (RpL.nl hf r (by unfold Mr.nl at q; exact q))
  | _, _, .lsk h r, q => .lsk (hf ▸ h) (RpL.nl hf r (by unfold Mr.nl at q; exact q))
  | _, _, .tpk h r, q => .tpk (hf ▸ h) (RpL.nl hf r (by unfold Mr.nl at q; exact q))
  | _, _, .dic h, _ => .dic h
  | _, _, .dct h r, q => .dct h (RpL.nl hf r (by unfold Mr.nl at q; exact q))
  | _, _, .adr a, _ => .adr a
  | _, _, .loc h, q => by unfold Mr.nl at q; cases q
  | _, _, .ins h r, q => .ins h (RpL.nl hf r (by unfold Mr.nl at q; exact q))
theorem RpL.nl (hf : K.f = K'.f) : ∀ {vs : List V} {ds : List Dt}, RpL K H vs ds → nls ds = true → RpL K' H vs ds
  | _, _, .nil, _ => .nil
  | _, _, .cons h r, q => by
    unfold nls at q
    rw [Bool.and_eq_true] at q
    exact .cons (Rp.nl hf h q.1) (RpL.nl hf r q.2)
end
end
/-- the text's facts where nothing may be changed -/
abbrev k0 (K : PySem.W.Frag) : Kx := ⟨K, [], []⟩
abbrev M0 : Mm := ⟨[], []⟩
theorem sto0 {K : PySem.W.Frag} {H S : Hp} : Sto (k0 K) H S := ⟨rfl, .nil, fun n a c h _ => by cases h⟩
theorem Rp.up {K : Kx} {H : Hp} {v : V} {d : Dt} (h : Rp (k0 K.f) H v d) : Rp K H v d := Rp.ext (K := k0 K.f) (K' := K) rfl (fun n a h => by cases h) h
theorem RpL.up {K : Kx} {H : Hp} {v : List V} {d : List Dt} (h : RpL (k0 K.f) H v d) : RpL K H v d := RpL.ext (K := k0 K.f) (K' := K) rfl (fun n a h => by cases h) h
/-! ### defs -/
/-- a def's promise: from data that is shared in B to what its mirror says -/
def spD (K : PySem.W.Frag) (T : List Addr) (mg : Str → Option Value) (nw : Bool) (n : Nat) (mir : List Dt → Md Dt) : Sp := fun vs H Q E => vs.length = n ∧ (∀ P ∈ T, GxR.TabG H P) ∧ ∃ ds B, Ex B H ∧ RpL (k0 K) B vs ds ∧
  Wp (mir ds) (fun d => ∀ v H', Rt (k0 K) nw H B H' v d → Q v H') (XW mg E H)
/-- the def that the module's name x holds keeps that promise -/
structure DefOk (P : Program) (w : World) (K : PySem.W.Frag) (T : List Addr) (mg : Str → Option Value) (base : Heap) (k : Nat) (x : Str) (ps : List Str) (nw : Bool) (mir : List Dt → Md Dt) : Prop where
  ex : ∃ f fd, mg x = some (.ref f) ∧ PySem.W.keepIn K (.ref f) = true ∧ Binds K fd ps [] ∧ FnOk P w K mg base (L2N.CX P w) k f fd ps (spD K T mg nw ps.length mir)
def startD (n : Nat) (ds : List Dt) : Fd := ds.map Sd.sh ++ List.replicate (n - ds.length) .un
def mDef (nw : Bool) (n : Nat) (ms : Fd → Md Out) : List Dt → Md Dt := fun ds => (ms (startD n ds)).bind fun o => match o with
  | .rt d => .ok d
  | .nx _ => (match nw with | true => .bad | false => .ok .non)
  | _ => .bad
section
variable {K : PySem.W.Frag} {T : List Addr} {mg : Str → Option Value}
theorem slt_start {H B : Hp} {N : List Str} {vs : List V} {ds : List Dt} (tb : ∀ P ∈ T, GxR.TabG H P) (e : Ex B H) (r : RpL (k0 K) B vs ds) (hn : vs.length ≤ N.length) : Slt (k0 K) T H B H B (L2.start N vs) (startD N.length ds) := by
  have hl := r.length
  have at1 : ∀ {i : Nat} {x : Sd}, (startD N.length ds)[i]? = some x → (∃ d, ds[i]? = some d ∧ x = .sh d) ∨ x = .un := fun {i x} h => by
    unfold startD at h
    by_cases hi : i < ds.length
    · rw [List.getElem?_append_left (by rw [List.length_map]; exact hi), List.getElem?_map] at h
      cases q : ds[i]? with
      | none =>
        rw [q] at h
        cases h
      | some d =>
        rw [q] at h
        cases h
        exact .inl ⟨d, rfl, rfl⟩
    · rw [List.getElem?_append_right (by rw [List.length_map]; omega), List.getElem?_replicate] at h
      split at h <;> cases h
      exact .inr rfl
  refine ⟨?_, Ex.refl H, e, Ex.refl B, e, fun _ _ z => z, tb, fun i d h => ?_, fun i es h => ?_, fun i j es fs a h _ _ _ => ?_, sto0, fun i es a h _ => by simp⟩
  · unfold L2.start startD
    rw [List.length_append, List.length_append, List.length_map, List.length_map, List.length_replicate, List.length_replicate, hl]
  · rcases at1 h with ⟨d', h1, h2⟩ | h1
    · cases h2
      obtain ⟨v, hv, rv⟩ := r.at h1
      refine ⟨v, ?_, rv⟩
      have hi : i < vs.length := (List.getElem?_eq_some_iff.mp hv).1
      unfold L2.start
      rw [List.getElem?_append_left (by rw [List.length_map]; exact hi), List.getElem?_map, hv]
      rfl
    · cases h1
  · rcases at1 h with ⟨d', _, h2⟩ | h1
    · cases h2
    · cases h1
  · rcases at1 h with ⟨d', _, h2⟩ | h1
    · cases h2
    · cases h1
variable {P : Program} {w : World} {base : Heap}
/-- what stands around a def's body -/
theorem cok_def {N : List Str} {qual : Str} {scope : Scope} {f : Addr} {cd : Value} {A : Around} {outer : List Env} {s : Shared} {H : Hp} {E : XK} {k : Nat} (hr : Room k (A.deeper (PyProof.Rows.envOfC qual scope s.heap.objs.size f cd))) (nd : N.Nodup) :
    Cok (cxOf (L2N.CX P w) P w K mg base N qual scope f cd A outer s H E) k E :=
  ⟨rfl, hr, L2N.passes_call (L2N.takes_of rfl rfl rfl rfl) fun _ _ _ _ h => h, passes_of rfl, nd, L2N.takes_of rfl rfl rfl rfl⟩
theorem fn_okD {x : Str} {st : Stmt} {f : Addr} {fd : FuncData} {N ps : List Str} {k n : Nat} {nw : Bool} {ms : Fd → Md Out} (hn : N.length = n) (F : Fun K x x st f fd) (S : FnScope N ps (defScope st))
    (body : ∀ (cdv : Value) (A : Around) (outer : List Env) (s : Shared) (H : Hp) (E : XK), Cok (cxOf (L2N.CX P w) P w K mg base N x (defScope st) f cdv A outer s H E) k E →
      ∃ t, DB (cxOf (L2N.CX P w) P w K mg base N x (defScope st) f cdv A outer s H E) T M0 E nw (defBody st) t ms) :
    FnOk P w K mg base (L2N.CX P w) (k + 1) f fd ps (spD K T mg nw ps.length (mDef nw n ms)) := by
  subst hn
  obtain ⟨oc, od, kV, doc, pm, an, cdv, ct, osl, rfl, lk, hcd⟩ := F.ex
  refine fn_of lk hcd S (fun vs H Q E h => h.1) fun A outer s H vs Q E hr h => ?_
  obtain ⟨hl, tb, ds, B, e, r, wp⟩ := h
  obtain ⟨t, ht, sn⟩ := body cdv A outer s H E (cok_def hr S.nd)
  have hpl : ps.length ≤ N.length := by
    have := congrArg List.length S.pre
    rw [List.length_take] at this
    omega
  refine ⟨t, ht, sn H B H B _ _ _ (slt_start tb e r (by omega)) (wp.bind.mono (fun o q => ?_) fun _ z => z)⟩
  cases o with
  | rt d => exact fun v H' h => q v H' h
  | nx Δ =>
    cases nw with
    | true => exact q.elim
    | false => exact fun H' S' σ' s' => q .non H' ⟨S', s'.gh, s'.bs, s'.sh, s'.fr, .non⟩
  | bk Δ => exact q.elim
  | ct Δ => exact q.elim
theorem def_ok {x : Str} {st : Stmt} {f : Addr} {fd : FuncData} {N ps : List Str} {k n : Nat} {nw : Bool} {ms : Fd → Md Out} (hn : N.length = n) (F : Fun K x x st f fd) (S : FnScope N ps (defScope st)) (hm : mg x = some (.ref f)) (hb : Binds K fd ps [])
    (body : ∀ (cdv : Value) (A : Around) (outer : List Env) (s : Shared) (H : Hp) (E : XK), Cok (cxOf (L2N.CX P w) P w K mg base N x (defScope st) f cdv A outer s H E) k E →
      ∃ t, DB (cxOf (L2N.CX P w) P w K mg base N x (defScope st) f cdv A outer s H E) T M0 E nw (defBody st) t ms) :
    DefOk P w K T mg base (k + 1) x ps nw (mDef nw n ms) := ⟨f, fd, hm, F.kp, hb, fn_okD hn F S body⟩
end

/-! ### calls -/
def mCall (n : Nat) (mir : List Dt → Md Dt) (ma : Fd → Md (List Dt)) : Fd → Md Dt := fun Δ => (ma Δ).bind fun ds => if ds.length = n then mir ds else .bad
/-- among things that may be changed: the arguments hold none -/
def mCallN (n : Nat) (mir : List Dt → Md Dt) (ma : Fd → Md (List Dt)) : Fd → Md Dt := fun Δ => (ma Δ).bind fun ds => if nls ds = true then (if ds.length = n then mir ds else .bad) else .bad
def nwF : Bool → Fl
  | true => .n
  | false => .s
theorem snd_call0 {W : Wo} {nw : Bool} {n : Nat} {mir : List Dt → Md Dt} {ta : TA} {ma mc : Fd → Md (List Dt)} (h : SndA W .s ta ma)
    (hc : ∀ Δ (p : List Dt → Prop) ex, Wp (mc Δ) p ex → Wp (ma Δ) (fun ds => (∀ H vs, RpL W.K H vs ds → RpL (k0 W.K.f) H vs ds) ∧ p ds) ex) : SndE W (nwF nw) (tCall (spD W.K.f W.T W.mg nw n mir) [] W.E ta) (mCall n mir mc) := by
  intro G B H S σ Δ Q s w
  refine h G B H S σ Δ _ s ((hc Δ _ _ w.bind).mono (fun ds k vs H1 S1 g r => ?_) fun _ z => z)
  obtain ⟨hk, k⟩ := k
  by_cases hn : ds.length = n
  · rw [if_pos hn] at k
    have r' : RpL W.K S1 vs ds := r
    show spD W.K.f W.T W.mg nw n mir (vs ++ []) H1 Q W.E
    rw [List.append_nil]
    refine ⟨by rw [r'.length]; exact hn, (s.grow g).tb, ds, S1, g.sh, hk _ _ r', k.mono (fun d q v H2 rt => ?_) fun _ z => z.grow g.hh⟩
    obtain ⟨S2, h1, h2, h3, h4, h5⟩ := rt
    have g2 : Gr H1 S1 H2 S2 := ⟨h1, h2, h3, h4⟩
    cases nw with
    | true =>
      obtain ⟨⟨p, us, es, e1, e2, e3, e4, r5⟩, h6⟩ := h5
      exact q v H2 S2 (g.trans g2) ⟨p, us, es, e1, e2, e3, e4, r5.up⟩ (h6.back g)
    | false => exact q v H2 S2 (g.trans g2) (Rp.up h5) trivial
  · rw [if_neg hn] at k
    exact k.elim
theorem snd_call {W : Wo} {nw : Bool} {n : Nat} {mir : List Dt → Md Dt} {ta : TA} {ma : Fd → Md (List Dt)} (hW : W.K = k0 W.K.f) (h : SndA W .s ta ma) : SndE W (nwF nw) (tCall (spD W.K.f W.T W.mg nw n mir) [] W.E ta) (mCall n mir ma) :=
  snd_call0 h fun Δ p ex w => w.mono (fun ds k => ⟨fun H vs r => by rw [← hW]; exact r, k⟩) fun _ z => z
def mNl (ma : Fd → Md (List Dt)) : Fd → Md (List Dt) := fun Δ => (ma Δ).bind fun ds => if nls ds = true then .ok ds else .bad
theorem mNl_w {ma : Fd → Md (List Dt)} {Δ : Fd} {p : List Dt → Prop} {ex : Str → Prop} (w : Wp (mNl ma Δ) p ex) : Wp (ma Δ) (fun ds => nls ds = true ∧ p ds) ex := by
  refine Wp.mono (Wp.bind w) (fun ds k => ?_) fun _ z => z
  by_cases h : nls ds = true
  · rw [if_pos h] at k
    exact ⟨h, k⟩
  · rw [if_neg h] at k
    exact k.elim
theorem snd_callN {W : Wo} {nw : Bool} {n : Nat} {mir : List Dt → Md Dt} {ta : TA} {ma : Fd → Md (List Dt)} (h : SndA W .s ta ma) : SndE W (nwF nw) (tCall (spD W.K.f W.T W.mg nw n mir) [] W.E ta) (mCall n mir (mNl ma)) :=
  snd_call0 h fun Δ p ex w => (mNl_w w).mono (fun ds k => ⟨fun H vs r => RpL.nl (K := W.K) (K' := k0 W.K.f) rfl r k.1, k.2⟩) fun _ z => z
def flatD : Dt → Bool
  | .non => true
  | .bl _ => true
  | .int _ => true
  | .str _ => true
  | .ty _ => true
  | _ => false
theorem Rp.flat {K K' : Kx} {H H' : Hp} {v : V} {d : Dt} (h : Rp K H v d) (hf : flatD d = true) : Rp K' H' v d := by
  cases d with
  | non => cases h; exact .non
  | bl b => cases h; exact .bl b
  | int b => cases h; exact .int b
  | str b => cases h; exact .str b
  | ty b => cases h; exact .ty b
  | _ => cases hf
theorem RpL.flat {K K' : Kx} {H H' : Hp} : ∀ {vs : List V} {ds : List Dt}, RpL K H vs ds → ds.all flatD = true → RpL K' H' vs ds
  | _, _, .nil, _ => .nil
  | _, _, .cons h r, q => by
    rw [List.all_cons, Bool.and_eq_true] at q
    exact .cons (h.flat q.1) (r.flat q.2)
/-- a call whose arguments are only read, and that hands back a number, a truth, a text -/
def mCallF (n : Nat) (mir : List Dt → Md Dt) (ma : Fd → Md (List Dt)) : Fd → Md Dt := fun Δ => (ma Δ).bind fun ds => if ds.length = n then (mir ds).bind fun d => if flatD d = true then .ok d else .bad else .bad
/-- .., a new list of such -/
def mCallL (n : Nat) (mir : List Dt → Md Dt) (ma : Fd → Md (List Dt)) : Fd → Md Dt := fun Δ => (ma Δ).bind fun ds => if ds.length = n then (mir ds).bind fun d => match d with
  | .lst es => if es.all flatD = true then .ok (.lst es) else .bad
  | _ => .bad
  else .bad
theorem snd_callF0 {W : Wo} {n : Nat} {mir : List Dt → Md Dt} {ta : TA} {ma mc : Fd → Md (List Dt)} (h : SndA W .t ta ma)
    (hc : ∀ Δ (p : List Dt → Prop) ex, Wp (mc Δ) p ex → Wp (ma Δ) (fun ds => (∀ H vs, RpL W.K H vs ds → RpL (k0 W.K.f) H vs ds) ∧ p ds) ex) : SndE W .s (tCall (spD W.K.f W.T W.mg false n mir) [] W.E ta) (mCallF n mir mc) := by
  intro G B H S σ Δ Q s w
  refine h G B H S σ Δ _ s ((hc Δ _ _ w.bind).mono (fun ds k vs H1 S1 g r => ?_) fun _ z => z)
  obtain ⟨hk, k⟩ := k
  by_cases hn : ds.length = n
  · rw [if_pos hn] at k
    have r' : RpL W.K H1 vs ds := r
    show spD W.K.f W.T W.mg false n mir (vs ++ []) H1 Q W.E
    rw [List.append_nil]
    refine ⟨by rw [r'.length]; exact hn, (s.grow g).tb, ds, H1, Ex.refl H1, hk _ _ r', k.bind.mono (fun d q v H2 rt => ?_) fun _ z => z.grow g.hh⟩
    obtain ⟨S2, h1, h2, h3, h4, h5⟩ := rt
    by_cases hf : flatD d = true
    · rw [if_pos hf] at q
      exact q v H2 S1 (g.trans ⟨h1, Ex.refl S1, g.sh.trans h1, fun _ _ z => z⟩) (Rp.flat h5 hf) trivial
    · rw [if_neg hf] at q
      exact q.elim
  · rw [if_neg hn] at k
    exact k.elim
theorem snd_callL0 {W : Wo} {n : Nat} {mir : List Dt → Md Dt} {ta : TA} {ma mc : Fd → Md (List Dt)} (h : SndA W .t ta ma)
    (hc : ∀ Δ (p : List Dt → Prop) ex, Wp (mc Δ) p ex → Wp (ma Δ) (fun ds => (∀ H vs, RpL W.K H vs ds → RpL (k0 W.K.f) H vs ds) ∧ p ds) ex) : SndE W .n (tCall (spD W.K.f W.T W.mg true n mir) [] W.E ta) (mCallL n mir mc) := by
  intro G B H S σ Δ Q s w
  refine h G B H S σ Δ _ s ((hc Δ _ _ w.bind).mono (fun ds k vs H1 S1 g r => ?_) fun _ z => z)
  obtain ⟨hk, k⟩ := k
  by_cases hn : ds.length = n
  · rw [if_pos hn] at k
    have r' : RpL W.K H1 vs ds := r
    show spD W.K.f W.T W.mg true n mir (vs ++ []) H1 Q W.E
    rw [List.append_nil]
    refine ⟨by rw [r'.length]; exact hn, (s.grow g).tb, ds, H1, Ex.refl H1, hk _ _ r', k.bind.mono (fun d q v H2 rt => ?_) fun _ z => z.grow g.hh⟩
    obtain ⟨S2, h1, h2, h3, h4, h5⟩ := rt
    revert q
    cases d with
    | lst es =>
      intro q
      have q : Wp (if es.all flatD = true then Md.ok (Dt.lst es) else .bad) _ _ := q
      by_cases hf : es.all flatD = true
      · rw [if_pos hf] at q
        obtain ⟨⟨p, us, es', e1, e2, e3, e4, r5⟩, h6⟩ := h5
        cases e2
        obtain ⟨p', e5, e6⟩ := h6
        rw [e1] at e5
        cases e5
        exact q v H2 S1 (g.trans ⟨h1, Ex.refl S1, g.sh.trans h1, fun _ _ z => z⟩) ⟨p, us, es, e1, rfl, e3, g.sh.free e6, r5.flat hf⟩ ⟨p, e1, g.hh.free e6⟩
      · rw [if_neg hf] at q
        exact q.elim
    | _ => exact fun q => q.elim
  · rw [if_neg hn] at k
    exact k.elim
theorem snd_callF {W : Wo} {n : Nat} {mir : List Dt → Md Dt} {ta : TA} {ma : Fd → Md (List Dt)} (hW : W.K = k0 W.K.f) (h : SndA W .t ta ma) : SndE W .s (tCall (spD W.K.f W.T W.mg false n mir) [] W.E ta) (mCallF n mir ma) :=
  snd_callF0 h fun Δ p ex w => w.mono (fun ds k => ⟨fun H vs r => by rw [← hW]; exact r, k⟩) fun _ z => z
theorem snd_callFN {W : Wo} {n : Nat} {mir : List Dt → Md Dt} {ta : TA} {ma : Fd → Md (List Dt)} (h : SndA W .t ta ma) : SndE W .s (tCall (spD W.K.f W.T W.mg false n mir) [] W.E ta) (mCallF n mir (mNl ma)) :=
  snd_callF0 h fun Δ p ex w => (mNl_w w).mono (fun ds k => ⟨fun H vs r => RpL.nl (K := W.K) (K' := k0 W.K.f) rfl r k.1, k.2⟩) fun _ z => z
theorem snd_callL {W : Wo} {n : Nat} {mir : List Dt → Md Dt} {ta : TA} {ma : Fd → Md (List Dt)} (hW : W.K = k0 W.K.f) (h : SndA W .t ta ma) : SndE W .n (tCall (spD W.K.f W.T W.mg true n mir) [] W.E ta) (mCallL n mir ma) :=
  snd_callL0 h fun Δ p ex w => w.mono (fun ds k => ⟨fun H vs r => by rw [← hW]; exact r, k⟩) fun _ z => z
theorem snd_callLN {W : Wo} {n : Nat} {mir : List Dt → Md Dt} {ta : TA} {ma : Fd → Md (List Dt)} (h : SndA W .t ta ma) : SndE W .n (tCall (spD W.K.f W.T W.mg true n mir) [] W.E ta) (mCallL n mir (mNl ma)) :=
  snd_callL0 h fun Δ p ex w => (mNl_w w).mono (fun ds k => ⟨fun H vs r => RpL.nl (K := W.K) (K' := k0 W.K.f) rfl r k.1, k.2⟩) fun _ z => z
section
variable {X : Cx} {T : List Addr} {M : Mm} {E : XK} {fl fa fb fc : Fl} {nw : Bool} {a b c e tg iter elt : Expr} {es : List Expr} {ta tb tc te : TE} {ma mb mc me : Fd → Md Dt} {pos p p2 spos : Pos} {k j : Nat} {tas : TA} {mas : Fd → Md (List Dt)} {K : Kx} {x : Str} {ps : List Str} {mir : List Dt → Md Dt}
  {wi : TI} {mi : Fd → Md (List Dt)} {g : TG} {gs : Dt → Fd → Md Fd} {ws : List Nat} {tt : TT} {mt : Fd → Md Bool}
theorem d_call {K0 : PySem.W.Frag} {mg0 : Str → Option Value} (c : Cok X k E) (F : DefOk X.prog X.w K0 T mg0 X.base j x ps nw mir) (h : DA X T M0 E .s (e :: es) tas mas) (hj : j ≤ k := by decide) (hg : Gl X x := by rfl) (hdb : (x == ("__debug__" : Str)) = false := by decide) (he : starEach (e :: es) X.env = (false, eval e X.env) :: starEach es X.env := by rfl) (hpl : (backTo pos (starEach es X.env)).any (·.1) = false := by rfl) (hK : X.K = K0 := by rfl) (hmg : X.mg = mg0 := by rfl) :
    DE X T M0 E (nwF nw) (.Call (.Name x p) (e :: es) [] pos) (tCall (spD K0 T mg0 nw ps.length mir) [] E tas) (mCall ps.length mir mas) := by
  subst hK
  subst hmg
  obtain ⟨f, fd, hm, hk, hb, ok⟩ := F.ex
  exact ⟨pe_call ok (c.room.mono hj) hg hm hk hb .nil c.pas h.pa hdb he hpl, snd_call (W := ⟨kx X M0, T, X.mg, E⟩) rfl h.sn⟩
theorem d_callN {K0 : PySem.W.Frag} {mg0 : Str → Option Value} (c : Cok X k E) (F : DefOk X.prog X.w K0 T mg0 X.base j x ps nw mir) (h : DA X T M E .s (e :: es) tas mas) (hj : j ≤ k := by decide) (hg : Gl X x := by rfl) (hdb : (x == ("__debug__" : Str)) = false := by decide) (he : starEach (e :: es) X.env = (false, eval e X.env) :: starEach es X.env := by rfl) (hpl : (backTo pos (starEach es X.env)).any (·.1) = false := by rfl) (hK : X.K = K0 := by rfl) (hmg : X.mg = mg0 := by rfl) :
    DE X T M E (nwF nw) (.Call (.Name x p) (e :: es) [] pos) (tCall (spD K0 T mg0 nw ps.length mir) [] E tas) (mCall ps.length mir (mNl mas)) := by
  subst hK
  subst hmg
  obtain ⟨f, fd, hm, hk, hb, ok⟩ := F.ex
  exact ⟨pe_call ok (c.room.mono hj) hg hm hk hb .nil c.pas h.pa hdb he hpl, snd_callN (W := ⟨kx X M, T, X.mg, E⟩) h.sn⟩
theorem d_callF {K0 : PySem.W.Frag} {mg0 : Str → Option Value} (c : Cok X k E) (F : DefOk X.prog X.w K0 T mg0 X.base j x ps false mir) (h : DA X T M0 E .t (e :: es) tas mas) (hj : j ≤ k := by decide) (hg : Gl X x := by rfl) (hdb : (x == ("__debug__" : Str)) = false := by decide) (he : starEach (e :: es) X.env = (false, eval e X.env) :: starEach es X.env := by rfl) (hpl : (backTo pos (starEach es X.env)).any (·.1) = false := by rfl) (hK : X.K = K0 := by rfl) (hmg : X.mg = mg0 := by rfl) :
    DE X T M0 E .s (.Call (.Name x p) (e :: es) [] pos) (tCall (spD K0 T mg0 false ps.length mir) [] E tas) (mCallF ps.length mir mas) := by
  subst hK
  subst hmg
  obtain ⟨f, fd, hm, hk, hb, ok⟩ := F.ex
  exact ⟨pe_call ok (c.room.mono hj) hg hm hk hb .nil c.pas h.pa hdb he hpl, snd_callF (W := ⟨kx X M0, T, X.mg, E⟩) rfl h.sn⟩
theorem d_callFN {K0 : PySem.W.Frag} {mg0 : Str → Option Value} (c : Cok X k E) (F : DefOk X.prog X.w K0 T mg0 X.base j x ps false mir) (h : DA X T M E .t (e :: es) tas mas) (hj : j ≤ k := by decide) (hg : Gl X x := by rfl) (hdb : (x == ("__debug__" : Str)) = false := by decide) (he : starEach (e :: es) X.env = (false, eval e X.env) :: starEach es X.env := by rfl) (hpl : (backTo pos (starEach es X.env)).any (·.1) = false := by rfl) (hK : X.K = K0 := by rfl) (hmg : X.mg = mg0 := by rfl) :
    DE X T M E .s (.Call (.Name x p) (e :: es) [] pos) (tCall (spD K0 T mg0 false ps.length mir) [] E tas) (mCallF ps.length mir (mNl mas)) := by
  subst hK
  subst hmg
  obtain ⟨f, fd, hm, hk, hb, ok⟩ := F.ex
  exact ⟨pe_call ok (c.room.mono hj) hg hm hk hb .nil c.pas h.pa hdb he hpl, snd_callFN (W := ⟨kx X M, T, X.mg, E⟩) h.sn⟩
theorem d_callL {K0 : PySem.W.Frag} {mg0 : Str → Option Value} (c : Cok X k E) (F : DefOk X.prog X.w K0 T mg0 X.base j x ps true mir) (h : DA X T M0 E .t (e :: es) tas mas) (hj : j ≤ k := by decide) (hg : Gl X x := by rfl) (hdb : (x == ("__debug__" : Str)) = false := by decide) (he : starEach (e :: es) X.env = (false, eval e X.env) :: starEach es X.env := by rfl) (hpl : (backTo pos (starEach es X.env)).any (·.1) = false := by rfl) (hK : X.K = K0 := by rfl) (hmg : X.mg = mg0 := by rfl) :
    DE X T M0 E .n (.Call (.Name x p) (e :: es) [] pos) (tCall (spD K0 T mg0 true ps.length mir) [] E tas) (mCallL ps.length mir mas) := by
  subst hK
  subst hmg
  obtain ⟨f, fd, hm, hk, hb, ok⟩ := F.ex
  exact ⟨pe_call ok (c.room.mono hj) hg hm hk hb .nil c.pas h.pa hdb he hpl, snd_callL (W := ⟨kx X M0, T, X.mg, E⟩) rfl h.sn⟩
theorem d_callLN {K0 : PySem.W.Frag} {mg0 : Str → Option Value} (c : Cok X k E) (F : DefOk X.prog X.w K0 T mg0 X.base j x ps true mir) (h : DA X T M E .t (e :: es) tas mas) (hj : j ≤ k := by decide) (hg : Gl X x := by rfl) (hdb : (x == ("__debug__" : Str)) = false := by decide) (he : starEach (e :: es) X.env = (false, eval e X.env) :: starEach es X.env := by rfl) (hpl : (backTo pos (starEach es X.env)).any (·.1) = false := by rfl) (hK : X.K = K0 := by rfl) (hmg : X.mg = mg0 := by rfl) :
    DE X T M E .n (.Call (.Name x p) (e :: es) [] pos) (tCall (spD K0 T mg0 true ps.length mir) [] E tas) (mCallL ps.length mir (mNl mas)) := by
  subst hK
  subst hmg
  obtain ⟨f, fd, hm, hk, hb, ok⟩ := F.ex
  exact ⟨pe_call ok (c.room.mono hj) hg hm hk hb .nil c.pas h.pa hdb he hpl, snd_callLN (W := ⟨kx X M, T, X.mg, E⟩) h.sn⟩
/-! list(range(n)) -/
def dListRg : Dt → Md Dt
  | .int n => if smallI n = true ∧ n.toNat ≤ 16777216 then .ok (.lst (rng 0 n.toNat)) else .bad
  | _ => .bad
theorem rgV_rng {H : Hp} (n : Int) : RpL K H (rgV 0 n) (rng 0 n.toNat) := by
  refine RpL.of_at (by rw [rgV_length, rng_len, Int.sub_zero]) fun i v d h1 h2 => ?_
  have hi : i < n.toNat := by
    have := (List.getElem?_eq_some_iff.mp h2).1
    rw [rng_len] at this
    exact this
  rw [rng_get hi] at h2
  cases h2
  unfold rgV at h1
  rw [Int.sub_zero, List.getElem?_map, List.getElem?_range hi] at h1
  cases h1
  exact .int _
theorem d_listRg (cc : Cok X k E) (hm : X.mg "list" = none) (hm2 : X.mg "range" = none) (ha : DE X T M E fa a ta ma) (hg : Gl X "list" := by rfl) (hg2 : Gl X "range" := by rfl) (na : starEach [a] X.env = (false, eval a X.env) :: starEach [] X.env := by rfl)
    (nb : starEach [Expr.Call (.Name "range" p2) [a] [] spos] X.env = (false, eval (Expr.Call (.Name "range" p2) [a] [] spos) X.env) :: starEach [] X.env := by rfl) :
    DE X T M E .n (.Call (.Name "list" p) [.Call (.Name "range" p2) [a] [] spos] [] pos) (tLstRg (tRg1 ta)) (mU dListRg ma) :=
  ⟨pe_listRg cc.calm hg hm (prg_1 hg2 hm2 ha.pe na) nb, snd_u (r := fun x H Q => ∃ n, x = .int n ∧ RgOk 0 n ∧ ∀ q, H q = none → Q (.ref q) (upd H q (.lst (rgV 0 n)))) (fun σ H Q h => h) ha.sn.toT (fun H S x a Q e h w => by
    cases a with
    | int n =>
      cases Rp.isInt h
      have w : Wp (if smallI n = true ∧ n.toNat ≤ 16777216 then Md.ok (Dt.lst (rng 0 n.toNat)) else Md.bad) _ _ := w
      by_cases hn : smallI n = true ∧ n.toNat ≤ 16777216
      · rw [if_pos hn] at w
        have h2 := smallI_ok hn.1
        exact ⟨n, rfl, ⟨by decide, by decide, h2.1, h2.2, by rw [Int.sub_zero]; exact hn.2⟩, new_lst (fl := .n) e (rgV_rng n) w⟩
      · rw [if_neg hn] at w
        exact w.elim
    | _ => exact w.elim) (fun a c => by
      unfold dListRg
      split
      · split <;> exact fun z => by cases z
      · exact fun z => by cases z)⟩
/-! walks -/
theorem i_list {K0 : PySem.W.Frag} (h : DE X T M E .s e te me) (hK : X.K = K0 := by rfl) : DI X T M E tg e (iList K0 te) (mItL me) := by
  subst hK
  exact ⟨pi_list h.pe, si_list h.sn⟩
theorem i_tup {K0 : PySem.W.Frag} (h : DE X T M E .s e te me) (hK : X.K = K0 := by rfl) : DI X T M E tg e (iTup K0 te) (mItT me) := by
  subst hK
  exact ⟨pi_tup h.pe, si_tup h.sn⟩
theorem i_rng1 (hm : X.mg "range" = none) (h : DA X T M E .t [a] tas mas) (hg : Gl X "range" := by rfl) (hs : starEach [a] X.env = [(false, eval a X.env)] := by rfl) : DI X T M E tg (.Call (.Name "range" p) [a] [] pos) (iRng1 tas) (mIt1 mas) := ⟨pi_range1 hg hm h.pa hs, si_rng1 h.sn⟩
theorem i_rng2 (hm : X.mg "range" = none) (h : DA X T M E .t [a, b] tas mas) (hg : Gl X "range" := by rfl) (hs : starEach [a, b] X.env = [(false, eval a X.env), (false, eval b X.env)] := by rfl) (hs2 : starEach [b] X.env = [(false, eval b X.env)] := by rfl) :
    DI X T M E tg (.Call (.Name "range" p) [a, b] [] pos) (iRng2 tas) (mIt2 mas) := ⟨pi_range2 hg hm h.pa hs hs2, si_rng2 h.sn⟩
def mItE (ma : Fd → Md (List Dt)) : Fd → Md (List Dt) := fun Δ => (ma Δ).bind fun ds => match ds with
  | [.lst xs] => .ok (enu 0 xs)
  | _ => .bad
theorem i_enum {K0 : PySem.W.Frag} {elts : List Expr} {kk : Nat} {tpos : Pos} (hm : X.mg "enumerate" = none) (h : DA X T M E .s [a] tas mas) (hg : Gl X "enumerate" := by rfl) (hs : starEach [a] X.env = [(false, eval a X.env)] := by rfl) (hK : X.K = K0 := by rfl) : DI X T M E (.Tuple elts kk tpos) (.Call (.Name "enumerate" p) [a] [] pos) (iEnum K0 tas) (mItE mas) := by
  subst hK
  exact ⟨pi_enum hg hm h.pa hs, fun G B H S σ Δ R s w => h.sn G B H S σ Δ _ s (w.bind.mono (fun ds q vs H1 S1 g1 r => by
    have r : RpL (kx X M) S1 vs ds := r
    unfold mItE at w
    split at q
    · cases r with
      | cons r1 r2 =>
        cases r2
        cases r1 with
        | lst h1 h2 => exact ⟨_, _, rfl, .of (g1.sh.lst h1), q _ H1 S1 g1 (walks_enum (.of h1) h2)⟩
    · exact q.elim) fun _ z => z)⟩
/-! targets -/
theorem g_name (i : Nat) (nd : X.N.Nodup) (hi : X.N[i]? = some x := by rfl) (hx : Loc X.env.scope x := by first | exact Or.inl rfl | exact Or.inr rfl) (hf : X.fn x = true ∨ X.env.scope.names.lookup x = some .local := by first | exact .inl rfl | exact .inr rfl) : DG X T M [i] (.Name x pos) (gName i) (gsName i) := ⟨pg_name nd hi hx hf, sg_name i⟩
theorem gs_nil : DGs X T M [] [] gNil gsNil := ⟨pgs_nil, sgs_nil⟩
theorem gs_cons {ws1 ws2 : List Nat} {g : TG} {tg : Dt → Fd → Md Fd} {gs : TGs} {tgs : List Dt → Fd → Md Fd} {hx : Expr} {es : List Expr} (h1 : DG X T M ws1 hx g tg) (h2 : DGs X T M ws2 es gs tgs) (hs : (assignEach (hx :: es) X.env).map (fun x => x.snd) = assign hx X.env :: (assignEach es X.env).map (fun x => x.snd) := by rfl) : DGs X T M (ws1 ++ ws2) (hx :: es) (gCons g gs) (gsCons tg tgs) := ⟨pgs_cons h1.pg h2.pg hs, sgs_cons h1.sn h2.sn⟩
theorem g_tup {K0 : PySem.W.Frag} {ws1 : List Nat} {gs : TGs} {tgs : List Dt → Fd → Md Fd} {n kk : Nat} (hc : X.calm = true) (h : DGs X T M ws1 es gs tgs) (hn : (assignEach es X.env).length = n := by rfl) (hst : (assignEach es X.env).findIdx? (fun x => x.fst) = none := by rfl) (hK : X.K = K0 := by rfl) : DG X T M ws1 (.Tuple es kk pos) (gTup K0 n gs) (gsTup n tgs) := by
  subst hK
  exact ⟨pg_tup hc h.pg hn hst, sg_tup h.sn⟩
/-! list comprehensions -/
structure DJ (X : Cx) (T : List Addr) (M : Mm) (E : XK) (tg e : Expr) (wi : TI) (mi : Fd → Md (List Dt)) : Prop where
  pi : PI X tg e wi
  sn : SndJ ⟨kx X M, T, X.mg, E⟩ wi mi
theorem j_i (h : DI X T M E tg e wi mi) : DJ X T M E tg e wi mi := ⟨h.pi, h.sn.j⟩
theorem j_list {K0 : PySem.W.Frag} (h : DE X T M E .l e te me) (hK : X.K = K0 := by rfl) : DJ X T M E tg e (iList K0 te) (mItL me) := by
  subst hK
  exact ⟨pi_list h.pe, sj_list h.sn⟩
structure DQ (X : Cx) (T : List Addr) (M : Mm) (E : XK) (es : List Expr) (tt : TT) (mt : Fd → Md Bool) : Prop where
  pq : PTs X es tt
  sn : SndT ⟨kx X M, T, X.mg, E⟩ tt mt
theorem q_nil : DQ X T M E [] tYes mYes := ⟨pts_nil, snd_yes⟩
theorem q_one (h : DT X T M E e tt mt) : DQ X T M E [e] tt mt := ⟨pts_one h.pt, h.sn⟩
theorem mem_all {ws vs : List Nat} (h : ws.all (fun i => vs.contains i) = true) : ∀ i ∈ ws, i ∈ vs := fun i hi => by
  have := List.all_eq_true.mp h i hi
  simpa using this
theorem d_lc {scope : Scope} {own : List (Str × Nat)} {ifs : List Expr} (c : Cok X k E) (hi : DJ X T M E tg iter wi mi) (ok : BlkOk X.N X.env.scope scope own)
    (hg : ∀ (s : Shared) (H : Hp) (C : Addr) (cl : List (Str × Addr)) (fp : List Addr), Cok (X.blk s H scope (compEnvC scope cl C X.env) fp) k E0 → DG (X.blk s H scope (compEnvC scope cl C X.env) fp) T M ws tg g gs)
    (ht : ∀ (s : Shared) (H : Hp) (C : Addr) (cl : List (Str × Addr)) (fp : List Addr), Cok (X.blk s H scope (compEnvC scope cl C X.env) fp) k E0 → DQ (X.blk s H scope (compEnvC scope cl C X.env) fp) T M E0 ifs tt mt)
    (he : ∀ (s : Shared) (H : Hp) (C : Addr) (cl : List (Str × Addr)) (fp : List Addr), Cok (X.blk s H scope (compEnvC scope cl C X.env) fp) k E0 → DE (X.blk s H scope (compEnvC scope cl C X.env) fp) T M E0 .s elt te me)
    (hw : ws.all (fun i => (own.map (·.2)).contains i) = true := by decide) (hs : ∀ x, foldedSetIterable iter X.env x = pure x := by intro _; rfl) :
    DE X T M E .n (.ListComp elt [⟨tg, iter, ifs, 0⟩] scope pos) (tLc wi g tt te (own.map (·.2))) (mLc mi gs mt me (own.map (·.2))) :=
  ⟨pe_lc c.calm c.nd hi.pi ok (fun s H C cl fp => (hg s H C cl fp (cok_blk c ..)).pg) (fun s H C cl fp => (ht s H C cl fp (cok_blk c ..)).pq) (fun s H C cl fp => (he s H C cl fp (cok_blk c ..)).pe) hs,
   snd_lc (W := ⟨kx X M, T, X.mg, E⟩) hi.sn (hg X.s_0 (fun _ => none) 0 [] [] (cok_blk c ..)).sn (mem_all hw) (ht X.s_0 (fun _ => none) 0 [] [] (cok_blk c ..)).sn (he X.s_0 (fun _ => none) 0 [] [] (cok_blk c ..)).sn⟩
end
end Mr
namespace Mr
open PySem L2

/-- an own error class over ValueError without an __init__ -/
structure ExcK (K : PySem.W.Frag) (C : Addr) : Prop where
  xc : PySem.W.excIn K C [.type "ValueError", .type "Exception", .type "BaseException", .type "object"] "ValueError.__new__" = true
  kp : PySem.W.keepIn K (.ref C) = true
  be : PySem.W.subIn K (.ref C) (.type "BaseException") = some true
  ty : PySem.W.typeIn K (.ref C) = some (.type "type")
section
variable {X : Cx} {T : List Addr} {M : Mm} {E : XK} {fl fa fb fc : Fl} {nw : Bool} {a b c e tg iter elt : Expr} {es : List Expr} {ta tb tc te : TE} {ma mb mc me : Fd → Md Dt} {pos pos' p p2 spos apos : Pos} {k j : Nat} {K : Kx} {x y : Str}
  {wi : TI} {mi : Fd → Md (List Dt)} {g : TG} {gs : Dt → Fd → Md Fd} {ws : List Nat} {tt : TT} {mt : Fd → Md Bool} {st : Stmt} {rest as bs : List Stmt} {t u : TS} {mo mu : Fd → Md Out}
theorem b_nil : DB X T M E nw [] tNext mNext := ⟨pss_nil, ss_next⟩
theorem b_one (h : DS X T M E nw st t mo) : DB X T M E nw [st] t mo := ⟨pss_one h.ps, h.sn⟩
theorem b_cons (h : DS X T M E nw st t mo) (h2 : DB X T M E nw rest u mu) : DB X T M E nw (st :: rest) (tSeq t u) (mSeq mo mu) := ⟨pss_cons h.ps h2.ps, ss_seq h.sn h2.sn⟩
theorem s_pass : DS X T M E nw (.Pass pos) tNext mNext := ⟨ps_pass, ss_next⟩
theorem s_break : DS X T M E nw (.Break pos) tBreak mBreak := ⟨ps_break, ss_break⟩
theorem s_cont : DS X T M E nw (.Continue pos) tCont mCont := ⟨ps_continue, ss_cont⟩
theorem s_give (i : Nat) (h : DS X T M E nw st t mo) : DS X T M E nw st t (mGive i mo) := ⟨h.ps, ss_give i h.sn⟩
theorem s_set (i : Nat) (cc : Cok X k E) (he : DE X T M E .s e te me) (hi : X.N[i]? = some x := by rfl) (hx : Loc X.env.scope x := by first | exact Or.inl rfl | exact Or.inr rfl) (hs : swapsWith e (some (.Name x pos')) pos.line X.env = pure false := by rfl) (hf : X.fn x = true ∨ X.env.scope.names.lookup x = some .local := by first | exact .inl rfl | exact .inr rfl) :
    DS X T M E nw (.Assign [.Name x pos'] e pos) (tAsg te (gName i)) (mAsg i me) := ⟨ps_set cc.nd hi hx he.pe hs hf, ss_asg i he.sn⟩
theorem s_setO (i : Nat) (cc : Cok X k E) (he : DE X T M E .n e te me) (hi : X.N[i]? = some x := by rfl) (hx : Loc X.env.scope x := by first | exact Or.inl rfl | exact Or.inr rfl) (hs : swapsWith e (some (.Name x pos')) pos.line X.env = pure false := by rfl) (hf : X.fn x = true ∨ X.env.scope.names.lookup x = some .local := by first | exact .inl rfl | exact .inr rfl) :
    DS X T M E nw (.Assign [.Name x pos'] e pos) (tAsg te (gName i)) (mAsgO i me) := ⟨ps_set cc.nd hi hx he.pe hs hf, ss_asgO i he.sn⟩
section
variable {scope : Scope} {own : List (Str × Nat)} {ifs : List Expr}
theorem s_setLc (i : Nat) (cc : Cok X k E) (hi : DJ X T M E tg iter wi mi) (ok : BlkOk X.N X.env.scope scope own)
    (hg : ∀ (s : Shared) (H : Hp) (C : Addr) (cl : List (Str × Addr)) (fp : List Addr), Cok (X.blk s H scope (compEnvC scope cl C X.env) fp) k E0 → DG (X.blk s H scope (compEnvC scope cl C X.env) fp) T M ws tg g gs)
    (ht : ∀ (s : Shared) (H : Hp) (C : Addr) (cl : List (Str × Addr)) (fp : List Addr), Cok (X.blk s H scope (compEnvC scope cl C X.env) fp) k E0 → DQ (X.blk s H scope (compEnvC scope cl C X.env) fp) T M E0 ifs tt mt)
    (he : ∀ (s : Shared) (H : Hp) (C : Addr) (cl : List (Str × Addr)) (fp : List Addr), Cok (X.blk s H scope (compEnvC scope cl C X.env) fp) k E0 → DE (X.blk s H scope (compEnvC scope cl C X.env) fp) T M E0 .s elt te me)
    (hy : X.N[i]? = some y := by rfl) (hyl : X.env.scope.names.lookup y = some .local := by rfl) (hsw : swapsWith (.ListComp elt [⟨tg, iter, ifs, 0⟩] scope pos) (some (.Name y pos')) spos.line X.env = pure true := by exact sw_true rfl rfl rfl (by decide +kernel))
    (hw : ws.all (fun i => (own.map (·.2)).contains i) = true := by decide) (hs : ∀ x, foldedSetIterable iter X.env x = pure x := by intro _; rfl) :
    DS X T M E nw (.Assign [.Name y pos'] (.ListComp elt [⟨tg, iter, ifs, 0⟩] scope pos) spos) (tAsg (tLc wi g tt te (own.map (·.2))) (gName i)) (mAsg i (mLc mi gs mt me (own.map (·.2)))) :=
  ⟨ps_setLc cc.calm cc.nd hy hyl hsw hi.pi ok (fun s H C cl fp => (hg s H C cl fp (cok_blk cc ..)).pg) (fun s H C cl fp => (ht s H C cl fp (cok_blk cc ..)).pq) (fun s H C cl fp => (he s H C cl fp (cok_blk cc ..)).pe) hs,
   ss_asg i (d_lc (pos := pos) cc hi ok hg ht he hw hs).give.sn⟩
theorem s_setLcO (i : Nat) (cc : Cok X k E) (hi : DJ X T M E tg iter wi mi) (ok : BlkOk X.N X.env.scope scope own)
    (hg : ∀ (s : Shared) (H : Hp) (C : Addr) (cl : List (Str × Addr)) (fp : List Addr), Cok (X.blk s H scope (compEnvC scope cl C X.env) fp) k E0 → DG (X.blk s H scope (compEnvC scope cl C X.env) fp) T M ws tg g gs)
    (ht : ∀ (s : Shared) (H : Hp) (C : Addr) (cl : List (Str × Addr)) (fp : List Addr), Cok (X.blk s H scope (compEnvC scope cl C X.env) fp) k E0 → DQ (X.blk s H scope (compEnvC scope cl C X.env) fp) T M E0 ifs tt mt)
    (he : ∀ (s : Shared) (H : Hp) (C : Addr) (cl : List (Str × Addr)) (fp : List Addr), Cok (X.blk s H scope (compEnvC scope cl C X.env) fp) k E0 → DE (X.blk s H scope (compEnvC scope cl C X.env) fp) T M E0 .s elt te me)
    (hy : X.N[i]? = some y := by rfl) (hyl : X.env.scope.names.lookup y = some .local := by rfl) (hsw : swapsWith (.ListComp elt [⟨tg, iter, ifs, 0⟩] scope pos) (some (.Name y pos')) spos.line X.env = pure true := by exact sw_true rfl rfl rfl (by decide +kernel))
    (hw : ws.all (fun i => (own.map (·.2)).contains i) = true := by decide) (hs : ∀ x, foldedSetIterable iter X.env x = pure x := by intro _; rfl) :
    DS X T M E nw (.Assign [.Name y pos'] (.ListComp elt [⟨tg, iter, ifs, 0⟩] scope pos) spos) (tAsg (tLc wi g tt te (own.map (·.2))) (gName i)) (mAsgO i (mLc mi gs mt me (own.map (·.2)))) :=
  ⟨ps_setLc cc.calm cc.nd hy hyl hsw hi.pi ok (fun s H C cl fp => (hg s H C cl fp (cok_blk cc ..)).pg) (fun s H C cl fp => (ht s H C cl fp (cok_blk cc ..)).pq) (fun s H C cl fp => (he s H C cl fp (cok_blk cc ..)).pe) hs,
   ss_asgO i (d_lc (pos := pos) cc hi ok hg ht he hw hs).sn⟩
end
theorem s_asgT (he : DE X T M E .s e te me) (hg : DG X T M ws tg g gs) (hs : swapsWithSole [tg] e pos.line X.env = pure false := by rfl) (hw : swappedStores [tg] e X.env = pure none := by rfl) (h1 : (assignEach [tg] X.env).map (fun x => x.snd) = [assign tg X.env] := by rfl) : DS X T M E nw (.Assign [tg] e pos) (tAsg te g) (mAsgT gs me) := ⟨ps_asg he.pe hg.pg hs hw h1, ss_asgT he.sn hg.sn⟩
theorem s_drop (he : DE X T M E fl e te me) (hs : swapsWith e none pos.line X.env = pure false := by rfl) : DS X T M E nw (.Expr e pos) (tDrop te) (mDrop me) := ⟨ps_expr he.pe hs, ss_drop he.sn⟩
theorem s_if (hc : DT X T M E c tt mt) (h1 : DB X T M E nw as t mo) (h2 : DB X T M E nw bs u mu) : DS X T M E nw (.If c as bs pos) (tIfS tt t u) (mIfS mt mo mu) := ⟨ps_if hc.pt h1.ps h2.ps, ss_if hc.sn h1.sn h2.sn⟩
theorem s_ret (he : DE X T M E .s e te me) : DS X T M E false (.Return (some e) pos) (tRet te) (mRet me) := ⟨ps_ret he.pe, ss_ret he.sn⟩
theorem s_retn (he : DE X T M E .n e te me) : DS X T M E true (.Return (some e) pos) (tRet te) (mRet me) := ⟨ps_ret he.pe, ss_retn he.sn⟩
theorem s_retO (i : Nat) (hN : X.N[i]? = some x := by rfl) (hv : Vis X.env.scope x := by first | exact Or.inl rfl | exact Or.inr (Or.inl rfl) | exact Or.inr (Or.inr rfl)) (hd : (x == ("__debug__" : Str)) = false := by decide) (hcd : (x == ("__classdict__" : Str)) = false := by decide) :
    DS X T M E nw (.Return (some (.Name x p)) pos) (tRet (tVar i)) (mRetO i) := ⟨ps_ret (pe_var hN hv hd hcd), ss_retO i⟩
theorem s_retN : DS X T M E false (.Return none pos) tRetN mRetN := ⟨ps_retN, ss_retN⟩
theorem s_for (cc : Cok X k E) (hi : DI X T M E tg iter wi mi) (hg : DG X T M ws tg g gs) (hb : DB X T M E nw as t mo) (hs : ∀ x, foldedSetIterable iter X.env x = pure x := by intro _; rfl) : DS X T M E nw (.For tg iter as [] pos) (tFor wi g t) (mFor mi gs mo) :=
  ⟨ps_for cc.own cc.calm hi.pi hg.pg hb.ps hs, ss_for (W := ⟨kx X M, T, X.mg, E⟩) hi.sn hg.sn hb.sn⟩
theorem s_raise {C : Addr} {m : Str} {jj : Nat} {p3 : Pos} (cc : Cok X k E) (hm : X.mg x = some (.ref C)) (xc : ExcK X.K C) (hg : Gl X x := by rfl) (hdb : (x == ("__debug__" : Str)) = false := by decide) :
    DS X T M E nw (.Raise (some (.Call (.Name x p) [.Constant (.str m) jj p2] [] p3)) none pos) (fun _ _ H => E (.ref C) none H) (mRaise x) :=
  ⟨L2N.ps_raise cc.calm cc.tk (L2N.pmk_own PySem.F.excBase_ValueError xc.xc hm xc.kp (raises_own xc.be xc.ty) hg hdb), ss_raise (W := ⟨kx X M, T, X.mg, E⟩) hm⟩
/-! a list of the frame's own is changed -/
theorem s_app (i : Nat) (hb : DE X T M E .s e te me) (hN : X.N[i]? = some x := by rfl) (hv : Vis X.env.scope x := by first | exact Or.inl rfl | exact Or.inr (Or.inl rfl) | exact Or.inr (Or.inr rfl)) (hd : (x == ("__debug__" : Str)) = false := by decide) (hcd : (x == ("__classdict__" : Str)) = false := by decide)
    (hbase : attributeBase (.Name x p) "append" X.env (eval (.Name x p) X.env) = eval (.Name x p) X.env := by rfl)
    (hfew : ((backTo pos' (starEach [e] X.env)).all (fun x => !x.1) && (backToKw pos' (keywordEach [] X.env)).all (fun x => x.1.isSome) && decide (([e] : List Expr).length + ([] : List Keyword).length + (if ([] : List Keyword).isEmpty then 0 else 1) < 30)) = true := by rfl)
    (hline : (apos.endLine == pos'.line) = true := by rfl) (hs : starEach [e] X.env = (false, eval e X.env) :: starEach [] X.env := by rfl) (hplain : (backTo pos' (starEach [] X.env)).any (·.1) = false := by rfl)
    (hsw : swapsWith (.Call (.Attribute (.Name x p) "append" apos) [e] [] pos') none pos.line X.env = pure false := by rfl) :
    DS X T M E nw (.Expr (.Call (.Attribute (.Name x p) "append" apos) [e] [] pos') pos) (tDrop (tBM X.K "list" rAppend (tVar i) (tCons te tNil))) (mApp i me) :=
  ⟨ps_expr (pe_bm PySem.F.plainAttrs_list PySem.F.slot_list_append PySem.F.type_list_append mt_append (pe_var hN hv hd hcd) (pa_cons hb.pe pa_nil hs) hbase hfew hline hs hplain) hsw, ss_app (W := ⟨kx X M, T, X.mg, E⟩) i hb.sn⟩
theorem s_appPop (i l : Nat) {apos2 p5 : Pos} (hb : DE X T M E fb e te me) (hN : X.N[i]? = some x := by rfl) (hv : Vis X.env.scope x := by first | exact Or.inl rfl | exact Or.inr (Or.inl rfl) | exact Or.inr (Or.inr rfl)) (hd : (x == ("__debug__" : Str)) = false := by decide) (hcd : (x == ("__classdict__" : Str)) = false := by decide)
    (hN2 : X.N[l]? = some y := by rfl) (hv2 : Vis X.env.scope y := by first | exact Or.inl rfl | exact Or.inr (Or.inl rfl) | exact Or.inr (Or.inr rfl)) (hd2 : (y == ("__debug__" : Str)) = false := by decide) (hcd2 : (y == ("__classdict__" : Str)) = false := by decide)
    (hbase : attributeBase (.Name x p) "append" X.env (eval (.Name x p) X.env) = eval (.Name x p) X.env := by rfl) (hbase2 : attributeBase (.Name y p2) "pop" X.env (eval (.Name y p2) X.env) = eval (.Name y p2) X.env := by rfl)
    (hfew : ((backTo pos' (starEach [Expr.Call (.Attribute (.Name y p2) "pop" apos2) [e] [] p5] X.env)).all (fun x => !x.1) && (backToKw pos' (keywordEach [] X.env)).all (fun x => x.1.isSome) && decide (([Expr.Call (.Attribute (.Name y p2) "pop" apos2) [e] [] p5] : List Expr).length + ([] : List Keyword).length + (if ([] : List Keyword).isEmpty then 0 else 1) < 30)) = true := by rfl)
    (hfew2 : ((backTo p5 (starEach [e] X.env)).all (fun x => !x.1) && (backToKw p5 (keywordEach [] X.env)).all (fun x => x.1.isSome) && decide (([e] : List Expr).length + ([] : List Keyword).length + (if ([] : List Keyword).isEmpty then 0 else 1) < 30)) = true := by rfl)
    (hline : (apos.endLine == pos'.line) = true := by rfl) (hline2 : (apos2.endLine == p5.line) = true := by rfl)
    (hs : starEach [Expr.Call (.Attribute (.Name y p2) "pop" apos2) [e] [] p5] X.env = (false, eval (Expr.Call (.Attribute (.Name y p2) "pop" apos2) [e] [] p5) X.env) :: starEach [] X.env := by rfl) (hs2 : starEach [e] X.env = (false, eval e X.env) :: starEach [] X.env := by rfl)
    (hplain : (backTo pos' (starEach [] X.env)).any (·.1) = false := by rfl) (hplain2 : (backTo p5 (starEach [] X.env)).any (·.1) = false := by rfl)
    (hsw : swapsWith (.Call (.Attribute (.Name x p) "append" apos) [Expr.Call (.Attribute (.Name y p2) "pop" apos2) [e] [] p5] [] pos') none pos.line X.env = pure false := by rfl) :
    DS X T M E nw (.Expr (.Call (.Attribute (.Name x p) "append" apos) [.Call (.Attribute (.Name y p2) "pop" apos2) [e] [] p5] [] pos') pos) (tDrop (tBM X.K "list" rAppend (tVar i) (tCons (tBM X.K "list" rPopAt (tVar l) (tCons te tNil)) tNil))) (mAppPop i l me) :=
  ⟨ps_expr (pe_bm PySem.F.plainAttrs_list PySem.F.slot_list_append PySem.F.type_list_append mt_append (pe_var hN hv hd hcd) (pa_cons (pe_bm PySem.F.plainAttrs_list PySem.F.slot_list_pop PySem.F.type_list_pop mt_popAt (pe_var hN2 hv2 hd2 hcd2) (pa_cons hb.pe pa_nil hs2) hbase2 hfew2 hline2 hs2 hplain2) pa_nil hs) hbase hfew hline hs hplain) hsw, ss_appPop (W := ⟨kx X M, T, X.mg, E⟩) i l hb.sn.toT⟩
theorem s_setI (i : Nat) (ha : DE X T M E .s a ta ma) (hb : DE X T M E fb b tb mb) (hN : X.N[i]? = some x := by rfl) (hv : Vis X.env.scope x := by first | exact Or.inl rfl | exact Or.inr (Or.inl rfl) | exact Or.inr (Or.inr rfl)) (hd : (x == ("__debug__" : Str)) = false := by decide) (hcd : (x == ("__classdict__" : Str)) = false := by decide)
    (hs : swapsWithSole [.Subscript (.Name x p) b p2] a pos.line X.env = pure false := by rfl) (hw : swappedStores [.Subscript (.Name x p) b p2] a X.env = pure none := by rfl) (h1 : (assignEach [.Subscript (.Name x p) b p2] X.env).map (fun x => x.snd) = [assign (.Subscript (.Name x p) b p2) X.env] := by rfl)
    (h2 : ∀ v, assign (.Subscript (.Name x p) b p2) X.env v = (do
      let ov ← holding [v] (eval (.Name x p) X.env)
      let iv ← holding [v, ov] (eval b X.env)
      standAt p2
      holding [v, ov, iv] (setItem ov iv v)
      release [v, ov, iv] []) := by intro _; rfl) :
    DS X T M E nw (.Assign [.Subscript (.Name x p) b p2] a pos) (tAsg ta (gSub (tVar i) tb rSetL)) (mSetI i ma mb) := ⟨ps_asg ha.pe (pg_sub (pe_var hN hv hd hcd) hb.pe set_list h2) hs hw h1, ss_setI i ha.sn hb.sn.toT⟩
end
end Mr
/-! Quiet code: it makes no generator and changes nothing but its own frame. What an element of a generator expression may call. -/
namespace Mr
open PySem L2 PySem.Spec PyProof.Rows

/-! ### what a value is, by objects that stay -/
abbrev Oh := Addr → Option Obj
mutual
inductive Qv (g : Oh) : Value → Dt → Prop
  | non : Qv g .none .non
  | bl (b : Bool) : Qv g (.bool b) (.bl b)
  | int (i : Int) (t : Tok) : Qv g (.int i t) (.int i)
  | str (x : Str) (t : Tok) : Qv g (.str x t) (.str x)
  | ty (n : String) : Qv g (.type n) (.ty n)
  | lst {a : Addr} {o : Obj} {its : List Value} {ds : List Dt} {n : Nat} : g a = some o → o.cls = .type "list" → o.data = .seq its.toArray n → ds.length ≤ sizeLine → Qvs g its ds → Qv g (.ref a) (.lst ds)
  | tup {a : Addr} {o : Obj} {its : List Value} {ds : List Dt} {n : Nat} : g a = some o → o.cls = .type "tuple" → o.data = .seq its.toArray n → ds.length ≤ sizeLine → Qvs g its ds → Qv g (.ref a) (.tup ds)
  | dic {a : Addr} {o : Obj} : g a = some o → o.cls = .type "dict" → Qv g (.ref a) .dic
inductive Qvs (g : Oh) : List Value → List Dt → Prop
  | nil : Qvs g [] []
  | cons {v : Value} {vs : List Value} {d : Dt} {ds : List Dt} : Qv g v d → Qvs g vs ds → Qvs g (v :: vs) (d :: ds)
end
theorem Qvs.length {g : Oh} : ∀ {vs : List Value} {ds : List Dt}, Qvs g vs ds → vs.length = ds.length
  | _, _, .nil => rfl
  | _, _, .cons _ r => congrArg (· + 1) r.length
theorem Qvs.get {g : Oh} : ∀ {vs : List Value} {ds : List Dt} {i : Nat} {v : Value}, Qvs g vs ds → vs[i]? = some v → ∃ d, ds[i]? = some d ∧ Qv g v d
  | _, _, _, _, .nil, e => by simp at e
  | _, _, 0, _, .cons h _, e => ⟨_, rfl, by cases e; exact h⟩
  | _, _, i + 1, v, .cons _ r, e => Qvs.get (i := i) (v := v) r e
theorem Qvs.at {g : Oh} : ∀ {vs : List Value} {ds : List Dt} {i : Nat} {d : Dt}, Qvs g vs ds → ds[i]? = some d → ∃ v, vs[i]? = some v ∧ Qv g v d
  | _, _, _, _, .nil, e => by simp at e
  | _, _, 0, _, .cons h _, e => ⟨_, rfl, by cases e; exact h⟩
  | _, _, i + 1, d, .cons _ r, e => Qvs.at (i := i) (d := d) r e
/-- data that quiet code may handle -/
def qok : Dt → Bool
  | .non => true
  | .bl _ => true
  | .int _ => true
  | .str _ => true
  | .ty _ => true
  | .lst xs => go xs
  | .tup xs => go xs
  | .dic => true
  | _ => false
where go : List Dt → Bool
  | [] => true
  | d :: r => qok d && go r
section
variable {X : Cx} {pins : List (Addr × Obj)} {σ : St} {H : Hp} {s : Shared} {g : Oh}
mutual
/-- what is tracked, by the heap's objects -/
theorem qv_of {K : Kx} (I : Inv X pins σ H s) (hg : ∀ b o, s.heap.get? b = some o → o.cls ≠ .none → g b = some o) : ∀ {d : Dt} {v : V} {u : Value}, qok d = true → Rp K H v d → RelV v u → Qv g u d
  | .non, _, _, _, .non, r => by cases r; exact .non
  | .bl _, _, _, _, .bl b, r => by cases r; exact .bl b
  | .int _, _, _, _, .int i, r => by obtain ⟨t, rfl⟩ := r; exact .int i t
  | .str _, _, _, _, .str x, r => by obtain ⟨t, rfl⟩ := r; exact .str x t
  | .ty _, _, _, _, .ty n, r => by cases r; exact .ty n
  | .lst ds, .ref a, _, q, .lst (vs := vs) h k, r => by
    cases r
    obtain ⟨its, rv, ⟨o, n, e1, e2, e3, e4⟩, hz⟩ := I.list (.of h : SqL X.K H a vs)
    exact .lst (hg _ _ e1 (by rw [e2]; exact fun z => by cases z)) e2 e4 (by rw [← k.length]; exact hz) (qvs_of I hg q k rv)
  | .tup ds, .ref a, _, q, .tup (vs := vs) h k, r => by
    cases r
    obtain ⟨its, rv, ⟨o, e1, e2, n, e4⟩, hz⟩ := I.tuple (.inl (.inl h) : SqT X.K H a vs)
    exact .tup (hg _ _ e1 (by rw [e2]; exact fun z => by cases z)) e2 e4 (by rw [← k.length]; exact hz) (qvs_of I hg q k rv)
  | .dic, .ref a, _, _, .dic h, r => by
    cases r
    obtain ⟨_, _, vs, _, o, es, ep, g1, g2, _⟩ := (show ObjOk X.prog X.w H s.heap a (.dK []) from I.hok a _ h)
    exact .dic (hg _ _ g1 (by rw [g2.1]; exact fun z => by cases z)) g2.1
theorem qvs_of {K : Kx} (I : Inv X pins σ H s) (hg : ∀ b o, s.heap.get? b = some o → o.cls ≠ .none → g b = some o) : ∀ {ds : List Dt} {vs : List V} {us : List Value}, qok.go ds = true → RpL K H vs ds → Vals vs us → Qvs g us ds
  | [], _, _, _, .nil, r => by cases r; exact .nil
  | d :: ds, _, _, q, .cons h k, r => by
    rw [qok.go, Bool.and_eq_true] at q
    cases r with
    | cons r1 r2 => exact .cons (qv_of I hg q.1 h r1) (qvs_of I hg q.2 k r2)
end
end
end Mr
namespace Mr
open PySem L2 PySem.Spec PyProof.Rows

/-! ### quiet code: its surroundings, its state -/
structure Qx where
  prog : Program
  w : World
  K : PySem.W.Frag
  mg : Str → Option Value
  base : Heap
  env : Env
  N : List Str
  k : Nat
  g : Oh
structure Qs (X : Qx) (s : Shared) (Δ : Fd) : Prop where
  mod : Mod X.K X.mg X.base
  kind : X.env.scope.kind = .function
  glob : X.env.globals = mainGlobals
  blt : X.env.builtins = builtinsNs
  nd : X.N.Nodup
  bs : ∀ b o, X.base.get? b = some o → b ≠ X.env.locals ∧ s.heap.get? b = some o
  gs : ∀ b o, X.g b = some o → b ≠ X.env.locals ∧ s.heap.get? b = some o
  loc : ∃ m, s.heap.Ns X.env.locals m ∧ ∀ (i : Nat) (x : Str) (d : Dt), X.N[i]? = some x → Δ[i]? = some (.sh d) → Vis X.env.scope x → ∃ u, Qv X.g u d ∧ Look X.env s.heap m x u
theorem md_bind {α β : Type} {m : Md α} {f : α → Md β} {b : β} (h : m.bind f = .ok b) : ∃ a, m = .ok a ∧ f a = .ok b := by
  cases m with
  | ok a => exact ⟨a, rfl, h⟩
  | exc c => cases h
  | bad => cases h
theorem kp_refl (s : Shared) : Keeps s s := ⟨s.heap, s.toks, rfl, fun _ _ e => e⟩
theorem kp_tok (s : Shared) (k : Nat) : Keeps s { s with toks := k } := ⟨s.heap, k, rfl, fun _ _ e => e⟩
theorem kp_trans {a b c : Shared} (x : Keeps a b) (y : Keeps b c) : Keeps a c := by
  obtain ⟨h1, t1, rfl, k1⟩ := x
  obtain ⟨h2, t2, rfl, k2⟩ := y
  exact ⟨h2, t2, rfl, fun b o e => k2 b o (k1 b o e)⟩
/-- all stays but what stands at L -/
def Kb (L : Addr) (s s' : Shared) : Prop := ∃ h tk, s' = { s with heap := h, toks := tk } ∧ ∀ b o, b ≠ L → s.heap.get? b = some o → h.get? b = some o
theorem Kb.of {L : Addr} {s s' : Shared} (x : Keeps s s') : Kb L s s' := by
  obtain ⟨h1, t1, rfl, k1⟩ := x
  exact ⟨h1, t1, rfl, fun b o _ e => k1 b o e⟩
theorem Kb.trans {L : Addr} {a b c : Shared} (x : Kb L a b) (y : Kb L b c) : Kb L a c := by
  obtain ⟨h1, t1, rfl, k1⟩ := x
  obtain ⟨h2, t2, rfl, k2⟩ := y
  exact ⟨h2, t2, rfl, fun b o n e => k2 b o n (k1 b o n e)⟩
theorem Qs.keep {X : Qx} {s s' : Shared} {Δ : Fd} (q : Qs X s Δ) (k : Keeps s s') : Qs X s' Δ := by
  obtain ⟨h1, t1, rfl, k1⟩ := k
  refine ⟨q.mod, q.kind, q.glob, q.blt, q.nd, fun b o e => ⟨(q.bs b o e).1, k1 b o (q.bs b o e).2⟩, fun b o e => ⟨(q.gs b o e).1, k1 b o (q.gs b o e).2⟩, ?_⟩
  obtain ⟨m, hn, hl⟩ := q.loc
  refine ⟨m, hn.keeps k1, fun i x d h1 h2 h3 => ?_⟩
  obtain ⟨u, qv, l⟩ := hl i x d h1 h2 h3
  refine ⟨u, qv, ?_⟩
  rcases l with l | ⟨a, c, e, o, r⟩
  · exact .inl l
  · exact .inr ⟨a, c, e, by first | exact ⟨_, k1 _ _ r.1, r.2⟩ | exact ⟨o, k1 _ _ r.1, r.2⟩⟩
/-- quiet pieces with their mirrors -/
def QE (X : Qx) (e : Expr) (me : Fd → Md Dt) : Prop := ∀ (A : Around) (E : Value → Shared → Prop) (s : Shared) (Δ : Fd) (d : Dt), Room X.k A → Qs X s Δ → me Δ = .ok d →
  wpAny (model X.prog X.w) A (eval e X.env) (fun u s' => Qv X.g u d ∧ Keeps s s') E s
def QT (X : Qx) (e : Expr) (mt : Fd → Md Bool) : Prop := ∀ (A : Around) (E : Value → Shared → Prop) (s : Shared) (Δ : Fd) (b : Bool), Room X.k A → Qs X s Δ → mt Δ = .ok b →
  wpAny (model X.prog X.w) A (isTrue e X.env (eval e X.env)) (fun c s' => c = b ∧ Keeps s s') E s
def QW (X : Qx) (e : Expr) (mt : Fd → Md Bool) : Prop := ∀ (whole : Sem Value) (A : Around) (E : Value → Shared → Prop) (s : Shared) (Δ : Fd) (b : Bool), Room X.k A → Qs X s Δ → mt Δ = .ok b →
  wpAny (model X.prog X.w) A (isTrue e X.env whole) (fun c s' => c = b ∧ Keeps s s') E s
def QA (X : Qx) (es : List Expr) (ma : Fd → Md (List Dt)) : Prop := ∀ (pos : Pos) (A : Around) (E : Value → Shared → Prop) (s : Shared) (Δ : Fd) (ds : List Dt), Room X.k A → Qs X s Δ → ma Δ = .ok ds →
  wpAny (model X.prog X.w) A (spliced (backTo pos (starEach es X.env))) (fun us s' => Qvs X.g us ds ∧ Keeps s s') E s
def QEnd (X : Qx) (s : Shared) (o : Out) (fl : Flow) (s' : Shared) : Prop := match o, fl with
  | .rt d, .ret u => Qv X.g u d ∧ Kb X.env.locals s s'
  | .nx Δ', .next => Qs X s' Δ' ∧ Kb X.env.locals s s'
  | _, _ => False
def QS (X : Qx) (st : Stmt) (mo : Fd → Md Out) : Prop := ∀ (A : Around) (E : Value → Shared → Prop) (s : Shared) (Δ : Fd) (o : Out), Room X.k A → Qs X s Δ → mo Δ = .ok o →
  wpAny (model X.prog X.w) A (exec st X.env) (fun fl s' => QEnd X s o fl s') E s
def QB (X : Qx) (st : List Stmt) (mo : Fd → Md Out) : Prop := ∀ (A : Around) (E : Value → Shared → Prop) (s : Shared) (Δ : Fd) (o : Out), Room X.k A → Qs X s Δ → mo Δ = .ok o →
  wpAny (model X.prog X.w) A (execs st X.env) (fun fl s' => QEnd X s o fl s') E s
/-- a def that may be called so -/
structure QDef (P : Program) (w : World) (K : PySem.W.Frag) (mg : Str → Option Value) (base : Heap) (k : Nat) (x : Str) (n : Nat) (mir : List Dt → Md Dt) : Prop where
  ex : ∃ f, mg x = some (.ref f) ∧ PySem.W.keepIn K (.ref f) = true ∧ ∀ (A : Around) (E : Value → Shared → Prop) (s : Shared) (g : Oh) (us : List Value) (ds : List Dt) (d : Dt), Room k A → Mod K mg base →
    (∀ b o, base.get? b = some o → s.heap.get? b = some o) → (∀ b o, g b = some o → s.heap.get? b = some o) → Qvs g us ds → ds.length = n → mir ds = .ok d →
    wpAny (model P w) A (call (.ref f) us) (fun u s' => Qv g u d ∧ Keeps s s') E s

section
variable {X : Qx} {x : Str} {p pos p2 : Pos} {e a b c : Expr} {es : List Expr} {me ma mb mc : Fd → Md Dt} {mt mu : Fd → Md Bool} {mas : Fd → Md (List Dt)} {mo mp : Fd → Md Out} {j k n : Nat} {mir : List Dt → Md Dt}
def QGl (X : Qx) (x : Str) : Prop := X.env.kindOf x = some .globalImplicit
theorem y_var (i : Nat) (hN : X.N[i]? = some x := by rfl) (hv : Vis X.env.scope x := by first | exact Or.inl rfl | exact Or.inr (Or.inl rfl) | exact Or.inr (Or.inr rfl)) (hd : (x == ("__debug__" : Str)) = false := by decide) (hcd : (x == ("__classdict__" : Str)) = false := by decide) : QE X (.Name x pos) (mVar i) := by
  intro A E s Δ d hr q h
  unfold mVar at h
  split at h
  · rename_i d' hd'
    cases h
    obtain ⟨m, hn, hl⟩ := q.loc
    obtain ⟨u, qv, l⟩ := hl i x _ hN hd' hv
    have fin : Qv X.g u _ ∧ Keeps s s := ⟨qv, kp_refl s⟩
    rcases l with ⟨hk, hm⟩ | ⟨hk, c, hc, hcell⟩
    · exact wpAny_Name (wpAny_loadName_local q.kind hk hn hm fin) hd
    · rcases hk with hk | hk
      · exact wpAny_Name (wpAny_loadName_cell q.kind hk hc hcell fin) hd
      · exact wpAny_Name (wpAny_loadName_free q.kind hk hc hcell fin hcd) hd
  · cases h
theorem y_int {i : Int} {j : Nat} : QE X (.Constant (.int i) j pos) (mC (.int i)) := fun A E s Δ d hr q h => by cases h; exact wpAny_Constant_int ⟨.int i _, kp_tok _ _⟩
theorem y_bl {i : Bool} {j : Nat} : QE X (.Constant (.bool i) j pos) (mC (.bl i)) := fun A E s Δ d hr q h => by cases h; exact Constant_bool ⟨.bl i, kp_refl _⟩
theorem y_non {j : Nat} : QE X (.Constant .none j pos) (mC .non) := fun A E s Δ d hr q h => by cases h; exact Constant_none ⟨.non, kp_refl _⟩
theorem y_str {i : Str} {j : Nat} : QE X (.Constant (.str i) j pos) (mC (.str i)) := fun A E s Δ d hr q h => by cases h; exact Calls.Constant_str ⟨.str i _, kp_tok _ _⟩
/-- a global name -/
theorem q_ld {A : Around} {E : Value → Shared → Prop} {s : Shared} {Δ : Fd} {u : Value} {Q : Value → Shared → Prop} (q : Qs X s Δ) (hg : QGl X x) (hm : X.mg x = some u) (h : Q u s) (hd : (x == ("__debug__" : Str)) = false) : wpAny (model X.prog X.w) A (eval (.Name x pos) X.env) Q E s :=
  Calls.Name_function_global q.kind hg (Calls.loadGlobal_global (by rw [q.glob]; exact q.mod.glob.keeps fun b o e => (q.bs b o e).2) hm h) hd
theorem q_ldB {A : Around} {E : Value → Shared → Prop} {s : Shared} {Δ : Fd} {u : Value} {Q : Value → Shared → Prop} (q : Qs X s Δ) (hg : QGl X x) (hm : X.mg x = none) (hv : bootBuiltins x = some u) (h : Q u s) (hn : x ≠ "__name__") (hd : (x == ("__debug__" : Str)) = false) : wpAny (model X.prog X.w) A (eval (.Name x pos) X.env) Q E s := by
  obtain ⟨mb, h1, h2⟩ := q.mod.blt
  have bk : ∀ b o, X.base.get? b = some o → s.heap.get? b = some o := fun b o e => (q.bs b o e).2
  exact Calls.Name_function_global q.kind hg (Calls.loadGlobal_builtin (by rw [q.glob]; exact q.mod.glob.keeps bk) hm (by rw [q.blt]; exact h1.keeps bk) ((h2 x hn).trans hv) h) hd
theorem y_glI {i : Int} {t : Tok} (hm : X.mg x = some (.int i t)) (hg : QGl X x := by rfl) (hd : (x == ("__debug__" : Str)) = false := by decide) : QE X (.Name x pos) (mC (.int i)) := fun A E s Δ d hr q h => by cases h; exact q_ld q hg hm ⟨.int i t, kp_refl _⟩ hd
theorem y_ty {n : String} (hm : X.mg x = none) (hv : bootBuiltins x = some (.type n)) (hg : QGl X x := by rfl) (hn : x ≠ "__name__" := by decide) (hd : (x == ("__debug__" : Str)) = false := by decide) : QE X (.Name x pos) (mC (.ty n)) := fun A E s Δ d hr q h => by cases h; exact q_ldB q hg hm hv ⟨.ty n, kp_refl _⟩ hn hd
/-! arguments -/
theorem ya_nil : QA X [] mNil := fun _ A E s Δ d hr q h => by cases h; exact Calls.spliced_nil ⟨.nil, kp_refl _⟩
theorem ya_cons (h1 : QE X e me) (h2 : QA X es mas) (hs : starEach (e :: es) X.env = (false, eval e X.env) :: starEach es X.env := by rfl) : QA X (e :: es) (mCons me mas) := by
  intro pos A E s Δ ds hr q h
  obtain ⟨d1, e1, h⟩ := md_bind h
  obtain ⟨d2, e2, h⟩ := md_bind h
  cases h
  rw [hs]
  show wpAny _ _ (spliced ((false, eval e X.env) :: backTo pos (starEach es X.env))) _ _ s
  refine Calls.spliced_cons (thn (h1 A E s Δ d1 hr q e1) fun u s1 ⟨v1, k1⟩ => ?_)
  exact thn (h2 pos A E s1 Δ d2 hr (q.keep k1) e2) fun us s2 ⟨v2, k2⟩ => ⟨.cons v1 v2, kp_trans k1 k2⟩
/-! calls -/
theorem q_callF {A : Around} {E : Value → Shared → Prop} {s : Shared} {Δ : Fd} {ds : List Dt} {d : Dt} (F : QDef X.prog X.w X.K X.mg X.base j x n mir) (hj : j ≤ X.k) (hr : Room X.k A) (q : Qs X s Δ) (h : QA X (e :: es) mas) (e1 : mas Δ = .ok ds) (hn : ds.length = n) (e2 : mir ds = .ok d) (hg : QGl X x)
    (hdb : (x == ("__debug__" : Str)) = false) (he : starEach (e :: es) X.env = (false, eval e X.env) :: starEach es X.env) (hpl : (backTo pos (starEach es X.env)).any (·.1) = false) :
    wpAny (model X.prog X.w) A (eval (.Call (.Name x p) (e :: es) [] pos) X.env) (fun u s' => Qv X.g u d ∧ Keeps s s') E s := by
  obtain ⟨f, hm, hk, run⟩ := F.ex
  refine wpAny_Call_Name_kw (q_ld q hg hm ?_ hdb)
  have bk : ∀ b o, X.base.get? b = some o → s.heap.get? b = some o := fun b o e => (q.bs b o e).2
  refine PySem.W.callWith_K (h₀ := X.base) q.mod.kin hk (thn (h pos A E s Δ ds hr q e1) fun us s1 ⟨v1, k1⟩ => ?_) he hpl
  have q1 := q.keep k1
  refine ⟨q.mod.kin.keeps fun b o e => (q1.bs b o e).2, ?_⟩
  exact thn (run A E s1 X.g us ds d (hr.mono hj) q.mod (fun b o e => (q1.bs b o e).2) (fun b o e => (q1.gs b o e).2) v1 hn e2) fun u s2 ⟨v2, k2⟩ => ⟨v2, kp_trans k1 k2⟩
theorem y_call (F : QDef X.prog X.w X.K X.mg X.base j x n mir) (h : QA X (e :: es) mas) (hj : j ≤ X.k := by exact Nat.le_of_ble_eq_true rfl) (hg : QGl X x := by rfl) (hdb : (x == ("__debug__" : Str)) = false := by decide) (he : starEach (e :: es) X.env = (false, eval e X.env) :: starEach es X.env := by rfl)
    (hpl : (backTo pos (starEach es X.env)).any (·.1) = false := by rfl) : QE X (.Call (.Name x p) (e :: es) [] pos) (mCall n mir mas) := by
  intro A E s Δ d hr q w
  obtain ⟨ds, e1, w⟩ := md_bind w
  by_cases hn : ds.length = n
  · rw [if_pos hn] at w
    exact q_callF F hj hr q h e1 hn w hg hdb he hpl
  · rw [if_neg hn] at w
    cases w
theorem y_len (hm : X.mg "len" = none) (ha : QE X a ma) (hg : QGl X "len" := by rfl) (hs : starEach [a] X.env = (false, eval a X.env) :: starEach [] X.env := by rfl) : QE X (.Call (.Name "len" p) [a] [] pos) (mU dLen ma) := by
  intro A E s Δ d hr q w
  obtain ⟨d1, e1, w⟩ := md_bind w
  have hl := line63
  have hz : sizeLine = 16777216 := sizeLine_eq
  refine wpAny_Call_Name_kw (q_ldB q hg hm (u := .builtin "len") (by decide +kernel) ?_ (by decide) (by decide))
  refine PyProof.Rows.callWith_builtin1 (thn (ya_cons ha ya_nil hs pos A E s Δ [d1] hr q (by unfold mCons mNil; rw [e1]; rfl)) fun us s1 ⟨v1, k1⟩ => ?_) hs rfl
  have q1 := q.keep k1
  cases v1 with
  | cons v1 v2 =>
    cases v2
    cases v1 with
    | lst g1 g2 g3 g4 g5 =>
      cases w
      have hlen := g5.length
      refine Calls.call_len_list ⟨_, (q1.gs _ _ g1).2, g2, _, g3⟩ (by simp only [List.size_toArray]; omega) ⟨?_, kp_trans k1 (kp_tok _ _)⟩
      simp only [List.size_toArray]
      rw [hlen]
      exact .int _ _
    | tup g1 g2 g3 g4 g5 =>
      cases w
      have hlen := g5.length
      refine len_tuple ⟨_, (q1.gs _ _ g1).2, g2, _, g3⟩ (by simp only [List.size_toArray]; omega) ⟨?_, kp_trans k1 (kp_tok _ _)⟩
      simp only [List.size_toArray]
      rw [hlen]
      exact .int _ _
    | str x t =>
      have w : (if x.length ≤ 16777216 then Md.ok (Dt.int (x.length : Int)) else .bad) = .ok d := w
      by_cases h9 : x.length ≤ 16777216
      · rw [if_pos h9] at w
        cases w
        exact len_str (by omega) ⟨.int _ _, kp_trans k1 (kp_tok _ _)⟩
      · rw [if_neg h9] at w
        cases w
    | _ => cases w
theorem y_type (hm : X.mg "type" = none) (ha : QE X a ma) (hg : QGl X "type" := by rfl) (hs : starEach [a] X.env = (false, eval a X.env) :: starEach [] X.env := by rfl) : QE X (.Call (.Name "type" p) [a] [] pos) (mU dType ma) := by
  intro A E s Δ d hr q w
  obtain ⟨d1, e1, w⟩ := md_bind w
  refine wpAny_Call_Name_kw (q_ldB q hg hm (u := .type "type") (by decide +kernel) ?_ (by decide) (by decide))
  refine PyProof.Rows.callWith_type1 (thn (ya_cons ha ya_nil hs pos A E s Δ [d1] hr q (by unfold mCons mNil; rw [e1]; rfl)) fun us s1 ⟨v1, k1⟩ => ?_) hs rfl
  have q1 := q.keep k1
  cases v1 with
  | cons v1 v2 =>
    cases v2
    cases v1 with
    | non => cases w; exact call_type_of (Tx := "NoneType") rfl (by decide +kernel) ⟨.ty _, k1⟩
    | bl _ => cases w; exact call_type_of (Tx := "bool") rfl (by decide +kernel) ⟨.ty _, k1⟩
    | int _ _ => cases w; exact call_type_of (Tx := "int") rfl (by decide +kernel) ⟨.ty _, k1⟩
    | str _ _ => cases w; exact call_type_of (Tx := "str") rfl (by decide +kernel) ⟨.ty _, k1⟩
    | ty _ => cases w
    | lst g1 g2 g3 g4 g5 => cases w; exact call_type_of (Tx := "list") ⟨_, (q1.gs _ _ g1).2, g2⟩ (by decide +kernel) ⟨.ty _, k1⟩
    | tup g1 g2 g3 g4 g5 => cases w; exact call_type_of (Tx := "tuple") ⟨_, (q1.gs _ _ g1).2, g2⟩ (by decide +kernel) ⟨.ty _, k1⟩
    | dic g1 g2 => cases w; exact call_type_of (Tx := "dict") ⟨_, (q1.gs _ _ g1).2, g2⟩ (by decide +kernel) ⟨.ty _, k1⟩
end
end Mr
namespace Mr
open PySem L2 PySem.Spec PyProof.Rows

/-! ### quiet comparisons -/
def QOp (X : Qx) (op : CmpOp) (f : Dt → Dt → Md Dt) : Prop := ∀ (A : Around) (E : Value → Shared → Prop) (s : Shared) (a b d : Dt) (u v : Value), Qv X.g u a → Qv X.g v b → f a b = .ok d →
  wpAny (model X.prog X.w) A (compareOp op u v) (fun r s' => (∃ k, r = .bool k ∧ d = .bl k) ∧ Keeps s s') E s
section
variable {X : Qx} {x : Str} {p pos p2 : Pos} {e a b c : Expr} {es : List Expr} {me ma mb mc : Fd → Md Dt} {mt mu : Fd → Md Bool} {mas : Fd → Md (List Dt)} {mo mp : Fd → Md Out} {j k n : Nat} {mir : List Dt → Md Dt}
theorem qo_int {op : CmpOp} {f : Int → Int → Bool} (rule : ∀ (A : Around) (E : Value → Shared → Prop) (i j : Int) (t u : Tok) (Q : Value → Shared → Prop) (s : Shared), Q (.bool (f i j)) s → wpAny (model X.prog X.w) A (compareOp op (.int i t) (.int j u)) Q E s) : QOp X op (dI fun i j => .bl (f i j)) := by
  intro A E s a b d u v ha hb h
  cases ha with
  | int i t =>
    cases hb with
    | int i' t' => cases h; exact rule A E i i' t t' _ s ⟨⟨_, rfl, rfl⟩, kp_refl s⟩
    | _ => cases h
  | _ => cases h
theorem qo_lt : QOp X .Lt dLt := qo_int fun _ _ _ _ _ _ _ _ h => lt_int h
theorem qo_le : QOp X .LtE dLe := qo_int fun _ _ _ _ _ _ _ _ h => le_int h
theorem qo_gt : QOp X .Gt dGt := qo_int fun _ _ _ _ _ _ _ _ h => gt_int h
theorem qo_ge : QOp X .GtE dGe := qo_int fun _ _ _ _ _ _ _ _ h => ge_int h
theorem qo_is : QOp X .Is dIs := by
  intro A E s a b d u v ha hb h
  cases ha with
  | ty m =>
    cases hb with
    | ty n =>
      cases h
      by_cases e : m = n
      · subst e
        exact wpAny_is_self rfl ⟨⟨true, rfl, by simp⟩, kp_refl s⟩
      · exact wpAny_is_other rfl (fun z => e (Value.type.inj z)) ⟨⟨false, rfl, by simp [e]⟩, kp_refl s⟩
    | _ => cases h
  | _ => cases h
theorem qo_isNot : QOp X .IsNot dIsNot := by
  intro A E s a b d u v ha hb h
  cases ha with
  | ty m =>
    cases hb with
    | ty n =>
      cases h
      by_cases e : m = n
      · subst e
        exact wpAny_isNot_self rfl ⟨⟨false, rfl, by simp⟩, kp_refl s⟩
      · exact wpAny_isNot_other rfl (fun z => e (Value.type.inj z)) ⟨⟨true, rfl, by simp [e]⟩, kp_refl s⟩
    | _ => cases h
  | _ => cases h
theorem y_cmp {op : CmpOp} {f : Dt → Dt → Md Dt} (h : QOp X op f) (ha : QE X a ma) (hb : QE X b mb) (hm : behindInMarks op b = false := by first | exact nomark _ | rfl) : QE X (.Compare a [op] [b] pos) (mBin f ma mb) := by
  intro A E s Δ d hr q w
  obtain ⟨d1, e1, w⟩ := md_bind w
  obtain ⟨d2, e2, w⟩ := md_bind w
  refine wpAny_Compare1 (thn (ha A E s Δ d1 hr q e1) fun u s1 ⟨v1, k1⟩ => thn (hb A E s1 Δ d2 hr (q.keep k1) e2) fun v s2 ⟨v2, k2⟩ => ?_) hm
  refine thn (h A E s2 d1 d2 d u v v1 v2 w) fun r s3 ⟨⟨k, e3, e4⟩, k3⟩ => ?_
  subst e3
  subst e4
  exact ⟨.bl k, kp_trans k1 (kp_trans k2 k3)⟩
theorem yt_cmp {op : CmpOp} {f : Dt → Dt → Md Dt} (h : QOp X op f) (ha : QE X a ma) (hb : QE X b mb) (hm : behindInMarks op b = false := by first | exact nomark _ | rfl) : QT X (.Compare a [op] [b] pos) (mT (mBin f ma mb)) := by
  intro A E s Δ q0 hr q w
  obtain ⟨d0, w, e0⟩ := md_bind w
  obtain ⟨d1, e1, w⟩ := md_bind w
  obtain ⟨d2, e2, w⟩ := md_bind w
  refine wpAny_isTrue_Compare1 (thn (ha A E s Δ d1 hr q e1) fun u s1 ⟨v1, k1⟩ => thn (hb A E s1 Δ d2 hr (q.keep k1) e2) fun v s2 ⟨v2, k2⟩ => ?_) hm
  refine thn (h A E s2 d1 d2 d0 u v v1 v2 w) fun r s3 ⟨⟨k, e3, e4⟩, k3⟩ => ?_
  subst e3
  subst e4
  cases e0
  exact wpAny_truthy_bool ⟨rfl, kp_trans k1 (kp_trans k2 k3)⟩
/-- == and != of ints -/
def IntM (m : Fd → Md Dt) : Prop := ∀ Δ d, m Δ = .ok d → ∃ i, d = .int i
theorem intM_c {i : Int} : IntM (mC (.int i)) := fun Δ d h => by cases h; exact ⟨i, rfl⟩
theorem intM_len : IntM (mU dLen ma) := fun Δ d h => by
  obtain ⟨d1, _, h⟩ := md_bind h
  cases d1 with
  | str x =>
    have h : (if x.length ≤ 16777216 then Md.ok (Dt.int (x.length : Int)) else .bad) = .ok d := h
    by_cases h9 : x.length ≤ 16777216
    · rw [if_pos h9] at h; cases h; exact ⟨_, rfl⟩
    · rw [if_neg h9] at h; cases h
  | lst _ => cases h; exact ⟨_, rfl⟩
  | lsk _ => cases h; exact ⟨_, rfl⟩
  | tup _ => cases h; exact ⟨_, rfl⟩
  | tpk _ => cases h; exact ⟨_, rfl⟩
  | _ => cases h
theorem dNe_int (i j : Int) : dNe (.int i) (.int j) = .ok (.bl (!(i == j))) := by
  first
  | rfl
  | (unfold dNe dEqv; rfl)
  | (unfold dNe dEqv toP; simp [Md.bind])
theorem dEq_int (i j : Int) : dEq (.int i) (.int j) = .ok (.bl (i == j)) := by
  first
  | rfl
  | (unfold dEq dEqv; rfl)
  | (unfold dEq dEqv toP; simp [Md.bind])
theorem yt_neI (i1 : IntM ma) (i2 : IntM mb) (ha : QE X a ma) (hb : QE X b mb) (hm : behindInMarks .NotEq b = false := by first | exact nomark _ | rfl) : QT X (.Compare a [.NotEq] [b] pos) (mT (mBin dNe ma mb)) := by
  intro A E s Δ q0 hr q w
  obtain ⟨d0, w, e0⟩ := md_bind w
  obtain ⟨d1, e1, w⟩ := md_bind w
  obtain ⟨d2, e2, w⟩ := md_bind w
  obtain ⟨i, rfl⟩ := i1 _ _ e1
  obtain ⟨i', rfl⟩ := i2 _ _ e2
  rw [dNe_int] at w
  cases w
  cases e0
  refine wpAny_isTrue_Compare1 (thn (ha A E s Δ _ hr q e1) fun u s1 ⟨v1, k1⟩ => thn (hb A E s1 Δ _ hr (q.keep k1) e2) fun v s2 ⟨v2, k2⟩ => ?_) hm
  cases v1
  cases v2
  exact ne_int (wpAny_truthy_bool ⟨rfl, kp_trans k1 k2⟩)
theorem yt_eqI (i1 : IntM ma) (i2 : IntM mb) (ha : QE X a ma) (hb : QE X b mb) (hm : behindInMarks .Eq b = false := by first | exact nomark _ | rfl) : QT X (.Compare a [.Eq] [b] pos) (mT (mBin dEq ma mb)) := by
  intro A E s Δ q0 hr q w
  obtain ⟨d0, w, e0⟩ := md_bind w
  obtain ⟨d1, e1, w⟩ := md_bind w
  obtain ⟨d2, e2, w⟩ := md_bind w
  obtain ⟨i, rfl⟩ := i1 _ _ e1
  obtain ⟨i', rfl⟩ := i2 _ _ e2
  rw [dEq_int] at w
  cases w
  cases e0
  refine wpAny_isTrue_Compare1 (thn (ha A E s Δ _ hr q e1) fun u s1 ⟨v1, k1⟩ => thn (hb A E s1 Δ _ hr (q.keep k1) e2) fun v s2 ⟨v2, k2⟩ => ?_) hm
  cases v1
  cases v2
  exact eq_int (wpAny_truthy_bool ⟨rfl, kp_trans k1 k2⟩)
/-- a chain of two -/
theorem y_chain {op op' : CmpOp} {f g : Dt → Dt → Md Dt} (h1 : QOp X op f) (h2 : QOp X op' g) (ha : QE X a ma) (hb : QE X b mb) (hc : QE X c mc) (hm : lastMarks [op, op'] [b, c] = false := by with_unfolding_all rfl) : QE X (.Compare a [op, op'] [b, c] pos) (mChn f g ma mb mc) := by
  intro A E s Δ d hr q w
  obtain ⟨d1, e1, w⟩ := md_bind w
  obtain ⟨d2, e2, w⟩ := md_bind w
  obtain ⟨d3, e3, w⟩ := md_bind w
  refine Compare_chain (thn (ha A E s Δ d1 hr q e1) fun u s1 ⟨v1, k1⟩ => chain_link (thn (hb A E s1 Δ d2 hr (q.keep k1) e2) fun v s2 ⟨v2, k2⟩ =>
    thn (h1 A E s2 d1 d2 d3 u v v1 v2 e3) fun r s3 ⟨⟨k, e4, e5⟩, k3⟩ => ?_)) hm
  subst e4
  subst e5
  refine wpAny_truthy_bool ?_
  have k13 := kp_trans k1 (kp_trans k2 k3)
  cases k with
  | false => cases w; exact ite_ff ⟨.bl false, k13⟩
  | true =>
    obtain ⟨d4, e6, w⟩ := md_bind (show (mc Δ).bind (fun u => g d2 u) = .ok d from w)
    refine ite_tt (chain_last (thn (hc A E s3 Δ d4 hr (q.keep k13) e6) fun u' s4 ⟨v4, k4⟩ => thn (h2 A E s4 d2 d4 d v u' v2 v4 w) fun r s5 ⟨⟨k', e7, e8⟩, k5⟩ => ?_))
    subst e7
    subst e8
    exact ⟨.bl k', kp_trans k13 (kp_trans k4 k5)⟩
/-! and, or, not, if -/
theorem y_one {op : BoolOp} (h : QE X a ma) : QE X (.BoolOp op [a] pos) ma := fun A E s Δ d hr q w => BoolOp_one (h A E s Δ d hr q w)
theorem mT_ok {Δ : Fd} {k : Bool} (h : mT ma Δ = .ok k) : ma Δ = .ok (.bl k) := by
  obtain ⟨d, e, h⟩ := md_bind h
  cases d with
  | bl q => cases h; exact e
  | _ => cases h
theorem y_and {rest : List Expr} (ha : QE X a ma) (hb : QE X (.BoolOp .And (b :: rest) pos) mb) : QE X (.BoolOp .And (a :: b :: rest) pos) (mAndV ma mb) := by
  intro A E s Δ d hr q w
  obtain ⟨k, e1, w⟩ := md_bind w
  refine BoolOp_and (thn (ha A E s Δ _ hr q (mT_ok e1)) fun u s1 ⟨v1, k1⟩ => ?_)
  cases v1
  refine wpAny_truthy_bool ?_
  cases k with
  | true => exact thn (hb A E s1 Δ d hr (q.keep k1) w) fun u2 s2 ⟨v2, k2⟩ => ⟨v2, kp_trans k1 k2⟩
  | false => cases w; exact ⟨.bl false, k1⟩
theorem y_or {rest : List Expr} (ha : QE X a ma) (hb : QE X (.BoolOp .Or (b :: rest) pos) mb) : QE X (.BoolOp .Or (a :: b :: rest) pos) (mOrV ma mb) := by
  intro A E s Δ d hr q w
  obtain ⟨k, e1, w⟩ := md_bind w
  refine BoolOp_or (thn (ha A E s Δ _ hr q (mT_ok e1)) fun u s1 ⟨v1, k1⟩ => ?_)
  cases v1
  refine wpAny_truthy_bool ?_
  cases k with
  | true => cases w; exact ⟨.bl true, k1⟩
  | false => exact thn (hb A E s1 Δ d hr (q.keep k1) w) fun u2 s2 ⟨v2, k2⟩ => ⟨v2, kp_trans k1 k2⟩
theorem y_not (ha : QE X a ma) : QE X (.UnaryOp .Not a pos) (mNotV ma) := by
  intro A E s Δ d hr q w
  obtain ⟨k, e1, w⟩ := md_bind w
  cases w
  refine UnaryOp_ (thn (ha A E s Δ _ hr q (mT_ok e1)) fun u s1 ⟨v1, k1⟩ => ?_)
  cases v1
  exact PyProof.Rows.not_of (wpAny_truthy_bool ⟨.bl (!k), k1⟩)
theorem yt_val (h : QE X e me) (he : ∀ whole, isTrue e X.env whole = (do let v ← whole; standAt e.pos; holding [v] (truthy v)) := by intro _; rfl) : QT X e (mT me) := by
  intro A E s Δ b hr q w
  refine isTrue_plain (thn (h A E s Δ _ hr q (mT_ok w)) fun u s1 ⟨v1, k1⟩ => ?_) (he _)
  cases v1
  exact wpAny_truthy_bool ⟨rfl, k1⟩
theorem yt_chain {op op' : CmpOp} {f g : Dt → Dt → Md Dt} (h1 : QOp X op f) (h2 : QOp X op' g) (ha : QE X a ma) (hb : QE X b mb) (hc : QE X c mc) (hm : lastMarks [op, op'] [b, c] = false := by with_unfolding_all rfl) : QT X (.Compare a [op, op'] [b, c] pos) (mT (mChn f g ma mb mc)) := by
  intro A E s Δ q0 hr q w
  obtain ⟨d1, e1, w⟩ := md_bind (mT_ok w)
  obtain ⟨d2, e2, w⟩ := md_bind w
  obtain ⟨d3, e3, w⟩ := md_bind w
  refine isTrue_chain (thn (ha A E s Δ d1 hr q e1) fun u s1 ⟨v1, k1⟩ => test_link (thn (hb A E s1 Δ d2 hr (q.keep k1) e2) fun v s2 ⟨v2, k2⟩ =>
    thn (h1 A E s2 d1 d2 d3 u v v1 v2 e3) fun r s3 ⟨⟨k, e4, e5⟩, k3⟩ => ?_)) hm
  subst e4
  subst e5
  refine wpAny_truthy_bool ?_
  have k13 := kp_trans k1 (kp_trans k2 k3)
  cases k with
  | false => cases w; exact ite_ff ⟨rfl, k13⟩
  | true =>
    obtain ⟨d4, e6, w⟩ := md_bind (show (mc Δ).bind (fun u => g d2 u) = .ok (.bl q0) from w)
    refine ite_tt (test_last (thn (hc A E s3 Δ d4 hr (q.keep k13) e6) fun u' s4 ⟨v4, k4⟩ => thn (h2 A E s4 d2 d4 _ v u' v2 v4 w) fun r s5 ⟨⟨k', e7, e8⟩, k5⟩ => ?_))
    subst e7
    cases e8
    exact wpAny_truthy_bool ⟨rfl, kp_trans k13 (kp_trans k4 k5)⟩
theorem yw_t (h : QW X e mt) : QT X e mt := h _
theorem yw_and1 (h : QT X a mt) : QW X (.BoolOp .And [a] pos) mt := fun wh A E s Δ b hr q w => isTrue_and (thn (h A E s Δ b hr q w) fun c s1 ⟨e1, k1⟩ => by
  subst e1
  cases c with
  | true => exact isTrue_and_nil ⟨rfl, k1⟩
  | false => exact ⟨rfl, k1⟩)
theorem yw_or1 (h : QT X a mt) : QW X (.BoolOp .Or [a] pos) mt := fun wh A E s Δ b hr q w => isTrue_or (thn (h A E s Δ b hr q w) fun c s1 ⟨e1, k1⟩ => by
  subst e1
  cases c with
  | false => exact isTrue_or_nil ⟨rfl, k1⟩
  | true => exact ⟨rfl, k1⟩)
theorem yw_and {rest : List Expr} (h : QT X a mt) (h2 : QW X (.BoolOp .And (b :: rest) pos) mu) : QW X (.BoolOp .And (a :: b :: rest) pos) (mAnd mt mu) := fun wh A E s Δ r hr q w => by
  obtain ⟨k, e, w⟩ := md_bind w
  refine isTrue_and (thn (h A E s Δ k hr q e) fun c s1 ⟨e1, k1⟩ => ?_)
  subst e1
  cases c with
  | true => exact thn (h2 wh A E s1 Δ r hr (q.keep k1) w) fun c2 s2 ⟨e2, k2⟩ => ⟨e2, kp_trans k1 k2⟩
  | false => cases w; exact ⟨rfl, k1⟩
theorem yw_or {rest : List Expr} (h : QT X a mt) (h2 : QW X (.BoolOp .Or (b :: rest) pos) mu) : QW X (.BoolOp .Or (a :: b :: rest) pos) (mOr mt mu) := fun wh A E s Δ r hr q w => by
  obtain ⟨k, e, w⟩ := md_bind w
  refine isTrue_or (thn (h A E s Δ k hr q e) fun c s1 ⟨e1, k1⟩ => ?_)
  subst e1
  cases c with
  | true => cases w; exact ⟨rfl, k1⟩
  | false => exact thn (h2 wh A E s1 Δ r hr (q.keep k1) w) fun c2 s2 ⟨e2, k2⟩ => ⟨e2, kp_trans k1 k2⟩
theorem yt_not (h : QT X a mt) : QT X (.UnaryOp .Not a pos) (mNot mt) := fun A E s Δ r hr q w => by
  obtain ⟨k, e, w⟩ := md_bind w
  cases w
  exact isTrue_not (thn (h A E s Δ k hr q e) fun c s1 ⟨e1, k1⟩ => by subst e1; exact ⟨rfl, k1⟩)
/-! statements -/
theorem yb_nil : QB X [] mNext := fun A E s Δ o hr q w => by cases w; exact wpAny_execs_nil ⟨q, .of (kp_refl s)⟩
theorem QEnd.after {s s1 s' : Shared} {o : Out} {fl : Flow} (k : Kb X.env.locals s s1) (h : QEnd X s1 o fl s') : QEnd X s o fl s' := by
  cases o with
  | rt d =>
    cases fl with
    | ret u => exact ⟨h.1, k.trans h.2⟩
    | _ => exact h.elim
  | nx Δ =>
    cases fl with
    | next => exact ⟨h.1, k.trans h.2⟩
    | _ => exact h.elim
  | bk _ => exact h.elim
  | ct _ => exact h.elim
theorem yb_one {st : Stmt} (h : QS X st mo) : QB X [st] mo := fun A E s Δ o hr q w => wpAny_execs_cons (thn (h A E s Δ o hr q w) fun fl s1 r => by
  cases fl with
  | next => exact wpAny_execs_nil r
  | ret v => exact r
  | brk => exact r
  | cont => exact r)
theorem yb_cons {st : Stmt} {rest : List Stmt} (h : QS X st mo) (h2 : QB X rest mp) : QB X (st :: rest) (mSeq mo mp) := fun A E s Δ o hr q w => by
  obtain ⟨o1, e1, w⟩ := md_bind w
  refine wpAny_execs_cons (thn (h A E s Δ o1 hr q e1) fun fl s1 r => ?_)
  cases o1 with
  | nx Δ' =>
    cases fl with
    | next => exact thn (h2 A E s1 Δ' o hr r.1 w) fun fl2 s2 r2 => r2.after r.2
    | _ => exact r.elim
  | rt d =>
    cases w
    cases fl with
    | ret u => exact r
    | _ => exact r.elim
  | bk _ => exact (by cases fl <;> exact r.elim)
  | ct _ => exact (by cases fl <;> exact r.elim)
theorem ys_if {as bs : List Stmt} (hc : QT X c mt) (h1 : QB X as mo) (h2 : QB X bs mp) : QS X (.If c as bs pos) (mIfS mt mo mp) := fun A E s Δ o hr q w => by
  obtain ⟨k, e, w⟩ := md_bind w
  refine wpAny_If (thn (hc A E s Δ k hr q e) fun d s1 ⟨e1, k1⟩ => ?_)
  subst e1
  cases d with
  | true => exact thn (h1 A E s1 Δ o hr (q.keep k1) w) fun fl s2 r => r.after (.of k1)
  | false => exact thn (h2 A E s1 Δ o hr (q.keep k1) w) fun fl s2 r => r.after (.of k1)
theorem ys_ret (h : QE X e me) : QS X (.Return (some e) pos) (mRet me) := fun A E s Δ o hr q w => by
  obtain ⟨d, e1, w⟩ := md_bind w
  cases w
  exact wpAny_Return_some (thn (h A E s Δ d hr q e1) fun u s1 ⟨v1, k1⟩ => ⟨v1, .of k1⟩)
end
end Mr
namespace Mr
open PySem L2 PySem.Spec PyProof.Rows

/-! ### quiet stores -/
def QGs (X : Qx) (es : List Expr) (tg : List Dt → Fd → Md Fd) : Prop := ∀ (A : Around) (E : Value → Shared → Prop) (s : Shared) (Δ Δ' : Fd) (us : List Value) (ds : List Dt), Qs X s Δ → Qvs X.g us ds → tg ds Δ = .ok Δ' →
  wpAny (model X.prog X.w) A (assignInOrder ((assignEach es X.env).map (·.2)) us) (fun _ s' => Qs X s' Δ' ∧ Kb X.env.locals s s') E s
section
variable {X : Qx} {x : Str} {p pos p2 : Pos} {e : Expr} {es : List Expr} {me : Fd → Md Dt} {tg : List Dt → Fd → Md Fd}
theorem q_store {A : Around} {E : Value → Shared → Prop} {s : Shared} {Δ : Fd} {u : Value} {d : Dt} (i : Nat) (q : Qs X s Δ) (hN : X.N[i]? = some x) (hx : X.env.scope.names.lookup x = some .local) (hc : X.env.cells = []) (v : Qv X.g u d) :
    wpAny (model X.prog X.w) A (storeName X.env x u) (fun _ s' => Qs X s' (Δ.set i (.sh d)) ∧ Kb X.env.locals s s') E s := by
  obtain ⟨m, hn, hl⟩ := q.loc
  refine wpAny_storeName_local hx hn (fun h' hn' hs => ?_) (by rw [q.kind]; rfl)
  have kb : ∀ b o, b ≠ X.env.locals → s.heap.get? b = some o → h'.get? b = some o := fun b o n e => (hs.2 b n).trans e
  refine ⟨⟨q.mod, q.kind, q.glob, q.blt, q.nd, fun b o e => ⟨(q.bs b o e).1, kb b o (q.bs b o e).1 (q.bs b o e).2⟩, fun b o e => ⟨(q.gs b o e).1, kb b o (q.gs b o e).1 (q.gs b o e).2⟩, _, hn', fun j y d' h1 h2 h3 => ?_⟩, ⟨h', _, rfl, kb⟩⟩
  by_cases hj : i = j
  · subst hj
    have hlt : i < Δ.length := by
      have h9 := (List.getElem?_eq_some_iff.mp h2).1
      rw [List.length_set] at h9
      exact h9
    rw [List.getElem?_set_self hlt] at h2
    cases h2
    rw [hN] at h1
    cases h1
    exact ⟨u, v, .inl ⟨hx, by simp⟩⟩
  · rw [List.getElem?_set_ne hj] at h2
    obtain ⟨u', v', l⟩ := hl j y d' h1 h2 h3
    have ne : y ≠ x := fun z => by
      subst z
      exact hj (nodup_ix q.nd hN h1)
    refine ⟨u', v', ?_⟩
    rcases l with ⟨l1, l2⟩ | ⟨a, c, e1, _⟩
    · exact .inl ⟨l1, by simp only [ne, if_false]; exact l2⟩
    · rw [hc] at e1
      cases e1
theorem yg_nil : QGs X [] gsNil := fun A E s Δ Δ' us ds q v h => by
  unfold gsNil at h
  split at h
  · cases h
    cases v
    exact assignInOrder_nil ⟨q, .of (kp_refl s)⟩
  · cases h
theorem yg_name (i : Nat) (h2 : QGs X es tg) (hN : X.N[i]? = some x := by rfl) (hx : X.env.scope.names.lookup x = some .local := by rfl) (hc : X.env.cells = [] := by rfl)
    (hs : (assignEach (.Name x pos :: es) X.env).map (·.2) = assign (.Name x pos) X.env :: (assignEach es X.env).map (·.2) := by rfl) : QGs X (.Name x pos :: es) (gsCons (gsName i) tg) := fun A E s Δ Δ' us ds q v h => by
  unfold gsCons at h
  split at h
  · obtain ⟨Δ1, e1, h⟩ := md_bind h
    cases e1
    cases v with
    | cons v1 v2 =>
      rw [hs]
      refine assignInOrder_cons (wpAny_assign_Name (thn (q_store i q hN hx hc v1) fun _ s1 ⟨q1, k1⟩ => ?_))
      exact thn (h2 A E s1 _ Δ' _ _ q1 v2 h) fun _ s2 ⟨q2, k2⟩ => ⟨q2, k1.trans k2⟩
  · cases h
theorem ys_unp {kk n : Nat} {tpos : Pos} (he : QE X e me) (hg : QGs X es tg) (hn : (assignEach es X.env).length = n := by rfl) (hst : (assignEach es X.env).findIdx? (fun x => x.fst) = none := by rfl)
    (hs : swapsWithSole [.Tuple es kk tpos] e pos.line X.env = pure false := by rfl) (hw : swappedStores [.Tuple es kk tpos] e X.env = pure none := by rfl)
    (h1 : (assignEach [.Tuple es kk tpos] X.env).map (·.2) = [assign (.Tuple es kk tpos) X.env] := by rfl) : QS X (.Assign [.Tuple es kk tpos] e pos) (mAsgT (gsTup n tg) me) := fun A E s Δ o hr q w => by
  obtain ⟨d, e1, w⟩ := md_bind w
  refine wpAny_Assign_stores (thn (he A E s Δ d hr q e1) fun u s1 ⟨v1, k1⟩ => ?_) hs hw
  rw [h1]
  have q1 := q.keep k1
  have e2 : ∃ Δ', gsTup n tg d Δ = .ok Δ' ∧ o = .nx Δ' := by
    revert w
    cases gsTup n tg d Δ with
    | ok Δ' => exact fun w => ⟨Δ', rfl, by cases w; rfl⟩
    | exc c => exact fun w => by cases w
    | bad => exact fun w => by cases w
  obtain ⟨Δ', e2, rfl⟩ := e2
  show wpAny _ A (assign (.Tuple es kk tpos) X.env u) _ _ s1
  cases v1 with
  | @tup a o' its ds n' g1 g2 g3 g4 g5 =>
    have e3 : (if ds.length = n then tg ds Δ else .bad) = .ok Δ' := e2
    by_cases hl : ds.length = n
    · rw [if_pos hl] at e3
      refine assign_Tuple_tuple hr.hd ⟨_, (q1.gs _ _ g1).2, g2, _, g3⟩ (by rw [hn, ← hl, ← g5.length]; simp) hst fun h' hx => ?_
      have k2 : Keeps s1 { s1 with heap := h' } := ⟨h', s1.toks, rfl, fun b o e => hx b o (Nat.ne_of_lt (Heap.lt_size e)) e⟩
      refine thn (hg A E _ Δ Δ' _ ds (q1.keep k2) (by simpa using g5) e3) fun _ s2 ⟨q2, k3⟩ => ⟨q2, ?_⟩
      exact (Kb.of (kp_trans k1 k2)).trans k3
    · rw [if_neg hl] at e3
      cases e3
  | _ => cases e2
end
/-! ### a quiet def -/
abbrev qxOf (P : Program) (w : World) (K : PySem.W.Frag) (mg : Str → Option Value) (base : Heap) (N : List Str) (qual : Str) (scope : Scope) (f : Addr) (cd : Value) (k : Nat) (L : Addr) (g : Oh) : Qx where
  prog := P
  w := w
  K := K
  mg := mg
  base := base
  env := envOfC qual scope L f cd
  N := N
  k := k
  g := g
theorem startD_at {n : Nat} {ds : List Dt} {i : Nat} {d : Dt} (h : (startD n ds)[i]? = some (.sh d)) : ds[i]? = some d := by
  unfold startD at h
  by_cases hi : i < ds.length
  · rw [List.getElem?_append_left (by rw [List.length_map]; exact hi), List.getElem?_map] at h
    cases q : ds[i]? with
    | none => rw [q] at h; cases h
    | some d' => rw [q] at h; cases h; rfl
  · rw [List.getElem?_append_right (by rw [List.length_map]; omega), List.getElem?_replicate] at h
    split at h <;> cases h
theorem q_def {P : Program} {W : World} {K : PySem.W.Frag} {mg : Str → Option Value} {base : Heap} {x : Str} {st : Stmt} {f : Addr} {fd : FuncData} {N ps : List Str} {k n : Nat} {nw : Bool} {ms : Fd → Md Out} (hn : N.length = n) (F : Fun K x x st f fd) (S : FnScope N ps (defScope st)) (hm : mg x = some (.ref f)) (hb : Binds K fd ps [])
    (hcl : ∀ L, cellsFrom L (defScope st).names [] = [])
    (body : ∀ (cdv : Value) (L : Addr) (g : Oh), QB (qxOf P W K mg base N x (defScope st) f cdv k L g) (defBody st) ms) :
    QDef P W K mg base (k + 1) x ps.length (mDef nw n ms) := by
  subst hn
  refine ⟨f, hm, F.kp, fun A E s g us ds d hr mod bk gk v hlen w => ?_⟩
  obtain ⟨oc, od, kV, doc, pm, an, cdv, ct, osl, rfl, lk, hcd⟩ := F.ex
  have KX : K.In s.heap := mod.kin.keeps bk
  have hlu : us.length = ps.length := v.length.trans hlen
  have hpl : ps.length ≤ N.length := by
    have := congrArg List.length S.pre
    rw [List.length_take] at this
    omega
  have hkind : ∀ y ∈ ps.zip us, (defScope st).names.lookup y.1 = some .local ∨ ((defScope st).names.lookup y.1 = some .cell ∧ ((cellsFrom (s.heap.objs.size + 1) (defScope st).names []).lookup y.1).isSome = true) := fun ⟨nm, val⟩ hy => by
    rcases S.par nm (List.of_mem_zip hy).1 with q | q
    · exact .inl q
    · exact .inr ⟨q, PySem.W.cellsFrom_some _ _ _ (.inl q)⟩
  have hb2 := hb s us KX (by rw [List.append_nil]; exact hlu)
  rw [List.append_nil] at hb2
  refine wpAny_call (codeAny_call_function hr.depth (KX _ _ lk) rfl S.co S.gen rfl (PySem.W.codeRec_of KX hcd) (hb2 _ _ _ _ ?_))
  refine wpAny_newFunctionEnv_cells S.kind hkind fun env he s1 xx => ?_
  subst he
  refine ⟨(mod.nolimit.keeps bk).keeps xx.toInCall.keep, codeAny_func ?_⟩
  obtain ⟨o, e1, w⟩ := md_bind w
  have keep1 := xx.toInCall.keep
  have hk1 : Keeps s s1 := by
    obtain ⟨h1, tk, rfl, hk⟩ := xx.done
    exact ⟨h1, tk, rfl, hk⟩
  have q : Qs (qxOf P W K mg base N x (defScope st) f cdv k s.heap.objs.size g) s1 (startD N.length ds) := by
    refine ⟨mod, S.kind, rfl, rfl, S.nd, fun b o e => ⟨Nat.ne_of_lt (Heap.lt_size (bk b o e)), keep1 b o (bk b o e)⟩, fun b o e => ⟨Nat.ne_of_lt (Heap.lt_size (gk b o e)), keep1 b o (gk b o e)⟩, _, xx.toInCall.ns, fun i y d' h1 h2 h3 => ?_⟩
    have h2 := startD_at h2
    have hi : i < ps.length := by
      have := (List.getElem?_eq_some_iff.mp h2).1
      omega
    have hp : ps[i]? = some y := by
      rw [← S.pre, List.getElem?_take_of_lt (by omega)]
      exact h1
    obtain ⟨u, hu, qv⟩ := v.at h2
    have ndP : ps.Nodup := by rw [← S.pre]; exact S.nd.sublist (List.take_sublist _ _)
    rcases S.par y (List.mem_of_getElem? hp) with c1 | c1
    · exact ⟨u, qv, .inl ⟨c1, bindL_get ndP hp hu c1⟩⟩
    · obtain ⟨c, e⟩ := cell_has (n := s.heap.objs.size + 1) c1
      rw [hcl] at e
      cases e
  refine thn (body cdv s.heap.objs.size g (A.deeper _) _ s1 _ o (hr.deeper _) q e1) fun fl s2 r => ?_
  have fin : Kb s.heap.objs.size s1 s2 → Keeps s s2 := fun k2 => by
    obtain ⟨h1, t1, rfl, k1⟩ := hk1
    obtain ⟨h2, t2, rfl, k2⟩ := k2
    exact ⟨h2, t2, rfl, fun b o e => k2 b o (Nat.ne_of_lt (Heap.lt_size e)) (k1 b o e)⟩
  cases o with
  | rt d' =>
    cases w
    cases fl with
    | ret u => exact ⟨r.1, fin r.2⟩
    | _ => exact r.elim
  | nx Δ' =>
    cases fl with
    | next =>
      cases nw with
      | true => cases w
      | false => cases w; exact ⟨.non, fin r.2⟩
    | _ => exact r.elim
  | bk _ => cases w
  | ct _ => cases w
end Mr
namespace Mr
open PySem L2 PySem.Spec PyProof.Rows

/-! ### all(.. for x in a list): the element is quiet code -/
def cut : Sd → Sd
  | .sh d => if qok d = true then .sh d else .un
  | _ => .un
def allB (f : Dt → Md Dt) : List Dt → Option (List Bool)
  | [] => some []
  | d :: r => match f d, allB f r with
    | .ok (.bl q), some bs => some (q :: bs)
    | _, _ => none
def mGen (i : Nat) (fin : List Bool → Bool) (mi : Fd → Md Dt) (me : Fd → Md Dt) : Fd → Md Dt := fun Δ => (mi Δ).bind fun d => match d with
  | .lst ds => if qok.go ds = true ∧ i < Δ.length then (match allB (fun d => me ((Δ.map cut).set i (.sh d))) ds with
    | some bs => .ok (.bl (fin bs))
    | none => .bad) else .bad
  | _ => .bad
theorem allB_cons {f : Dt → Md Dt} {d : Dt} {r : List Dt} {bs : List Bool} (h : allB f (d :: r) = some bs) : ∃ q t, bs = q :: t ∧ f d = .ok (.bl q) ∧ allB f r = some t := by
  unfold allB at h
  split at h
  · rename_i q t e1 e2
    cases h
    exact ⟨q, t, rfl, e1, e2⟩
  · cases h
theorem allB_len {f : Dt → Md Dt} : ∀ {ds : List Dt} {bs : List Bool}, allB f ds = some bs → bs.length = ds.length
  | [], _, h => by cases h; rfl
  | d :: r, bs, h => by
    obtain ⟨q, t, rfl, _, e⟩ := allB_cons h
    exact congrArg (· + 1) (allB_len e)
theorem allB_at {f : Dt → Md Dt} : ∀ {ds : List Dt} {bs : List Bool} {i : Nat} {d : Dt}, allB f ds = some bs → ds[i]? = some d → ∃ b, bs[i]? = some b ∧ f d = .ok (.bl b)
  | [], _, _, _, _, e => by simp at e
  | d :: r, bs, 0, d', h, e => by
    obtain ⟨q, t, rfl, e1, _⟩ := allB_cons h
    cases e
    exact ⟨q, rfl, e1⟩
  | d :: r, bs, i + 1, d', h, e => by
    obtain ⟨q, t, rfl, _, e2⟩ := allB_cons h
    exact allB_at (i := i) e2 e
/-- what the generator expression asks for; its frame as it is seen from within -/
structure GenIn (K : Kx) (P : Addr) (i : Nat) (me : Fd → Md Dt) (σ : L2.St) (H : Hp) (v : V) (ds : List Dt) (Δ : Fd) (bs : List Bool) : Prop where
  lst : Rp K H v (.lst ds)
  ok : qok.go ds = true
  fr : ∀ (j : Nat) (d : Dt), Δ[j]? = some (.sh d) → qok d = true ∧ ∃ x, σ[j]? = some (some x) ∧ Rp K H x d
  li : i < Δ.length
  run : allB (fun d => me (Δ.set i (.sh d))) ds = some bs
  tab : GxR.TabG H P
def tGen (P : Addr) (i : Nat) (me : Fd → Md Dt) (fin : List Bool → Bool) (ti : TE) : TE := fun σ H Q => ti σ H fun v H1 => ∃ (K : Kx) (ds : List Dt) (Δ : Fd) (bs : List Bool), GenIn K P i me σ H1 v ds Δ bs ∧ ∀ H2, GxR.Tabbed P H1 H2 → Q (.bl (fin bs)) H2
theorem ex_tabbed {P : Addr} {H1 H2 : Hp} (t : GxR.TabG H1 P) (h : GxR.Tabbed P H1 H2) : Ex H1 H2 := by
  obtain ⟨⟨qs, e1, e2⟩, h3⟩ := h
  obtain ⟨ps, e4, e5⟩ := t
  refine ⟨fun b o e n => ?_, fun P' ps' e => ?_⟩
  · have nb : b ≠ P := fun z => by
      subst z
      rw [e4] at e
      cases e
      exact n ps rfl
    rw [h3 b nb]
    exact e
  · by_cases z : P' = P
    · subst z
      exact ⟨qs, e1, fun _ => e2⟩
    · exact ⟨ps', by rw [h3 P' z]; exact e, fun t => t⟩
theorem cut_at {Δ : Fd} {j : Nat} {d : Dt} (h : (Δ.map cut)[j]? = some (.sh d)) : Δ[j]? = some (.sh d) ∧ qok d = true := by
  rw [List.getElem?_map] at h
  cases q : Δ[j]? with
  | none => rw [q] at h; cases h
  | some e =>
    rw [q] at h
    cases e with
    | sh d' =>
      have h : (if qok d' = true then Sd.sh d' else .un) = .sh d := Option.some.inj h
      by_cases z : qok d' = true
      · rw [if_pos z] at h; cases h; exact ⟨rfl, z⟩
      · rw [if_neg z] at h; cases h
    | _ => cases h
theorem snd_gen {W : Wo} {ti : TE} {mi me : Fd → Md Dt} {P : Addr} {i : Nat} {fin : List Bool → Bool} (h : SndE W .s ti mi) (hP : P ∈ W.T) : SndE W .s (tGen P i me fin ti) (mGen i fin mi me) := by
  intro G B H S σ Δ Q s w
  refine h G B H S σ Δ _ s (w.bind.mono (fun d k v H1 S1 g r _ => ?_) fun _ z => z)
  cases d with
  | lst ds =>
    have k : Wp (if qok.go ds = true ∧ i < Δ.length then (match allB (fun d => me ((Δ.map cut).set i (.sh d))) ds with
      | some bs => Md.ok (Dt.bl (fin bs))
      | none => .bad) else .bad) _ _ := k
    by_cases hq : qok.go ds = true ∧ i < Δ.length
    · rw [if_pos hq] at k
      have s1 := s.grow g
      have tb := s1.tb P hP
      cases hb : allB (fun d => me ((Δ.map cut).set i (.sh d))) ds with
      | none => rw [hb] at k; exact k.elim
      | some bs =>
        rw [hb] at k
        refine ⟨W.K, ds, Δ.map cut, bs, ⟨r.mono g.sh, hq.1, fun j d e => ?_, by rw [List.length_map]; exact hq.2, hb, tb⟩, fun H2 ht => ?_⟩
        · obtain ⟨e1, e2⟩ := cut_at e
          obtain ⟨x, e3, e4⟩ := s1.shd j d e1
          exact ⟨e2, x, e3, e4.mono g.sh⟩
        · have ex := ex_tabbed tb ht
          exact k _ H2 S1 (g.trans ⟨ex, Ex.refl S1, g.sh.trans ex, fun _ _ z => z⟩) (.bl _) trivial
    · rw [if_neg hq] at k
      exact k.elim
  | _ => exact k.elim
end Mr
namespace Mr
open PySem L2 PySem.Spec PyProof.Rows

/-- the element's surroundings: the block's frame at C -/
abbrev gxOf (X : Cx) (scope : Scope) (k : Nat) (g : Oh) (C : Addr) (cv : Value) : Qx where
  prog := X.prog
  w := X.w
  K := X.K
  mg := X.mg
  base := X.base
  env := genEnv scope (cloFrom X.env.cells scope.names []) C cv builtinsNs X.env
  N := X.N
  k := k
  g := g
/-- the generator, made and not yet walked -/
def Made (X : Cx) (pins : List (Addr × Obj)) (σ : L2.St) (H1 : Hp) (P : Addr) (bs : List Bool) (g : Addr) (s5 : Shared) : Prop :=
  ∃ (fp wr : List Addr) (G : Array GenState → Array GenState → Prop) (F : Nat → Value → Prop) (St : Nat → Shared → Prop),
    WalksS X.prog X.w X.A.in1 g fp wr G bs.length F St ∧ St 0 s5 ∧
    TruthOf X.prog X.w X.A.in1 F (fun j => (bs[j]?).getD false) ∧
    ∀ s', Moved wr G s5 s' → ∃ H2, GxR.Tabbed P H1 H2 ∧ Inv X pins σ H2 s'
section
variable {X : Cx} {K : Kx} {pins : List (Addr × Obj)} {σ : L2.St} {H : Hp} {s : Shared}
theorem room_in {k : Nat} {A A' : Around} (r : Room (k + 1) A) (h : A'.handled = none) (hd : A'.depth ≤ A.depth + 1) (hu : A'.units ≤ A.units + 8) : Room k A' :=
  ⟨h, by have := r.dp; omega, by have := r.un; omega⟩
theorem gen_list {c P : Addr} {elt iter : Expr} {x : Str} {px gpos : Pos} {scope : Scope} {me : Fd → Md Dt} {ti : TE} {k i : Nat} {Q' : Value → Shared → Prop} {R : List Bool → Hp → Prop}
    (hr : Room (k + 1) X.A) (TB : GxR.TabB X.base X.mg c P) (hcode : X.env.code = .ref c) (ok : BlkOk X.N X.env.scope scope [(x, i)]) (nd : X.N.Nodup) (hco : scope.isCoroutine = false) (hcell : ∀ y ∈ scope.names, y.2 ≠ .cell) (hdot : scope.names.lookup (".0" : Str) = some NameKind.local) (hloc : scope.names.lookup x = some .local)
    (hi : PE X iter ti) (hel : ∀ (g : Oh) (C : Addr) (cv : Value), QE (gxOf X scope k g C cv) elt me) (hs : ∀ v, genFold iter X.env v = pure v) (I : Inv X pins σ H s)
    (h : ti σ H fun v H1 => ∃ (K : Kx) (ds : List Dt) (Δ : Fd) (bs : List Bool), GenIn K P i me σ H1 v ds Δ bs ∧ R bs H1) (hQ : ∀ bs H1 g s5, R bs H1 → Made X pins σ H1 P bs g s5 → Q' (.ref g) s5) :
    wpAny (model X.prog X.w) X.A (eval (.GeneratorExp elt [⟨.Name x px, iter, [], 0⟩] scope gpos) X.env) Q' X.xe s := by
  have hfree : ∀ y ∈ scope.names, y.2 = .free → ∃ c, X.env.cells.lookup y.1 = some c := fun y hy e => by
    rcases ok.free y hy e with z | z
    · exact I.ok.has _ (.inl z)
    · exact I.ok.has _ (.inr z)
  refine wpAny_GeneratorExp_walksQD hr.hd hco (closure_ok hfree) hcell hdot hloc ok.kind (by have := hr.dp; omega) ?_ hs
  refine thn (hi.run pins s σ H _ I h) fun xv s1 ⟨v, H1, I1, r1, q1⟩ => ?_
  obtain ⟨K, ds, Δ, bs, gi, q1⟩ := q1
  obtain ⟨ps, hP, ht⟩ := gi.tab
  have hPs : s1.heap.get? P = some { cls := .none, data := .fields ps } := I1.hok P _ hP
  obtain ⟨l, vs, rfl, hlst, rvs⟩ : ∃ l vs, v = .ref l ∧ H1 l = some (.lst vs) ∧ RpL K H1 vs ds := by
    cases gi.lst with
    | lst a b => exact ⟨_, _, rfl, a, b⟩
  cases r1
  obtain ⟨its, rv, ⟨ol, nl, e1, e2, e3, e4⟩, hz⟩ := I1.list (.of hlst : SqL X.K H1 l vs)
  have hl : s1.heap.IsList l its.toArray := ⟨ol, e1, e2, nl, e4⟩
  have hlen : its.toArray.size = bs.length := by
    rw [allB_len gi.run, ← rvs.length, rv.length]
    simp
  have hlt : l < s1.heap.objs.size := Heap.lt_size e1
  refine wpAny_pyIter_list hl ?_
  generalize ho : ({ cls := .type "list_iterator", data := .fields #[.ref l, .int 0 0] } : Obj) = o
  have hPlt : P < s1.heap.objs.size := Heap.lt_size hPs
  have hP2 : (s1.heap.push o).get? P = some { cls := .none, data := .fields ps } := Heap.get?_push_of_some _ hPs
  have cd : PySem.W.CodeHd (s1.heap.push o) c P := TB.code.keeps fun b u e => Heap.get?_push_of_some _ (I1.bk b u e)
  have lim2 : (s1.heap.push o).NoLimit := I1.nolimit.push o
  let g : Oh := fun b => if b = P then none else s1.heap.get? b
  have gat : ∀ {b u}, g b = some u → b ≠ P ∧ s1.heap.get? b = some u := fun {b u} e => by
    have e : (if b = P then none else s1.heap.get? b) = some u := e
    by_cases z : b = P
    · rw [if_pos z] at e; cases e
    · rw [if_neg z] at e; exact ⟨z, e⟩
  have gin : ∀ b u, s1.heap.get? b = some u → u.cls ≠ .none → g b = some u := fun b u e n => by
    show (if b = P then none else s1.heap.get? b) = some u
    by_cases z : b = P
    · subst z
      rw [hPs] at e
      cases e
      exact absurd rfl n
    · rw [if_neg z]; exact e
  have bP : ∀ b u, X.base.get? b = some u → b ≠ P := fun b u e z => by
    have := (I1.bs b u e).2
    rw [z, hP] at this
    cases this
  have qits : Qvs g its ds := qvs_of I1 gin gi.ok rvs rv
  have cont : ∀ (code : Value) (h3 : Heap) (tk : Nat) (ps' : Array Value), Heap.ExtBut P (s1.heap.push o) h3 → (s1.heap.push o).objs.size ≤ h3.objs.size → h3.get? P = some { cls := .none, data := .fields ps' } → (∃ more, ps' = ps ++ more) → TriplesOk ps'.toList →
      wpAny (model X.prog X.w) X.A (builtinsFor X.env.globals X.env.builtins) (fun bi s₄ =>
        ∃ Ia fp wr n₀ Pf St₀ pz F, Value.ref s1.heap.objs.size = .ref Ia ∧ (∀ A' : Around, A'.handled = none → PySem.Walks X.prog X.w A' Ia fp wr n₀ Pf St₀) ∧ St₀ 0 s₄.heap ∧ (∀ b ∈ fp, b < s₄.heap.objs.size) ∧ s₄.heap.NoLimit ∧ cStatics ∉ wr ∧
          (∀ href : Heap, (∀ b o, s₄.heap.get? b = some o → href.get? b = some o) →
            QuietGenD X.prog X.w (genEnv scope (cloFrom X.env.cells scope.names []) s₄.heap.objs.size code bi X.env) x [] elt (List.range s₄.heap.objs.size) wr Pf pz F href (X.A.depth + 1) (X.A.units + 8)) ∧
          (∀ a h₅ tk gs, gs.bare = true → s₄.heap.objs.size < a → h₅.objs.size = a + 1 → (∀ b o, s₄.heap.get? b = some o → h₅.get? b = some o) →
            WalksS X.prog X.w X.A.in4 a (a :: s₄.heap.objs.size :: List.range s₄.heap.objs.size) (s₄.heap.objs.size :: wr) (GenOnlyQ s₄.gens.size) (passing pz n₀ 0).length
              (fun j y => ∃ i, (passing pz n₀ 0)[j]? = some i ∧ F i y) (GenAt X.prog X.w X.A.in4 a s₄.gens.size s₄.heap.objs.size (List.range s₄.heap.objs.size) wr pz n₀ F) →
            GenAt X.prog X.w X.A.in4 a s₄.gens.size s₄.heap.objs.size (List.range s₄.heap.objs.size) wr pz n₀ F 0 { s₄ with gens := s₄.gens.push gs, toks := tk, heap := h₅ } →
            Q' (.ref a) { s₄ with gens := s₄.gens.push gs, toks := tk, heap := h₅ })) X.xe { s1 with heap := h3, toks := tk } := by
    intro code h3 tk ps' hx hsz hP3 hmore ht3
    obtain ⟨bm, ob, f1, f2, f3, f4, f5, f6, f7, f8⟩ := TB.bm
    have hcP : cStatics ≠ P := fun e => by
      obtain ⟨_, hns, _⟩ := I1.nolimit
      obtain ⟨o', es, ep, ho, hd, _⟩ := hns
      rw [e, hPs] at ho
      cases ho
      cases hd
    have hcl : cStatics < s1.heap.objs.size := let ⟨_, hns, _⟩ := I1.nolimit; hns.lt
    have sz2 : (s1.heap.push o).objs.size = s1.heap.objs.size + 1 := Heap.size_push ..
    have keep3 : ∀ b u, b ≠ P → s1.heap.get? b = some u → h3.get? b = some u := fun b u hb e => hx b u hb (Heap.get?_push_of_some _ e)
    have iat : h3.get? s1.heap.objs.size = some o := hx _ _ (fun z => Nat.lt_irrefl _ (z ▸ hPlt)) (Heap.get?_push_size _ (by rw [← ho]; rfl))
    have notw : ∀ b u, s1.heap.get? b = some u → b ∉ [s1.heap.objs.size] := fun b u e z => by
      have := Heap.lt_size e
      rcases List.mem_cons.mp z with z | z
      · rw [z] at this; exact Nat.lt_irrefl _ this
      · cases z
    refine wpAny_builtinsFor (m := X.mg) (by rw [I1.ok.glob]; exact ((I1.mod.glob.keeps I1.bk).push o).extBut hx TB.gP) f1 f2 (keep3 _ _ f4 (I1.bk _ _ f5)) f6 f7 f8 ?_
    refine ⟨s1.heap.objs.size, [s1.heap.objs.size, l], [s1.heap.objs.size], its.toArray.size, _, _, (fun _ => true), (fun j y => ∃ b, bs[j]? = some b ∧ y = .bool b), rfl, (fun A' hA => PySem.Walks.list hA _ _ (Nat.ne_of_lt hlt) its.toArray), ⟨⟨o, iat, (by subst ho; rfl), (by subst ho; rfl)⟩, ⟨ol, keep3 _ _ (fun z => ?_) e1, e2, nl, e4⟩⟩, ?_, lim2.extBut hx hcP, ?_, ?_, ?_⟩
    · rw [z, hPs] at e1
      cases e1
      cases e2
    · intro b hb
      show b < h3.objs.size
      have h9 : s1.heap.objs.size < h3.objs.size := Nat.lt_of_lt_of_le (by rw [sz2]; exact Nat.lt_succ_self _) hsz
      rcases List.mem_cons.mp hb with z | z
      · exact z ▸ h9
      · rcases List.mem_cons.mp z with z | z
        · exact z ▸ Nat.lt_trans hlt h9
        · cases z
    · intro z
      rcases List.mem_cons.mp z with z | z
      · exact Nat.ne_of_lt hcl z
      · cases z
    · intro href hhref
      have old : ∀ (s₂ : Shared), (∀ b ∈ List.range h3.objs.size, b ∉ [s1.heap.objs.size] → ∀ o, href.get? b = some o → s₂.heap.get? b = some o) → ∀ b u, b ≠ P → s1.heap.get? b = some u → b ≠ h3.objs.size ∧ s₂.heap.get? b = some u := fun s₂ hk b u nb e => by
        have e3 := keep3 b u nb e
        have l3 := Heap.lt_size e3
        exact ⟨Nat.ne_of_lt l3, hk b (List.mem_range.mpr l3) (notw b u e) u (hhref b u e3)⟩
      refine ⟨fun A' E' j v s₂ m₂ hA _ _ hPv hn hm hk => ?_, fun A' E' j v s₂ m₂ hA hD hU hPv hp hn hm hk => ?_⟩
      · simp only [List.forIn_nil]
        exact wpAny_pure ⟨rfl, kp_refl _⟩
      · have hPv : its.toArray[j]? = some v := hPv
        rw [List.getElem?_toArray] at hPv
        obtain ⟨d, hd, qd⟩ := qits.get hPv
        obtain ⟨b, hb, hme⟩ := allB_at gi.run hd
        have o2 := old s₂ hk
        refine thn (hel g h3.objs.size code A' E' s₂ (Δ.set i (.sh d)) (.bl b) (room_in hr hA hD hU) ⟨I1.mod, ok.kind, I1.ok.glob, rfl, nd, fun b u e => o2 b u (bP b u e) (I1.bk b u e), fun b u e => o2 b u (gat e).1 (gat e).2, m₂, hn, fun t y d' h1 h2 h3' => ?_⟩ hme) fun y s3 ⟨qy, k3⟩ => ?_
        · have own := ok.own
          have hix : X.N[i]? = some x := ok.ix (x, i) (by simp)
          have hv : scope.names.lookup y = some .local ∨ scope.names.lookup y = some .cell ∨ scope.names.lookup y = some .free := h3'
          rcases hv with hv | hv | hv
          · rcases own _ (PySem.mem_of_lookup hv) (.inl rfl) with z | z
            · have z : y = x := by simpa using z
              subst z
              have := nodup_ix nd h1 hix
              subst this
              rw [List.getElem?_set_self gi.li] at h2
              cases h2
              exact ⟨v, qd, .inl ⟨hv, hm⟩⟩
            · exact absurd (List.mem_of_getElem? h1) z
          · exact absurd rfl (hcell _ (PySem.mem_of_lookup hv))
          · have ne : i ≠ t := fun z => by
              subst z
              rw [hix] at h1
              cases h1
              rw [hloc] at hv
              cases hv
            rw [List.getElem?_set_ne ne] at h2
            obtain ⟨qk, xv, hx1, rp⟩ := gi.fr t d' h2
            have hfr := ok.free _ (PySem.mem_of_lookup hv) rfl
            obtain ⟨m, _, hlk⟩ := I1.loc
            obtain ⟨u, ru, lk⟩ := hlk t y xv h1 hx1 (.inr hfr)
            have hc2 : ∃ c, X.env.cells.lookup y = some c ∧ s1.heap.IsCell c (some u) := by
              rcases lk with ⟨l1, _⟩ | ⟨_, c, l1, l2⟩
              · have l1 : X.env.scope.names.lookup y = some .local := l1
                rcases hfr with z | z <;> (rw [z] at l1; cases l1)
              · exact ⟨c, l1, l2⟩
            obtain ⟨cc, hcc, oc, hoc, hdc⟩ := hc2
            have hlc : (cloFrom X.env.cells scope.names []).lookup y = some cc := by
              obtain ⟨c', e'⟩ := mem_lookup (cloFrom_has (cells := X.env.cells) (acc := []) (PySem.mem_of_lookup hv))
              rcases cloFrom_mem (PySem.mem_of_lookup e') with z | ⟨_, z⟩
              · cases z
              · rw [hcc] at z
                rw [e', z]
                rfl
            refine ⟨u, qv_of I1 gin qk rp ru, .inr ⟨.inr hv, cc, hlc, oc, (o2 cc oc (fun z => ?_) hoc).2, hdc⟩⟩
            rw [z, hPs] at hoc
            cases hoc
            cases hdc
        · cases qy
          exact ⟨⟨b, hb, rfl⟩, k3⟩
    · intro gg h5 tk5 gs hgb hag hsz5 hk5 W5 hat
      simp only [GxR.passing_true, List.length_range] at W5
      rw [hlen] at W5 hat
      refine hQ bs H1 gg _ q1 ⟨_, _, _, _, _, W5.in4_1, hat, ?_, fun s' hm => ?_⟩
      · intro j y sj Qj Ej hy hQj
        obtain ⟨i2, hij, b, hb, rfl⟩ := hy
        obtain ⟨hj, ej⟩ := List.getElem?_eq_some_iff.mp hij
        rw [List.getElem_range] at ej
        subst ej
        have hQ2 : Qj ((bs[j]?).getD false) sj := hQj
        rw [hb] at hQ2
        exact wpAny_truthy_bool hQ2
      · obtain ⟨more, em⟩ := hmore
        have nwr : ∀ b u, s1.heap.get? b = some u → b ∉ h3.objs.size :: [s1.heap.objs.size] := fun b u e hb => by
          have hl := Heap.lt_size e
          rcases List.mem_cons.mp hb with z | z
          · rw [z] at hl
            have h9 : (h3.objs.size : Nat) < s1.heap.objs.size := hl
            omega
          · exact notw b u e z
        have J := GxR.inv_tab (more := more) (h' := s'.heap) (g' := s'.gens) (d' := s'.drawn) (t' := s'.toks) I1 hP (fun b u hb e => hm.heap b u (nwr b u e) (hk5 b u (keep3 b u hb e)))
          (by rw [← em]; exact hm.heap P _ (nwr P _ hPs) (hk5 P _ hP3)) (AllBare.movedS (I1.bare.push hgb) hm)
        rw [GxR.sh_eta s1 s' hm.os] at J
        exact ⟨upd H1 P (.tbl (ps ++ more)), ⟨⟨ps ++ more, upd_same, by rw [← em]; exact ht3⟩, fun b hb => upd_ne hb⟩, J⟩
  refine ⟨lim2, ?_⟩
  cases hf : codeAmong gpos ps.toList with
  | none =>
    refine wpAny_genexprCodeX hcode (cd.code hP2 ht) (cd.tab hP2) hf fun c' h' tk hx hge hlt hco' _ htab' _ => ?_
    obtain ⟨o1, vs, g1, tf, fl, tg, inF, tx, tt, op, _, _, _, _, _, _, _, _, _, htr, _⟩ := hco'
    exact cont _ h' tk _ hx (Nat.le_trans hge (Nat.le_of_lt hlt)) htab'.2 ⟨_, rfl⟩ htr
  | some cv =>
    refine wpAny_genexprCode_hit hcode (cd.code hP2 ht) hf ?_
    exact cont cv (s1.heap.push o) s1.toks ps (Heap.ExtBut.refl _ _) (Nat.le_refl _) hP2 ⟨#[], by simp⟩ ht
end
end Mr
namespace Mr
open PySem L2 PySem.Spec PyProof.Rows
section
variable {X : Cx} {K : Kx} {T : List Addr} {M : Mm} {E : XK} {p pos px gpos : Pos} {k i : Nat} {c P : Addr} {elt iter : Expr} {x : Str} {scope : Scope} {ti : TE} {mi me : Fd → Md Dt}
theorem all_at (bs : List Bool) : (List.range bs.length).all (fun j => (bs[j]?).getD false) = bs.all id := by
  rw [Bool.eq_iff_iff, List.all_eq_true, List.all_eq_true]
  constructor
  · intro h b hb
    obtain ⟨j, hj, e⟩ := List.getElem_of_mem hb
    have q := h j (List.mem_range.mpr hj)
    rw [List.getElem?_eq_getElem hj, e] at q
    exact q
  · intro h j hj
    have hj' := List.mem_range.mp hj
    rw [List.getElem?_eq_getElem hj']
    exact h _ (List.getElem_mem hj')
theorem any_at (bs : List Bool) : (List.range bs.length).any (fun j => (bs[j]?).getD false) = bs.any id := by
  rw [Bool.eq_iff_iff, List.any_eq_true, List.any_eq_true]
  constructor
  · intro ⟨j, hj, q⟩
    have hj' := List.mem_range.mp hj
    rw [List.getElem?_eq_getElem hj'] at q
    exact ⟨_, List.getElem_mem hj', q⟩
  · intro ⟨b, hb, q⟩
    obtain ⟨j, hj, e⟩ := List.getElem_of_mem hb
    refine ⟨j, List.mem_range.mpr hj, ?_⟩
    rw [List.getElem?_eq_getElem hj, e]
    exact q
theorem pe_allG (hr : Room (k + 1) X.A) (hg : Gl X "all") (hm : X.mg "all" = none) (TB : GxR.TabB X.base X.mg c P) (hcode : X.env.code = .ref c) (ok : BlkOk X.N X.env.scope scope [(x, i)]) (nd : X.N.Nodup) (hco : scope.isCoroutine = false) (hcell : ∀ y ∈ scope.names, y.2 ≠ .cell)
    (hdot : scope.names.lookup (".0" : Str) = some NameKind.local) (hloc : scope.names.lookup x = some .local) (hi : PE X iter ti) (hel : ∀ (g : Oh) (C : Addr) (cv : Value), QE (gxOf X scope k g C cv) elt me) (hs : ∀ v, genFold iter X.env v = pure v)
    (he : starEach [.GeneratorExp elt [⟨.Name x px, iter, [], 0⟩] scope gpos] X.env = (false, eval (.GeneratorExp elt [⟨.Name x px, iter, [], 0⟩] scope gpos) X.env) :: starEach [] X.env) :
    PE X (.Call (.Name "all" p) [.GeneratorExp elt [⟨.Name x px, iter, [], 0⟩] scope gpos] [] pos) (tGen P i me (fun bs => bs.all id) ti) := by
  refine ⟨fun pins s σ H Q I h => ?_⟩
  refine wpAny_Call_Name_kw (ld_blt I hg hm (u := .builtin "all") (by decide +kernel) ?_)
  refine PyProof.Rows.callWith_builtin1 ?_ he rfl
  rw [he]
  show wpAny _ _ (spliced ((false, _) :: backTo pos (starEach [] X.env))) _ _ s
  have h2 : ti σ H fun v H1 => ∃ (K : Kx) (ds : List Dt) (Δ : Fd) (bs : List Bool), GenIn K P i me σ H1 v ds Δ bs ∧ ∀ H2, GxR.Tabbed P H1 H2 → Q (.bl (bs.all id)) H2 := h
  refine Calls.spliced_cons (gen_list (R := fun bs H1 => ∀ H2, GxR.Tabbed P H1 H2 → Q (.bl (bs.all id)) H2) hr TB hcode ok nd hco hcell hdot hloc hi hel hs I h2 fun bs H1 g s5 hR hG => ?_)
  obtain ⟨fp, wr, G, F, St, W, hst, htr, hI⟩ := hG
  refine Calls.spliced_nil ?_
  refine call_all_walkS (W.self 0 _ _ _ hst ⟨g, fp, wr, G, _, F, St, _, rfl, W, hst, htr, fun s' hmv => ?_⟩)
  obtain ⟨H2, hT, J⟩ := hI s' hmv
  exact ⟨.bl _, H2, J, rfl, by rw [all_at bs]; exact hR H2 hT⟩
theorem pe_anyG (hr : Room (k + 1) X.A) (hg : Gl X "any") (hm : X.mg "any" = none) (TB : GxR.TabB X.base X.mg c P) (hcode : X.env.code = .ref c) (ok : BlkOk X.N X.env.scope scope [(x, i)]) (nd : X.N.Nodup) (hco : scope.isCoroutine = false) (hcell : ∀ y ∈ scope.names, y.2 ≠ .cell)
    (hdot : scope.names.lookup (".0" : Str) = some NameKind.local) (hloc : scope.names.lookup x = some .local) (hi : PE X iter ti) (hel : ∀ (g : Oh) (C : Addr) (cv : Value), QE (gxOf X scope k g C cv) elt me) (hs : ∀ v, genFold iter X.env v = pure v)
    (he : starEach [.GeneratorExp elt [⟨.Name x px, iter, [], 0⟩] scope gpos] X.env = (false, eval (.GeneratorExp elt [⟨.Name x px, iter, [], 0⟩] scope gpos) X.env) :: starEach [] X.env) :
    PE X (.Call (.Name "any" p) [.GeneratorExp elt [⟨.Name x px, iter, [], 0⟩] scope gpos] [] pos) (tGen P i me (fun bs => bs.any id) ti) := by
  refine ⟨fun pins s σ H Q I h => ?_⟩
  refine wpAny_Call_Name_kw (ld_blt I hg hm (u := .builtin "any") (by decide +kernel) ?_)
  refine PyProof.Rows.callWith_builtin1 ?_ he rfl
  rw [he]
  show wpAny _ _ (spliced ((false, _) :: backTo pos (starEach [] X.env))) _ _ s
  have h2 : ti σ H fun v H1 => ∃ (K : Kx) (ds : List Dt) (Δ : Fd) (bs : List Bool), GenIn K P i me σ H1 v ds Δ bs ∧ ∀ H2, GxR.Tabbed P H1 H2 → Q (.bl (bs.any id)) H2 := h
  refine Calls.spliced_cons (gen_list (R := fun bs H1 => ∀ H2, GxR.Tabbed P H1 H2 → Q (.bl (bs.any id)) H2) hr TB hcode ok nd hco hcell hdot hloc hi hel hs I h2 fun bs H1 g s5 hR hG => ?_)
  obtain ⟨fp, wr, G, F, St, W, hst, htr, hI⟩ := hG
  refine Calls.spliced_nil ?_
  refine call_any_walkS (W.self 0 _ _ _ hst ⟨g, fp, wr, G, _, F, St, _, rfl, W, hst, htr, fun s' hmv => ?_⟩)
  obtain ⟨H2, hT, J⟩ := hI s' hmv
  exact ⟨.bl _, H2, J, rfl, by rw [any_at bs]; exact hR H2 hT⟩
theorem d_allG (cc : Cok X (k + 1) E) (hm : X.mg "all" = none) (TB : GxR.TabB X.base X.mg c P) (hP : P ∈ T) (hcode : X.env.code = .ref c) (ok : BlkOk X.N X.env.scope scope [(x, i)]) (hi : DE X T M E .s iter ti mi) (hel : ∀ (g : Oh) (C : Addr) (cv : Value), QE (gxOf X scope k g C cv) elt me)
    (hg : Gl X "all" := by rfl) (hco : scope.isCoroutine = false := by rfl) (hcell : ∀ y ∈ scope.names, y.2 ≠ .cell := by decide) (hdot : scope.names.lookup (".0" : Str) = some NameKind.local := by rfl) (hloc : scope.names.lookup x = some .local := by rfl)
    (hs : ∀ v, genFold iter X.env v = pure v := by intro _; rfl) (he : starEach [.GeneratorExp elt [⟨.Name x px, iter, [], 0⟩] scope gpos] X.env = (false, eval (.GeneratorExp elt [⟨.Name x px, iter, [], 0⟩] scope gpos) X.env) :: starEach [] X.env := by rfl) :
    DE X T M E .s (.Call (.Name "all" p) [.GeneratorExp elt [⟨.Name x px, iter, [], 0⟩] scope gpos] [] pos) (tGen P i me (fun bs => bs.all id) ti) (mGen i (fun bs => bs.all id) mi me) :=
  ⟨pe_allG cc.room hg hm TB hcode ok cc.nd hco hcell hdot hloc hi.pe hel hs he, snd_gen (W := ⟨kx X M, T, X.mg, E⟩) hi.sn hP⟩
theorem d_anyG (cc : Cok X (k + 1) E) (hm : X.mg "any" = none) (TB : GxR.TabB X.base X.mg c P) (hP : P ∈ T) (hcode : X.env.code = .ref c) (ok : BlkOk X.N X.env.scope scope [(x, i)]) (hi : DE X T M E .s iter ti mi) (hel : ∀ (g : Oh) (C : Addr) (cv : Value), QE (gxOf X scope k g C cv) elt me)
    (hg : Gl X "any" := by rfl) (hco : scope.isCoroutine = false := by rfl) (hcell : ∀ y ∈ scope.names, y.2 ≠ .cell := by decide) (hdot : scope.names.lookup (".0" : Str) = some NameKind.local := by rfl) (hloc : scope.names.lookup x = some .local := by rfl)
    (hs : ∀ v, genFold iter X.env v = pure v := by intro _; rfl) (he : starEach [.GeneratorExp elt [⟨.Name x px, iter, [], 0⟩] scope gpos] X.env = (false, eval (.GeneratorExp elt [⟨.Name x px, iter, [], 0⟩] scope gpos) X.env) :: starEach [] X.env := by rfl) :
    DE X T M E .s (.Call (.Name "any" p) [.GeneratorExp elt [⟨.Name x px, iter, [], 0⟩] scope gpos] [] pos) (tGen P i me (fun bs => bs.any id) ti) (mGen i (fun bs => bs.any id) mi me) :=
  ⟨pe_anyG cc.room hg hm TB hcode ok cc.nd hco hcell hdot hloc hi.pe hel hs he, snd_gen (W := ⟨kx X M, T, X.mg, E⟩) hi.sn hP⟩
end
/-- a def with a code table: its code object is known -/
theorem def_okG {P : Program} {w : World} {K : PySem.W.Frag} {T : List Addr} {mg : Str → Option Value} {base : Heap} {x : Str} {st : Stmt} {f c : Addr} {fd : FuncData} {N ps : List Str} {k n : Nat} {nw : Bool} {ms : Fd → Md Out} (hc : fd.code = .ref c) (hn : N.length = n) (F : Fun K x x st f fd) (S : FnScope N ps (defScope st)) (hm : mg x = some (.ref f)) (hb : Binds K fd ps [])
    (body : ∀ (A : Around) (outer : List Env) (s : Shared) (H : Hp) (E : XK), Cok (cxOf (L2N.CX P w) P w K mg base N x (defScope st) f (.ref c) A outer s H E) k E →
      ∃ t, DB (cxOf (L2N.CX P w) P w K mg base N x (defScope st) f (.ref c) A outer s H E) T M0 E nw (defBody st) t ms) :
    DefOk P w K T mg base (k + 1) x ps nw (mDef nw n ms) := by
  subst hn
  refine ⟨f, fd, hm, F.kp, hb, ?_⟩
  obtain ⟨oc, od, kV, doc, pm, an, cdv, ct, osl, rfl, lk, hcd⟩ := F.ex
  have hc : cdv = .ref c := hc
  subst hc
  refine fn_of lk hcd S (fun vs H Q E h => h.1) fun A outer s H vs Q E hr h => ?_
  obtain ⟨hl, tb, ds, B, e, r, wp⟩ := h
  obtain ⟨t, ht, sn⟩ := body A outer s H E (cok_def hr S.nd)
  have hpl : ps.length ≤ N.length := by
    have := congrArg List.length S.pre
    rw [List.length_take] at this
    omega
  refine ⟨t, ht, sn H B H B _ _ _ (slt_start tb e r (by omega)) (wp.bind.mono (fun o q => ?_) fun _ z => z)⟩
  cases o with
  | rt d => exact fun v H' h => q v H' h
  | nx Δ =>
    cases nw with
    | true => exact q.elim
    | false => exact fun H' S' σ' s' => q .non H' ⟨S', s'.gh, s'.bs, s'.sh, s'.fr, .non⟩
  | bk Δ => exact q.elim
  | ct Δ => exact q.elim
end Mr
/-! Within an except suite, and in defs that are called from one. -/
namespace Mr
open PySem L2 L2H PySem.Spec PyProof.Rows

/-- a comprehension's block that bears the handled exception -/
abbrev blkH (X : Cx) (p : Addr × Obj) (s : Shared) (H : Hp) (sc : Scope) (ev : Env) (fp : List Addr) : Cx := { X.blk s H sc ev fp with pn := [p] }
section
variable {X : Cx}
theorem lc_hot {pins : List (Addr × Obj)} {s : Shared} {σ : L2.St} {H : Hp} {Q : VK} {elt tg iter : Expr} {sc : Scope} {own : List (Str × Nat)} {pos pos' : Pos} {wi : TI} {g : TG} {te : TE} {Qf : Value → Shared → Prop} {p : Addr × Obj}
    (hp : Hot1 X.A p) (hpn : p ∈ X.pn) (nd : X.N.Nodup) (I : Inv X pins σ H s) (hi : PIH X tg iter wi) (bo : BlkOk X.N X.env.scope sc own)
    (hg : ∀ (s : Shared) (H : Hp) (C : Addr) (cl : List (Str × Addr)) (fp : List Addr), PG (blkH X p s H sc (compEnvC sc cl C X.env) fp) tg g)
    (hel : ∀ (s : Shared) (H : Hp) (C : Addr) (cl : List (Str × Addr)) (fp : List Addr), PE (blkH X p s H sc (compEnvC sc cl C X.env) fp) elt te) (hs : ∀ x, foldedSetIterable iter X.env x = pure x)
    (h : tLc wi g tYes te (own.map (·.2)) σ H Q)
    (out : ∀ D C s' m H', Inv X pins σ H' s' → Q (.ref D) H' → s'.heap.Ns C m → FpOk X pins H' C → compPost (model X.prog X.w) X.A X.xe none Qf (.ref D) C (.ok .next) s') :
    wpAny (model X.prog X.w) X.A (comprehension (.ListComp elt [⟨tg, iter, [], 0⟩] sc pos) sc X.env pos' (newList []) false (eval iter X.env) none) Qf X.xe s := by
  have caught : ∀ y ∈ sc.names, y.2 = .free → ∃ c, X.env.cells.lookup y.1 = some c := fun y hy e => (bo.free y hy e).elim (fun z => I.ok.has _ (.inl z)) fun z => I.ok.has _ (.inr z)
  refine wpAny_comprehension_free (use := none) rfl hs (closure_ok caught) bo.kind (fun y hy e => by rw [bo.uniq y hy, e]) (thn (hi.run pins s σ H _ I h) fun xv sa hxa => thn hxa fun iv sb hb => ?_)
  obtain ⟨it, fp, tn, J, Hb, rfl, Ib, T, tb, fb, q⟩ := hb
  refine wpAny_newObj_type (newEnv_comp ?_) (Nat.zero_le _)
  obtain ⟨D, hD⟩ : ∃ D, D = sb.heap.objs.size := ⟨_, rfl⟩
  have freeD : Hb D = none := Ib.hok.fresh (Nat.le_of_eq hD.symm)
  obtain ⟨W, ⟨m0, w0⟩, step⟩ := q D freeD
  obtain ⟨sc3, hsc⟩ : ∃ z : Shared, z = { sb with heap := sb.heap.push { cls := .type "list", data := .seq ([] : List Value).toArray } } := ⟨_, rfl⟩
  have hh3 : sc3.heap = sb.heap.push { cls := .type "list", data := .seq ([] : List Value).toArray } := by rw [hsc]
  have Ic : Inv X pins σ (upd Hb D (.lst [])) sc3 := by
    rw [hsc]
    refine Ib.laid (t' := sb.toks) (fun b o e => Heap.get?_push_of_some _ e) (Nat.le_of_eq hD.symm) ⟨Nat.zero_le _, [], 0, .nil, ?_⟩
    rw [hD]
    exact Heap.get?_push_size _ rfl
  have small : ∀ b ∈ fp, b < sb.heap.objs.size := fun b hb => let ⟨o, e, _⟩ := T.obj _ _ tb b hb; Heap.lt_size e
  have fc : ∀ b ∈ fp, FpOk X pins (upd Hb D (.lst [])) b ∧ b < sc3.heap.objs.size := fun b hb => by
    have lt := small b hb
    have ne : b ≠ D := fun z => by rw [z, hD] at lt; exact Nat.lt_irrefl _ lt
    exact ⟨⟨by rw [upd_ne ne]; exact (fb b hb).1, (fb b hb).2⟩, by rw [hh3, Heap.size_push]; exact Nat.lt_succ_of_lt lt⟩
  have tc : tn 0 sc3.heap := T.keep _ _ _ tb fun b _ o e => by rw [hh3]; exact Heap.get?_push_of_some _ e
  have Ib0 := block_start Ic bo nd fc
  have gg := hg sc3 (upd Hb D (.lst [])) sc3.heap.objs.size (cellsFrom (sc3.heap.objs.size + 1) sc.names (cloFrom X.env.cells sc.names [])) fp
  have ee := hel sc3 (upd Hb D (.lst [])) sc3.heap.objs.size (cellsFrom (sc3.heap.objs.size + 1) sc.names (cloFrom X.env.cells sc.names [])) fp
  rw [← hsc, ← hD]
  show codeAny _ _ (.compStart (.ListComp elt [⟨tg, iter, [], 0⟩] sc pos) 0 (.ref it) (.ref D) (compEnvC sc (cellsFrom (sc3.heap.objs.size + 1) sc.names (cloFrom X.env.cells sc.names [])) sc3.heap.objs.size X.env)) (compPost (model X.prog X.w) X.A X.xe none Qf (.ref D) sc3.heap.objs.size) { sc3 with heap := pushCells (sc3.heap.push { cls := .type "dict", data := .dict #[] }) sc.names }
  generalize hev : compEnvC sc (cellsFrom (sc3.heap.objs.size + 1) sc.names (cloFrom X.env.cells sc.names [])) sc3.heap.objs.size X.env = ev at Ib0 gg ee ⊢
  have evL : ev.locals = sc3.heap.objs.size := by rw [← hev]; rfl
  generalize hHc : upd Hb D (.lst []) = Hc at Ic Ib0 gg ee w0 fc
  have nfp : ∀ b ∈ fp, Hc b = none := fun b hb => (fc b hb).1.1
  have kp : ∀ b o, sc3.heap.get? b = some o → (pushCells (sc3.heap.push { cls := .type "dict", data := .dict #[] }) sc.names).get? b = some o := fun b o e => pushCells_keeps _ _ _ _ (Heap.get?_push_of_some _ e)
  generalize hsd : ({ sc3 with heap := pushCells (sc3.heap.push { cls := .type "dict", data := .dict #[] }) sc.names } : Shared) = sd at Ib0 ⊢
  have kp2 : ∀ b o, sc3.heap.get? b = some o → sd.heap.get? b = some o := fun b o e => by rw [← hsd]; exact kp b o e
  -- the handled exception, seen from the block
  have pa := Ic.pin p (List.mem_append_left _ hpn)
  have Id : Inv (blkH X p sc3 Hc sc ev fp) [] (wipe σ (own.map (·.2))) Hc sd := by
    have i := Ib0
    refine ⟨⟨i.ok.mod, i.ok.kind, i.ok.glob, i.ok.blt, i.ok.above, i.ok.inj, i.ok.has, i.ok.cab, i.ok.hd, i.ok.frames, i.ok.stk, i.ok.exf, i.ok.bs, i.ok.bsz, i.ok.noex, i.ok.exfs, i.ok.funs, i.ok.frf⟩, i.os, i.bare, i.base, i.loc, i.cell, i.free, i.freeC, fun r hr => ?_, i.hok, i.len⟩
    have hr : r = p := by simpa using hr
    subst hr
    refine ⟨kp2 _ _ pa.1, pa.2.1, fun z => ?_, fun hm => (List.mem_cons.mp (Ic.stkSub r.1 hm)).elim pa.2.2.1 pa.2.2.2.1, pa.2.2.2.2⟩
    have lt := Heap.lt_size pa.1
    have z : r.1 = ev.locals := z
    rw [evL] at z
    rw [z] at lt
    exact Nat.lt_irrefl _ lt
  have td : tn 0 sd.heap := T.keep _ _ _ tc fun b _ o e => kp2 b o e
  have hcH : HotC (blkH X p sc3 Hc sc ev fp) := ⟨p, hp, by simp⟩
  have stat : ∀ {σ' : L2.St} {H' : Hp} {s' : Shared}, Inv (blkH X p sc3 Hc sc ev fp) [] σ' H' s' → tn 0 sd.heap → (∀ b ∈ fp, H' b = none) → ∀ b ∈ fp, FpOk (blkH X p sc3 Hc sc ev fp) [] H' b := fun {σ' H' s'} I' _ hn b hb =>
    ⟨hn b hb, (I'.ok.exf b hb).1, I'.ok.exfs b hb, .inl hb, fun x c e => (I'.ok.exf b hb).2 x c e, fun r hr => by
      have hr : r = p := by simpa using hr
      subst hr
      exact (fc b hb).1.2.2.2.2.2 r (List.mem_append_left _ hpn)⟩
  have loop : codeAny (model X.prog X.w) X.A (.compLoop (.ListComp elt [⟨tg, iter, [], 0⟩] sc pos) 0 (.ref it) (.ref D) ev) (compPost (model X.prog X.w) X.A X.xe none Qf (.ref D) sc3.heap.objs.size) sd := by
    refine compLoop_any (fun n s' => ∃ i H', Inv (blkH X p sc3 Hc sc ev fp) [] (wipe σ (own.map (·.2))) H' s' ∧ tn i s'.heap ∧ (∀ b ∈ fp, H' b = none) ∧ W i n H') ?_ m0 ⟨0, Hc, Id, td, nfp, w0⟩
    rintro n s5 ⟨i, H5, I5, t5, n5, w5⟩
    rcases step i n H5 w5 with ⟨stop, qq⟩ | ⟨go, Nx, hNx, turn⟩
    · refine thnF (T.done (blkH X p sc3 Hc sc ev fp) rfl rfl rfl hcH i [] s5 _ H5 (fun _ _ => False) I5 (stat I5 td n5) t5 stop) fun r s6 ⟨hr, I6⟩ => ?_
      subst hr
      have I7 : Inv X pins σ H5 s6 := Ic.call' (ch := fp) I6.os I6.base I6.hok I6.bare fun b hb => let z := (fc b hb).1.2; ⟨z.2.2.1, z.1, z.2.2.2.1, z.2.2.2.2⟩
      have nC : H5 sc3.heap.objs.size = none := by
        have z : H5 ev.locals = none := I6.free
        rw [evL] at z
        exact z
      obtain ⟨m, hn, _⟩ := I6.loc
      have hn : s6.heap.Ns ev.locals m := hn
      rw [evL] at hn
      exact out D sc3.heap.objs.size s6 m H5 I7 qq hn (Ic.fpOk (Nat.le_refl _) nC)
    · refine thnF (T.item (blkH X p sc3 Hc sc ev fp) rfl rfl rfl hcH i [] s5 _ H5 (fun _ _ => False) I5 (stat I5 td n5) t5 go) fun r s6 ⟨u, hr, h6⟩ => ?_
      subst hr
      refine thnF h6 fun _ s7 ⟨x, H7, I7, r7, y7, t7, n7⟩ => ?_
      have J7 := I7.pinned (stat I7 td n7) (T.obj _ _ t7)
      refine thnF (gg.run _ s7 _ H7 x u _ J7 r7 (turn x H7 y7)) fun _ s8 ⟨σ8, H8, I8, hw8, q8⟩ => ?_
      refine thnF (wpAny_tests_nil (Q := fun b s9 => b = true ∧ Inv (blkH X p sc3 Hc sc ev fp) ([] ++ pinsAt fp s7.heap) σ8 H8 s9) ⟨rfl, I8⟩) fun b s9 ⟨hb9, I9⟩ => ?_
      subst hb9
      simp only [if_true]
      refine thnF (ee.run _ s9 σ8 H8 _ I9 q8) fun z s10 ⟨yv, H10, I10, r10, acc, hD10, hz10, nx⟩ => ?_
      refine app_ok (X := blkH X p sc3 Hc sc ev fp) I10 hD10 hz10 r10 fun s11 I11 => ?_
      obtain ⟨m', hm, w'⟩ := hNx _ nx
      have still : ∀ b ∈ fp, ∀ o, s7.heap.get? b = some o → s11.heap.get? b = some o ∧ (upd H10 D (.lst (acc ++ [yv]))) b = none := fun b hb o e =>
        let z := I11.pin (b, o) (List.mem_append_right _ (List.mem_append_right _ (mem_pinsAt hb e)))
        ⟨z.1, z.2.1⟩
      have hl : (wipe σ (own.map (·.2))).length = σ8.length := by rw [← hw8, wipe_length]
      refine ⟨m', hm, i + 1, _, (I11.unpinned (pins := [])).weak hl (fun j v e => ?_), T.keep _ _ _ t7 fun b hb o e => (still b hb o e).1, fun b hb => let ⟨o, e, _⟩ := T.obj _ _ t7 b hb; (still b hb o e).2, w'⟩
      rw [← hw8] at e
      exact (wipe_some e).1
  exact codeAny_compStart_list loop (T.self X.A 0 _ _ _ td loop)
theorem pe_lcH {elt tg iter : Expr} {sc : Scope} {own : List (Str × Nat)} {pos : Pos} {wi : TI} {g : TG} {te : TE} {p : Addr × Obj} (hp : Hot1 X.A p) (hpn : p ∈ X.pn) (nd : X.N.Nodup) (hi : PIH X tg iter wi) (bo : BlkOk X.N X.env.scope sc own)
    (hg : ∀ (s : Shared) (H : Hp) (C : Addr) (cl : List (Str × Addr)) (fp : List Addr), PG (blkH X p s H sc (compEnvC sc cl C X.env) fp) tg g)
    (hel : ∀ (s : Shared) (H : Hp) (C : Addr) (cl : List (Str × Addr)) (fp : List Addr), PE (blkH X p s H sc (compEnvC sc cl C X.env) fp) elt te) (hs : ∀ x, foldedSetIterable iter X.env x = pure x := by intro _; rfl) :
    PE X (.ListComp elt [⟨tg, iter, [], 0⟩] sc pos) (tLc wi g tYes te (own.map (·.2))) := by
  refine ⟨fun pins s σ H Q I h => ?_⟩
  rw [eval_ListComp]
  refine lc_hot hp hpn nd I hi bo hg hel hs h fun D C s' m H' I' q hn f => ⟨m, hn, fun h'' sb => ?_⟩
  obtain ⟨f0, f1, f2, f3, f4, f5⟩ := f
  exact ⟨.ref D, H', I'.turned (t' := s'.toks) (fun b o hb e => (sb.2 b hb).trans e) f0 f1 f3 f4 f5, rfl, q⟩
end
end Mr
namespace Mr
open PySem L2 L2H PySem.Spec PyProof.Rows

/-! ### defs that an except suite calls with its exception -/
structure Hok (X : Cx) (k : Nat) (p : Addr × Obj) (D : Addr) : Prop where
  room : RoomH k X.A
  hot : Hot1 X.A p
  pn : p ∈ X.pn
  nd : X.N.Nodup
  zc : Zc (.ref D) none p.2
structure HotOk (P : Program) (w : World) (K : PySem.W.Frag) (mg : Str → Option Value) (base : Heap) (k : Nat) (x : Str) (D : Addr) (ps : List Str) (mir : Addr → List Dt → Md Dt) : Prop where
  ex : ∃ f fd, mg x = some (.ref f) ∧ PySem.W.keepIn K (.ref f) = true ∧ Binds K fd ps [] ∧
    ∀ (A : Around) (outer : List Env) (s : Shared) (H : Hp) (args : Args) (us : List Value) (vs : List V) (Q : VK) (E : XK) (p : Addr × Obj) (B : Hp) (ds : List Dt), RoomH k A → Hot1 A p → PinOk outer H s p → Zc (.ref D) none p.2 → Env0 P w K mg base A outer s H →
      BindsTo s fd args (ps.zip us) → Vals vs us → vs.length = ps.length → Ex B H → RpL (k0 K) B vs ds → Wp (mir p.1 ds) (fun d => ∀ v H', Rt (k0 K) false H B H' v d → Q v H') (XW mg E H) → codeAny (model P w) A (.call (.ref f) args) (CR (L2N.CX P w) outer P w H s Q E) s
theorem hot_ok {P : Program} {w : World} {K : PySem.W.Frag} {mg : Str → Option Value} {base : Heap} {x : Str} {st : Stmt} {f D : Addr} {fd : FuncData} {N ps : List Str} {k n : Nat} {ms : Addr → Fd → Md Out} (hn : N.length = n) (F : Fun K x x st f fd) (S : FnScope N ps (defScope st)) (hm : mg x = some (.ref f)) (hb : Binds K fd ps [])
    (body : ∀ (cdv : Value) (A : Around) (outer : List Env) (s : Shared) (H : Hp) (E : XK) (p : Addr × Obj), Hok (cxH (L2N.CX P w) P w K mg base N x (defScope st) f cdv A outer s H E p) k p D →
      ∃ t, DB (cxH (L2N.CX P w) P w K mg base N x (defScope st) f cdv A outer s H E p) [] M0 E false (defBody st) t (ms p.1)) :
    HotOk P w K mg base (k + 1) x D ps (fun a => mDef false n (ms a)) := by
  subst hn
  refine ⟨f, fd, hm, F.kp, hb, ?_⟩
  obtain ⟨oc, od, kV, doc, pm, an, cdv, ct, osl, rfl, lk, hcd⟩ := F.ex
  intro A outer s H args us vs Q E p B ds hr hot hpin hz e0 hbt rv hl e r wp
  have stay : ∀ b o, base.get? b = some o → s.heap.get? b = some o := fun b o z => (e0.bs b o z).1
  have KX : K.In s.heap := e0.mod.kin.keeps stay
  have kinds : ∀ y ∈ ps.zip us, (defScope st).names.lookup y.1 = some .local ∨ ((defScope st).names.lookup y.1 = some .cell ∧ ((cellsFrom (s.heap.objs.size + 1) (defScope st).names []).lookup y.1).isSome = true) := fun ⟨nm, val⟩ hy => by
    rcases S.par nm (List.of_mem_zip hy).1 with z | z
    · exact .inl z
    · exact .inr ⟨z, PySem.W.cellsFrom_some _ _ _ (.inl z)⟩
  refine codeAny_call_function hr.depth (KX _ _ lk) rfl S.co S.gen rfl (PySem.W.codeRec_of KX hcd) (hbt _ _ _ _ (wpAny_newFunctionEnv_cells S.kind kinds fun env he s1 xx => ?_))
  subst he
  refine ⟨(e0.mod.nolimit.keeps stay).keeps xx.toInCall.keep, codeAny_func ?_⟩
  obtain ⟨t, ht, sn⟩ := body cdv A outer s H E p ⟨hr.deeper _, hot, by simp [cxH], S.nd, hz⟩
  have hpl : ps.length ≤ N.length := by
    have := congrArg List.length S.pre
    rw [List.length_take] at this
    omega
  have I := inv_startH (CX := L2N.CX P w) (E := E) S hpin e0 hl rv xx
  have go : t { nx := fun _ H' => Q .non H', rt := Q } (L2.start N vs) H := sn H B H B _ _ _ (slt_start (T := []) (fun _ z => by cases z) e r (by omega)) (wp.bind.mono (fun o q => by
    cases o with
    | rt d => exact fun v H' h => q v H' h
    | nx Δ => exact fun H' S' σ' s' => q .non H' ⟨S', s'.gh, s'.bs, s'.sh, s'.fr, .non⟩
    | bk Δ => exact q.elim
    | ct Δ => exact q.elim) fun _ z => z)
  refine wpAny_mono (ht.run [] s1 _ H _ I go) (fun fl s' hs => ?_) fun e s' hs => hs
  cases fl with
  | ret u =>
    obtain ⟨v, σ', H', J, r2, q⟩ := hs
    exact ⟨v, H', J.os, J.bare, J.base, J.hok, r2, q⟩
  | next =>
    obtain ⟨σ', H', J, q⟩ := hs
    exact ⟨V.non, H', J.os, J.bare, J.base, J.hok, rfl, q⟩
  | brk =>
    obtain ⟨_, _, _, q⟩ := hs
    exact q.elim
  | cont =>
    obtain ⟨_, _, _, q⟩ := hs
    exact q.elim

/-! ### what such a def may do -/
section
variable {X : Cx} {T : List Addr} {M : Mm} {E : XK} {fl fa fb : Fl} {nw : Bool} {a b e tg elt iter : Expr} {ta tb te : TE} {ma mb me : Fd → Md Dt} {pos p1 p2 p3 p4 : Pos} {k : Nat} {p : Addr × Obj} {D : Addr} {x : Str}
theorem c_eqH {K0 : PySem.W.Frag} (c : Hok X k p D) (hK : X.K = K0 := by rfl) : CmpOk X M .Eq (rEqD K0) dEq := by
  subst hK
  exact ⟨op_eqD (by have := c.room.un; omega), sr_eq, fun a b => bind_nx (dEqv_nx a b) fun _ _ z => by cases z⟩
def dIsX (a : Addr) (b : Bool) : Dt → Md Dt
  | .adr a' => if a' = a then .ok (.bl b) else .bad
  | _ => .bad
theorem call_isP (C : ExcC X.K D) (c : Hok X k p D) : CallR X (.builtin "isinstance") (rIsE X.K D p.1) := by
  intro pins s σ H xs us Q I r h
  obtain ⟨cV, cv, b, rfl, hcv, e, q⟩ := h
  cases r with
  | cons r1 rr =>
    cases rr with
    | cons r2 rr =>
      cases rr
      cases r1
      have ec := hcv _ r2
      subst ec
      obtain ⟨hget, _⟩ := I.pin p (List.mem_append_left _ c.pn)
      have J : PySem.W.InstAt s.heap p.1 p.2 D none := by
        obtain ⟨h1, h2⟩ := c.zc
        obtain ⟨_, vs, hv, _⟩ := c.hot
        obtain ⟨a0, oc, od, oda, osl⟩ := p
        dsimp only at h1 h2 hv
        subst h1 h2 hv
        exact ⟨hget, rfl, rfl, trivial⟩
      exact PySem.W.kia_one (PySem.W.handS_kitx_exc C.hg C.hk C.hs C.hd C.ha C.hn C.ht C.hm) I.kIn J e (fun z => nomatch z) fun tk => ⟨.bl b, H, I.kept (t' := tk) fun _ _ z => z, rfl, q⟩
theorem d_isX {cV : V} {cv : Value} {q : Bool} (C : ExcC X.K D) (c : Hok X k p D) (hm : X.mg "isinstance" = none) (he : DE X T M E .s e te me) (hc : PE X b (tC cV)) (hcv : ∀ u, RelV cV u → u = cv) (hk : PySem.W.kitOne X.K (.ref D) cv = some q) (hg : Gl X "isinstance" := by rfl)
    (hs : starEach [e, b] X.env = (false, eval e X.env) :: starEach [b] X.env := by rfl) (hs2 : starEach [b] X.env = (false, eval b X.env) :: starEach [] X.env := by rfl) (hpl : (backTo pos (starEach [b] X.env)).any (·.1) = false := by rfl) :
    DE X T M E .s (.Call (.Name "isinstance" p1) [e, b] [] pos) (tCB (rIsE X.K D p.1) (tCons te (tCons (tC cV) tNil))) (mU (dIsX p.1 q) me) :=
  ⟨pe_callB (call_isP C c) hg hm (by decide +kernel) (pa_cons he.pe (pa_cons hc pa_nil hs2) hs) (he := hs) (hpl := hpl), fun G B H S σ Δ Q s w => he.sn G B H S σ Δ _ s (w.bind.mono (fun d k v H1 S1 g r _ => by
    cases d with
    | adr a' =>
      have k : Wp (if a' = p.1 then Md.ok (Dt.bl q) else .bad) _ _ := k
      by_cases z : a' = p.1
      · rw [if_pos z] at k
        cases r
        exact ⟨cV, cv, q, by rw [z], hcv, hk, k _ H1 S1 g (.bl _) trivial⟩
      · rw [if_neg z] at k
        exact k.elim
    | _ => exact k.elim) fun _ z => z)⟩
theorem s_setN {pos' : Pos} (i : Nat) (nd : X.N.Nodup) (he : DE X T M E .s e te me) (hi : X.N[i]? = some x := by rfl) (hx : Loc X.env.scope x := by first | exact Or.inl rfl | exact Or.inr rfl) (hs : swapsWith e (some (.Name x pos')) pos.line X.env = pure false := by rfl) (hf : X.fn x = true ∨ X.env.scope.names.lookup x = some .local := by first | exact .inl rfl | exact .inr rfl) :
    DS X T M E nw (.Assign [.Name x pos'] e pos) (tAsg te (gName i)) (mAsg i me) := ⟨ps_set nd hi hx he.pe hs hf, ss_asg i he.sn⟩
theorem hok_blk (c : Hok X k p D) (s : Shared) (H : Hp) (sc : Scope) (C : Addr) (cl : List (Str × Addr)) (fp : List Addr) : Hok (blkH X p s H sc (compEnvC sc cl C X.env) fp) k p D := ⟨c.room, c.hot, by simp, c.nd, c.zc⟩
theorem d_lcH {sc : Scope} {own : List (Str × Nat)} {wi : TI} {mi : Fd → Md (List Dt)} {g : TG} {gs : Dt → Fd → Md Fd} {ws : List Nat} (c : Hok X k p D) (hi : PIH X tg iter wi) (si : SndI ⟨kx X M, T, X.mg, E⟩ wi mi) (bo : BlkOk X.N X.env.scope sc own)
    (hg : ∀ (s : Shared) (H : Hp) (C : Addr) (cl : List (Str × Addr)) (fp : List Addr), Hok (blkH X p s H sc (compEnvC sc cl C X.env) fp) k p D → DG (blkH X p s H sc (compEnvC sc cl C X.env) fp) T M ws tg g gs)
    (he : ∀ (s : Shared) (H : Hp) (C : Addr) (cl : List (Str × Addr)) (fp : List Addr), Hok (blkH X p s H sc (compEnvC sc cl C X.env) fp) k p D → DE (blkH X p s H sc (compEnvC sc cl C X.env) fp) T M E0 .s elt te me)
    (hw : ws.all (fun i => (own.map (·.2)).contains i) = true := by decide) (hs : ∀ x, foldedSetIterable iter X.env x = pure x := by intro _; rfl) :
    DE X T M E .n (.ListComp elt [⟨tg, iter, [], 0⟩] sc pos) (tLc wi g tYes te (own.map (·.2))) (mLc mi gs mYes me (own.map (·.2))) :=
  ⟨pe_lcH c.hot c.pn c.nd hi bo (fun s H C cl fp => (hg s H C cl fp (hok_blk c ..)).pg) (fun s H C cl fp => (he s H C cl fp (hok_blk c ..)).pe) hs,
   snd_lc (W := ⟨kx X M, T, X.mg, E⟩) si.j (hg X.s_0 (fun _ => none) 0 [] [] (hok_blk c ..)).sn (mem_all hw) snd_yes (he X.s_0 (fun _ => none) 0 [] [] (hok_blk c ..)).sn⟩
end

/-! ### the suite's call -/
def tHot (K : PySem.W.Frag) (i : Nat) (a : Addr) (res : Dt) : TE := fun σ H Q => σ[i]? = some (some (.ref a)) ∧ ∀ v H', Rt (k0 K) false H H H' v res → Q v H'
theorem pe_hot {X : Cx} {k i j : Nat} {a D : Addr} {oe : Obj} {n x : Str} {kk : Int} {ps : List Str} {mir : Addr → List Dt → Md Dt} {res : Dt} {p1 p2 p3 pos : Pos} (F : HotOk X.prog X.w X.K X.mg X.base k x D ps mir) (hl : ps.length = 2) (hr : RoomH k X.A) (hot : Hot1 X.A (a, oe)) (hpn : (a, oe) ∈ X.pn) (hz : Zc (.ref D) none oe)
    (hN : X.N[i]? = some n) (hv : Vis X.env.scope n) (hg : Gl X x) (hres : ∀ a, mir a [.adr a, .int kk] = .ok res) (hd : (n == ("__debug__" : Str)) = false) (hcd : (n == ("__classdict__" : Str)) = false) (hdb : (x == ("__debug__" : Str)) = false)
    (hs : starEach [.Name n p2, .Constant (.int kk) j p3] X.env = (false, eval (.Name n p2) X.env) :: starEach [.Constant (.int kk) j p3] X.env) (hs2 : starEach [.Constant (.int kk) j p3] X.env = (false, eval (.Constant (.int kk) j p3) X.env) :: starEach [] X.env)
    (hpl : (backTo pos (starEach [.Constant (.int kk) j p3] X.env)).any (·.1) = false) : PE X (.Call (.Name x p1) [.Name n p2, .Constant (.int kk) j p3] [] pos) (tHot X.K i a res) := by
  refine ⟨fun pins s σ H Q I h => ?_⟩
  obtain ⟨hi, hq⟩ := h
  obtain ⟨f, fd, hm, hk, hb, run⟩ := F.ex
  have ha : PA X [.Name n p2, .Constant (.int kk) j p3] (tCons (tVar i) (tCons (tC (.int kk)) tNil)) := pa_cons (pe_var hN hv hd hcd) (pa_cons pe_int pa_nil hs2) hs
  refine wpAny_Call_Name_kw (ld_glob I hg hm ?_ hdb)
  refine PySem.W.callWith_K (h₀ := X.base) I.ok.mod.kin hk (thn (ha.run pos pins s σ H (fun vs H1 => vs = [V.ref a, .int kk] ∧ H1 = H) I ⟨_, hi, rfl, rfl⟩) fun us s1 hh => ?_) hs hpl
  obtain ⟨vs, H1, I1, r1, rfl, rfl⟩ := hh
  refine ⟨I1.kIn, ?_⟩
  have hu : us.length = ps.length := by rw [← r1.length, hl]; rfl
  have bt := hb s1 us I1.kIn (by rw [List.append_nil]; exact hu)
  rw [List.append_nil] at bt
  have P1 := I1.pin (a, oe) (List.mem_append_left _ hpn)
  have hpin : PinOk X.stack H1 s1 (a, oe) := ⟨P1.1, P1.2.1, fun hm => (List.mem_cons.mp (I1.stkSub _ hm)).elim P1.2.2.1 P1.2.2.2.1, P1.2.2.2.2⟩
  have wp : Wp (mir a [.adr a, .int kk]) (fun d => ∀ v H', Rt (k0 X.K) false H1 H1 H' v d → Q v H') (XW X.mg (fun _ _ _ => False) H1) := by
    rw [hres]
    exact hq
  refine wpAny_call (codeAny_mono (run X.A X.stack s1 H1 ⟨us, []⟩ us _ Q (fun _ _ _ => False) (a, oe) H1 [.adr a, .int kk] hr hot hpin hz I1.env0 bt r1 (by rw [hl]; rfl) (Ex.refl H1) (.cons (.adr a) (.cons (.int kk) .nil)) wp) fun r s' hq2 => ?_)
  cases r with
  | error e =>
    obtain ⟨_, _, _, _, _, _, _, _, _, _, _, _, z⟩ := hq2
    exact z.elim
  | ok fl =>
    cases fl with
    | ret u => exact I1.after hq2
    | next => exact False.elim hq2
    | brk => exact False.elim hq2
    | cont => exact False.elim hq2
end Mr
namespace Mr
open PySem L2 L2H PySem.Spec PyProof.Rows

theorem roomH_mark {k : Nat} {A : Around} {h : Option Value} (r : RoomH k A) : RoomH k (A.mark h) := ⟨r.dp, r.un⟩
/-! ### try: .. except C as n: return g(n, k) -/
def mTry (c0 : Str) (res : Dt) (mb : Fd → Md Out) : Fd → Md Out := fun Δ => match mb Δ with
  | .ok o => .ok o
  | .exc c => if c = c0 then .ok (.rt res) else .bad
  | .bad => .bad
def tSuite (K : PySem.W.Frag) (D : Addr) (i : Nat) (res : Dt) : Addr → Value → Option Addr → TS := fun a cls d Dn σ H => cls = .ref D ∧ d = none ∧ σ[i]? = some (some (.ref a)) ∧ ∀ v H', Rt (k0 K) false H H H' v res → Dn.rt v H'
/-- what the body's exceptions are wished to be -/
def EW (n : Nat) (W : WX) : XK := fun cls d H => ∀ σ : L2.St, σ.length = n → W cls d σ H
theorem takes_ew {X : Cx} {W : WX} (tk : L2N.Takes X W) : L2N.Takes X (fun cls d _ H => EW X.N.length W cls d H) := fun u s' ⟨a, B, sI, pins, σ, H, cls, d, e, I, nb, up, sky, na, os, ag, w⟩ =>
  tk u s' ⟨a, B, sI, pins, σ, H, cls, d, e, I, nb, up, sky, na, os, ag, w σ I.len⟩
section
variable {P : Program} {w : World} {K : PySem.W.Frag} {mg : Str → Option Value} {base : Heap} {N : List Str} {qual : Str} {scope : Scope} {f : Addr} {cd : Value} {A : Around} {outer : List Env} {s0 : Shared} {H0 : Hp} {E : XK} {T : List Addr} {nw : Bool}
theorem s_tryAs {k j kx : Nat} {x n g c0 : Str} {cv : Value} {kk : Int} {ps : List Str} {mir : Addr → List Dt → Md Dt} {res : Dt} {body : List Stmt} {tb : XK → TS} {mb : Fd → Md Out} {D : Addr} {p1 p2 p3 p4 p5 np pos pos' : Pos} (i : Nat)
    (cc : Cok (cxOf (L2N.CX P w) P w K mg base N qual scope f cd A outer s0 H0 E) k E) (F : HotOk P w K mg base kx g D ps mir) (hl : ps.length = 2) (hx : PySem.W.exmOne K (.ref D) cv = some true) (hD : mg c0 = some (.ref D)) (hcv : mg x = some cv) (hres : ∀ a, mir a [.adr a, .int kk] = .ok res) (hflat : flatD res = true) (hnw : nw = false)
    (hb : ∀ (pn : List (Addr × Obj)) (xe : Value → Shared → Prop) (E' : XK), Cok ((cxOf (L2N.CX P w) P w K mg base N qual scope f cd A outer s0 H0 E).tr pn xe) k E' → DB ((cxOf (L2N.CX P w) P w K mg base N qual scope f cd A outer s0 H0 E).tr pn xe) T M0 E' nw body (tb E') mb)
    (hkx : kx ≤ k := by exact Nat.le_of_ble_eq_true rfl) (hi : N[i]? = some n := by rfl) (hln : scope.names.lookup n = some .local := by rfl) (hg : scope.names.lookup g = some .globalImplicit := by rfl) (hgx : scope.names.lookup x = some .globalImplicit := by rfl)
    (hd : (n == ("__debug__" : Str)) = false := by decide) (hcd : (n == ("__classdict__" : Str)) = false := by decide) (hdb : (g == ("__debug__" : Str)) = false := by decide) (hdx : (x == ("__debug__" : Str)) = false := by decide)
    (hs : starEach [.Name n p2, .Constant (.int kk) j p3] (envOfC qual scope s0.heap.objs.size f cd) = (false, eval (.Name n p2) (envOfC qual scope s0.heap.objs.size f cd)) :: starEach [.Constant (.int kk) j p3] (envOfC qual scope s0.heap.objs.size f cd) := by rfl)
    (hs2 : starEach [.Constant (.int kk) j p3] (envOfC qual scope s0.heap.objs.size f cd) = (false, eval (.Constant (.int kk) j p3) (envOfC qual scope s0.heap.objs.size f cd)) :: starEach [] (envOfC qual scope s0.heap.objs.size f cd) := by rfl)
    (hpl : (backTo p4 (starEach [.Constant (.int kk) j p3] (envOfC qual scope s0.heap.objs.size f cd))).any (·.1) = false := by rfl) :
    DS (cxOf (L2N.CX P w) P w K mg base N qual scope f cd A outer s0 H0 E) T M0 E nw (.Try body [.ExceptHandler (some (.Name x np)) (some n) [.Return (some (.Call (.Name g p1) [.Name n p2, .Constant (.int kk) j p3] [] p4)) p5] pos'] [] [] pos)
      (fun Dn σ H => tb (EW N.length (wAs K cv i (tSuite K D i res) (fun cls d _ H => E cls d H) Dn)) Dn σ H) (mTry c0 res mb) := by
  subst hnw
  refine ⟨?_, ?_⟩
  · refine L2N.ps_try_as (X := cxOf (L2N.CX P w) P w K mg base N qual scope f cd A outer s0 H0 E) (tb := fun W => tb (EW N.length W)) rfl rfl cc.nd hi hln ⟨hgx, hdx, .inl hcv⟩ cc.tk (fun W pn xe tk po => ?_) fun a oe cls d pn hz hv => ?_
    · have tk2 := takes_ew tk
      exact (hb pn xe _ ⟨cc.calm, cc.room, L2N.passes_call tk2 fun _ _ _ _ h => h, po, cc.nd, tk2⟩).ps
    · refine ⟨fun pins s σ H Dn I h => ?_⟩
      obtain ⟨rfl, rfl, e1, e2⟩ := h
      obtain ⟨vs, hvs⟩ := hv
      have pe := pe_hot (X := (cxOf (L2N.CX P w) P w K mg base N qual scope f cd A outer s0 H0 E).suite a ((a, oe) :: pn)) (n := n) (x := g) (i := i) (j := j) (kk := kk) (p1 := p1) (p2 := p2) (p3 := p3) (pos := p4) (a := a) (oe := oe) F hl (roomH_mark ((roomH_of cc.room).mono hkx)) ⟨rfl, vs, hvs, hz.2.2 vs hvs⟩ List.mem_cons_self hz.zc hi (.inl hln) hg hres hd hcd hdb hs hs2 hpl
      exact (pss_one (ps_ret pe)).run pins s σ H Dn I ⟨e1, e2⟩
  · intro G B H S σ Δ Dn sl wp
    have ck : Cok ((cxOf (L2N.CX P w) P w K mg base N qual scope f cd A outer s0 H0 E).tr [] (cxOf (L2N.CX P w) P w K mg base N qual scope f cd A outer s0 H0 (EW N.length (wAs K cv i (tSuite K D i res) (fun cls d _ H => E cls d H) Dn))).xe) k (EW N.length (wAs K cv i (tSuite K D i res) (fun cls d _ H => E cls d H) Dn)) := cok_def (E := EW N.length (wAs K cv i (tSuite K D i res) (fun cls d _ H => E cls d H) Dn)) cc.room cc.nd
    refine (hb _ _ _ ck).sn G B H S σ Δ Dn sl ?_
    show Wp (mb Δ) (OutOk ⟨k0 K, T, mg, _⟩ false G B Dn) (XW mg _ G)
    have wp : Wp (match mb Δ with
      | .ok o => Md.ok o
      | .exc c => if c = c0 then .ok (.rt res) else .bad
      | .bad => .bad) (OutOk ⟨k0 K, T, mg, E⟩ false G B Dn) (XW mg E G) := wp
    cases hm : mb Δ with
    | ok o =>
      rw [hm] at wp
      show OutOk _ false G B Dn o
      cases o with
      | nx Δ' => exact wp
      | bk Δ' => exact wp
      | ct Δ' => exact wp
      | rt d => exact wp
    | bad =>
      rw [hm] at wp
      exact wp.elim
    | exc c =>
      rw [hm] at wp
      by_cases hc : c = c0
      · subst hc
        have wp : Wp (if c = c then Md.ok (Out.rt res) else .bad) (OutOk ⟨k0 K, T, mg, E⟩ false G B Dn) (XW mg E G) := wp
        rw [if_pos rfl] at wp
        have wp : ∀ v H, Rt (k0 K) false G B H v res → Dn.rt v H := wp
        refine ⟨D, hD, fun H' ex σ' hl' => ⟨true, hx, fun _ a na => ⟨rfl, rfl, List.getElem?_set_self (by
          have := (List.getElem?_eq_some_iff.mp hi).1
          omega), fun v H2 ⟨S2, h1, h2, h3, h4, h5⟩ => wp v H2 ⟨B, ex.trans h1, Ex.refl B, sl.bg.trans (ex.trans h1), fun _ _ z => z, Rp.flat h5 hflat⟩⟩, fun z => by cases z⟩⟩
      · have wp : Wp (if c = c0 then Md.ok (Out.rt res) else .bad) (OutOk ⟨k0 K, T, mg, E⟩ false G B Dn) (XW mg E G) := wp
        rw [if_neg hc] at wp
        exact wp.elim
end
end Mr
/-! What mirrors answer, step by step (functions kept closed, so that nothing is unfolded). -/
namespace Mr
open PySem L2
section
variable {Δ Δ' : Fd} {ma mb : Fd → Md Dt} {mt mu : Fd → Md Bool} {mo mp : Fd → Md Out} {mas : Fd → Md (List Dt)} {a b d : Dt} {ds es : List Dt} {f : Dt → Dt → Md Dt} {g : Dt → Md Dt} {o : Out} {k : Bool} {i j : Nat} {r : Md Dt} {ro : Md Out} {rb : Md Bool}
theorem bind_ok {α β : Type} {x : α} {h : α → Md β} : (Md.ok x).bind h = h x := rfl
theorem var_ok (h : Δ[i]? = some (.sh d)) : mVar i Δ = .ok d := by
  unfold mVar
  rw [h]
theorem own_ok (h : Δ[i]? = some (.ow ds)) : mOwn i Δ = .ok (.lst ds) := by
  unfold mOwn
  rw [h]
theorem c_ok : mC d Δ = .ok d := rfl
theorem u_ok (h : ma Δ = .ok a) : mU g ma Δ = g a := by
  unfold mU
  rw [h]
  rfl
theorem bin_ok (h1 : ma Δ = .ok a) (h2 : mb Δ = .ok b) : mBin f ma mb Δ = f a b := by
  unfold mBin
  rw [h1, bind_ok, h2]
  rfl
theorem t_ok (h : ma Δ = .ok (.bl k)) : mT ma Δ = .ok k := by
  unfold mT
  rw [h]
  rfl
theorem not_ok (h : mt Δ = .ok k) : mNot mt Δ = .ok (!k) := by
  unfold mNot
  rw [h]
  rfl
theorem and_t (h : mt Δ = .ok true) : mAnd mt mu Δ = mu Δ := by
  unfold mAnd
  rw [h]
  rfl
theorem and_f (h : mt Δ = .ok false) : mAnd mt mu Δ = .ok false := by
  unfold mAnd
  rw [h]
  rfl
theorem or_t (h : mt Δ = .ok true) : mOr mt mu Δ = .ok true := by
  unfold mOr
  rw [h]
  rfl
theorem or_f (h : mt Δ = .ok false) : mOr mt mu Δ = mu Δ := by
  unfold mOr
  rw [h]
  rfl
theorem andV_t (h : ma Δ = .ok (.bl true)) : mAndV ma mb Δ = mb Δ := by
  unfold mAndV
  rw [t_ok h]
  rfl
theorem andV_f (h : ma Δ = .ok (.bl false)) : mAndV ma mb Δ = .ok (.bl false) := by
  unfold mAndV
  rw [t_ok h]
  rfl
theorem orV_t (h : ma Δ = .ok (.bl true)) : mOrV ma mb Δ = .ok (.bl true) := by
  unfold mOrV
  rw [t_ok h]
  rfl
theorem orV_f (h : ma Δ = .ok (.bl false)) : mOrV ma mb Δ = mb Δ := by
  unfold mOrV
  rw [t_ok h]
  rfl
theorem notV_ok (h : ma Δ = .ok (.bl k)) : mNotV ma Δ = .ok (.bl (!k)) := by
  unfold mNotV
  rw [t_ok h]
  rfl
theorem nil_ok : mNil Δ = .ok [] := rfl
theorem cons_ok (h1 : ma Δ = .ok a) (h2 : mas Δ = .ok ds) : mCons ma mas Δ = .ok (a :: ds) := by
  unfold mCons
  rw [h1, bind_ok, h2]
  rfl
theorem lst_ok (h : mas Δ = .ok ds) (hl : ds.length ≤ 16777216) : mLst mas Δ = .ok (.lst ds) := by
  unfold mLst
  rw [h, bind_ok]
  exact if_pos (decide_eq_true hl)
theorem tup_ok (h : mas Δ = .ok ds) (hl : ds.length ≤ 16777216) : mTup mas Δ = .ok (.tup ds) := by
  unfold mTup
  rw [h, bind_ok]
  exact if_pos (decide_eq_true hl)
theorem call_ok {n : Nat} {mir : List Dt → Md Dt} (h : mas Δ = .ok ds) (hn : ds.length = n) : mCall n mir mas Δ = mir ds := by
  unfold mCall
  rw [h, bind_ok]
  exact if_pos hn
theorem callF_ok {n : Nat} {mir : List Dt → Md Dt} (h : mas Δ = .ok ds) (hn : ds.length = n) (hm : mir ds = .ok d) (hf : flatD d = true) : mCallF n mir mas Δ = .ok d := by
  unfold mCallF
  rw [h, bind_ok, if_pos hn, hm, bind_ok]
  exact if_pos hf
theorem seq_nx (h : mo Δ = .ok (.nx Δ')) : mSeq mo mp Δ = mp Δ' := by
  unfold mSeq
  rw [h]
  rfl
theorem seq_rt (h : mo Δ = .ok (.rt d)) : mSeq mo mp Δ = .ok (.rt d) := by
  unfold mSeq
  rw [h]
  rfl
theorem seq_exc {c : Str} (h : mo Δ = .exc c) : mSeq mo mp Δ = .exc c := by
  unfold mSeq
  rw [h]
  rfl
theorem if_t (h : mt Δ = .ok true) : mIfS mt mo mp Δ = mo Δ := by
  unfold mIfS
  rw [h]
  rfl
theorem if_f (h : mt Δ = .ok false) : mIfS mt mo mp Δ = mp Δ := by
  unfold mIfS
  rw [h]
  rfl
theorem ret_ok (h : ma Δ = .ok d) : mRet ma Δ = .ok (.rt d) := by
  unfold mRet
  rw [h]
  rfl
theorem ret_exc {c : Str} (h : ma Δ = .exc c) : mRet ma Δ = .exc c := by
  unfold mRet
  rw [h]
  rfl
theorem retO_ok (h : Δ[i]? = some (.ow ds)) : mRetO i Δ = .ok (.rt (.lst ds)) := by
  unfold mRetO
  rw [h]
theorem asg_ok (h : ma Δ = .ok d) : mAsg i ma Δ = .ok (.nx (Δ.set i (.sh d))) := by
  unfold mAsg
  rw [h]
  rfl
theorem asg_exc {c : Str} (h : ma Δ = .exc c) : mAsg i ma Δ = .exc c := by
  unfold mAsg
  rw [h]
  rfl
theorem asgO_ok (h : ma Δ = .ok (.lst ds)) : mAsgO i ma Δ = .ok (.nx (Δ.set i (.ow ds))) := by
  unfold mAsgO
  rw [h]
  rfl
theorem for_ok {mi : Fd → Md (List Dt)} {tg : Dt → Fd → Md Fd} (h : mi Δ = .ok ds) : mFor mi tg mo Δ = mForGo tg mo ds Δ := by
  unfold mFor
  rw [h]
  rfl
theorem go_nil {tg : Dt → Fd → Md Fd} : mForGo tg mo [] Δ = .ok (.nx Δ) := rfl
theorem go_nx {tg : Dt → Fd → Md Fd} {Δ1 Δ2 : Fd} (h1 : tg a Δ = .ok Δ1) (h2 : mo Δ1 = .ok (.nx Δ2)) : mForGo tg mo (a :: ds) Δ = mForGo tg mo ds Δ2 := by
  show (match tg a Δ with
    | .ok Δ1 => (mo Δ1).bind fun o => match o with
      | .nx Δ2 => mForGo tg mo ds Δ2
      | .ct Δ2 => mForGo tg mo ds Δ2
      | .bk Δ2 => .ok (.nx Δ2)
      | .rt d => .ok (.rt d)
    | _ => .bad) = _
  rw [h1]
  show ((mo Δ1).bind _) = _
  rw [h2]
  rfl
theorem go_rt {tg : Dt → Fd → Md Fd} {Δ1 : Fd} (h1 : tg a Δ = .ok Δ1) (h2 : mo Δ1 = .ok (.rt d)) : mForGo tg mo (a :: ds) Δ = .ok (.rt d) := by
  show (match tg a Δ with
    | .ok Δ1 => (mo Δ1).bind fun o => match o with
      | .nx Δ2 => mForGo tg mo ds Δ2
      | .ct Δ2 => mForGo tg mo ds Δ2
      | .bk Δ2 => .ok (.nx Δ2)
      | .rt d => .ok (.rt d)
    | _ => .bad) = _
  rw [h1]
  show ((mo Δ1).bind _) = _
  rw [h2]
  rfl
theorem name_ok : gsName i d Δ = .ok (Δ.set i (.sh d)) := rfl
theorem def_rt {nw : Bool} {n : Nat} {ms : Fd → Md Out} (h : ms (startD n ds) = .ok (.rt d)) : mDef nw n ms ds = .ok d := by
  unfold mDef
  rw [h]
  rfl
theorem def_exc {nw : Bool} {n : Nat} {ms : Fd → Md Out} {c : Str} (h : ms (startD n ds) = .exc c) : mDef nw n ms ds = .exc c := by
  unfold mDef
  rw [h]
  rfl
theorem lc_ok {mi : Fd → Md (List Dt)} {tg : Dt → Fd → Md Fd} {vs : List Nat} (h : mi Δ = .ok ds) (hl : ds.length < 16777216) (h2 : mLcGo tg mt ma (wipeD Δ vs) ds = .ok es) : mLc mi tg mt ma vs Δ = .ok (.lst es) := by
  unfold mLc
  rw [h, bind_ok, if_pos hl, h2]
  rfl
theorem gen_ok {fin : List Bool → Bool} {bs : List Bool} (h : mb Δ = .ok (.lst ds)) (hq : qok.go ds = true) (hi : i < Δ.length) (hb : allB (fun d => ma ((Δ.map cut).set i (.sh d))) ds = some bs) : mGen i fin mb ma Δ = .ok (.bl (fin bs)) := by
  unfold mGen
  rw [h, bind_ok]
  show (if qok.go ds = true ∧ i < Δ.length then _ else _) = _
  rw [if_pos ⟨hq, hi⟩, hb]
end
end Mr
/-! Code that makes and changes things that others hold: its mirrors hand a store on. -/
namespace Mr
open PySem L2

/-! ### answers with a store -/
inductive Mx (α : Type) where
  | ok (m : List Cl) (a : α) | exc (m : List Cl) (c : Str) | bad
def Mx.bind {α β : Type} (x : Mx α) (f : List Cl → α → Mx β) : Mx β := match x with
  | .ok m a => f m a
  | .exc m c => .exc m c
  | .bad => .bad
def Wq {α : Type} (x : Mx α) (post : List Cl → α → Prop) (ex : List Cl → Str → Prop) : Prop := match x with
  | .ok m a => post m a
  | .exc m c => ex m c
  | .bad => False
theorem Wq.bind {α β : Type} {x : Mx α} {f : List Cl → α → Mx β} {post : List Cl → β → Prop} {ex : List Cl → Str → Prop} (h : Wq (x.bind f) post ex) : Wq x (fun m a => Wq (f m a) post ex) ex := by
  cases x <;> exact h
theorem Wq.mono {α : Type} {x : Mx α} {p q : List Cl → α → Prop} {ex ex' : List Cl → Str → Prop} (h : Wq x p ex) (hp : ∀ m a, p m a → q m a) (he : ∀ m c, ex m c → ex' m c) : Wq x q ex' := by
  cases x with
  | ok m a => exact hp m a h
  | exc m c => exact he m c h
  | bad => exact h
def Md.mx {α : Type} (m : List Cl) : Md α → Mx α
  | .ok a => .ok m a
  | .exc c => .exc m c
  | .bad => .bad
theorem mx_w {α : Type} {m : List Cl} {x : Md α} {p : List Cl → α → Prop} {ex : List Cl → Str → Prop} (h : Wq (x.mx m) p ex) : Wp x (fun a => p m a) (fun c => ex m c) := by
  cases x <;> exact h

/-! ### states -/
def LeR (r r' : List Addr) : Prop := ∀ (n : Nat) (a : Addr), r[n]? = some a → r'[n]? = some a
theorem LeR.refl {r : List Addr} : LeR r r := fun _ _ h => h
theorem LeR.trans {r r1 r2 : List Addr} (a : LeR r r1) (b : LeR r1 r2) : LeR r r2 := fun n x h => b n x (a n x h)
theorem LeR.mem {r r' : List Addr} (l : LeR r r') {a : Addr} (h : a ∈ r) : a ∈ r' := by
  obtain ⟨n, hn, e⟩ := List.getElem_of_mem h
  exact List.mem_of_getElem? (l n a (List.getElem?_eq_some_iff.mpr ⟨hn, e⟩))
theorem LeR.app {r s : List Addr} : LeR r (r ++ s) := fun n a h => by
  rw [List.getElem?_append_left (List.getElem?_eq_some_iff.mp h).1]
  exact h
theorem LeR.len {r r' : List Addr} (l : LeR r r') : r.length ≤ r'.length := by
  by_cases h : r.length = 0
  · omega
  · have hn : r.length - 1 < r.length := by omega
    have := (List.getElem?_eq_some_iff.mp (l _ _ (List.getElem?_eq_getElem hn))).1
    omega
section
variable {K : PySem.W.Frag} {T : List Addr} {G B H S H' S' : Hp} {M M' : Mm} {σ : St} {Δ : Fd}
theorem rp_ext {r r' : List Addr} {m m' : List Cl} (l : LeR r r') {v : V} {d : Dt} (h : Rp ⟨K, r, m⟩ H v d) : Rp ⟨K, r', m'⟩ H v d := Rp.ext (K := ⟨K, r, m⟩) (K' := ⟨K, r', m'⟩) rfl l h
theorem rpl_ext {r r' : List Addr} {m m' : List Cl} (l : LeR r r') {v : List V} {d : List Dt} (h : RpL ⟨K, r, m⟩ H v d) : RpL ⟨K, r', m'⟩ H v d := RpL.ext (K := ⟨K, r, m⟩) (K' := ⟨K, r', m'⟩) rfl l h
theorem cl_ext {r r' : List Addr} {m m' : List Cl} (l : LeR r r') {a : Addr} {c : Cl} (h : ClAt ⟨K, r, m⟩ H S a c) : ClAt ⟨K, r', m'⟩ H S a c := by
  cases c with
  | lst ds => obtain ⟨vs, h, q⟩ := h; exact ⟨vs, h, rpl_ext l q⟩
  | ins C ns ds => obtain ⟨dx, fs, h, e, q⟩ := h; exact ⟨dx, fs, h, e, rpl_ext l q⟩
  | dK ks ds => obtain ⟨kvs, h, e, q⟩ := h; exact ⟨kvs, h, e, rpl_ext l q⟩
  | dN ks ds => exact h.elim
/-- the frame's state where the text's things may change -/
structure SM (K : PySem.W.Frag) (T : List Addr) (G B H S : Hp) (M : Mm) (σ : St) (Δ : Fd) : Prop where
  s : Slt ⟨K, M.r, M.m⟩ T G B H S σ Δ
  g : ∀ a ∈ M.r, G a = none
theorem SM.grow (s : SM K T G B H S M σ Δ) (g : Gr H S H' S') : SM K T G B H' S' M σ Δ := ⟨s.s.grow g, s.g⟩
/-- another store of the same heap -/
theorem Slt.store {r r' : List Addr} {m m' : List Cl} (s : Slt ⟨K, r, m⟩ T G B H S σ Δ) (l : LeR r r') (st : Sto ⟨K, r', m'⟩ H S) (hc : ∀ (i : Nat) (ds : List Dt) (a : Addr), Δ[i]? = some (.ow ds) → σ[i]? = some (some (.ref a)) → a ∉ r') : Slt ⟨K, r', m'⟩ T G B H S σ Δ :=
  ⟨s.len, s.gh, s.bg, s.bs, s.sh, s.fr, s.tb, fun i d h => by
    obtain ⟨v, e, q⟩ := s.shd i d h
    exact ⟨v, e, rp_ext l q⟩, fun i ds h => by
    obtain ⟨a, vs, e, h1, h2, h3, q⟩ := s.own i ds h
    exact ⟨a, vs, e, h1, h2, h3, rpl_ext l q⟩, s.nd, st, hc⟩
/-- one more thing that may be changed -/
theorem Sto.more {r : List Addr} {m : List Cl} (st : Sto ⟨K, r, m⟩ H S) {p : Addr} {c : Cl} (hp : p ∉ r) (hS : S p = none) (h : ClAt ⟨K, r ++ [p], m ++ [c]⟩ H S p c) : Sto ⟨K, r ++ [p], m ++ [c]⟩ H S := by
  have e0 : m.length = r.length := st.len
  refine ⟨by show (m ++ [c]).length = (r ++ [p]).length; rw [List.length_append, List.length_append, e0]; rfl, ?_, fun n a c' h1 h2 => ?_⟩
  · show (r ++ [p]).Nodup
    rw [List.nodup_append]
    exact ⟨st.nd, by simp, fun a h1 b h2 => by
      have : b = p := by simpa using h2
      subst this
      exact fun z => hp (z ▸ h1)⟩
  · have h1 : (r ++ [p])[n]? = some a := h1
    have h2 : (m ++ [c])[n]? = some c' := h2
    by_cases hn : n < r.length
    · rw [List.getElem?_append_left hn] at h1
      rw [List.getElem?_append_left (by omega)] at h2
      obtain ⟨k1, k2⟩ := st.at_ n a c' h1 h2
      exact ⟨k1, cl_ext LeR.app k2⟩
    · have hl := (List.getElem?_eq_some_iff.mp h1).1
      rw [List.length_append] at hl
      have hn : n = r.length := by simp at hl; omega
      subst hn
      rw [List.getElem?_append_right (Nat.le_refl _), Nat.sub_self] at h1
      rw [List.getElem?_append_right (by omega), e0, Nat.sub_self] at h2
      cases h1
      cases h2
      exact ⟨hS, h⟩
theorem SM.more (s : SM K T G B H S M σ Δ) {p : Addr} {c : Cl} (hG : G p = none) (hS : S p = none) (h : ClAt ⟨K, M.r ++ [p], M.m ++ [c]⟩ H S p c) (hp : p ∉ M.r) (ho : ∀ (i : Nat) (ds : List Dt), Δ[i]? = some (.ow ds) → σ[i]? ≠ some (some (.ref p))) : SM K T G B H S ⟨M.r ++ [p], M.m ++ [c]⟩ σ Δ :=
  ⟨s.s.store LeR.app (s.s.cl.more hp hS h) fun i ds a h1 h2 => by
    rw [List.mem_append]
    rintro (z | z)
    · exact s.s.co i ds a h1 h2 z
    · have : a = p := by simpa using z
      exact ho i ds h1 (this ▸ h2), fun a h => by
    rcases List.mem_append.mp h with z | z
    · exact s.g a z
    · have : a = p := by simpa using z
      rw [this]
      exact hG⟩
theorem nodup_at {α : Type} : ∀ {l : List α} {i j : Nat} {a : α}, l.Nodup → l[i]? = some a → l[j]? = some a → i = j
  | [], _, _, _, _, h, _ => by simp at h
  | x :: r, 0, 0, _, _, _, _ => rfl
  | x :: r, 0, j + 1, a, n, h1, h2 => by
    cases h1
    exact absurd (List.mem_of_getElem? (l := r) (i := j) h2) (List.nodup_cons.mp n).1
  | x :: r, i + 1, 0, a, n, h1, h2 => by
    cases h2
    exact absurd (List.mem_of_getElem? (l := r) (i := i) h1) (List.nodup_cons.mp n).1
  | x :: r, i + 1, j + 1, a, n, h1, h2 => congrArg (· + 1) (nodup_at (l := r) (List.nodup_cons.mp n).2 h1 h2)
/-- a thing changes -/
theorem Sto.put {r : List Addr} {m : List Cl} (st : Sto ⟨K, r, m⟩ H S) {n : Nat} {p : Addr} {c : Cl} {o : HO} (hn : r[n]? = some p) (h : ClAt ⟨K, r, m.set n c⟩ (upd H p o) S p c) : Sto ⟨K, r, m.set n c⟩ (upd H p o) S := by
  have e0 : m.length = r.length := st.len
  refine ⟨by show (m.set n c).length = r.length; rw [List.length_set, e0], st.nd, fun k a c' h1 h2 => ?_⟩
  have h1 : r[k]? = some a := h1
  have h2 : (m.set n c)[k]? = some c' := h2
  have hl := (List.getElem?_eq_some_iff.mp hn).1
  by_cases hk : n = k
  · subst hk
    rw [List.getElem?_set_self (by omega)] at h2
    rw [hn] at h1
    cases h1
    cases h2
    have hm : n < m.length := by omega
    exact ⟨(st.at_ n p _ hn (List.getElem?_eq_getElem hm)).1, h⟩
  · rw [List.getElem?_set_ne hk] at h2
    obtain ⟨k1, k2⟩ := st.at_ k a c' h1 h2
    have ne : a ≠ p := fun z => by
      subst z
      exact hk (nodup_at st.nd hn h1)
    exact ⟨k1, (cl_ext (m' := m.set n c) LeR.refl k2).grow (upd_ne ne) (Ex.refl S)⟩
theorem SM.put (s : SM K T G B H S M σ Δ) {n : Nat} {p : Addr} {c : Cl} {o : HO} (ho : ∀ ps, o ≠ .tbl ps) (hn : M.r[n]? = some p) (h : ClAt ⟨K, M.r, M.m.set n c⟩ (upd H p o) S p c) : SM K T G B (upd H p o) S ⟨M.r, M.m.set n c⟩ σ Δ := by
  have hp : p ∈ M.r := List.mem_of_getElem? hn
  have gp := s.g p hp
  obtain ⟨_, _, _, _, hS, hc⟩ := s.s.cl.get (K := ⟨K, M.r, M.m⟩) hp
  obtain ⟨o', e', ne'⟩ := hc.some
  refine ⟨⟨s.s.len, s.s.gh.mut gp, s.s.bg, s.s.bs, s.s.sh.mut hS, s.s.fr, fun P hP => ?_, fun i d q => ?_, fun i ds q => ?_, s.s.nd, s.s.cl.put hn h, s.s.co⟩, s.g⟩
  · obtain ⟨ps, q, t⟩ := s.s.tb P hP
    exact ⟨ps, by rw [upd_ne (ne_of q e' fun z => ne' ps z.symm)]; exact q, t⟩
  · obtain ⟨v, e, q⟩ := s.s.shd i d q
    exact ⟨v, e, rp_ext LeR.refl q⟩
  · obtain ⟨a, vs, e, h1, h2, h3, r⟩ := s.s.own i ds q
    have ne : a ≠ p := fun z => s.s.co i ds a q e (z ▸ hp)
    exact ⟨a, vs, e, h1, h2, by rw [upd_ne ne]; exact h3, rpl_ext LeR.refl r⟩
end

/-! ### judgements -/
structure Wm where
  K : PySem.W.Frag
  T : List Addr
  mg : Str → Option Value
  E : XK
abbrev Wm.at_ (W : Wm) (M : Mm) : Wo := ⟨⟨W.K, M.r, M.m⟩, W.T, W.mg, W.E⟩
/-- what is wished for where the class named c is raised: the store is m' by then -/
def XM (W : Wm) (G B : Hp) (r : List Addr) (m' : List Cl) (c : Str) : Prop := ∃ C, W.mg c = some (.ref C) ∧ ∀ (H' S' : Hp) (r' : List Addr), LeR r r' → Ex G H' → Ex B S' → Ex S' H' → (∀ b, G b ≠ none → B b = none → S' b = none) → Sto ⟨W.K, r', m'⟩ H' S' → (∀ a ∈ r', G a = none) → W.E (.ref C) none H'
theorem XM.up {W : Wm} {G B : Hp} {r r1 : List Addr} {m : List Cl} {c : Str} (l : LeR r r1) (x : XM W G B r m c) : XM W G B r1 m c := by
  obtain ⟨C, h, k⟩ := x
  exact ⟨C, h, fun H' S' r' a => k H' S' r' (l.trans a)⟩
def SndX (W : Wm) (te : TE) (me : List Cl → Fd → Mx Dt) : Prop := ∀ (G B H S : Hp) (M : Mm) (σ : St) (Δ : Fd) (Q : VK), SM W.K W.T G B H S M σ Δ →
  Wq (me M.m Δ) (fun m' d => ∀ v H' S' r', LeR M.r r' → Ex S S' → SM W.K W.T G B H' S' ⟨r', m'⟩ σ Δ → Rp ⟨W.K, r', m'⟩ S' v d → Q v H') (XM W G B M.r) → te σ H Q
def SndXT (W : Wm) (tt : TT) (mt : List Cl → Fd → Mx Bool) : Prop := ∀ (G B H S : Hp) (M : Mm) (σ : St) (Δ : Fd) (Q : Bool → Hp → Prop), SM W.K W.T G B H S M σ Δ →
  Wq (mt M.m Δ) (fun m' b => ∀ H' S' r', LeR M.r r' → Ex S S' → SM W.K W.T G B H' S' ⟨r', m'⟩ σ Δ → Q b H') (XM W G B M.r) → tt σ H Q
def SndXA (W : Wm) (ta : TA) (ma : List Cl → Fd → Mx (List Dt)) : Prop := ∀ (G B H S : Hp) (M : Mm) (σ : St) (Δ : Fd) (Q : List V → Hp → Prop), SM W.K W.T G B H S M σ Δ →
  Wq (ma M.m Δ) (fun m' ds => ∀ vs H' S' r', LeR M.r r' → Ex S S' → SM W.K W.T G B H' S' ⟨r', m'⟩ σ Δ → RpL ⟨W.K, r', m'⟩ S' vs ds → Q vs H') (XM W G B M.r) → ta σ H Q
/-- what a def hands back -/
def RtM (K : PySem.W.Frag) (G B : Hp) (r : List Addr) (m' : List Cl) (H' : Hp) (v : V) (d : Dt) : Prop := ∃ (S' : Hp) (r' : List Addr), LeR r r' ∧ Ex G H' ∧ Ex B S' ∧ Ex S' H' ∧ (∀ b, G b ≠ none → B b = none → S' b = none) ∧ Sto ⟨K, r', m'⟩ H' S' ∧ (∀ a ∈ r', G a = none) ∧ Rp ⟨K, r', m'⟩ S' v d
def OutM (W : Wm) (G B S : Hp) (r : List Addr) (D : Ends) (m' : List Cl) : Out → Prop
  | .nx Δ => ∀ H' S' r' σ', LeR r r' → Ex S S' → SM W.K W.T G B H' S' ⟨r', m'⟩ σ' Δ → D.nx σ' H'
  | .bk Δ => ∀ H' S' r' σ', LeR r r' → Ex S S' → SM W.K W.T G B H' S' ⟨r', m'⟩ σ' Δ → D.bk σ' H'
  | .ct Δ => ∀ H' S' r' σ', LeR r r' → Ex S S' → SM W.K W.T G B H' S' ⟨r', m'⟩ σ' Δ → D.ct σ' H'
  | .rt d => ∀ v H', RtM W.K G B r m' H' v d → D.rt v H'
def SndXS (W : Wm) (ts : TS) (ms : List Cl → Fd → Mx Out) : Prop := ∀ (G B H S : Hp) (M : Mm) (σ : St) (Δ : Fd) (D : Ends), SM W.K W.T G B H S M σ Δ →
  Wq (ms M.m Δ) (OutM W G B S M.r D) (XM W G B M.r) → ts D σ H
section
variable {W : Wm} {te ta tb : TE} {me ma mb : List Cl → Fd → Mx Dt} {tt tu : TT} {mt mu : List Cl → Fd → Mx Bool} {tas : TA} {mas : List Cl → Fd → Mx (List Dt)} {ts tu' : TS} {ms mu' : List Cl → Fd → Mx Out} {G B H S H' S' : Hp} {M : Mm} {σ : St} {Δ : Fd}
theorem RtM.up {K : PySem.W.Frag} {r r1 : List Addr} {m : List Cl} {v : V} {d : Dt} (l : LeR r r1) (h : RtM K G B r1 m H' v d) : RtM K G B r m H' v d := by
  obtain ⟨S', r', a, h⟩ := h
  exact ⟨S', r', l.trans a, h⟩
theorem OutM.up {r r1 : List Addr} {S1 : Hp} {D : Ends} {m : List Cl} {o : Out} (l : LeR r r1) (e : Ex S S1) (h : OutM W G B S r D m o) : OutM W G B S1 r1 D m o := by
  cases o with
  | nx Δ => exact fun H' S' r' σ' a x => h H' S' r' σ' (l.trans a) (e.trans x)
  | bk Δ => exact fun H' S' r' σ' a x => h H' S' r' σ' (l.trans a) (e.trans x)
  | ct Δ => exact fun H' S' r' σ' a x => h H' S' r' σ' (l.trans a) (e.trans x)
  | rt d => exact fun v H' q => h v H' (q.up l)
/-- an error of pure code -/
theorem xm_pure (s : SM W.K W.T G B H S M σ Δ) {c : Str} (x : XM W G B M.r M.m c) : XW W.mg W.E H c := by
  obtain ⟨C, h, k⟩ := x
  refine ⟨C, h, fun H' e => ?_⟩
  have g : Gr H S H' S := ⟨e, Ex.refl S, s.s.sh.trans e, fun _ _ z => z⟩
  exact k H' S M.r LeR.refl (s.s.gh.trans e) s.s.bs g.sh s.s.fr (s.s.cl.grow g) s.g
theorem sx_pure {me : List Cl → Fd → Md Dt} (h : ∀ M, SndE (W.at_ M) .s te (me M.m)) : SndX W te (fun m Δ => (me m Δ).mx m) := by
  intro G B H S M σ Δ Q s w
  exact h M G B H S σ Δ Q s.s ((mx_w w).mono (fun d k v H' S' g r _ => k v H' S' M.r LeR.refl g.ss (s.grow g) r) fun c z => xm_pure s z)
theorem sxt_pure {mt : List Cl → Fd → Md Bool} (h : ∀ M, SndT (W.at_ M) tt (mt M.m)) : SndXT W tt (fun m Δ => (mt m Δ).mx m) := by
  intro G B H S M σ Δ Q s w
  exact h M G B H S σ Δ Q s.s ((mx_w w).mono (fun d k H' S' g => k H' S' M.r LeR.refl g.ss (s.grow g)) fun c z => xm_pure s z)
theorem sxa_pure {ma : List Cl → Fd → Md (List Dt)} (h : ∀ M, SndA (W.at_ M) .s tas (ma M.m)) : SndXA W tas (fun m Δ => (ma m Δ).mx m) := by
  intro G B H S M σ Δ Q s w
  exact h M G B H S σ Δ Q s.s ((mx_w w).mono (fun d k v H' S' g r => k v H' S' M.r LeR.refl g.ss (s.grow g) r) fun c z => xm_pure s z)
/-- a new list that may be changed by whoever holds it -/
def alloc (m : List Cl) : Dt → Mx Dt
  | .lst ds => .ok (m ++ [.lst ds]) (.loc m.length)
  | _ => .bad
theorem sx_new {me : List Cl → Fd → Md Dt} (h : ∀ M, SndE (W.at_ M) .n te (me M.m)) : SndX W te (fun m Δ => ((me m Δ).mx m).bind alloc) := by
  intro G B H S M σ Δ Q s w
  refine h M G B H S σ Δ Q s.s ((mx_w w.bind).mono (fun d k v H' S' g hd nw => ?_) fun c z => xm_pure s z)
  obtain ⟨p, vs, ds, rfl, rfl, e1, e2, r⟩ := hd
  obtain ⟨p', z, hp⟩ := nw
  cases z
  have s1 := s.grow g
  have hr : p ∉ M.r := s.s.cl.new (K := ⟨W.K, M.r, M.m⟩) hp
  have st : SM W.K W.T G B H' S' ⟨M.r ++ [p], M.m ++ [.lst ds]⟩ σ Δ := s1.more (s.s.gh.free hp) e2 ⟨vs, e1, rpl_ext LeR.app r⟩ hr fun i es h1 h2 => by
    obtain ⟨a, us, q, _, _, h3, _⟩ := s.s.own i es h1
    rw [h2] at q
    cases q
    rw [hp] at h3
    cases h3
  have e0 : M.m.length = M.r.length := s.s.cl.len
  exact k _ H' S' _ LeR.app g.ss st (.loc (by
    show (M.r ++ [p])[M.m.length]? = some p
    rw [e0, List.getElem?_append_right (Nat.le_refl _), Nat.sub_self]
    rfl))
/-! arguments -/
def xNil : List Cl → Fd → Mx (List Dt) := fun m _ => .ok m []
def xCons (ma : List Cl → Fd → Mx Dt) (mr : List Cl → Fd → Mx (List Dt)) : List Cl → Fd → Mx (List Dt) := fun m Δ => (ma m Δ).bind fun m1 a => (mr m1 Δ).bind fun m2 r => .ok m2 (a :: r)
theorem sxa_nil : SndXA W tNil xNil := fun G B H S M σ Δ Q s w => w [] H S M.r LeR.refl (Ex.refl S) s .nil
theorem sxa_cons (ha : SndX W ta ma) (hr : SndXA W tas mas) : SndXA W (tCons ta tas) (xCons ma mas) := by
  intro G B H S M σ Δ Q s w
  refine ha G B H S M σ Δ _ s (w.bind.mono (fun m1 a k x H1 S1 r1 l1 e1 s1 p1 => ?_) fun _ _ z => z)
  refine hr G B H1 S1 ⟨r1, m1⟩ σ Δ _ s1 (k.bind.mono (fun m2 b k2 y H2 S2 r2 l2 e2 s2 p2 => ?_) fun _ _ z => z.up l1)
  exact k2 _ H2 S2 r2 (l1.trans l2) (e1.trans e2) s2 (.cons (rp_ext l2 (Rp.mono e2 p1)) p2)
/-! displays -/
def xTup (ma : List Cl → Fd → Mx (List Dt)) : List Cl → Fd → Mx Dt := fun m Δ => (ma m Δ).bind fun m1 ds => if okLen ds.length = true then .ok m1 (.tup ds) else .bad
def xLst (ma : List Cl → Fd → Mx (List Dt)) : List Cl → Fd → Mx Dt := fun m Δ => (ma m Δ).bind fun m1 ds => if okLen ds.length = true then .ok m1 (.lst ds) else .bad
theorem gr_new {o : HO} {p : Addr} (s : SM W.K W.T G B H S M σ Δ) (hp : H p = none) : Gr H S (upd H p o) (upd S p o) := Gr.new s.s.sh hp
theorem sx_tup (ha : SndXA W tas mas) : SndX W (tTup tas) (xTup mas) := by
  intro G B H S M σ Δ Q s w
  refine ha G B H S M σ Δ _ s (w.bind.mono (fun m1 ds k vs H1 S1 r1 l1 e1 s1 p1 => ?_) fun _ _ z => z)
  by_cases h : okLen ds.length = true
  · rw [if_pos h] at k
    refine ⟨by rw [p1.length]; exact okLen_le h, fun p hp => ?_⟩
    have g2 := Gr.new (o := .tup vs) s1.s.sh hp
    exact k _ _ _ r1 l1 (e1.trans g2.ss) (s1.grow g2) (.tup upd_same (RpL.mono g2.ss p1))
  · rw [if_neg h] at k
    exact k.elim
theorem sx_lst (ha : SndXA W tas mas) : SndX W (tLst tas) (xLst mas) := by
  intro G B H S M σ Δ Q s w
  refine ha G B H S M σ Δ _ s (w.bind.mono (fun m1 ds k vs H1 S1 r1 l1 e1 s1 p1 => ?_) fun _ _ z => z)
  by_cases h : okLen ds.length = true
  · rw [if_pos h] at k
    refine ⟨by rw [p1.length]; exact okLen_le h, fun p hp => ?_⟩
    have g2 := Gr.new (o := .lst vs) s1.s.sh hp
    exact k _ _ _ r1 l1 (e1.trans g2.ss) (s1.grow g2) (.lst upd_same (RpL.mono g2.ss p1))
  · rw [if_neg h] at k
    exact k.elim
/-- .. that may itself be changed -/
def xLstN (ma : List Cl → Fd → Mx (List Dt)) : List Cl → Fd → Mx Dt := fun m Δ => (ma m Δ).bind fun m1 ds => if okLen ds.length = true then .ok (m1 ++ [.lst ds]) (.loc m1.length) else .bad
theorem SM.fresh {p : Addr} {o : HO} {c : Cl} (s : SM W.K W.T G B H S M σ Δ) (hp : H p = none) (h : ClAt ⟨W.K, M.r ++ [p], M.m ++ [c]⟩ (upd H p o) S p c) : SM W.K W.T G B (upd H p o) S ⟨M.r ++ [p], M.m ++ [c]⟩ σ Δ := by
  have g : Gr H S (upd H p o) S := Gr.newO s.s.sh hp
  refine (s.grow g).more (s.s.gh.free hp) (s.s.sh.free hp) h (s.s.cl.new (K := ⟨W.K, M.r, M.m⟩) hp) fun i es h1 h2 => ?_
  obtain ⟨a, us, q, _, _, h3, _⟩ := s.s.own i es h1
  rw [h2] at q
  cases q
  rw [hp] at h3
  cases h3
theorem SM.last (s : SM W.K W.T G B H S M σ Δ) {p : Addr} {c : Cl} : (M.r ++ [p])[M.m.length]? = some p := by
  have e0 : M.m.length = M.r.length := s.s.cl.len
  rw [e0, List.getElem?_append_right (Nat.le_refl _), Nat.sub_self]
  rfl
theorem sx_lstN (ha : SndXA W tas mas) : SndX W (tLst tas) (xLstN mas) := by
  intro G B H S M σ Δ Q s w
  refine ha G B H S M σ Δ _ s (w.bind.mono (fun m1 ds k vs H1 S1 r1 l1 e1 s1 p1 => ?_) fun _ _ z => z)
  by_cases h : okLen ds.length = true
  · rw [if_pos h] at k
    refine ⟨by rw [p1.length]; exact okLen_le h, fun p hp => ?_⟩
    exact k _ _ S1 _ (l1.trans LeR.app) e1 (s1.fresh hp ⟨vs, upd_same, rpl_ext LeR.app p1⟩) (.loc (s1.last (c := .lst ds)))
  · rw [if_neg h] at k
    exact k.elim
/-! tests -/
def xT (ma : List Cl → Fd → Mx Dt) : List Cl → Fd → Mx Bool := fun m Δ => (ma m Δ).bind fun m1 a => match a with
  | .bl b => .ok m1 b
  | _ => .bad
theorem sxt_test (ha : SndX W ta ma) : SndXT W (tTest ta) (xT ma) := by
  intro G B H S M σ Δ Q s w
  refine ha G B H S M σ Δ _ s (w.bind.mono (fun m1 a k x H1 S1 r1 l1 e1 s1 p1 => ?_) fun _ _ z => z)
  cases a with
  | bl b =>
    cases p1
    exact ⟨b, rfl, k H1 S1 r1 l1 e1 s1⟩
  | _ => exact k.elim
theorem sxt_B (ha : SndX W ta ma) : SndXT W (tB ta) (xT ma) := sxt_test ha
def xAnd (a b : List Cl → Fd → Mx Bool) : List Cl → Fd → Mx Bool := fun m Δ => (a m Δ).bind fun m1 x => if x = true then b m1 Δ else .ok m1 false
def xOr (a b : List Cl → Fd → Mx Bool) : List Cl → Fd → Mx Bool := fun m Δ => (a m Δ).bind fun m1 x => if x = true then .ok m1 true else b m1 Δ
def xNot (a : List Cl → Fd → Mx Bool) : List Cl → Fd → Mx Bool := fun m Δ => (a m Δ).bind fun m1 x => .ok m1 (!x)
theorem sxt_and (h1 : SndXT W tt mt) (h2 : SndXT W tu mu) : SndXT W (tAnd tt tu) (xAnd mt mu) := by
  intro G B H S M σ Δ Q s w
  refine h1 G B H S M σ Δ _ s (w.bind.mono (fun m1 a k H1 S1 r1 l1 e1 s1 => ?_) fun _ _ z => z)
  cases a with
  | true => exact h2 G B H1 S1 ⟨r1, m1⟩ σ Δ Q s1 (Wq.mono k (fun m2 b k2 H2 S2 r2 l2 e2 s2 => k2 H2 S2 r2 (l1.trans l2) (e1.trans e2) s2) fun _ _ z => z.up l1)
  | false => exact k H1 S1 r1 l1 e1 s1
theorem sxt_or (h1 : SndXT W tt mt) (h2 : SndXT W tu mu) : SndXT W (tOr tt tu) (xOr mt mu) := by
  intro G B H S M σ Δ Q s w
  refine h1 G B H S M σ Δ _ s (w.bind.mono (fun m1 a k H1 S1 r1 l1 e1 s1 => ?_) fun _ _ z => z)
  cases a with
  | true => exact k H1 S1 r1 l1 e1 s1
  | false => exact h2 G B H1 S1 ⟨r1, m1⟩ σ Δ Q s1 (Wq.mono k (fun m2 b k2 H2 S2 r2 l2 e2 s2 => k2 H2 S2 r2 (l1.trans l2) (e1.trans e2) s2) fun _ _ z => z.up l1)
theorem sxt_not (h1 : SndXT W tt mt) : SndXT W (tNot tt) (xNot mt) := fun G B H S M σ Δ Q s w =>
  h1 G B H S M σ Δ _ s (w.bind.mono (fun m1 a k H1 S1 r1 l1 e1 s1 => k H1 S1 r1 l1 e1 s1) fun _ _ z => z)
/-! truth values as values -/
def xAndV (ma mb : List Cl → Fd → Mx Dt) : List Cl → Fd → Mx Dt := fun m Δ => (xT ma m Δ).bind fun m1 c => if c = true then mb m1 Δ else .ok m1 (.bl false)
def xOrV (ma mb : List Cl → Fd → Mx Dt) : List Cl → Fd → Mx Dt := fun m Δ => (xT ma m Δ).bind fun m1 c => if c = true then .ok m1 (.bl true) else mb m1 Δ
def xNotV (ma : List Cl → Fd → Mx Dt) : List Cl → Fd → Mx Dt := fun m Δ => (xT ma m Δ).bind fun m1 c => .ok m1 (.bl (!c))
theorem xT_w {m : List Cl} {p : List Cl → Bool → Prop} {ex : List Cl → Str → Prop} (h : Wq (xT ma m Δ) p ex) : Wq (ma m Δ) (fun m1 a => ∃ b, a = .bl b ∧ p m1 b) ex := by
  refine Wq.mono (Wq.bind h) (fun m1 a k => ?_) fun _ _ z => z
  cases a with
  | bl b => exact ⟨b, rfl, k⟩
  | _ => exact k.elim
theorem sx_andV (ha : SndX W ta ma) (hb : SndX W tb mb) : SndX W (tAndV ta tb) (xAndV ma mb) := by
  intro G B H S M σ Δ Q s w
  refine ha G B H S M σ Δ _ s ((xT_w w.bind).mono (fun m1 a k x H1 S1 r1 l1 e1 s1 p1 => ?_) fun _ _ z => z)
  obtain ⟨b, rfl, k⟩ := k
  cases p1
  refine ⟨b, rfl, ?_⟩
  cases b with
  | true => exact hb G B H1 S1 ⟨r1, m1⟩ σ Δ Q s1 (Wq.mono k (fun m2 d k2 v H2 S2 r2 l2 e2 s2 p2 => k2 v H2 S2 r2 (l1.trans l2) (e1.trans e2) s2 p2) fun _ _ z => z.up l1)
  | false => exact k _ H1 S1 r1 l1 e1 s1 (.bl false)
theorem sx_orV (ha : SndX W ta ma) (hb : SndX W tb mb) : SndX W (tOrV ta tb) (xOrV ma mb) := by
  intro G B H S M σ Δ Q s w
  refine ha G B H S M σ Δ _ s ((xT_w w.bind).mono (fun m1 a k x H1 S1 r1 l1 e1 s1 p1 => ?_) fun _ _ z => z)
  obtain ⟨b, rfl, k⟩ := k
  cases p1
  refine ⟨b, rfl, ?_⟩
  cases b with
  | true => exact k _ H1 S1 r1 l1 e1 s1 (.bl true)
  | false => exact hb G B H1 S1 ⟨r1, m1⟩ σ Δ Q s1 (Wq.mono k (fun m2 d k2 v H2 S2 r2 l2 e2 s2 p2 => k2 v H2 S2 r2 (l1.trans l2) (e1.trans e2) s2 p2) fun _ _ z => z.up l1)
theorem sx_notV (ha : SndX W ta ma) : SndX W (tNotV ta) (xNotV ma) := by
  intro G B H S M σ Δ Q s w
  refine ha G B H S M σ Δ _ s ((xT_w w.bind).mono (fun m1 a k x H1 S1 r1 l1 e1 s1 p1 => ?_) fun _ _ z => z)
  obtain ⟨b, rfl, k⟩ := k
  cases p1
  exact ⟨b, rfl, k _ H1 S1 r1 l1 e1 s1 (.bl (!b))⟩
end
end Mr
/-! Statements over the store. -/
namespace Mr
open PySem L2
section
variable {W : Wm} {te ta tb : TE} {me ma mb : List Cl → Fd → Mx Dt} {tt tu : TT} {mt mu : List Cl → Fd → Mx Bool} {tas : TA} {mas : List Cl → Fd → Mx (List Dt)} {ts us : TS} {ms mo : List Cl → Fd → Mx Out} {G B H S H' S' : Hp} {M : Mm} {σ : St} {Δ : Fd}
theorem SM.up {g : TG} {tg : Dt → Fd → Md Fd} {ws : List Nat} {Q : St → Hp → Prop} (s : SM W.K W.T G B H S M σ Δ) (hg : ∀ M : Mm, SndG ⟨W.K, M.r, M.m⟩ W.T ws g tg) {v : V} {d : Dt} (r : Rp ⟨W.K, M.r, M.m⟩ S v d) (w : Wp (tg d Δ) (fun Δ' => ∀ σ', SM W.K W.T G B H S M σ' Δ' → Q σ' H) (fun _ => False)) : g v σ H Q :=
  hg M G B H S σ Δ v d Q s.s r (w.mono (fun Δ' k σ' s' _ => k σ' ⟨s', s.g⟩) fun _ z => z)
/-- pure statements -/
theorem sxs_pure {ms : List Cl → Fd → Md Out} (h : ∀ M, SndS (W.at_ M) false ts (ms M.m)) : SndXS W ts (fun m Δ => (ms m Δ).mx m) := by
  intro G B H S M σ Δ D s w
  refine h M (bare H σ Δ) S H S σ Δ D s.s.here ((mx_w w).mono (fun o k => ?_) fun c z => ?_)
  · cases o with
    | nx Δ' => exact fun H' S' σ' s' => k H' S' M.r σ' LeR.refl s'.bs ⟨s.s.back s', s.g⟩
    | bk Δ' => exact fun H' S' σ' s' => k H' S' M.r σ' LeR.refl s'.bs ⟨s.s.back s', s.g⟩
    | ct Δ' => exact fun H' S' σ' s' => k H' S' M.r σ' LeR.refl s'.bs ⟨s.s.back s', s.g⟩
    | rt d =>
      intro v H' r
      obtain ⟨S2, h1, h2, h3, h4, h5⟩ := s.s.backRt r
      obtain ⟨S3, k1, k2, k3, k4, k5⟩ := r
      -- what may be changed stands as it stood
      have st : Sto ⟨W.K, M.r, M.m⟩ H' S3 := ⟨s.s.cl.len, s.s.cl.nd, fun n a c q1 q2 => by
        obtain ⟨z1, z2⟩ := s.s.cl.at_ n a c q1 q2
        obtain ⟨o, e, ne⟩ := z2.some
        have hb : bare H σ Δ a = some o := by
          rw [bare_not fun i ds e1 e2 => ?_]
          · exact e
          · exact s.s.co i ds a e1 e2 (List.mem_of_getElem? q1)
        refine ⟨k4 a (by rw [hb]; exact fun z => by cases z) z1, z2.grow ?_ k2⟩
        rw [e]
        exact k1.same a o hb ne⟩
      have k5 : Rp ⟨W.K, M.r, M.m⟩ S3 v d := k5
      refine k v H' ⟨S3, M.r, LeR.refl, s.s.bareG.trans k1, s.s.bs.trans k2, k3, fun b hb z => k4 b (s.s.bareG.ne hb) (s.s.fr b hb z), st, s.g, k5⟩
  · obtain ⟨C, hc, k⟩ := z
    refine ⟨C, hc, fun H' e => ?_⟩
    have st : Sto ⟨W.K, M.r, M.m⟩ H' S := ⟨s.s.cl.len, s.s.cl.nd, fun n a c q1 q2 => by
      obtain ⟨z1, z2⟩ := s.s.cl.at_ n a c q1 q2
      obtain ⟨o, e', ne⟩ := z2.some
      have hb : bare H σ Δ a = some o := by
        rw [bare_not fun i ds e1 e2 => ?_]
        · exact e'
        · exact s.s.co i ds a e1 e2 (List.mem_of_getElem? q1)
      refine ⟨z1, z2.grow ?_ (Ex.refl S)⟩
      rw [e']
      exact e.same a o hb ne⟩
    exact k H' S M.r LeR.refl (s.s.bareG.trans e) s.s.bs (s.s.bareS.trans e) s.s.fr st s.g
def xSeq (a b : List Cl → Fd → Mx Out) : List Cl → Fd → Mx Out := fun m Δ => (a m Δ).bind fun m1 o => match o with
  | .nx Δ' => b m1 Δ'
  | o => .ok m1 o
theorem sxs_seq (h1 : SndXS W ts ms) (h2 : SndXS W us mo) : SndXS W (tSeq ts us) (xSeq ms mo) := by
  intro G B H S M σ Δ D s w
  refine h1 G B H S M σ Δ _ s (w.bind.mono (fun m1 o k => ?_) fun _ _ z => z)
  cases o with
  | nx Δ' => exact fun H' S' r' σ' l e s' => h2 G B H' S' ⟨r', m1⟩ σ' Δ' D s' (Wq.mono k (fun m2 o2 q => q.up l e) fun _ _ z => z.up l)
  | bk Δ' => exact k
  | ct Δ' => exact k
  | rt d => exact k
def xAsg (i : Nat) (a : List Cl → Fd → Mx Dt) : List Cl → Fd → Mx Out := fun m Δ => (a m Δ).bind fun m1 d => .ok m1 (.nx (Δ.set i (.sh d)))
theorem SM.set (s : SM W.K W.T G B H S M σ Δ) (i : Nat) {v : V} {d : Dt} (r : Rp ⟨W.K, M.r, M.m⟩ S v d) : SM W.K W.T G B H S M (σ.set i (some v)) (Δ.set i (.sh d)) := ⟨s.s.set i r, s.g⟩
theorem sxs_asg (i : Nat) (h : SndX W ta ma) : SndXS W (tAsg ta (gName i)) (xAsg i ma) := fun G B H S M σ Δ D s w =>
  h G B H S M σ Δ _ s (w.bind.mono (fun m1 d k v H' S' r' l e s' p => k H' S' r' _ l e (s'.set i p)) fun _ _ z => z)
def xAsgT (tg : Dt → Fd → Md Fd) (a : List Cl → Fd → Mx Dt) : List Cl → Fd → Mx Out := fun m Δ => (a m Δ).bind fun m1 d => match tg d Δ with
  | .ok Δ' => .ok m1 (.nx Δ')
  | _ => .bad
theorem sxs_asgT {ws : List Nat} {g : TG} {tg : Dt → Fd → Md Fd} (h : SndX W ta ma) (hg : ∀ M : Mm, SndG ⟨W.K, M.r, M.m⟩ W.T ws g tg) : SndXS W (tAsg ta g) (xAsgT tg ma) := fun G B H S M σ Δ D s w =>
  h G B H S M σ Δ _ s (w.bind.mono (fun m1 d k v H' S' r' l e s' p => by
    refine s'.up hg p ?_
    revert k
    cases tg d Δ with
    | ok Δ' => exact fun k σ' s'' => k H' S' r' σ' l e s''
    | exc c => exact fun k => k.elim
    | bad => exact fun k => k.elim) fun _ _ z => z)
def xDrop (a : List Cl → Fd → Mx Dt) : List Cl → Fd → Mx Out := fun m Δ => (a m Δ).bind fun m1 _ => .ok m1 (.nx Δ)
theorem sxs_drop (h : SndX W ta ma) : SndXS W (tDrop ta) (xDrop ma) := fun G B H S M σ Δ D s w =>
  h G B H S M σ Δ _ s (w.bind.mono (fun m1 d k v H' S' r' l e s' p => k H' S' r' σ l e s') fun _ _ z => z)
def xRet (a : List Cl → Fd → Mx Dt) : List Cl → Fd → Mx Out := fun m Δ => (a m Δ).bind fun m1 d => .ok m1 (.rt d)
theorem sxs_ret (h : SndX W ta ma) : SndXS W (tRet ta) (xRet ma) := fun G B H S M σ Δ D s w =>
  h G B H S M σ Δ _ s (w.bind.mono (fun m1 d k v H' S' r' l e s' p => k v H' ⟨S', r', l, s'.s.gh, s'.s.bs, s'.s.sh, s'.s.fr, s'.s.cl, s'.g, p⟩) fun _ _ z => z)
def xIf (c : List Cl → Fd → Mx Bool) (a b : List Cl → Fd → Mx Out) : List Cl → Fd → Mx Out := fun m Δ => (c m Δ).bind fun m1 x => if x = true then a m1 Δ else b m1 Δ
theorem sxs_if (hc : SndXT W tt mt) (h1 : SndXS W ts ms) (h2 : SndXS W us mo) : SndXS W (tIfS tt ts us) (xIf mt ms mo) := fun G B H S M σ Δ D s w =>
  hc G B H S M σ Δ _ s (w.bind.mono (fun m1 x k H' S' r' l e s' => by
    cases x with
    | true => exact h1 G B H' S' ⟨r', m1⟩ σ Δ D s' (Wq.mono k (fun m2 o2 q => q.up l e) fun _ _ z => z.up l)
    | false => exact h2 G B H' S' ⟨r', m1⟩ σ Δ D s' (Wq.mono k (fun m2 o2 q => q.up l e) fun _ _ z => z.up l)) fun _ _ z => z)
def xNext : List Cl → Fd → Mx Out := fun m Δ => .ok m (.nx Δ)
theorem sxs_next : SndXS W tNext xNext := fun G B H S M σ Δ D s w => w H S M.r σ LeR.refl (Ex.refl S) s

/-! ### for, over what is shared -/
def xForGo (tg : Dt → Fd → Md Fd) (mb : List Cl → Fd → Mx Out) : List Dt → List Cl → Fd → Mx Out
  | [], m, Δ => .ok m (.nx Δ)
  | x :: r, m, Δ => match tg x Δ with
    | .ok Δ1 => (mb m Δ1).bind fun m1 o => match o with
      | .nx Δ2 => xForGo tg mb r m1 Δ2
      | .ct Δ2 => xForGo tg mb r m1 Δ2
      | .bk Δ2 => .ok m1 (.nx Δ2)
      | .rt d => .ok m1 (.rt d)
    | _ => .bad
def xFor (mi : List Cl → Fd → Md (List Dt)) (tg : Dt → Fd → Md Fd) (mb : List Cl → Fd → Mx Out) : List Cl → Fd → Mx Out := fun m Δ => ((mi m Δ).mx m).bind fun m1 xs => xForGo tg mb xs m1 Δ
theorem sxs_for {wi : TI} {mi : List Cl → Fd → Md (List Dt)} {ws : List Nat} {g : TG} {tg : Dt → Fd → Md Fd} {tb : TS} {mb : List Cl → Fd → Mx Out} (hi : ∀ M, SndI (W.at_ M) wi (mi M.m)) (hg : ∀ M : Mm, SndG ⟨W.K, M.r, M.m⟩ W.T ws g tg) (hb : SndXS W tb mb) : SndXS W (tFor wi g tb) (xFor mi tg mb) := by
  intro G B H S M σ Δ D s w
  refine hi M G B H S σ Δ _ s.s ((mx_w w.bind).mono (fun xs k J H0 S0 g0 wk => ?_) fun c z => xm_pure s z)
  have s0 := s.grow g0
  refine for_it (n := xs.length) (G := fun H => Ex S0 H) (Y := fun i H x H' => Ex S0 H ∧ J.yld i H x H') ⟨fun i H hi h => wk.goes i H hi h, fun H h => wk.stops H h, fun i H x H' hi h y => ⟨h, y⟩⟩
    (fun i σ1 H1 => ∃ Δ1 S1 r1 m1, SM W.K W.T G B H1 S1 ⟨r1, m1⟩ σ1 Δ1 ∧ Ex S0 S1 ∧ LeR M.r r1 ∧ Wq (xForGo tg mb (xs.drop i) m1 Δ1) (OutM W G B S1 r1 D) (XM W G B r1)) ⟨Δ, S0, M.r, M.m, s0, Ex.refl S0, LeR.refl, Wq.mono k (fun _ _ q => q.up LeR.refl g0.ss) fun _ _ z => z⟩
    (fun i σ1 H1 hi ⟨Δ1, S1, r1, m1, s1, e1, _⟩ => e1.trans s1.s.sh) (fun i x σ1 H1 H2 hlt ⟨Δ1, S1, r1, m1, s1, e1, l1, k1⟩ ⟨_, y⟩ => ?_) (fun σ1 H1 ⟨Δ1, S1, r1, m1, s1, e1, l1, k1⟩ => ?_)
  · obtain ⟨d, S2, hd, g2, rd⟩ := wk.yields i H1 S1 x H2 hlt e1 s1.s.sh y
    have hdrop : xs.drop i = d :: xs.drop (i + 1) := by
      obtain ⟨h1, h2⟩ := List.getElem?_eq_some_iff.mp hd
      rw [← h2]
      exact List.drop_eq_getElem_cons h1
    rw [hdrop] at k1
    have s2 := s1.grow g2
    unfold xForGo at k1
    refine s2.up (M := ⟨r1, m1⟩) hg (rp_ext l1 rd) ?_
    revert k1
    cases tg d Δ1 with
    | exc c => exact fun k1 => k1.elim
    | bad => exact fun k1 => k1.elim
    | ok Δ2 =>
      intro k1 σ2 s3
      have k2 := Wq.mono k1 (fun _ _ q => q.up LeR.refl g2.ss) (fun _ _ z => z)
      refine hb G B H2 S2 ⟨r1, m1⟩ σ2 Δ2 _ s3 (Wq.mono k2.bind (fun m2 o q => ?_) fun _ _ z => z)
      cases o with
      | nx Δ3 => exact fun H3 S3 r3 σ3 l3 x3 s4 => ⟨Δ3, S3, r3, m2, s4, (e1.trans g2.ss).trans x3, l1.trans l3, Wq.mono q (fun _ _ q => q.up l3 x3) fun _ _ z => z.up l3⟩
      | ct Δ3 => exact fun H3 S3 r3 σ3 l3 x3 s4 => ⟨Δ3, S3, r3, m2, s4, (e1.trans g2.ss).trans x3, l1.trans l3, Wq.mono q (fun _ _ q => q.up l3 x3) fun _ _ z => z.up l3⟩
      | bk Δ3 => exact fun H3 S3 r3 σ3 l3 x3 s4 => q H3 S3 r3 σ3 l3 x3 s4
      | rt d => exact fun v H3 r => q v H3 r
  · rw [List.drop_length] at k1
    exact k1 H1 S1 r1 σ1 LeR.refl (Ex.refl S1) s1
end
end Mr
/-! Defs over the store, their calls; what is read of the store. -/
namespace Mr
open PySem L2

/-! ### the heap without the things that may be changed -/
open Classical in
noncomputable def bareR (r : List Addr) (H : Hp) : Hp := fun b => if b ∈ r then none else H b
theorem bareR_in {r : List Addr} {H : Hp} {b : Addr} (h : b ∈ r) : bareR r H b = none := by
  unfold bareR
  exact if_pos h
theorem bareR_out {r : List Addr} {H : Hp} {b : Addr} (h : b ∉ r) : bareR r H b = H b := by
  unfold bareR
  exact if_neg h
theorem bareR_nil {H : Hp} : bareR [] H = H := funext fun b => bareR_out (by simp)
theorem bareR_some {r : List Addr} {H : Hp} {b : Addr} {o : HO} (h : bareR r H b = some o) : H b = some o ∧ b ∉ r := by
  by_cases z : b ∈ r
  · rw [bareR_in z] at h
    cases h
  · rw [bareR_out z] at h
    exact ⟨h, z⟩
theorem bareR_ex {r : List Addr} {H : Hp} : Ex (bareR r H) H := ⟨fun b o e _ => (bareR_some e).1, fun P ps e => ⟨ps, (bareR_some e).1, fun t => t⟩⟩
theorem ex_bareR {r : List Addr} {G H : Hp} (e : Ex G H) (h : ∀ a ∈ r, G a = none) : Ex G (bareR r H) := by
  have key : ∀ {b : Addr} {o : HO}, G b ≠ none → H b = some o → bareR r H b = some o := fun {b o} hb e => by
    rw [bareR_out fun z => hb (h b z)]
    exact e
  exact ⟨fun b o q n => key (by rw [q]; exact fun z => by cases z) (e.same b o q n), fun P ps q => by
    obtain ⟨qs, h1, k1⟩ := e.tabs P ps q
    exact ⟨qs, key (by rw [q]; exact fun z => by cases z) h1, k1⟩⟩

section
variable {K : PySem.W.Frag} {T : List Addr} {mg : Str → Option Value} {G B H S H' S' : Hp} {M : Mm} {σ : St} {Δ : Fd}
/-- behind a call -/
theorem SM.after (s : SM K T G B H S M σ Δ) {m' : List Cl} {H' : Hp} {v : V} {d : Dt} (h : RtM K (bareR M.r H) S M.r m' H' v d) : ∃ S' r', LeR M.r r' ∧ Ex S S' ∧ SM K T G B H' S' ⟨r', m'⟩ σ Δ ∧ Rp ⟨K, r', m'⟩ S' v d := by
  obtain ⟨S', r', l, e1, e2, e3, fr, st, nw, rp⟩ := h
  have gb : Ex G (bareR M.r H) := ex_bareR s.s.gh s.g
  refine ⟨S', r', l, e2, ⟨⟨s.s.len, gb.trans e1, s.s.bg, s.s.bs.trans e2, e3, fun b hb z => fr b (gb.ne hb) (s.s.fr b hb z), fun P hP => ?_, fun i d h => ?_, fun i ds h => ?_, s.s.nd, st, fun i ds a h1 h2 hr => ?_⟩, fun a h => gb.free (nw a h)⟩, rp⟩
  · obtain ⟨ps, q, t⟩ := s.s.tb P hP
    have nP : P ∉ M.r := fun z => by
      obtain ⟨o, e, ne⟩ := s.s.cl.has (K := ⟨K, M.r, M.m⟩) z
      rw [q] at e
      cases e
      exact ne ps rfl
    exact e1.tabG ⟨ps, by rw [bareR_out nP]; exact q, t⟩
  · obtain ⟨v, e, q⟩ := s.s.shd i d h
    exact ⟨v, e, rp_ext l (q.mono e2)⟩
  · obtain ⟨a, vs, e, h1, h2, h3, q⟩ := s.s.own i ds h
    have na := s.s.co i ds a h e
    have hb : bareR M.r H a = some (.lst vs) := by rw [bareR_out na]; exact h3
    exact ⟨a, vs, e, h1, fr a (by rw [hb]; exact fun z => by cases z) h2, e1.lst hb, rpl_ext l (RpL.mono e2 q)⟩
  · obtain ⟨b, vs, e, _, _, h3, _⟩ := s.s.own i ds h1
    rw [h2] at e
    cases e
    have q := nw a hr
    rw [bareR_out (s.s.co i ds a h1 h2), h3] at q
    cases q
theorem SM.xm {W : Wm} (s : SM W.K W.T G B H S M σ Δ) {m' : List Cl} {c : Str} (x : XM W G B M.r m' c) : XM W (bareR M.r H) S M.r m' c := by
  obtain ⟨C, hC, k⟩ := x
  have gb : Ex G (bareR M.r H) := ex_bareR s.s.gh s.g
  exact ⟨C, hC, fun H' S' r' l e1 e2 e3 fr st nw => k H' S' r' l (gb.trans e1) (s.s.bs.trans e2) e3 (fun b hb z => fr b (gb.ne hb) (s.s.fr b hb z)) st fun a h => gb.free (nw a h)⟩
end

/-! ### a def's promise -/
def spM (K : PySem.W.Frag) (T : List Addr) (mg : Str → Option Value) (n : Nat) (mir : List Cl → List Dt → Mx Dt) : Sp := fun vs H Q E => vs.length = n ∧ (∀ P ∈ T, GxR.TabG H P) ∧ ∃ (ds : List Dt) (B : Hp) (M : Mm), Ex B H ∧ Sto ⟨K, M.r, M.m⟩ H B ∧ RpL ⟨K, M.r, M.m⟩ B vs ds ∧
  Wq (mir M.m ds) (fun m' d => ∀ v H', RtM K (bareR M.r H) B M.r m' H' v d → Q v H') (XM ⟨K, T, mg, E⟩ (bareR M.r H) B M.r)
structure MefOk (P : Program) (w : World) (K : PySem.W.Frag) (T : List Addr) (mg : Str → Option Value) (base : Heap) (k : Nat) (x : Str) (ps : List Str) (mir : List Cl → List Dt → Mx Dt) : Prop where
  ex : ∃ f fd, mg x = some (.ref f) ∧ PySem.W.keepIn K (.ref f) = true ∧ Binds K fd ps [] ∧ FnOk P w K mg base (L2N.CX P w) k f fd ps (spM K T mg ps.length mir)
/-- a method of the class at C -/
structure MmOk (P : Program) (w : World) (K : PySem.W.Frag) (T : List Addr) (mg : Str → Option Value) (base : Heap) (k : Nat) (C : Addr) (m : Str) (ps : List Str) (mir : List Cl → List Dt → Mx Dt) : Prop where
  ex : ∃ f fd, Meth K C m f ∧ Binds K fd ps [] ∧ FnOk P w K mg base (L2N.CX P w) k f fd ps (spM K T mg ps.length mir)
/-- .. that only reads what is shared -/
structure PmOk (P : Program) (w : World) (K : PySem.W.Frag) (T : List Addr) (mg : Str → Option Value) (base : Heap) (k : Nat) (C : Addr) (m : Str) (ps : List Str) (nw : Bool) (mir : List Dt → Md Dt) : Prop where
  ex : ∃ f fd, Meth K C m f ∧ Binds K fd ps [] ∧ FnOk P w K mg base (L2N.CX P w) k f fd ps (spD K T mg nw ps.length mir)
/-- the class at C makes its instances by this -/
structure MkOk (P : Program) (w : World) (K : PySem.W.Frag) (T : List Addr) (mg : Str → Option Value) (base : Heap) (k : Nat) (x : Str) (C : Addr) (ps : List Str) (mir : List Cl → List Dt → Mx Dt) : Prop where
  ex : ∃ f fd, mg x = some (.ref C) ∧ Mk K C f ∧ Binds K fd ps [] ∧ FnOk P w K mg base (L2N.CX P w) k f fd ps (spM K T mg ps.length mir)
def xDef (n : Nat) (ms : List Cl → Fd → Mx Out) : List Cl → List Dt → Mx Dt := fun m ds => (ms m (startD n ds)).bind fun m1 o => match o with
  | .rt d => .ok m1 d
  | .nx _ => .ok m1 .non
  | _ => .bad
/-! ### a piece of code, its reading, its mirror -/
structure XE (X : Cx) (T : List Addr) (E : XK) (e : Expr) (te : TE) (me : List Cl → Fd → Mx Dt) : Prop where
  pe : PE X e te
  sn : SndX ⟨X.K, T, X.mg, E⟩ te me
structure XT (X : Cx) (T : List Addr) (E : XK) (e : Expr) (tt : TT) (mt : List Cl → Fd → Mx Bool) : Prop where
  pt : PT X e tt
  sn : SndXT ⟨X.K, T, X.mg, E⟩ tt mt
structure XW' (X : Cx) (T : List Addr) (E : XK) (e : Expr) (tt : TT) (mt : List Cl → Fd → Mx Bool) : Prop where
  pw : PW X e tt
  sn : SndXT ⟨X.K, T, X.mg, E⟩ tt mt
structure XA (X : Cx) (T : List Addr) (E : XK) (es : List Expr) (ta : TA) (ma : List Cl → Fd → Mx (List Dt)) : Prop where
  pa : PA X es ta
  sn : SndXA ⟨X.K, T, X.mg, E⟩ ta ma
structure XS (X : Cx) (T : List Addr) (E : XK) (st : Stmt) (ts : TS) (ms : List Cl → Fd → Mx Out) : Prop where
  ps : PS X st ts
  sn : SndXS ⟨X.K, T, X.mg, E⟩ ts ms
structure XB (X : Cx) (T : List Addr) (E : XK) (st : List Stmt) (ts : TS) (ms : List Cl → Fd → Mx Out) : Prop where
  ps : PSs X st ts
  sn : SndXS ⟨X.K, T, X.mg, E⟩ ts ms
section
variable {P : Program} {w : World} {K : PySem.W.Frag} {T : List Addr} {mg : Str → Option Value} {base : Heap}
theorem sm_start {H B : Hp} {M : Mm} {N : List Str} {vs : List V} {ds : List Dt} (tb : ∀ P ∈ T, GxR.TabG H P) (e : Ex B H) (st : Sto ⟨K, M.r, M.m⟩ H B) (r : RpL ⟨K, M.r, M.m⟩ B vs ds) (hn : vs.length ≤ N.length) : SM K T (bareR M.r H) B H B M (L2.start N vs) (startD N.length ds) := by
  have hl := r.length
  have at1 : ∀ {i : Nat} {x : Sd}, (startD N.length ds)[i]? = some x → (∃ d, ds[i]? = some d ∧ x = .sh d) ∨ x = .un := fun {i x} h => by
    unfold startD at h
    by_cases hi : i < ds.length
    · rw [List.getElem?_append_left (by rw [List.length_map]; exact hi), List.getElem?_map] at h
      cases q : ds[i]? with
      | none =>
        rw [q] at h
        cases h
      | some d =>
        rw [q] at h
        cases h
        exact .inl ⟨d, rfl, rfl⟩
    · rw [List.getElem?_append_right (by rw [List.length_map]; omega), List.getElem?_replicate] at h
      split at h <;> cases h
      exact .inr rfl
  have noow : ∀ {i : Nat} {es : List Dt}, (startD N.length ds)[i]? ≠ some (.ow es) := fun {i es} h => by
    rcases at1 h with ⟨d', _, h2⟩ | h1
    · cases h2
    · cases h1
  refine ⟨⟨?_, bareR_ex, ex_bareR e fun a h => ?_, Ex.refl B, e, fun _ _ z => z, tb, fun i d h => ?_, fun i es h => absurd h noow, fun i j es fs a h _ _ _ => absurd h noow, st, fun i es a h _ => absurd h noow⟩, fun a h => bareR_in h⟩
  · unfold L2.start startD
    rw [List.length_append, List.length_append, List.length_map, List.length_map, List.length_replicate, List.length_replicate, hl]
  · obtain ⟨_, _, _, _, z, _⟩ := st.get (K := ⟨K, M.r, M.m⟩) h
    exact z
  · rcases at1 h with ⟨d', h1, h2⟩ | h1
    · cases h2
      obtain ⟨v, hv, rv⟩ := r.at h1
      refine ⟨v, ?_, rv⟩
      have hi : i < vs.length := (List.getElem?_eq_some_iff.mp hv).1
      unfold L2.start
      rw [List.getElem?_append_left (by rw [List.length_map]; exact hi), List.getElem?_map, hv]
      rfl
    · cases h1
theorem body_M {X : Cx} {E : XK} {N : List Str} {st : List Stmt} {t : TS} {ms : List Cl → Fd → Mx Out} {n k : Nat} {vs : List V} {H : Hp} {Q : VK} (hX : X.K = K) (hm : X.mg = mg) (h : XB X T E st t ms) (hn : N.length = n) (hv : vs.length ≤ n) (q : spM K T mg k (xDef n ms) vs H Q E) : t { nx := fun _ H' => Q .non H', rt := Q } (L2.start N vs) H := by
  subst hX
  subst hm
  subst hn
  obtain ⟨hl, tb, ds, B, M, e, st, r, wp⟩ := q
  refine h.sn (bareR M.r H) B H B M _ _ _ (sm_start tb e st r hv) (wp.bind.mono (fun m1 o q => ?_) fun _ _ z => z)
  cases o with
  | rt d => exact fun v H' h => q v H' h
  | nx Δ => exact fun H' S' r' σ' l e' s' => q .non H' ⟨S', r', l, s'.s.gh, s'.s.bs, s'.s.sh, s'.s.fr, s'.s.cl, s'.g, .non⟩
  | bk Δ => exact q.elim
  | ct Δ => exact q.elim
theorem fn_okM {x q : Str} {st : Stmt} {f : Addr} {fd : FuncData} {N ps : List Str} {k n : Nat} {ms : List Cl → Fd → Mx Out} (hn : N.length = n) (F : Fun K x q st f fd) (S : FnScope N ps (defScope st))
    (body : ∀ (cdv : Value) (A : Around) (outer : List Env) (s : Shared) (H : Hp) (E : XK), Cok (cxOf (L2N.CX P w) P w K mg base N q (defScope st) f cdv A outer s H E) k E →
      ∃ t, XB (cxOf (L2N.CX P w) P w K mg base N q (defScope st) f cdv A outer s H E) T E (defBody st) t ms) :
    FnOk P w K mg base (L2N.CX P w) (k + 1) f fd ps (spM K T mg ps.length (xDef n ms)) := by
  obtain ⟨oc, od, kV, doc, pm, an, cdv, ct, osl, rfl, lk, hcd⟩ := F.ex
  refine fn_of lk hcd S (fun vs H Q E h => h.1) fun A outer s H vs Q E hr h => ?_
  obtain ⟨t, ht⟩ := body cdv A outer s H E (cok_def hr S.nd)
  have hpl : ps.length ≤ N.length := by
    have := congrArg List.length S.pre
    rw [List.length_take] at this
    omega
  exact ⟨t, ht.ps, body_M rfl rfl ht hn (by have := h.1; omega) h⟩
/-- .. with a code table -/
theorem fn_okMG {x q : Str} {st : Stmt} {f c : Addr} {fd : FuncData} {N ps : List Str} {k n : Nat} {ms : List Cl → Fd → Mx Out} (hc : fd.code = .ref c) (hn : N.length = n) (F : Fun K x q st f fd) (S : FnScope N ps (defScope st))
    (body : ∀ (A : Around) (outer : List Env) (s : Shared) (H : Hp) (E : XK), Cok (cxOf (L2N.CX P w) P w K mg base N q (defScope st) f (.ref c) A outer s H E) k E →
      ∃ t, XB (cxOf (L2N.CX P w) P w K mg base N q (defScope st) f (.ref c) A outer s H E) T E (defBody st) t ms) :
    FnOk P w K mg base (L2N.CX P w) (k + 1) f fd ps (spM K T mg ps.length (xDef n ms)) := by
  obtain ⟨oc, od, kV, doc, pm, an, cdv, ct, osl, rfl, lk, hcd⟩ := F.ex
  have hc : cdv = .ref c := hc
  subst hc
  refine fn_of lk hcd S (fun vs H Q E h => h.1) fun A outer s H vs Q E hr h => ?_
  obtain ⟨t, ht⟩ := body A outer s H E (cok_def hr S.nd)
  have hpl : ps.length ≤ N.length := by
    have := congrArg List.length S.pre
    rw [List.length_take] at this
    omega
  exact ⟨t, ht.ps, body_M rfl rfl ht hn (by have := h.1; omega) h⟩
end
/-! ### what is read of the store -/
def mapMd (f : Dt → Md Dt) : List Dt → Md (List Dt)
  | [] => .ok []
  | d :: r => (f d).bind fun e => (mapMd f r).bind fun es => .ok (e :: es)
/-- the data that things stand for by now -/
def res (m : List Cl) : Nat → Dt → Md Dt
  | 0, _ => .bad
  | k + 1, d => match d with
    | .loc n => (match m[n]? with
      | some (.lst ds) => (mapMd (res m k) ds).bind fun es => .ok (.lst es)
      | some (.ins C ns ds) => (mapMd (res m k) ds).bind fun es => .ok (.ins C ns es)
      | some (.dK ks ds) => (mapMd (res m k) ds).bind fun es => .ok (.dct ks es)
      | _ => .bad)
    | .lst ds => (mapMd (res m k) ds).bind fun es => .ok (.lst es)
    | .tup ds => (mapMd (res m k) ds).bind fun es => .ok (.tup es)
    | .lsk ds => (mapMd (res m k) ds).bind fun es => .ok (.lsk es)
    | .tpk ds => (mapMd (res m k) ds).bind fun es => .ok (.tpk es)
    | .ins C ns ds => (mapMd (res m k) ds).bind fun es => .ok (.ins C ns es)
    | .dct ks ds => (mapMd (res m k) ds).bind fun es => .ok (.dct ks es)
    | d => .ok d
theorem md_ok {α β : Type} {x : Md α} {f : α → Md β} {b : β} (h : x.bind f = .ok b) : ∃ a, x = .ok a ∧ f a = .ok b := by
  cases x with
  | ok a => exact ⟨a, rfl, h⟩
  | exc c => cases h
  | bad => cases h
theorem res_all {K K' : Kx} {S Z : Hp} {f : Dt → Md Dt} (hf : ∀ v d d', Rp K S v d → f d = .ok d' → Rp K' Z v d') : ∀ {vs : List V} {ds es : List Dt}, RpL K S vs ds → mapMd f ds = .ok es → RpL K' Z vs es
  | _, _, _, .nil, e => by cases e; exact .nil
  | _, _, es, .cons h r, e => by
    obtain ⟨d', e1, e2⟩ := md_ok e
    obtain ⟨es', e3, e4⟩ := md_ok e2
    cases e4
    exact .cons (hf _ _ _ h e1) (res_all hf r e3)
theorem res_ok {K : Kx} {H S Z : Hp} (st : Sto K H S) (x : Ex S Z) (hz : ∀ a ∈ K.r, Z a = H a) : ∀ (k : Nat) (v : V) (d d' : Dt), Rp K S v d → res K.m k d = .ok d' → Rp (k0 K.f) Z v d'
  | 0, _, _, _, _, e => by cases e
  | k + 1, v, d, d', r, e => by
    have all : ∀ {vs : List V} {ds es : List Dt}, RpL K S vs ds → mapMd (res K.m k) ds = .ok es → RpL (k0 K.f) Z vs es := fun r e => res_all (fun v d d' r e => res_ok st x hz k v d d' r e) r e
    cases r with
    | non => cases e; exact .non
    | bl b => cases e; exact .bl b
    | int i => cases e; exact .int i
    | str z => cases e; exact .str z
    | ty n => cases e; exact .ty n
    | adr a => cases e; exact .adr a
    | dic h => cases e; exact .dic (x.same _ _ h fun _ z => by cases z)
    | lst h r =>
      obtain ⟨es, e1, e2⟩ := md_ok e
      cases e2
      exact .lst (x.lst h) (all r e1)
    | tup h r =>
      obtain ⟨es, e1, e2⟩ := md_ok e
      cases e2
      exact .tup (x.tup h) (all r e1)
    | lsk h r =>
      obtain ⟨es, e1, e2⟩ := md_ok e
      cases e2
      exact .lsk (x.sqL (K := K.f) h) (all r e1)
    | tpk h r =>
      obtain ⟨es, e1, e2⟩ := md_ok e
      cases e2
      exact .tpk (x.sqT (K := K.f) h) (all r e1)
    | dct h r =>
      obtain ⟨es, e1, e2⟩ := md_ok e
      cases e2
      exact .dct (x.same _ _ h fun _ z => by cases z) (all r e1)
    | ins h r =>
      obtain ⟨es, e1, e2⟩ := md_ok e
      cases e2
      exact .ins (x.ins h) (all r e1)
    | loc h =>
      rename_i a n
      have e : (match K.m[n]? with
        | some (.lst ds) => (mapMd (res K.m k) ds).bind fun es => Md.ok (Dt.lst es)
        | some (.ins C ns ds) => (mapMd (res K.m k) ds).bind fun es => .ok (.ins C ns es)
        | some (.dK ks ds) => (mapMd (res K.m k) ds).bind fun es => .ok (.dct ks es)
        | _ => .bad) = .ok d' := e
      have za : Z a = H a := hz a (List.mem_of_getElem? h)
      cases q : K.m[n]? with
      | none =>
        rw [q] at e
        cases e
      | some c =>
        rw [q] at e
        obtain ⟨_, ca⟩ := st.at_ n a c h q
        cases c with
        | lst ds =>
          obtain ⟨vs, h1, r1⟩ := ca
          obtain ⟨es, e1, e2⟩ := md_ok e
          cases e2
          exact .lst (za.trans h1) (all r1 e1)
        | ins C ns ds =>
          obtain ⟨dx, fs, h1, h2, r1⟩ := ca
          obtain ⟨es, e1, e2⟩ := md_ok e
          cases e2
          subst h2
          exact .ins (za.trans h1) (all r1 e1)
        | dK ks ds =>
          obtain ⟨kvs, h1, h2, r1⟩ := ca
          obtain ⟨es, e1, e2⟩ := md_ok e
          cases e2
          subst h2
          exact .dct (za.trans h1) (all r1 e1)
        | dN ks ds => cases e
/-- a def over the store as a def that reads what is shared -/
def ofX (mir : List Cl → List Dt → Mx Dt) : List Dt → Md Dt := fun ds => match mir [] ds with
  | .ok m d => res m 8 d
  | .exc _ c => .exc c
  | .bad => .bad
open Classical in
theorem sp_pure {K : PySem.W.Frag} {T : List Addr} {mg : Str → Option Value} {n : Nat} {mir : List Cl → List Dt → Mx Dt} {vs : List V} {H : Hp} {Q : VK} {E : XK} (h : spD K T mg false n (ofX mir) vs H Q E) : spM K T mg n mir vs H Q E := by
  obtain ⟨hl, tb, ds, B, e, r, wp⟩ := h
  refine ⟨hl, tb, ds, B, M0, e, sto0, r, ?_⟩
  show Wq (mir [] ds) (fun m' d => ∀ v H', RtM K (bareR [] H) B [] m' H' v d → Q v H') (XM ⟨K, T, mg, E⟩ (bareR [] H) B [])
  rw [bareR_nil]
  unfold ofX at wp
  cases q : mir [] ds with
  | bad =>
    rw [q] at wp
    exact wp.elim
  | exc m c =>
    rw [q] at wp
    obtain ⟨C, hC, k⟩ := wp
    exact ⟨C, hC, fun H' S' r' _ e1 _ _ _ _ _ => k H' e1⟩
  | ok m d =>
    rw [q] at wp
    intro v H' rt
    obtain ⟨S', r', l, e1, e2, e3, fr, st, nw, rp⟩ := rt
    have wp : Wp (res m 8 d) (fun d => ∀ v H', Rt (k0 K) false H B H' v d → Q v H') (XW mg E H) := wp
    cases hr : res m 8 d with
    | bad =>
      rw [hr] at wp
      exact wp.elim
    | exc c =>
      -- what is read raises nothing
      exfalso
      have key : ∀ (k : Nat) (d : Dt) (c : Str), res m k d ≠ .exc c := by
        intro k
        induction k with
        | zero => exact fun d c z => by cases z
        | succ k ih =>
          have mp : ∀ (ds : List Dt) (c : Str), mapMd (res m k) ds ≠ .exc c := by
            intro ds
            induction ds with
            | nil => exact fun c z => by cases z
            | cons x r ihr =>
              intro c z
              have z : ((res m k x).bind fun e => (mapMd (res m k) r).bind fun es => Md.ok (e :: es)) = .exc c := z
              cases q1 : res m k x with
              | ok a =>
                rw [q1] at z
                have z : ((mapMd (res m k) r).bind fun es => Md.ok (a :: es)) = .exc c := z
                cases q2 : mapMd (res m k) r with
                | ok b => rw [q2] at z; cases z
                | exc c' => exact ihr c' q2
                | bad => rw [q2] at z; cases z
              | exc c' => exact ih x c' q1
              | bad => rw [q1] at z; cases z
          have mb : ∀ (ds : List Dt) (g : List Dt → Dt) (c : Str), ((mapMd (res m k) ds).bind fun es => Md.ok (g es)) ≠ .exc c := fun ds g c z => by
            cases q2 : mapMd (res m k) ds with
            | ok b => rw [q2] at z; cases z
            | exc c' => exact mp ds c' q2
            | bad => rw [q2] at z; cases z
          intro d c z
          cases d with
          | loc n =>
            have z : (match m[n]? with
              | some (.lst ds) => (mapMd (res m k) ds).bind fun es => Md.ok (Dt.lst es)
              | some (.ins C ns ds) => (mapMd (res m k) ds).bind fun es => .ok (.ins C ns es)
              | some (.dK ks ds) => (mapMd (res m k) ds).bind fun es => .ok (.dct ks es)
              | _ => .bad) = .exc c := z
            split at z
            · exact mb _ _ _ z
            · exact mb _ _ _ z
            · exact mb _ _ _ z
            · cases z
          | lst ds => exact mb _ _ _ z
          | tup ds => exact mb _ _ _ z
          | lsk ds => exact mb _ _ _ z
          | tpk ds => exact mb _ _ _ z
          | ins C ns ds => exact mb _ _ _ z
          | dct ks ds => exact mb _ _ _ z
          | _ => cases z
      exact key 8 d c hr
    | ok d' =>
      rw [hr] at wp
      let S2 : Hp := fun b => if b ∈ r' then H' b else S' b
      have s2i : ∀ b, b ∈ r' → S2 b = H' b := fun b h => if_pos h
      have s2o : ∀ b, b ∉ r' → S2 b = S' b := fun b h => if_neg h
      have ni : ∀ {b : Addr}, S' b ≠ none → b ∉ r' := fun {b} hb z => by
        obtain ⟨_, _, _, _, h0, _⟩ := st.get (K := ⟨K, r', m⟩) z
        exact hb h0
      have x1 : Ex S' S2 := ⟨fun b o e _ => by rw [s2o b (ni (by rw [e]; exact fun z => by cases z))]; exact e, fun P ps e => ⟨ps, by rw [s2o P (ni (by rw [e]; exact fun z => by cases z))]; exact e, fun t => t⟩⟩
      have x2 : Ex S2 H' := ⟨fun b o e n => by
        by_cases z : b ∈ r'
        · rw [s2i b z] at e; exact e
        · rw [s2o b z] at e; exact e3.same b o e n, fun P ps e => by
        by_cases z : P ∈ r'
        · rw [s2i P z] at e; exact ⟨ps, e, fun t => t⟩
        · rw [s2o P z] at e; exact e3.tabs P ps e⟩
      refine wp v H' ⟨S2, e1, e2.trans x1, x2, fun b hb z => ?_, ?_⟩
      · have nb : b ∉ r' := fun y => hb (nw b y)
        rw [s2o b nb]
        exact fr b hb z
      · exact res_ok (K := ⟨K, r', m⟩) st x1 (fun a h => s2i a h) 8 v d d' rp hr
theorem MefOk.pure {P : Program} {w : World} {K : PySem.W.Frag} {T : List Addr} {mg : Str → Option Value} {base : Heap} {k : Nat} {x : Str} {ps : List Str} {mir : List Cl → List Dt → Mx Dt} (h : MefOk P w K T mg base k x ps mir) : DefOk P w K T mg base k x ps false (ofX mir) := by
  obtain ⟨f, fd, h1, h2, h3, h4⟩ := h.ex
  exact ⟨f, fd, h1, h2, h3, h4.imp fun vs H Q E q => sp_pure q⟩
theorem MmOk.pure {P : Program} {w : World} {K : PySem.W.Frag} {T : List Addr} {mg : Str → Option Value} {base : Heap} {k : Nat} {C : Addr} {x : Str} {ps : List Str} {mir : List Cl → List Dt → Mx Dt} (h : MmOk P w K T mg base k C x ps mir) : PmOk P w K T mg base k C x ps false (ofX mir) := by
  obtain ⟨f, fd, h1, h3, h4⟩ := h.ex
  exact ⟨f, fd, h1, h3, h4.imp fun vs H Q E q => sp_pure q⟩
end Mr
/-! What is read of things that may be changed, of objects; methods; the making of objects; changes. -/
namespace Mr
open PySem L2
/-! ### reading -/
section
variable {X : Cx} {T : List Addr} {M : Mm} {E : XK} {fl : Fl} {o e : Expr} {es : List Expr} {to te : TE} {mo me : Fd → Md Dt} {tas : TA} {mas : Fd → Md (List Dt)} {pos apos p : Pos} {k j : Nat} {C : Addr} {f x : Str} {ps : List Str}
theorem d_res (h : DE X T M E .s e te me) : DE X T M E .t e te (mU (res M.m 8) me) := ⟨h.pe, fun G B H S σ Δ Q s w => h.sn G B H S σ Δ Q s (Wp.mono (Wp.bind w) (fun d q v H' S' g r _ => by
  cases hr : res M.m 8 d with
  | ok d' =>
    rw [hr] at q
    have s' := s.grow g
    exact q v H' S' g (Rp.up (K := kx X M) (res_ok (K := kx X M) s'.cl s'.sh (fun _ _ => rfl) 8 v d d' r hr)) trivial
  | bad =>
    rw [hr] at q
    exact q.elim
  | exc c =>
    rw [hr] at q
    exact absurd hr (by
      have key : ∀ (k : Nat) (d : Dt) (c : Str), res M.m k d ≠ .exc c := by
        intro k
        induction k with
        | zero => exact fun d c z => by cases z
        | succ k ih =>
          have mp : ∀ (ds : List Dt) (c : Str), mapMd (res M.m k) ds ≠ .exc c := by
            intro ds
            induction ds with
            | nil => exact fun c z => by cases z
            | cons x r ihr => exact bind_nx (ih x) fun a c => bind_nx ihr (fun _ _ z => by cases z) c
          have mb : ∀ (ds : List Dt) (g : List Dt → Dt) (c : Str), ((mapMd (res M.m k) ds).bind fun es => Md.ok (g es)) ≠ .exc c := fun ds g => bind_nx (mp ds) fun _ _ z => by cases z
          intro d c z
          cases d with
          | loc n =>
            have z : (match M.m[n]? with
              | some (.lst ds) => (mapMd (res M.m k) ds).bind fun es => Md.ok (Dt.lst es)
              | some (.ins C ns ds) => (mapMd (res M.m k) ds).bind fun es => .ok (.ins C ns es)
              | some (.dK ks ds) => (mapMd (res M.m k) ds).bind fun es => .ok (.dct ks es)
              | _ => .bad) = .exc c := z
            split at z
            · exact mb _ _ _ z
            · exact mb _ _ _ z
            · exact mb _ _ _ z
            · cases z
          | lst ds => exact mb _ _ _ z
          | tup ds => exact mb _ _ _ z
          | lsk ds => exact mb _ _ _ z
          | tpk ds => exact mb _ _ _ z
          | ins C ns ds => exact mb _ _ _ z
          | dct ks ds => exact mb _ _ _ z
          | _ => cases z
      exact key 8 d c)) fun _ z => z)⟩
/-- a list, shared or not -/
def dCell (m : List Cl) : Dt → Md Dt
  | .lst ds => .ok (.lst ds)
  | .loc n => (match m[n]? with
    | some (.lst ds) => .ok (.lst ds)
    | _ => .bad)
  | _ => .bad
theorem d_cell (h : DE X T M E .s e te me) : DE X T M E .l e te (mU (dCell M.m) me) := ⟨h.pe, fun G B H S σ Δ Q s w => h.sn G B H S σ Δ Q s (Wp.mono (Wp.bind w) (fun d q v H' S' g r _ => by
  have s' := s.grow g
  cases d with
  | lst ds =>
    cases r with
    | lst h1 r1 => exact q _ H' S' g ⟨_, _, ds, rfl, rfl, s'.sh.lst h1, r1⟩ trivial
  | loc n =>
    have q : Wp (match M.m[n]? with
      | some (.lst ds) => Md.ok (Dt.lst ds)
      | _ => .bad) _ _ := q
    cases hc : M.m[n]? with
    | none => rw [hc] at q; exact q.elim
    | some c =>
      rw [hc] at q
      cases c with
      | lst ds =>
        cases r with
        | loc h1 =>
          obtain ⟨_, vs, h2, r2⟩ := s'.cl.at_ n _ _ h1 hc
          exact q _ H' S' g ⟨_, vs, ds, rfl, rfl, h2, r2⟩ trivial
      | _ => exact q.elim
  | _ => exact q.elim) fun _ z => z)⟩
/-! fields -/
def lk (f : Str) : List Str → List Dt → Option Dt
  | n :: ns, d :: ds => if n = f then some d else lk f ns ds
  | _, _ => none
theorem lk_ok {K : Kx} {S : Hp} {f : Str} : ∀ {fs : List (Str × V)} {ds : List Dt} {d : Dt}, RpL K S (fs.map (·.2)) ds → lk f (fs.map (·.1)) ds = some d → ∃ v, fs.lookup f = some v ∧ Rp K S v d
  | [], _, _, _, h => by simp [lk] at h
  | (n, v) :: r, d0 :: ds, d, .cons h1 h2, h => by
    have h : (if n = f then some d0 else lk f (r.map (·.1)) ds) = some d := h
    by_cases z : n = f
    · rw [if_pos z] at h
      cases h
      subst z
      exact ⟨v, by simp [List.lookup], h1⟩
    · rw [if_neg z] at h
      obtain ⟨v', e, q⟩ := lk_ok h2 h
      have nb : (f == n) = false := by
        rw [beq_eq_false_iff_ne]
        exact fun y => z y.symm
      exact ⟨v', by rw [List.lookup, nb]; exact e, q⟩
def dFld (m : List Cl) (C : Addr) (f : Str) : Dt → Md Dt
  | .ins C' ns ds => if C' = C then (match lk f ns ds with | some d => .ok d | none => .bad) else .bad
  | .loc n => (match m[n]? with
    | some (.ins C' ns ds) => if C' = C then (match lk f ns ds with | some d => .ok d | none => .bad) else .bad
    | _ => .bad)
  | _ => .bad
theorem fld_w {C C' : Addr} {f : Str} {ns : List Str} {ds : List Dt} {p : Dt → Prop} {ex : Str → Prop} (w : Wp (if C' = C then (match lk f ns ds with | some d => Md.ok d | none => .bad) else .bad) p ex) : C' = C ∧ ∃ d, lk f ns ds = some d ∧ p d := by
  by_cases h : C' = C
  · rw [if_pos h] at w
    cases q : lk f ns ds with
    | none => rw [q] at w; exact w.elim
    | some d => rw [q] at w; exact ⟨h, d, rfl, w⟩
  · rw [if_neg h] at w
    exact w.elim
theorem d_fld (ho : DE X T M E .s o to mo) (hc : Cls X.K C) (ha : NoAttr X.K C f) (hb : attributeBase o f X.env (eval o X.env) = eval o X.env := by rfl) : DE X T M E .s (.Attribute o f pos) (tFld X.K to f) (mU (dFld M.m C f) mo) := ⟨pe_fld ho.pe hb, fun G B H S σ Δ Q s w => ho.sn G B H S σ Δ _ s (Wp.mono (Wp.bind w) (fun d q v H' S' g r _ => by
  have s' := s.grow g
  cases d with
  | ins C' ns ds =>
    cases r with
    | ins h1 r1 =>
      obtain ⟨rfl, d, e1, q⟩ := fld_w q
      obtain ⟨v, e2, rv⟩ := lk_ok r1 e1
      exact ⟨_, _, _, _, v, rfl, (s'.sh.ins h1), hc, ha, e2, q v H' S' g rv trivial⟩
  | loc n =>
    have q : Wp (match M.m[n]? with
      | some (.ins C' ns ds) => if C' = C then (match lk f ns ds with | some d => Md.ok d | none => .bad) else .bad
      | _ => .bad) _ _ := q
    cases hc' : M.m[n]? with
    | none => rw [hc'] at q; exact q.elim
    | some c =>
      rw [hc'] at q
      cases c with
      | ins C' ns ds =>
        cases r with
        | loc h1 =>
          obtain ⟨_, dx, fs, h2, h3, r2⟩ := s'.cl.at_ n _ _ h1 hc'
          subst h3
          obtain ⟨rfl, d, e1, q⟩ := fld_w q
          obtain ⟨v, e2, rv⟩ := lk_ok r2 e1
          exact ⟨_, _, _, _, v, rfl, h2, hc, ha, e2, q v H' S' g rv trivial⟩
      | _ => exact q.elim
  | _ => exact q.elim) fun _ z => z)⟩
/-! methods of what is shared -/
def hasKey (m : Str) : List Str → Bool
  | [] => false
  | n :: r => if n = m then true else hasKey m r
theorem noKey {m : Str} : ∀ {fs : List (Str × V)}, hasKey m (fs.map (·.1)) = false → fs.lookup m = none
  | [], _ => rfl
  | (n, v) :: r, h => by
    have h : (if n = m then true else hasKey m (r.map (·.1))) = false := h
    by_cases z : n = m
    · rw [if_pos z] at h
      cases h
    · rw [if_neg z] at h
      have nb : (m == n) = false := by
        rw [beq_eq_false_iff_ne]
        exact fun y => z y.symm
      rw [List.lookup, nb]
      exact noKey h
def mMeth (C : Addr) (m : Str) (n : Nat) (mir : List Dt → Md Dt) (mo : Fd → Md Dt) (mas : Fd → Md (List Dt)) : Fd → Md Dt := fun Δ => (mo Δ).bind fun d => match d with
  | .ins C' ns fs => if C' = C ∧ hasKey m ns = false then (mas Δ).bind fun ds => if ds.length + 1 = n then mir (.ins C' ns fs :: ds) else .bad else .bad
  | _ => .bad
def mNl1 (mo : Fd → Md Dt) : Fd → Md Dt := fun Δ => (mo Δ).bind fun d => if nl d = true then .ok d else .bad
theorem snd_meth0 {W : Wo} {nw : Bool} {n : Nat} {m : Str} {mir : List Dt → Md Dt} {mo' : Fd → Md Dt} {mas' : Fd → Md (List Dt)} (ho : SndE W .s to mo) (h : SndA W .s tas mas)
    (hc1 : ∀ Δ (p : Dt → Prop) ex, Wp (mo' Δ) p ex → Wp (mo Δ) (fun d => (∀ H v, Rp W.K H v d → Rp (k0 W.K.f) H v d) ∧ p d) ex)
    (hc : ∀ Δ (p : List Dt → Prop) ex, Wp (mas' Δ) p ex → Wp (mas Δ) (fun ds => (∀ H vs, RpL W.K H vs ds → RpL (k0 W.K.f) H vs ds) ∧ p ds) ex) : SndE W (nwF nw) (tMeth C m (spD W.K.f W.T W.mg nw n mir) [] W.E to tas) (mMeth C m n mir mo' mas') := by
  intro G B H S σ Δ Q s w
  refine ho G B H S σ Δ _ s ((hc1 Δ _ _ w.bind).mono (fun d q v H1 S1 g r _ => ?_) fun _ z => z)
  obtain ⟨hk1, q⟩ := q
  cases d with
  | ins C' ns fs =>
    have q0 : Wp (if C' = C ∧ hasKey m ns = false then (mas' Δ).bind fun ds => if ds.length + 1 = n then mir (.ins C' ns fs :: ds) else .bad else .bad) _ _ := q
    by_cases hC : C' = C ∧ hasKey m ns = false
    · rw [if_pos hC] at q0
      obtain ⟨rfl, hk⟩ := hC
      have r0 := r
      cases r with
      | ins h1 r1 =>
        have s1 := s.grow g
        refine ⟨_, _, _, rfl, s1.sh.ins h1, noKey hk, ?_⟩
        refine h G B H1 S1 σ Δ _ s1 ((hc Δ _ _ q0.bind).mono (fun ds q2 vs H2 S2 g2 r2 => ?_) fun _ z => z.grow g.hh)
        obtain ⟨hk2, q2⟩ := q2
        by_cases hn : ds.length + 1 = n
        · rw [if_pos hn] at q2
          have r2' : RpL W.K S2 vs ds := r2
          have gg := g.trans g2
          show spD W.K.f W.T W.mg nw n mir (_ :: (vs ++ [])) H2 Q W.E
          rw [List.append_nil]
          refine ⟨by rw [List.length_cons, r2'.length]; exact hn, (s1.grow g2).tb, _, S2, g2.sh, .cons (hk1 _ _ (Rp.mono g2.ss r0)) (hk2 _ _ r2'), q2.mono (fun d q v H3 rt => ?_) fun _ z => z.grow gg.hh⟩
          obtain ⟨S3, k1, k2, k3, k4, k5⟩ := rt
          have g3 : Gr H2 S2 H3 S3 := ⟨k1, k2, k3, k4⟩
          cases nw with
          | true =>
            obtain ⟨⟨p, us, es, e1, e2, e3, e4, r5⟩, h6⟩ := k5
            exact q v H3 S3 (gg.trans g3) ⟨p, us, es, e1, e2, e3, e4, r5.up⟩ (h6.back gg)
          | false => exact q v H3 S3 (gg.trans g3) (Rp.up k5) trivial
        · rw [if_neg hn] at q2
          exact q2.elim
    · rw [if_neg hC] at q0
      exact q0.elim
  | _ => exact q.elim
theorem mNl1_w {mo : Fd → Md Dt} {Δ : Fd} {p : Dt → Prop} {ex : Str → Prop} (w : Wp (mNl1 mo Δ) p ex) : Wp (mo Δ) (fun d => nl d = true ∧ p d) ex := by
  refine Wp.mono (Wp.bind w) (fun ds k => ?_) fun _ z => z
  by_cases h : nl ds = true
  · rw [if_pos h] at k
    exact ⟨h, k⟩
  · rw [if_neg h] at k
    exact k.elim
theorem snd_meth {W : Wo} {nw : Bool} {n : Nat} {m : Str} {mir : List Dt → Md Dt} (hW : W.K = k0 W.K.f) (ho : SndE W .s to mo) (h : SndA W .s tas mas) : SndE W (nwF nw) (tMeth C m (spD W.K.f W.T W.mg nw n mir) [] W.E to tas) (mMeth C m n mir mo mas) :=
  snd_meth0 ho h (fun Δ p ex w => w.mono (fun ds k => ⟨fun H v r => by rw [← hW]; exact r, k⟩) fun _ z => z) fun Δ p ex w => w.mono (fun ds k => ⟨fun H vs r => by rw [← hW]; exact r, k⟩) fun _ z => z
theorem snd_methN {W : Wo} {nw : Bool} {n : Nat} {m : Str} {mir : List Dt → Md Dt} (ho : SndE W .s to mo) (h : SndA W .s tas mas) : SndE W (nwF nw) (tMeth C m (spD W.K.f W.T W.mg nw n mir) [] W.E to tas) (mMeth C m n mir (mNl1 mo) (mNl mas)) :=
  snd_meth0 ho h (fun Δ p ex w => (mNl1_w w).mono (fun ds k => ⟨fun H v r => Rp.nl (K := W.K) (K' := k0 W.K.f) rfl r k.1, k.2⟩) fun _ z => z) fun Δ p ex w => (mNl_w w).mono (fun ds k => ⟨fun H vs r => RpL.nl (K := W.K) (K' := k0 W.K.f) rfl r k.1, k.2⟩) fun _ z => z
end
section
variable {X : Cx} {T : List Addr} {M : Mm} {E : XK} {fl : Fl} {o e : Expr} {es : List Expr} {to te : TE} {mo me : Fd → Md Dt} {tas : TA} {mas : Fd → Md (List Dt)} {pos apos p : Pos} {k j : Nat} {C : Addr} {f m : Str} {ps : List Str} {nw : Bool} {mir : List Dt → Md Dt} {pl : Sem Bool}
theorem d_meth {K0 : PySem.W.Frag} {mg0 : Str → Option Value} (c : Cok X k E) (F : PmOk X.prog X.w K0 T mg0 X.base j C m ps nw mir) (hc : Cls K0 C) (ho : DE X T M0 E .s o to mo) (h : DA X T M0 E .s (e :: es) tas mas) (hj : j ≤ k := by decide) (he : starEach (e :: es) X.env = (false, eval e X.env) :: starEach es X.env := by rfl) (hpl : (backTo pos (starEach es X.env)).any (·.1) = false := by rfl)
    (hev : eval (.Call (.Attribute o m apos) (e :: es) [] pos) X.env = (do
      let ov ← eval o X.env
      standAt apos.atName
      let (f, first) ← holding [ov] (getMethod ov m pl)
      callWith pos f first (backTo pos (starEach (e :: es) X.env)) (backToKw pos (keywordEach [] X.env))) := by rfl) (hK : X.K = K0 := by rfl) (hmg : X.mg = mg0 := by rfl) :
    DE X T M0 E (nwF nw) (.Call (.Attribute o m apos) (e :: es) [] pos) (tMeth C m (spD K0 T mg0 nw ps.length mir) [] E to tas) (mMeth C m ps.length mir mo mas) := by
  subst hK
  subst hmg
  obtain ⟨f, fd, hm, hb, ok⟩ := F.ex
  exact ⟨pe_meth ho.pe hc hm ok (c.room.mono hj) hb .nil c.pas h.pa he hpl hev, snd_meth (W := ⟨kx X M0, T, X.mg, E⟩) rfl ho.sn h.sn⟩
theorem d_methN {K0 : PySem.W.Frag} {mg0 : Str → Option Value} (c : Cok X k E) (F : PmOk X.prog X.w K0 T mg0 X.base j C m ps nw mir) (hc : Cls K0 C) (ho : DE X T M E .s o to mo) (h : DA X T M E .s (e :: es) tas mas) (hj : j ≤ k := by decide) (he : starEach (e :: es) X.env = (false, eval e X.env) :: starEach es X.env := by rfl) (hpl : (backTo pos (starEach es X.env)).any (·.1) = false := by rfl)
    (hev : eval (.Call (.Attribute o m apos) (e :: es) [] pos) X.env = (do
      let ov ← eval o X.env
      standAt apos.atName
      let (f, first) ← holding [ov] (getMethod ov m pl)
      callWith pos f first (backTo pos (starEach (e :: es) X.env)) (backToKw pos (keywordEach [] X.env))) := by rfl) (hK : X.K = K0 := by rfl) (hmg : X.mg = mg0 := by rfl) :
    DE X T M E (nwF nw) (.Call (.Attribute o m apos) (e :: es) [] pos) (tMeth C m (spD K0 T mg0 nw ps.length mir) [] E to tas) (mMeth C m ps.length mir (mNl1 mo) (mNl mas)) := by
  subst hK
  subst hmg
  obtain ⟨f, fd, hm, hb, ok⟩ := F.ex
  exact ⟨pe_meth ho.pe hc hm ok (c.room.mono hj) hb .nil c.pas h.pa he hpl hev, snd_methN (W := ⟨kx X M, T, X.mg, E⟩) ho.sn h.sn⟩
theorem d_meth0 {K0 : PySem.W.Frag} {mg0 : Str → Option Value} (c : Cok X k E) (F : PmOk X.prog X.w K0 T mg0 X.base j C m ps nw mir) (hc : Cls K0 C) (ho : DE X T M0 E .s o to mo) (hj : j ≤ k := by decide)
    (hev : eval (.Call (.Attribute o m apos) [] [] pos) X.env = (do
      let ov ← eval o X.env
      standAt apos.atName
      let (f, first) ← holding [ov] (getMethod ov m pl)
      callWith pos f first (backTo pos (starEach [] X.env)) (backToKw pos (keywordEach [] X.env))) := by rfl) (hK : X.K = K0 := by rfl) (hmg : X.mg = mg0 := by rfl) :
    DE X T M0 E (nwF nw) (.Call (.Attribute o m apos) [] [] pos) (tMeth C m (spD K0 T mg0 nw ps.length mir) [] E to tNil) (mMeth C m ps.length mir mo mNil) := by
  subst hK
  subst hmg
  obtain ⟨f, fd, hm, hb, ok⟩ := F.ex
  exact ⟨pe_meth0 ho.pe hc hm ok (c.room.mono hj) hb .nil c.pas hev, snd_meth (W := ⟨kx X M0, T, X.mg, E⟩) rfl ho.sn sa_nil⟩
theorem d_meth0N {K0 : PySem.W.Frag} {mg0 : Str → Option Value} (c : Cok X k E) (F : PmOk X.prog X.w K0 T mg0 X.base j C m ps nw mir) (hc : Cls K0 C) (ho : DE X T M E .s o to mo) (hj : j ≤ k := by decide)
    (hev : eval (.Call (.Attribute o m apos) [] [] pos) X.env = (do
      let ov ← eval o X.env
      standAt apos.atName
      let (f, first) ← holding [ov] (getMethod ov m pl)
      callWith pos f first (backTo pos (starEach [] X.env)) (backToKw pos (keywordEach [] X.env))) := by rfl) (hK : X.K = K0 := by rfl) (hmg : X.mg = mg0 := by rfl) :
    DE X T M E (nwF nw) (.Call (.Attribute o m apos) [] [] pos) (tMeth C m (spD K0 T mg0 nw ps.length mir) [] E to tNil) (mMeth C m ps.length mir (mNl1 mo) (mNl mNil)) := by
  subst hK
  subst hmg
  obtain ⟨f, fd, hm, hb, ok⟩ := F.ex
  exact ⟨pe_meth0 ho.pe hc hm ok (c.room.mono hj) hb .nil c.pas hev, snd_methN (W := ⟨kx X M, T, X.mg, E⟩) ho.sn sa_nil⟩
end

/-! ### calls over the store -/
def xCall (n : Nat) (mir : List Cl → List Dt → Mx Dt) (ma : List Cl → Fd → Mx (List Dt)) : List Cl → Fd → Mx Dt := fun m Δ => (ma m Δ).bind fun m1 ds => if ds.length = n then mir m1 ds else .bad
section
variable {W : Wm} {to : TE} {tas : TA} {mas : List Cl → Fd → Mx (List Dt)} {mo : List Cl → Fd → Md Dt} {n : Nat} {mir : List Cl → List Dt → Mx Dt} {C : Addr} {m : Str} {G B H S H' S' : Hp} {M : Mm} {σ : St} {Δ : Fd}
theorem sp_call {Q : VK} {vs : List V} {ds : List Dt} (s : SM W.K W.T G B H S M σ Δ) (r : RpL ⟨W.K, M.r, M.m⟩ S vs ds) (hn : ds.length = n)
    (w : Wq (mir M.m ds) (fun m' d => ∀ v H' S' r', LeR M.r r' → Ex S S' → SM W.K W.T G B H' S' ⟨r', m'⟩ σ Δ → Rp ⟨W.K, r', m'⟩ S' v d → Q v H') (XM W G B M.r)) : spM W.K W.T W.mg n mir vs H Q W.E :=
  ⟨by rw [r.length]; exact hn, s.s.tb, ds, S, M, s.s.sh, s.s.cl, r, w.mono (fun m' d k v H' rt => by
    obtain ⟨S', r', l, e, s', rp⟩ := s.after rt
    exact k v H' S' r' l e s' rp) fun m' c z => s.xm z⟩
theorem sx_call (h : SndXA W tas mas) : SndX W (tCall (spM W.K W.T W.mg n mir) [] W.E tas) (xCall n mir mas) := by
  intro G B H S M σ Δ Q s w
  refine h G B H S M σ Δ _ s (w.bind.mono (fun m1 ds k vs H1 S1 r1 l e s1 r => ?_) fun _ _ z => z)
  by_cases hn : ds.length = n
  · rw [if_pos hn] at k
    show spM W.K W.T W.mg n mir (vs ++ []) H1 Q W.E
    rw [List.append_nil]
    exact sp_call (M := ⟨r1, m1⟩) s1 r hn (k.mono (fun m2 d k2 v H2 S2 r2 l2 e2 s2 rp => k2 v H2 S2 r2 (l.trans l2) (e.trans e2) s2 rp) fun _ _ z => z.up l)
  · rw [if_neg hn] at k
    exact k.elim
/-- o.m(..), o an object that may be changed or not -/
def xMeth (C : Addr) (nm : Str) (n : Nat) (mir : List Cl → List Dt → Mx Dt) (mo : List Cl → Fd → Md Dt) (ma : List Cl → Fd → Mx (List Dt)) : List Cl → Fd → Mx Dt := fun m Δ => ((mo m Δ).mx m).bind fun m0 d =>
  if (match d with
    | .ins C' ns _ => decide (C' = C) && !hasKey nm ns
    | .loc k => (match m0[k]? with
      | some (.ins C' ns _) => decide (C' = C) && !hasKey nm ns
      | _ => false)
    | _ => false) = true then (ma m0 Δ).bind fun m1 ds => if ds.length + 1 = n then mir m1 (d :: ds) else .bad else .bad
theorem sx_meth (ho : ∀ M, SndE (W.at_ M) .s to (mo M.m)) (h : SndXA W tas mas) : SndX W (tMeth C m (spM W.K W.T W.mg n mir) [] W.E to tas) (xMeth C m n mir mo mas) := by
  intro G B H S M σ Δ Q s w
  refine ho M G B H S σ Δ _ s.s ((mx_w w.bind).mono (fun d q v H1 S1 g r _ => ?_) fun c z => xm_pure s z)
  have r : Rp ⟨W.K, M.r, M.m⟩ S1 v d := r
  have s1 := s.grow g
  have fin : ∀ {a dx : Addr} {fs : List (Str × V)}, v = .ref a → H1 a = some (.ins C dx fs) → fs.lookup m = none → Wq ((mas M.m Δ).bind fun m1 ds => if ds.length + 1 = n then mir m1 (d :: ds) else .bad) (fun m' d => ∀ v H' S' r', LeR M.r r' → Ex S S' → SM W.K W.T G B H' S' ⟨r', m'⟩ σ Δ → Rp ⟨W.K, r', m'⟩ S' v d → Q v H') (XM W G B M.r) → ∃ a dx fs, v = .ref a ∧ H1 a = some (.ins C dx fs) ∧ fs.lookup m = none ∧ tas σ H1 fun vs H2 => spM W.K W.T W.mg n mir (v :: (vs ++ [])) H2 Q W.E := fun {a dx fs} e1 e2 e3 q => by
    refine ⟨a, dx, fs, e1, e2, e3, h G B H1 S1 M σ Δ _ s1 (q.bind.mono (fun m1 ds k vs H2 S2 r1 l e s2 r2 => ?_) fun _ _ z => z)⟩
    by_cases hn : ds.length + 1 = n
    · rw [if_pos hn] at k
      rw [List.append_nil]
      exact sp_call (M := ⟨r1, m1⟩) s2 (.cons (rp_ext l (Rp.mono e r)) r2) hn (k.mono (fun m2 d k2 v H2 S2 r2 l2 e2 s2 rp => k2 v H2 S2 r2 (l.trans l2) ((g.ss.trans e).trans e2) s2 rp) fun _ _ z => z.up l)
    · rw [if_neg hn] at k
      exact k.elim
  have two : ∀ {C' : Addr} {ns : List Str}, (decide (C' = C) && !hasKey m ns) = true → C' = C ∧ hasKey m ns = false := fun {C' ns} h => by
    rw [Bool.and_eq_true, decide_eq_true_eq, Bool.not_eq_true'] at h
    exact h
  cases d with
  | ins C' ns fs =>
    have q0 : Wq (if (decide (C' = C) && !hasKey m ns) = true then (mas M.m Δ).bind fun m1 ds => if ds.length + 1 = n then mir m1 (.ins C' ns fs :: ds) else .bad else .bad) _ _ := q
    by_cases hC : (decide (C' = C) && !hasKey m ns) = true
    · rw [if_pos hC] at q0
      obtain ⟨rfl, hk⟩ := two hC
      cases r with
      | ins h1 r1 => exact fin rfl (s1.s.sh.ins h1) (noKey hk) q0
    · rw [if_neg hC] at q0
      exact q0.elim
  | loc k =>
    have q : Wq (if (match M.m[k]? with
      | some (.ins C' ns _) => decide (C' = C) && !hasKey m ns
      | _ => false) = true then (mas M.m Δ).bind fun m1 ds => if ds.length + 1 = n then mir m1 (.loc k :: ds) else .bad else .bad) _ _ := q
    cases hc : M.m[k]? with
    | none => rw [hc] at q; exact q.elim
    | some c =>
      rw [hc] at q
      cases c with
      | ins C' ns fs =>
        have q0 : Wq (if (decide (C' = C) && !hasKey m ns) = true then (mas M.m Δ).bind fun m1 ds => if ds.length + 1 = n then mir m1 (.loc k :: ds) else .bad else .bad) _ _ := q
        by_cases hC : (decide (C' = C) && !hasKey m ns) = true
        · rw [if_pos hC] at q0
          obtain ⟨rfl, hk⟩ := two hC
          cases r with
          | loc h1 =>
            obtain ⟨_, dx, fs', h2, h3, r2⟩ := s1.s.cl.at_ k _ _ h1 hc
            subst h3
            exact fin rfl h2 (noKey hk) q0
        · rw [if_neg hC] at q0
          exact q0.elim
      | lst _ => exact q.elim
      | dK _ _ => exact q.elim
      | dN _ _ => exact q.elim
  | _ => exact q.elim
/-! ### making -/
/-- a new instance, that may be changed -/
def xMake (C : Addr) (n : Nat) (mir : List Cl → List Dt → Mx Dt) (ma : List Cl → Fd → Mx (List Dt)) : List Cl → Fd → Mx Dt := fun m Δ => (ma m Δ).bind fun m1 ds => if ds.length + 1 = n then (mir (m1 ++ [.ins C [] []]) (.loc m1.length :: ds)).bind fun m2 d => (match d with
  | .non => .ok m2 (.loc m1.length)
  | _ => .bad) else .bad
theorem SM.make (s : SM W.K W.T G B H S M σ Δ) {x dx : Addr} (hx : H x = none) (hd : H dx = none) (hne : dx ≠ x) : SM W.K W.T G B (upd (upd H dx (.own x)) x (.ins C dx [])) S ⟨M.r ++ [x], M.m ++ [.ins C [] []]⟩ σ Δ ∧ (M.r ++ [x])[M.m.length]? = some x := by
  have g1 : Gr H S (upd H dx (.own x)) S := Gr.newO s.s.sh hd
  have hx1 : upd H dx (.own x) x = none := by rw [upd_ne (Ne.symm hne)]; exact hx
  exact ⟨(s.grow g1).fresh hx1 ⟨dx, [], upd_same, rfl, .nil⟩, s.last (c := .ins C [] [])⟩
theorem sx_make (h : SndXA W tas mas) : SndX W (tMake C (spM W.K W.T W.mg n mir) [] W.E tas) (xMake C n mir mas) := by
  intro G B H S M σ Δ Q s w
  refine h G B H S M σ Δ _ s (w.bind.mono (fun m1 ds k vs H1 S1 r1 l e s1 r => ?_) fun _ _ z => z)
  intro x dx hx hd hne
  by_cases hn : ds.length + 1 = n
  · rw [if_pos hn] at k
    obtain ⟨s2, hl⟩ := s1.make (C := C) hx hd hne
    rw [List.append_nil]
    refine sp_call (M := ⟨r1 ++ [x], m1 ++ [.ins C [] []]⟩) s2 (.cons (.loc hl) (rpl_ext LeR.app r)) hn (k.bind.mono (fun m2 d k2 v H2 S2 r2 l2 e2 s3 rp => ?_) fun _ _ z => z.up (l.trans LeR.app))
    cases d with
    | non =>
      cases rp
      exact ⟨rfl, k2 _ H2 S2 r2 ((l.trans LeR.app).trans l2) (e.trans e2) s3 (.loc (l2 _ _ hl))⟩
    | _ => exact k2.elim
  · rw [if_neg hn] at k
    exact k.elim
end
end Mr
/-! Objects that are not changed once they are made. -/
namespace Mr
open PySem L2
/-! ### the same data -/
mutual
def eqD : Dt → Dt → Bool
  | .non, .non => true
  | .bl a, .bl b => decide (a = b)
  | .int a, .int b => decide (a = b)
  | .str a, .str b => decide (a = b)
  | .ty a, .ty b => decide (a = b)
  | .lst a, .lst b => eqDs a b
  | .tup a, .tup b => eqDs a b
  | .lsk a, .lsk b => eqDs a b
  | .tpk a, .tpk b => eqDs a b
  | .dic, .dic => true
  | .dct k a, .dct l b => decide (k = l) && eqDs a b
  | .adr a, .adr b => decide (a = b)
  | .loc a, .loc b => decide (a = b)
  | .ins C n a, .ins D m b => decide (C = D) && decide (n = m) && eqDs a b
  | _, _ => false
def eqDs : List Dt → List Dt → Bool
  | [], [] => true
  | a :: r, b :: s => eqD a b && eqDs r s
  | _, _ => false
end
mutual
theorem eqD_ok : ∀ {a b : Dt}, eqD a b = true → a = b
  | .non, b, h => by cases b <;> simp [eqD] at h ⊢
  | .bl a, b, h => by cases b <;> simp [eqD] at h ⊢; exact h
  | .int a, b, h => by cases b <;> simp [eqD] at h ⊢; exact h
  | .str a, b, h => by cases b <;> simp [eqD] at h ⊢; exact h
  | .ty a, b, h => by cases b <;> simp [eqD] at h ⊢; exact h
  | .dic, b, h => by cases b <;> simp [eqD] at h ⊢
  | .adr a, b, h => by cases b <;> simp [eqD] at h ⊢; exact h
  | .loc a, b, h => by cases b <;> simp [eqD] at h ⊢; exact h
  | .lst a, b, h => by cases b <;> simp [eqD] at h ⊢; exact eqDs_ok h
  | .tup a, b, h => by cases b <;> simp [eqD] at h ⊢; exact eqDs_ok h
  | .lsk a, b, h => by cases b <;> simp [eqD] at h ⊢; exact eqDs_ok h
  | .tpk a, b, h => by cases b <;> simp [eqD] at h ⊢; exact eqDs_ok h
  | .dct k a, b, h => by cases b <;> simp [eqD] at h ⊢; exact ⟨h.1, eqDs_ok h.2⟩
  | .ins C n a, b, h => by cases b <;> simp [eqD] at h ⊢; exact ⟨h.1.1, h.1.2, eqDs_ok h.2⟩
theorem eqDs_ok : ∀ {a b : List Dt}, eqDs a b = true → a = b
  | [], [], _ => rfl
  | [], _ :: _, h => by simp [eqDs] at h
  | _ :: _, [], h => by simp [eqDs] at h
  | a :: r, b :: s, h => by
    rw [eqDs, Bool.and_eq_true] at h
    rw [eqD_ok h.1, eqDs_ok h.2]
end
mutual
theorem eqD_refl : ∀ a : Dt, eqD a a = true
  | .non => by simp [eqD]
  | .bl a => by simp [eqD]
  | .int a => by simp [eqD]
  | .str a => by simp [eqD]
  | .ty a => by simp [eqD]
  | .dic => by simp [eqD]
  | .adr a => by simp [eqD]
  | .loc a => by simp [eqD]
  | .lst a => by rw [eqD]; exact eqDs_refl a
  | .tup a => by rw [eqD]; exact eqDs_refl a
  | .lsk a => by rw [eqD]; exact eqDs_refl a
  | .tpk a => by rw [eqD]; exact eqDs_refl a
  | .dct k a => by rw [eqD, eqDs_refl a]; simp
  | .ins C n a => by rw [eqD, eqDs_refl a]; simp
theorem eqDs_refl : ∀ a : List Dt, eqDs a a = true
  | [] => by simp [eqDs]
  | a :: r => by rw [eqDs, eqD_refl a, eqDs_refl r]; rfl
end
def eqC : Cl → Cl → Bool
  | .lst a, .lst b => eqDs a b
  | .ins C n a, .ins D m b => decide (C = D) && decide (n = m) && eqDs a b
  | .dK k a, .dK l b => decide (k = l) && eqDs a b
  | _, _ => false
def eqCs : List Cl → List Cl → Bool
  | [], [] => true
  | a :: r, b :: s => eqC a b && eqCs r s
  | _, _ => false
theorem eqC_ok : ∀ {a b : Cl}, eqC a b = true → a = b := by
  intro a b h
  cases a <;> cases b <;> simp [eqC] at h ⊢
  · exact eqDs_ok h
  · exact ⟨h.1.1, h.1.2, eqDs_ok h.2⟩
  · exact ⟨h.1, eqDs_ok h.2⟩
theorem eqCs_ok : ∀ {a b : List Cl}, eqCs a b = true → a = b
  | [], [], _ => rfl
  | [], _ :: _, h => by simp [eqCs] at h
  | _ :: _, [], h => by simp [eqCs] at h
  | a :: r, b :: s, h => by
    rw [eqCs, Bool.and_eq_true] at h
    rw [eqC_ok h.1, eqCs_ok h.2]
def noDN : List Cl → Prop
  | [] => True
  | .dN _ _ :: _ => False
  | _ :: r => noDN r
theorem eqCs_refl : ∀ {a : List Cl}, noDN a → eqCs a a = true
  | [], _ => rfl
  | .lst a :: r, h => by rw [eqCs, eqC, eqDs_refl a, eqCs_refl (show noDN r from h)]; rfl
  | .ins C n a :: r, h => by rw [eqCs, eqC, eqDs_refl a, eqCs_refl (show noDN r from h)]; simp
  | .dK k a :: r, h => by rw [eqCs, eqC, eqDs_refl a, eqCs_refl (show noDN r from h)]; simp
  | .dN _ _ :: _, h => h.elim
/-! ### a store without its last thing -/
section
variable {K : PySem.W.Frag} {r : List Addr} {x : Addr} {m m' m0 : List Cl} {H S S0 : Hp}
mutual
theorem rp_down : ∀ {v v0 : V} {d : Dt}, Rp ⟨K, r, m0⟩ S0 v0 d → Rp ⟨K, r ++ [x], m⟩ S v d → Rp ⟨K, r, m'⟩ S v d
  | _, _, _, _, .non => .non
  | _, _, _, _, .bl b => .bl b
  | _, _, _, _, .int i => .int i
  | _, _, _, _, .str z => .str z
  | _, _, _, _, .ty n => .ty n
  | _, _, _, _, .adr a => .adr a
  | _, _, _, _, .dic h => .dic h
  | _, _, _, .lst _ q, .lst h p => .lst h (rpl_down q p)
  | _, _, _, .tup _ q, .tup h p => .tup h (rpl_down q p)
  | _, _, _, .lsk _ q, .lsk h p => .lsk h (rpl_down q p)
  | _, _, _, .tpk _ q, .tpk h p => .tpk h (rpl_down q p)
  | _, _, .ins C ns ds, a, b => by
    cases b with
    | ins h p =>
      rename_i fs
      generalize hn : fs.map (·.1) = ns at a
      cases a with
      | ins h0 q =>
        rw [← hn] 
        exact .ins h (rpl_down q p)
  | _, _, .dct ks ds, a, b => by
    cases b with
    | dct h p =>
      rename_i kvs
      generalize hn : kvs.map (·.1) = ks at a
      cases a with
      | dct h0 q =>
        rw [← hn]
        exact .dct h (rpl_down q p)
  | _, _, .loc n, .loc h0, .loc h => .loc (by
    have h0 : r[n]? = _ := h0
    have h : (r ++ [x])[n]? = _ := h
    rw [List.getElem?_append_left (List.getElem?_eq_some_iff.mp h0).1] at h
    exact h)
theorem rpl_down : ∀ {vs v0 : List V} {ds : List Dt}, RpL ⟨K, r, m0⟩ S0 v0 ds → RpL ⟨K, r ++ [x], m⟩ S vs ds → RpL ⟨K, r, m'⟩ S vs ds
  | _, _, _, _, .nil => .nil
  | _, _, _, .cons q1 q2, .cons p1 p2 => .cons (rp_down q1 p1) (rpl_down q2 p2)
end
theorem cl_down {a : Addr} {c : Cl} {H0 : Hp} {a0 : Addr} (q : ClAt ⟨K, r, m0⟩ H0 S0 a0 c) (p : ClAt ⟨K, r ++ [x], m⟩ H S a c) : ClAt ⟨K, r, m'⟩ H S a c := by
  cases c with
  | lst ds =>
    obtain ⟨vs, h1, r1⟩ := q
    obtain ⟨us, h2, r2⟩ := p
    exact ⟨us, h2, rpl_down r1 r2⟩
  | ins C ns ds =>
    obtain ⟨_, _, _, _, r1⟩ := q
    obtain ⟨dx, fs, h2, h3, r2⟩ := p
    exact ⟨dx, fs, h2, h3, rpl_down r1 r2⟩
  | dK ks ds =>
    obtain ⟨_, _, _, r1⟩ := q
    obtain ⟨kvs, h2, h3, r2⟩ := p
    exact ⟨kvs, h2, h3, rpl_down r1 r2⟩
  | dN ks ds => exact q.elim
end
/-! ### a new instance that isn't changed from here on -/
def mkEnd (C : Addr) (m1 : List Cl) : Mx Dt → Mx Dt
  | .ok m2 .non => if eqCs (m2.take m1.length) m1 = true ∧ m2.length = m1.length + 1 then (match m2[m1.length]? with
    | some (.ins C' ns fs) => if C' = C ∧ nls fs = true then .ok m1 (.ins C ns fs) else .bad
    | _ => .bad) else .bad
  | .exc m2 c => if eqCs (m2.take m1.length) m1 = true then .exc m1 c else .bad
  | _ => .bad
def xMakeF (C : Addr) (n : Nat) (mir : List Cl → List Dt → Mx Dt) (ma : List Cl → Fd → Mx (List Dt)) : List Cl → Fd → Mx Dt := fun m Δ => (ma m Δ).bind fun m1 ds => if ds.length + 1 = n then mkEnd C m1 (mir (m1 ++ [.ins C [] []]) (.loc m1.length :: ds)) else .bad
def mMake (C : Addr) (n : Nat) (mir : List Cl → List Dt → Mx Dt) (ma : Fd → Md (List Dt)) : Fd → Md Dt := fun Δ => (ma Δ).bind fun ds => if ds.length + 1 = n then (match mkEnd C [] (mir [.ins C [] []] (.loc 0 :: ds)) with
  | .ok _ d => .ok d
  | .exc _ c => .exc c
  | .bad => .bad) else .bad
section
variable {W : Wm} {tas : TA} {mas : List Cl → Fd → Mx (List Dt)} {n : Nat} {mir : List Cl → List Dt → Mx Dt} {C : Addr} {G B H S H' S' : Hp} {M : Mm} {σ : St} {Δ : Fd}
theorem take_eq {m2 m1 : List Cl} (h : m2.take m1.length = m1) : ∀ {j : Nat}, j < m1.length → m2[j]? = m1[j]? := fun {j} hj => by
  have : (m2.take m1.length)[j]? = m2[j]? := List.getElem?_take_of_lt hj
  rw [← this, h]
/-- the store ahead, in the state behind -/
theorem sto_back {K : PySem.W.Frag} {r1 r2 : List Addr} {m1 m2 : List Cl} {x : Addr} {H1 S1 H2 S2 : Hp} (s1 : Sto ⟨K, r1, m1⟩ H1 S1) (s2 : Sto ⟨K, r2, m2⟩ H2 S2) (l : LeR (r1 ++ [x]) r2) (hm : m2.take m1.length = m1) (hl : m2.length = m1.length + 1) : r2 = r1 ++ [x] ∧ Sto ⟨K, r1, m1⟩ H2 S2 := by
  have e1 : m1.length = r1.length := s1.len
  have e2 : m2.length = r2.length := s2.len
  have er : r2 = r1 ++ [x] := by
    apply List.ext_getElem?
    intro j
    by_cases hj : j < (r1 ++ [x]).length
    · rw [List.getElem?_eq_getElem hj]
      exact l j _ (List.getElem?_eq_getElem hj)
    · have hq : (r1 ++ [x]).length = r1.length + 1 := by simp
      rw [List.getElem?_eq_none (by omega), List.getElem?_eq_none (by omega)]
  refine ⟨er, e1, s1.nd, fun j a c h1 h2 => ?_⟩
  have h1 : r1[j]? = some a := h1
  have h2 : m1[j]? = some c := h2
  have hj := (List.getElem?_eq_some_iff.mp h2).1
  obtain ⟨_, q⟩ := s1.at_ j a c h1 h2
  obtain ⟨k1, k2⟩ := s2.at_ j a c (l j a (LeR.app j a h1)) (by
    show m2[j]? = some c
    rw [take_eq hm hj]
    exact h2)
  subst er
  exact ⟨k1, cl_down q k2⟩
/-- .. on an error -/
theorem sto_backE {K : PySem.W.Frag} {r1 r2 : List Addr} {m1 m2 : List Cl} {H1 S1 H2 S2 : Hp} (s1 : Sto ⟨K, r1, m1⟩ H1 S1) (s2 : Sto ⟨K, r2, m2⟩ H2 S2) (l : LeR r1 r2) (hm : m2.take m1.length = m1) : Sto ⟨K, r1, m1⟩ H2 S2 := by
  have e1 : m1.length = r1.length := s1.len
  refine ⟨e1, s1.nd, fun j a c h1 h2 => ?_⟩
  have h1 : r1[j]? = some a := h1
  have h2 : m1[j]? = some c := h2
  have hj := (List.getElem?_eq_some_iff.mp h2).1
  obtain ⟨_, q⟩ := s1.at_ j a c h1 h2
  obtain ⟨k1, k2⟩ := s2.at_ j a c (l j a h1) (by
    show m2[j]? = some c
    rw [take_eq hm hj]
    exact h2)
  refine ⟨k1, ?_⟩
  -- the larger store's things are read by the smaller one
  have key : ∀ (t : List Addr) {vs v0 : List V} {ds : List Dt}, RpL ⟨K, r1, m1⟩ S1 v0 ds → RpL ⟨K, r1 ++ t, m2⟩ S2 vs ds → RpL ⟨K, r1, m1⟩ S2 vs ds := by
    intro t
    generalize hn : t.length = n
    induction n generalizing t with
    | zero =>
      have : t = [] := List.length_eq_zero_iff.mp hn
      subst this
      intro vs v0 ds q p
      rw [List.append_nil] at p
      exact rpl_ext LeR.refl p
    | succ n ih =>
      intro vs v0 ds q p
      obtain ⟨t0, x, rfl⟩ : ∃ t0 x, t = t0 ++ [x] := by
        refine ⟨t.dropLast, t.getLast (fun z => by simp [z] at hn), ?_⟩
        exact (List.dropLast_concat_getLast _).symm
      rw [List.length_append] at hn
      have ht : t0.length = n := by simpa using hn
      refine ih t0 ht q ?_
      rw [← List.append_assoc] at p
      exact rpl_down (m0 := m1) (S0 := S1) (rpl_ext LeR.app q) p
  have er : ∃ t, r2 = r1 ++ t := by
    refine ⟨r2.drop r1.length, ?_⟩
    have : r2.take r1.length = r1 := by
      apply List.ext_getElem?
      intro i
      by_cases hi : i < r1.length
      · rw [List.getElem?_take_of_lt hi, List.getElem?_eq_getElem hi]
        exact l i _ (List.getElem?_eq_getElem hi)
      · rw [List.getElem?_eq_none (by rw [List.length_take]; omega), List.getElem?_eq_none (by omega)]
    have e := (List.take_append_drop r1.length r2).symm
    rw [this] at e
    exact e
  obtain ⟨t, rfl⟩ := er
  cases c with
  | lst ds =>
    obtain ⟨_, _, q1⟩ := q
    obtain ⟨us, h2, q2⟩ := k2
    exact ⟨us, h2, key t q1 q2⟩
  | ins C ns ds =>
    obtain ⟨_, _, _, _, q1⟩ := q
    obtain ⟨dx, fs, h2, h3, q2⟩ := k2
    exact ⟨dx, fs, h2, h3, key t q1 q2⟩
  | dK ks ds =>
    obtain ⟨_, _, _, q1⟩ := q
    obtain ⟨kvs, h2, h3, q2⟩ := k2
    exact ⟨kvs, h2, h3, key t q1 q2⟩
  | dN ks ds => exact q.elim
theorem mkEnd_ok {C : Addr} {m1 m2 : List Cl} {d : Dt} {p : List Cl → Dt → Prop} {ex : List Cl → Str → Prop} (w : Wq (mkEnd C m1 (.ok m2 d)) p ex) : d = .non ∧ m2.take m1.length = m1 ∧ m2.length = m1.length + 1 ∧ ∃ ns fs, m2[m1.length]? = some (.ins C ns fs) ∧ nls fs = true ∧ p m1 (.ins C ns fs) := by
  cases d with
  | non =>
    have w : Wq (if eqCs (m2.take m1.length) m1 = true ∧ m2.length = m1.length + 1 then (match m2[m1.length]? with
      | some (.ins C' ns fs) => if C' = C ∧ nls fs = true then Mx.ok m1 (Dt.ins C ns fs) else .bad
      | _ => .bad) else .bad) p ex := w
    by_cases h : eqCs (m2.take m1.length) m1 = true ∧ m2.length = m1.length + 1
    · rw [if_pos h] at w
      refine ⟨rfl, eqCs_ok h.1, h.2, ?_⟩
      cases q : m2[m1.length]? with
      | none => rw [q] at w; exact w.elim
      | some c =>
        rw [q] at w
        cases c with
        | ins C' ns fs =>
          have w : Wq (if C' = C ∧ nls fs = true then Mx.ok m1 (Dt.ins C ns fs) else .bad) p ex := w
          by_cases h2 : C' = C ∧ nls fs = true
          · rw [if_pos h2] at w
            obtain ⟨rfl, h3⟩ := h2
            exact ⟨ns, fs, rfl, h3, w⟩
          · rw [if_neg h2] at w
            exact w.elim
        | _ => exact w.elim
    · rw [if_neg h] at w
      exact w.elim
  | _ => exact w.elim
theorem mkEnd_exc {C : Addr} {m1 m2 : List Cl} {c : Str} {p : List Cl → Dt → Prop} {ex : List Cl → Str → Prop} (w : Wq (mkEnd C m1 (.exc m2 c)) p ex) : m2.take m1.length = m1 ∧ ex m1 c := by
  have w : Wq (if eqCs (m2.take m1.length) m1 = true then Mx.exc m1 c else .bad) p ex := w
  by_cases h : eqCs (m2.take m1.length) m1 = true
  · rw [if_pos h] at w
    exact ⟨eqCs_ok h, w⟩
  · rw [if_neg h] at w
    exact w.elim
/-- what is made may be shared -/
theorem made_share {K : PySem.W.Frag} {r1 : List Addr} {m1 m2 : List Cl} {x : Addr} {ns : List Str} {fs : List Dt} (st : Sto ⟨K, r1 ++ [x], m2⟩ H S) (e1 : m1.length = r1.length) (h : m2[m1.length]? = some (.ins C ns fs)) (hn : nls fs = true) (x3 : Ex S H) :
    ∃ o, H x = some o ∧ S x = none ∧ (∀ ps, o ≠ .tbl ps) ∧ ∀ S3 : Hp, Ex S S3 → S3 x = some o → Rp ⟨K, r1, m1⟩ S3 (.ref x) (.ins C ns fs) := by
  have hx : (r1 ++ [x])[m1.length]? = some x := by
    rw [e1, List.getElem?_append_right (Nat.le_refl _), Nat.sub_self]
    rfl
  obtain ⟨k1, dx, us, k2, k3, k4⟩ := st.at_ _ x _ hx h
  refine ⟨_, k2, k1, (fun _ z => by cases z), fun S3 e h3 => ?_⟩
  subst k3
  exact .ins h3 (RpL.nl (K := ⟨K, r1 ++ [x], m2⟩) (K' := ⟨K, r1, m1⟩) rfl (RpL.mono e k4) hn)
theorem ex_share {S H : Hp} (h : Ex S H) {p : Addr} {o : HO} (e : H p = some o) : Ex (upd S p o) H := by
  refine ⟨fun b u q k => ?_, fun P ps q => ?_⟩
  · by_cases hb : b = p
    · rw [hb, upd_same] at q
      rw [hb, e]
      exact q
    · rw [upd_ne hb] at q
      exact h.same b u q k
  · by_cases hb : P = p
    · rw [hb, upd_same] at q
      cases q
      exact ⟨ps, hb ▸ e, fun t => t⟩
    · rw [upd_ne hb] at q
      exact h.tabs P ps q
theorem sx_makeF (h : SndXA W tas mas) : SndX W (tMake C (spM W.K W.T W.mg n mir) [] W.E tas) (xMakeF C n mir mas) := by
  intro G B H S M σ Δ Q s w
  refine h G B H S M σ Δ _ s (w.bind.mono (fun m1 ds k vs H1 S1 r1 l e s1 r => ?_) fun _ _ z => z)
  intro x dx hx hd hne
  by_cases hn : ds.length + 1 = n
  · rw [if_pos hn] at k
    obtain ⟨s2, hl⟩ := s1.make (C := C) hx hd hne
    rw [List.append_nil]
    refine sp_call (M := ⟨r1 ++ [x], m1 ++ [.ins C [] []]⟩) s2 (.cons (.loc hl) (rpl_ext LeR.app r)) hn ?_
    have gx : G x = none := s1.s.gh.free hx
    cases hm : mir (m1 ++ [.ins C [] []]) (.loc m1.length :: ds) with
    | bad =>
      rw [hm] at k
      exact k.elim
    | exc m2 c =>
      rw [hm] at k
      obtain ⟨ht, k⟩ := mkEnd_exc k
      obtain ⟨Cc, hC, k⟩ := k
      exact ⟨Cc, hC, fun H' S' r' l' e1 e2 e3 fr st nw => k H' S' r1 l e1 e2 e3 fr (sto_backE s1.s.cl st (LeR.app.trans l') ht) fun a ha => nw a (l'.mem (List.mem_append_left _ ha))⟩
    | ok m2 d =>
      rw [hm] at k
      obtain ⟨rfl, ht, hlen, ns, fs, hc, hnl, k⟩ := mkEnd_ok k
      intro v H2 S2 r2 l2 e2 s3 rp
      cases rp
      refine ⟨rfl, ?_⟩
      obtain ⟨rfl, st⟩ := sto_back s1.s.cl s3.s.cl l2 ht hlen
      obtain ⟨o, h1, h2, h3, h4⟩ := made_share (m1 := m1) s3.s.cl s1.s.cl.len hc hnl s3.s.sh
      have x2 : Ex S2 (upd S2 x o) := Ex.new h2
      have nx : ∀ {a : Addr}, a ∈ r1 → a ≠ x := fun {a} ha z => by
        obtain ⟨o', e', _⟩ := s1.s.cl.has (K := ⟨W.K, r1, m1⟩) ha
        rw [z, hx] at e'
        cases e'
      refine k _ H2 (upd S2 x o) r1 l ((e.trans e2).trans x2) ⟨⟨s3.s.len, s3.s.gh, s3.s.bg, s3.s.bs.trans x2, ex_share s3.s.sh h1, fun b hb z => ?_, s3.s.tb, fun i d q => ?_, fun i es q => ?_, s3.s.nd, ⟨st.len, st.nd, fun j a c q1 q2 => ?_⟩, s1.s.co⟩, s1.g⟩ (h4 _ x2 upd_same)
      · rw [upd_ne (show b ≠ x from fun y => hb (by rw [y]; exact gx))]
        exact s3.s.fr b hb z
      · obtain ⟨v, e', q⟩ := s1.s.shd i d q
        exact ⟨v, e', (q.mono e2).mono x2⟩
      · obtain ⟨a, us, e', k1, k2, k3, k4⟩ := s3.s.own i es q
        obtain ⟨a', us', e'', _, _, k3', k4'⟩ := s1.s.own i es q
        rw [e'] at e''
        cases e''
        have na : a ≠ x := fun z => by
          rw [z, hx] at k3'
          cases k3'
        exact ⟨a, us, e', k1, by rw [upd_ne na]; exact k2, k3, RpL.mono x2 (rpl_down k4' k4)⟩
      · obtain ⟨q3, q4⟩ := st.at_ j a c q1 q2
        exact ⟨by rw [upd_ne (nx (List.mem_of_getElem? q1))]; exact q3, q4.grow rfl x2⟩
  · rw [if_neg hn] at k
    exact k.elim
theorem snd_make {ma : Fd → Md (List Dt)} (h : SndA (W.at_ M0) .s tas ma) : SndE (W.at_ M0) .s (tMake C (spM W.K W.T W.mg n mir) [] W.E tas) (mMake C n mir ma) := by
  intro G B H S σ Δ Q s w
  refine h G B H S σ Δ _ s (w.bind.mono (fun ds k vs H1 S1 g r => ?_) fun _ z => z)
  intro x dx hx hd hne
  have s1 := s.grow g
  have r : RpL (k0 W.K) S1 vs ds := r
  by_cases hn : ds.length + 1 = n
  · rw [if_pos hn] at k
    have g1 : Gr H1 S1 (upd H1 dx (.own x)) S1 := Gr.newO g.sh hd
    have hx1 : upd H1 dx (.own x) x = none := by rw [upd_ne (Ne.symm hne)]; exact hx
    have g2 : Gr H1 S1 (upd (upd H1 dx (.own x)) x (.ins C dx [])) S1 := g1.trans (Gr.newO g1.sh hx1)
    have st : Sto ⟨W.K, [x], [.ins C [] []]⟩ (upd (upd H1 dx (.own x)) x (.ins C dx [])) S1 := (sto0 (K := W.K)).more (r := []) (m := []) (by simp) (g.sh.free hx) ⟨dx, [], upd_same, rfl, .nil⟩
    have hb : Ex H1 (bareR [x] (upd (upd H1 dx (.own x)) x (.ins C dx []))) := ex_bareR g2.hh fun a ha => by
      have : a = x := by simpa using ha
      rw [this]
      exact hx
    rw [List.append_nil]
    refine ⟨by rw [List.length_cons, r.length]; exact hn, fun P hP => (s1.grow g2).tb P hP, .loc 0 :: ds, S1, ⟨[x], [.ins C [] []]⟩, g2.sh, st, .cons (.loc rfl) (rpl_ext (r := []) (m := []) (fun n a h => by cases h) r), ?_⟩
    show Wq (mir [.ins C [] []] (.loc 0 :: ds)) _ _
    cases hm : mir [.ins C [] []] (.loc 0 :: ds) with
    | bad =>
      rw [hm] at k
      exact k.elim
    | exc m2 c =>
      rw [hm] at k
      have k : Wp (match mkEnd C [] (.exc m2 c) with
        | .ok _ d => Md.ok d
        | .exc _ c => .exc c
        | .bad => .bad) _ (XW W.mg W.E H) := k
      have e : mkEnd C [] (.exc m2 c) = .exc [] c := by
        show (if eqCs (m2.take 0) [] = true then Mx.exc [] c else .bad) = _
        rw [List.take_zero]
        rfl
      rw [e] at k
      obtain ⟨Cc, hC, k⟩ := k
      exact ⟨Cc, hC, fun H' S' r' l' e1 e2 e3 fr st nw => k H' (g.hh.trans (hb.trans e1))⟩
    | ok m2 d =>
      rw [hm] at k
      have k : Wp (match mkEnd C [] (.ok m2 d) with
        | .ok _ d => Md.ok d
        | .exc _ c => .exc c
        | .bad => .bad) (fun d => ∀ v H' S', Gr H S H' S' → Hd (k0 W.K) .s H' S' v d → Nw .s H v → Q v H') (XW W.mg W.E H) := k
      have k2 : Wq (mkEnd C [] (.ok m2 d)) (fun _ d => ∀ v H' S', Gr H S H' S' → Hd (k0 W.K) .s H' S' v d → Nw .s H v → Q v H') (fun _ c => XW W.mg W.E H c) := by
        cases q : mkEnd C [] (.ok m2 d) with
        | ok _ d => rw [q] at k; exact k
        | exc _ c => rw [q] at k; exact k
        | bad => rw [q] at k; exact k
      obtain ⟨rfl, _, hlen, ns, fs, hc, hnl, k⟩ := mkEnd_ok k2
      intro v H2 rt
      obtain ⟨S2, r2, l2, e1, e2, e3, fr, st2, nw, rp⟩ := rt
      cases rp
      refine ⟨rfl, ?_⟩
      obtain ⟨rfl, _⟩ := sto_back (sto0 (K := W.K) (H := H1) (S := S1)) st2 l2 (by simp) hlen
      obtain ⟨o, h1, h2, h3, h4⟩ := made_share (r1 := []) (m1 := []) st2 rfl hc hnl e3
      have x2 : Ex S2 (upd S2 x o) := Ex.new h2
      refine k _ H2 (upd S2 x o) (g.trans ⟨hb.trans e1, e2.trans x2, ex_share e3 h1, fun b hb' z => ?_⟩) (h4 _ x2 upd_same) trivial
      rw [upd_ne (show b ≠ x from fun y => hb' (by rw [y]; exact hx))]
      exact fr b (hb.ne hb') z
  · rw [if_neg hn] at k
    exact k.elim
end
end Mr
/-! Changes; loops over what may be changed. -/
namespace Mr
open PySem L2
/-! ### methods that change a list -/
/-- a method of no argument: what it makes of the list, what it answers -/
def LM0 (r : V → List V → Hp → VK → Prop) (f : List Dt → Option (List Dt × Dt)) : Prop := ∀ (K : Kx) (H S : Hp) (a : Addr) (vs : List V) (ds es : List Dt) (d : Dt) (Q : VK), H a = some (.lst vs) → RpL K S vs ds → f ds = some (es, d) →
  (∀ us v, RpL K S us es → Rp K S v d → Q v (upd H a (.lst us))) → r (.ref a) [] H Q
def LM1 (r : V → List V → Hp → VK → Prop) (f : List Dt → Dt → Option (List Dt × Dt)) : Prop := ∀ (K : Kx) (H S : Hp) (a : Addr) (vs : List V) (ds es : List Dt) (y : V) (b d : Dt) (Q : VK), H a = some (.lst vs) → RpL K S vs ds → Rp K S y b → f ds b = some (es, d) →
  (∀ us v, RpL K S us es → Rp K S v d → Q v (upd H a (.lst us))) → r (.ref a) [y] H Q
def fClear : List Dt → Option (List Dt × Dt) := fun _ => some ([], .non)
def fRev : List Dt → Option (List Dt × Dt) := fun ds => some (ds.reverse, .non)
def fPop : List Dt → Option (List Dt × Dt) := fun ds => match ds[ds.length - 1]? with
  | some d => some (ds.dropLast, d)
  | none => none
def fApp : List Dt → Dt → Option (List Dt × Dt) := fun ds d => if ds.length < 16777216 then some (ds ++ [d], .non) else none
def fPopAt : List Dt → Dt → Option (List Dt × Dt) := fun ds d => match d with
  | .int k => if -(2 ^ 63) ≤ k ∧ k < 2 ^ 63 then (match seqIndex? k ds.length with
    | some j => (match ds[j]? with
      | some y => some (ds.eraseIdx j, y)
      | none => none)
    | none => none) else none
  | _ => none
theorem lm_clear : LM0 rClear fClear := fun K H S a vs ds es d Q h r e k => by
  cases e
  exact ⟨a, vs, rfl, rfl, h, k _ _ .nil .non⟩
theorem lm_rev : LM0 rReverse fRev := fun K H S a vs ds es d Q h r e k => by
  cases e
  exact ⟨a, vs, rfl, rfl, h, k _ _ r.rev .non⟩
theorem RpL.dropLast {K : Kx} {H : Hp} {vs : List V} {ds : List Dt} (r : RpL K H vs ds) : RpL K H vs.dropLast ds.dropLast := by
  rw [List.dropLast_eq_take, List.dropLast_eq_take, r.length]
  exact r.take _
theorem lm_pop : LM0 rPop fPop := fun K H S a vs ds es d Q h r e k => by
  unfold fPop at e
  cases q : ds[ds.length - 1]? with
  | none => rw [q] at e; cases e
  | some y =>
    rw [q] at e
    cases e
    obtain ⟨v, hv, rv⟩ := r.at q
    exact ⟨a, vs, v, rfl, rfl, h, by rw [r.length]; exact hv, k _ _ r.dropLast rv⟩
theorem lm_app : LM1 rAppend fApp := fun K H S a vs ds es y b d Q h r ry e k => by
  unfold fApp at e
  by_cases hl : ds.length < 16777216
  · rw [if_pos hl] at e
    cases e
    exact ⟨a, vs, y, rfl, rfl, h, lt_line (by rw [r.length]; exact hl), k _ _ (r.app (.one ry)) .non⟩
  · rw [if_neg hl] at e
    cases e
theorem lm_popAt : LM1 rPopAt fPopAt := fun K H S a vs ds es y b d Q h r ry e k => by
  unfold fPopAt at e
  cases b with
  | int z =>
    have e : (if -(2 ^ 63) ≤ z ∧ z < 2 ^ 63 then (match seqIndex? z ds.length with
      | some j => (match ds[j]? with
        | some y => some (ds.eraseIdx j, y)
        | none => none)
      | none => none) else none) = some (es, d) := e
    by_cases hz : -(2 ^ 63) ≤ z ∧ z < 2 ^ 63
    · rw [if_pos hz] at e
      cases q : seqIndex? z ds.length with
      | none => rw [q] at e; cases e
      | some j =>
        rw [q] at e
        have e : (match ds[j]? with
          | some y => some (ds.eraseIdx j, y)
          | none => none) = some (es, d) := e
        cases q2 : ds[j]? with
        | none => rw [q2] at e; cases e
        | some x =>
          rw [q2] at e
          cases e
          obtain ⟨v, hv, rv⟩ := r.at q2
          cases ry
          exact ⟨a, vs, z, j, v, rfl, rfl, h, hz.1, hz.2, by rw [r.length]; exact q, hv, k _ _ (r.erase j) rv⟩
    · rw [if_neg hz] at e
      cases e
  | _ => cases e
def xM0 (f : List Dt → Option (List Dt × Dt)) (mo : List Cl → Fd → Md Dt) : List Cl → Fd → Mx Dt := fun m Δ => ((mo m Δ).mx m).bind fun m0 d => match d with
  | .loc n => (match m0[n]? with
    | some (.lst ds) => (match f ds with
      | some (es, y) => .ok (m0.set n (.lst es)) y
      | none => .bad)
    | _ => .bad)
  | _ => .bad
def xM1 (f : List Dt → Dt → Option (List Dt × Dt)) (mo : List Cl → Fd → Md Dt) (ma : List Cl → Fd → Mx Dt) : List Cl → Fd → Mx Dt := fun m Δ => ((mo m Δ).mx m).bind fun m0 d => match d with
  | .loc n => (match m0[n]? with
    | some (.lst _) => (ma m0 Δ).bind fun m1 b => (match m1[n]? with
      | some (.lst ds) => (match f ds b with
        | some (es, y) => .ok (m1.set n (.lst es)) y
        | none => .bad)
      | _ => .bad)
    | _ => .bad)
  | _ => .bad
/-- xs.extend(ys) -/
def xExt (mo : List Cl → Fd → Md Dt) (ma : List Cl → Fd → Md Dt) : List Cl → Fd → Mx Dt := fun m Δ => ((mo m Δ).mx m).bind fun m0 d => match d with
  | .loc n => (match m0[n]? with
    | some (.lst ds) => ((ma m0 Δ).mx m0).bind fun m1 b => (match b with
      | .lst es => if ds.length + es.length ≤ 16777216 then .ok (m1.set n (.lst (ds ++ es))) .non else .bad
      | _ => .bad)
    | _ => .bad)
  | _ => .bad
section
variable {W : Wm} {to ta : TE} {mo : List Cl → Fd → Md Dt} {ma : List Cl → Fd → Mx Dt} {G B H S H' S' : Hp} {M : Mm} {σ : St} {Δ : Fd}
theorem SM.lst (s : SM W.K W.T G B H S M σ Δ) {n : Nat} {a : Addr} {ds : List Dt} (h : M.m[n]? = some (.lst ds)) (ha : M.r[n]? = some a) : ∃ vs, H a = some (.lst vs) ∧ RpL ⟨W.K, M.r, M.m⟩ S vs ds := by
  obtain ⟨_, vs, h2, r2⟩ := s.s.cl.at_ n a _ ha h
  exact ⟨vs, h2, r2⟩
/-- a list changes -/
theorem SM.putL (s : SM W.K W.T G B H S M σ Δ) {n : Nat} {a : Addr} {us : List V} {es : List Dt} (ha : M.r[n]? = some a) (r : RpL ⟨W.K, M.r, M.m⟩ S us es) : SM W.K W.T G B (upd H a (.lst us)) S ⟨M.r, M.m.set n (.lst es)⟩ σ Δ :=
  s.put (fun _ z => by cases z) ha ⟨us, upd_same, rpl_ext LeR.refl r⟩
theorem sx_m0 {r : V → List V → Hp → VK → Prop} {f : List Dt → Option (List Dt × Dt)} (hr : LM0 r f) (ho : ∀ M, SndE (W.at_ M) .s to (mo M.m)) : SndX W (tBM0 W.K "list" r to) (xM0 f mo) := by
  intro G B H S M σ Δ Q s w
  refine ho M G B H S σ Δ _ s.s ((mx_w w.bind).mono (fun d q v H1 S1 g rv _ => ?_) fun c z => xm_pure s z)
  have s1 := s.grow g
  cases d with
  | loc n =>
    cases hc : M.m[n]? with
    | none => simp only [hc] at q; exact q.elim
    | some c =>
      simp only [hc] at q
      cases c with
      | lst ds =>
        cases rv with
        | loc ha =>
          obtain ⟨vs, h2, r2⟩ := s1.lst hc ha
          refine ⟨.inl ⟨rfl, vs, .of h2⟩, ?_⟩
          have q : Wq (match f ds with
            | some (es, y) => Mx.ok (M.m.set n (.lst es)) y
            | none => .bad) _ _ := q
          cases hf : f ds with
          | none => simp only [hf] at q; exact q.elim
          | some p =>
            obtain ⟨es, y⟩ := p
            simp only [hf] at q
            exact hr ⟨W.K, M.r, M.m⟩ H1 S1 _ vs ds es y Q h2 r2 hf fun us v ru rv => q v _ S1 M.r LeR.refl g.ss (s1.putL ha ru) (rp_ext LeR.refl rv)
      | _ => exact q.elim
  | _ => exact q.elim
theorem sx_m1 {r : V → List V → Hp → VK → Prop} {f : List Dt → Dt → Option (List Dt × Dt)} (hr : LM1 r f) (ho : ∀ M, SndE (W.at_ M) .s to (mo M.m)) (ha : SndX W ta ma) : SndX W (tBM W.K "list" r to (tCons ta tNil)) (xM1 f mo ma) := by
  intro G B H S M σ Δ Q s w
  refine ho M G B H S σ Δ _ s.s ((mx_w w.bind).mono (fun d q v H1 S1 g rv _ => ?_) fun c z => xm_pure s z)
  have s1 := s.grow g
  cases d with
  | loc n =>
    cases hc : M.m[n]? with
    | none => simp only [hc] at q; exact q.elim
    | some c =>
      simp only [hc] at q
      cases c with
      | lst ds0 =>
        cases rv with
        | loc hn =>
          obtain ⟨vs, h2, r2⟩ := s1.lst hc hn
          refine ⟨.inl ⟨rfl, vs, .of h2⟩, ?_⟩
          refine ha G B H1 S1 M σ Δ _ s1 (q.bind.mono (fun m1 b q y H2 S2 r1 l e s2 ry => ?_) fun _ _ z => z)
          cases hc2 : m1[n]? with
          | none => simp only [hc2] at q; exact q.elim
          | some c2 =>
            simp only [hc2] at q
            cases c2 with
            | lst ds =>
              have hn2 := l _ _ hn
              obtain ⟨us, h3, r3⟩ := SM.lst (M := ⟨r1, m1⟩) s2 hc2 hn2
              cases hf : f ds b with
              | none => simp only [hf] at q; exact q.elim
              | some p =>
                obtain ⟨es, z⟩ := p
                simp only [hf] at q
                exact hr ⟨W.K, r1, m1⟩ H2 S2 _ us ds es y b z Q h3 r3 ry hf fun us v ru rv => q v _ S2 r1 l (g.ss.trans e) (SM.putL (M := ⟨r1, m1⟩) s2 hn2 ru) (rp_ext LeR.refl rv)
            | _ => exact q.elim
      | _ => exact q.elim
  | _ => exact q.elim
theorem sx_ext {ma : List Cl → Fd → Md Dt} (ho : ∀ M, SndE (W.at_ M) .s to (mo M.m)) (ha : ∀ M, SndE (W.at_ M) .l ta (ma M.m)) : SndX W (tBM W.K "list" rExtend to (tCons ta tNil)) (xExt mo ma) := by
  intro G B H S M σ Δ Q s w
  refine ho M G B H S σ Δ _ s.s ((mx_w w.bind).mono (fun d q v H1 S1 g rv _ => ?_) fun c z => xm_pure s z)
  have s1 := s.grow g
  cases d with
  | loc n =>
    cases hc : M.m[n]? with
    | none => simp only [hc] at q; exact q.elim
    | some c =>
      simp only [hc] at q
      cases c with
      | lst ds =>
        cases rv with
        | loc hn =>
          obtain ⟨vs, h2, r2⟩ := s1.lst hc hn
          refine ⟨.inl ⟨rfl, vs, .of h2⟩, ?_⟩
          refine ha M G B H1 S1 σ Δ _ s1.s ((mx_w q.bind).mono (fun b q y H2 S2 g2 ry _ => ?_) fun c z => xm_pure s1 z)
          have s2 := s1.grow g2
          obtain ⟨p, us, es, rfl, rfl, h3, r3⟩ := ry
          have q : Wq (if ds.length + es.length ≤ 16777216 then Mx.ok (M.m.set n (.lst (ds ++ es))) Dt.non else .bad) _ _ := q
          by_cases hl : ds.length + es.length ≤ 16777216
          · rw [if_pos hl] at q
            exact ⟨_, p, vs, us, rfl, rfl, g2.hh.lst h2, h3, by rw [r2.length, r3.length, sizeLine_eq]; exact hl, q _ _ S2 M.r LeR.refl (g.ss.trans g2.ss) (s2.putL hn ((RpL.mono g2.ss r2).app r3)) .non⟩
          · rw [if_neg hl] at q
            exact q.elim
      | _ => exact q.elim
  | _ => exact q.elim
/-! ### fields stored -/
def putN (f : Str) : List Str → List Str
  | [] => [f]
  | n :: r => if n = f then n :: r else n :: putN f r
def putD (f : Str) (d : Dt) : List Str → List Dt → List Dt
  | [], _ => [d]
  | n :: ns, x :: ds => if n = f then d :: ds else x :: putD f d ns ds
  | _ :: _, [] => []
theorem putF_ok {K : Kx} {S : Hp} {f : Str} {v : V} {d : Dt} (r : Rp K S v d) : ∀ {fs : List (Str × V)} {ds : List Dt}, RpL K S (fs.map (·.2)) ds → (putF f v fs).map (·.1) = putN f (fs.map (·.1)) ∧ RpL K S ((putF f v fs).map (·.2)) (putD f d (fs.map (·.1)) ds)
  | [], _, .nil => ⟨rfl, .cons r .nil⟩
  | (n, x) :: fs, d0 :: ds, .cons h1 h2 => by
    by_cases z : n = f
    · have e : putF f v ((n, x) :: fs) = (n, v) :: fs := by rw [putF, if_pos z]
      have e2 : putN f (((n, x) :: fs).map (·.1)) = n :: fs.map (·.1) := by
        show putN f (n :: fs.map (·.1)) = _
        rw [putN, if_pos z]
      have e3 : putD f d (((n, x) :: fs).map (·.1)) (d0 :: ds) = d :: ds := by
        show putD f d (n :: fs.map (·.1)) (d0 :: ds) = _
        rw [putD, if_pos z]
      rw [e, e2, e3]
      exact ⟨rfl, .cons r h2⟩
    · obtain ⟨k1, k2⟩ := putF_ok r h2
      have e : putF f v ((n, x) :: fs) = (n, x) :: putF f v fs := by rw [putF, if_neg z]
      have e2 : putN f (((n, x) :: fs).map (·.1)) = n :: putN f (fs.map (·.1)) := by
        show putN f (n :: fs.map (·.1)) = _
        rw [putN, if_neg z]
      have e3 : putD f d (((n, x) :: fs).map (·.1)) (d0 :: ds) = d0 :: putD f d (fs.map (·.1)) ds := by
        show putD f d (n :: fs.map (·.1)) (d0 :: ds) = _
        rw [putD, if_neg z]
      rw [e, e2, e3]
      exact ⟨congrArg (n :: ·) k1, .cons h1 k2⟩
def xFldS (C : Addr) (f : Str) (ma : List Cl → Fd → Mx Dt) (mo : List Cl → Fd → Md Dt) : List Cl → Fd → Mx Out := fun m Δ => (ma m Δ).bind fun m1 d => ((mo m1 Δ).mx m1).bind fun m2 x => match x with
  | .loc n => (match m2[n]? with
    | some (.ins C' ns ds) => if C' = C ∧ ns.length < 1000 then .ok (m2.set n (.ins C (putN f ns) (putD f d ns ds))) (.nx Δ) else .bad
    | _ => .bad)
  | _ => .bad
theorem sxs_fld {C : Addr} {f : Str} (hc : Cls W.K C) (hf : NoAttr W.K C f) (ha : SndX W ta ma) (ho : ∀ M, SndE (W.at_ M) .s to (mo M.m)) : SndXS W (sFld W.K to ta f) (xFldS C f ma mo) := by
  intro G B H S M σ Δ D s w
  refine ha G B H S M σ Δ _ s (w.bind.mono (fun m1 d q v H1 S1 r1 l e s1 rv => ?_) fun _ _ z => z)
  refine ho ⟨r1, m1⟩ G B H1 S1 σ Δ _ s1.s ((mx_w q.bind).mono (fun x q y H2 S2 g ry _ => ?_) fun c z => xm_pure (M := ⟨r1, m1⟩) s1 (z.up l))
  have s2 := s1.grow g
  cases x with
  | loc n =>
    cases hm : m1[n]? with
    | none => simp only [hm] at q; exact q.elim
    | some c =>
      simp only [hm] at q
      cases c with
      | ins C' ns ds =>
        have q : Wq (if C' = C ∧ ns.length < 1000 then Mx.ok (m1.set n (.ins C (putN f ns) (putD f d ns ds))) (Out.nx Δ) else .bad) _ _ := q
        by_cases hC : C' = C ∧ ns.length < 1000
        · rw [if_pos hC] at q
          obtain ⟨rfl, hl⟩ := hC
          cases ry with
          | loc hn =>
            obtain ⟨_, dx, fs, h2, h3, r2⟩ := s2.s.cl.at_ n _ _ hn hm
            subst h3
            obtain ⟨k1, k2⟩ := putF_ok (f := f) (rv.mono g.ss) r2
            refine ⟨_, _, dx, fs, rfl, h2, hc, hf, by simpa using hl, ?_⟩
            exact q _ S2 r1 σ l (e.trans g.ss) (SM.put (M := ⟨r1, m1⟩) s2 (fun _ z => by cases z) hn ⟨dx, _, upd_same, k1, rpl_ext LeR.refl k2⟩)
        · rw [if_neg hC] at q
          exact q.elim
      | _ => exact q.elim
  | _ => exact q.elim
/-! ### xs[i] = e -/
def xSetI (ma : List Cl → Fd → Mx Dt) (mo mi : List Cl → Fd → Md Dt) : List Cl → Fd → Mx Out := fun m Δ => (ma m Δ).bind fun m1 d => ((mo m1 Δ).mx m1).bind fun m2 x => ((mi m2 Δ).mx m2).bind fun m3 i => match x, i with
  | .loc n, .int k => (match m3[n]? with
    | some (.lst ds) => (match ixN ds.length k with
      | some j => .ok (m3.set n (.lst (ds.set j d))) (.nx Δ)
      | none => .bad)
    | _ => .bad)
  | _, _ => .bad
theorem sxs_setI {ti : TE} {mi : List Cl → Fd → Md Dt} (ha : SndX W ta ma) (ho : ∀ M, SndE (W.at_ M) .s to (mo M.m)) (hi : ∀ M, SndE (W.at_ M) .t ti (mi M.m)) : SndXS W (tAsg ta (gSub to ti rSetL)) (xSetI ma mo mi) := by
  intro G B H S M σ Δ D s w
  refine ha G B H S M σ Δ _ s (w.bind.mono (fun m1 d q v H1 S1 r1 l e s1 rv => ?_) fun _ _ z => z)
  refine ho ⟨r1, m1⟩ G B H1 S1 σ Δ _ s1.s ((mx_w q.bind).mono (fun x q y H2 S2 g ry _ => ?_) fun c z => xm_pure (M := ⟨r1, m1⟩) s1 (z.up l))
  have s2 := s1.grow g
  refine hi ⟨r1, m1⟩ G B H2 S2 σ Δ _ s2.s ((mx_w q.bind).mono (fun i q z H3 S3 g2 rz _ => ?_) fun c z => xm_pure (M := ⟨r1, m1⟩) s2 (z.up l))
  have s3 := s2.grow g2
  cases x with
  | loc n =>
    cases i with
    | int k =>
      cases Rp.isInt rz
      cases hm : m1[n]? with
      | none => simp only [hm] at q; exact q.elim
      | some c =>
        simp only [hm] at q
        cases c with
        | lst ds =>
          cases hx : ixN ds.length k with
          | none => simp only [hx] at q; exact q.elim
          | some j =>
            simp only [hx] at q
            cases ry with
            | loc hn =>
              obtain ⟨vs, h2, r2⟩ := SM.lst (M := ⟨r1, m1⟩) s3 hm hn
              exact ⟨_, vs, k, j, rfl, rfl, h2, by rw [r2.length]; exact hx, q _ S3 r1 σ l ((e.trans g.ss).trans g2.ss) (SM.putL (M := ⟨r1, m1⟩) s3 hn (RpL.set ((rv.mono g.ss).mono g2.ss) j r2))⟩
        | _ => exact q.elim
    | _ => exact q.elim
  | _ => cases i <;> exact q.elim
/-! ### for, over a list that may be changed (but isn't by then) -/
def same (m : List Cl) (n : Nat) (xs : List Dt) : Bool := match m[n]? with
  | some (.lst ys) => eqDs ys xs
  | _ => false
theorem same_ok {m : List Cl} {n : Nat} {xs : List Dt} (h : same m n xs = true) : m[n]? = some (.lst xs) := by
  unfold same at h
  cases q : m[n]? with
  | none => rw [q] at h; cases h
  | some c =>
    rw [q] at h
    cases c with
    | lst ys => rw [eqDs_ok (show eqDs ys xs = true from h)]
    | _ => cases h
theorem same_of {m : List Cl} {n : Nat} {xs : List Dt} (h : m[n]? = some (.lst xs)) : same m n xs = true := by
  unfold same
  rw [h]
  exact eqDs_refl xs
def xForLGo (tg : Dt → Fd → Md Fd) (mb : List Cl → Fd → Mx Out) (n : Nat) (xs : List Dt) : List Dt → List Cl → Fd → Mx Out
  | [], m, Δ => if same m n xs = true then .ok m (.nx Δ) else .bad
  | x :: r, m, Δ => if same m n xs = true then (match tg x Δ with
    | .ok Δ1 => (mb m Δ1).bind fun m1 o => match o with
      | .nx Δ2 => xForLGo tg mb n xs r m1 Δ2
      | .ct Δ2 => xForLGo tg mb n xs r m1 Δ2
      | .bk Δ2 => .ok m1 (.nx Δ2)
      | .rt d => .ok m1 (.rt d)
    | _ => .bad) else .bad
def xForL (me : List Cl → Fd → Md Dt) (tg : Dt → Fd → Md Fd) (mb : List Cl → Fd → Mx Out) : List Cl → Fd → Mx Out := fun m Δ => ((me m Δ).mx m).bind fun m1 d => match d with
  | .loc n => (match m1[n]? with
    | some (.lst xs) => xForLGo tg mb n xs xs m1 Δ
    | _ => .bad)
  | _ => .bad
/-- .. that code over the store tells -/
def xForX (me : List Cl → Fd → Mx Dt) (tg : Dt → Fd → Md Fd) (mb : List Cl → Fd → Mx Out) : List Cl → Fd → Mx Out := fun m Δ => (me m Δ).bind fun m1 d => match d with
  | .loc n => (match m1[n]? with
    | some (.lst xs) => xForLGo tg mb n xs xs m1 Δ
    | _ => .bad)
  | _ => .bad
theorem sxs_forX {te : TE} {me : List Cl → Fd → Mx Dt} {ws : List Nat} {g : TG} {tg : Dt → Fd → Md Fd} {tb : TS} {mb : List Cl → Fd → Mx Out} (he : SndX W te me) (hg : ∀ M : Mm, SndG ⟨W.K, M.r, M.m⟩ W.T ws g tg) (hb : SndXS W tb mb) : SndXS W (tFor (iList W.K te) g tb) (xForX me tg mb) := by
  intro G B H S M σ Δ D s w
  refine he G B H S M σ Δ _ s (w.bind.mono (fun m0 d k v H0 S0 r0 l0 e0 s0 rv => ?_) fun _ _ z => z)
  cases d with
  | loc n =>
    cases hc : m0[n]? with
    | none => simp only [hc] at k; exact k.elim
    | some c =>
      simp only [hc] at k
      cases c with
      | lst xs =>
        cases rv with
        | loc hn =>
          rename_i a
          obtain ⟨vs0, h0, rr0⟩ := SM.lst (M := ⟨r0, m0⟩) s0 hc hn
          refine ⟨a, rfl, ⟨vs0, .of h0⟩, fun i mm σ1 H1 => mm = xs.length - i ∧ i ≤ xs.length ∧ ∃ Δ1 S1 r1 m1, SM W.K W.T G B H1 S1 ⟨r1, m1⟩ σ1 Δ1 ∧ Ex S0 S1 ∧ LeR r0 r1 ∧ Wq (xForLGo tg mb n xs (xs.drop i) m1 Δ1) (OutM W G B S1 r1 D) (XM W G B r1), ⟨xs.length, rfl, Nat.zero_le _, Δ, S0, r0, m0, s0, Ex.refl S0, LeR.refl, Wq.mono k (fun _ _ q => q.up l0 e0) fun _ _ z => z.up l0⟩, ?_⟩
          rintro i mm σ1 H1 ⟨rfl, hi, Δ1, S1, r1, m1, s1, e1, l1, k1⟩
          have hn1 := l1 _ _ hn
          by_cases hlt : i < xs.length
          · obtain ⟨d, hd⟩ := getE hlt
            have hdrop : xs.drop i = d :: xs.drop (i + 1) := by
              obtain ⟨h1, h2⟩ := List.getElem?_eq_some_iff.mp hd
              rw [← h2]
              exact List.drop_eq_getElem_cons h1
            rw [hdrop] at k1
            unfold xForLGo at k1
            by_cases hs : same m1 n xs = true
            · rw [if_pos hs] at k1
              obtain ⟨vs, h1, rr⟩ := SM.lst (M := ⟨r1, m1⟩) s1 (same_ok hs) hn1
              obtain ⟨x, hx, rx⟩ := rr.at hd
              refine .inr ⟨⟨vs, x, .of h1, hx⟩, fun σ2 H2 => ∃ Δ3 S3 r3 m3, SM W.K W.T G B H2 S3 ⟨r3, m3⟩ σ2 Δ3 ∧ Ex S0 S3 ∧ LeR r0 r3 ∧ Wq (xForLGo tg mb n xs (xs.drop (i + 1)) m3 Δ3) (OutM W G B S3 r3 D) (XM W G B r3), fun σ2 H2 q => ⟨xs.length - (i + 1), by omega, rfl, hlt, q⟩, ?_⟩
              intro x' H' y
              obtain ⟨rfl, y⟩ := y
              have := y vs (.of h1)
              rw [hx] at this
              cases this
              refine s1.up (M := ⟨r1, m1⟩) hg rx ?_
              revert k1
              cases tg d Δ1 with
              | exc c => exact fun k1 => k1.elim
              | bad => exact fun k1 => k1.elim
              | ok Δ2 =>
                intro k1 σ2 s3
                refine hb G B _ S1 ⟨r1, m1⟩ σ2 Δ2 _ s3 (Wq.mono (Wq.bind k1) (fun m2 o q => ?_) fun _ _ z => z)
                cases o with
                | nx Δ3 => exact fun H3 S3 r3 σ3 l3 x3 s4 => ⟨Δ3, S3, r3, m2, s4, e1.trans x3, l1.trans l3, Wq.mono q (fun _ _ q => q.up l3 x3) fun _ _ z => z.up l3⟩
                | ct Δ3 => exact fun H3 S3 r3 σ3 l3 x3 s4 => ⟨Δ3, S3, r3, m2, s4, e1.trans x3, l1.trans l3, Wq.mono q (fun _ _ q => q.up l3 x3) fun _ _ z => z.up l3⟩
                | bk Δ3 => exact fun H3 S3 r3 σ3 l3 x3 s4 => q H3 S3 r3 σ3 l3 x3 s4
                | rt d => exact fun v H3 r => q v H3 r
            · rw [if_neg hs] at k1
              exact k1.elim
          · have : i = xs.length := by omega
            subst this
            rw [List.drop_length] at k1
            unfold xForLGo at k1
            by_cases hs : same m1 n xs = true
            · rw [if_pos hs] at k1
              obtain ⟨vs, h1, rr⟩ := SM.lst (M := ⟨r1, m1⟩) s1 (same_ok hs) hn1
              exact .inl ⟨⟨vs, .of h1, by rw [rr.length]; exact Nat.le_refl _⟩, k1 H1 S1 r1 σ1 LeR.refl (Ex.refl S1) s1⟩
            · rw [if_neg hs] at k1
              exact k1.elim
      | _ => exact k.elim
  | _ => exact k.elim
end
end Mr
/-! Code over the store, by the text's forms. -/
namespace Mr
open PySem L2
def xP (me : List Cl → Fd → Md Dt) : List Cl → Fd → Mx Dt := fun m Δ => (me m Δ).mx m
def xN (me : List Cl → Fd → Md Dt) : List Cl → Fd → Mx Dt := fun m Δ => ((me m Δ).mx m).bind alloc
def xPT (me : List Cl → Fd → Md Bool) : List Cl → Fd → Mx Bool := fun m Δ => (me m Δ).mx m
def xPA (me : List Cl → Fd → Md (List Dt)) : List Cl → Fd → Mx (List Dt) := fun m Δ => (me m Δ).mx m
def xPS (me : List Cl → Fd → Md Out) : List Cl → Fd → Mx Out := fun m Δ => (me m Δ).mx m
section
variable {X : Cx} {T : List Addr} {E : XK} {e a b o c : Expr} {es : List Expr} {te ta tb to : TE} {me ma mb : List Cl → Fd → Mx Dt} {mo : List Cl → Fd → Md Dt} {tt tu : TT} {mt mu : List Cl → Fd → Mx Bool} {tas : TA} {mas : List Cl → Fd → Mx (List Dt)} {st : Stmt} {rest as bs : List Stmt} {t u : TS} {ms mv : List Cl → Fd → Mx Out} {pos pos' p p2 apos : Pos} {k j : Nat} {K : PySem.W.Frag} {x y : Str} {ps : List Str} {mir : List Cl → List Dt → Mx Dt} {C : Addr} {m f : Str} {pl : Sem Bool}
theorem x_p {me : List Cl → Fd → Md Dt} (h : ∀ M : Mm, DE X T M E .s e te (me M.m)) : XE X T E e te (xP me) := ⟨(h M0).pe, sx_pure fun M => (h M).sn⟩
theorem x_n {me : List Cl → Fd → Md Dt} (h : ∀ M : Mm, DE X T M E .n e te (me M.m)) : XE X T E e te (xN me) := ⟨(h M0).pe, sx_new fun M => (h M).sn⟩
theorem xt_p {me : List Cl → Fd → Md Bool} (h : ∀ M : Mm, DT X T M E e tt (me M.m)) : XT X T E e tt (xPT me) := ⟨(h M0).pt, sxt_pure fun M => (h M).sn⟩
theorem xa_p {me : List Cl → Fd → Md (List Dt)} (h : ∀ M : Mm, DA X T M E .s es tas (me M.m)) : XA X T E es tas (xPA me) := ⟨(h M0).pa, sxa_pure fun M => (h M).sn⟩
theorem xs_p {me : List Cl → Fd → Md Out} (h : ∀ M : Mm, DS X T M E false st t (me M.m)) : XS X T E st t (xPS me) := ⟨(h M0).ps, sxs_pure fun M => (h M).sn⟩
theorem xa_nil : XA X T E [] tNil xNil := ⟨pa_nil, sxa_nil⟩
theorem xa_cons (ha : XE X T E e te me) (hr : XA X T E es tas mas) (hs : starEach (e :: es) X.env = (false, eval e X.env) :: starEach es X.env := by rfl) : XA X T E (e :: es) (tCons te tas) (xCons me mas) := ⟨pa_cons ha.pe hr.pa hs, sxa_cons ha.sn hr.sn⟩
theorem x_tup {x1 : Nat} (h : XA X T E es tas mas) : XE X T E (.Tuple es x1 pos) (tTup tas) (xTup mas) := ⟨pe_tup h.pa, sx_tup h.sn⟩
theorem x_lst (h : XA X T E es tas mas) : XE X T E (.List es pos) (tLst tas) (xLst mas) := ⟨pe_lst h.pa, sx_lst h.sn⟩
theorem x_lstN (h : XA X T E es tas mas) : XE X T E (.List es pos) (tLst tas) (xLstN mas) := ⟨pe_lst h.pa, sx_lstN h.sn⟩
theorem x_one {op : BoolOp} (h : XE X T E a ta ma) : XE X T E (.BoolOp op [a] pos) ta ma := ⟨pe_one h.pe, h.sn⟩
theorem x_and {rest : List Expr} (ha : XE X T E a ta ma) (hb : XE X T E (.BoolOp .And (b :: rest) pos) tb mb) : XE X T E (.BoolOp .And (a :: b :: rest) pos) (tAndV ta tb) (xAndV ma mb) := ⟨pe_and ha.pe hb.pe, sx_andV ha.sn hb.sn⟩
theorem x_or {rest : List Expr} (ha : XE X T E a ta ma) (hb : XE X T E (.BoolOp .Or (b :: rest) pos) tb mb) : XE X T E (.BoolOp .Or (a :: b :: rest) pos) (tOrV ta tb) (xOrV ma mb) := ⟨pe_or ha.pe hb.pe, sx_orV ha.sn hb.sn⟩
theorem x_not (ha : XE X T E a ta ma) : XE X T E (.UnaryOp .Not a pos) (tNotV ta) (xNotV ma) := ⟨pe_not ha.pe, sx_notV ha.sn⟩
theorem xt_val (h : XE X T E e te me) (he : ∀ whole, isTrue e X.env whole = (do let v ← whole; standAt e.pos; holding [v] (truthy v)) := by intro _; rfl) : XT X T E e (tB te) (xT me) := ⟨pt_val h.pe he, sxt_B h.sn⟩
theorem xt_not (h : XT X T E a tt mt) : XT X T E (.UnaryOp .Not a pos) (tNot tt) (xNot mt) := ⟨pt_not h.pt, sxt_not h.sn⟩
theorem xw_and1 (h : XT X T E a tt mt) : XW' X T E (.BoolOp .And [a] pos) tt mt := ⟨pw_and1 h.pt, h.sn⟩
theorem xw_or1 (h : XT X T E a tt mt) : XW' X T E (.BoolOp .Or [a] pos) tt mt := ⟨pw_or1 h.pt, h.sn⟩
theorem xw_and {rest : List Expr} (h : XT X T E a tt mt) (h2 : XW' X T E (.BoolOp .And (b :: rest) pos) tu mu) : XW' X T E (.BoolOp .And (a :: b :: rest) pos) (tAnd tt tu) (xAnd mt mu) := ⟨pw_and h.pt h2.pw, sxt_and h.sn h2.sn⟩
theorem xw_or {rest : List Expr} (h : XT X T E a tt mt) (h2 : XW' X T E (.BoolOp .Or (b :: rest) pos) tu mu) : XW' X T E (.BoolOp .Or (a :: b :: rest) pos) (tOr tt tu) (xOr mt mu) := ⟨pw_or h.pt h2.pw, sxt_or h.sn h2.sn⟩
theorem xw_t (h : XW' X T E e tt mt) : XT X T E e tt mt := ⟨h.pw.pt, h.sn⟩
/-! calls -/
theorem x_call {K0 : PySem.W.Frag} {mg0 : Str → Option Value} (cc : Cok X k E) (F : MefOk X.prog X.w K0 T mg0 X.base j x ps mir) (h : XA X T E (e :: es) tas mas) (hj : j ≤ k := by decide) (hg : Gl X x := by rfl) (hdb : (x == ("__debug__" : Str)) = false := by decide) (he : starEach (e :: es) X.env = (false, eval e X.env) :: starEach es X.env := by rfl) (hpl : (backTo pos (starEach es X.env)).any (·.1) = false := by rfl) (hK : X.K = K0 := by rfl) (hmg : X.mg = mg0 := by rfl) :
    XE X T E (.Call (.Name x p) (e :: es) [] pos) (tCall (spM K0 T mg0 ps.length mir) [] E tas) (xCall ps.length mir mas) := by
  subst hK
  subst hmg
  obtain ⟨f, fd, hm, hk, hb, ok⟩ := F.ex
  exact ⟨pe_call ok (cc.room.mono hj) hg hm hk hb .nil cc.pas h.pa hdb he hpl, sx_call (W := ⟨X.K, T, X.mg, E⟩) h.sn⟩
theorem x_meth {K0 : PySem.W.Frag} {mg0 : Str → Option Value} (cc : Cok X k E) (F : MmOk X.prog X.w K0 T mg0 X.base j C m ps mir) (hc : Cls K0 C) (ho : ∀ M : Mm, DE X T M E .s o to (mo M.m)) (h : XA X T E (e :: es) tas mas) (hj : j ≤ k := by decide) (he : starEach (e :: es) X.env = (false, eval e X.env) :: starEach es X.env := by rfl) (hpl : (backTo pos (starEach es X.env)).any (·.1) = false := by rfl)
    (hev : eval (.Call (.Attribute o m apos) (e :: es) [] pos) X.env = (do
      let ov ← eval o X.env
      standAt apos.atName
      let (f, first) ← holding [ov] (getMethod ov m pl)
      callWith pos f first (backTo pos (starEach (e :: es) X.env)) (backToKw pos (keywordEach [] X.env))) := by rfl) (hK : X.K = K0 := by rfl) (hmg : X.mg = mg0 := by rfl) :
    XE X T E (.Call (.Attribute o m apos) (e :: es) [] pos) (tMeth C m (spM K0 T mg0 ps.length mir) [] E to tas) (xMeth C m ps.length mir mo mas) := by
  subst hK
  subst hmg
  obtain ⟨f, fd, hm, hb, ok⟩ := F.ex
  exact ⟨pe_meth (ho M0).pe hc hm ok (cc.room.mono hj) hb .nil cc.pas h.pa he hpl hev, sx_meth (W := ⟨X.K, T, X.mg, E⟩) (fun M => (ho M).sn) h.sn⟩
theorem x_meth0 {K0 : PySem.W.Frag} {mg0 : Str → Option Value} (cc : Cok X k E) (F : MmOk X.prog X.w K0 T mg0 X.base j C m ps mir) (hc : Cls K0 C) (ho : ∀ M : Mm, DE X T M E .s o to (mo M.m)) (hj : j ≤ k := by decide)
    (hev : eval (.Call (.Attribute o m apos) [] [] pos) X.env = (do
      let ov ← eval o X.env
      standAt apos.atName
      let (f, first) ← holding [ov] (getMethod ov m pl)
      callWith pos f first (backTo pos (starEach [] X.env)) (backToKw pos (keywordEach [] X.env))) := by rfl) (hK : X.K = K0 := by rfl) (hmg : X.mg = mg0 := by rfl) :
    XE X T E (.Call (.Attribute o m apos) [] [] pos) (tMeth C m (spM K0 T mg0 ps.length mir) [] E to tNil) (xMeth C m ps.length mir mo xNil) := by
  subst hK
  subst hmg
  obtain ⟨f, fd, hm, hb, ok⟩ := F.ex
  exact ⟨pe_meth0 (ho M0).pe hc hm ok (cc.room.mono hj) hb .nil cc.pas hev, sx_meth (W := ⟨X.K, T, X.mg, E⟩) (fun M => (ho M).sn) sxa_nil⟩
/-! making -/
theorem x_make {K0 : PySem.W.Frag} {mg0 : Str → Option Value} (cc : Cok X k E) (F : MkOk X.prog X.w K0 T mg0 X.base j x C ps mir) (h : XA X T E (e :: es) tas mas) (hj : j + 1 ≤ k := by decide) (hg : Gl X x := by rfl) (hdb : (x == ("__debug__" : Str)) = false := by decide) (he : starEach (e :: es) X.env = (false, eval e X.env) :: starEach es X.env := by rfl) (hpl : (backTo pos (starEach es X.env)).any (·.1) = false := by rfl) (hK : X.K = K0 := by rfl) (hmg : X.mg = mg0 := by rfl) :
    XE X T E (.Call (.Name x p) (e :: es) [] pos) (tMake C (spM K0 T mg0 ps.length mir) [] E tas) (xMake C ps.length mir mas) := by
  subst hK
  subst hmg
  obtain ⟨f, fd, hm, hk, hb, ok⟩ := F.ex
  exact ⟨pe_make hk ok (cc.room.mono hj) hg hm hb .nil cc.pas h.pa hdb he hpl, sx_make (W := ⟨X.K, T, X.mg, E⟩) h.sn⟩
theorem x_make0 {K0 : PySem.W.Frag} {mg0 : Str → Option Value} (cc : Cok X k E) (F : MkOk X.prog X.w K0 T mg0 X.base j x C ps mir) (hj : j + 1 ≤ k := by decide) (hg : Gl X x := by rfl) (hdb : (x == ("__debug__" : Str)) = false := by decide) (hK : X.K = K0 := by rfl) (hmg : X.mg = mg0 := by rfl) :
    XE X T E (.Call (.Name x p) [] [] pos) (tMake C (spM K0 T mg0 ps.length mir) [] E tNil) (xMake C ps.length mir xNil) := by
  subst hK
  subst hmg
  obtain ⟨f, fd, hm, hk, hb, ok⟩ := F.ex
  exact ⟨pe_make0 hk ok (cc.room.mono hj) hg hm hb .nil cc.pas hdb, sx_make (W := ⟨X.K, T, X.mg, E⟩) sxa_nil⟩
/-- .. that isn't changed from then on -/
theorem x_makeF {K0 : PySem.W.Frag} {mg0 : Str → Option Value} (cc : Cok X k E) (F : MkOk X.prog X.w K0 T mg0 X.base j x C ps mir) (h : XA X T E (e :: es) tas mas) (hj : j + 1 ≤ k := by decide) (hg : Gl X x := by rfl) (hdb : (x == ("__debug__" : Str)) = false := by decide) (he : starEach (e :: es) X.env = (false, eval e X.env) :: starEach es X.env := by rfl) (hpl : (backTo pos (starEach es X.env)).any (·.1) = false := by rfl) (hK : X.K = K0 := by rfl) (hmg : X.mg = mg0 := by rfl) :
    XE X T E (.Call (.Name x p) (e :: es) [] pos) (tMake C (spM K0 T mg0 ps.length mir) [] E tas) (xMakeF C ps.length mir mas) := by
  subst hK
  subst hmg
  obtain ⟨f, fd, hm, hk, hb, ok⟩ := F.ex
  exact ⟨pe_make hk ok (cc.room.mono hj) hg hm hb .nil cc.pas h.pa hdb he hpl, sx_makeF (W := ⟨X.K, T, X.mg, E⟩) h.sn⟩
theorem d_make {K0 : PySem.W.Frag} {mg0 : Str → Option Value} {ma : Fd → Md (List Dt)} (cc : Cok X k E) (F : MkOk X.prog X.w K0 T mg0 X.base j x C ps mir) (h : DA X T M0 E .s (e :: es) tas ma) (hj : j + 1 ≤ k := by decide) (hg : Gl X x := by rfl) (hdb : (x == ("__debug__" : Str)) = false := by decide) (he : starEach (e :: es) X.env = (false, eval e X.env) :: starEach es X.env := by rfl) (hpl : (backTo pos (starEach es X.env)).any (·.1) = false := by rfl) (hK : X.K = K0 := by rfl) (hmg : X.mg = mg0 := by rfl) :
    DE X T M0 E .s (.Call (.Name x p) (e :: es) [] pos) (tMake C (spM K0 T mg0 ps.length mir) [] E tas) (mMake C ps.length mir ma) := by
  subst hK
  subst hmg
  obtain ⟨f, fd, hm, hk, hb, ok⟩ := F.ex
  exact ⟨pe_make hk ok (cc.room.mono hj) hg hm hb .nil cc.pas h.pa hdb he hpl, snd_make (W := ⟨X.K, T, X.mg, E⟩) h.sn⟩
/-! blocks -/
theorem xb_nil : XB X T E [] tNext xNext := ⟨pss_nil, sxs_next⟩
theorem xb_one (h : XS X T E st t ms) : XB X T E [st] t ms := ⟨pss_one h.ps, h.sn⟩
theorem xb_cons (h : XS X T E st t ms) (h2 : XB X T E rest u mv) : XB X T E (st :: rest) (tSeq t u) (xSeq ms mv) := ⟨pss_cons h.ps h2.ps, sxs_seq h.sn h2.sn⟩
theorem xs_set (i : Nat) (cc : Cok X k E) (he : XE X T E e te me) (hi : X.N[i]? = some x := by rfl) (hx : Loc X.env.scope x := by first | exact Or.inl rfl | exact Or.inr rfl) (hs : swapsWith e (some (.Name x pos')) pos.line X.env = pure false := by rfl) (hf : X.fn x = true ∨ X.env.scope.names.lookup x = some .local := by first | exact .inl rfl | exact .inr rfl) :
    XS X T E (.Assign [.Name x pos'] e pos) (tAsg te (gName i)) (xAsg i me) := ⟨ps_set cc.nd hi hx he.pe hs hf, sxs_asg i he.sn⟩
theorem xs_asgT {tg : Expr} {ws : List Nat} {g : TG} {gs : Dt → Fd → Md Fd} (he : XE X T E e te me) (hg : ∀ M : Mm, DG X T M ws tg g gs) (hs : swapsWithSole [tg] e pos.line X.env = pure false := by rfl) (hw : swappedStores [tg] e X.env = pure none := by rfl) (h1 : (assignEach [tg] X.env).map (fun x => x.snd) = [assign tg X.env] := by rfl) : XS X T E (.Assign [tg] e pos) (tAsg te g) (xAsgT gs me) := ⟨ps_asg he.pe (hg M0).pg hs hw h1, sxs_asgT he.sn fun M => (hg M).sn⟩
theorem xs_drop (he : XE X T E e te me) (hs : swapsWith e none pos.line X.env = pure false := by rfl) : XS X T E (.Expr e pos) (tDrop te) (xDrop me) := ⟨ps_expr he.pe hs, sxs_drop he.sn⟩
theorem xs_if (hc : XT X T E c tt mt) (h1 : XB X T E as t ms) (h2 : XB X T E bs u mv) : XS X T E (.If c as bs pos) (tIfS tt t u) (xIf mt ms mv) := ⟨ps_if hc.pt h1.ps h2.ps, sxs_if hc.sn h1.sn h2.sn⟩
theorem xs_ret (he : XE X T E e te me) : XS X T E (.Return (some e) pos) (tRet te) (xRet me) := ⟨ps_ret he.pe, sxs_ret he.sn⟩
theorem xs_for {tg iter : Expr} {ws : List Nat} {wi : TI} {mi : List Cl → Fd → Md (List Dt)} {g : TG} {gs : Dt → Fd → Md Fd} (cc : Cok X k E) (hi : ∀ M : Mm, DI X T M E tg iter wi (mi M.m)) (hg : ∀ M : Mm, DG X T M ws tg g gs) (hb : XB X T E as t ms) (hs : ∀ x, foldedSetIterable iter X.env x = pure x := by intro _; rfl) : XS X T E (.For tg iter as [] pos) (tFor wi g t) (xFor mi gs ms) :=
  ⟨ps_for cc.own cc.calm (hi M0).pi (hg M0).pg hb.ps hs, sxs_for (W := ⟨X.K, T, X.mg, E⟩) (fun M => (hi M).sn) (fun M => (hg M).sn) hb.sn⟩
theorem xs_forX {tg iter : Expr} {ws : List Nat} {te : TE} {me : List Cl → Fd → Mx Dt} {g : TG} {gs : Dt → Fd → Md Fd} {K0 : PySem.W.Frag} (cc : Cok X k E) (hi : XE X T E iter te me) (hg : ∀ M : Mm, DG X T M ws tg g gs) (hb : XB X T E as t ms) (hs : ∀ x, foldedSetIterable iter X.env x = pure x := by intro _; rfl) (hK : X.K = K0 := by rfl) : XS X T E (.For tg iter as [] pos) (tFor (iList K0 te) g t) (xForX me gs ms) := by
  subst hK
  exact ⟨ps_for cc.own cc.calm (pi_list hi.pe) (hg M0).pg hb.ps hs, sxs_forX (W := ⟨X.K, T, X.mg, E⟩) hi.sn (fun M => (hg M).sn) hb.sn⟩
/-! changes -/
variable {cpos : Pos}
theorem x_m0 {K0 : PySem.W.Frag} {name : Str} {id : String} {r : V → List V → Hp → VK → Prop} {f : List Dt → Option (List Dt × Dt)} (slot : Slot "list" name id) (hty : typeOf (.builtin id) = pure (.type "method_descriptor")) (hm : MtR X id r) (lm : LM0 r f) (ho : ∀ M : Mm, DE X T M E .s o to (mo M.m))
    (hbase : attributeBase o name X.env (eval o X.env) = eval o X.env := by rfl) (hline : (apos.endLine == cpos.line) = true := by rfl) (hK : X.K = K0 := by rfl) : XE X T E (.Call (.Attribute o name apos) [] [] cpos) (tBM0 K0 "list" r to) (xM0 f mo) := by
  subst hK
  exact ⟨pe_bm0 PySem.F.plainAttrs_list slot hty hm (ho M0).pe hbase hline, sx_m0 (W := ⟨X.K, T, X.mg, E⟩) lm fun M => (ho M).sn⟩
theorem x_m1 {K0 : PySem.W.Frag} {name : Str} {id : String} {r : V → List V → Hp → VK → Prop} {f : List Dt → Dt → Option (List Dt × Dt)} (slot : Slot "list" name id) (hty : typeOf (.builtin id) = pure (.type "method_descriptor")) (hm : MtR X id r) (lm : LM1 r f) (ho : ∀ M : Mm, DE X T M E .s o to (mo M.m)) (ha : XE X T E e te me)
    (hbase : attributeBase o name X.env (eval o X.env) = eval o X.env := by rfl)
    (hfew : ((backTo cpos (starEach [e] X.env)).all (fun x => !x.1) && (backToKw cpos (keywordEach [] X.env)).all (fun x => x.1.isSome) && decide (([e] : List Expr).length + ([] : List Keyword).length + (if ([] : List Keyword).isEmpty then 0 else 1) < 30)) = true := by rfl)
    (hline : (apos.endLine == cpos.line) = true := by rfl) (hs : starEach [e] X.env = (false, eval e X.env) :: starEach [] X.env := by rfl) (hplain : (backTo cpos (starEach [] X.env)).any (·.1) = false := by rfl) (hK : X.K = K0 := by rfl) : XE X T E (.Call (.Attribute o name apos) [e] [] cpos) (tBM K0 "list" r to (tCons te tNil)) (xM1 f mo me) := by
  subst hK
  exact ⟨pe_bm PySem.F.plainAttrs_list slot hty hm (ho M0).pe (pa_cons ha.pe pa_nil hs) hbase hfew hline hs hplain, sx_m1 (W := ⟨X.K, T, X.mg, E⟩) lm (fun M => (ho M).sn) ha.sn⟩
theorem x_ext {K0 : PySem.W.Frag} {me : List Cl → Fd → Md Dt} (ho : ∀ M : Mm, DE X T M E .s o to (mo M.m)) (ha : ∀ M : Mm, DE X T M E .l e te (me M.m))
    (hbase : attributeBase o "extend" X.env (eval o X.env) = eval o X.env := by rfl)
    (hfew : ((backTo cpos (starEach [e] X.env)).all (fun x => !x.1) && (backToKw cpos (keywordEach [] X.env)).all (fun x => x.1.isSome) && decide (([e] : List Expr).length + ([] : List Keyword).length + (if ([] : List Keyword).isEmpty then 0 else 1) < 30)) = true := by rfl)
    (hline : (apos.endLine == cpos.line) = true := by rfl) (hs : starEach [e] X.env = (false, eval e X.env) :: starEach [] X.env := by rfl) (hplain : (backTo cpos (starEach [] X.env)).any (·.1) = false := by rfl) (hK : X.K = K0 := by rfl) : XE X T E (.Call (.Attribute o "extend" apos) [e] [] cpos) (tBM K0 "list" rExtend to (tCons te tNil)) (xExt mo me) := by
  subst hK
  exact ⟨pe_bm PySem.F.plainAttrs_list PySem.F.slot_list_extend PySem.F.type_list_extend mt_extend (ho M0).pe (pa_cons (ha M0).pe pa_nil hs) hbase hfew hline hs hplain, sx_ext (W := ⟨X.K, T, X.mg, E⟩) (fun M => (ho M).sn) fun M => (ha M).sn⟩
theorem x_clear {K0 : PySem.W.Frag} (ho : ∀ M : Mm, DE X T M E .s o to (mo M.m)) (hbase : attributeBase o "clear" X.env (eval o X.env) = eval o X.env := by rfl) (hline : (apos.endLine == cpos.line) = true := by rfl) (hK : X.K = K0 := by rfl) : XE X T E (.Call (.Attribute o "clear" apos) [] [] cpos) (tBM0 K0 "list" rClear to) (xM0 fClear mo) :=
  x_m0 PySem.F.slot_list_clear PySem.F.type_list_clear mt_clear lm_clear ho hbase hline hK
theorem x_rev {K0 : PySem.W.Frag} (ho : ∀ M : Mm, DE X T M E .s o to (mo M.m)) (hbase : attributeBase o "reverse" X.env (eval o X.env) = eval o X.env := by rfl) (hline : (apos.endLine == cpos.line) = true := by rfl) (hK : X.K = K0 := by rfl) : XE X T E (.Call (.Attribute o "reverse" apos) [] [] cpos) (tBM0 K0 "list" rReverse to) (xM0 fRev mo) :=
  x_m0 PySem.F.slot_list_reverse PySem.F.type_list_reverse mt_reverse lm_rev ho hbase hline hK
theorem x_app {K0 : PySem.W.Frag} (ho : ∀ M : Mm, DE X T M E .s o to (mo M.m)) (ha : XE X T E e te me)
    (hbase : attributeBase o "append" X.env (eval o X.env) = eval o X.env := by rfl)
    (hfew : ((backTo cpos (starEach [e] X.env)).all (fun x => !x.1) && (backToKw cpos (keywordEach [] X.env)).all (fun x => x.1.isSome) && decide (([e] : List Expr).length + ([] : List Keyword).length + (if ([] : List Keyword).isEmpty then 0 else 1) < 30)) = true := by rfl)
    (hline : (apos.endLine == cpos.line) = true := by rfl) (hs : starEach [e] X.env = (false, eval e X.env) :: starEach [] X.env := by rfl) (hplain : (backTo cpos (starEach [] X.env)).any (·.1) = false := by rfl) (hK : X.K = K0 := by rfl) : XE X T E (.Call (.Attribute o "append" apos) [e] [] cpos) (tBM K0 "list" rAppend to (tCons te tNil)) (xM1 fApp mo me) :=
  x_m1 PySem.F.slot_list_append PySem.F.type_list_append mt_append lm_app ho ha hbase hfew hline hs hplain hK
theorem x_popAt {K0 : PySem.W.Frag} (ho : ∀ M : Mm, DE X T M E .s o to (mo M.m)) (ha : XE X T E e te me)
    (hbase : attributeBase o "pop" X.env (eval o X.env) = eval o X.env := by rfl)
    (hfew : ((backTo cpos (starEach [e] X.env)).all (fun x => !x.1) && (backToKw cpos (keywordEach [] X.env)).all (fun x => x.1.isSome) && decide (([e] : List Expr).length + ([] : List Keyword).length + (if ([] : List Keyword).isEmpty then 0 else 1) < 30)) = true := by rfl)
    (hline : (apos.endLine == cpos.line) = true := by rfl) (hs : starEach [e] X.env = (false, eval e X.env) :: starEach [] X.env := by rfl) (hplain : (backTo cpos (starEach [] X.env)).any (·.1) = false := by rfl) (hK : X.K = K0 := by rfl) : XE X T E (.Call (.Attribute o "pop" apos) [e] [] cpos) (tBM K0 "list" rPopAt to (tCons te tNil)) (xM1 fPopAt mo me) :=
  x_m1 PySem.F.slot_list_pop PySem.F.type_list_pop mt_popAt lm_popAt ho ha hbase hfew hline hs hplain hK
theorem xs_fld {K0 : PySem.W.Frag} (hc : Cls K0 C) (hf : NoAttr K0 C f) (ha : XE X T E e te me) (ho : ∀ M : Mm, DE X T M E .s o to (mo M.m)) (hs : swapsWith e (some (.Attribute o f pos')) pos.line X.env = pure false := by rfl) (hK : X.K = K0 := by rfl) : XS X T E (.Assign [.Attribute o f pos'] e pos) (sFld K0 to te f) (xFldS C f me mo) := by
  subst hK
  exact ⟨ps_fld (ho M0).pe ha.pe hs, sxs_fld (W := ⟨X.K, T, X.mg, E⟩) hc hf ha.sn fun M => (ho M).sn⟩
theorem xs_setI {mi : List Cl → Fd → Md Dt} (ha : XE X T E a ta ma) (ho : ∀ M : Mm, DE X T M E .s o to (mo M.m)) (hi : ∀ M : Mm, DE X T M E .t b tb (mi M.m))
    (hs : swapsWithSole [.Subscript o b p2] a pos.line X.env = pure false := by rfl) (hw : swappedStores [.Subscript o b p2] a X.env = pure none := by rfl) (h1 : (assignEach [.Subscript o b p2] X.env).map (fun x => x.snd) = [assign (.Subscript o b p2) X.env] := by rfl)
    (h2 : ∀ v, assign (.Subscript o b p2) X.env v = (do
      let ov ← holding [v] (eval o X.env)
      let iv ← holding [v, ov] (eval b X.env)
      standAt p2
      holding [v, ov, iv] (setItem ov iv v)
      release [v, ov, iv] []) := by intro _; rfl) :
    XS X T E (.Assign [.Subscript o b p2] a pos) (tAsg ta (gSub to tb rSetL)) (xSetI ma mo mi) := ⟨ps_asg ha.pe (pg_sub (ho M0).pe (hi M0).pe set_list h2) hs hw h1, sxs_setI (W := ⟨X.K, T, X.mg, E⟩) ha.sn (fun M => (ho M).sn) fun M => (hi M).sn⟩
/-- y = [.. for ..], a list that may be changed -/
theorem xs_setLcN {tg iter elt : Expr} {scope : Scope} {own : List (Str × Nat)} {ifs : List Expr} {wi : TI} {mi : List Cl → Fd → Md (List Dt)} {g : TG} {gs : Dt → Fd → Md Fd} {ws : List Nat} {tt : TT} {mt : List Cl → Fd → Md Bool} {te : TE} {me : List Cl → Fd → Md Dt} {spos : Pos} (i : Nat) (cc : Cok X k E) (hi : ∀ M : Mm, DJ X T M E tg iter wi (mi M.m)) (ok : BlkOk X.N X.env.scope scope own)
    (hg : ∀ (M : Mm) (s : Shared) (H : Hp) (C : Addr) (cl : List (Str × Addr)) (fp : List Addr), Cok (X.blk s H scope (compEnvC scope cl C X.env) fp) k E0 → DG (X.blk s H scope (compEnvC scope cl C X.env) fp) T M ws tg g gs)
    (ht : ∀ (M : Mm) (s : Shared) (H : Hp) (C : Addr) (cl : List (Str × Addr)) (fp : List Addr), Cok (X.blk s H scope (compEnvC scope cl C X.env) fp) k E0 → DQ (X.blk s H scope (compEnvC scope cl C X.env) fp) T M E0 ifs tt (mt M.m))
    (he : ∀ (M : Mm) (s : Shared) (H : Hp) (C : Addr) (cl : List (Str × Addr)) (fp : List Addr), Cok (X.blk s H scope (compEnvC scope cl C X.env) fp) k E0 → DE (X.blk s H scope (compEnvC scope cl C X.env) fp) T M E0 .s elt te (me M.m))
    (hy : X.N[i]? = some y := by rfl) (hyl : X.env.scope.names.lookup y = some .local := by rfl) (hsw : swapsWith (.ListComp elt [⟨tg, iter, ifs, 0⟩] scope pos) (some (.Name y pos')) spos.line X.env = pure true := by exact sw_true rfl rfl rfl (by decide +kernel))
    (hw : ws.all (fun i => (own.map (·.2)).contains i) = true := by decide) (hs : ∀ x, foldedSetIterable iter X.env x = pure x := by intro _; rfl) :
    XS X T E (.Assign [.Name y pos'] (.ListComp elt [⟨tg, iter, ifs, 0⟩] scope pos) spos) (tAsg (tLc wi g tt te (own.map (·.2))) (gName i)) (xAsg i (xN fun m => mLc (mi m) gs (mt m) (me m) (own.map (·.2)))) :=
  ⟨ps_setLc cc.calm cc.nd hy hyl hsw (hi M0).pi ok (fun s H C cl fp => (hg M0 s H C cl fp (cok_blk cc ..)).pg) (fun s H C cl fp => (ht M0 s H C cl fp (cok_blk cc ..)).pq) (fun s H C cl fp => (he M0 s H C cl fp (cok_blk cc ..)).pe) hs,
   sxs_asg i (sx_new (W := ⟨X.K, T, X.mg, E⟩) fun M => (d_lc (pos := pos) cc (hi M) ok (hg M) (ht M) (he M) hw hs).sn)⟩
end
/-! ### try -/
open L2H
def xTry (c0 : Str) (res : Dt) (mb : List Cl → Fd → Mx Out) : List Cl → Fd → Mx Out := fun m Δ => match mb m Δ with
  | .ok m' o => .ok m' o
  | .exc m' c => if c = c0 then .ok m' (.rt res) else .bad
  | .bad => .bad
section
open PySem.Spec PyProof.Rows
variable {P : Program} {w : World} {K : PySem.W.Frag} {mg : Str → Option Value} {base : Heap} {N : List Str} {qual : Str} {scope : Scope} {f : Addr} {cd : Value} {A : Around} {outer : List Env} {s0 : Shared} {H0 : Hp} {E : XK} {T : List Addr}
theorem xs_tryAs {k j kx : Nat} {x n g c0 : Str} {cv : Value} {kk : Int} {ps : List Str} {mir : Addr → List Dt → Md Dt} {res : Dt} {body : List Stmt} {tb : XK → TS} {mb : List Cl → Fd → Mx Out} {D : Addr} {p1 p2 p3 p4 p5 np pos pos' : Pos} (i : Nat)
    (cc : Cok (cxOf (L2N.CX P w) P w K mg base N qual scope f cd A outer s0 H0 E) k E) (F : HotOk P w K mg base kx g D ps mir) (hl : ps.length = 2) (hx : PySem.W.exmOne K (.ref D) cv = some true) (hD : mg c0 = some (.ref D)) (hcv : mg x = some cv) (hres : ∀ a, mir a [.adr a, .int kk] = .ok res) (hflat : flatD res = true)
    (hb : ∀ (pn : List (Addr × Obj)) (xe : Value → Shared → Prop) (E' : XK), Cok ((cxOf (L2N.CX P w) P w K mg base N qual scope f cd A outer s0 H0 E).tr pn xe) k E' → XB ((cxOf (L2N.CX P w) P w K mg base N qual scope f cd A outer s0 H0 E).tr pn xe) T E' body (tb E') mb)
    (hkx : kx ≤ k := by exact Nat.le_of_ble_eq_true rfl) (hi : N[i]? = some n := by rfl) (hln : scope.names.lookup n = some .local := by rfl) (hg : scope.names.lookup g = some .globalImplicit := by rfl) (hgx : scope.names.lookup x = some .globalImplicit := by rfl)
    (hd : (n == ("__debug__" : Str)) = false := by decide) (hcd : (n == ("__classdict__" : Str)) = false := by decide) (hdb : (g == ("__debug__" : Str)) = false := by decide) (hdx : (x == ("__debug__" : Str)) = false := by decide)
    (hs : starEach [.Name n p2, .Constant (.int kk) j p3] (envOfC qual scope s0.heap.objs.size f cd) = (false, eval (.Name n p2) (envOfC qual scope s0.heap.objs.size f cd)) :: starEach [.Constant (.int kk) j p3] (envOfC qual scope s0.heap.objs.size f cd) := by rfl)
    (hs2 : starEach [.Constant (.int kk) j p3] (envOfC qual scope s0.heap.objs.size f cd) = (false, eval (.Constant (.int kk) j p3) (envOfC qual scope s0.heap.objs.size f cd)) :: starEach [] (envOfC qual scope s0.heap.objs.size f cd) := by rfl)
    (hpl : (backTo p4 (starEach [.Constant (.int kk) j p3] (envOfC qual scope s0.heap.objs.size f cd))).any (·.1) = false := by rfl) :
    XS (cxOf (L2N.CX P w) P w K mg base N qual scope f cd A outer s0 H0 E) T E (.Try body [.ExceptHandler (some (.Name x np)) (some n) [.Return (some (.Call (.Name g p1) [.Name n p2, .Constant (.int kk) j p3] [] p4)) p5] pos'] [] [] pos)
      (fun Dn σ H => tb (EW N.length (wAs K cv i (tSuite K D i res) (fun cls d _ H => E cls d H) Dn)) Dn σ H) (xTry c0 res mb) := by
  refine ⟨?_, ?_⟩
  · refine L2N.ps_try_as (X := cxOf (L2N.CX P w) P w K mg base N qual scope f cd A outer s0 H0 E) (tb := fun W => tb (EW N.length W)) rfl rfl cc.nd hi hln ⟨hgx, hdx, .inl hcv⟩ cc.tk (fun W pn xe tk po => ?_) fun a oe cls d pn hz hv => ?_
    · have tk2 := takes_ew tk
      exact (hb pn xe _ ⟨cc.calm, cc.room, L2N.passes_call tk2 fun _ _ _ _ h => h, po, cc.nd, tk2⟩).ps
    · refine ⟨fun pins s σ H Dn I h => ?_⟩
      obtain ⟨rfl, rfl, e1, e2⟩ := h
      obtain ⟨vs, hvs⟩ := hv
      have pe := pe_hot (X := (cxOf (L2N.CX P w) P w K mg base N qual scope f cd A outer s0 H0 E).suite a ((a, oe) :: pn)) (n := n) (x := g) (i := i) (j := j) (kk := kk) (p1 := p1) (p2 := p2) (p3 := p3) (pos := p4) (a := a) (oe := oe) F hl (roomH_mark ((roomH_of cc.room).mono hkx)) ⟨rfl, vs, hvs, hz.2.2 vs hvs⟩ List.mem_cons_self hz.zc hi (.inl hln) hg hres hd hcd hdb hs hs2 hpl
      exact (pss_one (ps_ret pe)).run pins s σ H Dn I ⟨e1, e2⟩
  · intro G B H S M σ Δ Dn sl wp
    have ck : Cok ((cxOf (L2N.CX P w) P w K mg base N qual scope f cd A outer s0 H0 E).tr [] (cxOf (L2N.CX P w) P w K mg base N qual scope f cd A outer s0 H0 (EW N.length (wAs K cv i (tSuite K D i res) (fun cls d _ H => E cls d H) Dn))).xe) k (EW N.length (wAs K cv i (tSuite K D i res) (fun cls d _ H => E cls d H) Dn)) := cok_def (E := EW N.length (wAs K cv i (tSuite K D i res) (fun cls d _ H => E cls d H) Dn)) cc.room cc.nd
    refine (hb _ _ _ ck).sn G B H S M σ Δ Dn sl ?_
    show Wq (mb M.m Δ) (OutM ⟨K, T, mg, _⟩ G B S M.r Dn) (XM ⟨K, T, mg, _⟩ G B M.r)
    have wp : Wq (match mb M.m Δ with
      | .ok m' o => Mx.ok m' o
      | .exc m' c => if c = c0 then .ok m' (.rt res) else .bad
      | .bad => .bad) (OutM ⟨K, T, mg, E⟩ G B S M.r Dn) (XM ⟨K, T, mg, E⟩ G B M.r) := wp
    cases hm : mb M.m Δ with
    | ok m' o =>
      rw [hm] at wp
      show OutM _ G B S M.r Dn m' o
      cases o with
      | nx Δ' => exact wp
      | bk Δ' => exact wp
      | ct Δ' => exact wp
      | rt d => exact wp
    | bad =>
      rw [hm] at wp
      exact wp.elim
    | exc m' c =>
      rw [hm] at wp
      by_cases hc : c = c0
      · subst hc
        have wp : Wq (if c = c then Mx.ok m' (Out.rt res) else .bad) (OutM ⟨K, T, mg, E⟩ G B S M.r Dn) (XM ⟨K, T, mg, E⟩ G B M.r) := wp
        rw [if_pos rfl] at wp
        have wp : ∀ v H, RtM K G B M.r m' H v res → Dn.rt v H := wp
        refine ⟨D, hD, fun H' S' r' l e1 e2 e3 fr st nw σ' hl' => ⟨true, hx, fun _ a na => ⟨rfl, rfl, List.getElem?_set_self (by
          have := (List.getElem?_eq_some_iff.mp hi).1
          omega), fun v H2 ⟨S2, h1, h2, h3, h4, h5⟩ => wp v H2 ⟨S', r', l, e1.trans h1, e2, e3.trans h1, fr, st.grow ⟨h1, Ex.refl S', e3.trans h1, fun _ _ z => z⟩, nw, Rp.flat h5 hflat⟩⟩, fun z => by cases z⟩⟩
      · have wp : Wq (if c = c0 then Mx.ok m' (Out.rt res) else .bad) (OutM ⟨K, T, mg, E⟩ G B S M.r Dn) (XM ⟨K, T, mg, E⟩ G B M.r) := wp
        rw [if_neg hc] at wp
        exact wp.elim
end
end Mr
/-! Further pure forms. -/
namespace Mr
open PySem L2
theorem opR_or {X : Cx} {f : Value → Value → Sem Value} {r r' : R2} (h : OpR X f r) (h' : OpR X f r') : OpR X f (fun x y H Q => r x y H Q ∨ r' x y H Q) := by
  intro pins s σ H x y v u Q I rx ry q
  rcases q with q | q
  · exact h pins s σ H x y v u Q I rx ry q
  · exact h' pins s σ H x y v u Q I rx ry q
/-! ### is -/
def isNonD : Dt → Bool
  | .non => true
  | _ => false
def dIsN (neg : Bool) (a b : Dt) : Md Dt := match b with
  | .non => .ok (.bl (if neg then !isNonD a else isNonD a))
  | _ => .bad
def rIsNn (neg : Bool) : R2 := fun x y H Q => y = .non ∧ Q (.bl (if neg then !decide (x = .non) else decide (x = .non))) H
theorem rp_isNon {K : Kx} {H : Hp} {v : V} {d : Dt} (h : Rp K H v d) : decide (v = .non) = isNonD d := by
  cases h <;> rfl
theorem sr_isN {K : Kx} {neg : Bool} : SndR K .t .t .s (rIsNn neg) (dIsN neg) := by
  intro H S x y a b Q e ha hb w
  unfold dIsN at w
  cases b with
  | non =>
    cases hb
    refine ⟨rfl, ?_⟩
    have w : Wp (Md.ok (Dt.bl (if neg then !isNonD a else isNonD a))) _ _ := w
    rw [rp_isNon (K := K) ha]
    exact w _ H S (Gr.refl e) (.bl _) trivial
  | _ => exact w.elim
def dIsB (neg : Bool) (a b : Dt) : Md Dt := match a, b with
  | .bl x, .bl y => .ok (.bl (if neg then !decide (x = y) else decide (x = y)))
  | _, _ => .bad
theorem sr_isB {K : Kx} : SndR K .t .t .s rIsB (dIsB false) := by
  intro H S x y a b Q e ha hb w
  unfold dIsB at w
  split at w
  · cases ha
    cases hb
    exact ⟨_, _, rfl, rfl, w _ H S (Gr.refl e) (.bl _) trivial⟩
  · exact w.elim
section
variable {X : Cx} {T : List Addr} {M : Mm} {E : XK} {fl fa fb fc : Fl} {nw : Bool} {a b c e tg : Expr} {es : List Expr} {ta tb tc te : TE} {ma mb mc me : Fd → Md Dt} {pos p p2 p3 : Pos} {k j i : Nat} {tas : TA} {mas : Fd → Md (List Dt)}
theorem c_isN : CmpOk X M .Is (rIsNn false) (dIsN false) := ⟨op_isN, sr_isN, fun a b c => by unfold dIsN; split <;> exact fun z => by cases z⟩
theorem c_notN : CmpOk X M .IsNot (rIsNn true) (dIsN true) := ⟨op_notN, sr_isN, fun a b c => by unfold dIsN; split <;> exact fun z => by cases z⟩
theorem c_isB : CmpOk X M .Is rIsB (dIsB false) := ⟨op_isBl, sr_isB, fun a b c => by unfold dIsB; split <;> exact fun z => by cases z⟩
/-! ### in a tuple of ints -/
def dInT (neg : Bool) (a b : Dt) : Md Dt := match a, b with
  | .int i, .tup ds => (match toInts ds with
    | some ns => .ok (.bl (if neg then !decide (i ∈ ns) else decide (i ∈ ns)))
    | none => .bad)
  | _, _ => .bad
theorem inV_int (i : Int) (ns : List Int) : inV (.int i) (ns.map V.int) = decide (i ∈ ns) := by
  unfold inV
  rw [Bool.eq_iff_iff, List.any_eq_true, decide_eq_true_eq]
  constructor
  · rintro ⟨y, hy, e⟩
    obtain ⟨j, hj, rfl⟩ := List.mem_map.mp hy
    have : j = i := by simpa [eqV] using e
    exact this ▸ hj
  · intro h
    exact ⟨.int i, List.mem_map.mpr ⟨i, h, rfl⟩, by simp [eqV]⟩
theorem sr_inT {K : Kx} {neg : Bool} : SndR K .t .t .s (rIn K.f neg) (dInT neg) := by
  intro H S x y a b Q e ha hb w
  unfold dInT at w
  split at w
  · rename_i i ds
    cases hq : toInts ds with
    | none => rw [hq] at w; exact w.elim
    | some ns =>
      rw [hq] at w
      cases Rp.isInt ha
      cases hb with
      | tup h1 r =>
        obtain ⟨rfl, _⟩ := rp_ints r hq
        refine ⟨_, _, rfl, .inr (.of h1), rfl, ?_, ?_⟩
        · rw [List.all_map]
          exact List.all_eq_true.mpr fun _ _ => rfl
        · rw [inV_int]
          exact w _ H S (Gr.refl e) (.bl _) trivial
  · exact w.elim
theorem dInT_nx (neg : Bool) (a b : Dt) (c : Str) : dInT neg a b ≠ .exc c := by
  unfold dInT
  split
  · split <;> exact fun z => by cases z
  · exact fun z => by cases z
theorem c_inT {K0 : PySem.W.Frag} (hK : X.K = K0 := by rfl) : CmpOk X M .In (rIn K0 false) (dInT false) := by
  subst hK
  exact ⟨op_in_seq, sr_inT (K := kx X M), dInT_nx false⟩
theorem c_notInT {K0 : PySem.W.Frag} (hK : X.K = K0 := by rfl) : CmpOk X M .NotIn (rIn K0 true) (dInT true) := by
  subst hK
  exact ⟨op_notIn_seq, sr_inT (K := kx X M), dInT_nx true⟩
/-! ### xs[::-1] -/
def dRev : Dt → Md Dt
  | .lst ds => .ok (.lst ds.reverse)
  | .lsk ds => .ok (.lst ds.reverse)
  | _ => .bad
theorem d_revL {K0 : PySem.W.Frag} {p1 p2 p3 : Pos} {kk : Nat} (ha : DE X T M E fa a ta ma) (hf : fa ≠ .t := by exact fun z => by cases z) (hK : X.K = K0 := by rfl) : DE X T M E .n (.Subscript a (.Slice none none (some (.UnaryOp .USub (.Constant (.int 1) kk p1) p2)) p3) pos) (tRevL K0 ta) (mU dRev ma) := by
  subst hK
  exact ⟨pe_revL ha.pe, snd_u (W := ⟨kx X M, T, X.mg, E⟩) (r := fun x H Q => ∃ a xs, x = .ref a ∧ SqL X.K H a xs ∧ ∀ p, H p = none → Q (.ref p) (upd H p (.lst xs.reverse))) (fun σ H Q h => h) ha.sn (fun H S x a Q e h w => by
    cases a with
    | lst ds =>
      obtain ⟨p, vs, rfl, h1, r⟩ := h.lst hf e
      exact ⟨p, vs, rfl, .of h1, new_lst (fl := .n) e r.rev w⟩
    | lsk ds =>
      obtain ⟨p, vs, rfl, h1, r⟩ := h.lsk hf e
      exact ⟨p, vs, rfl, h1, new_lst (fl := .n) e r.rev w⟩
    | _ => exact w.elim) (fun a c => by unfold dRev; split <;> exact fun z => by cases z)⟩
/-! ### a list of the frame's own is changed by a method -/
def mOw0 (i : Nat) (f : List Dt → Option (List Dt × Dt)) : Fd → Md Out := fun Δ => match Δ[i]? with
  | some (.ow ds) => (match f ds with
    | some (es, _) => .ok (.nx (Δ.set i (.ow es)))
    | none => .bad)
  | _ => .bad
theorem ss_ow0 {W : Wo} {r : V → List V → Hp → VK → Prop} {f : List Dt → Option (List Dt × Dt)} (hr : LM0 r f) (i : Nat) : SndS W nw (tDrop (tBM0 W.K "list" r (tVar i))) (mOw0 i f) := by
  intro G B H S σ Δ D s w
  unfold mOw0 at w
  split at w
  · rename_i ds hi
    cases q : f ds with
    | none => rw [q] at w; exact w.elim
    | some z =>
      obtain ⟨es, d⟩ := z
      rw [q] at w
      obtain ⟨a, vs, e, hG, hS, hH, r2⟩ := s.own i ds hi
      refine ⟨.ref a, e, .inl ⟨rfl, vs, .of hH⟩, ?_⟩
      exact hr W.K H S a vs ds es d _ hH r2 q fun us v ru _ => w _ S σ (s.put hi e ru)
  · exact w.elim
/-- xs.extend(ys) -/
def mOwExt (i : Nat) (ma : Fd → Md Dt) : Fd → Md Out := fun Δ => match Δ[i]? with
  | some (.ow ds) => (ma Δ).bind fun d => match d with
    | .lst es => if ds.length + es.length ≤ 16777216 then .ok (.nx (Δ.set i (.ow (ds ++ es)))) else .bad
    | _ => .bad
  | _ => .bad
theorem ss_owExt {W : Wo} (i : Nat) (h : SndE W .l ta ma) : SndS W nw (tDrop (tBM W.K "list" rExtend (tVar i) (tCons ta tNil))) (mOwExt i ma) := by
  intro G B H S σ Δ D s w
  unfold mOwExt at w
  split at w
  · rename_i ds hi
    obtain ⟨a, vs, e, hG, hS, hH, r⟩ := s.own i ds hi
    refine ⟨.ref a, e, .inl ⟨rfl, vs, .of hH⟩, ?_⟩
    refine h G B H S σ Δ _ s (w.bind.mono (fun d k v H' S' g rv _ => ?_) fun _ z => xw_up s z)
    have s' := s.grow g
    obtain ⟨p, us, es, rfl, rfl, h3, r3⟩ := rv
    have k : Wp (if ds.length + es.length ≤ 16777216 then Md.ok (Out.nx (Δ.set i (.ow (ds ++ es)))) else .bad) _ _ := k
    by_cases hl : ds.length + es.length ≤ 16777216
    · rw [if_pos hl] at k
      exact ⟨a, p, vs, us, rfl, rfl, g.hh.lst hH, h3, by rw [r.length, r3.length, sizeLine_eq]; exact hl, k _ S' σ (s'.put hi e ((RpL.mono g.ss r).app r3))⟩
    · rw [if_neg hl] at k
      exact k.elim
  · exact w.elim
section
variable {x : Str} {apos pos' cpos : Pos}
theorem s_owExt (i : Nat) (hb : DE X T M E .l e te me) (hN : X.N[i]? = some x := by rfl) (hv : Vis X.env.scope x := by first | exact Or.inl rfl | exact Or.inr (Or.inl rfl) | exact Or.inr (Or.inr rfl)) (hd : (x == ("__debug__" : Str)) = false := by decide) (hcd : (x == ("__classdict__" : Str)) = false := by decide)
    (hbase : attributeBase (.Name x p) "extend" X.env (eval (.Name x p) X.env) = eval (.Name x p) X.env := by rfl)
    (hfew : ((backTo pos' (starEach [e] X.env)).all (fun x => !x.1) && (backToKw pos' (keywordEach [] X.env)).all (fun x => x.1.isSome) && decide (([e] : List Expr).length + ([] : List Keyword).length + (if ([] : List Keyword).isEmpty then 0 else 1) < 30)) = true := by rfl)
    (hline : (apos.endLine == pos'.line) = true := by rfl) (hs : starEach [e] X.env = (false, eval e X.env) :: starEach [] X.env := by rfl) (hplain : (backTo pos' (starEach [] X.env)).any (·.1) = false := by rfl)
    (hsw : swapsWith (.Call (.Attribute (.Name x p) "extend" apos) [e] [] pos') none pos.line X.env = pure false := by rfl) :
    DS X T M E nw (.Expr (.Call (.Attribute (.Name x p) "extend" apos) [e] [] pos') pos) (tDrop (tBM X.K "list" rExtend (tVar i) (tCons te tNil))) (mOwExt i me) :=
  ⟨ps_expr (pe_bm PySem.F.plainAttrs_list PySem.F.slot_list_extend PySem.F.type_list_extend mt_extend (pe_var hN hv hd hcd) (pa_cons hb.pe pa_nil hs) hbase hfew hline hs hplain) hsw, ss_owExt (W := ⟨kx X M, T, X.mg, E⟩) i hb.sn⟩
end
end
/-! ### methods of classes: their bodies -/
section
variable {P : Program} {w : World} {K : PySem.W.Frag} {T : List Addr} {mg : Str → Option Value} {base : Heap}
theorem body_D {X : Cx} {E : XK} {N : List Str} {st : List Stmt} {t : TS} {nw : Bool} {ms : Fd → Md Out} {n k : Nat} {vs : List V} {H : Hp} {Q : VK} (hX : X.K = K) (hm : X.mg = mg) (h : DB X T M0 E nw st t ms) (hn : N.length = n) (hv : vs.length ≤ n) (q : spD K T mg nw k (mDef nw n ms) vs H Q E) : t { nx := fun _ H' => Q .non H', rt := Q } (L2.start N vs) H := by
  subst hX
  subst hm
  subst hn
  obtain ⟨hl, tb, ds, B, e, r, wp⟩ := q
  refine h.sn H B H B _ _ _ (slt_start tb e r hv) (wp.bind.mono (fun o q => ?_) fun _ z => z)
  cases o with
  | rt d => exact fun v H' h => q v H' h
  | nx Δ =>
    cases nw with
    | true => exact q.elim
    | false => exact fun H' S' σ' s' => q .non H' ⟨S', s'.gh, s'.bs, s'.sh, s'.fr, .non⟩
  | bk Δ => exact q.elim
  | ct Δ => exact q.elim
theorem fn_okDq {x q : Str} {st : Stmt} {f : Addr} {fd : FuncData} {N ps : List Str} {k n : Nat} {nw : Bool} {ms : Fd → Md Out} (hn : N.length = n) (F : Fun K x q st f fd) (S : FnScope N ps (defScope st))
    (body : ∀ (cdv : Value) (A : Around) (outer : List Env) (s : Shared) (H : Hp) (E : XK), Cok (cxOf (L2N.CX P w) P w K mg base N q (defScope st) f cdv A outer s H E) k E →
      ∃ t, DB (cxOf (L2N.CX P w) P w K mg base N q (defScope st) f cdv A outer s H E) T M0 E nw (defBody st) t ms) :
    FnOk P w K mg base (L2N.CX P w) (k + 1) f fd ps (spD K T mg nw ps.length (mDef nw n ms)) := by
  obtain ⟨oc, od, kV, doc, pm, an, cdv, ct, osl, rfl, lk, hcd⟩ := F.ex
  refine fn_of lk hcd S (fun vs H Q E h => h.1) fun A outer s H vs Q E hr h => ?_
  obtain ⟨t, ht⟩ := body cdv A outer s H E (cok_def hr S.nd)
  have hpl : ps.length ≤ N.length := by
    have := congrArg List.length S.pre
    rw [List.length_take] at this
    omega
  exact ⟨t, ht.ps, body_D rfl rfl ht hn (by have := h.1; omega) h⟩
theorem pm_ok {x q : Str} {st : Stmt} {f C : Addr} {fd : FuncData} {N ps : List Str} {k n : Nat} {nw : Bool} {ms : Fd → Md Out} (hn : N.length = n) (F : Fun K x q st f fd) (S : FnScope N ps (defScope st)) (hm : Meth K C x f) (hb : Binds K fd ps [])
    (body : ∀ (cdv : Value) (A : Around) (outer : List Env) (s : Shared) (H : Hp) (E : XK), Cok (cxOf (L2N.CX P w) P w K mg base N q (defScope st) f cdv A outer s H E) k E →
      ∃ t, DB (cxOf (L2N.CX P w) P w K mg base N q (defScope st) f cdv A outer s H E) T M0 E nw (defBody st) t ms) : PmOk P w K T mg base (k + 1) C x ps nw (mDef nw n ms) := ⟨f, fd, hm, hb, fn_okDq hn F S body⟩
theorem mm_ok {x q : Str} {st : Stmt} {f C : Addr} {fd : FuncData} {N ps : List Str} {k n : Nat} {ms : List Cl → Fd → Mx Out} (hn : N.length = n) (F : Fun K x q st f fd) (S : FnScope N ps (defScope st)) (hm : Meth K C x f) (hb : Binds K fd ps [])
    (body : ∀ (cdv : Value) (A : Around) (outer : List Env) (s : Shared) (H : Hp) (E : XK), Cok (cxOf (L2N.CX P w) P w K mg base N q (defScope st) f cdv A outer s H E) k E →
      ∃ t, XB (cxOf (L2N.CX P w) P w K mg base N q (defScope st) f cdv A outer s H E) T E (defBody st) t ms) : MmOk P w K T mg base (k + 1) C x ps (xDef n ms) := ⟨f, fd, hm, hb, fn_okM hn F S body⟩
theorem mk_ok {c q : Str} {st : Stmt} {f C : Addr} {fd : FuncData} {N ps : List Str} {k n : Nat} {ms : List Cl → Fd → Mx Out} (hn : N.length = n) (F : Fun K "__init__" q st f fd) (S : FnScope N ps (defScope st)) (hc : mg c = some (.ref C)) (hm : Mk K C f) (hb : Binds K fd ps [])
    (body : ∀ (cdv : Value) (A : Around) (outer : List Env) (s : Shared) (H : Hp) (E : XK), Cok (cxOf (L2N.CX P w) P w K mg base N q (defScope st) f cdv A outer s H E) k E →
      ∃ t, XB (cxOf (L2N.CX P w) P w K mg base N q (defScope st) f cdv A outer s H E) T E (defBody st) t ms) : MkOk P w K T mg base (k + 1) c C ps (xDef n ms) := ⟨f, fd, hc, hm, hb, fn_okM hn F S body⟩
theorem mef_ok {x : Str} {st : Stmt} {f : Addr} {fd : FuncData} {N ps : List Str} {k n : Nat} {ms : List Cl → Fd → Mx Out} (hn : N.length = n) (F : Fun K x x st f fd) (S : FnScope N ps (defScope st)) (hm : mg x = some (.ref f)) (hb : Binds K fd ps [])
    (body : ∀ (cdv : Value) (A : Around) (outer : List Env) (s : Shared) (H : Hp) (E : XK), Cok (cxOf (L2N.CX P w) P w K mg base N x (defScope st) f cdv A outer s H E) k E →
      ∃ t, XB (cxOf (L2N.CX P w) P w K mg base N x (defScope st) f cdv A outer s H E) T E (defBody st) t ms) : MefOk P w K T mg base (k + 1) x ps (xDef n ms) := ⟨f, fd, hm, F.kp, hb, fn_okM hn F S body⟩
end
end Mr
/-! Pure defs, called with what code over the store tells. -/
namespace Mr
open PySem L2
def xCallD (n : Nat) (mir : List Dt → Md Dt) (ma : List Cl → Fd → Mx (List Dt)) : List Cl → Fd → Mx Dt := fun m Δ => (ma m Δ).bind fun m1 ds => if nls ds = true ∧ ds.length = n then (mir ds).mx m1 else .bad
theorem sx_callD {W : Wm} {nw : Bool} {n : Nat} {mir : List Dt → Md Dt} {tas : TA} {mas : List Cl → Fd → Mx (List Dt)} (h : SndXA W tas mas) : SndX W (tCall (spD W.K W.T W.mg nw n mir) [] W.E tas) (xCallD n mir mas) := by
  intro G B H S M σ Δ Q s w
  refine h G B H S M σ Δ _ s (w.bind.mono (fun m1 ds k vs H1 S1 r1 l e s1 r => ?_) fun _ _ z => z)
  by_cases hn : nls ds = true ∧ ds.length = n
  · rw [if_pos hn] at k
    show spD W.K W.T W.mg nw n mir (vs ++ []) H1 Q W.E
    rw [List.append_nil]
    refine ⟨by rw [r.length]; exact hn.2, s1.s.tb, ds, S1, s1.s.sh, RpL.nl (K := ⟨W.K, r1, m1⟩) (K' := k0 W.K) rfl r hn.1, (mx_w k).mono (fun d q v H2 rt => ?_) fun c z => xm_pure (M := ⟨r1, m1⟩) s1 (z.up l)⟩
    obtain ⟨S2, h1, h2, h3, h4, h5⟩ := rt
    have g2 : Gr H1 S1 H2 S2 := ⟨h1, h2, h3, h4⟩
    cases nw with
    | true =>
      obtain ⟨h6, h7⟩ := h5
      obtain ⟨S3, g3, x3, r3⟩ := Hd.give g2 h6 h7
      exact q v H2 S3 r1 l (e.trans g3.ss) (s1.grow g3) (Rp.up (K := ⟨W.K, r1, m1⟩) r3)
    | false => exact q v H2 S2 r1 l (e.trans g2.ss) (s1.grow g2) (Rp.up (K := ⟨W.K, r1, m1⟩) h5)
  · rw [if_neg hn] at k
    exact k.elim
section
variable {X : Cx} {T : List Addr} {E : XK} {e : Expr} {es : List Expr} {tas : TA} {mas : List Cl → Fd → Mx (List Dt)} {pos p : Pos} {k j : Nat} {x : Str} {ps : List Str} {nw : Bool} {mir : List Dt → Md Dt}
theorem x_callD {K0 : PySem.W.Frag} {mg0 : Str → Option Value} (cc : Cok X k E) (F : DefOk X.prog X.w K0 T mg0 X.base j x ps nw mir) (h : XA X T E (e :: es) tas mas) (hj : j ≤ k := by decide) (hg : Gl X x := by rfl) (hdb : (x == ("__debug__" : Str)) = false := by decide) (he : starEach (e :: es) X.env = (false, eval e X.env) :: starEach es X.env := by rfl) (hpl : (backTo pos (starEach es X.env)).any (·.1) = false := by rfl) (hK : X.K = K0 := by rfl) (hmg : X.mg = mg0 := by rfl) :
    XE X T E (.Call (.Name x p) (e :: es) [] pos) (tCall (spD K0 T mg0 nw ps.length mir) [] E tas) (xCallD ps.length mir mas) := by
  subst hK
  subst hmg
  obtain ⟨f, fd, hm, hk, hb, ok⟩ := F.ex
  exact ⟨pe_call ok (cc.room.mono hj) hg hm hk hb .nil cc.pas h.pa hdb he hpl, sx_callD (W := ⟨X.K, T, X.mg, E⟩) h.sn⟩
end
end Mr
/-! Sets of tuples of ints of up to 76 elements: own search, own adding above 63. -/
namespace Mr
open PySem PySem.Spec PyProof.Rows L2

/-- where the search stands behind c steps -/
abbrev wst (t : SetTable) (g : Int) (c : Nat) : SetTable.Probe := nth t.mask (runAt t.mask (SetTable.bits g % (t.mask + 1)) (SetTable.bits g)) c
theorem nth_nodm (m : Nat) : ∀ (n : Nat) (p : SetTable.Probe), p.dummy = none → (nth m p n).dummy = none
  | 0, _, h => h
  | n + 1, p, h => nth_nodm m n (adv m p) (by unfold adv; split <;> exact h)
section
variable {P : Program} {w : World} {A : Around} {E : Value → Shared → Prop} {s : Shared}
structure Big (P : Program) (w : World) (h : Heap) (a : Addr) (L : List (Addr × List Int)) (es : Array (Int × Value)) (ep : Nat) (t : SetTable) : Prop where
  obj : ∃ o, h.get? a = some o ∧ o.ExactSet ∧ o.data = .set es ep t
  row : es.toList = rowsOf P w L
  tok : TabOk t (L.map fun p => thash P w p.2)
  one : (L.map (·.2)).Nodup
  tps : ∀ p ∈ L, IsT P w h p.2 p.1
  pl : t.plain = true
  ld : w.params.followText "set-order" = true ∨ t.led = true
  rm : L.length * 5 < t.mask * 3
variable {a : Addr} {L : List (Addr × List Int)} {es : Array (Int × Value)} {ep : Nat} {t : SetTable}
theorem Big.of (R : SetTR P w s.heap a L es ep t) : Big P w s.heap a L es ep t :=
  { obj := R.ob, row := R.rows, tok := R.tab, one := R.nd, tps := R.tup, pl := R.plain, ld := R.led, rm := R.room }
theorem Big.of' {h : Heap} (R : SetTR P w h a L es ep t) : Big P w h a L es ep t :=
  { obj := R.ob, row := R.rows, tok := R.tab, one := R.nd, tps := R.tup, pl := R.plain, ld := R.led, rm := R.room }
theorem Big.small {h : Heap} (R : Big P w h a L es ep t) (z : L.length < 64) : SetTR P w h a L es ep t :=
  { ob := R.obj, rows := R.row, tab := R.tok, nd := R.one, tup := R.tps, plain := R.pl, led := R.ld, room := R.rm, few := z }
theorem Big.count {h : Heap} (R : Big P w h a L es ep t) : es.size = L.length := by
  have q := congrArg List.length R.row
  rw [Array.length_toList] at q
  rw [q]
  exact List.length_map _
theorem Big.placed {h : Heap} (R : Big P w h a L es ep t) : t.place.size = L.length := by
  rw [R.tok.sz]
  exact List.length_map _
theorem Big.fit {h : Heap} (R : Big P w h a L es ep t) : t.fits es.size = true := by
  have q1 := R.placed
  have q2 := R.count
  have q3 := R.rm
  unfold SetTable.fits SetTable.fill
  rw [R.tok.dm]
  simp
  omega
theorem Big.nth {h : Heap} (R : Big P w h a L es ep t) {i : Nat} {p : Addr × List Int} (z : L[i]? = some p) : es[i]? = some (thash P w p.2, Value.ref p.1) := by
  have q : es.toList[i]? = (rowsOf P w L)[i]? := by rw [R.row]
  rw [Array.getElem?_toList] at q
  rw [q]
  show (L.map _)[i]? = _
  rw [List.getElem?_map, z]
  rfl
theorem Big.stays {h : Heap} (R : Big P w h a L es ep t) : ¬ t.gaveWay = true := by
  have q := mask_odd R.tok.mok
  unfold SetTable.gaveWay
  rw [q]
  decide

/-- the search, told from its c-th step on -/
theorem hunt (R : Big P w s.heap a L es ep t) {x : Addr} {k : List Int} (hx : IsT P w s.heap k x) (hu : A.units < cLine) {N : Nat} (bound : N < 10 * SetTable.turns t.mask)
    (free : way t.mask (thash P w k) N ∉ t.place.toList) (taken : ∀ c, c < N → way t.mask (thash P w k) c ∈ t.place.toList) {Q : SetFound → Shared → Prop}
    (yes : k ∈ L.map (·.2) → Q (.there none) s) (no : k ∉ L.map (·.2) → Q (.free (way t.mask (thash P w k) N) false) s) :
    ∀ (fuel c : Nat) (st : Option SetTable.Probe), st.getD (t.probeStart (thash P w k)) = wst t (thash P w k) c → c ≤ N → N - c < fuel →
      (∀ (i : Nat) p, L[i]? = some p → p.2 = k → ∃ b, c ≤ b ∧ b < N ∧ t.place.toList[i]? = some (way t.mask (thash P w k) b)) →
      wpAny (model P w) A (setSearchFrom a (.ref x) (thash P w k) true fuel st) Q E s := by
  intro fuel
  induction fuel with
  | zero => exact fun c st _ _ z => absurd z (Nat.not_lt_zero _)
  | succ fuel ih =>
    intro c st hst hcN hfu seen
    obtain ⟨o, so, sx, sd⟩ := R.obj
    rw [setSearchFrom_succ]
    refine wpAny_bind (wpAny_setState_of so sd R.fit ?_)
    dsimp only
    refine wp_if_neg R.stays ?_
    try refine wpAny_bind (wpAny_pure ?_)
    have nodm : (wst t (thash P w k) c).dummy = none := nth_nodm _ _ _ rfl
    have shift : ∀ q, L2.nth t.mask (wst t (thash P w k) c) q = wst t (thash P w k) (c + q) := fun q => (nth_add t.mask c _ q).symm
    have shiftj : ∀ q, (L2.nth t.mask (wst t (thash P w k) c) q).j = way t.mask (thash P w k) (c + q) := fun q => congrArg SetTable.Probe.j (shift q)
    have told := go_spec t R.tok.ris R.tok.dm (fun i => (es[i]?.map (·.1)).getD 0) (thash P w k) (10 * SetTable.turns t.mask) (N - c) (wst t (thash P w k) c) nodm (by omega)
      (fun q z => by rw [shiftj]; exact taken (c + q) (by omega)) (by rw [shiftj, Nat.add_sub_cancel' hcN]; exact free)
    have hashes : ∀ (i : Nat) p, L[i]? = some p → ((es[i]?.map (·.1)).getD 0 : Int) = thash P w p.2 := fun i p z => by
      rw [R.nth z]
      rfl
    rcases told with ⟨q, i, qN, at_i, eqh, before, met⟩ | ⟨before, met⟩
    · have met' : t.probe (fun i => (es[i]?.map (·.1)).getD 0) (thash P w k) (st.getD (t.probeStart (thash P w k))) = some (.candidate (way t.mask (thash P w k) (c + q)) i (wst t (thash P w k) (c + (q + 1)))) := by
        rw [hst, ← shiftj, ← shift]
        exact met
      rw [met']
      dsimp only
      rw [shiftj] at at_i
      have iL : i < L.length := by
        have z := (List.getElem?_eq_some_iff.mp at_i).1
        rw [Array.length_toList, R.placed] at z
        exact z
      obtain ⟨p, hp⟩ : ∃ p, L[i]? = some p := ⟨_, List.getElem?_eq_getElem iL⟩
      have pin := List.mem_of_getElem? hp
      have onward : wpAny (model P w) A (searchRest a (.ref x) (thash P w k) true fuel es t (way t.mask (thash P w k) (c + q)) i (wst t (thash P w k) (c + (q + 1)))) Q E s := by
        unfold searchRest
        rw [R.nth hp]
        dsimp only
        refine wpAny_bind (wpAny_holding (wpAny_eqBool_tuple hu (R.tps p pin) hx ?_))
        refine wpAny_bind (wpAny_setState_of so sd R.fit ?_)
        dsimp only
        rcases Classical.em (p.2 = k) with same | other
        · refine wp_if_pos (by simp [same]) (wpAny_pure (yes ?_))
          exact List.mem_map.mpr ⟨p, pin, same⟩
        · refine wp_if_neg (by simp [other]) ?_
          try refine wpAny_bind (wpAny_pure ?_)
          rw [sameMem]
          dsimp only
          have live : t.slot (way t.mask (thash P w k) (c + q)) = .live i := slot_live R.tok.ris at_i
          simp only [if_true, live, R.nth hp]
          refine wpAny_bind (wpAny_isSame_ref_self (wpAny_bind (wpAny_pure ?_)))
          simp only [if_true]
          refine wp_if_neg (by simp [other]) ?_
          refine ih (c + (q + 1)) _ rfl (by omega) (by omega) fun i1 p1 z1 k1 => ?_
          obtain ⟨b, b1, b2, b3⟩ := seen i1 p1 z1 k1
          refine ⟨b, ?_, b2, b3⟩
          by_cases z : b < c + q
          · exfalso
            refine before (b - c) i1 (by omega) (by rw [shiftj, Nat.add_sub_cancel' b1]; exact b3) ?_
            rw [hashes i1 p1 z1, k1]
          · by_cases y : b = c + q
            · exfalso
              subst y
              have two := slot_live R.tok.ris b3
              rw [live] at two
              injection two with two
              subst two
              rw [hp] at z1
              exact other (by rw [Option.some.inj z1]; exact k1)
            · omega
      by_cases led : t.led = true
      · refine wp_if_neg (by simp [led]) ?_
        try refine wpAny_bind (wpAny_pure ?_)
        exact onward
      · refine wp_if_pos (by simp [led]) ?_
        refine wpAny_bind (seen_tup hx (fun y hy => ?_) ?_)
        · obtain ⟨e, em, ey⟩ := List.mem_map.mp hy
          have em1 : e ∈ es.toList := by
            have z : e ∈ es ∧ e.1 = thash P w k := by simpa using em
            simpa using z.1
          rw [R.row] at em1
          obtain ⟨p2, m2, e2⟩ := List.mem_map.mp em1
          exact ⟨p2.2, p2.1, by rw [← ey, ← e2], R.tps p2 m2⟩
        · refine wp_if_neg (by decide) ?_
          try refine wpAny_bind (wpAny_pure ?_)
          exact onward
    · have met' : t.probe (fun i => (es[i]?.map (·.1)).getD 0) (thash P w k) (st.getD (t.probeStart (thash P w k))) = some (.empty (way t.mask (thash P w k) N) none) := by
        have z := shiftj (N - c)
        rw [Nat.add_sub_cancel' hcN] at z
        rw [hst, ← z]
        exact met
      rw [met']
      dsimp only
      refine wpAny_pure (no fun inL => ?_)
      obtain ⟨p1, m1, k1⟩ := List.mem_map.mp inL
      obtain ⟨i1, l1, e1⟩ := List.getElem_of_mem m1
      have z1 : L[i1]? = some p1 := by rw [List.getElem?_eq_getElem l1, e1]
      obtain ⟨b, b1, b2, b3⟩ := seen i1 p1 z1 k1
      refine before (b - c) i1 (by omega) (by rw [shiftj, Nat.add_sub_cancel' b1]; exact b3) ?_
      rw [hashes i1 p1 z1, k1]

/-- the search from its beginning -/
theorem hunt0 (R : Big P w s.heap a L es ep t) {x : Addr} {k : List Int} (hx : IsT P w s.heap k x) (hu : A.units < cLine) {Q : SetFound → Shared → Prop}
    (yes : k ∈ L.map (·.2) → Q (.there none) s)
    (no : ∀ N, k ∉ L.map (·.2) → way t.mask (thash P w k) N ∉ t.place.toList → (∀ c, c < N → way t.mask (thash P w k) c ∈ t.place.toList) → Q (.free (way t.mask (thash P w k) N) false) s) :
    wpAny (model P w) A (setSearch a (.ref x) (thash P w k) true) Q E s := by
  have rm := R.rm
  have hl : (L.map fun p => thash P w p.2).length ≤ t.mask := by
    rw [List.length_map]
    omega
  obtain ⟨N, n1, n2, n3⟩ := R.tok.first hl (thash P w k)
  have n4 : N < 100000 := by
    have z : SetTable.turns t.mask ≤ 142 := by
      unfold SetTable.turns
      rcases R.tok.mok with m | m | m <;> rw [m] <;> omega
    omega
  unfold setSearch
  refine hunt R hx hu n1 n2 n3 yes (fun z => no N z n2 n3) 100000 0 none rfl (Nat.zero_le N) (by omega) fun i p z kk => ?_
  have iL := (List.getElem?_eq_some_iff.mp z).1
  have ip : i < t.place.toList.length := by
    rw [Array.length_toList, R.placed]
    exact iL
  have hh : (L.map fun p => thash P w p.2)[i]? = some (thash P w k) := by
    rw [List.getElem?_map, z, ← kk]
    rfl
  obtain ⟨b, b1, b2⟩ := R.tok.before n2 hh (List.getElem?_eq_getElem ip)
  exact ⟨b, Nat.zero_le b, b1, by rw [List.getElem?_eq_getElem ip, b2]⟩
end
end Mr
namespace Mr
open PySem PySem.Spec PyProof.Rows L2
section
variable {P : Program} {w : World} {A : Around} {E : Value → Shared → Prop} {s : Shared}
variable {a : Addr} {L : List (Addr × List Int)} {es : Array (Int × Value)} {ep : Nat} {t : SetTable}
/-- one more, or none: up to 76 -/
theorem put_in (R : Big P w s.heap a L es ep t) {x : Addr} {k : List Int} (hx : IsT P w s.heap k x) (hu : A.units < cLine) (top : L.length + 1 ≤ 76) {Q : Bool → Shared → Prop}
    (hQ : ∀ b h' L' es' ep' t', Heap.SameBut a s.heap h' → Big P w h' a L' es' ep' t' → (k ∈ L.map (·.2) → L' = L) → (k ∉ L.map (·.2) → L'.Perm ((x, k) :: L)) → Q b { s with heap := h' }) :
    wpAny (model P w) A (setAddHashed a (.ref x) (thash P w k)) Q E s := by
  by_cases few : L.length + 1 < 64
  · exact add_at (R.small (by omega)) hx hu few fun b h' L' es' ep' t' sb R' => hQ b h' L' es' ep' t' sb (Big.of' R')
  obtain ⟨o, so, sx, sd⟩ := R.obj
  have mk : t.mask = 127 := by
    have rm := R.rm
    rcases R.tok.mok with m | m | m
    · rw [m] at rm; omega
    · rw [m] at rm; omega
    · exact m
  unfold setAddHashed
  refine wpAny_holding ?_
  rw [show (100000 : Nat) = 99999 + 1 from rfl]
  rw [setAddHashedIn_succ]
  refine wpAny_bind (wpAny_setState_of so sd R.fit ?_)
  dsimp only
  refine wp_if_neg (by simp [byScan, Value.scannable]) ?_
  try refine wpAny_bind (wpAny_pure ?_)
  refine wpAny_bind (hunt0 R hx hu (fun inL => ?_) fun N out free taken => ?_)
  · dsimp only
    refine wpAny_pure (hQ false s.heap L es ep t (Heap.SameBut.refl a s.heap) R (fun _ => rfl) fun z => ?_)
    exact absurd inL z
  · dsimp only
    refine wpAny_bind (wpAny_setState_of so sd R.fit ?_)
    dsimp only
    obtain ⟨u1, u2, u3, u4, u5, u6, u7, u8, u9⟩ := R.tok.put free taken
    have pl1 : (t.put (way t.mask (thash P w k) N)).1.plain = true := u6.trans R.pl
    generalize hput : t.put (way t.mask (thash P w k) N) = both at u1 u3 u4 u5 u6 u7 u8 u9 pl1 ⊢
    obtain ⟨t1, pp⟩ := both
    dsimp only at u1 u3 u4 u5 u6 u7 u8 u9 pl1 ⊢
    subst u1
    first
      | (refine wpAny_bind ?_; refine wp_if_pos pl1 ?_; refine hashBy_tup hx ?_)
      | refine wp_if_pos pl1 (wpAny_bind (hashBy_tup hx ?_))
    simp only [if_true]
    have inner : (SetTable.insertAt es (SetTable.below t.place (way t.mask (thash P w k) N)) (thash P w k, Value.ref x)).toList = rowsOf P w (L.take (SetTable.below t.place (way t.mask (thash P w k) N)) ++ (x, k) :: L.drop (SetTable.below t.place (way t.mask (thash P w k) N))) := by
      rw [rows_put, SetTable.toList_insertAt, R.row]
    generalize SetTable.below t.place (way t.mask (thash P w k) N) = m at u2 u3 inner ⊢
    have perm := put_perm L m (x, k)
    have many : (L.take m ++ (x, k) :: L.drop m).length = L.length + 1 := perm.length_eq
    have hash1 : (L.map fun p => thash P w p.2).take m ++ thash P w k :: (L.map fun p => thash P w p.2).drop m = (L.take m ++ (x, k) :: L.drop m).map (fun p => thash P w p.2) := by
      rw [List.map_append, List.map_cons, List.map_take, List.map_drop]
    rw [hash1] at u3
    have one1 : ((L.take m ++ (x, k) :: L.drop m).map (·.2)).Nodup := by
      refine (perm.map (·.2)).nodup_iff.mpr ?_
      rw [List.map_cons, List.nodup_cons]
      exact ⟨out, R.one⟩
    generalize L.take m ++ (x, k) :: L.drop m = L1 at perm many u3 one1 inner
    have size1 : (SetTable.insertAt es m (thash P w k, Value.ref x)).size = L.length + 1 := by
      rw [← Array.length_toList, inner, ← many]
      exact List.length_map _
    generalize SetTable.insertAt es m (thash P w k, Value.ref x) = es1 at inner size1 ⊢
    refine wpAny_bind (wpAny_storeSet_of so sd ?_ (by rw [size1, sizeLine_eq]; omega))
    have sb : Heap.SameBut a s.heap (s.heap.update a (Obj.putSet es1 t1)) := Heap.SameBut.update ..
    have so1 := store_at (es' := es1) (t' := t1) so sd
    generalize s.heap.update a (Obj.putSet es1 t1) = h1 at sb so1 ⊢
    have tps1 : ∀ p ∈ L1, IsT P w h1 p.2 p.1 := fun p z => by
      rcases List.mem_cons.mp (perm.mem_iff.mp z) with e | z
      · subst e
        exact isT_same hx so sd sb
      · exact isT_same (R.tps p z) so sd sb
    have room : ¬ t1.tooFull = true := by
      unfold SetTable.tooFull
      rw [decide_eq_true_eq, u9, List.length_map, u4, mk]
      omega
    first
      | refine wp_if_neg (by simp [room]) ?_
      | (refine wpAny_bind ?_; refine wp_if_neg (by simp [room]) ?_; refine wpAny_pure ?_)
    refine wpAny_pure (hQ true h1 L1 es1 (ep + 1) t1 sb { obj := ⟨_, so1, ⟨sx.1, sx.2.1, sx.2.2⟩, rfl⟩, row := inner, tok := u3, one := one1, tps := tps1, pl := pl1, ld := by rw [u5]; exact R.ld, rm := ?_ } (fun z => absurd z out) fun _ => perm)
    rw [u4, mk, many]
    omega

theorem Big.keep {h h' : Heap} (R : Big P w h a L es ep t) (ka : ∀ o, h.get? a = some o → h'.get? a = some o) (kt : ∀ p ∈ L, IsT P w h' p.2 p.1) : Big P w h' a L es ep t := by
  obtain ⟨o, so, sr⟩ := R.obj
  exact { R with obj := ⟨o, ka o so, sr⟩, tps := kt }

/-- the loop of set.update over up to 76 -/
theorem feed {I : Addr} {fp wr : List Addr} {G : Array GenState → Array GenState → Prop} {n : Nat} {Pv : Nat → Value → Prop} {St : Nat → Shared → Prop} {R : Result → Shared → Prop}
    (W : WalksS P w A.in1 I fp wr G n Pv St) (S : Addr) (apart : S ∉ fp) (ks : List (Addr × List Int)) (hn : n = ks.length) (top : ks.length ≤ 76) (items : ∀ i v, Pv i v → ∃ p, ks[i]? = some p ∧ v = .ref p.1)
    (h0 : Heap) (hk : ∀ p ∈ ks, IsT P w h0 p.2 p.1) (newS : h0.get? S = none) (newW : ∀ b ∈ wr, h0.get? b = none) (hu : A.in1.units < cLine) :
    ∀ (left i : Nat) (s : Shared), n - i = left → i ≤ n → St i s → (∀ b o, h0.get? b = some o → s.heap.get? b = some o) → (∃ L es ep t, Big P w s.heap S L es ep t ∧ Got ks i L) →
      (∀ s' L es ep t, Moved (S :: wr) G s s' → Big P w s'.heap S L es ep t → Got ks n L → (∀ b o, h0.get? b = some o → s'.heap.get? b = some o) → R (.ok (.ret .none)) s') →
      codeAny (model P w) A (.builtin "set.update.loop" ⟨[.ref S, .ref I], []⟩) R s := by
  have notw : S ∉ wr := fun z => apart (W.sub _ z)
  have wider : ∀ b ∈ wr, b ∈ S :: wr := fun b z => List.mem_cons_of_mem _ z
  have held : ∀ {s s' : Shared}, Moved wr G s s' → (∀ b o, h0.get? b = some o → s.heap.get? b = some o) → ∀ b o, h0.get? b = some o → s'.heap.get? b = some o := fun mv kp b o e =>
    mv.heap b o (fun z => by have q := newW b z; rw [e] at q; cases q) (kp b o e)
  intro left
  induction left with
  | zero =>
    intro i s hl hi hst kp ⟨L, es, ep, t, B, g⟩ done
    obtain rfl : i = n := by omega
    refine codeAny_builtin F.entry_set_update_loop ?_
    rw [Around.under_plainId F.plain_set_update_loop _]
    show wpAny _ A.in1 (pyNext (.ref I) >>= _) _ _ s
    refine wpAny_bind (W.done s _ _ hst fun s' mv => ?_)
    show wpAny _ A.in1 (ret Value.none) _ _ s'
    have kp' := held mv kp
    have B' : Big P w s'.heap S L es ep t := B.keep (fun o e => mv.heap S o notw e) fun p z => isT_keep (hk p (List.mem_of_mem_take (g.sub p z))) kp'
    exact wpAny_pure (done s' L es ep t (mv.mono wider) B' g kp')
  | succ left ih =>
    intro i s hl hi hst kp ⟨L, es, ep, t, B, g⟩ done
    have il : i < n := by omega
    refine codeAny_builtin F.entry_set_update_loop ?_
    rw [Around.under_plainId F.plain_set_update_loop _]
    show wpAny _ A.in1 (pyNext (.ref I) >>= _) _ _ s
    refine wpAny_bind (W.item i s _ _ il hst fun v s' pv st' mv => ?_)
    obtain ⟨p, hp, rfl⟩ := items i v pv
    have kp' := held mv kp
    have B' : Big P w s'.heap S L es ep t := B.keep (fun o e => mv.heap S o notw e) fun q z => isT_keep (hk q (List.mem_of_mem_take (g.sub q z))) kp'
    have hx : IsT P w s'.heap p.2 p.1 := isT_keep (hk p (List.mem_of_getElem? hp)) kp'
    show wpAny _ A.in1 (holding [Value.ref p.1] (setAdd S (.ref p.1)) >>= _) _ _ s'
    refine wpAny_bind (wpAny_holding ?_)
    unfold setAdd
    refine wpAny_holding ?_
    refine wpAny_bind (wpAny_pyHash_tuple hu hx ?_)
    refine put_in (s := { s' with toks := s'.toks + (p.2.length + 1) }) B' hx hu (by have z := g.len; omega) fun b h' L' es' ep' t' sb B2 c1 c2 => ?_
    have g' : Got ks (i + 1) L' := by
      by_cases c : p.2 ∈ L.map (·.2)
      · rw [c1 c]
        exact g.same hp c
      · exact g.more hp (c2 c)
    have kp2 : ∀ b o, h0.get? b = some o → h'.get? b = some o := fun b o e => by
      have z : b ≠ S := fun z => by rw [z, newS] at e; cases e
      rw [sb.2 b z]
      exact kp' b o e
    have st2 := W.frame (i + 1) s' h' (s'.toks + (p.2.length + 1)) st' (Nat.le_add_right _ _) fun b z o e => by
      rw [sb.2 b (fun y : b = S => apart (by rw [← y]; exact z))]
      exact e
    refine wpAny_pure ⟨plainId_quiet F.plain_set_update_loop _, ih (i + 1) _ (by omega) il st2 kp2 ⟨L', es', ep', t', B2, g'⟩ fun s3 L3 es3 ep3 t3 mv3 B3 g3 kp3 => ?_⟩
    refine done s3 L3 es3 ep3 t3 (Moved.trans W.gtrans ((mv.mono wider).then_heap (Nat.le_add_right _ _) fun b o z e => ?_) mv3) B3 g3 kp3
    rw [sb.2 b (fun y : b = S => z (by rw [y]; exact List.mem_cons_self))]
    exact e
end
end Mr
namespace Mr
open PySem PySem.Spec PyProof.Rows L2
/-- the set's table at its beginning -/
abbrev tab0 (w : World) : SetTable := .fresh 0 0 (!w.params.followText "set-order")
abbrev set0 (w : World) : Obj := { cls := .type "set", dict := none, data := .set #[] 0 (tab0 w) }
section
variable {P : Program} {w : World} {A : Around} {E : Value → Shared → Prop} {s : Shared}
theorem got_ge {ks : List (Addr × List Int)} {n : Nat} {L : List (Addr × List Int)} (g : Got ks n L) (e : n = ks.length) : Got ks ks.length L := by
  rw [← e]
  exact g
theorem fresh_none {h : Heap} {b : Addr} (z : h.objs.size ≤ b) : h.get? b = none := by
  cases q : h.get? b with
  | none => rfl
  | some o => exact absurd (Heap.lt_size q) (Nat.not_lt.mpr z)
/-- set(xs), up to 76 tuples -/
theorem made_set {l : Addr} {its : Array Value} (ks : List (Addr × List Int)) {Q : Value → Shared → Prop} (calm : A.handled = none) (isl : s.heap.IsList l its) (same : its.toList = ks.map fun p => Value.ref p.1)
    (hk : ∀ p ∈ ks, IsT P w s.heap p.2 p.1) (top : ks.length ≤ 76) (hu : A.units + 3 < cLine)
    (fin : ∀ (h' : Heap) (tk : Nat) L es ep t, Big P w h' s.heap.objs.size L es ep t → Got ks ks.length L → (∀ b o, s.heap.get? b = some o → h'.get? b = some o) → Q (.ref s.heap.objs.size) { s with heap := h', toks := tk }) :
    wpAny (model P w) A (call (.type "set") [.ref l]) Q E s := by
  have size : its.size = ks.length := by
    rw [← Array.length_toList, same]
    exact List.length_map _
  obtain ⟨c, tl, mro⟩ := F.called_set.mro
  have f1 := F.called_set.made
  have f2 := F.called_set.sub
  have f3 := F.called_set.notType
  have f4 := F.called_set.canCreate
  have f5 := F.typeCall_set_1 (.ref l)
  refine wpAny_call (codeAny_of_tree ?_)
  show wpAny _ _ (callAny (.type "set") _) _ _ _
  refine wpAny_pure ⟨Code.quiet_builtin _ (by decide +kernel), codeAny_builtin F.entry_type_call ?_⟩
  rw [Around.under_plain (weight_type_call_type "set" [.ref l] []) rfl]
  repeat (any_goals (first | assumption | wp_step))
  refine codeAny_mono (code_set_led1 (.ref l) (E := E) (Q₁ := fun o s1 => o = .ref s.heap.objs.size ∧ s1 = { s with heap := s.heap.push (set0 w) }) ⟨rfl, rfl⟩) fun r s1 hr => ?_
  rcases r with e | fl
  · exact hr
  rcases fl with _ | obj | _ | _
  case ret =>
    obtain ⟨rfl, rfl⟩ := hr
    have at0 : (s.heap.push (set0 w)).get? s.heap.objs.size = some (set0 w) := Heap.get?_push_size _ rfl
    have ty0 : Shared.TypeIs { s with heap := s.heap.push (set0 w) } (.ref s.heap.objs.size) "set" := ⟨_, at0, rfl⟩
    have f6 := F.called_set.init.lookup
    have f7 := F.called_set.init.bind (.ref s.heap.objs.size)
    repeat (any_goals (first | assumption | wp_step))
    refine codeAny_mono (codeAny_call_builtin (R := wants (fun r s2 => r = .none ∧ ∃ h' tk L es ep t, s2 = { s with heap := h', toks := tk } ∧ Big P w h' s.heap.objs.size L es ep t ∧ Got ks ks.length L ∧ ∀ b o, s.heap.get? b = some o → h'.get? b = some o) E)
      F.called_set.init.plain F.entry_set_init (check_set_init_1 ty0 ?_)) fun r2 s2 hr2 => ?_
    · obtain ⟨ol, sl, cl, nl, dl⟩ := isl
      obtain ⟨ocls, odict, odata, oslots⟩ := ol
      simp only at cl dl
      subst cl
      subst dl
      have sl1 : (s.heap.push (set0 w)).get? l = some { cls := .type "list", dict := odict, data := .seq its nl, slots := oslots } := Heap.get?_push_of_some _ sl
      have g1 := F.sub_list_set
      have g2 := F.sub_list_frozenset
      have g3 : (Value.type "list" == Value.type "dict") = false := by decide
      have isl1 : (s.heap.push (set0 w)).IsList l its := ⟨_, sl1, rfl, nl, rfl⟩
      unfold Builtin.«set.__init__» noKeywords Builtin.Frozenset.updateFrom
      generalize PIe : pyIter = PI
      wp_walk
      subst PIe
      refine wpAny_pyIter_list isl1 ?_
      refine wpAny_bind (wpAny_runValue ?_)
      have lS : l < s.heap.objs.size := Heap.lt_size sl
      have calm3 : A.in1.in1.in1.handled = none := by simp [calm]
      have sz1 : (s.heap.push (set0 w)).objs.size = s.heap.objs.size + 1 := Heap.size_push ..
      have apartI : l ≠ (s.heap.push (set0 w)).objs.size := by
        rw [sz1]
        exact fun z => absurd lS (by rw [z]; exact Nat.not_lt.mpr (Nat.le_succ _))
      have apartS : s.heap.objs.size ∉ [(s.heap.push (set0 w)).objs.size, l] := by
        rw [sz1]
        refine List.not_mem_cons_of_ne_of_not_mem (fun z => ?_) (List.not_mem_cons_of_ne_of_not_mem (fun z => ?_) List.not_mem_nil)
        · exact absurd z (Nat.ne_of_lt (Nat.lt_succ_self _))
        · exact absurd z (Nat.ne_of_gt lS)
      have told : ∀ (i : Nat) (v : Value), its[i]? = some v → ∃ p, ks[i]? = some p ∧ v = .ref p.1 := fun i v z => by
        rw [← Array.getElem?_toList, same, List.getElem?_map] at z
        obtain ⟨p, zp, e⟩ := Option.map_eq_some_iff.mp z
        exact ⟨p, zp, e.symm⟩
      have at2 : ((s.heap.push (set0 w)).push { cls := .type "list_iterator", data := .fields #[.ref l, .int 0 0] }).get? s.heap.objs.size = some (set0 w) := Heap.get?_push_of_some _ at0
      refine feed (Walks.list calm3 _ l apartI its).toS s.heap.objs.size apartS ks size top told s.heap hk (fresh_none (Nat.le_refl _)) (fun b z => fresh_none ?_) hu (its.size - 0) 0 _ rfl (Nat.zero_le _)
        ⟨⟨_, Heap.get?_push_size _ rfl, rfl, rfl⟩, isl1.push _⟩ (fun b o e => Heap.get?_push_of_some _ (Heap.get?_push_of_some _ e)) ⟨[], #[], 0, _, Big.of' (setTR_fresh at2), Got.zero ks⟩ fun s' L es ep t mv B g kp => ?_
      · rw [List.mem_singleton.mp z, sz1]
        exact Nat.le_succ _
      · obtain ⟨h', ge, dr, tk, os'⟩ := s'
        obtain rfl : ge = s.gens := mv.gens
        obtain rfl : dr = s.drawn := mv.drawn
        obtain rfl : os' = s.os := mv.os
        show wpAny _ _ _ _ _ _
        refine wpAny_pure ?_
        show wpAny _ _ (ret Value.none) _ _ _
        exact wpAny_pure ⟨rfl, h', tk, L, es, ep, t, rfl, B, got_ge g size, kp⟩
    · rcases r2 with e | fl2
      · exact hr2
      rcases fl2 with _ | r3 | _ | _
      case ret =>
        obtain ⟨rfl, h', tk, L, es, ep, t, rfl, B, g, kp⟩ := hr2
        repeat (any_goals (first | assumption | wp_step))
        exact fin _ _ _ _ _ _ B g kp
      all_goals exact hr2.elim
  all_goals exact hr.elim
end
end Mr
namespace Mr
open PySem PySem.Spec PyProof.Rows L2
/-- each once -/
def distinct : List (Int × Int) → List (Int × Int)
  | [] => []
  | p :: ps => if p ∈ ps then distinct ps else p :: distinct ps
theorem mem_distinct {x : Int × Int} : ∀ {ps : List (Int × Int)}, x ∈ distinct ps ↔ x ∈ ps
  | [] => Iff.rfl
  | p :: ps => by
    unfold distinct
    by_cases h : p ∈ ps
    · rw [if_pos h, mem_distinct, List.mem_cons]
      exact ⟨.inr, fun z => z.elim (fun e => by rw [e]; exact h) id⟩
    · rw [if_neg h, List.mem_cons, List.mem_cons, mem_distinct]
theorem distinct_nodup : ∀ (ps : List (Int × Int)), (distinct ps).Nodup
  | [] => List.nodup_nil
  | p :: ps => by
    unfold distinct
    by_cases h : p ∈ ps
    · rw [if_pos h]
      exact distinct_nodup ps
    · rw [if_neg h]
      exact List.nodup_cons.mpr ⟨fun z => h (mem_distinct.mp z), distinct_nodup ps⟩
theorem distinct_le : ∀ (ps : List (Int × Int)), (distinct ps).length ≤ ps.length
  | [] => Nat.le_refl _
  | p :: ps => by
    unfold distinct
    by_cases h : p ∈ ps
    · rw [if_pos h]
      exact Nat.le_succ_of_le (distinct_le ps)
    · rw [if_neg h]
      exact Nat.succ_le_succ (distinct_le ps)
theorem distinct_id : ∀ {ps : List (Int × Int)}, ps.Nodup → distinct ps = ps
  | [], _ => rfl
  | p :: ps, h => by
    obtain ⟨a, b⟩ := List.nodup_cons.mp h
    unfold distinct
    rw [if_neg a, distinct_id b]
theorem distinct_lt : ∀ {ps : List (Int × Int)}, ¬ ps.Nodup → (distinct ps).length < ps.length
  | [], h => absurd List.nodup_nil h
  | p :: ps, h => by
    unfold distinct
    by_cases c : p ∈ ps
    · rw [if_pos c]
      exact Nat.lt_succ_of_le (distinct_le ps)
    · rw [if_neg c]
      exact Nat.succ_lt_succ (distinct_lt fun z => h (List.nodup_cons.mpr ⟨c, z⟩))
/-- two lists without a thing twice, of the same things -/
theorem same_len {α : Type} {l m : List α} (hl : l.Nodup) (hm : m.Nodup) (h : ∀ x, x ∈ l ↔ x ∈ m) : l.length = m.length := by
  exact ((List.perm_ext_iff_of_nodup hl hm).mpr h).length_eq
def two (p : Int × Int) : List Int := [p.1, p.2]
theorem two_inj {p q : Int × Int} (h : two p = two q) : p = q := by
  obtain ⟨a, b⟩ := p
  obtain ⟨c, d⟩ := q
  injection h with h1 h2
  injection h2 with h2
  exact Prod.ext h1 h2
/-- the tuples' places -/
theorem pair_places {H : Hp} : ∀ {xs : List V} {ps : List (Int × Int)}, Paired (fun v p => ∃ t, v = V.ref t ∧ H t = some (.tup [.int p.1, .int p.2])) xs ps →
    ∃ ks : List (Addr × List Int), xs = (ks.map fun k => V.ref k.1) ∧ ks.map (·.2) = ps.map two ∧ ∀ k ∈ ks, H k.1 = some (.tup (k.2.map V.int))
  | _, _, .nil => ⟨[], rfl, rfl, fun _ z => nomatch z⟩
  | _, _, .cons (b := p) ⟨t, e, ht⟩ r => by
    obtain ⟨ks, h1, h2, h3⟩ := pair_places r
    refine ⟨(t, two p) :: ks, by rw [e, h1]; rfl, by rw [List.map_cons, List.map_cons, h2], fun k z => ?_⟩
    rcases List.mem_cons.mp z with z | z
    · rw [z]
      exact ht
    · exact h3 k z
def dLenSet : Dt → Md Dt
  | .lst ds => (match toPairs ds with
    | some ps => if ps.length ≤ 76 then .ok (.int (distinct ps).length) else .bad
    | none => .bad)
  | _ => .bad
def tLenSetP (K : PySem.W.Frag) (ta : TE) : TE := fun σ H Q => ta σ H fun x H1 => ∃ (a : Addr) (xs : List V) (ps : List (Int × Int)), x = .ref a ∧ SqL K H1 a xs ∧ Paired (fun v p => ∃ t, v = V.ref t ∧ H1 t = some (.tup [.int p.1, .int p.2])) xs ps ∧ ps.length ≤ 76 ∧ Q (.int (distinct ps).length) H1
theorem pe_lenSetP {X : Cx} {a : Expr} {ta : TE} {p p2 q pos : Pos} (hc : X.calm = true) (hu : X.A.units + 64 < cLine) (hg : Gl X "len") (hm : X.mg "len" = none) (hg2 : Gl X "set") (hm2 : X.mg "set" = none) (ha : PE X a ta)
    (hs : starEach [Expr.Call (.Name "set" p2) [a] [] q] X.env = (false, eval (Expr.Call (.Name "set" p2) [a] [] q) X.env) :: starEach [] X.env) (hs2 : starEach [a] X.env = (false, eval a X.env) :: starEach [] X.env) : PE X (.Call (.Name "len" p) [.Call (.Name "set" p2) [a] [] q] [] pos) (tLenSetP X.K ta) := by
  refine ⟨fun pins s σ H Q I h => ?_⟩
  refine Call_ (ld_blt I hg hm PySem.boot_len ?_)
  refine PyProof.Rows.callWith_builtin1 (PyProof.Rows.args_cons ?_ rfl) hs rfl
  refine Call_ (ld_blt I hg2 hm2 PyProof.Rows.boot_set ?_)
  refine PyProof.Rows.callWith_type1 (PyProof.Rows.args_cons (thn (ha.run pins s σ H _ I h) fun v s1 ⟨x, H1, I1, r1, q1⟩ => PyProof.Rows.args_nil ?_) hs2) hs2 rfl
  obtain ⟨l, xs, ps, rfl, hq, hp, top, q1⟩ := q1
  cases r1
  obtain ⟨ks, e1, e2, e3⟩ := pair_places hp
  subst e1
  obtain ⟨its, rv, pl, _⟩ := I1.list hq
  have kl : ks.length = ps.length := by
    have z := congrArg List.length e2
    rw [List.length_map, List.length_map] at z
    exact z
  refine made_set (P := X.prog) (w := X.w) ks (I1.ok.hd hc) pl.isList (by simpa using refs_of_vals rv) (fun k z => I1.isT (.of (e3 k z))) (by omega) (by omega) fun h' tk L es ep t B g kp => ?_
  refine PyProof.Rows.args_nil ?_
  obtain ⟨o, so, sx, sd⟩ := B.obj
  have num : L.length = (distinct ps).length := by
    have z1 : ((distinct ps).map two).Nodup := (List.pairwise_map.mpr ((distinct_nodup ps).imp fun ne e => ne (two_inj e)))
    have z2 : (L.map (·.2)).length = ((distinct ps).map two).length := same_len B.one z1 fun y => by
      constructor
      · intro z
        obtain ⟨k, zk, ey⟩ := List.mem_map.mp z
        have zk2 : k.2 ∈ ps.map two := by
          rw [← e2]
          exact List.mem_map.mpr ⟨k, List.mem_of_mem_take (g.sub k zk), rfl⟩
        obtain ⟨p, zp, ep⟩ := List.mem_map.mp zk2
        exact List.mem_map.mpr ⟨p, mem_distinct.mpr zp, ep.trans ey⟩
      · intro z
        obtain ⟨p, zp, ep⟩ := List.mem_map.mp z
        have zk2 : y ∈ ks.map (·.2) := by
          rw [e2, ← ep]
          exact List.mem_map.mpr ⟨p, mem_distinct.mp zp, rfl⟩
        obtain ⟨k, zk, ey⟩ := List.mem_map.mp zk2
        rw [← ey]
        exact g.all k (by rw [List.take_length]; exact zk)
    rw [List.length_map, List.length_map] at z2
    exact z2
  have few := distinct_le ps
  have I2 : Inv X pins σ H1 { s1 with heap := h', toks := tk } := I1.kept kp
  refine call_len_set so sx sd B.fit (by rw [B.count]; omega) ⟨.int (distinct ps).length, H1, I2.tok _, ⟨_, by rw [B.count, num]⟩, q1⟩
theorem d_lenSet {X : Cx} {T : List Addr} {M : Mm} {E : XK} {fa : Fl} {a : Expr} {ta : TE} {ma : Fd → Md Dt} {p p2 q pos : Pos} {k : Nat} {K0 : PySem.W.Frag} (cc : Cok X k E) (hm : X.mg "len" = none) (hm2 : X.mg "set" = none) (ha : DE X T M E fa a ta ma) (hg : Gl X "len" := by rfl) (hg2 : Gl X "set" := by rfl)
    (hs : starEach [Expr.Call (.Name "set" p2) [a] [] q] X.env = (false, eval (Expr.Call (.Name "set" p2) [a] [] q) X.env) :: starEach [] X.env := by rfl) (hs2 : starEach [a] X.env = (false, eval a X.env) :: starEach [] X.env := by rfl) (hK : X.K = K0 := by rfl) :
    DE X T M E .s (.Call (.Name "len" p) [.Call (.Name "set" p2) [a] [] q] [] pos) (tLenSetP K0 ta) (mU dLenSet ma) := by
  subst hK
  exact ⟨pe_lenSetP cc.calm (by have := un65 cc.room; omega) hg hm hg2 hm2 ha.pe hs hs2, snd_u (W := ⟨kx X M, T, X.mg, E⟩) (r := fun x H Q => ∃ (a : Addr) (xs : List V) (ps : List (Int × Int)), x = .ref a ∧ SqL X.K H a xs ∧ Paired (fun v p => ∃ t, v = V.ref t ∧ H t = some (.tup [.int p.1, .int p.2])) xs ps ∧ ps.length ≤ 76 ∧ Q (.int (distinct ps).length) H) (fun σ H Q h => h) ha.sn.toT (fun H S x a Q e h w => by
    cases a with
    | lst ds =>
      cases h with
      | lst h1 r =>
        have w : Wp (match toPairs ds with
          | some ps => if ps.length ≤ 76 then Md.ok (Dt.int (distinct ps).length) else .bad
          | none => .bad) _ _ := w
        cases q : toPairs ds with
        | none => rw [q] at w; exact w.elim
        | some ps =>
          rw [q] at w
          have w : Wp (if ps.length ≤ 76 then Md.ok (Dt.int (distinct ps).length) else .bad) _ _ := w
          by_cases hl : ps.length ≤ 76
          · rw [if_pos hl] at w
            exact ⟨_, _, ps, rfl, .of h1, (rp_pairs r q).1, hl, w _ H S (Gr.refl e) (.int _) trivial⟩
          · rw [if_neg hl] at w
            exact w.elim
    | _ => exact w.elim) (fun a c => by
      unfold dLenSet
      split
      · split
        · split <;> exact fun z => by cases z
        · exact fun z => by cases z
      · exact fun z => by cases z)⟩
end Mr

namespace Mr
open PySem L2 PySem.Spec PyProof.Rows
/-- the end, with the tables of the defs in names -/
theorem walk_tabs {l : PySem.W.OpenLaw} {n k : Nat} {q : Program} {loose : List Str} {XP : (Str → Option Value) → Heap → Prop} {YP : World → Heap → Prop} {d : DefRec} {K : Params → PySem.W.Frag} {CX : World → CXT} {x : Str} (names : List Str)
    (hn : l.most = some n) (hn2 : n ≤ sizeLine) (hdf : d.params.defaults = []) (hr : Room k callerA) (hrec : names.all (fun y => ((recsOf q).find? fun e => e.name == y).isSome) = true) (hY : ∀ (w : World) (h : Heap), YP w h → (K w.params).In h)
    (F : ∀ (w : World) (mg : Str → Option Value) (fa : Addr) (h : Heap), YP w h → (K w.params).In h → h.Ns mainGlobals mg → mg d.name = some (.ref fa) → (∀ y ∈ names, ∀ c P, PySem.W.tabIn (K w.params) y = some (c, P) → PySem.W.CodeHd h c P ∧ h.get? P = some { cls := .none, data := .fields #[] }) → LamX.LawAtS l w (K w.params) (CX w) k n x mg fa h)
    (hCX : ∀ (w : World) (H : Hp) (s : Shared) (e : Value) (s' : Shared), CX w [] H s (fun _ _ _ => False) e s' → False) : PySem.W.WalkO q loose XP YP l.row.toRowW d [] (fun f vs => PySem.call f vs) := by
  refine Att.attach_callB hn hdf fun w s₀ s₁ mg mb fa o pm cd doc a vs ns G Y ho hd hcd hmg hobj hints hlen hbits hg => ?_
  have KX := hY w _ Y
  obtain ⟨fd, cs, sp, hT, nT, C, hb, hsp, hF⟩ := F w mg fa _ Y KX G.T.g hmg fun y hy c P ht => by
    obtain ⟨d', hd'⟩ := Option.isSome_iff_exists.mp (List.all_eq_true.mp hrec y hy)
    exact PySem.W.tab_of G.T KX hd' ht
  exact LamX.law_callTs KX G.T.g G.T.b G.T.builtins G.T.nolimit hg hT nT C G.T.bmain hobj hints (Nat.le_trans hlen hn2) hr hF hb (fun H hH hS => hsp H a ns hlen hbits hH hS) fun H e s' => hCX w H s₁ e s'
theorem tabB_of {base : Heap} {mg : Str → Option Value} {c P : Addr} (t : LamX.TabB base mg c P) : GxR.TabB base mg c P := ⟨t.1, t.2, t.3⟩
theorem cxN_end {P : Program} (w : World) (H : Hp) (s : Shared) (e : Value) (s' : Shared) : L2N.CX P w [] H s (fun _ _ _ => False) e s' → False := fun ⟨_, _, _, _, _, _, _, _, _, _, _, _, z⟩ => z
theorem kit_self {K : PySem.W.Frag} {t : Value} : PySem.W.kitOne K t t = some true := if_pos (by simp)
theorem kit_ref {K : PySem.W.Frag} {D C : Addr} {b : Bool} (h1 : PySem.W.subIn K (.ref D) (.ref C) = some b) (h2 : PySem.W.isClsIn K C = true) (h3 : PySem.W.typeIn K (.ref C) = some (.type "type")) (hne : (Value.ref D == Value.ref C) = false) : PySem.W.kitOne K (.ref D) (.ref C) = some b := by
  have h2' : (PySem.W.clsIn K C).isSome = true := h2
  unfold PySem.W.kitOne
  rw [hne, if_neg Bool.false_ne_true]
  show (if ((PySem.W.clsIn K C).isSome && PySem.W.typeIn K (.ref C) == some (.type "type")) = true then PySem.W.subIn K (.ref D) (.ref C) else none) = some b
  rw [if_pos (by rw [h2', h3]; rfl)]
  exact h1
theorem kit_ve {K : PySem.W.Frag} {D : Addr} {b : Bool} (h1 : PySem.W.subIn K (.ref D) (.type "ValueError") = some b) : PySem.W.kitOne K (.ref D) (.type "ValueError") = some b := by
  unfold PySem.W.kitOne
  rw [show (Value.ref D == Value.type "ValueError") = false from rfl, if_neg Bool.false_ne_true]
  show (if PySem.W.kitMeta "ValueError" = true then PySem.W.subIn K (.ref D) (.type "ValueError") else none) = some b
  rw [if_pos (by decide +kernel)]
  exact h1
theorem tab_in {K : PySem.W.Frag} {x : Str} {f c P : Addr} {oc e : Value} {od dd : Option Addr} {fd : FuncData} {sl s2 : Array (Option Value)} {vs : Array Value} (h1 : PySem.W.nsIn K mainGlobals x = some (some (.ref f))) (h2 : K.lookup f = some ⟨oc, od, .func fd, sl⟩) (h3 : fd.code = .ref c)
    (h4 : K.lookup c = some ⟨e, dd, .fields vs, s2⟩) (h5 : vs[11]? = some (.ref P)) : PySem.W.tabIn K x = some (c, P) := by
  unfold PySem.W.tabIn
  rw [h1]
  simp only [h2, h3, h4, h5]
/-- the script, as the law gets it -/
theorem rp_script {K : Kx} {H : Hp} {a : Addr} {ns : List Int} (h : SqL K.f H a (ns.map V.int)) : Rp K H (.ref a) (.lsk (ns.map Dt.int)) := by
  refine .lsk h ?_
  clear h
  induction ns with
  | nil => exact .nil
  | cons n r ih => exact .cons (.int n) ih
/-- the law answers True -/
theorem sp_true {K : PySem.W.Frag} {T : List Addr} {mg : Str → Option Value} {mir : List Dt → Md Dt} {H : Hp} {a : Addr} {ns : List Int} (tb : ∀ P ∈ T, H P = some (.tbl #[])) (h : SqL K H a (ns.map V.int)) (hm : mir [.lsk (ns.map Dt.int)] = .ok (.bl true)) :
    spD K T mg false 1 mir [.ref a] H (fun v _ => v = .bl true) fun _ _ _ => False := by
  refine ⟨rfl, fun P hP => ⟨#[], tb P hP, by first | exact TriplesOk.nil | trivial | simp [TriplesOk]⟩, [.lsk (ns.map Dt.int)], H, Ex.refl H, .cons (rp_script (K := k0 K) h) .nil, ?_⟩
  rw [hm]
  intro v H' ⟨S, _, _, _, _, r⟩
  cases r
  rfl
theorem spM_true {K : PySem.W.Frag} {T : List Addr} {mg : Str → Option Value} {mir : List Cl → List Dt → Mx Dt} {H : Hp} {a : Addr} {ns : List Int} {m : List Cl} (tb : ∀ P ∈ T, H P = some (.tbl #[])) (h : SqL K H a (ns.map V.int)) (hm : mir [] [.lsk (ns.map Dt.int)] = .ok m (.bl true)) :
    spM K T mg 1 mir [.ref a] H (fun v _ => v = .bl true) fun _ _ _ => False := by
  refine ⟨rfl, fun P hP => ⟨#[], tb P hP, by first | exact TriplesOk.nil | trivial | simp [TriplesOk]⟩, [.lsk (ns.map Dt.int)], H, M0, Ex.refl H, sto0, .cons (rp_script (K := k0 K) h) .nil, ?_⟩
  show Wq (mir [] [.lsk (ns.map Dt.int)]) _ _
  rw [hm]
  intro v H' ⟨S, r', _, _, _, _, _, _, _, r⟩
  cases r
  rfl
end Mr
/-! A mirror computed at data that are known in part. -/
namespace Mr
open PySem L2
theorem pos_ok {i j : Int} (h : 0 < j) : dIC posOk (fun i j => .int (i % j)) (.int i) (.int j) = .ok (.int (i % j)) := by
  show (if posOk i j = true then Md.ok (Dt.int (i % j)) else .bad) = _
  unfold posOk
  rw [if_pos (decide_eq_true h)]
theorem div_ok {i j : Int} (h : 0 < j) (h2 : j < 1073741824) : dIC divOk (fun i j => .int (i / j)) (.int i) (.int j) = .ok (.int (i / j)) := by
  show (if divOk i j = true then Md.ok (Dt.int (i / j)) else .bad) = _
  unfold divOk
  rw [decide_eq_true h, decide_eq_true h2]
  rfl
theorem ite_bind {α β : Type} {c : Prop} [Decidable c] {x y : Md α} {f : α → Md β} : (if c then x else y).bind f = if c then x.bind f else y.bind f := by
  split <;> rfl
theorem dEqv_bl (a b : Bool) : dEqv (.bl a) (.bl b) = .ok (a == b) := by
  cases a <;> cases b <;> rfl
theorem dEq_bl (a b : Bool) : dEq (.bl a) (.bl b) = .ok (.bl (a == b)) := by
  unfold dEq
  rw [dEqv_bl]
  rfl
theorem dNe_bl (a b : Bool) : dNe (.bl a) (.bl b) = .ok (.bl (!(a == b))) := by
  unfold dNe
  rw [dEqv_bl]
  rfl
/-- an answer that is a truth -/
def RtB (m : Md Out) : Prop := ∃ b, m = .ok (.rt (.bl b))
theorem RtB.ite {c : Prop} [Decidable c] {x y : Md Out} (h1 : RtB x) (h2 : RtB y) : RtB (if c then x else y) := by
  split <;> assumption
theorem RtB.mk (b : Bool) : RtB (.ok (.rt (.bl b))) := ⟨b, rfl⟩
end Mr
/-! What mirrors over a store answer, step by step. -/
namespace Mr
open PySem L2
section
variable {m m1 m2 : List Cl} {Δ Δ' : Fd} {d e : Dt} {ds : List Dt} {b : Bool} {c : Str} {i n : Nat} {xa xb : List Cl → Fd → Mx Out} {xe xf : List Cl → Fd → Mx Dt} {xt xu : List Cl → Fd → Mx Bool} {xl : List Cl → Fd → Mx (List Dt)} {mir : List Cl → List Dt → Mx Dt}
theorem xbind_ok {α β : Type} {x : α} {h : List Cl → α → Mx β} : (Mx.ok m x).bind h = h m x := rfl
theorem xbind_exc {α β : Type} {h : List Cl → α → Mx β} : (Mx.exc m c : Mx α).bind h = .exc m c := rfl
theorem xseq_nx (h : xa m Δ = .ok m1 (.nx Δ')) : xSeq xa xb m Δ = xb m1 Δ' := by
  unfold xSeq
  rw [h]
  rfl
theorem xseq_rt (h : xa m Δ = .ok m1 (.rt d)) : xSeq xa xb m Δ = .ok m1 (.rt d) := by
  unfold xSeq
  rw [h]
  rfl
theorem xseq_exc (h : xa m Δ = .exc m1 c) : xSeq xa xb m Δ = .exc m1 c := by
  unfold xSeq
  rw [h]
  rfl
theorem xif_t (h : xt m Δ = .ok m1 true) : xIf xt xa xb m Δ = xa m1 Δ := by
  unfold xIf
  rw [h]
  rfl
theorem xif_f (h : xt m Δ = .ok m1 false) : xIf xt xa xb m Δ = xb m1 Δ := by
  unfold xIf
  rw [h]
  rfl
theorem xp_ok {me : List Cl → Fd → Md Dt} (h : me m Δ = .ok d) : xP me m Δ = .ok m d := by
  unfold xP
  rw [h]
  rfl
theorem xn_ok {me : List Cl → Fd → Md Dt} (h : me m Δ = .ok (.lst ds)) : xN me m Δ = .ok (m ++ [.lst ds]) (.loc m.length) := by
  unfold xN
  rw [h]
  rfl
theorem xpt_ok {me : List Cl → Fd → Md Bool} (h : me m Δ = .ok b) : xPT me m Δ = .ok m b := by
  unfold xPT
  rw [h]
  rfl
theorem xpa_ok {me : List Cl → Fd → Md (List Dt)} (h : me m Δ = .ok ds) : xPA me m Δ = .ok m ds := by
  unfold xPA
  rw [h]
  rfl
theorem xps_ok {me : List Cl → Fd → Md Out} {o : Out} (h : me m Δ = .ok o) : xPS me m Δ = .ok m o := by
  unfold xPS
  rw [h]
  rfl
theorem xps_exc {me : List Cl → Fd → Md Out} (h : me m Δ = .exc c) : xPS me m Δ = .exc m c := by
  unfold xPS
  rw [h]
  rfl
theorem xasg_ok (h : xe m Δ = .ok m1 d) : xAsg i xe m Δ = .ok m1 (.nx (Δ.set i (.sh d))) := by
  unfold xAsg
  rw [h]
  rfl
theorem xret_ok (h : xe m Δ = .ok m1 d) : xRet xe m Δ = .ok m1 (.rt d) := by
  unfold xRet
  rw [h]
  rfl
theorem xret_exc (h : xe m Δ = .exc m1 c) : xRet xe m Δ = .exc m1 c := by
  unfold xRet
  rw [h]
  rfl
theorem xdrop_ok (h : xe m Δ = .ok m1 d) : xDrop xe m Δ = .ok m1 (.nx Δ) := by
  unfold xDrop
  rw [h]
  rfl
theorem xdrop_exc (h : xe m Δ = .exc m1 c) : xDrop xe m Δ = .exc m1 c := by
  unfold xDrop
  rw [h]
  rfl
theorem xnil_ok : xNil m Δ = .ok m [] := rfl
theorem xcons_ok (h1 : xe m Δ = .ok m1 d) (h2 : xl m1 Δ = .ok m2 ds) : xCons xe xl m Δ = .ok m2 (d :: ds) := by
  unfold xCons
  rw [h1, xbind_ok, h2]
  rfl
theorem xcall_ok (h : xl m Δ = .ok m1 ds) (hn : ds.length = n) : xCall n mir xl m Δ = mir m1 ds := by
  unfold xCall
  rw [h, xbind_ok]
  exact if_pos hn
theorem xdef_rt {ms : List Cl → Fd → Mx Out} (h : ms m (startD n ds) = .ok m1 (.rt d)) : xDef n ms m ds = .ok m1 d := by
  unfold xDef
  rw [h]
  rfl
theorem xdef_nx {ms : List Cl → Fd → Mx Out} (h : ms m (startD n ds) = .ok m1 (.nx Δ)) : xDef n ms m ds = .ok m1 .non := by
  unfold xDef
  rw [h]
  rfl
theorem xdef_exc {ms : List Cl → Fd → Mx Out} (h : ms m (startD n ds) = .exc m1 c) : xDef n ms m ds = .exc m1 c := by
  unfold xDef
  rw [h]
  rfl
theorem xt_ok (h : xe m Δ = .ok m1 (.bl b)) : xT xe m Δ = .ok m1 b := by
  unfold xT
  rw [h]
  rfl
theorem xnot_ok (h : xt m Δ = .ok m1 b) : xNot xt m Δ = .ok m1 (!b) := by
  unfold xNot
  rw [h]
  rfl
theorem xor_f (h : xt m Δ = .ok m1 false) : xOr xt xu m Δ = xu m1 Δ := by
  unfold xOr
  rw [h]
  rfl
theorem xor_t (h : xt m Δ = .ok m1 true) : xOr xt xu m Δ = .ok m1 true := by
  unfold xOr
  rw [h]
  rfl
theorem xand_t (h : xt m Δ = .ok m1 true) : xAnd xt xu m Δ = xu m1 Δ := by
  unfold xAnd
  rw [h]
  rfl
theorem xand_f (h : xt m Δ = .ok m1 false) : xAnd xt xu m Δ = .ok m1 false := by
  unfold xAnd
  rw [h]
  rfl
theorem xcallD_ok {mr : List Dt → Md Dt} (h : xl m Δ = .ok m1 ds) (hl : nls ds = true) (hn : ds.length = n) (hm : mr ds = .ok d) : xCallD n mr xl m Δ = .ok m1 d := by
  unfold xCallD
  rw [h, xbind_ok, if_pos ⟨hl, hn⟩, hm]
  rfl
/-- a field is set -/
theorem xfld_ok {C : Addr} {f : Str} {mo : List Cl → Fd → Md Dt} {ns : List Str} {fs : List Dt} (h1 : xe m Δ = .ok m1 d) (h2 : mo m1 Δ = .ok (.loc i)) (h3 : m1[i]? = some (.ins C ns fs)) (h4 : ns.length < 1000) :
    xFldS C f xe mo m Δ = .ok (m1.set i (.ins C (putN f ns) (putD f d ns fs))) (.nx Δ) := by
  unfold xFldS
  rw [h1, xbind_ok, h2]
  show (match m1[i]? with
    | some (.ins C' ns ds) => if C' = C ∧ ns.length < 1000 then Mx.ok (m1.set i (.ins C (putN f ns) (putD f d ns ds))) (Out.nx Δ) else .bad
    | _ => .bad) = _
  rw [h3]
  exact if_pos ⟨rfl, h4⟩
/-- a new instance, complete -/
theorem xmakeF_ok {C : Addr} {ns : List Str} {fs : List Dt} (h1 : xl m Δ = .ok m1 ds) (h2 : ds.length + 1 = n) (h3 : mir (m1 ++ [.ins C [] []]) (.loc m1.length :: ds) = .ok (m1 ++ [.ins C ns fs]) .non) (h4 : noDN m1) (h5 : nls fs = true) :
    xMakeF C n mir xl m Δ = .ok m1 (.ins C ns fs) := by
  unfold xMakeF
  rw [h1, xbind_ok, if_pos h2, h3]
  have t : (m1 ++ [Cl.ins C ns fs]).take m1.length = m1 := by
    rw [List.take_append_of_le_length (Nat.le_refl _), List.take_length]
  have l : (m1 ++ [Cl.ins C ns fs]).length = m1.length + 1 := by rw [List.length_append]; rfl
  have g : (m1 ++ [Cl.ins C ns fs])[m1.length]? = some (.ins C ns fs) := by
    rw [List.getElem?_append_right (Nat.le_refl _), Nat.sub_self]
    rfl
  show (if eqCs ((m1 ++ [Cl.ins C ns fs]).take m1.length) m1 = true ∧ (m1 ++ [Cl.ins C ns fs]).length = m1.length + 1 then (match (m1 ++ [Cl.ins C ns fs])[m1.length]? with
    | some (.ins C' ns fs) => if C' = C ∧ nls fs = true then Mx.ok m1 (Dt.ins C ns fs) else .bad
    | _ => .bad) else .bad) = _
  rw [t, l, g, if_pos ⟨eqCs_refl h4, rfl⟩]
  exact if_pos ⟨rfl, h5⟩
theorem xmakeF_exc {C : Addr} {x : Cl} (h1 : xl m Δ = .ok m1 ds) (h2 : ds.length + 1 = n) (h3 : mir (m1 ++ [.ins C [] []]) (.loc m1.length :: ds) = .exc (m1 ++ [x]) c) (h4 : noDN m1) : xMakeF C n mir xl m Δ = .exc m1 c := by
  unfold xMakeF
  rw [h1, xbind_ok, if_pos h2, h3]
  have t : (m1 ++ [x]).take m1.length = m1 := by
    rw [List.take_append_of_le_length (Nat.le_refl _), List.take_length]
  show (if eqCs ((m1 ++ [x]).take m1.length) m1 = true then Mx.exc m1 c else .bad) = _
  rw [t, if_pos (eqCs_refl h4)]
/-- arguments without places -/
theorem nl_ok {ma : Fd → Md (List Dt)} (h : ma Δ = .ok ds) (hl : nls ds = true) : mNl ma Δ = .ok ds := by
  unfold mNl
  rw [h, bind_ok]
  exact if_pos hl
theorem nl1_ok {ma : Fd → Md Dt} (h : ma Δ = .ok d) (hl : nl d = true) : mNl1 ma Δ = .ok d := by
  unfold mNl1
  rw [h, bind_ok]
  exact if_pos hl
theorem callL_ok {mr : List Dt → Md Dt} {ma : Fd → Md (List Dt)} {es : List Dt} (h : ma Δ = .ok ds) (hn : ds.length = n) (hm : mr ds = .ok (.lst es)) (hf : es.all flatD = true) : mCallL n mr ma Δ = .ok (.lst es) := by
  unfold mCallL
  rw [h, bind_ok, if_pos hn, hm, bind_ok]
  exact if_pos hf
theorem meth_ok {C : Addr} {nm : Str} {mr : List Dt → Md Dt} {mo : Fd → Md Dt} {ma : Fd → Md (List Dt)} {ns : List Str} {fs : List Dt} (h1 : mo Δ = .ok (.ins C ns fs)) (hk : hasKey nm ns = false) (h2 : ma Δ = .ok ds) (hn : ds.length + 1 = n) : mMeth C nm n mr mo ma Δ = mr (.ins C ns fs :: ds) := by
  unfold mMeth
  rw [h1, bind_ok]
  show (if C = C ∧ hasKey nm ns = false then (ma Δ).bind fun ds => if ds.length + 1 = n then mr (.ins C ns fs :: ds) else .bad else .bad) = _
  rw [if_pos ⟨rfl, hk⟩, h2, bind_ok]
  exact if_pos hn
theorem fld_ok {C : Addr} {f : Str} {ns : List Str} {fs : List Dt} (h : lk f ns fs = some d) : dFld m C f (.ins C ns fs) = .ok d := by
  show (if C = C then (match lk f ns fs with | some d => Md.ok d | none => .bad) else .bad) = _
  rw [if_pos rfl, h]
end
end Mr
namespace K2
open PySem L2 Mr
def topS (i : Nat) : Stmt := PySem.Challenge.pw_sameweb_k02_webs.main.body.getD i (.Pass ⟨0, 0, 0, 0⟩)
abbrev st_is_whole : Stmt := topS 9
abbrev st_is_below : Stmt := topS 10
abbrev st_Web_init__ : Stmt := inClass (topS 14) 0
abbrev st_Web_colours : Stmt := inClass (topS 14) 1
abbrev st_Web_ties : Stmt := inClass (topS 14) 2
abbrev st_Web_beside : Stmt := inClass (topS 14) 3
abbrev st_is_same : Stmt := topS 15
abbrev st_are_colours : Stmt := topS 16
abbrev st_are_ties : Stmt := topS 17
abbrev st_is_tie : Stmt := topS 18
abbrev st_law_cell_at : Stmt := topS 20
abbrev st_law_mixed : Stmt := topS 21
abbrev st_law_whole : Stmt := topS 22
abbrev st_law_row : Stmt := topS 23
abbrev st_law_alike_rows : Stmt := topS 24
abbrev st_law_tied : Stmt := topS 25
abbrev st_law_uneven : Stmt := topS 26
abbrev st_law_web_by : Stmt := topS 27
abbrev st_law_told : Stmt := topS 28
abbrev st_law_alone : Stmt := topS 29
abbrev st_law_made : Stmt := topS 30
abbrev st_law_wrong : Stmt := topS 31
abbrev st_law_beside_right : Stmt := topS 32
abbrev st_law_no_point : Stmt := topS 33
abbrev st_law_same_right : Stmt := topS 34
abbrev st_law : Stmt := topS 35
abbrev N_is_whole : List Str := ["thing"]
theorem sc_is_whole : FnScope N_is_whole ["thing"] (defScope st_is_whole) := ⟨rfl, rfl, rfl, by decide +kernel, rfl, by decide +kernel, by decide +kernel⟩
abbrev N_is_below : List Str := ["thing", "limit"]
theorem sc_is_below : FnScope N_is_below ["thing", "limit"] (defScope st_is_below) := ⟨rfl, rfl, rfl, by decide +kernel, rfl, by decide +kernel, by decide +kernel⟩
abbrev N_Web_init__ : List Str := ["self", "colours", "ties"]
theorem sc_Web_init__ : FnScope N_Web_init__ ["self", "colours", "ties"] (defScope st_Web_init__) := ⟨rfl, rfl, rfl, by decide +kernel, rfl, by decide +kernel, by decide +kernel⟩
abbrev N_Web_colours : List Str := ["self"]
theorem sc_Web_colours : FnScope N_Web_colours ["self"] (defScope st_Web_colours) := ⟨rfl, rfl, rfl, by decide +kernel, rfl, by decide +kernel, by decide +kernel⟩
abbrev N_Web_ties : List Str := ["self"]
theorem sc_Web_ties : FnScope N_Web_ties ["self"] (defScope st_Web_ties) := ⟨rfl, rfl, rfl, by decide +kernel, rfl, by decide +kernel, by decide +kernel⟩
abbrev N_Web_beside : List Str := ["self", "point", "a", "b"]
theorem sc_Web_beside : FnScope N_Web_beside ["self", "point"] (defScope st_Web_beside) := ⟨rfl, rfl, rfl, by decide +kernel, rfl, by decide +kernel, by decide +kernel⟩
abbrev N_is_same : List Str := ["one", "other"]
theorem sc_is_same : FnScope N_is_same ["one", "other"] (defScope st_is_same) := ⟨rfl, rfl, rfl, by decide +kernel, rfl, by decide +kernel, by decide +kernel⟩
abbrev N_are_colours : List Str := ["thing", "colour"]
theorem sc_are_colours : FnScope N_are_colours ["thing"] (defScope st_are_colours) := ⟨rfl, rfl, rfl, by decide +kernel, rfl, by decide +kernel, by decide +kernel⟩
abbrev N_are_ties : List Str := ["thing", "size", "tie"]
theorem sc_are_ties : FnScope N_are_ties ["thing", "size"] (defScope st_are_ties) := ⟨rfl, rfl, rfl, by decide +kernel, rfl, by decide +kernel, by decide +kernel⟩
abbrev N_is_tie : List Str := ["thing", "size", "a", "b"]
theorem sc_is_tie : FnScope N_is_tie ["thing", "size"] (defScope st_is_tie) := ⟨rfl, rfl, rfl, by decide +kernel, rfl, by decide +kernel, by decide +kernel⟩
abbrev N_law_cell_at : List Str := ["_law_script", "_law_k"]
theorem sc_law_cell_at : FnScope N_law_cell_at ["_law_script", "_law_k"] (defScope st_law_cell_at) := ⟨rfl, rfl, rfl, by decide +kernel, rfl, by decide +kernel, by decide +kernel⟩
abbrev N_law_mixed : List Str := ["_law_cell", "_law_k", "_law_number"]
theorem sc_law_mixed : FnScope N_law_mixed ["_law_cell", "_law_k"] (defScope st_law_mixed) := ⟨rfl, rfl, rfl, by decide +kernel, rfl, by decide +kernel, by decide +kernel⟩
abbrev N_law_whole : List Str := ["_law_found"]
theorem sc_law_whole : FnScope N_law_whole ["_law_found"] (defScope st_law_whole) := ⟨rfl, rfl, rfl, by decide +kernel, rfl, by decide +kernel, by decide +kernel⟩
abbrev N_law_row : List Str := ["_law_size", "_law_number", "_law_left", "_law_found", "_law_k"]
theorem sc_law_row : FnScope N_law_row ["_law_size", "_law_number"] (defScope st_law_row) := ⟨rfl, rfl, rfl, by decide +kernel, rfl, by decide +kernel, by decide +kernel⟩
abbrev N_law_alike_rows : List Str := ["_law_found", "_law_due", "_law_one"]
theorem sc_law_alike_rows : FnScope N_law_alike_rows ["_law_found", "_law_due"] (defScope st_law_alike_rows) := ⟨rfl, rfl, rfl, by decide +kernel, rfl, by decide +kernel, by decide +kernel⟩
abbrev N_law_tied : List Str := ["_law_kind", "_law_one", "_law_other", "_law_size", "_law_number", "_law_half"]
theorem sc_law_tied : FnScope N_law_tied ["_law_kind", "_law_one", "_law_other", "_law_size", "_law_number"] (defScope st_law_tied) := ⟨rfl, rfl, rfl, by decide +kernel, rfl, by decide +kernel, by decide +kernel⟩
abbrev N_law_uneven : List Str := ["_law_cell", "_law_rings", "_law_found", "_law_other", "_law_one"]
theorem sc_law_uneven : FnScope N_law_uneven ["_law_cell"] (defScope st_law_uneven) := ⟨rfl, rfl, rfl, by decide +kernel, rfl, by decide +kernel, by decide +kernel⟩
abbrev N_law_web_by : List Str := ["_law_script", "_law_most", "_law_first", "_law_size", "_law_row_here", "_law_one", "_law_other", "_law_ties", "_law_kind", "_law_cell", "_law_many", "_law_colours", "_law_k", "_law_point"]
theorem sc_law_web_by : FnScope N_law_web_by ["_law_script", "_law_most"] (defScope st_law_web_by) := ⟨rfl, rfl, rfl, by decide +kernel, rfl, by decide +kernel, by decide +kernel⟩
abbrev N_law_told : List Str := ["_law_web", "_law_due", "_law_colours", "_law_ties", "_law_colour", "_law_tie"]
theorem sc_law_told : FnScope N_law_told ["_law_web", "_law_due"] (defScope st_law_told) := ⟨rfl, rfl, rfl, by decide +kernel, rfl, by decide +kernel, by decide +kernel⟩
abbrev N_law_made : List Str := ["_law_colours", "_law_ties", "_law_e"]
theorem sc_law_made : FnScope N_law_made ["_law_colours", "_law_ties"] (defScope st_law_made) := ⟨rfl, rfl, rfl, by decide +kernel, rfl, by decide +kernel, by decide +kernel⟩
abbrev N_law_wrong : List Str := ["_law_colours", "_law_ties", "_law_cell", "_law_size", "_law_at", "_law_place", "_law_way", "_law_odd", "_law_some"]
theorem sc_law_wrong : FnScope N_law_wrong ["_law_colours", "_law_ties", "_law_cell"] (defScope st_law_wrong) := ⟨rfl, rfl, rfl, by decide +kernel, rfl, by decide +kernel, by decide +kernel⟩
abbrev N_law_beside_right : List Str := ["_law_web", "_law_colours", "_law_ties", "_law_held", "_law_point", "_law_found", "_law_due", "_law_one", "_law_other"]
theorem sc_law_beside_right : FnScope N_law_beside_right ["_law_web", "_law_colours", "_law_ties", "_law_held"] (defScope st_law_beside_right) := ⟨rfl, rfl, rfl, by decide +kernel, rfl, by decide +kernel, by decide +kernel⟩
abbrev N_law_no_point : List Str := ["_law_web", "_law_thing", "_law_e"]
theorem sc_law_no_point : FnScope N_law_no_point ["_law_web", "_law_thing"] (defScope st_law_no_point) := ⟨rfl, rfl, rfl, by decide +kernel, rfl, by decide +kernel, by decide +kernel⟩
abbrev N_law_same_right : List Str := ["_law_web", "_law_colours", "_law_ties", "_law_at", "_law_shades", "_law_others", "_law_wider", "_law_one"]
theorem sc_law_same_right : FnScope N_law_same_right ["_law_web", "_law_colours", "_law_ties", "_law_at"] (defScope st_law_same_right) := ⟨rfl, rfl, rfl, by decide +kernel, rfl, by decide +kernel, by decide +kernel⟩
abbrev N_law : List Str := ["_law_script", "_law_colours", "_law_ties", "_law_cell", "_law_wrong_here", "_law_turned", "_law_handed", "_law_kept", "_law_web", "_law_held", "_law_pair", "_law_odd"]
theorem sc_law : FnScope N_law ["_law_script"] (defScope st_law) := ⟨rfl, rfl, rfl, by decide +kernel, rfl, by decide +kernel, by decide +kernel⟩
abbrev N_law_alone : List Str := ["_law_e", "_law_which", "_law_kinds", "_law_k"]
theorem sc_law_alone : FnScope N_law_alone ["_law_e", "_law_which"] (defScope st_law_alone) := ⟨rfl, rfl, rfl, by decide +kernel, rfl, by decide +kernel, by decide +kernel⟩
def m_law_alone (q1 q2 q3 q4 q5 q6 q7 : Bool) (a : Addr) : Fd → Md Out := (mSeq (mAsg 2 (mLst (mCons (mU (dIsX a q1) (mVar 0)) (mCons (mU (dIsX a q2) (mVar 0)) (mCons (mU (dIsX a q3) (mVar 0)) (mCons (mU (dIsX a q4) (mVar 0)) mNil)))))) (mSeq (mAsg 2 (mBin dCat (mVar 2) (mLst (mCons (mU (dIsX a q5) (mVar 0)) (mCons (mU (dIsX a q6) (mVar 0)) mNil))))) (mRet (mAndV (mU (dIsX a q7) (mVar 0)) (mBin dEq (mVar 2) (mLc (mIt1 (mCons (mC (.int 6)) mNil)) (gsName 3) mYes (mBin dEq (mVar 3) (mVar 1)) [3]))))))
def M_law_alone (q1 q2 q3 q4 q5 q6 q7 : Bool) : Addr → List Dt → Md Dt := fun a => mDef false 4 (m_law_alone q1 q2 q3 q4 q5 q6 q7 a)
def m_is_whole : Fd → Md Out := (mRet (mBin dIs (mU dType (mVar 0)) (mC (.ty "int"))))
def M_is_whole : List Dt → Md Dt := mDef false 1 m_is_whole
def m_is_below : Fd → Md Out := (mRet (mAndV (mCall 1 M_is_whole (mCons (mVar 0) mNil)) (mChn dLe dLt (mC (.int 0)) (mVar 0) (mVar 1))))
def M_is_below : List Dt → Md Dt := mDef false 2 m_is_below
def m_are_colours : Fd → Md Out := (mSeq (mIfS (mOr (mT (mBin dIsNot (mU dType (mVar 0)) (mC (.ty "list")))) (mNot (mT (mChn dLe dLe (mC (.int 1)) (mU dLen (mVar 0)) (mC (.int 12)))))) (mRet (mC (.bl false))) mNext) (mRet (mGen 1 (fun bs => bs.all id) (mVar 0) (mCall 2 M_is_below (mCons (mVar 1) (mCons (mC (.int 10)) mNil))))))
def M_are_colours : List Dt → Md Dt := mDef false 2 m_are_colours
def m_is_tie : Fd → Md Out := (mSeq (mIfS (mOr (mT (mBin dIsNot (mU dType (mVar 0)) (mC (.ty "tuple")))) (mT (mBin dNe (mU dLen (mVar 0)) (mC (.int 2))))) (mRet (mC (.bl false))) mNext) (mSeq (mAsgT (gsTup 2 (gsCons (gsName 2) (gsCons (gsName 3) gsNil))) (mVar 0)) (mRet (mAndV (mCall 2 M_is_below (mCons (mVar 2) (mCons (mVar 1) mNil))) (mAndV (mCall 2 M_is_below (mCons (mVar 3) (mCons (mVar 1) mNil))) (mBin dLt (mVar 2) (mVar 3)))))))
def M_is_tie : List Dt → Md Dt := mDef false 4 m_is_tie
def m_are_ties : Fd → Md Out := (mSeq (mIfS (mOr (mT (mBin dIsNot (mU dType (mVar 0)) (mC (.ty "list")))) (mNot (mT (mGen 2 (fun bs => bs.all id) (mVar 0) (mCall 2 M_is_tie (mCons (mVar 2) (mCons (mVar 1) mNil))))))) (mRet (mC (.bl false))) mNext) (mRet (mBin dEq (mU dLenSet (mVar 0)) (mU dLen (mVar 0)))))
def M_are_ties : List Dt → Md Dt := mDef false 3 m_are_ties
def x_Web_init__ (C_Web : Addr) : List Cl → Fd → Mx Out := (xSeq (xIf (xPT fun m => (mNot (mT (mCallF 1 M_are_colours (mNl (mCons (mU (res m 8) (mVar 1)) mNil)))))) (xPS fun m => (mRaise "BadWeb")) xNext) (xSeq (xIf (xPT fun m => (mNot (mT (mCallF 2 M_are_ties (mNl (mCons (mU (res m 8) (mVar 2)) (mCons (mU dLen (mU (dCell m) (mVar 1))) mNil))))))) (xPS fun m => (mRaise "BadWeb")) xNext) (xSeq (xFldS C_Web "size" (xP fun m => (mU dLen (mU (dCell m) (mVar 1)))) (fun m => (mVar 0))) (xSeq (xFldS C_Web "_colours" (xP fun m => (mU dList (mU (dCell m) (mVar 1)))) (fun m => (mVar 0))) (xFldS C_Web "_ties" (xP fun m => (mU dSorted (mU (dCell m) (mVar 2)))) (fun m => (mVar 0)))))))
def X_Web_init__ (C_Web : Addr) : List Cl → List Dt → Mx Dt := xDef 3 (x_Web_init__ C_Web)
def m_Web_colours (C_Web : Addr) : Fd → Md Out := (mRet (mU dList (mU (dFld [] C_Web "_colours") (mVar 0))))
def M_Web_colours (C_Web : Addr) : List Dt → Md Dt := mDef true 1 (m_Web_colours C_Web)
def m_Web_ties (C_Web : Addr) : Fd → Md Out := (mRet (mU dList (mU (dFld [] C_Web "_ties") (mVar 0))))
def M_Web_ties (C_Web : Addr) : List Dt → Md Dt := mDef true 1 (m_Web_ties C_Web)
def m_Web_beside (C_Web : Addr) : Fd → Md Out := (mSeq (mIfS (mNot (mT (mCall 2 M_is_below (mCons (mVar 1) (mCons (mU (dFld [] C_Web "size") (mVar 0)) mNil))))) (mRaise "NoPoint") mNext) (mRet (mU dSorted (mLc (mItL (mU (dFld [] C_Web "_ties") (mVar 0))) (gsTup 2 (gsCons (gsName 2) (gsCons (gsName 3) gsNil))) (mT (mBin (dInT false) (mVar 1) (mTup (mCons (mVar 2) (mCons (mVar 3) mNil))))) (mIfE (mT (mBin dEq (mVar 2) (mVar 1))) (mVar 3) (mVar 2)) [2, 3]))))
def M_Web_beside (C_Web : Addr) : List Dt → Md Dt := mDef true 4 (m_Web_beside C_Web)
def m_is_same (C_Web : Addr) : Fd → Md Out := (mRet (mAndV (mBin dEq (mMeth C_Web "colours" 1 (M_Web_colours C_Web) (mVar 0) mNil) (mMeth C_Web "colours" 1 (M_Web_colours C_Web) (mVar 1) mNil)) (mBin dEq (mMeth C_Web "ties" 1 (M_Web_ties C_Web) (mVar 0) mNil) (mMeth C_Web "ties" 1 (M_Web_ties C_Web) (mVar 1) mNil))))
def M_is_same (C_Web : Addr) : List Dt → Md Dt := mDef false 2 (m_is_same C_Web)
def m_law_cell_at : Fd → Md Out := (mSeq (mIfS (mT (mBin dLt (mVar 1) (mU dLen (mVar 0)))) (mRet (mBin dIx (mVar 0) (mVar 1))) mNext) (mRet (mC (.int 0))))
def M_law_cell_at : List Dt → Md Dt := mDef false 2 m_law_cell_at
def m_law_mixed : Fd → Md Out := (mSeq (mAsg 2 (mBin (dI fun i j => .int (i + j)) (mBin (dI fun i j => .int (i + j)) (mVar 0) (mBin (dIC mulOk fun i j => .int (i * j)) (mC (.int 7919)) (mVar 1))) (mC (.int 13)))) (mRet (mBin (dIC divOk fun i j => .int (i / j)) (mBin (dIC posOk fun i j => .int (i % j)) (mBin (dIC mulOk fun i j => .int (i * j)) (mBin (dIC posOk fun i j => .int (i % j)) (mBin (dIC mulOk fun i j => .int (i * j)) (mVar 2) (mVar 2)) (mC (.int 1000000007))) (mC (.int 48271))) (mC (.int 998244353))) (mC (.int 11)))))
def M_law_mixed : List Dt → Md Dt := mDef false 3 m_law_mixed
def m_law_whole : Fd → Md Out := (mRet (mAndV (mCB dIsi (mCons (mVar 0) (mCons (mC (.ty "int")) mNil))) (mNotV (mCB dIsi (mCons (mVar 0) (mCons (mC (.ty "bool")) mNil))))))
def M_law_whole : List Dt → Md Dt := mDef false 1 m_law_whole
def m_law_row : Fd → Md Out := (mSeq (mAsgO 2 (mU dListRg (mVar 0))) (mSeq (mAsgO 3 (mLst mNil)) (mSeq (mFor (mIt1 (mCons (mVar 0) mNil)) (gsName 4) (mSeq (mAppPop 3 2 (mBin (dIC posOk fun i j => .int (i % j)) (mVar 1) (mU dLen (mOwn 2)))) (mAsg 1 (mBin (dI fun i j => .int (i + j)) (mBin (dIC divOk fun i j => .int (i / j)) (mVar 1) (mBin (dI fun i j => .int (i - j)) (mVar 0) (mVar 4))) (mBin (dIC mulOk fun i j => .int (i * j)) (mC (.int 7)) (mVar 4)))))) (mRetO 3))))
def M_law_row : List Dt → Md Dt := mDef true 5 m_law_row
def m_law_alike_rows : Fd → Md Out := (mSeq (mIfS (mOr (mNot (mT (mCB dIsi (mCons (mVar 0) (mCons (mC (.ty "list")) mNil))))) (mT (mBin dNe (mU dLen (mVar 0)) (mU dLen (mVar 1))))) (mRet (mC (.bl false))) mNext) (mRet (mAndV (mU dAll (mLc (mItL (mVar 0)) (gsName 2) mYes (mCall 1 M_law_whole (mCons (mVar 2) mNil)) [2])) (mBin dEq (mVar 0) (mVar 1)))))
def M_law_alike_rows : List Dt → Md Dt := mDef false 3 m_law_alike_rows
def m_law_tied : Fd → Md Out := (mSeq (mIfS (mT (mBin dEq (mVar 0) (mC (.int 0)))) (mRet (mBin dEq (mBin (dIC posOk fun i j => .int (i % j)) (mVar 4) (mC (.int 2))) (mC (.int 0)))) mNext) (mSeq (mIfS (mT (mBin dEq (mVar 0) (mC (.int 1)))) (mRet (mOrV (mBin dEq (mVar 2) (mBin (dI fun i j => .int (i + j)) (mVar 1) (mC (.int 1)))) (mAndV (mBin dEq (mVar 1) (mC (.int 0))) (mBin dEq (mVar 2) (mBin (dI fun i j => .int (i - j)) (mVar 3) (mC (.int 1))))))) mNext) (mSeq (mIfS (mT (mBin dEq (mVar 0) (mC (.int 2)))) (mRet (mOrV (mAndV (mBin dEq (mVar 2) (mBin (dI fun i j => .int (i + j)) (mVar 1) (mC (.int 1)))) (mBin dNe (mVar 2) (mBin (dIC divOk fun i j => .int (i / j)) (mVar 3) (mC (.int 2))))) (mBin dEq (mVar 2) (mBin (dI fun i j => .int (i + j)) (mVar 1) (mBin (dIC divOk fun i j => .int (i / j)) (mVar 3) (mC (.int 2))))))) mNext) (mSeq (mIfS (mT (mBin dEq (mVar 0) (mC (.int 3)))) (mRet (mBin dEq (mBin (dIC posOk fun i j => .int (i % j)) (mBin (dI fun i j => .int (i + j)) (mVar 1) (mVar 2)) (mC (.int 2))) (mC (.int 1)))) mNext) (mSeq (mIfS (mT (mBin dEq (mVar 0) (mC (.int 4)))) (mRet (mAndV (mBin dEq (mVar 2) (mBin (dI fun i j => .int (i + j)) (mVar 1) (mC (.int 1)))) (mBin dEq (mBin (dIC posOk fun i j => .int (i % j)) (mVar 1) (mC (.int 2))) (mC (.int 0))))) mNext) (mSeq (mIfS (mT (mBin dEq (mVar 0) (mC (.int 5)))) (mRet (mBin dEq (mBin dLt (mVar 1) (mBin (dIC divOk fun i j => .int (i / j)) (mVar 3) (mC (.int 2)))) (mBin dLt (mVar 2) (mBin (dIC divOk fun i j => .int (i / j)) (mVar 3) (mC (.int 2)))))) mNext) (mSeq (mIfS (mT (mBin dEq (mVar 0) (mC (.int 6)))) (mRet (mBin dEq (mVar 1) (mBin (dIC divOk fun i j => .int (i / j)) (mBin (dI fun i j => .int (i - j)) (mVar 2) (mC (.int 1))) (mC (.int 2))))) mNext) (mSeq (mIfS (mT (mBin dEq (mVar 0) (mC (.int 7)))) (mSeq (mAsg 5 (mCB dMax (mCons (mC (.int 1)) (mCons (mBin (dIC divOk fun i j => .int (i / j)) (mVar 3) (mC (.int 2))) mNil)))) (mRet (mOrV (mAndV (mBin dEq (mVar 2) (mBin (dI fun i j => .int (i + j)) (mVar 1) (mC (.int 1)))) (mBin dGt (mBin (dIC posOk fun i j => .int (i % j)) (mVar 2) (mVar 5)) (mC (.int 0)))) (mAndV (mBin dEq (mBin (dIC posOk fun i j => .int (i % j)) (mVar 1) (mVar 5)) (mC (.int 0))) (mBin dEq (mVar 2) (mBin (dI fun i j => .int (i - j)) (mBin (dI fun i j => .int (i + j)) (mVar 1) (mVar 5)) (mC (.int 1)))))))) mNext) (mRet (mBin dEq (mBin (dIC posOk fun i j => .int (i % j)) (mVar 4) (mC (.int 4))) (mC (.int 0))))))))))))
def M_law_tied : List Dt → Md Dt := mDef false 6 m_law_tied
def m_law_uneven : Fd → Md Out := (mSeq (mAsg 1 (mLst (mCons (mTup (mCons (mC (.int 0)) (mCons (mC (.int 1)) mNil))) (mCons (mTup (mCons (mC (.int 1)) (mCons (mC (.int 2)) mNil))) (mCons (mTup (mCons (mC (.int 0)) (mCons (mC (.int 2)) mNil))) (mCons (mTup (mCons (mC (.int 3)) (mCons (mC (.int 4)) mNil))) (mCons (mTup (mCons (mC (.int 4)) (mCons (mC (.int 5)) mNil))) (mCons (mTup (mCons (mC (.int 5)) (mCons (mC (.int 6)) mNil))) (mCons (mTup (mCons (mC (.int 3)) (mCons (mC (.int 6)) mNil))) mNil))))))))) (mSeq (mIfS (mT (mBin dEq (mBin (dIC posOk fun i j => .int (i % j)) (mVar 0) (mC (.int 2))) (mC (.int 0)))) (mRet (mVar 1)) mNext) (mSeq (mAsgO 2 (mLst mNil)) (mSeq (mFor (mIt1 (mCons (mC (.int 7)) mNil)) (gsName 3) (mOwExt 2 (mLc (mIt1 (mCons (mVar 3) mNil)) (gsName 4) (mT (mBin dNotIn (mTup (mCons (mVar 4) (mCons (mVar 3) mNil))) (mVar 1))) (mTup (mCons (mVar 4) (mCons (mVar 3) mNil))) [4]))) (mRetO 2)))))
def M_law_uneven : List Dt → Md Dt := mDef false 5 m_law_uneven
def m_law_web_by : Fd → Md Out := (mSeq (mAsg 2 (mCall 2 M_law_cell_at (mCons (mVar 0) (mCons (mC (.int 0)) mNil)))) (mSeq (mAsg 3 (mBin (dI fun i j => .int (i + j)) (mC (.int 1)) (mBin (dIC posOk fun i j => .int (i % j)) (mVar 2) (mVar 1)))) (mSeq (mIfS (mAnd (mT (mBin dGt (mVar 1) (mC (.int 6)))) (mT (mBin dEq (mBin (dIC posOk fun i j => .int (i % j)) (mBin (dIC divOk fun i j => .int (i / j)) (mVar 2) (mC (.int 7))) (mC (.int 5))) (mC (.int 2))))) (mSeq (mAsg 4 (mCall 2 M_law_row (mCons (mC (.int 7)) (mCons (mCall 2 M_law_mixed (mCons (mCall 2 M_law_cell_at (mCons (mVar 0) (mCons (mC (.int 1)) mNil))) (mCons (mC (.int 1)) mNil))) mNil)))) (mSeq (mAsgO 7 (mLc (mItL (mCall 1 M_law_uneven (mCons (mBin (dIC divOk fun i j => .int (i / j)) (mVar 2) (mC (.int 35))) mNil))) (gsTup 2 (gsCons (gsName 5) (gsCons (gsName 6) gsNil))) mYes (mTup (mCons (mCB dMin (mCons (mBin dIx (mVar 4) (mVar 5)) (mCons (mBin dIx (mVar 4) (mVar 6)) mNil))) (mCons (mCB dMax (mCons (mBin dIx (mVar 4) (mVar 5)) (mCons (mBin dIx (mVar 4) (mVar 6)) mNil))) mNil))) [5, 6])) (mRet (mTup (mCons (mBin dRep (mLst (mCons (mBin (dIC posOk fun i j => .int (i % j)) (mBin (dIC divOk fun i j => .int (i / j)) (mVar 2) (mC (.int 70))) (mC (.int 10))) mNil)) (mC (.int 7))) (mCons (mU dSorted (mOwn 7)) mNil)))))) mNext) (mSeq (mAsg 8 (mBin (dIC posOk fun i j => .int (i % j)) (mBin (dIC divOk fun i j => .int (i / j)) (mVar 2) (mVar 1)) (mC (.int 9)))) (mSeq (mAsg 4 (mCall 2 M_law_row (mCons (mVar 3) (mCons (mCall 2 M_law_mixed (mCons (mCall 2 M_law_cell_at (mCons (mVar 0) (mCons (mC (.int 1)) mNil))) (mCons (mC (.int 1)) mNil))) mNil)))) (mSeq (mAsgO 7 (mLst mNil)) (mSeq (mFor (mIt1 (mCons (mVar 3) mNil)) (gsName 5) (mFor (mIt2 (mCons (mBin (dI fun i j => .int (i + j)) (mVar 5) (mC (.int 1))) (mCons (mVar 3) mNil))) (gsName 6) (mSeq (mAsg 9 (mCall 2 M_law_cell_at (mCons (mVar 0) (mCons (mBin (dI fun i j => .int (i + j)) (mC (.int 3)) (mBin (dIC posOk fun i j => .int (i % j)) (mBin (dI fun i j => .int (i + j)) (mBin (dIC mulOk fun i j => .int (i * j)) (mC (.int 7)) (mVar 5)) (mVar 6)) (mC (.int 20)))) mNil)))) (mIfS (mT (mBin dNe (mCall 5 M_law_tied (mCons (mVar 8) (mCons (mVar 5) (mCons (mVar 6) (mCons (mVar 3) (mCons (mCall 2 M_law_mixed (mCons (mVar 9) (mCons (mBin (dI fun i j => .int (i + j)) (mBin (dIC mulOk fun i j => .int (i * j)) (mC (.int 7)) (mVar 5)) (mVar 6)) mNil))) mNil)))))) (mBin dEq (mBin (dIC posOk fun i j => .int (i % j)) (mVar 9) (mC (.int 29))) (mC (.int 3))))) (mApp 7 (mTup (mCons (mCB dMin (mCons (mBin dIx (mVar 4) (mVar 5)) (mCons (mBin dIx (mVar 4) (mVar 6)) mNil))) (mCons (mCB dMax (mCons (mBin dIx (mVar 4) (mVar 5)) (mCons (mBin dIx (mVar 4) (mVar 6)) mNil))) mNil)))) mNext)))) (mSeq (mAsg 10 (mBin dIx (mLst (mCons (mC (.int 1)) (mCons (mC (.int 1)) (mCons (mC (.int 2)) (mCons (mC (.int 2)) (mCons (mC (.int 3)) (mCons (mC (.int 10)) mNil))))))) (mBin (dIC posOk fun i j => .int (i % j)) (mBin (dIC divOk fun i j => .int (i / j)) (mBin (dIC divOk fun i j => .int (i / j)) (mVar 2) (mVar 1)) (mC (.int 9))) (mC (.int 6))))) (mSeq (mAsg 11 (mLc (mIt1 (mCons (mVar 3) mNil)) (gsName 12) mYes (mBin (dIC posOk fun i j => .int (i % j)) (mCall 2 M_law_mixed (mCons (mCall 2 M_law_cell_at (mCons (mVar 0) (mCons (mC (.int 2)) mNil))) (mCons (mBin (dIC posOk fun i j => .int (i % j)) (mVar 12) (mBin dIx (mLst (mCons (mVar 3) (mCons (mC (.int 2)) (mCons (mC (.int 1)) mNil)))) (mBin (dIC posOk fun i j => .int (i % j)) (mBin (dIC divOk fun i j => .int (i / j)) (mVar 2) (mC (.int 7))) (mC (.int 3))))) mNil))) (mVar 10)) [12])) (mRet (mTup (mCons (mLc (mIt1 (mCons (mVar 3) mNil)) (gsName 13) mYes (mBin dIx (mVar 11) (mM isInts dIndex (mVar 4) (mVar 13))) [13]) (mCons (mU dSorted (mOwn 7)) mNil)))))))))))))
def M_law_web_by : List Dt → Md Dt := mDef false 14 m_law_web_by
def m_law_told (C_Web : Addr) : Fd → Md Out := (mSeq (mAsg 2 (mMeth C_Web "colours" 1 (M_Web_colours C_Web) (mVar 0) mNil)) (mSeq (mAsg 3 (mMeth C_Web "ties" 1 (M_Web_ties C_Web) (mVar 0) mNil)) (mSeq (mIfS (mOr (mNot (mT (mCB dIsi (mCons (mVar 2) (mCons (mC (.ty "list")) mNil))))) (mOr (mNot (mT (mCB dIsi (mCons (mVar 3) (mCons (mC (.ty "list")) mNil))))) (mNot (mT (mCall 1 M_law_whole (mCons (mU (dFld [] C_Web "size") (mVar 0)) mNil)))))) (mRet (mC (.bl false))) mNext) (mSeq (mIfS (mOr (mNot (mT (mU dAll (mLc (mItL (mVar 2)) (gsName 4) mYes (mCall 1 M_law_whole (mCons (mVar 4) mNil)) [4])))) (mT (mBin dNe (mU (dFld [] C_Web "size") (mVar 0)) (mU dLen (mBin dIx (mVar 1) (mC (.int 0))))))) (mRet (mC (.bl false))) mNext) (mSeq (mIfS (mNot (mT (mU dAll (mLc (mItL (mVar 3)) (gsName 5) mYes (mAndV (mCB dIsi (mCons (mVar 5) (mCons (mC (.ty "tuple")) mNil))) (mAndV (mCall 1 M_law_whole (mCons (mBin dIx (mVar 5) (mC (.int 0))) mNil)) (mCall 1 M_law_whole (mCons (mBin dIx (mVar 5) (mC (.int 1))) mNil)))) [5])))) (mRet (mC (.bl false))) mNext) (mRet (mAndV (mBin dEq (mVar 2) (mBin dIx (mVar 1) (mC (.int 0)))) (mBin dEq (mVar 3) (mBin dIx (mVar 1) (mC (.int 1)))))))))))
def M_law_told (C_Web : Addr) : List Dt → Md Dt := mDef false 6 (m_law_told C_Web)
def m_law_made (C_Web : Addr) : Fd → Md Out := (mSeq (mTry "BadWeb" (.bl true) (mDrop (mMake C_Web 3 (X_Web_init__ C_Web) (mCons (mVar 0) (mCons (mVar 1) mNil))))) (mRet (mC (.bl false))))
def M_law_made (C_Web : Addr) : List Dt → Md Dt := mDef false 3 (m_law_made C_Web)
def m_law_wrong : Fd → Md Out := (mSeq (mAsg 3 (mU dLen (mVar 0))) (mSeq (mAsg 4 (mBin (dIC posOk fun i j => .int (i % j)) (mBin (dIC divOk fun i j => .int (i / j)) (mVar 2) (mC (.int 8))) (mVar 3))) (mSeq (mAsg 5 (mBin (dIC posOk fun i j => .int (i % j)) (mBin (dIC divOk fun i j => .int (i / j)) (mVar 2) (mC (.int 8))) (mBin (dI fun i j => .int (i + j)) (mU dLen (mVar 1)) (mC (.int 1))))) (mSeq (mAsg 6 (mBin (dIC posOk fun i j => .int (i % j)) (mVar 2) (mC (.int 8)))) (mSeq (mIfS (mT (mBin dEq (mVar 6) (mC (.int 0)))) (mSeq (mAsg 7 (mBin dIx (mLst (mCons (mNeg (mC (.int 1))) (mCons (mC (.int 10)) (mCons (mC (.bl true)) (mCons (mC .non) (mCons (mC (.str ("1" : Str))) (mCons (mBin (dIC powOk fun i j => .int (i ^ j.toNat)) (mC (.int 10)) (mC (.int 9))) (mCons (mLst (mCons (mC (.int 1)) mNil)) (mCons (mLst mNil) mNil))))))))) (mBin (dIC posOk fun i j => .int (i % j)) (mBin (dIC divOk fun i j => .int (i / j)) (mVar 2) (mC (.int 96))) (mC (.int 8))))) (mRet (mTup (mCons (mBin dCat (mBin dCat (mSl (mVar 0) mNoO (mSoO (mVar 4))) (mLst (mCons (mVar 7) mNil))) (mSl (mVar 0) (mSoO (mBin (dI fun i j => .int (i + j)) (mVar 4) (mC (.int 1)))) mNoO)) (mCons (mVar 1) mNil))))) mNext) (mSeq (mIfS (mT (mBin dEq (mVar 6) (mC (.int 1)))) (mSeq (mAsgO 8 (mLst (mCons (mTup (mCons (mC (.int 0)) (mCons (mC (.int 12)) mNil))) (mCons (mTup (mCons (mNeg (mC (.int 1))) (mCons (mC (.int 0)) mNil))) (mCons (mTup (mCons (mC (.int 1)) (mCons (mC (.int 0)) mNil))) (mCons (mTup (mCons (mC (.int 0)) (mCons (mC (.int 0)) mNil))) (mCons (mLst (mCons (mC (.int 0)) (mCons (mC (.int 1)) mNil))) (mCons (mTup (mCons (mC (.int 0)) mNil)) (mCons (mTup (mCons (mC (.int 0)) (mCons (mC (.int 1)) (mCons (mC (.int 2)) mNil)))) (mCons (mC .non) (mCons (mTup (mCons (mC (.bl false)) (mCons (mC (.int 1)) mNil))) (mCons (mTup (mCons (mC (.str ("0" : Str))) (mCons (mC (.int 1)) mNil))) (mCons (mTup (mCons (mC .non) (mCons (mC (.int 1)) mNil))) mNil))))))))))))) (mSeq (mApp 8 (mTup (mCons (mC (.int 0)) (mCons (mLst (mCons (mC (.int 1)) mNil)) mNil)))) (mRet (mTup (mCons (mVar 0) (mCons (mBin dCat (mBin dCat (mSl (mVar 1) mNoO (mSoO (mVar 5))) (mLst (mCons (mBin dIx (mOwn 8) (mBin (dIC posOk fun i j => .int (i % j)) (mBin (dIC divOk fun i j => .int (i / j)) (mVar 2) (mC (.int 96))) (mC (.int 12)))) mNil))) (mSl (mVar 1) (mSoO (mVar 5)) mNoO)) mNil)))))) mNext) (mSeq (mIfS (mAnd (mT (mBin dEq (mVar 6) (mC (.int 2)))) (mT (mBin dNe (mVar 1) (mLst mNil)))) (mRet (mTup (mCons (mVar 0) (mCons (mBin dCat (mVar 1) (mLst (mCons (mBin dIx (mVar 1) (mBin (dIC posOk fun i j => .int (i % j)) (mVar 5) (mU dLen (mVar 1)))) mNil))) mNil)))) mNext) (mSeq (mIfS (mT (mBin dEq (mVar 6) (mC (.int 3)))) (mRet (mTup (mCons (mLst mNil) (mCons (mVar 1) mNil)))) mNext) (mSeq (mIfS (mT (mBin dEq (mVar 6) (mC (.int 4)))) (mRet (mTup (mCons (mBin dRep (mLst (mCons (mC (.int 1)) mNil)) (mC (.int 13))) (mCons (mVar 1) mNil)))) mNext) (mSeq (mIfS (mT (mBin dEq (mVar 6) (mC (.int 5)))) (mRet (mTup (mCons (mBin dIx (mLst (mCons (mU dTuple (mVar 0)) (mCons (mC .non) (mCons (mC (.int 3)) (mCons (mC (.str ("1" : Str))) mNil))))) (mBin (dIC posOk fun i j => .int (i % j)) (mBin (dIC divOk fun i j => .int (i / j)) (mVar 2) (mC (.int 8))) (mC (.int 4)))) (mCons (mVar 1) mNil)))) mNext) (mRet (mTup (mCons (mVar 0) (mCons (mBin dIx (mLst (mCons (mU dTuple (mVar 1)) (mCons (mC .non) (mCons (mC (.int 3)) (mCons (mC .dic) mNil))))) (mBin (dIC posOk fun i j => .int (i % j)) (mBin (dIC divOk fun i j => .int (i / j)) (mVar 2) (mC (.int 8))) (mC (.int 4)))) mNil))))))))))))))
def M_law_wrong : List Dt → Md Dt := mDef false 9 m_law_wrong
def x_law_beside_right (C_Web : Addr) : List Cl → Fd → Mx Out := (xSeq (xFor (fun m => (mIt1 (mCons (mU dLen (mVar 1)) mNil))) (gsName 4) (xSeq (xAsg 5 (xN fun m => (mMeth C_Web "beside" 2 (M_Web_beside C_Web) (mNl1 (mVar 0)) (mNl (mCons (mVar 4) mNil))))) (xSeq (xPS fun m => (mAsg 6 (mU dSorted (mLc (mItL (mVar 2)) (gsTup 2 (gsCons (gsName 7) (gsCons (gsName 8) gsNil))) (mOr (mT (mBin dEq (mVar 4) (mVar 7))) (mT (mBin dEq (mVar 4) (mVar 8)))) (mBin (dI fun i j => .int (i - j)) (mBin (dI fun i j => .int (i + j)) (mVar 7) (mVar 8)) (mVar 4)) [7, 8])))) (xSeq (xIf (xPT fun m => (mNot (mT (mCallF 2 M_law_alike_rows (mNl (mCons (mU (res m 8) (mVar 5)) (mCons (mVar 6) mNil))))))) (xRet (xP fun m => (mC (.bl false)))) xNext) (xDrop (xM1 fApp (fun m => (mVar 3)) (xP fun m => (mTup (mCons (mVar 5) (mCons (mU dList (mU (dCell m) (mVar 5))) mNil)))))))))) (xRet (xP fun m => (mC (.bl true)))))
def X_law_beside_right (C_Web : Addr) : List Cl → List Dt → Mx Dt := xDef 9 (x_law_beside_right C_Web)
def m_law_no_point (C_Web : Addr) : Fd → Md Out := (mSeq (mTry "NoPoint" (.bl true) (mDrop (mMeth C_Web "beside" 2 (M_Web_beside C_Web) (mVar 0) (mCons (mVar 1) mNil)))) (mRet (mC (.bl false))))
def M_law_no_point (C_Web : Addr) : List Dt → Md Dt := mDef false 3 (m_law_no_point C_Web)
def m_law_same_right (C_Web : Addr) : Fd → Md Out := (mSeq (mAsg 4 (mBin dCat (mBin dCat (mSl (mVar 1) mNoO (mSoO (mVar 3))) (mLst (mCons (mBin (dIC posOk fun i j => .int (i % j)) (mBin (dI fun i j => .int (i + j)) (mBin dIx (mVar 1) (mVar 3)) (mC (.int 1))) (mC (.int 10))) mNil))) (mSl (mVar 1) (mSoO (mBin (dI fun i j => .int (i + j)) (mVar 3) (mC (.int 1)))) mNoO))) (mSeq (mAsg 5 (mLst (mCons (mCall 2 (M_is_same C_Web) (mCons (mVar 0) (mCons (mMake C_Web 3 (X_Web_init__ C_Web) (mCons (mVar 1) (mCons (mVar 2) mNil))) mNil))) (mCons (mCall 2 (M_is_same C_Web) (mCons (mVar 0) (mCons (mMake C_Web 3 (X_Web_init__ C_Web) (mCons (mVar 4) (mCons (mVar 2) mNil))) mNil))) (mCons (mCall 2 (M_is_same C_Web) (mCons (mMake C_Web 3 (X_Web_init__ C_Web) (mCons (mVar 1) (mCons (mSl (mVar 2) (mSoO (mC (.int 1))) mNoO) mNil))) (mCons (mVar 0) mNil))) mNil))))) (mSeq (mIfS (mOr (mT (mBin dNe (mVar 5) (mLst (mCons (mC (.bl true)) (mCons (mC (.bl false)) (mCons (mBin dEq (mVar 2) (mLst mNil)) mNil)))))) (mNot (mT (mU dAll (mLc (mItL (mVar 5)) (gsName 7) mYes (mCB dIsi (mCons (mVar 7) (mCons (mC (.ty "bool")) mNil))) [7]))))) (mRet (mC (.bl false))) mNext) (mSeq (mIfS (mT (mBin dEq (mU dLen (mVar 1)) (mC (.int 12)))) (mRet (mC (.bl true))) mNext) (mSeq (mAsg 6 (mMake C_Web 3 (X_Web_init__ C_Web) (mCons (mBin dCat (mVar 1) (mLst (mCons (mBin dIx (mVar 1) (mC (.int 0))) mNil))) (mCons (mVar 2) mNil)))) (mRet (mAndV (mBin (dIsB false) (mCall 2 (M_is_same C_Web) (mCons (mVar 0) (mCons (mVar 6) mNil))) (mC (.bl false))) (mBin (dIsB false) (mCall 2 (M_is_same C_Web) (mCons (mVar 6) (mCons (mVar 0) mNil))) (mC (.bl false))))))))))
def M_law_same_right (C_Web : Addr) : List Dt → Md Dt := mDef false 8 (m_law_same_right C_Web)
def x_law (C_Web : Addr) : List Cl → Fd → Mx Out := (xSeq (xPS fun m => (mAsgT (gsTup 2 (gsCons (gsName 1) (gsCons (gsName 2) gsNil))) (mCall 2 M_law_web_by (mNl (mCons (mVar 0) (mCons (mC (.int 12)) mNil)))))) (xSeq (xPS fun m => (mAsg 3 (mCall 2 M_law_mixed (mNl (mCons (mCall 2 M_law_cell_at (mNl (mCons (mVar 0) (mCons (mC (.int 30)) mNil)))) (mCons (mC (.int 30)) mNil)))))) (xSeq (xIf (xPT fun m => (mT (mBin dEq (mBin (dIC posOk fun i j => .int (i % j)) (mVar 3) (mC (.int 3))) (mC (.int 1))))) (xSeq (xPS fun m => (mAsg 4 (mCall 3 M_law_wrong (mNl (mCons (mVar 1) (mCons (mVar 2) (mCons (mBin (dIC divOk fun i j => .int (i / j)) (mVar 3) (mC (.int 3))) mNil))))))) (xRet (xP fun m => (mCall 2 (M_law_made C_Web) (mNl (mCons (mBin dIx (mVar 4) (mC (.int 0))) (mCons (mBin dIx (mVar 4) (mC (.int 1))) mNil))))))) xNext) (xSeq (xPS fun m => (mAsg 5 (mU dRev (mVar 2)))) (xSeq (xAsg 6 (xLst (xCons (xN fun m => (mU dList (mVar 1))) (xCons (xN fun m => (mBin dCat (mSl (mVar 5) (mSoO (mBin (dIC posOk fun i j => .int (i % j)) (mBin (dIC divOk fun i j => .int (i / j)) (mVar 3) (mC (.int 3))) (mBin (dI fun i j => .int (i + j)) (mU dLen (mVar 2)) (mC (.int 1))))) mNoO) (mSl (mVar 5) mNoO (mSoO (mBin (dIC posOk fun i j => .int (i % j)) (mBin (dIC divOk fun i j => .int (i / j)) (mVar 3) (mC (.int 3))) (mBin (dI fun i j => .int (i + j)) (mU dLen (mVar 2)) (mC (.int 1)))))))) xNil)))) (xSeq (xPS fun m => (mAsg 7 (mLst (mCons (mU dList (mU (dCell m) (mBin dIx (mVar 6) (mC (.int 0))))) (mCons (mU dList (mU (dCell m) (mBin dIx (mVar 6) (mC (.int 1))))) mNil))))) (xSeq (xAsg 8 (xMakeF C_Web 3 (X_Web_init__ C_Web) (xCons (xP fun m => (mBin dIx (mVar 6) (mC (.int 0)))) (xCons (xP fun m => (mBin dIx (mVar 6) (mC (.int 1)))) xNil)))) (xSeq (xIf (xPT fun m => (mT (mBin dNe (mU (res m 8) (mVar 6)) (mU (res m 8) (mVar 7))))) (xRet (xP fun m => (mC (.bl false)))) xNext) (xSeq (xDrop (xM0 fClear (fun m => (mBin dIx (mVar 6) (mC (.int 0)))))) (xSeq (xDrop (xM1 fApp (fun m => (mBin dIx (mVar 6) (mC (.int 1)))) (xP fun m => (mTup (mCons (mC (.int 0)) (mCons (mC (.int 1)) mNil)))))) (xSeq (xIf (xAnd (xPT fun m => (mT (mBin dEq (mBin (dIC posOk fun i j => .int (i % j)) (mBin (dIC divOk fun i j => .int (i / j)) (mVar 3) (mC (.int 9))) (mC (.int 2))) (mC (.int 1))))) (xNot (xT (xCall 4 (X_law_beside_right C_Web) (xCons (xP fun m => (mVar 8)) (xCons (xP fun m => (mVar 1)) (xCons (xP fun m => (mVar 2)) (xCons (xN fun m => (mLst mNil)) xNil)))))))) (xRet (xP fun m => (mC (.bl false)))) xNext) (xSeq (xAsg 9 (xLstN (xCons (xTup (xCons (xN fun m => (mMeth C_Web "colours" 1 (M_Web_colours C_Web) (mNl1 (mVar 8)) (mNl mNil))) (xCons (xP fun m => (mU dList (mVar 1))) xNil))) (xCons (xTup (xCons (xN fun m => (mMeth C_Web "ties" 1 (M_Web_ties C_Web) (mNl1 (mVar 8)) (mNl mNil))) (xCons (xP fun m => (mU dList (mVar 2))) xNil))) xNil)))) (xSeq (xIf (xOr (xPT fun m => (mNot (mT (mCall 2 (M_law_told C_Web) (mNl (mCons (mVar 8) (mCons (mTup (mCons (mVar 1) (mCons (mVar 2) mNil))) mNil))))))) (xNot (xT (xCall 4 (X_law_beside_right C_Web) (xCons (xP fun m => (mVar 8)) (xCons (xP fun m => (mVar 1)) (xCons (xP fun m => (mVar 2)) (xCons (xP fun m => (mVar 9)) xNil)))))))) (xRet (xP fun m => (mC (.bl false)))) xNext) (xSeq (xIf (xPT fun m => (mNot (mT (mCall 4 (M_law_same_right C_Web) (mNl (mCons (mVar 8) (mCons (mVar 1) (mCons (mVar 2) (mCons (mBin (dIC posOk fun i j => .int (i % j)) (mBin (dIC divOk fun i j => .int (i / j)) (mVar 3) (mC (.int 39))) (mU dLen (mVar 1))) mNil))))))))) (xRet (xP fun m => (mC (.bl false)))) xNext) (xSeq (xIf (xPT fun m => (mT (mBin dNe (mU (res m 8) (mLc (mItL (mU (dCell m) (mVar 9))) (gsName 10) (mT (mBin dNe (mU (res m 8) (mBin dIx (mVar 10) (mC (.int 0)))) (mBin dIx (mVar 10) (mC (.int 1))))) (mVar 10) [10])) (mLst mNil)))) (xRet (xP fun m => (mC (.bl false)))) xNext) (xSeq (xForX (xP fun m => (mVar 9)) (gsName 10) (xDrop (xM1 fApp (fun m => (mBin dIx (mVar 10) (mC (.int 0)))) (xP fun m => (mC (.int 0)))))) (xSeq (xIf (xOr (xPT fun m => (mNot (mT (mCall 2 (M_law_told C_Web) (mNl (mCons (mVar 8) (mCons (mTup (mCons (mVar 1) (mCons (mVar 2) mNil))) mNil))))))) (xNot (xT (xCall 4 (X_law_beside_right C_Web) (xCons (xP fun m => (mVar 8)) (xCons (xP fun m => (mVar 1)) (xCons (xP fun m => (mVar 2)) (xCons (xN fun m => (mLst mNil)) xNil)))))))) (xRet (xP fun m => (mC (.bl false)))) xNext) (xSeq (xPS fun m => (mAsg 11 (mBin dIx (mLst (mCons (mNeg (mC (.int 1))) (mCons (mU dLen (mVar 1)) (mCons (mC (.bl true)) (mCons (mC .non) (mCons (mC (.str ("0" : Str))) (mCons (mBin (dI fun i j => .int (i + j)) (mU dLen (mVar 1)) (mBin (dIC powOk fun i j => .int (i ^ j.toNat)) (mC (.int 10)) (mC (.int 9)))) (mCons (mC (.bl false)) (mCons (mLst mNil) (mCons (mLst (mCons (mC (.int 0)) mNil)) mNil)))))))))) (mBin (dIC posOk fun i j => .int (i % j)) (mBin (dIC divOk fun i j => .int (i / j)) (mVar 3) (mC (.int 507))) (mC (.int 9)))))) (xRet (xP fun m => (mCall 2 (M_law_no_point C_Web) (mNl (mCons (mVar 8) (mCons (mVar 11) mNil))))))))))))))))))))))))
def X_law (C_Web : Addr) : List Cl → List Dt → Mx Dt := xDef 12 (x_law C_Web)
end K2
namespace K2
open PySem L2 Mr
section
variable {P : Program} {w : World} {K : PySem.W.Frag} {T : List Addr} {mg : Str → Option Value} {base : Heap}
theorem ok_is_whole {f : Addr} {fd : FuncData} (F : Fun K "is_whole" "is_whole" st_is_whole f fd) (hm : mg "is_whole" = some (.ref f)) (hb : Binds K fd ["thing"] []) (b_int : mg "int" = none) (b_type : mg "type" = none) : DefOk P w K T mg base 1 "is_whole" ["thing"] false M_is_whole :=
  def_ok (N := N_is_whole) (n := 1) (k := 0) (nw := false) (ms := m_is_whole) rfl F sc_is_whole hm hb fun cdv A outer s H E cc => ⟨_, (by exact b_one (by exact s_ret (by exact d_cmp c_is (by exact d_type b_type (by exact dv 0)) (by exact d_ty b_int (by decide +kernel)))))⟩
theorem ok_is_below {f : Addr} {fd : FuncData} (F : Fun K "is_below" "is_below" st_is_below f fd) (hm : mg "is_below" = some (.ref f)) (hb : Binds K fd ["thing", "limit"] []) (f_is_whole : DefOk P w K T mg base 1 "is_whole" ["thing"] false M_is_whole) : DefOk P w K T mg base 2 "is_below" ["thing", "limit"] false M_is_below :=
  def_ok (N := N_is_below) (n := 2) (k := 1) (nw := false) (ms := m_is_below) rfl F sc_is_below hm hb fun cdv A outer s H E cc => ⟨_, (by exact b_one (by exact s_ret (by exact d_and (by exact d_call (K0 := K) (mg0 := mg) cc f_is_whole (by exact a_s (by exact dv 0) a_nil)) (by exact d_one (by exact d_chain c_le c_lt d_int (by exact dv 0) (by exact dv 1))))))⟩
theorem ok_are_colours {f : Addr} {fd : FuncData} (F : Fun K "_are_colours" "_are_colours" st_are_colours f fd) (hm : mg "_are_colours" = some (.ref f)) (hb : Binds K fd ["thing"] []) {c Pt : Addr} (hc : fd.code = .ref c) (TB : GxR.TabB base mg c Pt) (hP : Pt ∈ T) (b_all : mg "all" = none) {t_MANY_COLOURS : Tok} (c_MANY_COLOURS : mg "MANY_COLOURS" = some (.int 10 t_MANY_COLOURS)) {t_MOST_POINTS : Tok} (c_MOST_POINTS : mg "MOST_POINTS" = some (.int 12 t_MOST_POINTS)) (f_is_below : DefOk P w K T mg base 2 "is_below" ["thing", "limit"] false M_is_below) (b_len : mg "len" = none) (b_list : mg "list" = none) (q_is_below : QDef P w K mg base 2 "is_below" 2 M_is_below) (b_type : mg "type" = none) : DefOk P w K T mg base 4 "_are_colours" ["thing"] false M_are_colours :=
  def_okG (N := N_are_colours) (n := 2) (k := 3) (nw := false) (ms := m_are_colours) hc rfl F sc_are_colours hm hb fun A outer s H E cc => ⟨_, (by exact b_cons (by exact s_if (by exact w_t (by exact w_or (by exact t_cmp c_isNot (by exact d_type b_type (by exact dv 0)) (by exact d_ty b_list (by decide +kernel))) (by exact w_or1 (by exact t_not (by exact t_chain c_le c_le d_int (by exact d_len (K0 := K) b_len (by exact dv 0)) (by exact d_glI c_MOST_POINTS)))))) (by exact b_one (by exact s_ret d_bl)) b_nil) (by exact b_one (by exact s_ret (by exact d_allG cc b_all TB hP rfl (by exact blkOk_by (N := N_are_colours) (sc := defScope st_are_colours) (by decide +kernel)) (by exact dv 0) (by exact fun g' C' cv' => (by exact y_call q_is_below (by exact ya_cons (by exact y_var 1) (by exact ya_cons (by exact y_glI c_MANY_COLOURS) ya_nil))))))))⟩
theorem ok_is_tie {f : Addr} {fd : FuncData} (F : Fun K "_is_tie" "_is_tie" st_is_tie f fd) (hm : mg "_is_tie" = some (.ref f)) (hb : Binds K fd ["thing", "size"] []) (f_is_below : DefOk P w K T mg base 2 "is_below" ["thing", "limit"] false M_is_below) (b_len : mg "len" = none) (b_tuple : mg "tuple" = none) (b_type : mg "type" = none) : DefOk P w K T mg base 3 "_is_tie" ["thing", "size"] false M_is_tie :=
  def_ok (N := N_is_tie) (n := 4) (k := 2) (nw := false) (ms := m_is_tie) rfl F sc_is_tie hm hb fun cdv A outer s H E cc => ⟨_, (by exact b_cons (by exact s_if (by exact w_t (by exact w_or (by exact t_cmp c_isNot (by exact d_type b_type (by exact dv 0)) (by exact d_ty b_tuple (by decide +kernel))) (by exact w_or1 (by exact t_cmp (c_ne (K0 := K) cc) (by exact d_len (K0 := K) b_len (by exact dv 0)) d_int)))) (by exact b_one (by exact s_ret d_bl)) b_nil) (by exact b_cons (by exact s_asgT (by exact dv 0) (by exact g_tup (K0 := K) cc.calm (by exact gs_cons (by exact g_name 2 cc.nd) (by exact gs_cons (by exact g_name 3 cc.nd) gs_nil)))) (by exact b_one (by exact s_ret (by exact d_and (by exact d_call (K0 := K) (mg0 := mg) cc f_is_below (by exact a_s (by exact dv 2) (by exact a_s (by exact dv 1) a_nil))) (by exact d_and (by exact d_call (K0 := K) (mg0 := mg) cc f_is_below (by exact a_s (by exact dv 3) (by exact a_s (by exact dv 1) a_nil))) (by exact d_one (by exact d_cmp c_lt (by exact dv 2) (by exact dv 3)))))))))⟩
theorem ok_are_ties {f : Addr} {fd : FuncData} (F : Fun K "_are_ties" "_are_ties" st_are_ties f fd) (hm : mg "_are_ties" = some (.ref f)) (hb : Binds K fd ["thing", "size"] []) {c Pt : Addr} (hc : fd.code = .ref c) (TB : GxR.TabB base mg c Pt) (hP : Pt ∈ T) (b_all : mg "all" = none) (f_is_tie : DefOk P w K T mg base 3 "_is_tie" ["thing", "size"] false M_is_tie) (b_len : mg "len" = none) (b_list : mg "list" = none) (q_is_tie : QDef P w K mg base 3 "_is_tie" 2 M_is_tie) (b_set : mg "set" = none) (b_type : mg "type" = none) : DefOk P w K T mg base 5 "_are_ties" ["thing", "size"] false M_are_ties :=
  def_okG (N := N_are_ties) (n := 3) (k := 4) (nw := false) (ms := m_are_ties) hc rfl F sc_are_ties hm hb fun A outer s H E cc => ⟨_, (by exact b_cons (by exact s_if (by exact w_t (by exact w_or (by exact t_cmp c_isNot (by exact d_type b_type (by exact dv 0)) (by exact d_ty b_list (by decide +kernel))) (by exact w_or1 (by exact t_not (by exact t_val (by exact d_allG cc b_all TB hP rfl (by exact blkOk_by (N := N_are_ties) (sc := defScope st_are_ties) (by decide +kernel)) (by exact dv 0) (by exact fun g' C' cv' => (by exact y_call q_is_tie (by exact ya_cons (by exact y_var 2) (by exact ya_cons (by exact y_var 1) ya_nil)))))))))) (by exact b_one (by exact s_ret d_bl)) b_nil) (by exact b_one (by exact s_ret (by exact d_cmp (c_eq (K0 := K) cc) (by exact d_lenSet (K0 := K) cc b_len b_set (by exact dv 0)) (by exact d_len (K0 := K) b_len (by exact dv 0))))))⟩
theorem okk_Web_init__ {f : Addr} {fd : FuncData} (F : Fun K "__init__" "Web.__init__" st_Web_init__ f fd) {C_Web : Addr} (hcl : mg "Web" = some (.ref C_Web)) (hmk : Mk K C_Web f) (hb : Binds K fd ["self", "colours", "ties"] []) {E_BadWeb : Addr} (g_BadWeb : mg "BadWeb" = some (.ref E_BadWeb)) (x_BadWeb : ExcK K E_BadWeb) (n_Web_colours : NoAttr K C_Web "_colours") (n_Web_ties : NoAttr K C_Web "_ties") (n_Web_size : NoAttr K C_Web "size") (f_are_colours : DefOk P w K T mg base 4 "_are_colours" ["thing"] false M_are_colours) (f_are_ties : DefOk P w K T mg base 5 "_are_ties" ["thing", "size"] false M_are_ties) (k_Web : Cls K C_Web) (b_len : mg "len" = none) (b_list : mg "list" = none) (b_sorted : mg "sorted" = none) : MkOk P w K T mg base 6 "Web" C_Web ["self", "colours", "ties"] (X_Web_init__ C_Web) :=
  mk_ok (N := N_Web_init__) (n := 3) (k := 5) (ms := (x_Web_init__ C_Web)) rfl F sc_Web_init__ hcl hmk hb fun cdv A outer s H E cc => ⟨_, (by exact xb_cons (by exact xs_if (by exact xt_p (fun M => (by exact t_not (by exact t_val (by exact d_callFN (K0 := K) (mg0 := mg) cc f_are_colours (by exact a_t (by exact d_res (by exact dv 1)) a_nil)))))) (by exact xb_one (by exact xs_p (fun M => (by exact s_raise cc g_BadWeb x_BadWeb)))) xb_nil) (by exact xb_cons (by exact xs_if (by exact xt_p (fun M => (by exact t_not (by exact t_val (by exact d_callFN (K0 := K) (mg0 := mg) cc f_are_ties (by exact a_t (by exact d_res (by exact dv 2)) (by exact a_t (by exact d_len (K0 := K) b_len (by exact d_cell (by exact dv 1))) a_nil))))))) (by exact xb_one (by exact xs_p (fun M => (by exact s_raise cc g_BadWeb x_BadWeb)))) xb_nil) (by exact xb_cons (by exact xs_fld (K0 := K) k_Web n_Web_size (by exact x_p (fun M => (by exact d_len (K0 := K) b_len (by exact d_cell (by exact dv 1))))) (fun M => (by exact dv 0))) (by exact xb_cons (by exact xs_fld (K0 := K) k_Web n_Web_colours (by exact x_p (fun M => (by exact d_give (by exact d_list (K0 := K) b_list (by exact d_cell (by exact dv 1)))))) (fun M => (by exact dv 0))) (by exact xb_one (by exact xs_fld (K0 := K) k_Web n_Web_ties (by exact x_p (fun M => (by exact d_give (by exact d_sorted (K0 := K) b_sorted (by exact d_cell (by exact dv 2)))))) (fun M => (by exact dv 0))))))))⟩
theorem okp_Web_colours {f : Addr} {fd : FuncData} (F : Fun K "colours" "Web.colours" st_Web_colours f fd) {C_Web : Addr} (hme : Meth K C_Web "colours" f) (hb : Binds K fd ["self"] []) (n_Web_colours : NoAttr K C_Web "_colours") (k_Web : Cls K C_Web) (b_list : mg "list" = none) : PmOk P w K T mg base 1 C_Web "colours" ["self"] true (M_Web_colours C_Web) :=
  pm_ok (N := N_Web_colours) (n := 1) (k := 0) (nw := true) (ms := (m_Web_colours C_Web)) rfl F sc_Web_colours hme hb fun cdv A outer s H E cc => ⟨_, (by exact b_one (by exact s_retn (by exact d_list (K0 := K) b_list (by exact d_fld (by exact dv 0) k_Web n_Web_colours))))⟩
theorem okp_Web_ties {f : Addr} {fd : FuncData} (F : Fun K "ties" "Web.ties" st_Web_ties f fd) {C_Web : Addr} (hme : Meth K C_Web "ties" f) (hb : Binds K fd ["self"] []) (n_Web_ties : NoAttr K C_Web "_ties") (k_Web : Cls K C_Web) (b_list : mg "list" = none) : PmOk P w K T mg base 1 C_Web "ties" ["self"] true (M_Web_ties C_Web) :=
  pm_ok (N := N_Web_ties) (n := 1) (k := 0) (nw := true) (ms := (m_Web_ties C_Web)) rfl F sc_Web_ties hme hb fun cdv A outer s H E cc => ⟨_, (by exact b_one (by exact s_retn (by exact d_list (K0 := K) b_list (by exact d_fld (by exact dv 0) k_Web n_Web_ties))))⟩
theorem okp_Web_beside {f : Addr} {fd : FuncData} (F : Fun K "beside" "Web.beside" st_Web_beside f fd) {C_Web : Addr} (hme : Meth K C_Web "beside" f) (hb : Binds K fd ["self", "point"] []) {E_NoPoint : Addr} (g_NoPoint : mg "NoPoint" = some (.ref E_NoPoint)) (x_NoPoint : ExcK K E_NoPoint) (n_Web_ties : NoAttr K C_Web "_ties") (n_Web_size : NoAttr K C_Web "size") (f_is_below : DefOk P w K T mg base 2 "is_below" ["thing", "limit"] false M_is_below) (k_Web : Cls K C_Web) (b_sorted : mg "sorted" = none) : PmOk P w K T mg base 3 C_Web "beside" ["self", "point"] true (M_Web_beside C_Web) :=
  pm_ok (N := N_Web_beside) (n := 4) (k := 2) (nw := true) (ms := (m_Web_beside C_Web)) rfl F sc_Web_beside hme hb fun cdv A outer s H E cc => ⟨_, (by exact b_cons (by exact s_if (by exact t_not (by exact t_val (by exact d_call (K0 := K) (mg0 := mg) cc f_is_below (by exact a_s (by exact dv 1) (by exact a_s (by exact d_fld (by exact dv 0) k_Web n_Web_size) a_nil))))) (by exact b_one (by exact s_raise cc g_NoPoint x_NoPoint)) b_nil) (by exact b_one (by exact s_retn (by exact d_sorted (K0 := K) b_sorted (by exact d_lc (own := [(("a" : Str), 2), (("b" : Str), 3)]) cc (by exact j_i (by exact i_list (K0 := K) (by exact d_fld (by exact dv 0) k_Web n_Web_ties))) (by exact blkOk_by (N := N_Web_beside) (sc := defScope st_Web_beside) (by decide +kernel)) (by exact fun s' H' C' cl' fp' cc' => (by exact g_tup (K0 := K) cc'.calm (by exact gs_cons (by exact g_name 2 cc'.nd) (by exact gs_cons (by exact g_name 3 cc'.nd) gs_nil)))) (by exact fun s' H' C' cl' fp' cc' => (by exact q_one (by exact t_cmp (c_inT (K0 := K)) (by exact dv 1) (by exact d_tup (by exact a_s (by exact dv 2) (by exact a_s (by exact dv 3) a_nil)))))) (by exact fun s' H' C' cl' fp' cc' => (by exact d_ifE (by exact t_cmp (c_eq (K0 := K) cc') (by exact dv 2) (by exact dv 1)) (by exact dv 3) (by exact dv 2))))))))⟩
theorem ok_is_same {f : Addr} {fd : FuncData} (F : Fun K "is_same" "is_same" st_is_same f fd) (hm : mg "is_same" = some (.ref f)) (hb : Binds K fd ["one", "other"] []) {C_Web : Addr} (k_Web : Cls K C_Web) (p_Web_colours : PmOk P w K T mg base 1 C_Web "colours" ["self"] true (M_Web_colours C_Web)) (p_Web_ties : PmOk P w K T mg base 1 C_Web "ties" ["self"] true (M_Web_ties C_Web)) : DefOk P w K T mg base 2 "is_same" ["one", "other"] false (M_is_same C_Web) :=
  def_ok (N := N_is_same) (n := 2) (k := 1) (nw := false) (ms := (m_is_same C_Web)) rfl F sc_is_same hm hb fun cdv A outer s H E cc => ⟨_, (by exact b_one (by exact s_ret (by exact d_and (by exact d_cmp (c_eq (K0 := K) cc) (by exact d_meth0 (K0 := K) (mg0 := mg) cc p_Web_colours k_Web (by exact dv 0)) (by exact d_meth0 (K0 := K) (mg0 := mg) cc p_Web_colours k_Web (by exact dv 1))) (by exact d_one (by exact d_cmp (c_eq (K0 := K) cc) (by exact d_meth0 (K0 := K) (mg0 := mg) cc p_Web_ties k_Web (by exact dv 0)) (by exact d_meth0 (K0 := K) (mg0 := mg) cc p_Web_ties k_Web (by exact dv 1)))))))⟩
theorem ok_law_cell_at {f : Addr} {fd : FuncData} (F : Fun K "_law_cell_at" "_law_cell_at" st_law_cell_at f fd) (hm : mg "_law_cell_at" = some (.ref f)) (hb : Binds K fd ["_law_script", "_law_k"] []) (b_len : mg "len" = none) : DefOk P w K T mg base 1 "_law_cell_at" ["_law_script", "_law_k"] false M_law_cell_at :=
  def_ok (N := N_law_cell_at) (n := 2) (k := 0) (nw := false) (ms := m_law_cell_at) rfl F sc_law_cell_at hm hb fun cdv A outer s H E cc => ⟨_, (by exact b_cons (by exact s_if (by exact t_cmp c_lt (by exact dv 1) (by exact d_len (K0 := K) b_len (by exact dv 0))) (by exact b_one (by exact s_ret (by exact d_ix (K0 := K) (by exact dv 0) (by exact dv 1)))) b_nil) (by exact b_one (by exact s_ret d_int)))⟩
theorem ok_law_mixed {f : Addr} {fd : FuncData} (F : Fun K "_law_mixed" "_law_mixed" st_law_mixed f fd) (hm : mg "_law_mixed" = some (.ref f)) (hb : Binds K fd ["_law_cell", "_law_k"] [])  : DefOk P w K T mg base 1 "_law_mixed" ["_law_cell", "_law_k"] false M_law_mixed :=
  def_ok (N := N_law_mixed) (n := 3) (k := 0) (nw := false) (ms := m_law_mixed) rfl F sc_law_mixed hm hb fun cdv A outer s H E cc => ⟨_, (by exact b_cons (by exact s_set 2 cc (by exact d_add (by exact d_add (by exact dv 0) (by exact d_mul d_int (by exact dv 1))) d_int)) (by exact b_one (by exact s_ret (by exact d_fdiv (by exact d_mod (by exact d_mul (by exact d_mod (by exact d_mul (by exact dv 2) (by exact dv 2)) d_int) d_int) d_int) d_int))))⟩
theorem ok_law_whole {f : Addr} {fd : FuncData} (F : Fun K "_law_whole" "_law_whole" st_law_whole f fd) (hm : mg "_law_whole" = some (.ref f)) (hb : Binds K fd ["_law_found"] []) (b_bool : mg "bool" = none) (b_int : mg "int" = none) (b_isinstance : mg "isinstance" = none) : DefOk P w K T mg base 1 "_law_whole" ["_law_found"] false M_law_whole :=
  def_ok (N := N_law_whole) (n := 1) (k := 0) (nw := false) (ms := m_law_whole) rfl F sc_law_whole hm hb fun cdv A outer s H E cc => ⟨_, (by exact b_one (by exact s_ret (by exact d_and (by exact d_isi (K0 := K) b_isinstance (by exact a_t (by exact dv 0) (by exact a_t (by exact d_ty b_int (by decide +kernel)) a_nil))) (by exact d_one (by exact d_not (by exact d_isi (K0 := K) b_isinstance (by exact a_t (by exact dv 0) (by exact a_t (by exact d_ty b_bool (by decide +kernel)) a_nil))))))))⟩
theorem ok_law_row {f : Addr} {fd : FuncData} (F : Fun K "_law_row" "_law_row" st_law_row f fd) (hm : mg "_law_row" = some (.ref f)) (hb : Binds K fd ["_law_size", "_law_number"] []) (b_len : mg "len" = none) (b_list : mg "list" = none) (b_range : mg "range" = none) : DefOk P w K T mg base 1 "_law_row" ["_law_size", "_law_number"] true M_law_row :=
  def_ok (N := N_law_row) (n := 5) (k := 0) (nw := true) (ms := m_law_row) rfl F sc_law_row hm hb fun cdv A outer s H E cc => ⟨_, (by exact b_cons (by exact s_setO 2 cc (by exact d_listRg cc b_list b_range (by exact dv 0))) (by exact b_cons (by exact s_setO 3 cc (by exact d_lst a_nil)) (by exact b_cons (by exact s_for cc (by exact i_rng1 b_range (by exact a_t (by exact dv 0) a_nil)) (by exact g_name 4 cc.nd) (by exact b_cons (by exact s_appPop 3 2 (by exact d_mod (by exact dv 1) (by exact d_len (K0 := K) b_len (by exact dO 2)))) (by exact b_one (by exact s_set 1 cc (by exact d_add (by exact d_fdiv (by exact dv 1) (by exact d_sub (by exact dv 0) (by exact dv 4))) (by exact d_mul d_int (by exact dv 4))))))) (by exact b_one (by exact s_retO 3)))))⟩
theorem ok_law_alike_rows {f : Addr} {fd : FuncData} (F : Fun K "_law_alike_rows" "_law_alike_rows" st_law_alike_rows f fd) (hm : mg "_law_alike_rows" = some (.ref f)) (hb : Binds K fd ["_law_found", "_law_due"] []) (b_all : mg "all" = none) (f_law_whole : DefOk P w K T mg base 1 "_law_whole" ["_law_found"] false M_law_whole) (b_isinstance : mg "isinstance" = none) (b_len : mg "len" = none) (b_list : mg "list" = none) : DefOk P w K T mg base 2 "_law_alike_rows" ["_law_found", "_law_due"] false M_law_alike_rows :=
  def_ok (N := N_law_alike_rows) (n := 3) (k := 1) (nw := false) (ms := m_law_alike_rows) rfl F sc_law_alike_rows hm hb fun cdv A outer s H E cc => ⟨_, (by exact b_cons (by exact s_if (by exact w_t (by exact w_or (by exact t_not (by exact t_val (by exact d_isi (K0 := K) b_isinstance (by exact a_t (by exact dv 0) (by exact a_t (by exact d_ty b_list (by decide +kernel)) a_nil))))) (by exact w_or1 (by exact t_cmp (c_ne (K0 := K) cc) (by exact d_len (K0 := K) b_len (by exact dv 0)) (by exact d_len (K0 := K) b_len (by exact dv 1)))))) (by exact b_one (by exact s_ret d_bl)) b_nil) (by exact b_one (by exact s_ret (by exact d_and (by exact d_all (K0 := K) cc.calm b_all (by exact d_lc (own := [(("_law_one" : Str), 2)]) cc (by exact j_i (by exact i_list (K0 := K) (by exact dv 0))) (by exact blkOk_by (N := N_law_alike_rows) (sc := defScope st_law_alike_rows) (by decide +kernel)) (by exact fun s' H' C' cl' fp' cc' => (by exact g_name 2 cc'.nd)) (by exact fun s' H' C' cl' fp' cc' => q_nil) (by exact fun s' H' C' cl' fp' cc' => (by exact d_call (K0 := K) (mg0 := mg) cc' f_law_whole (by exact a_s (by exact dv 2) a_nil))))) (by exact d_one (by exact d_cmp (c_eq (K0 := K) cc) (by exact dv 0) (by exact dv 1)))))))⟩
theorem ok_law_tied {f : Addr} {fd : FuncData} (F : Fun K "_law_tied" "_law_tied" st_law_tied f fd) (hm : mg "_law_tied" = some (.ref f)) (hb : Binds K fd ["_law_kind", "_law_one", "_law_other", "_law_size", "_law_number"] []) (b_max : mg "max" = none) : DefOk P w K T mg base 1 "_law_tied" ["_law_kind", "_law_one", "_law_other", "_law_size", "_law_number"] false M_law_tied :=
  def_ok (N := N_law_tied) (n := 6) (k := 0) (nw := false) (ms := m_law_tied) rfl F sc_law_tied hm hb fun cdv A outer s H E cc => ⟨_, (by exact b_cons (by exact s_if (by exact t_cmp (c_eq (K0 := K) cc) (by exact dv 0) d_int) (by exact b_one (by exact s_ret (by exact d_cmp (c_eq (K0 := K) cc) (by exact d_mod (by exact dv 4) d_int) d_int))) b_nil) (by exact b_cons (by exact s_if (by exact t_cmp (c_eq (K0 := K) cc) (by exact dv 0) d_int) (by exact b_one (by exact s_ret (by exact d_or (by exact d_cmp (c_eq (K0 := K) cc) (by exact dv 2) (by exact d_add (by exact dv 1) d_int)) (by exact d_one (by exact d_and (by exact d_cmp (c_eq (K0 := K) cc) (by exact dv 1) d_int) (by exact d_one (by exact d_cmp (c_eq (K0 := K) cc) (by exact dv 2) (by exact d_sub (by exact dv 3) d_int)))))))) b_nil) (by exact b_cons (by exact s_if (by exact t_cmp (c_eq (K0 := K) cc) (by exact dv 0) d_int) (by exact b_one (by exact s_ret (by exact d_or (by exact d_and (by exact d_cmp (c_eq (K0 := K) cc) (by exact dv 2) (by exact d_add (by exact dv 1) d_int)) (by exact d_one (by exact d_cmp (c_ne (K0 := K) cc) (by exact dv 2) (by exact d_fdiv (by exact dv 3) d_int)))) (by exact d_one (by exact d_cmp (c_eq (K0 := K) cc) (by exact dv 2) (by exact d_add (by exact dv 1) (by exact d_fdiv (by exact dv 3) d_int))))))) b_nil) (by exact b_cons (by exact s_if (by exact t_cmp (c_eq (K0 := K) cc) (by exact dv 0) d_int) (by exact b_one (by exact s_ret (by exact d_cmp (c_eq (K0 := K) cc) (by exact d_mod (by exact d_add (by exact dv 1) (by exact dv 2)) d_int) d_int))) b_nil) (by exact b_cons (by exact s_if (by exact t_cmp (c_eq (K0 := K) cc) (by exact dv 0) d_int) (by exact b_one (by exact s_ret (by exact d_and (by exact d_cmp (c_eq (K0 := K) cc) (by exact dv 2) (by exact d_add (by exact dv 1) d_int)) (by exact d_one (by exact d_cmp (c_eq (K0 := K) cc) (by exact d_mod (by exact dv 1) d_int) d_int))))) b_nil) (by exact b_cons (by exact s_if (by exact t_cmp (c_eq (K0 := K) cc) (by exact dv 0) d_int) (by exact b_one (by exact s_ret (by exact d_cmp (c_eq (K0 := K) cc) (by exact d_cmp c_lt (by exact dv 1) (by exact d_fdiv (by exact dv 3) d_int)) (by exact d_cmp c_lt (by exact dv 2) (by exact d_fdiv (by exact dv 3) d_int))))) b_nil) (by exact b_cons (by exact s_if (by exact t_cmp (c_eq (K0 := K) cc) (by exact dv 0) d_int) (by exact b_one (by exact s_ret (by exact d_cmp (c_eq (K0 := K) cc) (by exact dv 1) (by exact d_fdiv (by exact d_sub (by exact dv 2) d_int) d_int)))) b_nil) (by exact b_cons (by exact s_if (by exact t_cmp (c_eq (K0 := K) cc) (by exact dv 0) d_int) (by exact b_cons (by exact s_set 5 cc (by exact d_max cc.calm b_max (by exact a_t d_int (by exact a_t (by exact d_fdiv (by exact dv 3) d_int) a_nil)))) (by exact b_one (by exact s_ret (by exact d_or (by exact d_and (by exact d_cmp (c_eq (K0 := K) cc) (by exact dv 2) (by exact d_add (by exact dv 1) d_int)) (by exact d_one (by exact d_cmp c_gt (by exact d_mod (by exact dv 2) (by exact dv 5)) d_int))) (by exact d_one (by exact d_and (by exact d_cmp (c_eq (K0 := K) cc) (by exact d_mod (by exact dv 1) (by exact dv 5)) d_int) (by exact d_one (by exact d_cmp (c_eq (K0 := K) cc) (by exact dv 2) (by exact d_sub (by exact d_add (by exact dv 1) (by exact dv 5)) d_int))))))))) b_nil) (by exact b_one (by exact s_ret (by exact d_cmp (c_eq (K0 := K) cc) (by exact d_mod (by exact dv 4) d_int) d_int)))))))))))⟩
theorem ok_law_uneven {f : Addr} {fd : FuncData} (F : Fun K "_law_uneven" "_law_uneven" st_law_uneven f fd) (hm : mg "_law_uneven" = some (.ref f)) (hb : Binds K fd ["_law_cell"] []) (b_range : mg "range" = none) : DefOk P w K T mg base 1 "_law_uneven" ["_law_cell"] false M_law_uneven :=
  def_ok (N := N_law_uneven) (n := 5) (k := 0) (nw := false) (ms := m_law_uneven) rfl F sc_law_uneven hm hb fun cdv A outer s H E cc => ⟨_, (by exact b_cons (by exact s_set 1 cc (by exact d_give (by exact d_lst (by exact a_s (by exact d_tup (by exact a_s d_int (by exact a_s d_int a_nil))) (by exact a_s (by exact d_tup (by exact a_s d_int (by exact a_s d_int a_nil))) (by exact a_s (by exact d_tup (by exact a_s d_int (by exact a_s d_int a_nil))) (by exact a_s (by exact d_tup (by exact a_s d_int (by exact a_s d_int a_nil))) (by exact a_s (by exact d_tup (by exact a_s d_int (by exact a_s d_int a_nil))) (by exact a_s (by exact d_tup (by exact a_s d_int (by exact a_s d_int a_nil))) (by exact a_s (by exact d_tup (by exact a_s d_int (by exact a_s d_int a_nil))) a_nil)))))))))) (by exact b_cons (by exact s_if (by exact t_cmp (c_eq (K0 := K) cc) (by exact d_mod (by exact dv 0) d_int) d_int) (by exact b_one (by exact s_ret (by exact dv 1))) b_nil) (by exact b_cons (by exact s_setO 2 cc (by exact d_lst a_nil)) (by exact b_cons (by exact s_for cc (by exact i_rng1 b_range (by exact a_t d_int a_nil)) (by exact g_name 3 cc.nd) (by exact b_one (by exact s_owExt 2 (DE.nl (by exact d_lc (own := [(("_law_one" : Str), 4)]) cc (by exact j_i (by exact i_rng1 b_range (by exact a_t (by exact dv 3) a_nil))) (by exact blkOk_by (N := N_law_uneven) (sc := defScope st_law_uneven) (by decide +kernel)) (by exact fun s' H' C' cl' fp' cc' => (by exact g_name 4 cc'.nd)) (by exact fun s' H' C' cl' fp' cc' => (by exact q_one (by exact t_cmp (c_notIn (K0 := K) cc') (by exact d_tup (by exact a_s (by exact dv 4) (by exact a_s (by exact dv 3) a_nil))) (by exact dv 1)))) (by exact fun s' H' C' cl' fp' cc' => (by exact d_tup (by exact a_s (by exact dv 4) (by exact a_s (by exact dv 3) a_nil))))))))) (by exact b_one (by exact s_retO 2))))))⟩
theorem ok_law_web_by {f : Addr} {fd : FuncData} (F : Fun K "_law_web_by" "_law_web_by" st_law_web_by f fd) (hm : mg "_law_web_by" = some (.ref f)) (hb : Binds K fd ["_law_script", "_law_most"] []) (f_law_cell_at : DefOk P w K T mg base 1 "_law_cell_at" ["_law_script", "_law_k"] false M_law_cell_at) (f_law_mixed : DefOk P w K T mg base 1 "_law_mixed" ["_law_cell", "_law_k"] false M_law_mixed) (f_law_row : DefOk P w K T mg base 1 "_law_row" ["_law_size", "_law_number"] true M_law_row) (f_law_tied : DefOk P w K T mg base 1 "_law_tied" ["_law_kind", "_law_one", "_law_other", "_law_size", "_law_number"] false M_law_tied) (f_law_uneven : DefOk P w K T mg base 1 "_law_uneven" ["_law_cell"] false M_law_uneven) (b_max : mg "max" = none) (b_min : mg "min" = none) (b_range : mg "range" = none) (b_sorted : mg "sorted" = none) : DefOk P w K T mg base 2 "_law_web_by" ["_law_script", "_law_most"] false M_law_web_by :=
  def_ok (N := N_law_web_by) (n := 14) (k := 1) (nw := false) (ms := m_law_web_by) rfl F sc_law_web_by hm hb fun cdv A outer s H E cc => ⟨_, (by exact b_cons (by exact s_set 2 cc (by exact d_call (K0 := K) (mg0 := mg) cc f_law_cell_at (by exact a_s (by exact dv 0) (by exact a_s d_int a_nil)))) (by exact b_cons (by exact s_set 3 cc (by exact d_add d_int (by exact d_mod (by exact dv 2) (by exact dv 1)))) (by exact b_cons (by exact s_if (by exact w_t (by exact w_and (by exact t_cmp c_gt (by exact dv 1) d_int) (by exact w_and1 (by exact t_cmp (c_eq (K0 := K) cc) (by exact d_mod (by exact d_fdiv (by exact dv 2) d_int) d_int) d_int)))) (by exact b_cons (by exact s_set 4 cc (by exact d_give (by exact d_call (K0 := K) (mg0 := mg) cc f_law_row (by exact a_s d_int (by exact a_s (by exact d_call (K0 := K) (mg0 := mg) cc f_law_mixed (by exact a_s (by exact d_call (K0 := K) (mg0 := mg) cc f_law_cell_at (by exact a_s (by exact dv 0) (by exact a_s d_int a_nil))) (by exact a_s d_int a_nil))) a_nil))))) (by exact b_cons (by exact s_setLcO 7 (own := [(("_law_one" : Str), 5), (("_law_other" : Str), 6)]) cc (by exact j_i (by exact i_list (K0 := K) (by exact d_call (K0 := K) (mg0 := mg) cc f_law_uneven (by exact a_s (by exact d_fdiv (by exact dv 2) d_int) a_nil)))) (by exact blkOk_by (N := N_law_web_by) (sc := defScope st_law_web_by) (by decide +kernel)) (by exact fun s' H' C' cl' fp' cc' => (by exact g_tup (K0 := K) cc'.calm (by exact gs_cons (by exact g_name 5 cc'.nd) (by exact gs_cons (by exact g_name 6 cc'.nd) gs_nil)))) (by exact fun s' H' C' cl' fp' cc' => q_nil) (by exact fun s' H' C' cl' fp' cc' => (by exact d_tup (by exact a_s (by exact d_min cc'.calm b_min (by exact a_t (by exact d_ix (K0 := K) (by exact dv 4) (by exact dv 5)) (by exact a_t (by exact d_ix (K0 := K) (by exact dv 4) (by exact dv 6)) a_nil))) (by exact a_s (by exact d_max cc'.calm b_max (by exact a_t (by exact d_ix (K0 := K) (by exact dv 4) (by exact dv 5)) (by exact a_t (by exact d_ix (K0 := K) (by exact dv 4) (by exact dv 6)) a_nil))) a_nil))))) (by exact b_one (by exact s_ret (by exact d_tup (by exact a_s (by exact d_give (by exact d_rep (by exact d_lst (by exact a_s (by exact d_mod (by exact d_fdiv (by exact dv 2) d_int) d_int) a_nil)) d_int)) (by exact a_s (by exact d_give (by exact d_sorted (K0 := K) b_sorted (by exact dO 7))) a_nil))))))) b_nil) (by exact b_cons (by exact s_set 8 cc (by exact d_mod (by exact d_fdiv (by exact dv 2) (by exact dv 1)) d_int)) (by exact b_cons (by exact s_set 4 cc (by exact d_give (by exact d_call (K0 := K) (mg0 := mg) cc f_law_row (by exact a_s (by exact dv 3) (by exact a_s (by exact d_call (K0 := K) (mg0 := mg) cc f_law_mixed (by exact a_s (by exact d_call (K0 := K) (mg0 := mg) cc f_law_cell_at (by exact a_s (by exact dv 0) (by exact a_s d_int a_nil))) (by exact a_s d_int a_nil))) a_nil))))) (by exact b_cons (by exact s_setO 7 cc (by exact d_lst a_nil)) (by exact b_cons (by exact s_for cc (by exact i_rng1 b_range (by exact a_t (by exact dv 3) a_nil)) (by exact g_name 5 cc.nd) (by exact b_one (by exact s_for cc (by exact i_rng2 b_range (by exact a_t (by exact d_add (by exact dv 5) d_int) (by exact a_t (by exact dv 3) a_nil))) (by exact g_name 6 cc.nd) (by exact b_cons (by exact s_set 9 cc (by exact d_call (K0 := K) (mg0 := mg) cc f_law_cell_at (by exact a_s (by exact dv 0) (by exact a_s (by exact d_add d_int (by exact d_mod (by exact d_add (by exact d_mul d_int (by exact dv 5)) (by exact dv 6)) d_int)) a_nil)))) (by exact b_one (by exact s_if (by exact t_cmp (c_ne (K0 := K) cc) (by exact d_call (K0 := K) (mg0 := mg) cc f_law_tied (by exact a_s (by exact dv 8) (by exact a_s (by exact dv 5) (by exact a_s (by exact dv 6) (by exact a_s (by exact dv 3) (by exact a_s (by exact d_call (K0 := K) (mg0 := mg) cc f_law_mixed (by exact a_s (by exact dv 9) (by exact a_s (by exact d_add (by exact d_mul d_int (by exact dv 5)) (by exact dv 6)) a_nil))) a_nil)))))) (by exact d_cmp (c_eq (K0 := K) cc) (by exact d_mod (by exact dv 9) d_int) d_int)) (by exact b_one (by exact s_app 7 (by exact d_tup (by exact a_s (by exact d_min cc.calm b_min (by exact a_t (by exact d_ix (K0 := K) (by exact dv 4) (by exact dv 5)) (by exact a_t (by exact d_ix (K0 := K) (by exact dv 4) (by exact dv 6)) a_nil))) (by exact a_s (by exact d_max cc.calm b_max (by exact a_t (by exact d_ix (K0 := K) (by exact dv 4) (by exact dv 5)) (by exact a_t (by exact d_ix (K0 := K) (by exact dv 4) (by exact dv 6)) a_nil))) a_nil))))) b_nil)))))) (by exact b_cons (by exact s_set 10 cc (by exact d_ix (K0 := K) (by exact d_lst (by exact a_s d_int (by exact a_s d_int (by exact a_s d_int (by exact a_s d_int (by exact a_s d_int (by exact a_s d_int a_nil))))))) (by exact d_mod (by exact d_fdiv (by exact d_fdiv (by exact dv 2) (by exact dv 1)) d_int) d_int))) (by exact b_cons (by exact s_set 11 cc (by exact d_give (by exact d_lc (own := [(("_law_k" : Str), 12)]) cc (by exact j_i (by exact i_rng1 b_range (by exact a_t (by exact dv 3) a_nil))) (by exact blkOk_by (N := N_law_web_by) (sc := defScope st_law_web_by) (by decide +kernel)) (by exact fun s' H' C' cl' fp' cc' => (by exact g_name 12 cc'.nd)) (by exact fun s' H' C' cl' fp' cc' => q_nil) (by exact fun s' H' C' cl' fp' cc' => (by exact d_mod (by exact d_call (K0 := K) (mg0 := mg) cc' f_law_mixed (by exact a_s (by exact d_call (K0 := K) (mg0 := mg) cc' f_law_cell_at (by exact a_s (by exact dv 0) (by exact a_s d_int a_nil))) (by exact a_s (by exact d_mod (by exact dv 12) (by exact d_ix (K0 := K) (by exact d_lst (by exact a_s (by exact dv 3) (by exact a_s d_int (by exact a_s d_int a_nil)))) (by exact d_mod (by exact d_fdiv (by exact dv 2) d_int) d_int))) a_nil))) (by exact dv 10)))))) (by exact b_one (by exact s_ret (by exact d_tup (by exact a_s (by exact d_give (by exact d_lc (own := [(("_law_point" : Str), 13)]) cc (by exact j_i (by exact i_rng1 b_range (by exact a_t (by exact dv 3) a_nil))) (by exact blkOk_by (N := N_law_web_by) (sc := defScope st_law_web_by) (by decide +kernel)) (by exact fun s' H' C' cl' fp' cc' => (by exact g_name 13 cc'.nd)) (by exact fun s' H' C' cl' fp' cc' => q_nil) (by exact fun s' H' C' cl' fp' cc' => (by exact d_ix (K0 := K) (by exact dv 11) (by exact d_index (K0 := K) (by exact dv 4) (by exact dv 13)))))) (by exact a_s (by exact d_give (by exact d_sorted (K0 := K) b_sorted (by exact dO 7))) a_nil))))))))))))))⟩
theorem ok_law_told {f : Addr} {fd : FuncData} (F : Fun K "_law_told" "_law_told" st_law_told f fd) (hm : mg "_law_told" = some (.ref f)) (hb : Binds K fd ["_law_web", "_law_due"] []) {C_Web : Addr} (b_all : mg "all" = none) (n_Web_size : NoAttr K C_Web "size") (f_law_whole : DefOk P w K T mg base 1 "_law_whole" ["_law_found"] false M_law_whole) (b_isinstance : mg "isinstance" = none) (k_Web : Cls K C_Web) (b_len : mg "len" = none) (b_list : mg "list" = none) (p_Web_colours : PmOk P w K T mg base 1 C_Web "colours" ["self"] true (M_Web_colours C_Web)) (p_Web_ties : PmOk P w K T mg base 1 C_Web "ties" ["self"] true (M_Web_ties C_Web)) (b_tuple : mg "tuple" = none) : DefOk P w K T mg base 2 "_law_told" ["_law_web", "_law_due"] false (M_law_told C_Web) :=
  def_ok (N := N_law_told) (n := 6) (k := 1) (nw := false) (ms := (m_law_told C_Web)) rfl F sc_law_told hm hb fun cdv A outer s H E cc => ⟨_, (by exact b_cons (by exact s_set 2 cc (by exact d_give (by exact d_meth0 (K0 := K) (mg0 := mg) cc p_Web_colours k_Web (by exact dv 0)))) (by exact b_cons (by exact s_set 3 cc (by exact d_give (by exact d_meth0 (K0 := K) (mg0 := mg) cc p_Web_ties k_Web (by exact dv 0)))) (by exact b_cons (by exact s_if (by exact w_t (by exact w_or (by exact t_not (by exact t_val (by exact d_isi (K0 := K) b_isinstance (by exact a_t (by exact dv 2) (by exact a_t (by exact d_ty b_list (by decide +kernel)) a_nil))))) (by exact w_or (by exact t_not (by exact t_val (by exact d_isi (K0 := K) b_isinstance (by exact a_t (by exact dv 3) (by exact a_t (by exact d_ty b_list (by decide +kernel)) a_nil))))) (by exact w_or1 (by exact t_not (by exact t_val (by exact d_call (K0 := K) (mg0 := mg) cc f_law_whole (by exact a_s (by exact d_fld (by exact dv 0) k_Web n_Web_size) a_nil)))))))) (by exact b_one (by exact s_ret d_bl)) b_nil) (by exact b_cons (by exact s_if (by exact w_t (by exact w_or (by exact t_not (by exact t_val (by exact d_all (K0 := K) cc.calm b_all (by exact d_lc (own := [(("_law_colour" : Str), 4)]) cc (by exact j_i (by exact i_list (K0 := K) (by exact dv 2))) (by exact blkOk_by (N := N_law_told) (sc := defScope st_law_told) (by decide +kernel)) (by exact fun s' H' C' cl' fp' cc' => (by exact g_name 4 cc'.nd)) (by exact fun s' H' C' cl' fp' cc' => q_nil) (by exact fun s' H' C' cl' fp' cc' => (by exact d_call (K0 := K) (mg0 := mg) cc' f_law_whole (by exact a_s (by exact dv 4) a_nil))))))) (by exact w_or1 (by exact t_cmp (c_ne (K0 := K) cc) (by exact d_fld (by exact dv 0) k_Web n_Web_size) (by exact d_len (K0 := K) b_len (by exact d_ix (K0 := K) (by exact dv 1) d_int)))))) (by exact b_one (by exact s_ret d_bl)) b_nil) (by exact b_cons (by exact s_if (by exact t_not (by exact t_val (by exact d_all (K0 := K) cc.calm b_all (by exact d_lc (own := [(("_law_tie" : Str), 5)]) cc (by exact j_i (by exact i_list (K0 := K) (by exact dv 3))) (by exact blkOk_by (N := N_law_told) (sc := defScope st_law_told) (by decide +kernel)) (by exact fun s' H' C' cl' fp' cc' => (by exact g_name 5 cc'.nd)) (by exact fun s' H' C' cl' fp' cc' => q_nil) (by exact fun s' H' C' cl' fp' cc' => (by exact d_and (by exact d_isi (K0 := K) b_isinstance (by exact a_t (by exact dv 5) (by exact a_t (by exact d_ty b_tuple (by decide +kernel)) a_nil))) (by exact d_and (by exact d_call (K0 := K) (mg0 := mg) cc' f_law_whole (by exact a_s (by exact d_ix (K0 := K) (by exact dv 5) d_int) a_nil)) (by exact d_one (by exact d_call (K0 := K) (mg0 := mg) cc' f_law_whole (by exact a_s (by exact d_ix (K0 := K) (by exact dv 5) d_int) a_nil)))))))))) (by exact b_one (by exact s_ret d_bl)) b_nil) (by exact b_one (by exact s_ret (by exact d_and (by exact d_cmp (c_eq (K0 := K) cc) (by exact dv 2) (by exact d_ix (K0 := K) (by exact dv 1) d_int)) (by exact d_one (by exact d_cmp (c_eq (K0 := K) cc) (by exact dv 3) (by exact d_ix (K0 := K) (by exact dv 1) d_int)))))))))))⟩
theorem ok_law_made {f : Addr} {fd : FuncData} (F : Fun K "_law_made" "_law_made" st_law_made f fd) (hm : mg "_law_made" = some (.ref f)) (hb : Binds K fd ["_law_colours", "_law_ties"] []) {E_BadWeb : Addr} (g_BadWeb : mg "BadWeb" = some (.ref E_BadWeb)) {E_WebError : Addr} (g_WebError : mg "WebError" = some (.ref E_WebError)) {C_Web : Addr} (e_BadWeb_WebError : PySem.W.exmOne K (.ref E_BadWeb) (.ref E_WebError) = some true) (h_law_alone_BadWeb : HotOk P w K mg base 1 "_law_alone" E_BadWeb ["_law_e", "_law_which"] (M_law_alone true false false false false false true)) (r_law_alone_BadWeb : ∀ a, (M_law_alone true false false false false false true) a [.adr a, .int 0] = .ok (.bl true)) (mk_Web : MkOk P w K T mg base 6 "Web" C_Web ["self", "colours", "ties"] (X_Web_init__ C_Web)) : DefOk P w K T mg base 8 "_law_made" ["_law_colours", "_law_ties"] false (M_law_made C_Web) :=
  def_ok (N := N_law_made) (n := 3) (k := 7) (nw := false) (ms := (m_law_made C_Web)) rfl F sc_law_made hm hb fun cdv A outer s H E cc => ⟨_, (by exact b_cons (by exact s_tryAs (res := .bl true) (c0 := "BadWeb") 2 cc h_law_alone_BadWeb rfl e_BadWeb_WebError g_BadWeb g_WebError r_law_alone_BadWeb rfl rfl (by exact fun pn' xe' E' cc1 => (by exact b_one (by exact s_drop (by exact d_make (K0 := K) (mg0 := mg) cc1 mk_Web (by exact a_s (by exact dv 0) (by exact a_s (by exact dv 1) a_nil))))))) (by exact b_one (by exact s_ret d_bl)))⟩
theorem ok_law_wrong {f : Addr} {fd : FuncData} (F : Fun K "_law_wrong" "_law_wrong" st_law_wrong f fd) (hm : mg "_law_wrong" = some (.ref f)) (hb : Binds K fd ["_law_colours", "_law_ties", "_law_cell"] []) (b_len : mg "len" = none) (b_tuple : mg "tuple" = none) : DefOk P w K T mg base 1 "_law_wrong" ["_law_colours", "_law_ties", "_law_cell"] false M_law_wrong :=
  def_ok (N := N_law_wrong) (n := 9) (k := 0) (nw := false) (ms := m_law_wrong) rfl F sc_law_wrong hm hb fun cdv A outer s H E cc => ⟨_, (by exact b_cons (by exact s_set 3 cc (by exact d_len (K0 := K) b_len (by exact dv 0))) (by exact b_cons (by exact s_set 4 cc (by exact d_mod (by exact d_fdiv (by exact dv 2) d_int) (by exact dv 3))) (by exact b_cons (by exact s_set 5 cc (by exact d_mod (by exact d_fdiv (by exact dv 2) d_int) (by exact d_add (by exact d_len (K0 := K) b_len (by exact dv 1)) d_int))) (by exact b_cons (by exact s_set 6 cc (by exact d_mod (by exact dv 2) d_int)) (by exact b_cons (by exact s_if (by exact t_cmp (c_eq (K0 := K) cc) (by exact dv 6) d_int) (by exact b_cons (by exact s_set 7 cc (by exact d_ix (K0 := K) (by exact d_lst (by exact a_s (by exact d_neg d_int) (by exact a_s d_int (by exact a_s d_bl (by exact a_s d_non (by exact a_s d_str (by exact a_s (by exact d_pow d_int d_int) (by exact a_s (by exact d_give (by exact d_lst (by exact a_s d_int a_nil))) (by exact a_s (by exact d_give (by exact d_lst a_nil)) a_nil))))))))) (by exact d_mod (by exact d_fdiv (by exact dv 2) d_int) d_int))) (by exact b_one (by exact s_ret (by exact d_tup (by exact a_s (by exact d_give (by exact d_cat (by exact d_cat (by exact d_slice (K0 := K) (by exact dv 0) o_none (by exact o_some (by exact dv 4))) (by exact d_lst (by exact a_s (by exact dv 7) a_nil))) (by exact d_slice (K0 := K) (by exact dv 0) (by exact o_some (by exact d_add (by exact dv 4) d_int)) o_none))) (by exact a_s (by exact dv 1) a_nil)))))) b_nil) (by exact b_cons (by exact s_if (by exact t_cmp (c_eq (K0 := K) cc) (by exact dv 6) d_int) (by exact b_cons (by exact s_setO 8 cc (by exact d_lst (by exact a_s (by exact d_tup (by exact a_s d_int (by exact a_s d_int a_nil))) (by exact a_s (by exact d_tup (by exact a_s (by exact d_neg d_int) (by exact a_s d_int a_nil))) (by exact a_s (by exact d_tup (by exact a_s d_int (by exact a_s d_int a_nil))) (by exact a_s (by exact d_tup (by exact a_s d_int (by exact a_s d_int a_nil))) (by exact a_s (by exact d_give (by exact d_lst (by exact a_s d_int (by exact a_s d_int a_nil)))) (by exact a_s (by exact d_tup (by exact a_s d_int a_nil)) (by exact a_s (by exact d_tup (by exact a_s d_int (by exact a_s d_int (by exact a_s d_int a_nil)))) (by exact a_s d_non (by exact a_s (by exact d_tup (by exact a_s d_bl (by exact a_s d_int a_nil))) (by exact a_s (by exact d_tup (by exact a_s d_str (by exact a_s d_int a_nil))) (by exact a_s (by exact d_tup (by exact a_s d_non (by exact a_s d_int a_nil))) a_nil))))))))))))) (by exact b_cons (by exact s_app 8 (by exact d_tup (by exact a_s d_int (by exact a_s (by exact d_give (by exact d_lst (by exact a_s d_int a_nil))) a_nil)))) (by exact b_one (by exact s_ret (by exact d_tup (by exact a_s (by exact dv 0) (by exact a_s (by exact d_give (by exact d_cat (by exact d_cat (by exact d_slice (K0 := K) (by exact dv 1) o_none (by exact o_some (by exact dv 5))) (by exact d_lst (by exact a_s (by exact d_ix (K0 := K) (by exact dO 8) (by exact d_mod (by exact d_fdiv (by exact dv 2) d_int) d_int)) a_nil))) (by exact d_slice (K0 := K) (by exact dv 1) (by exact o_some (by exact dv 5)) o_none))) a_nil))))))) b_nil) (by exact b_cons (by exact s_if (by exact w_t (by exact w_and (by exact t_cmp (c_eq (K0 := K) cc) (by exact dv 6) d_int) (by exact w_and1 (by exact t_cmp (c_ne (K0 := K) cc) (by exact dv 1) (by exact d_lst a_nil))))) (by exact b_one (by exact s_ret (by exact d_tup (by exact a_s (by exact dv 0) (by exact a_s (by exact d_give (by exact d_cat (by exact dv 1) (by exact d_lst (by exact a_s (by exact d_ix (K0 := K) (by exact dv 1) (by exact d_mod (by exact dv 5) (by exact d_len (K0 := K) b_len (by exact dv 1)))) a_nil)))) a_nil))))) b_nil) (by exact b_cons (by exact s_if (by exact t_cmp (c_eq (K0 := K) cc) (by exact dv 6) d_int) (by exact b_one (by exact s_ret (by exact d_tup (by exact a_s (by exact d_give (by exact d_lst a_nil)) (by exact a_s (by exact dv 1) a_nil))))) b_nil) (by exact b_cons (by exact s_if (by exact t_cmp (c_eq (K0 := K) cc) (by exact dv 6) d_int) (by exact b_one (by exact s_ret (by exact d_tup (by exact a_s (by exact d_give (by exact d_rep (by exact d_lst (by exact a_s d_int a_nil)) d_int)) (by exact a_s (by exact dv 1) a_nil))))) b_nil) (by exact b_cons (by exact s_if (by exact t_cmp (c_eq (K0 := K) cc) (by exact dv 6) d_int) (by exact b_one (by exact s_ret (by exact d_tup (by exact a_s (by exact d_ix (K0 := K) (by exact d_lst (by exact a_s (by exact d_tuple (K0 := K) b_tuple (by exact dv 0)) (by exact a_s d_non (by exact a_s d_int (by exact a_s d_str a_nil))))) (by exact d_mod (by exact d_fdiv (by exact dv 2) d_int) d_int)) (by exact a_s (by exact dv 1) a_nil))))) b_nil) (by exact b_one (by exact s_ret (by exact d_tup (by exact a_s (by exact dv 0) (by exact a_s (by exact d_ix (K0 := K) (by exact d_lst (by exact a_s (by exact d_tuple (K0 := K) b_tuple (by exact dv 1)) (by exact a_s d_non (by exact a_s d_int (by exact a_s d_dic a_nil))))) (by exact d_mod (by exact d_fdiv (by exact dv 2) d_int) d_int)) a_nil)))))))))))))))⟩
theorem okx_law_beside_right {f : Addr} {fd : FuncData} (F : Fun K "_law_beside_right" "_law_beside_right" st_law_beside_right f fd) (hm : mg "_law_beside_right" = some (.ref f)) (hb : Binds K fd ["_law_web", "_law_colours", "_law_ties", "_law_held"] []) {C_Web : Addr} (f_law_alike_rows : DefOk P w K T mg base 2 "_law_alike_rows" ["_law_found", "_law_due"] false M_law_alike_rows) (k_Web : Cls K C_Web) (b_len : mg "len" = none) (b_list : mg "list" = none) (p_Web_beside : PmOk P w K T mg base 3 C_Web "beside" ["self", "point"] true (M_Web_beside C_Web)) (b_range : mg "range" = none) (b_sorted : mg "sorted" = none) : MefOk P w K T mg base 4 "_law_beside_right" ["_law_web", "_law_colours", "_law_ties", "_law_held"] (X_law_beside_right C_Web) :=
  mef_ok (N := N_law_beside_right) (n := 9) (k := 3) (ms := (x_law_beside_right C_Web)) rfl F sc_law_beside_right hm hb fun cdv A outer s H E cc => ⟨_, (by exact xb_cons (by exact xs_for cc (fun M => (by exact i_rng1 b_range (by exact a_t (by exact d_len (K0 := K) b_len (by exact dv 1)) a_nil))) (fun M => (by exact g_name 4 cc.nd)) (by exact xb_cons (by exact xs_set 5 cc (by exact x_n (fun M => (by exact d_methN (K0 := K) (mg0 := mg) cc p_Web_beside k_Web (by exact dv 0) (by exact a_s (by exact dv 4) a_nil))))) (by exact xb_cons (by exact xs_p (fun M => (by exact s_set 6 cc (by exact d_give (by exact d_sorted (K0 := K) b_sorted (by exact d_lc (own := [(("_law_one" : Str), 7), (("_law_other" : Str), 8)]) cc (by exact j_i (by exact i_list (K0 := K) (by exact dv 2))) (by exact blkOk_by (N := N_law_beside_right) (sc := defScope st_law_beside_right) (by decide +kernel)) (by exact fun s' H' C' cl' fp' cc' => (by exact g_tup (K0 := K) cc'.calm (by exact gs_cons (by exact g_name 7 cc'.nd) (by exact gs_cons (by exact g_name 8 cc'.nd) gs_nil)))) (by exact fun s' H' C' cl' fp' cc' => (by exact q_one (by exact w_t (by exact w_or (by exact t_cmp (c_eq (K0 := K) cc') (by exact dv 4) (by exact dv 7)) (by exact w_or1 (by exact t_cmp (c_eq (K0 := K) cc') (by exact dv 4) (by exact dv 8))))))) (by exact fun s' H' C' cl' fp' cc' => (by exact d_sub (by exact d_add (by exact dv 7) (by exact dv 8)) (by exact dv 4))))))))) (by exact xb_cons (by exact xs_if (by exact xt_p (fun M => (by exact t_not (by exact t_val (by exact d_callFN (K0 := K) (mg0 := mg) cc f_law_alike_rows (by exact a_t (by exact d_res (by exact dv 5)) (by exact a_t (by exact dv 6) a_nil))))))) (by exact xb_one (by exact xs_ret (by exact x_p (fun M => d_bl)))) xb_nil) (by exact xb_one (by exact xs_drop (by exact x_app (K0 := K) (fun M => (by exact dv 3)) (by exact x_p (fun M => (by exact d_tup (by exact a_s (by exact dv 5) (by exact a_s (by exact d_give (by exact d_list (K0 := K) b_list (by exact d_cell (by exact dv 5)))) a_nil)))))))))))) (by exact xb_one (by exact xs_ret (by exact x_p (fun M => d_bl)))))⟩
theorem ok_law_no_point {f : Addr} {fd : FuncData} (F : Fun K "_law_no_point" "_law_no_point" st_law_no_point f fd) (hm : mg "_law_no_point" = some (.ref f)) (hb : Binds K fd ["_law_web", "_law_thing"] []) {E_NoPoint : Addr} (g_NoPoint : mg "NoPoint" = some (.ref E_NoPoint)) {E_WebError : Addr} (g_WebError : mg "WebError" = some (.ref E_WebError)) {C_Web : Addr} (e_NoPoint_WebError : PySem.W.exmOne K (.ref E_NoPoint) (.ref E_WebError) = some true) (h_law_alone_NoPoint : HotOk P w K mg base 1 "_law_alone" E_NoPoint ["_law_e", "_law_which"] (M_law_alone false false false true false false true)) (r_law_alone_NoPoint : ∀ a, (M_law_alone false false false true false false true) a [.adr a, .int 3] = .ok (.bl true)) (k_Web : Cls K C_Web) (p_Web_beside : PmOk P w K T mg base 3 C_Web "beside" ["self", "point"] true (M_Web_beside C_Web)) : DefOk P w K T mg base 4 "_law_no_point" ["_law_web", "_law_thing"] false (M_law_no_point C_Web) :=
  def_ok (N := N_law_no_point) (n := 3) (k := 3) (nw := false) (ms := (m_law_no_point C_Web)) rfl F sc_law_no_point hm hb fun cdv A outer s H E cc => ⟨_, (by exact b_cons (by exact s_tryAs (res := .bl true) (c0 := "NoPoint") 2 cc h_law_alone_NoPoint rfl e_NoPoint_WebError g_NoPoint g_WebError r_law_alone_NoPoint rfl rfl (by exact fun pn' xe' E' cc1 => (by exact b_one (by exact s_drop (by exact d_meth (K0 := K) (mg0 := mg) cc1 p_Web_beside k_Web (by exact dv 0) (by exact a_s (by exact dv 1) a_nil)))))) (by exact b_one (by exact s_ret d_bl)))⟩
theorem ok_law_same_right {f : Addr} {fd : FuncData} (F : Fun K "_law_same_right" "_law_same_right" st_law_same_right f fd) (hm : mg "_law_same_right" = some (.ref f)) (hb : Binds K fd ["_law_web", "_law_colours", "_law_ties", "_law_at"] []) {C_Web : Addr} (b_all : mg "all" = none) (b_bool : mg "bool" = none) (f_is_same : DefOk P w K T mg base 2 "is_same" ["one", "other"] false (M_is_same C_Web)) (b_isinstance : mg "isinstance" = none) (b_len : mg "len" = none) (mk_Web : MkOk P w K T mg base 6 "Web" C_Web ["self", "colours", "ties"] (X_Web_init__ C_Web)) : DefOk P w K T mg base 8 "_law_same_right" ["_law_web", "_law_colours", "_law_ties", "_law_at"] false (M_law_same_right C_Web) :=
  def_ok (N := N_law_same_right) (n := 8) (k := 7) (nw := false) (ms := (m_law_same_right C_Web)) rfl F sc_law_same_right hm hb fun cdv A outer s H E cc => ⟨_, (by exact b_cons (by exact s_set 4 cc (by exact d_give (by exact d_cat (by exact d_cat (by exact d_slice (K0 := K) (by exact dv 1) o_none (by exact o_some (by exact dv 3))) (by exact d_lst (by exact a_s (by exact d_mod (by exact d_add (by exact d_ix (K0 := K) (by exact dv 1) (by exact dv 3)) d_int) d_int) a_nil))) (by exact d_slice (K0 := K) (by exact dv 1) (by exact o_some (by exact d_add (by exact dv 3) d_int)) o_none)))) (by exact b_cons (by exact s_set 5 cc (by exact d_give (by exact d_lst (by exact a_s (by exact d_call (K0 := K) (mg0 := mg) cc f_is_same (by exact a_s (by exact dv 0) (by exact a_s (by exact d_make (K0 := K) (mg0 := mg) cc mk_Web (by exact a_s (by exact dv 1) (by exact a_s (by exact dv 2) a_nil))) a_nil))) (by exact a_s (by exact d_call (K0 := K) (mg0 := mg) cc f_is_same (by exact a_s (by exact dv 0) (by exact a_s (by exact d_make (K0 := K) (mg0 := mg) cc mk_Web (by exact a_s (by exact dv 4) (by exact a_s (by exact dv 2) a_nil))) a_nil))) (by exact a_s (by exact d_call (K0 := K) (mg0 := mg) cc f_is_same (by exact a_s (by exact d_make (K0 := K) (mg0 := mg) cc mk_Web (by exact a_s (by exact dv 1) (by exact a_s (by exact d_give (by exact d_slice (K0 := K) (by exact dv 2) (by exact o_some d_int) o_none)) a_nil))) (by exact a_s (by exact dv 0) a_nil))) a_nil)))))) (by exact b_cons (by exact s_if (by exact w_t (by exact w_or (by exact t_cmp (c_ne (K0 := K) cc) (by exact dv 5) (by exact d_lst (by exact a_s d_bl (by exact a_s d_bl (by exact a_s (by exact d_cmp (c_eq (K0 := K) cc) (by exact dv 2) (by exact d_lst a_nil)) a_nil))))) (by exact w_or1 (by exact t_not (by exact t_val (by exact d_all (K0 := K) cc.calm b_all (by exact d_lc (own := [(("_law_one" : Str), 7)]) cc (by exact j_i (by exact i_list (K0 := K) (by exact dv 5))) (by exact blkOk_by (N := N_law_same_right) (sc := defScope st_law_same_right) (by decide +kernel)) (by exact fun s' H' C' cl' fp' cc' => (by exact g_name 7 cc'.nd)) (by exact fun s' H' C' cl' fp' cc' => q_nil) (by exact fun s' H' C' cl' fp' cc' => (by exact d_isi (K0 := K) b_isinstance (by exact a_t (by exact dv 7) (by exact a_t (by exact d_ty b_bool (by decide +kernel)) a_nil))))))))))) (by exact b_one (by exact s_ret d_bl)) b_nil) (by exact b_cons (by exact s_if (by exact t_cmp (c_eq (K0 := K) cc) (by exact d_len (K0 := K) b_len (by exact dv 1)) d_int) (by exact b_one (by exact s_ret d_bl)) b_nil) (by exact b_cons (by exact s_set 6 cc (by exact d_make (K0 := K) (mg0 := mg) cc mk_Web (by exact a_s (by exact d_give (by exact d_cat (by exact dv 1) (by exact d_lst (by exact a_s (by exact d_ix (K0 := K) (by exact dv 1) d_int) a_nil)))) (by exact a_s (by exact dv 2) a_nil)))) (by exact b_one (by exact s_ret (by exact d_and (by exact d_cmp c_isB (by exact d_call (K0 := K) (mg0 := mg) cc f_is_same (by exact a_s (by exact dv 0) (by exact a_s (by exact dv 6) a_nil))) d_bl) (by exact d_one (by exact d_cmp c_isB (by exact d_call (K0 := K) (mg0 := mg) cc f_is_same (by exact a_s (by exact dv 6) (by exact a_s (by exact dv 0) a_nil))) d_bl))))))))))⟩
theorem fn_law {f : Addr} {fd : FuncData} (F : Fun K "law" "law" st_law f fd) {C_Web : Addr} (f_law_cell_at : DefOk P w K T mg base 1 "_law_cell_at" ["_law_script", "_law_k"] false M_law_cell_at) (f_law_made : DefOk P w K T mg base 8 "_law_made" ["_law_colours", "_law_ties"] false (M_law_made C_Web)) (f_law_mixed : DefOk P w K T mg base 1 "_law_mixed" ["_law_cell", "_law_k"] false M_law_mixed) (f_law_no_point : DefOk P w K T mg base 4 "_law_no_point" ["_law_web", "_law_thing"] false (M_law_no_point C_Web)) (f_law_same_right : DefOk P w K T mg base 8 "_law_same_right" ["_law_web", "_law_colours", "_law_ties", "_law_at"] false (M_law_same_right C_Web)) (f_law_told : DefOk P w K T mg base 2 "_law_told" ["_law_web", "_law_due"] false (M_law_told C_Web)) (f_law_web_by : DefOk P w K T mg base 2 "_law_web_by" ["_law_script", "_law_most"] false M_law_web_by) (f_law_wrong : DefOk P w K T mg base 1 "_law_wrong" ["_law_colours", "_law_ties", "_law_cell"] false M_law_wrong) (k_Web : Cls K C_Web) (b_len : mg "len" = none) (b_list : mg "list" = none) (m_law_beside_right : MefOk P w K T mg base 4 "_law_beside_right" ["_law_web", "_law_colours", "_law_ties", "_law_held"] (X_law_beside_right C_Web)) (mk_Web : MkOk P w K T mg base 6 "Web" C_Web ["self", "colours", "ties"] (X_Web_init__ C_Web)) (p_Web_colours : PmOk P w K T mg base 1 C_Web "colours" ["self"] true (M_Web_colours C_Web)) (p_Web_ties : PmOk P w K T mg base 1 C_Web "ties" ["self"] true (M_Web_ties C_Web)) : FnOk P w K mg base (L2N.CX P w) 9 f fd ["_law_script"] (spM K T mg 1 (X_law C_Web)) :=
  fn_okM (N := N_law) (n := 12) (k := 8) (ms := (x_law C_Web)) rfl F sc_law fun cdv A outer s H E cc => ⟨_, (by exact xb_cons (by exact xs_p (fun M => (by exact s_asgT (by exact d_callN (K0 := K) (mg0 := mg) cc f_law_web_by (by exact a_s (by exact dv 0) (by exact a_s d_int a_nil))) (by exact g_tup (K0 := K) cc.calm (by exact gs_cons (by exact g_name 1 cc.nd) (by exact gs_cons (by exact g_name 2 cc.nd) gs_nil)))))) (by exact xb_cons (by exact xs_p (fun M => (by exact s_set 3 cc (by exact d_callN (K0 := K) (mg0 := mg) cc f_law_mixed (by exact a_s (by exact d_callN (K0 := K) (mg0 := mg) cc f_law_cell_at (by exact a_s (by exact dv 0) (by exact a_s d_int a_nil))) (by exact a_s d_int a_nil)))))) (by exact xb_cons (by exact xs_if (by exact xt_p (fun M => (by exact t_cmp (c_eq (K0 := K) cc) (by exact d_mod (by exact dv 3) d_int) d_int))) (by exact xb_cons (by exact xs_p (fun M => (by exact s_set 4 cc (by exact d_callN (K0 := K) (mg0 := mg) cc f_law_wrong (by exact a_s (by exact dv 1) (by exact a_s (by exact dv 2) (by exact a_s (by exact d_fdiv (by exact dv 3) d_int) a_nil))))))) (by exact xb_one (by exact xs_ret (by exact x_p (fun M => (by exact d_callN (K0 := K) (mg0 := mg) cc f_law_made (by exact a_s (by exact d_ix (K0 := K) (by exact dv 4) d_int) (by exact a_s (by exact d_ix (K0 := K) (by exact dv 4) d_int) a_nil)))))))) xb_nil) (by exact xb_cons (by exact xs_p (fun M => (by exact s_set 5 cc (by exact d_give (by exact d_revL (K0 := K) (by exact dv 2)))))) (by exact xb_cons (by exact xs_set 6 cc (by exact x_lst (by exact xa_cons (by exact x_n (fun M => (by exact d_list (K0 := K) b_list (by exact dv 1)))) (by exact xa_cons (by exact x_n (fun M => (by exact d_cat (by exact d_slice (K0 := K) (by exact dv 5) (by exact o_some (by exact d_mod (by exact d_fdiv (by exact dv 3) d_int) (by exact d_add (by exact d_len (K0 := K) b_len (by exact dv 2)) d_int))) o_none) (by exact d_slice (K0 := K) (by exact dv 5) o_none (by exact o_some (by exact d_mod (by exact d_fdiv (by exact dv 3) d_int) (by exact d_add (by exact d_len (K0 := K) b_len (by exact dv 2)) d_int))))))) xa_nil)))) (by exact xb_cons (by exact xs_p (fun M => (by exact s_set 7 cc (by exact d_give (by exact d_lst (by exact a_s (by exact d_give (by exact d_list (K0 := K) b_list (by exact d_cell (by exact d_ix (K0 := K) (by exact dv 6) d_int)))) (by exact a_s (by exact d_give (by exact d_list (K0 := K) b_list (by exact d_cell (by exact d_ix (K0 := K) (by exact dv 6) d_int)))) a_nil))))))) (by exact xb_cons (by exact xs_set 8 cc (by exact x_makeF (K0 := K) (mg0 := mg) cc mk_Web (by exact xa_cons (by exact x_p (fun M => (by exact d_ix (K0 := K) (by exact dv 6) d_int))) (by exact xa_cons (by exact x_p (fun M => (by exact d_ix (K0 := K) (by exact dv 6) d_int))) xa_nil)))) (by exact xb_cons (by exact xs_if (by exact xt_p (fun M => (by exact t_cmp (c_ne (K0 := K) cc) (by exact d_res (by exact dv 6)) (by exact d_res (by exact dv 7))))) (by exact xb_one (by exact xs_ret (by exact x_p (fun M => d_bl)))) xb_nil) (by exact xb_cons (by exact xs_drop (by exact x_clear (K0 := K) (fun M => (by exact d_ix (K0 := K) (by exact dv 6) d_int)))) (by exact xb_cons (by exact xs_drop (by exact x_app (K0 := K) (fun M => (by exact d_ix (K0 := K) (by exact dv 6) d_int)) (by exact x_p (fun M => (by exact d_tup (by exact a_s d_int (by exact a_s d_int a_nil))))))) (by exact xb_cons (by exact xs_if (by exact xw_t (by exact xw_and (by exact xt_p (fun M => (by exact t_cmp (c_eq (K0 := K) cc) (by exact d_mod (by exact d_fdiv (by exact dv 3) d_int) d_int) d_int))) (by exact xw_and1 (by exact xt_not (by exact xt_val (by exact x_call (K0 := K) (mg0 := mg) cc m_law_beside_right (by exact xa_cons (by exact x_p (fun M => (by exact dv 8))) (by exact xa_cons (by exact x_p (fun M => (by exact dv 1))) (by exact xa_cons (by exact x_p (fun M => (by exact dv 2))) (by exact xa_cons (by exact x_n (fun M => (by exact d_lst a_nil))) xa_nil)))))))))) (by exact xb_one (by exact xs_ret (by exact x_p (fun M => d_bl)))) xb_nil) (by exact xb_cons (by exact xs_set 9 cc (by exact x_lstN (by exact xa_cons (by exact x_tup (by exact xa_cons (by exact x_n (fun M => (by exact d_meth0N (K0 := K) (mg0 := mg) cc p_Web_colours k_Web (by exact dv 8)))) (by exact xa_cons (by exact x_p (fun M => (by exact d_give (by exact d_list (K0 := K) b_list (by exact dv 1))))) xa_nil))) (by exact xa_cons (by exact x_tup (by exact xa_cons (by exact x_n (fun M => (by exact d_meth0N (K0 := K) (mg0 := mg) cc p_Web_ties k_Web (by exact dv 8)))) (by exact xa_cons (by exact x_p (fun M => (by exact d_give (by exact d_list (K0 := K) b_list (by exact dv 2))))) xa_nil))) xa_nil)))) (by exact xb_cons (by exact xs_if (by exact xw_t (by exact xw_or (by exact xt_p (fun M => (by exact t_not (by exact t_val (by exact d_callN (K0 := K) (mg0 := mg) cc f_law_told (by exact a_s (by exact dv 8) (by exact a_s (by exact d_tup (by exact a_s (by exact dv 1) (by exact a_s (by exact dv 2) a_nil))) a_nil))))))) (by exact xw_or1 (by exact xt_not (by exact xt_val (by exact x_call (K0 := K) (mg0 := mg) cc m_law_beside_right (by exact xa_cons (by exact x_p (fun M => (by exact dv 8))) (by exact xa_cons (by exact x_p (fun M => (by exact dv 1))) (by exact xa_cons (by exact x_p (fun M => (by exact dv 2))) (by exact xa_cons (by exact x_p (fun M => (by exact dv 9))) xa_nil)))))))))) (by exact xb_one (by exact xs_ret (by exact x_p (fun M => d_bl)))) xb_nil) (by exact xb_cons (by exact xs_if (by exact xt_p (fun M => (by exact t_not (by exact t_val (by exact d_callN (K0 := K) (mg0 := mg) cc f_law_same_right (by exact a_s (by exact dv 8) (by exact a_s (by exact dv 1) (by exact a_s (by exact dv 2) (by exact a_s (by exact d_mod (by exact d_fdiv (by exact dv 3) d_int) (by exact d_len (K0 := K) b_len (by exact dv 1))) a_nil))))))))) (by exact xb_one (by exact xs_ret (by exact x_p (fun M => d_bl)))) xb_nil) (by exact xb_cons (by exact xs_if (by exact xt_p (fun M => (by exact t_cmp (c_ne (K0 := K) cc) (by exact d_res (by exact d_give (by exact d_lc (own := [(("_law_pair" : Str), 10)]) cc (by exact j_list (K0 := K) (by exact d_cell (by exact dv 9))) (by exact blkOk_by (N := N_law) (sc := defScope st_law) (by decide +kernel)) (by exact fun s' H' C' cl' fp' cc' => (by exact g_name 10 cc'.nd)) (by exact fun s' H' C' cl' fp' cc' => (by exact q_one (by exact t_cmp (c_ne (K0 := K) cc') (by exact d_res (by exact d_ix (K0 := K) (by exact dv 10) d_int)) (by exact d_ix (K0 := K) (by exact dv 10) d_int)))) (by exact fun s' H' C' cl' fp' cc' => (by exact dv 10))))) (by exact d_lst a_nil)))) (by exact xb_one (by exact xs_ret (by exact x_p (fun M => d_bl)))) xb_nil) (by exact xb_cons (by exact xs_forX (K0 := K) cc (by exact x_p (fun M => (by exact dv 9))) (fun M => (by exact g_name 10 cc.nd)) (by exact xb_one (by exact xs_drop (by exact x_app (K0 := K) (fun M => (by exact d_ix (K0 := K) (by exact dv 10) d_int)) (by exact x_p (fun M => d_int)))))) (by exact xb_cons (by exact xs_if (by exact xw_t (by exact xw_or (by exact xt_p (fun M => (by exact t_not (by exact t_val (by exact d_callN (K0 := K) (mg0 := mg) cc f_law_told (by exact a_s (by exact dv 8) (by exact a_s (by exact d_tup (by exact a_s (by exact dv 1) (by exact a_s (by exact dv 2) a_nil))) a_nil))))))) (by exact xw_or1 (by exact xt_not (by exact xt_val (by exact x_call (K0 := K) (mg0 := mg) cc m_law_beside_right (by exact xa_cons (by exact x_p (fun M => (by exact dv 8))) (by exact xa_cons (by exact x_p (fun M => (by exact dv 1))) (by exact xa_cons (by exact x_p (fun M => (by exact dv 2))) (by exact xa_cons (by exact x_n (fun M => (by exact d_lst a_nil))) xa_nil)))))))))) (by exact xb_one (by exact xs_ret (by exact x_p (fun M => d_bl)))) xb_nil) (by exact xb_cons (by exact xs_p (fun M => (by exact s_set 11 cc (by exact d_ix (K0 := K) (by exact d_lst (by exact a_s (by exact d_neg d_int) (by exact a_s (by exact d_len (K0 := K) b_len (by exact dv 1)) (by exact a_s d_bl (by exact a_s d_non (by exact a_s d_str (by exact a_s (by exact d_add (by exact d_len (K0 := K) b_len (by exact dv 1)) (by exact d_pow d_int d_int)) (by exact a_s d_bl (by exact a_s (by exact d_give (by exact d_lst a_nil)) (by exact a_s (by exact d_give (by exact d_lst (by exact a_s d_int a_nil))) a_nil)))))))))) (by exact d_mod (by exact d_fdiv (by exact dv 3) d_int) d_int))))) (by exact xb_one (by exact xs_ret (by exact x_p (fun M => (by exact d_callN (K0 := K) (mg0 := mg) cc f_law_no_point (by exact a_s (by exact dv 8) (by exact a_s (by exact dv 11) a_nil)))))))))))))))))))))))))⟩
theorem qd_is_whole {f : Addr} {fd : FuncData} (F : Fun K "is_whole" "is_whole" st_is_whole f fd) (hm : mg "is_whole" = some (.ref f)) (hb : Binds K fd ["thing"] []) (b_int : mg "int" = none) (b_type : mg "type" = none) : QDef P w K mg base 1 "is_whole" 1 M_is_whole :=
  q_def (N := N_is_whole) (n := 1) (k := 0) (nw := false) (ms := m_is_whole) rfl F sc_is_whole hm hb (by intro _; rfl) fun cdv L g => (by exact yb_one (by exact ys_ret (by exact y_cmp qo_is (by exact y_type b_type (by exact y_var 0)) (by exact y_ty b_int (by decide +kernel)))))
theorem qd_is_below {f : Addr} {fd : FuncData} (F : Fun K "is_below" "is_below" st_is_below f fd) (hm : mg "is_below" = some (.ref f)) (hb : Binds K fd ["thing", "limit"] []) (q_is_whole : QDef P w K mg base 1 "is_whole" 1 M_is_whole) : QDef P w K mg base 2 "is_below" 2 M_is_below :=
  q_def (N := N_is_below) (n := 2) (k := 1) (nw := false) (ms := m_is_below) rfl F sc_is_below hm hb (by intro _; rfl) fun cdv L g => (by exact yb_one (by exact ys_ret (by exact y_and (by exact y_call q_is_whole (by exact ya_cons (by exact y_var 0) ya_nil)) (by exact y_one (by exact y_chain qo_le qo_lt y_int (by exact y_var 0) (by exact y_var 1))))))
theorem qd_is_tie {f : Addr} {fd : FuncData} (F : Fun K "_is_tie" "_is_tie" st_is_tie f fd) (hm : mg "_is_tie" = some (.ref f)) (hb : Binds K fd ["thing", "size"] []) (b_len : mg "len" = none) (q_is_below : QDef P w K mg base 2 "is_below" 2 M_is_below) (b_tuple : mg "tuple" = none) (b_type : mg "type" = none) : QDef P w K mg base 3 "_is_tie" 2 M_is_tie :=
  q_def (N := N_is_tie) (n := 4) (k := 2) (nw := false) (ms := m_is_tie) rfl F sc_is_tie hm hb (by intro _; rfl) fun cdv L g => (by exact yb_cons (by exact ys_if (by exact yw_t (by exact yw_or (by exact yt_cmp qo_isNot (by exact y_type b_type (by exact y_var 0)) (by exact y_ty b_tuple (by decide +kernel))) (by exact yw_or1 (by exact yt_neI intM_len intM_c (by exact y_len b_len (by exact y_var 0)) y_int)))) (by exact yb_one (by exact ys_ret y_bl)) yb_nil) (by exact yb_cons (by exact ys_unp (by exact y_var 0) (by exact yg_name 2 (by exact yg_name 3 yg_nil))) (by exact yb_one (by exact ys_ret (by exact y_and (by exact y_call q_is_below (by exact ya_cons (by exact y_var 2) (by exact ya_cons (by exact y_var 1) ya_nil))) (by exact y_and (by exact y_call q_is_below (by exact ya_cons (by exact y_var 3) (by exact ya_cons (by exact y_var 1) ya_nil))) (by exact y_one (by exact y_cmp qo_lt (by exact y_var 2) (by exact y_var 3)))))))))
theorem hot_law_alone {f D : Addr} {fd : FuncData} (F : Fun K "_law_alone" "_law_alone" st_law_alone f fd) (hm : mg "_law_alone" = some (.ref f)) (hb : Binds K fd ["_law_e", "_law_which"] []) (xc : ExcC K D) (b_isinstance : mg "isinstance" = none) (b_range : mg "range" = none) (b_ValueError : mg "ValueError" = none) {C1 : Addr} (g1 : mg "BadWeb" = some (.ref C1)) {C2 : Addr} (g2 : mg "BadRow" = some (.ref C2)) {C3 : Addr} (g3 : mg "BadCells" = some (.ref C3)) {C4 : Addr} (g4 : mg "NoPoint" = some (.ref C4)) {C5 : Addr} (g5 : mg "NoTurn" = some (.ref C5)) {C6 : Addr} (g6 : mg "NoWeb" = some (.ref C6)) {q1 q2 q3 q4 q5 q6 q7 : Bool} (k1 : PySem.W.kitOne K (.ref D) (.ref C1) = some q1) (k2 : PySem.W.kitOne K (.ref D) (.ref C2) = some q2) (k3 : PySem.W.kitOne K (.ref D) (.ref C3) = some q3) (k4 : PySem.W.kitOne K (.ref D) (.ref C4) = some q4) (k5 : PySem.W.kitOne K (.ref D) (.ref C5) = some q5) (k6 : PySem.W.kitOne K (.ref D) (.ref C6) = some q6) (k7 : PySem.W.kitOne K (.ref D) (.type "ValueError") = some q7) : HotOk P w K mg base 1 "_law_alone" D ["_law_e", "_law_which"] (M_law_alone q1 q2 q3 q4 q5 q6 q7) :=
  hot_ok (N := N_law_alone) (n := 4) (k := 0) (ms := fun a => m_law_alone q1 q2 q3 q4 q5 q6 q7 a) rfl F sc_law_alone hm hb fun cdv A outer s H E p hk => ⟨_, (by exact b_cons (by exact s_setN 2 hk.nd (by exact d_give (by exact (by exact d_lst (by exact a_s (by exact d_isX (cV := .ref C1) xc hk b_isinstance (by exact dv 0) (pe_glob rfl g1 rfl) (fun _ h => by cases h; rfl) k1) (by exact a_s (by exact d_isX (cV := .ref C2) xc hk b_isinstance (by exact dv 0) (pe_glob rfl g2 rfl) (fun _ h => by cases h; rfl) k2) (by exact a_s (by exact d_isX (cV := .ref C3) xc hk b_isinstance (by exact dv 0) (pe_glob rfl g3 rfl) (fun _ h => by cases h; rfl) k3) (by exact a_s (by exact d_isX (cV := .ref C4) xc hk b_isinstance (by exact dv 0) (pe_glob rfl g4 rfl) (fun _ h => by cases h; rfl) k4) a_nil)))))))) (by exact b_cons (by exact s_setN 2 hk.nd (by exact d_give (by exact d_cat (by exact dv 2) (by exact (by exact d_lst (by exact a_s (by exact d_isX (cV := .ref C5) xc hk b_isinstance (by exact dv 0) (pe_glob rfl g5 rfl) (fun _ h => by cases h; rfl) k5) (by exact a_s (by exact d_isX (cV := .ref C6) xc hk b_isinstance (by exact dv 0) (pe_glob rfl g6 rfl) (fun _ h => by cases h; rfl) k6) a_nil))))))) (by exact b_one (by exact s_ret (by exact d_and (by exact (by exact d_isX (cV := .ty "ValueError") xc hk b_isinstance (by exact dv 0) (pe_bltn (v := .ty "ValueError") rfl b_ValueError (by decide +kernel) rfl) (fun _ h => by cases h; rfl) k7)) (by exact d_one (by exact d_cmp (c_eqH (K0 := K) hk) (by exact dv 2) (by exact (d_lcH (M := M0) (own := [(("_law_k" : Str), 3)]) hk (by exact L2H.pi_range1H rfl b_range (pa_cons pe_int pa_nil)) (by exact si_rng1 (DA.sn (M := M0) (X := L2H.cxH (L2N.CX P w) P w K mg base N_law_alone "_law_alone" (defScope st_law_alone) f cdv A outer s H E p) (es := [.Constant (.int 6) 0 ⟨0, 0, 0, 0⟩]) (by exact a_t (by exact d_int) a_nil))) (by exact blkOk_by (N := N_law_alone) (sc := defScope st_law_alone) (by decide +kernel)) (by exact fun s' H' C' cl' fp' hk' => (by exact g_name 3 hk'.nd)) (by exact fun s' H' C' cl' fp' hk' => (by exact d_cmp (c_eqH (K0 := K) hk') (by exact dv 3) (by exact dv 1))))))))))))⟩
end
end K2
namespace K2
open PySem L2 Mr
-- K1m
/-! What the mirrors of k01 answer. -/
abbrev il (xs : List Int) : List Dt := xs.map Dt.int
theorem il_len (xs : List Int) : (il xs).length = xs.length := List.length_map ..
theorem atI_nat {ds : List Dt} {k : Nat} {d : Dt} (h : ds[k]? = some d) : atI ds (k : Int) = some d := by
  have hk : k < ds.length := (List.getElem?_eq_some_iff.mp h).1
  unfold atI ixN
  rw [if_pos (Int.natCast_nonneg k), if_pos (by omega)]
  exact h
theorem mul_small {i j : Int} (hi : i.natAbs < 2 ^ 1100000) (hj : j.natAbs < 2 ^ 1100000) : mulOk i j = true := by
  have key : ∀ x : Nat, x < 2 ^ 1100000 → x.log2 < 1100000 ∨ x = 0 := fun x hx => by
    by_cases h : x = 0
    · exact .inr h
    · exact .inl ((Nat.log2_lt h).mpr hx)
  have one : ∀ x : Nat, x < 2 ^ 1100000 → x.log2 < 1100000 := fun x hx => by
    rcases key x hx with z | z
    · exact z
    · subst z
      decide
  have a := one _ hi
  have b := one _ hj
  unfold mulOk
  exact decide_eq_true (by omega)
theorem cell_at (ns : List Int) (k : Nat) : M_law_cell_at [.lsk (il ns), .int k] = .ok (.int (ns.getD k 0)) := by
  show (m_law_cell_at [.sh (.lsk (il ns)), .sh (.int k)]).bind _ = _
  have t : (mT (mBin dLt (mVar 1) (mU dLen (mVar 0)))) [.sh (.lsk (il ns)), .sh (.int k)] = .ok (decide ((k : Int) < ((il ns).length : Int))) := rfl
  unfold m_law_cell_at mSeq mIfS
  rw [t]
  by_cases h : k < ns.length
  · have e : decide ((k : Int) < ((il ns).length : Int)) = true := decide_eq_true (by rw [il_len]; omega)
    have q : (il ns)[k]? = some (.int (ns.getD k 0)) := by
      rw [List.getElem?_map, List.getElem?_eq_getElem h]
      simp [List.getD, List.getElem?_eq_getElem h]
    have r : (mRet (mBin dIx (mVar 0) (mVar 1))) [.sh (.lsk (il ns)), .sh (.int k)] = .ok (.rt (.int (ns.getD k 0))) := by
      show (match atI (il ns) (k : Int) with | some d => Md.ok d | none => Md.bad).bind _ = _
      rw [atI_nat q]
      rfl
    rw [e]
    simp only [Md.bind, if_true, r]
  · have e : decide ((k : Int) < ((il ns).length : Int)) = false := decide_eq_false (by rw [il_len]; omega)
    have q : ns.getD k 0 = 0 := by
      simp [List.getD, List.getElem?_eq_none (Nat.le_of_not_lt h)]
    rw [e, q]
    rfl

-- K1n
def mixv (c k : Int) : Int := (c + 7919 * k + 13) * (c + 7919 * k + 13) % 1000000007 * 48271 % 998244353 / 11
theorem dIC_ok {c : Int → Int → Bool} {g : Int → Int → Dt} {i j : Int} (h : c i j = true) : dIC c g (.int i) (.int j) = .ok (g i j) := by
  unfold dIC
  exact if_pos h
theorem small_nat {i : Int} {n : Nat} (h : i.natAbs < n) (hn : n ≤ 2 ^ 64) : i.natAbs < 2 ^ 1100000 := Nat.lt_of_lt_of_le h (Nat.le_trans hn (Nat.pow_le_pow_right (by decide) (by decide)))
theorem big_add {c d : Int} (hc : c.natAbs < 2 ^ 1048576) (hd : d.natAbs < 2 ^ 64) : (c + d).natAbs < 2 ^ 1100000 := by
  have h1 : (2 : Nat) ^ 64 ≤ 2 ^ 1048576 := Nat.pow_le_pow_right (by decide) (by decide)
  have h2 : (2 : Nat) ^ 1048576 + 2 ^ 1048576 = 2 ^ 1048577 := by
    rw [Nat.pow_succ 2 1048576]
    exact (Nat.mul_two _).symm
  have h3 : (2 : Nat) ^ 1048577 ≤ 2 ^ 1100000 := Nat.pow_le_pow_right (by decide) (by decide)
  have h4 : (c + d).natAbs ≤ c.natAbs + d.natAbs := Int.natAbs_add_le ..
  exact Nat.lt_of_lt_of_le (Nat.lt_of_le_of_lt h4 (Nat.lt_of_lt_of_le (Nat.add_lt_add hc (Nat.lt_of_lt_of_le hd h1)) (Nat.le_of_eq h2))) h3
theorem mixed {c k : Int} (hc : c.natAbs < 2 ^ 1048576) (h0 : 0 ≤ k) (h1 : k ≤ 1000) : M_law_mixed [.int c, .int k] = .ok (.int (mixv c k)) := by
  have m1 : mulOk 7919 k = true := mul_small (small_nat (n := 7920) (by decide) (by decide)) (small_nat (n := 1001) (by omega) (by decide))
  have hb : (c + 7919 * k + 13).natAbs < 2 ^ 1100000 := by
    rw [Int.add_assoc]
    exact big_add hc (by omega)
  have m2 : mulOk (c + 7919 * k + 13) (c + 7919 * k + 13) = true := mul_small hb hb
  have m3 : mulOk ((c + 7919 * k + 13) * (c + 7919 * k + 13) % 1000000007) 48271 = true := by
    generalize (c + 7919 * k + 13) * (c + 7919 * k + 13) = x
    refine mul_small (small_nat (n := 1000000007) ?_ (by decide)) (small_nat (n := 48272) (by decide) (by decide))
    have a1 := Int.emod_nonneg x (show (1000000007 : Int) ≠ 0 by decide)
    have a2 := Int.emod_lt_of_pos x (show (0 : Int) < 1000000007 by decide)
    omega
  show (m_law_mixed [.sh (.int c), .sh (.int k), .un]).bind _ = _
  have e1 : (mAsg 2 (mBin (dI fun i j => .int (i + j)) (mBin (dI fun i j => .int (i + j)) (mVar 0) (mBin (dIC mulOk fun i j => .int (i * j)) (mC (.int 7919)) (mVar 1))) (mC (.int 13)))) [.sh (.int c), .sh (.int k), .un] = .ok (.nx [.sh (.int c), .sh (.int k), .sh (.int (c + 7919 * k + 13))]) := by
    have z : (mBin (dIC mulOk fun i j => .int (i * j)) (mC (.int 7919)) (mVar 1)) [.sh (.int c), .sh (.int k), .un] = .ok (.int (7919 * k)) := by
      show dIC mulOk (fun i j => .int (i * j)) (.int 7919) (.int k) = _
      exact dIC_ok m1
    unfold mAsg
    have z2 : (mBin (dI fun i j => .int (i + j)) (mBin (dI fun i j => .int (i + j)) (mVar 0) (mBin (dIC mulOk fun i j => .int (i * j)) (mC (.int 7919)) (mVar 1))) (mC (.int 13))) [.sh (.int c), .sh (.int k), .un] = .ok (.int (c + 7919 * k + 13)) := by
      show (((mBin (dIC mulOk fun i j => .int (i * j)) (mC (.int 7919)) (mVar 1)) [.sh (.int c), .sh (.int k), .un]).bind fun b => dI (fun i j => .int (i + j)) (.int c) b).bind _ = _
      rw [z]
      rfl
    rw [z2]
    rfl
  unfold m_law_mixed mSeq
  rw [e1]
  show (mRet _ [.sh (.int c), .sh (.int k), .sh (.int (c + 7919 * k + 13))]).bind _ = _
  generalize hx : c + 7919 * k + 13 = x at m2 m3
  have e2 : (mBin (dIC divOk fun i j => .int (i / j)) (mBin (dIC posOk fun i j => .int (i % j)) (mBin (dIC mulOk fun i j => .int (i * j)) (mBin (dIC posOk fun i j => .int (i % j)) (mBin (dIC mulOk fun i j => .int (i * j)) (mVar 2) (mVar 2)) (mC (.int 1000000007))) (mC (.int 48271))) (mC (.int 998244353))) (mC (.int 11))) [.sh (.int c), .sh (.int k), .sh (.int x)] = .ok (.int (x * x % 1000000007 * 48271 % 998244353 / 11)) := by
    show ((((dIC mulOk (fun i j => .int (i * j)) (.int x) (.int x)).bind fun a => dIC posOk (fun i j => .int (i % j)) a (.int 1000000007)).bind fun a => dIC mulOk (fun i j => .int (i * j)) a (.int 48271)).bind fun a => dIC posOk (fun i j => .int (i % j)) a (.int 998244353)).bind (fun a => dIC divOk (fun i j => .int (i / j)) a (.int 11)) = _
    rw [dIC_ok m2]
    show (((dIC posOk (fun i j => .int (i % j)) (.int (x * x)) (.int 1000000007)).bind fun a => dIC mulOk (fun i j => .int (i * j)) a (.int 48271)).bind fun a => dIC posOk (fun i j => .int (i % j)) a (.int 998244353)).bind (fun a => dIC divOk (fun i j => .int (i / j)) a (.int 11)) = _
    rw [dIC_ok (show posOk (x * x) 1000000007 = true from rfl)]
    show ((dIC mulOk (fun i j => .int (i * j)) (.int (x * x % 1000000007)) (.int 48271)).bind fun a => dIC posOk (fun i j => .int (i % j)) a (.int 998244353)).bind (fun a => dIC divOk (fun i j => .int (i / j)) a (.int 11)) = _
    rw [dIC_ok m3]
    rfl
  unfold mRet
  rw [e2]
  unfold mixv
  rw [hx]
  rfl
theorem mixv_ge (c k : Int) : 0 ≤ mixv c k := by
  unfold mixv
  exact Int.ediv_nonneg (Int.emod_nonneg _ (by decide)) (by decide)
theorem mixv_lt (c k : Int) : mixv c k < 100000000 := by
  unfold mixv
  generalize (c + 7919 * k + 13) * (c + 7919 * k + 13) % 1000000007 * 48271 = x
  have a2 := Int.emod_lt_of_pos x (show (0 : Int) < 998244353 by decide)
  omega

-- K1o
/-- the whole numbers from k on, n of them -/
def nums (k : Int) : Nat → List Int
  | 0 => []
  | n + 1 => k :: nums (k + 1) n
theorem nums_len (n : Nat) : ∀ k, (nums k n).length = n := by
  induction n with
  | zero => exact fun _ => rfl
  | succ n ih => exact fun k => congrArg (· + 1) (ih (k + 1))
theorem nums_get (n : Nat) : ∀ (k : Int) (i : Nat), i < n → (nums k n)[i]? = some (k + i) := by
  induction n with
  | zero => exact fun _ _ h => absurd h (Nat.not_lt_zero _)
  | succ n ih =>
    intro k i h
    cases i with
    | zero => simp [nums]
    | succ i =>
      show (nums (k + 1) n)[i]? = _
      rw [ih (k + 1) i (Nat.lt_of_succ_lt_succ h)]
      congr 1
      omega
theorem rng_nums (lo : Int) (n : Nat) : rng lo n = il (nums lo n) := by
  apply List.ext_getElem?
  intro i
  by_cases h : i < n
  · rw [rng_get h, List.getElem?_map, nums_get n lo i h]
    rfl
  · rw [List.getElem?_eq_none (by rw [rng_len]; omega), List.getElem?_eq_none (by rw [il_len, nums_len]; omega)]
theorem perm_out {α : Type} : ∀ (l : List α) (j : Nat) (h : j < l.length), (l[j] :: l.eraseIdx j).Perm l
  | x :: r, 0, _ => List.Perm.refl _
  | x :: r, j + 1, h => by
    have q := perm_out r j (Nat.lt_of_succ_lt_succ h)
    exact (List.Perm.swap x _ _).trans (q.cons x)
theorem erase_il : ∀ (l : List Int) (j : Nat), (il l).eraseIdx j = il (l.eraseIdx j)
  | [], _ => rfl
  | x :: r, 0 => rfl
  | x :: r, j + 1 => congrArg (Dt.int x :: ·) (erase_il r j)
theorem appPop_ok {Δ : Fd} {i j k : Nat} {a : Fd → Md Dt} {ds es : List Dt} {y : Dt} (h1 : Δ[i]? = some (.ow ds)) (h2 : Δ[j]? = some (.ow es)) (hl : ds.length < 16777216) (hij : i ≠ j) (ha : a Δ = .ok (.int (k : Int))) (hk : k < 16777216) (hy : es[k]? = some y) :
    mAppPop i j a Δ = .ok (.nx ((Δ.set j (.ow (es.eraseIdx k))).set i (.ow (ds ++ [y])))) := by
  have c2 : 0 ≤ (k : Int) ∧ (k : Int) < 16777216 := ⟨by omega, by omega⟩
  unfold mAppPop
  simp only [h1, h2, if_pos (And.intro hl hij), ha, Md.bind, if_pos c2, Int.toNat_natCast, hy]
theorem sm_nat {n : Nat} (hn : n ≤ 1000) : smallI (n : Int) = true := by
  have h1 : -(2 ^ 62) ≤ (n : Int) := by omega
  have h2 : (n : Int) < 2 ^ 62 := by omega
  unfold smallI
  rw [decide_eq_true h1, decide_eq_true h2]
  rfl
theorem listRg_ok {n : Nat} (hn : n ≤ 1000) : dListRg (.int n) = .ok (.lst (il (nums 0 n))) := by
  have c : smallI (n : Int) = true ∧ n ≤ 16777216 := ⟨sm_nat hn, Nat.le_trans hn (by decide)⟩
  unfold dListRg
  simp only [Int.toNat_natCast, if_pos c, rng_nums]
theorem it1_ok {n : Nat} {Δ : Fd} {ma : Fd → Md (List Dt)} (hn : n ≤ 1000) (h : ma Δ = .ok [.int n]) : mIt1 ma Δ = .ok (il (nums 0 n)) := by
  have c : smallI (n : Int) = true := sm_nat hn
  unfold mIt1
  simp only [h, Md.bind, if_pos c, Int.toNat_natCast, rng_nums]
def rowBody : Fd → Md Out := (mSeq (mAppPop 3 2 (mBin (dIC posOk fun i j => .int (i % j)) (mVar 1) (mU dLen (mOwn 2)))) (mAsg 1 (mBin (dI fun i j => .int (i + j)) (mBin (dIC divOk fun i j => .int (i / j)) (mVar 1) (mBin (dI fun i j => .int (i - j)) (mVar 0) (mVar 4))) (mBin (dIC mulOk fun i j => .int (i * j)) (mC (.int 7)) (mVar 4)))))
theorem row_turn {n num k : Int} {left found : List Int} (hl : (left.length : Int) = n - k) (hp : 0 < left.length) (hk : 0 ≤ k) (hn : n ≤ 1000) (hf : found.length ≤ 1000) : ∃ y left' num', (y :: left').Perm left ∧
    rowBody [.sh (.int n), .sh (.int num), .ow (il left), .ow (il found), .sh (.int k)] = .ok (.nx [.sh (.int n), .sh (.int num'), .ow (il left'), .ow (il (found ++ [y])), .sh (.int k)]) := by
  have p1 : posOk num ((il left).length : Int) = true := by
    unfold posOk
    exact decide_eq_true (by rw [il_len]; omega)
  have r0 := Int.emod_nonneg num (show ((left.length : Int)) ≠ 0 by omega)
  have r1 := Int.emod_lt_of_pos num (show (0 : Int) < left.length by omega)
  obtain ⟨j, hj⟩ := Int.eq_ofNat_of_zero_le r0
  have hj2 : j < left.length := by omega
  have small : left.length ≤ 1000 := by omega
  refine ⟨left[j], left.eraseIdx j, num / (n - k) + 7 * k, ?_, ?_⟩
  · exact perm_out left j hj2
  · have ga : (il left)[j]? = some (.int left[j]) := by rw [List.getElem?_map, List.getElem?_eq_getElem hj2]; rfl
    have e1 : (mAppPop 3 2 (mBin (dIC posOk fun i j => .int (i % j)) (mVar 1) (mU dLen (mOwn 2)))) [.sh (.int n), .sh (.int num), .ow (il left), .ow (il found), .sh (.int k)] = .ok (.nx [.sh (.int n), .sh (.int num), .ow (il (left.eraseIdx j)), .ow (il (found ++ [left[j]])), .sh (.int k)]) := by
      have z : (mBin (dIC posOk fun i j => .int (i % j)) (mVar 1) (mU dLen (mOwn 2))) [.sh (.int n), .sh (.int num), .ow (il left), .ow (il found), .sh (.int k)] = .ok (.int j) := by
        show dIC posOk (fun i j => .int (i % j)) (.int num) (.int ((il left).length : Int)) = _
        rw [dIC_ok p1, il_len, hj]
      rw [appPop_ok (k := j) (y := .int left[j]) (ds := il found) (es := il left) rfl rfl (by rw [il_len]; omega) (by decide) z (by omega) ga]
      show Md.ok (Out.nx [.sh (.int n), .sh (.int num), .ow ((il left).eraseIdx j), .ow (il found ++ [.int left[j]]), .sh (.int k)]) = _
      rw [show (il left).eraseIdx j = il (left.eraseIdx j) from erase_il left j, show il found ++ [.int left[j]] = il (found ++ [left[j]]) by simp]
    have d1 : divOk num (n - k) = true := by
      unfold divOk
      rw [Bool.and_eq_true, decide_eq_true_eq, decide_eq_true_eq]
      omega
    have m1 : mulOk 7 k = true := mul_small (small_nat (n := 8) (by decide) (by decide)) (small_nat (n := 1001) (by omega) (by decide))
    unfold rowBody mSeq
    rw [e1]
    show (((dIC divOk (fun i j => .int (i / j)) (.int num) (.int (n - k))).bind fun a => (dIC mulOk (fun i j => .int (i * j)) (.int 7) (.int k)).bind fun b => dI (fun i j => .int (i + j)) a b).bind fun d => Md.ok (Out.nx (([.sh (.int n), .sh (.int num), .ow (il (left.eraseIdx j)), .ow (il (found ++ [left[j]])), .sh (.int k)] : Fd).set 1 (.sh d)))) = _
    rw [dIC_ok d1, dIC_ok m1]
    rfl
theorem row_go (n : Int) (hn : n ≤ 1000) : ∀ (m : Nat) (k num : Int) (left found : List Int) (s4 : Sd), (m : Int) = n - k → 0 ≤ k → left.length = m → (found.length : Int) = k →
    ∃ found' num' s4', found'.Perm (found ++ left) ∧ mForGo (gsName 4) rowBody (il (nums k m)) [.sh (.int n), .sh (.int num), .ow (il left), .ow (il found), s4] = .ok (.nx [.sh (.int n), .sh (.int num'), .ow (il []), .ow (il found'), s4']) := by
  intro m
  induction m with
  | zero =>
    intro k num left found s4 h1 h2 h3 h4
    have : left = [] := List.eq_nil_of_length_eq_zero h3
    subst this
    exact ⟨found, num, s4, by simp, rfl⟩
  | succ m ih =>
    intro k num left found s4 h1 h2 h3 h4
    obtain ⟨y, left', num', hp, e⟩ := row_turn (n := n) (num := num) (k := k) (left := left) (found := found) (by omega) (by omega) h2 hn (by omega)
    have hl' : left'.length = m := by
      have := hp.length_eq
      simp at this
      omega
    obtain ⟨f2, n2, s2, hp2, e2⟩ := ih (k + 1) num' left' (found ++ [y]) (.sh (.int k)) (by omega) (by omega) hl' (by simp; omega)
    refine ⟨f2, n2, s2, hp2.trans ?_, ?_⟩
    · rw [List.append_assoc]
      exact List.Perm.append_left found hp
    · show (rowBody [.sh (.int n), .sh (.int num), .ow (il left), .ow (il found), .sh (.int k)]).bind _ = _
      rw [e]
      exact e2
theorem row_is {n : Nat} (num : Int) (hn : n ≤ 1000) : ∃ r : List Int, r.Perm (nums 0 n) ∧ M_law_row [.int n, .int num] = .ok (.lst (il r)) := by
  obtain ⟨f, n2, s2, hp, e⟩ := row_go n (by omega) n 0 num (nums 0 n) [] .un (by omega) (by omega) (nums_len ..) rfl
  refine ⟨f, by simpa using hp, ?_⟩
  unfold M_law_row
  refine def_rt ?_
  unfold m_law_row
  refine (seq_nx (asgO_ok ((u_ok (var_ok rfl)).trans (listRg_ok hn)))).trans ?_
  refine (seq_nx (asgO_ok (lst_ok nil_ok (Nat.zero_le _)))).trans ?_
  exact (seq_nx (Δ' := [.sh (.int n), .sh (.int n2), .ow (il []), .ow (il f), s2]) ((for_ok (it1_ok hn (cons_ok (var_ok rfl) nil_ok))).trans e)).trans (retO_ok rfl)

-- K1q
theorem toInts_il : ∀ xs : List Int, toInts (il xs) = some xs
  | [] => rfl
  | x :: r => by
    show (toInts (il r)).map (x :: ·) = _
    rw [toInts_il r]
    rfl
theorem qok_il : ∀ xs : List Int, qok.go (il xs) = true
  | [] => by simp [qok.go]
  | x :: r => by
    show qok.go (.int x :: il r) = true
    rw [qok.go, qok_il r]
    rfl
theorem nums_pw (n : Nat) : ∀ k : Int, (nums k n).Pairwise (fun a b => a ≤ b) ∧ ∀ x ∈ nums k n, k ≤ x := by
  induction n with
  | zero => exact fun _ => ⟨.nil, fun x h => by cases h⟩
  | succ n ih =>
    intro k
    obtain ⟨h1, h2⟩ := ih (k + 1)
    refine ⟨.cons (fun x hx => ?_) h1, fun x hx => ?_⟩
    · have := h2 x hx
      omega
    · rcases List.mem_cons.mp hx with z | z
      · omega
      · have := h2 x z
        omega
theorem sortI_pw (xs : List Int) : (sortI xs).Pairwise (fun a b => a ≤ b) := by
  have h := List.pairwise_mergeSort (le := fun a b : Int => decide (a ≤ b)) (fun a b c h1 h2 => by
    have h1 := of_decide_eq_true h1
    have h2 := of_decide_eq_true h2
    exact decide_eq_true (by omega)) (fun a b => by
    by_cases h : a ≤ b
    · rw [decide_eq_true h]; rfl
    · rw [decide_eq_true (show b ≤ a by omega), Bool.or_true]) xs
  exact h.imp fun h => of_decide_eq_true h
theorem sortI_perm (xs : List Int) : (sortI xs).Perm xs := List.mergeSort_perm ..
theorem sortI_nums {xs : List Int} {n : Nat} : sortI xs = nums 0 n ↔ xs.Perm (nums 0 n) := by
  constructor
  · intro h
    rw [← h]
    exact (sortI_perm xs).symm
  · intro h
    exact List.Perm.eq_of_pairwise (le := fun a b : Int => a ≤ b) (fun a b _ _ h1 h2 => by omega) (sortI_pw xs) (nums_pw n 0).1 ((sortI_perm xs).trans h)
/-- == of lists of whole numbers -/
theorem toPs_il : ∀ xs : List Int, toPs (il xs) = some (xs.map PyData.int)
  | [] => by simp [toPs]
  | x :: r => by
    show toPs (.int x :: il r) = _
    unfold toPs
    rw [toPs_il r]
    rfl

-- K1r
theorem lay_il : ∀ xs : List Int, PyData.canLayAll0 (xs.map PyData.int) = true
  | [] => by rw [List.map_nil, PyData.canLayAll0]
  | x :: r => by
    rw [List.map_cons, PyData.canLayAll0, lay_il r]
    rfl
theorem dep_il : ∀ xs : List Int, PyData.depthAll (xs.map PyData.int) = 0
  | [] => by rw [List.map_nil, PyData.depthAll]
  | x :: r => by
    rw [List.map_cons, PyData.depthAll, dep_il r]
    rfl
theorem shp_il (xs : List Int) : SeqAt.shaped (.list (xs.map PyData.int)) = true := by
  unfold SeqAt.shaped
  rw [PyData.canLay0, lay_il, PyData.depth, dep_il]
  rfl
theorem eqv_il : ∀ xs ys : List Int, PyData.eqvAll (xs.map PyData.int) (ys.map PyData.int) = decide (xs = ys)
  | [], [] => by simp [PyData.eqvAll]
  | [], y :: s => by simp [PyData.eqvAll]
  | x :: r, [] => by simp [PyData.eqvAll]
  | x :: r, y :: s => by
    rw [List.map_cons, List.map_cons, PyData.eqvAll, eqv_il r s, PyData.eqv]
    by_cases h : x = y
    · subst h
      simp
    · simp [h]
theorem toP_il (xs : List Int) : toP (.lst (il xs)) = some (.list (xs.map PyData.int)) := by
  unfold toP
  rw [toPs_il]
  rfl
theorem dEqv_il (xs ys : List Int) : dEqv (.lst (il xs)) (.lst (il ys)) = .ok (decide (xs = ys)) := by
  unfold dEqv
  rw [toP_il, toP_il]
  show (if SeqAt.shaped (.list (xs.map PyData.int)) = true ∧ SeqAt.shaped (.list (ys.map PyData.int)) = true then Md.ok (PyData.eqv (.list (xs.map PyData.int)) (.list (ys.map PyData.int))) else .bad) = _
  rw [if_pos ⟨shp_il xs, shp_il ys⟩, PyData.eqv, eqv_il]
theorem dEq_il (xs ys : List Int) : dEq (.lst (il xs)) (.lst (il ys)) = .ok (.bl (decide (xs = ys))) := by
  unfold dEq
  rw [dEqv_il]
  rfl
theorem dNe_int2 (i j : Int) : dNe (.int i) (.int j) = .ok (.bl (!decide (i = j))) := by
  rw [dNe_int, Bool.beq_eq_decide_eq]
theorem len_il (xs : List Int) {n : Nat} (h : xs.length = n) : dLen (.lst (il xs)) = .ok (.int n) := by
  show Md.ok (Dt.int ((il xs).length : Int)) = _
  rw [il_len, h]
theorem sorted_il (xs : List Int) : dSorted (.lst (il xs)) = .ok (.lst (il (sortI xs))) := by
  unfold dSorted
  simp only [toInts_il]
theorem whole_int (i : Int) : M_is_whole [.int i] = .ok (.bl true) := rfl
theorem allB_il (f : Dt → Md Dt) (h : ∀ i : Int, f (.int i) = .ok (.bl true)) : ∀ xs : List Int, allB f (il xs) = some (List.replicate xs.length true)
  | [] => rfl
  | x :: r => by
    show (match f (.int x), allB f (il r) with
      | .ok (.bl q), some bs => some (q :: bs)
      | _, _ => none) = _
    rw [h x, allB_il f h r]
    rfl
/-- a list comprehension over whole numbers, without a test -/
theorem lcGo_il {i : Nat} {me : Fd → Md Dt} {Δ : Fd} (f : Int → Int) : ∀ xs : List Int, (∀ x ∈ xs, me (Δ.set i (.sh (.int x))) = .ok (.int (f x))) → mLcGo (gsName i) mYes me Δ (il xs) = .ok (il (xs.map f))
  | [], _ => rfl
  | x :: r, h => by
    have e := lcGo_il f r fun y hy => h y (List.mem_cons_of_mem _ hy)
    show ((mYes (Δ.set i (.sh (.int x)))).bind fun b => if b = true then (me (Δ.set i (.sh (.int x)))).bind fun d => (mLcGo (gsName i) mYes me Δ (il r)).bind fun ds => .ok (d :: ds) else mLcGo (gsName i) mYes me Δ (il r)) = _
    rw [h x List.mem_cons_self, e]
    rfl
theorem mem_nums {n : Nat} : ∀ {k x : Int}, x ∈ nums k n ↔ k ≤ x ∧ x < k + n := by
  induction n with
  | zero =>
    intro k x
    simp [nums]
  | succ n ih =>
    intro k x
    rw [nums, List.mem_cons, ih]
    constructor
    · rintro (rfl | ⟨a, b⟩) <;> omega
    · intro ⟨a, b⟩
      omega
theorem at_il {ys : List Int} {x : Int} (h0 : 0 ≤ x) (h1 : x < ys.length) : dIx (.lst (il ys)) (.int x) = .ok (.int (ys.getD x.toNat 0)) := by
  obtain ⟨j, rfl⟩ := Int.eq_ofNat_of_zero_le h0
  have hj : j < ys.length := by omega
  show (match atI (il ys) (j : Int) with | some d => Md.ok d | none => Md.bad) = _
  have q : (il ys)[j]? = some (.int (ys.getD j 0)) := by
    rw [List.getElem?_map, List.getElem?_eq_getElem hj]
    simp [List.getD, List.getElem?_eq_getElem hj]
  rw [atI_nat q, Int.toNat_natCast]
def comp (xs ys : List Int) : List Int := xs.map fun x => ys.getD x.toNat 0
-- K1v
theorem law_whole_int (i : Int) : M_law_whole [.int i] = .ok (.bl true) := rfl
theorem law_whole_bl (b : Bool) : M_law_whole [.bl b] = .ok (.bl false) := rfl
theorem law_whole_str (x : Str) : M_law_whole [.str x] = .ok (.bl false) := rfl
theorem law_whole_non : M_law_whole [.non] = .ok (.bl false) := rfl
theorem law_whole_lst (ds : List Dt) : M_law_whole [.lst ds] = .ok (.bl false) := rfl
theorem isi_lst (ds : List Dt) : dIsi [.lst ds, .ty "list"] = .ok (.bl true) := rfl
theorem lcGo_wh {i : Nat} {me : Fd → Md Dt} {Δ : Fd} : ∀ xs : List Int, (∀ x ∈ xs, me (Δ.set i (.sh (.int x))) = .ok (.bl true)) → mLcGo (gsName i) mYes me Δ (il xs) = .ok (List.replicate xs.length (.bl true))
  | [], _ => rfl
  | x :: r, h => by
    have e := lcGo_wh r fun y hy => h y (List.mem_cons_of_mem _ hy)
    show ((mYes (Δ.set i (.sh (.int x)))).bind fun b => if b = true then (me (Δ.set i (.sh (.int x)))).bind fun d => (mLcGo (gsName i) mYes me Δ (il r)).bind fun ds => .ok (d :: ds) else mLcGo (gsName i) mYes me Δ (il r)) = _
    rw [h x List.mem_cons_self, e]
    rfl
theorem toBls_rep : ∀ n : Nat, toBls (List.replicate n (.bl true)) = some (List.replicate n true)
  | 0 => rfl
  | n + 1 => by
    show (toBls (List.replicate n (.bl true))).map (true :: ·) = _
    rw [toBls_rep n]
    rfl
-- K1w
/-- what may stand in a thing -/
def pl : Dt → Bool
  | .int _ => true
  | .bl _ => true
  | .str _ => true
  | .non => true
  | .lst _ => true
  | _ => false
def isI : Dt → Bool
  | .int _ => true
  | _ => false
theorem whole_pl {d : Dt} (h : pl d = true) : M_is_whole [d] = .ok (.bl (isI d)) := by
  cases d <;> first | rfl | cases h
theorem law_whole_pl {d : Dt} (h : pl d = true) : M_law_whole [d] = .ok (.bl (isI d)) := by
  cases d <;> first | rfl | cases h
theorem allB_pl {f : Dt → Md Dt} (h : ∀ d, pl d = true → f d = .ok (.bl (isI d))) : ∀ ds : List Dt, (∀ d ∈ ds, pl d = true) → allB f ds = some (ds.map isI)
  | [], _ => rfl
  | d :: r, hp => by
    show (match f d, allB f r with
      | .ok (.bl q), some bs => some (q :: bs)
      | _, _ => none) = _
    rw [h d (hp d List.mem_cons_self), allB_pl h r fun x hx => hp x (List.mem_cons_of_mem _ hx)]
    rfl
theorem isI_toInts : ∀ ds : List Dt, (ds.map isI).all id = (toInts ds).isSome
  | [] => rfl
  | .int i :: r => by
    show (true && (r.map isI).all id) = ((toInts r).map (i :: ·)).isSome
    rw [isI_toInts r, Bool.true_and, Option.isSome_map]
  | .non :: r => rfl
  | .bl _ :: r => rfl
  | .str _ :: r => rfl
  | .ty _ :: r => rfl
  | .lst _ :: r => rfl
  | .tup _ :: r => rfl
  | .ins _ _ _ :: r => rfl
  | .lsk _ :: r => rfl
  | .tpk _ :: r => rfl
  | .dic :: r => rfl
  | .adr _ :: r => rfl
  | .dct _ _ :: r => rfl
  | .loc _ :: r => rfl
theorem toInts_some : ∀ {ds : List Dt} {xs : List Int}, toInts ds = some xs → ds = il xs
  | [], xs, h => by cases h; rfl
  | .int i :: r, xs, h => by
    obtain ⟨ys, e, rfl⟩ := Option.map_eq_some_iff.mp (show (toInts r).map (i :: ·) = some xs from h)
    rw [toInts_some e]
    rfl
/-- whether a list is a row of size n -/
def rowB (ds : List Dt) (n : Nat) : Bool := match toInts ds with
  | some xs => decide (ds.length = n) && decide (sortI xs = nums 0 n)
  | none => false
theorem alike_il {xs ys : List Int} (hl : xs.length ≤ 1000) : M_law_alike_rows [.lst (il xs), .lst (il ys)] = .ok (.bl (decide (xs = ys))) := by
  unfold M_law_alike_rows
  refine def_rt ?_
  have st : startD 3 [.lst (il xs), .lst (il ys)] = [.sh (.lst (il xs)), .sh (.lst (il ys)), .un] := rfl
  rw [st]
  unfold m_law_alike_rows
  have w1 : (mT (mCB dIsi (mCons (mVar 0) (mCons (mC (.ty "list")) mNil)))) [.sh (.lst (il xs)), .sh (.lst (il ys)), .un] = .ok true := rfl
  have w2 : (mT (mBin dNe (mU dLen (mVar 0)) (mU dLen (mVar 1)))) [.sh (.lst (il xs)), .sh (.lst (il ys)), .un] = .ok (!decide ((xs.length : Int) = ys.length)) := t_ok ((bin_ok ((u_ok (var_ok rfl)).trans (len_il xs rfl)) ((u_ok (var_ok rfl)).trans (len_il ys rfl))).trans (dNe_int2 ..))
  by_cases h : xs.length = ys.length
  · have e : decide ((xs.length : Int) = ys.length) = true := decide_eq_true (by omega)
    rw [e] at w2
    refine (seq_nx ((if_f ((or_f (not_ok w1)).trans w2)).trans rfl)).trans (ret_ok ?_)
    have al : (mU dAll (mLc (mItL (mVar 0)) (gsName 2) mYes (mCall 1 M_law_whole (mCons (mVar 2) mNil)) [2])) [.sh (.lst (il xs)), .sh (.lst (il ys)), .un] = .ok (.bl true) := by
      refine (u_ok (lc_ok (ds := il xs) rfl (by rw [il_len]; omega) (lcGo_wh xs fun x _ => (call_ok (ds := [.int x]) (cons_ok (var_ok rfl) nil_ok) rfl).trans (law_whole_int x)))).trans ?_
      unfold dAll
      simp [toBls_rep]
    exact (andV_t al).trans ((bin_ok (var_ok rfl) (var_ok rfl)).trans (dEq_il ..))
  · have e : decide ((xs.length : Int) = ys.length) = false := decide_eq_false (by omega)
    have ne : xs ≠ ys := fun z => h (congrArg List.length z)
    rw [e] at w2
    rw [decide_eq_false ne]
    exact seq_rt ((if_t ((or_f (not_ok w1)).trans w2)).trans (ret_ok c_ok))


-- ties as data
abbrev tl (ps : List (Int × Int)) : List Dt := ps.map fun p => Dt.tup [.int p.1, .int p.2]
theorem tl_len (ps : List (Int × Int)) : (tl ps).length = ps.length := List.length_map _
theorem toPairs_tl (ps : List (Int × Int)) : toPairs (tl ps) = some ps := toPairs_map ps
theorem sorted_tl (ps : List (Int × Int)) : dSorted (.lst (tl ps)) = .ok (.lst (tl (sortP ps))) := by
  unfold dSorted
  cases ps with
  | nil => simp [toInts, sortI, sortP]
  | cons p r =>
    have e : toInts (tl (p :: r)) = none := rfl
    simp only [e, toPairs_tl]
theorem sortP_perm (ps : List (Int × Int)) : (sortP ps).Perm ps := List.mergeSort_perm ps _
/-- rising, none twice -/
def ltP (p q : Int × Int) : Prop := p.1 < q.1 ∨ (p.1 = q.1 ∧ p.2 < q.2)
theorem sortP_lt {ps : List (Int × Int)} (h : ps.Nodup) : (sortP ps).Pairwise ltP := by
  have h2 : (sortP ps).Pairwise fun a b => leP a b = true := List.pairwise_mergeSort (le := leP) (fun a b c h1 h2 => by
    rw [leP_iff] at h1 h2 ⊢
    omega) (fun a b => by
    rw [Bool.or_eq_true, leP_iff, leP_iff]
    omega) ps
  have h3 : (sortP ps).Nodup := (sortP_perm ps).nodup_iff.mpr h
  refine (h2.and h3).imp fun {a b} ⟨x, y⟩ => ?_
  rw [leP_iff] at x
  unfold ltP
  rcases x with x | ⟨x, z⟩
  · exact .inl x
  · refine .inr ⟨x, ?_⟩
    have : a.2 ≠ b.2 := fun e => y (Prod.ext x e)
    omega
theorem ltP_nodup {ps : List (Int × Int)} (h : ps.Pairwise ltP) : ps.Nodup := h.imp fun {a b} x e => by
  subst e
  unfold ltP at x
  omega
theorem sortP_id {ps : List (Int × Int)} (h : ps.Pairwise ltP) : sortP ps = ps := by
  refine (sortP_of (List.Perm.refl ps) (h.imp fun {a b} x => ?_)).symm
  rw [leP_iff]
  unfold ltP at x
  omega
theorem sortP_eq {ps qs : List (Int × Int)} (h : ps.Perm qs) : sortP ps = sortP qs := by
  refine sortP_of ((sortP_perm ps).trans h) ?_
  exact List.pairwise_mergeSort (le := leP) (fun a b c h1 h2 => by
    rw [leP_iff] at h1 h2 ⊢
    omega) (fun a b => by
    rw [Bool.or_eq_true, leP_iff, leP_iff]
    omega) ps
theorem toPs_tl : ∀ ps : List (Int × Int), toPs (tl ps) = some (ps.map fun p => PyData.tuple [.int p.1, .int p.2])
  | [] => by simp [toPs]
  | p :: r => by
    show toPs (.tup [.int p.1, .int p.2] :: tl r) = _
    unfold toPs
    rw [toPs_tl r]
    have e : toP (.tup [.int p.1, .int p.2]) = some (.tuple [.int p.1, .int p.2]) := by
      unfold toP
      rw [show ([Dt.int p.1, Dt.int p.2] : List Dt) = il [p.1, p.2] from rfl, toPs_il]
      rfl
    rw [e]
    rfl
theorem lay_tl : ∀ ps : List (Int × Int), PyData.canLayAll0 (ps.map fun p => PyData.tuple [.int p.1, .int p.2]) = true
  | [] => by rw [List.map_nil, PyData.canLayAll0]
  | p :: r => by
    rw [List.map_cons, PyData.canLayAll0, lay_tl r, PyData.canLay0, show ([PyData.int p.1, PyData.int p.2] : List PyData) = [p.1, p.2].map PyData.int from rfl, lay_il]
    rfl
theorem dep_tl : ∀ ps : List (Int × Int), PyData.depthAll (ps.map fun p => PyData.tuple [.int p.1, .int p.2]) ≤ 1
  | [] => by rw [List.map_nil, PyData.depthAll]; exact Nat.zero_le _
  | p :: r => by
    have h := dep_tl r
    rw [List.map_cons, PyData.depthAll, PyData.depth, show ([PyData.int p.1, PyData.int p.2] : List PyData) = [p.1, p.2].map PyData.int from rfl, dep_il]
    omega
theorem shp_tl (ps : List (Int × Int)) : SeqAt.shaped (.list (ps.map fun p => PyData.tuple [.int p.1, .int p.2])) = true := by
  have h := dep_tl ps
  unfold SeqAt.shaped
  rw [PyData.canLay0, lay_tl, PyData.depth, Bool.true_and]
  exact decide_eq_true (by omega)
theorem shp_pr (a b : Int) : SeqAt.shaped (.tuple [.int a, .int b]) = true := by
  unfold SeqAt.shaped
  rw [PyData.canLay0, show ([PyData.int a, PyData.int b] : List PyData) = [a, b].map PyData.int from rfl, lay_il, PyData.depth, dep_il]
  rfl
theorem eqv_pr (p q : Int × Int) : PyData.eqv (.tuple [.int p.1, .int p.2]) (.tuple [.int q.1, .int q.2]) = decide (p = q) := by
  rw [PyData.eqv, show ([PyData.int p.1, PyData.int p.2] : List PyData) = [p.1, p.2].map PyData.int from rfl, show ([PyData.int q.1, PyData.int q.2] : List PyData) = [q.1, q.2].map PyData.int from rfl, eqv_il]
  congr 1
  obtain ⟨a, b⟩ := p
  obtain ⟨c, d⟩ := q
  simp
theorem eqv_tl : ∀ ps qs : List (Int × Int), PyData.eqvAll (ps.map fun p => PyData.tuple [.int p.1, .int p.2]) (qs.map fun p => PyData.tuple [.int p.1, .int p.2]) = decide (ps = qs)
  | [], [] => by simp [PyData.eqvAll]
  | [], y :: s => by simp [PyData.eqvAll]
  | x :: r, [] => by simp [PyData.eqvAll]
  | x :: r, y :: s => by
    rw [List.map_cons, List.map_cons, PyData.eqvAll, eqv_tl r s, eqv_pr]
    by_cases h : x = y
    · subst h
      simp
    · simp [h]
theorem toP_tl (ps : List (Int × Int)) : toP (.lst (tl ps)) = some (.list (ps.map fun p => PyData.tuple [.int p.1, .int p.2])) := by
  unfold toP
  rw [toPs_tl]
  rfl
theorem toP_pr (a b : Int) : toP (.tup [.int a, .int b]) = some (.tuple [.int a, .int b]) := by
  unfold toP
  rw [show ([Dt.int a, Dt.int b] : List Dt) = il [a, b] from rfl, toPs_il]
  rfl
theorem dEqv_tl (ps qs : List (Int × Int)) : dEqv (.lst (tl ps)) (.lst (tl qs)) = .ok (decide (ps = qs)) := by
  unfold dEqv
  rw [toP_tl, toP_tl]
  show (if SeqAt.shaped (.list (ps.map fun p => PyData.tuple [.int p.1, .int p.2])) = true ∧ SeqAt.shaped (.list (qs.map fun p => PyData.tuple [.int p.1, .int p.2])) = true then Md.ok (PyData.eqv (.list (ps.map fun p => PyData.tuple [.int p.1, .int p.2])) (.list (qs.map fun p => PyData.tuple [.int p.1, .int p.2]))) else .bad) = _
  rw [if_pos ⟨shp_tl ps, shp_tl qs⟩, PyData.eqv, eqv_tl]
theorem dEq_tl (ps qs : List (Int × Int)) : dEq (.lst (tl ps)) (.lst (tl qs)) = .ok (.bl (decide (ps = qs))) := by
  unfold dEq
  rw [dEqv_tl]
  rfl
theorem dNe_tl (ps qs : List (Int × Int)) : dNe (.lst (tl ps)) (.lst (tl qs)) = .ok (.bl (!decide (ps = qs))) := by
  unfold dNe
  rw [dEqv_tl]
  rfl
theorem dNe_il (xs ys : List Int) : dNe (.lst (il xs)) (.lst (il ys)) = .ok (.bl (!decide (xs = ys))) := by
  unfold dNe
  rw [dEqv_il]
  rfl
theorem dNotIn_tl (a b : Int) (ps : List (Int × Int)) : dNotIn (.tup [.int a, .int b]) (.lst (tl ps)) = .ok (.bl (!decide ((a, b) ∈ ps))) := by
  have key : dInv (.tup [.int a, .int b]) (.lst (tl ps)) = .ok (decide ((a, b) ∈ ps)) := by
    unfold dInv
    rw [toP_pr]
    show (match toPs (tl ps) with
      | some ys => if SeqAt.shaped (.tuple [.int a, .int b]) = true ∧ SeqAt.shaped (.list ys) = true then Md.ok (ys.any fun z => PyData.eqv z (.tuple [.int a, .int b])) else .bad
      | none => .bad) = _
    rw [toPs_tl]
    show (if SeqAt.shaped (.tuple [.int a, .int b]) = true ∧ SeqAt.shaped (.list (ps.map fun p => PyData.tuple [.int p.1, .int p.2])) = true then Md.ok ((ps.map fun p => PyData.tuple [.int p.1, .int p.2]).any fun z => PyData.eqv z (.tuple [.int a, .int b])) else .bad) = _
    rw [if_pos ⟨shp_pr a b, shp_tl ps⟩]
    congr 1
    induction ps with
    | nil => rfl
    | cons p r ih =>
      rw [List.map_cons, List.any_cons, ih, eqv_pr p (a, b)]
      by_cases h : (a, b) = p
      · subst h
        simp
      · simp [h, Ne.symm h, fun z : p = (a, b) => h z.symm]
  unfold dNotIn
  rw [key]
  rfl
/-- how many of a list's things there can be -/
theorem nodup_le {α : Type} [DecidableEq α] : ∀ (l m : List α), l.Nodup → (∀ x ∈ l, x ∈ m) → l.length ≤ m.length
  | [], m, _, _ => Nat.zero_le _
  | x :: r, m, h, hs => by
    obtain ⟨a, b⟩ := List.nodup_cons.mp h
    have hx : x ∈ m := hs x List.mem_cons_self
    have q := nodup_le r (m.erase x) b fun y hy => (List.mem_erase_of_ne (fun e => a (by rw [← e]; exact hy))).mpr (hs y (List.mem_cons_of_mem _ hy))
    rw [List.length_erase_of_mem hx] at q
    have := List.length_pos_of_mem hx
    rw [List.length_cons]
    omega
/-- all pairs of points of twelve -/
def allP : List (Int × Int) := (nums 0 12).flatMap fun b => (nums 0 b.toNat).map fun a => (a, b)
theorem allP_len : allP.length = 66 := by decide +kernel
theorem mem_allP {p : Int × Int} (h : 0 ≤ p.1 ∧ p.1 < p.2 ∧ p.2 < 12) : p ∈ allP := by
  unfold allP
  refine List.mem_flatMap.mpr ⟨p.2, mem_nums.mpr (by omega), List.mem_map.mpr ⟨p.1, mem_nums.mpr (by omega), rfl⟩⟩
/-- the colours and ties of a web of n points -/
structure WebD (n : Nat) (cs : List Int) (ts : List (Int × Int)) : Prop where
  pos : 1 ≤ n
  top : n ≤ 12
  len : cs.length = n
  col : ∀ c ∈ cs, 0 ≤ c ∧ c < 10
  tie : ∀ p ∈ ts, 0 ≤ p.1 ∧ p.1 < p.2 ∧ p.2 < n
  ris : ts.Pairwise ltP
theorem few_ties {n : Nat} {ts : List (Int × Int)} (hn : n ≤ 12) (h : ∀ p ∈ ts, 0 ≤ p.1 ∧ p.1 < p.2 ∧ p.2 < n) (hd : ts.Nodup) : ts.length ≤ 66 := by
  have q := nodup_le ts allP hd fun p hp => mem_allP (by have := h p hp; omega)
  rw [allP_len] at q
  exact q

-- comprehensions
theorem lcGo_f {i : Nat} {mt : Fd → Md Bool} {me : Fd → Md Dt} {Δ : Fd} (p : Int → Bool) (g : Int → Dt) : ∀ xs : List Int, (∀ x ∈ xs, mt (Δ.set i (.sh (.int x))) = .ok (p x)) → (∀ x ∈ xs, p x = true → me (Δ.set i (.sh (.int x))) = .ok (g x)) → mLcGo (gsName i) mt me Δ (il xs) = .ok ((xs.filter p).map g)
  | [], _, _ => rfl
  | x :: r, h1, h2 => by
    have e := lcGo_f p g r (fun y hy => h1 y (List.mem_cons_of_mem _ hy)) (fun y hy => h2 y (List.mem_cons_of_mem _ hy))
    show ((mt (Δ.set i (.sh (.int x)))).bind fun b => if b = true then (me (Δ.set i (.sh (.int x)))).bind fun d => (mLcGo (gsName i) mt me Δ (il r)).bind fun ds => .ok (d :: ds) else mLcGo (gsName i) mt me Δ (il r)) = _
    rw [h1 x List.mem_cons_self, bind_ok, e]
    cases c : p x with
    | true =>
      rw [if_pos rfl, h2 x List.mem_cons_self c, List.filter_cons_of_pos c]
      rfl
    | false =>
      rw [if_neg Bool.false_ne_true, List.filter_cons_of_neg (by simp [c])]
theorem lcGo_m {i : Nat} {me : Fd → Md Dt} {Δ : Fd} (g : Int → Dt) : ∀ xs : List Int, (∀ x ∈ xs, me (Δ.set i (.sh (.int x))) = .ok (g x)) → mLcGo (gsName i) mYes me Δ (il xs) = .ok (xs.map g)
  | [], _ => rfl
  | x :: r, h => by
    have e := lcGo_m g r fun y hy => h y (List.mem_cons_of_mem _ hy)
    show ((mYes (Δ.set i (.sh (.int x)))).bind fun b => if b = true then (me (Δ.set i (.sh (.int x)))).bind fun d => (mLcGo (gsName i) mYes me Δ (il r)).bind fun ds => .ok (d :: ds) else mLcGo (gsName i) mYes me Δ (il r)) = _
    rw [h x List.mem_cons_self, e]
    rfl
abbrev gs2 (i j : Nat) : Dt → Fd → Md Fd := gsTup 2 (gsCons (gsName i) (gsCons (gsName j) gsNil))
theorem gs2_ok {i j : Nat} {a b : Dt} {Δ : Fd} : gs2 i j (.tup [a, b]) Δ = .ok ((Δ.set i (.sh a)).set j (.sh b)) := rfl
theorem lcGo_t {i j : Nat} {me : Fd → Md Dt} {Δ : Fd} (g : Int × Int → Dt) : ∀ ps : List (Int × Int), (∀ p ∈ ps, me ((Δ.set i (.sh (.int p.1))).set j (.sh (.int p.2))) = .ok (g p)) → mLcGo (gs2 i j) mYes me Δ (tl ps) = .ok (ps.map g)
  | [], _ => rfl
  | p :: r, h => by
    have e := lcGo_t (i := i) (j := j) g r fun y hy => h y (List.mem_cons_of_mem _ hy)
    show ((mYes ((Δ.set i (.sh (.int p.1))).set j (.sh (.int p.2)))).bind fun b => if b = true then (me ((Δ.set i (.sh (.int p.1))).set j (.sh (.int p.2)))).bind fun d => (mLcGo (gs2 i j) mYes me Δ (tl r)).bind fun ds => .ok (d :: ds) else mLcGo (gs2 i j) mYes me Δ (tl r)) = _
    rw [h p List.mem_cons_self, e]
    rfl
theorem tup2 {Δ : Fd} {ma mb : Fd → Md Dt} {a b : Dt} (h1 : ma Δ = .ok a) (h2 : mb Δ = .ok b) : mTup (mCons ma (mCons mb mNil)) Δ = .ok (.tup [a, b]) :=
  tup_ok (cons_ok h1 (cons_ok h2 nil_ok)) (by show 2 ≤ 16777216; omega)
theorem tup2C {Δ : Fd} {a b : Dt} : mTup (mCons (mC a) (mCons (mC b) mNil)) Δ = .ok (.tup [a, b]) := tup2 rfl rfl
-- _law_tied
theorem tied_ok (kind one other size number : Int) : ∃ b : Bool, M_law_tied [.int kind, .int one, .int other, .int size, .int number] = .ok (.bl b) := by
  have p2 : ∀ i : Int, dIC posOk (fun i j => .int (i % j)) (.int i) (.int 2) = .ok (.int (i % 2)) := fun i => pos_ok (by decide)
  have p4 : ∀ i : Int, dIC posOk (fun i j => .int (i % j)) (.int i) (.int 4) = .ok (.int (i % 4)) := fun i => pos_ok (by decide)
  have d2 : ∀ i : Int, dIC divOk (fun i j => .int (i / j)) (.int i) (.int 2) = .ok (.int (i / 2)) := fun i => div_ok (by decide) (by decide)
  have key : RtB (m_law_tied [.sh (.int kind), .sh (.int one), .sh (.int other), .sh (.int size), .sh (.int number), .un]) := by
    unfold m_law_tied
    obtain ⟨h, hh, c⟩ : ∃ h, h = (if size / 2 > 1 then size / 2 else 1) ∧ 0 < h := ⟨_, rfl, by split <;> omega⟩
    have ph : ∀ i : Int, dIC posOk (fun i j => .int (i % j)) (.int i) (.int h) = .ok (.int (i % h)) := fun i => pos_ok c
    simp only [mSeq, mIfS, mT, mBin, mVar, mOwn, mC, mU, mRet, mRetO, mAsg, mOrV, mAndV, mNotV, mAnd, mOr, mNot, mCons, mNil, mCB, mNext, bind_ok, ite_bind, dI, dEq_int, dNe_int, dEq_bl, dNe_bl, dLt, dGt, dLe, dGe, dMax, dMin, List.getElem?_cons_zero, List.getElem?_cons_succ, List.set_cons_zero, List.set_cons_succ, if_true, if_false, Bool.false_eq_true, Bool.true_eq_false, reduceIte, ite_true, ite_false, p2, p4, d2, ← hh, ph]
    repeat first
      | exact RtB.mk _
      | refine RtB.ite ?_ ?_
  obtain ⟨b, e⟩ := key
  exact ⟨b, def_rt e⟩
-- _law_uneven
def rings : List (Int × Int) := [(0, 1), (1, 2), (0, 2), (3, 4), (4, 5), (5, 6), (3, 6)]
def beyond (k : Int) : List (Int × Int) := ((nums 0 k.toNat).filter fun x => !decide ((x, k) ∈ rings)).map fun x => (x, k)
def unBody : Fd → Md Out := (mOwExt 2 (mLc (mIt1 (mCons (mVar 3) mNil)) (gsName 4) (mT (mBin dNotIn (mTup (mCons (mVar 4) (mCons (mVar 3) mNil))) (mVar 1))) (mTup (mCons (mVar 4) (mCons (mVar 3) mNil))) [4]))
theorem un_turn (c : Dt) (acc : List (Int × Int)) {k : Int} (h0 : 0 ≤ k) (h1 : k ≤ 1000) (ha : acc.length ≤ 10000) (s4 : Sd) :
    unBody [.sh c, .sh (.lst (tl rings)), .ow (tl acc), .sh (.int k), s4] = .ok (.nx [.sh c, .sh (.lst (tl rings)), .ow (tl (acc ++ beyond k)), .sh (.int k), s4]) := by
  obtain ⟨n, rfl⟩ := Int.eq_ofNat_of_zero_le h0
  have hn : n ≤ 1000 := by omega
  have e : (mLc (mIt1 (mCons (mVar 3) mNil)) (gsName 4) (mT (mBin dNotIn (mTup (mCons (mVar 4) (mCons (mVar 3) mNil))) (mVar 1))) (mTup (mCons (mVar 4) (mCons (mVar 3) mNil))) [4]) [.sh c, .sh (.lst (tl rings)), .ow (tl acc), .sh (.int n), s4] = .ok (.lst (tl (beyond n))) := by
    refine (lc_ok (ds := il (nums 0 n)) (it1_ok hn (cons_ok (var_ok rfl) nil_ok)) (by rw [il_len, nums_len]; omega) (lcGo_f (fun x => !decide ((x, (n : Int)) ∈ rings)) (fun x => .tup [.int x, .int n]) _ (fun x _ => ?_) (fun x _ _ => ?_))).trans ?_
    · exact t_ok ((bin_ok (tup2 (var_ok rfl) (var_ok rfl)) (var_ok rfl)).trans (dNotIn_tl ..))
    · exact tup2 (var_ok rfl) (var_ok rfl)
    · unfold beyond
      rw [Int.toNat_natCast]
      unfold tl
      rw [List.map_map]
      rfl
  have hb : (beyond n).length ≤ 1000 := by
    unfold beyond
    rw [List.length_map, Int.toNat_natCast]
    exact Nat.le_trans (List.length_filter_le _ _) (by rw [nums_len]; exact hn)
  unfold unBody mOwExt
  rw [e]
  have c1 : (tl acc).length + (tl (beyond n)).length ≤ 16777216 := by
    rw [tl_len, tl_len]
    omega
  have c2 : tl acc ++ tl (beyond n) = tl (acc ++ beyond n) := List.map_append.symm
  show (if (tl acc).length + (tl (beyond n)).length ≤ 16777216 then Md.ok (Out.nx [.sh c, .sh (.lst (tl rings)), .ow (tl acc ++ tl (beyond n)), .sh (.int n), s4]) else .bad) = _
  rw [if_pos c1, c2]
theorem beyond_few (k : Int) (h : k ≤ 100) : (beyond k).length ≤ 100 := by
  unfold beyond
  rw [List.length_map]
  exact Nat.le_trans (List.length_filter_le _ _) (by rw [nums_len]; omega)
theorem un_go (c : Dt) : ∀ (xs : List Int) (acc : List (Int × Int)) (s3 s4 : Sd), (∀ x ∈ xs, 0 ≤ x ∧ x ≤ 100) → acc.length + 100 * xs.length ≤ 10000 →
    ∃ s3', mForGo (gsName 3) unBody (il xs) [.sh c, .sh (.lst (tl rings)), .ow (tl acc), s3, s4] = .ok (.nx [.sh c, .sh (.lst (tl rings)), .ow (tl (acc ++ xs.flatMap beyond)), s3', s4])
  | [], acc, s3, s4, _, _ => ⟨s3, by rw [List.flatMap_nil, List.append_nil]; rfl⟩
  | x :: r, acc, s3, s4, h, hl => by
    have hx := h x List.mem_cons_self
    rw [List.length_cons] at hl
    have hb := beyond_few x hx.2
    obtain ⟨s3', e⟩ := un_go c r (acc ++ beyond x) (.sh (.int x)) s4 (fun y hy => h y (List.mem_cons_of_mem _ hy)) (by rw [List.length_append]; omega)
    refine ⟨s3', ?_⟩
    rw [List.flatMap_cons, ← List.append_assoc]
    exact (go_nx name_ok (un_turn c acc hx.1 (by omega) (by omega) s4)).trans e
def others : List (Int × Int) := (nums 0 7).flatMap beyond
def UnOk (E : List (Int × Int)) : Prop := (∀ p ∈ E, 0 ≤ p.1 ∧ p.1 < p.2 ∧ p.2 < 7) ∧ E.Nodup
theorem rings_ok : UnOk rings := by
  unfold UnOk
  decide +kernel
theorem others_ok : UnOk others := by
  unfold UnOk
  decide +kernel
theorem uneven_ok (c : Int) : ∃ E : List (Int × Int), M_law_uneven [.int c] = .ok (.lst (tl E)) ∧ UnOk E := by
  have e0 : (mAsg 1 (mLst (mCons (mTup (mCons (mC (.int 0)) (mCons (mC (.int 1)) mNil))) (mCons (mTup (mCons (mC (.int 1)) (mCons (mC (.int 2)) mNil))) (mCons (mTup (mCons (mC (.int 0)) (mCons (mC (.int 2)) mNil))) (mCons (mTup (mCons (mC (.int 3)) (mCons (mC (.int 4)) mNil))) (mCons (mTup (mCons (mC (.int 4)) (mCons (mC (.int 5)) mNil))) (mCons (mTup (mCons (mC (.int 5)) (mCons (mC (.int 6)) mNil))) (mCons (mTup (mCons (mC (.int 3)) (mCons (mC (.int 6)) mNil))) mNil))))))))) [.sh (.int c), .un, .un, .un, .un] = .ok (.nx [.sh (.int c), .sh (.lst (tl rings)), .un, .un, .un]) :=
    asg_ok (lst_ok (cons_ok tup2C (cons_ok tup2C (cons_ok tup2C (cons_ok tup2C (cons_ok tup2C (cons_ok tup2C (cons_ok tup2C nil_ok))))))) (by show 7 ≤ 16777216; omega))
  have w : (mT (mBin dEq (mBin (dIC posOk fun i j => .int (i % j)) (mVar 0) (mC (.int 2))) (mC (.int 0)))) [.sh (.int c), .sh (.lst (tl rings)), .un, .un, .un] = .ok (c % 2 == 0) :=
    t_ok ((bin_ok ((bin_ok (var_ok rfl) c_ok).trans (pos_ok (by decide))) c_ok).trans (dEq_int ..))
  have st : startD 5 [.int c] = [.sh (.int c), .un, .un, .un, .un] := rfl
  cases h : (c % 2 == 0) with
  | true =>
    rw [h] at w
    refine ⟨rings, ?_, rings_ok⟩
    unfold M_law_uneven
    refine def_rt ?_
    rw [st]
    unfold m_law_uneven
    refine (seq_nx e0).trans ?_
    exact seq_rt ((if_t w).trans (ret_ok (var_ok rfl)))
  | false =>
    rw [h] at w
    obtain ⟨s3, e⟩ := un_go (.int c) (nums 0 7) [] .un .un (fun x hx => by have := mem_nums.mp hx; omega) (by rw [nums_len]; show 0 + 100 * 7 ≤ 10000; omega)
    refine ⟨others, ?_, others_ok⟩
    unfold M_law_uneven
    refine def_rt ?_
    rw [st]
    unfold m_law_uneven
    refine (seq_nx e0).trans ?_
    refine (seq_nx ((if_f w).trans rfl)).trans ?_
    refine (seq_nx (asgO_ok (lst_ok nil_ok (Nat.zero_le _)))).trans ?_
    refine (seq_nx (Δ' := [.sh (.int c), .sh (.lst (tl rings)), .ow (tl others), s3, .un]) ((for_ok (it1_ok (n := 7) (by omega) (cons_ok c_ok nil_ok))).trans e)).trans ?_
    exact retO_ok rfl

-- _law_web_by
theorem bits_abs {z : Int} (h : Builtin.Int.intBits z ≤ 1048576) : z.natAbs < 2 ^ 1048576 := by
  unfold Builtin.Int.intBits at h
  by_cases q : z = 0
  · subst q
    exact Nat.pow_pos (by decide)
  · rw [if_neg (by simpa using q)] at h
    exact (Nat.log2_lt (by omega)).mp (by omega)
theorem getD_abs {ns : List Int} (hb : ∀ z ∈ ns, Builtin.Int.intBits z ≤ 1048576) (k : Nat) : (ns.getD k 0).natAbs < 2 ^ 1048576 := by
  by_cases h : k < ns.length
  · have e : ns.getD k 0 = ns[k] := by simp [List.getD, List.getElem?_eq_getElem h]
    rw [e]
    exact bits_abs (hb _ (List.getElem_mem h))
  · have e : ns.getD k 0 = 0 := by simp [List.getD, List.getElem?_eq_none (Nat.le_of_not_lt h)]
    rw [e]
    exact Nat.pow_pos (by decide)
theorem app_ok {i : Nat} {Δ : Fd} {ma : Fd → Md Dt} {ds : List Dt} {d : Dt} (h : Δ[i]? = some (.ow ds)) (hl : ds.length < 16777216) (ha : ma Δ = .ok d) : mApp i ma Δ = .ok (.nx (Δ.set i (.ow (ds ++ [d])))) := by
  unfold mApp
  rw [h]
  show (if ds.length < 16777216 then (ma Δ).bind fun d => Md.ok (Out.nx (Δ.set i (.ow (ds ++ [d])))) else .bad) = _
  rw [if_pos hl, ha]
  rfl
theorem it2_ok {Δ : Fd} {ma mb : Fd → Md Dt} {lo hi : Int} (h1 : ma Δ = .ok (.int lo)) (h2 : mb Δ = .ok (.int hi)) (a : 0 ≤ lo) (b : lo ≤ 1000) (c : 0 ≤ hi) (d : hi ≤ 1000) : mIt2 (mCons ma (mCons mb mNil)) Δ = .ok (il (nums lo (hi - lo).toNat)) := by
  have s : ∀ x : Int, 0 ≤ x → x ≤ 1000 → smallI x = true := fun x p q => by
    obtain ⟨n, rfl⟩ := Int.eq_ofNat_of_zero_le p
    exact sm_nat (by omega)
  unfold mIt2
  rw [cons_ok h1 (cons_ok h2 nil_ok), bind_ok]
  show (if smallI lo = true ∧ smallI hi = true then Md.ok (rng lo (hi - lo).toNat) else .bad) = _
  rw [if_pos ⟨s lo a b, s hi c d⟩, rng_nums]
theorem mul7 {k : Int} (h0 : 0 ≤ k) (h1 : k ≤ 1000) : dIC mulOk (fun i j => .int (i * j)) (.int 7) (.int k) = .ok (.int (7 * k)) :=
  dIC_ok (mul_small (small_nat (n := 8) (by decide) (by decide)) (small_nat (n := 1001) (by omega) (by decide)))
/-- two points, moved -/
def mvP (r : List Int) (p : Int × Int) : Int × Int :=
  (if r.getD p.2.toNat 0 < r.getD p.1.toNat 0 then r.getD p.2.toNat 0 else r.getD p.1.toNat 0, if r.getD p.2.toNat 0 > r.getD p.1.toNat 0 then r.getD p.2.toNat 0 else r.getD p.1.toNat 0)
theorem getD_at {xs : List Int} {i : Nat} (h : i < xs.length) : xs.getD i 0 = xs[i] := by
  rw [List.getD_eq_getElem?_getD, List.getElem?_eq_getElem h]
  rfl
theorem perm_at {r : List Int} {n : Nat} (h : r.Perm (nums 0 n)) {x : Int} (h0 : 0 ≤ x) (h1 : x < n) : 0 ≤ r.getD x.toNat 0 ∧ r.getD x.toNat 0 < n := by
  have hl : r.length = n := h.length_eq.trans (nums_len ..)
  have hx : x.toNat < r.length := by omega
  have hm : r.getD x.toNat 0 ∈ r := by
    rw [getD_at hx]
    exact List.getElem_mem _
  have := mem_nums.mp (h.mem_iff.mp hm)
  omega
theorem nums_nodup (n : Nat) : ∀ k, (nums k n).Nodup := by
  induction n with
  | zero => exact fun _ => List.nodup_nil
  | succ n ih =>
    intro k
    refine List.nodup_cons.mpr ⟨fun z => ?_, ih (k + 1)⟩
    have := mem_nums.mp z
    omega
theorem perm_inj {r : List Int} {n : Nat} (h : r.Perm (nums 0 n)) {x y : Int} (h0 : 0 ≤ x) (h1 : x < n) (h2 : 0 ≤ y) (h3 : y < n) (e : r.getD x.toNat 0 = r.getD y.toNat 0) : x = y := by
  have hl : r.length = n := h.length_eq.trans (nums_len ..)
  have hx : x.toNat < r.length := by omega
  have hy : y.toNat < r.length := by omega
  have nd : r.Nodup := h.nodup_iff.mpr (nums_nodup n 0)
  rw [getD_at hx, getD_at hy] at e
  have := (List.getElem_inj nd).mp e
  omega
theorem mvP_ok {r : List Int} {n : Nat} (h : r.Perm (nums 0 n)) {p : Int × Int} (hp : 0 ≤ p.1 ∧ p.1 < p.2 ∧ p.2 < n) : 0 ≤ (mvP r p).1 ∧ (mvP r p).1 < (mvP r p).2 ∧ (mvP r p).2 < n := by
  have a := perm_at h hp.1 (show p.1 < n by omega)
  have b := perm_at h (show 0 ≤ p.2 by omega) hp.2.2
  have ne : r.getD p.1.toNat 0 ≠ r.getD p.2.toNat 0 := fun e => by
    have := perm_inj h hp.1 (show p.1 < n by omega) (show 0 ≤ p.2 by omega) hp.2.2 e
    omega
  unfold mvP
  dsimp only
  split <;> split <;> omega
theorem mvP_inj {r : List Int} {n : Nat} (h : r.Perm (nums 0 n)) {p q : Int × Int} (hp : 0 ≤ p.1 ∧ p.1 < p.2 ∧ p.2 < n) (hq : 0 ≤ q.1 ∧ q.1 < q.2 ∧ q.2 < n) (e : mvP r p = mvP r q) : p = q := by
  have i11 := fun e => perm_inj h hp.1 (show p.1 < n by omega) hq.1 (show q.1 < n by omega) e
  have i12 := fun e => perm_inj h hp.1 (show p.1 < n by omega) (show 0 ≤ q.2 by omega) hq.2.2 e
  have i21 := fun e => perm_inj h (show 0 ≤ p.2 by omega) hp.2.2 hq.1 (show q.1 < n by omega) e
  have i22 := fun e => perm_inj h (show 0 ≤ p.2 by omega) hp.2.2 (show 0 ≤ q.2 by omega) hq.2.2 e
  have e1 := congrArg Prod.fst e
  have e2 := congrArg Prod.snd e
  unfold mvP at e1 e2
  dsimp only at e1 e2
  generalize r.getD p.1.toNat 0 = a at *
  generalize r.getD p.2.toNat 0 = b at *
  generalize r.getD q.1.toNat 0 = c at *
  generalize r.getD q.2.toNat 0 = d at *
  have k : (a = c ∧ b = d) ∨ (a = d ∧ b = c) := by
    split at e1 <;> split at e1 <;> split at e2 <;> split at e2 <;> omega
  rcases k with ⟨x, y⟩ | ⟨x, y⟩
  · exact Prod.ext (i11 x) (i22 y)
  · have u := i12 x
    have v := i21 y
    omega
theorem nodup_map {α β : Type} {f : α → β} : ∀ {l : List α}, l.Nodup → (∀ x ∈ l, ∀ y ∈ l, f x = f y → x = y) → (l.map f).Nodup
  | [], _, _ => List.nodup_nil
  | x :: r, h, hi => by
    obtain ⟨a, b⟩ := List.nodup_cons.mp h
    rw [List.map_cons]
    refine List.nodup_cons.mpr ⟨fun z => ?_, nodup_map b fun y hy z hz => hi y (List.mem_cons_of_mem _ hy) z (List.mem_cons_of_mem _ hz)⟩
    obtain ⟨y, hy, e⟩ := List.mem_map.mp z
    exact a (by rw [← hi y (List.mem_cons_of_mem _ hy) x List.mem_cons_self e]; exact hy)
theorem mvP_nodup {r : List Int} {n : Nat} (h : r.Perm (nums 0 n)) {E : List (Int × Int)} (hE : ∀ p ∈ E, 0 ≤ p.1 ∧ p.1 < p.2 ∧ p.2 < n) (hd : E.Nodup) : (E.map (mvP r)).Nodup :=
  nodup_map hd fun p hp q hq e => mvP_inj h (hE p hp) (hE q hq) e
/-- the pair that min and max make -/
theorem mm_e {i j k : Nat} {Δ : Fd} {r : List Int} {x y : Int} (h0 : Δ[i]? = some (.sh (.lst (il r)))) (h1 : Δ[j]? = some (.sh (.int x))) (h2 : Δ[k]? = some (.sh (.int y))) (hx : 0 ≤ x ∧ x < r.length) (hy : 0 ≤ y ∧ y < r.length) :
    (mTup (mCons (mCB dMin (mCons (mBin dIx (mVar i) (mVar j)) (mCons (mBin dIx (mVar i) (mVar k)) mNil))) (mCons (mCB dMax (mCons (mBin dIx (mVar i) (mVar j)) (mCons (mBin dIx (mVar i) (mVar k)) mNil))) mNil))) Δ = .ok (.tup [.int (mvP r (x, y)).1, .int (mvP r (x, y)).2]) := by
  have a : (mBin dIx (mVar i) (mVar j)) Δ = .ok (.int (r.getD x.toNat 0)) := (bin_ok (var_ok h0) (var_ok h1)).trans (at_il hx.1 hx.2)
  have b : (mBin dIx (mVar i) (mVar k)) Δ = .ok (.int (r.getD y.toNat 0)) := (bin_ok (var_ok h0) (var_ok h2)).trans (at_il hy.1 hy.2)
  refine tup2 ?_ ?_
  · unfold mCB
    rw [cons_ok a (cons_ok b nil_ok)]
    rfl
  · unfold mCB
    rw [cons_ok a (cons_ok b nil_ok)]
    rfl
abbrev wbF (ns : List Int) (most first n : Int) (r : List Int) (s5 s6 : Sd) (acc : List (Int × Int)) (kind : Int) (s9 : Sd) : Fd :=
  [.sh (.lsk (il ns)), .sh (.int most), .sh (.int first), .sh (.int n), .sh (.lst (il r)), s5, s6, .ow (tl acc), .sh (.int kind), s9, .un, .un, .un, .un]
def wbIn : Fd → Md Out := (mSeq (mAsg 9 (mCall 2 M_law_cell_at (mCons (mVar 0) (mCons (mBin (dI fun i j => .int (i + j)) (mC (.int 3)) (mBin (dIC posOk fun i j => .int (i % j)) (mBin (dI fun i j => .int (i + j)) (mBin (dIC mulOk fun i j => .int (i * j)) (mC (.int 7)) (mVar 5)) (mVar 6)) (mC (.int 20)))) mNil)))) (mIfS (mT (mBin dNe (mCall 5 M_law_tied (mCons (mVar 8) (mCons (mVar 5) (mCons (mVar 6) (mCons (mVar 3) (mCons (mCall 2 M_law_mixed (mCons (mVar 9) (mCons (mBin (dI fun i j => .int (i + j)) (mBin (dIC mulOk fun i j => .int (i * j)) (mC (.int 7)) (mVar 5)) (mVar 6)) mNil))) mNil)))))) (mBin dEq (mBin (dIC posOk fun i j => .int (i % j)) (mVar 9) (mC (.int 29))) (mC (.int 3))))) (mApp 7 (mTup (mCons (mCB dMin (mCons (mBin dIx (mVar 4) (mVar 5)) (mCons (mBin dIx (mVar 4) (mVar 6)) mNil))) (mCons (mCB dMax (mCons (mBin dIx (mVar 4) (mVar 5)) (mCons (mBin dIx (mVar 4) (mVar 6)) mNil))) mNil)))) mNext))
def wbMid : Fd → Md Out := (mFor (mIt2 (mCons (mBin (dI fun i j => .int (i + j)) (mVar 5) (mC (.int 1))) (mCons (mVar 3) mNil))) (gsName 6) wbIn)
theorem wb_turn {ns : List Int} (hb : ∀ k, (ns.getD k 0).natAbs < 2 ^ 1048576) (most first kind : Int) {n : Nat} (hn : n ≤ 12) {r : List Int} (hr : r.Perm (nums 0 n)) {one other : Int} (h0 : 0 ≤ one) (h1 : one < other) (h2 : other < n) (acc : List (Int × Int)) (ha : acc.length ≤ 10000) (s9 : Sd) :
    ∃ s9', wbIn (wbF ns most first n r (.sh (.int one)) (.sh (.int other)) acc kind s9) = .ok (.nx (wbF ns most first n r (.sh (.int one)) (.sh (.int other)) acc kind s9')) ∨
      wbIn (wbF ns most first n r (.sh (.int one)) (.sh (.int other)) acc kind s9) = .ok (.nx (wbF ns most first n r (.sh (.int one)) (.sh (.int other)) (acc ++ [mvP r (one, other)]) kind s9')) := by
  have hl : r.length = n := hr.length_eq.trans (nums_len ..)
  obtain ⟨j, hj⟩ : ∃ j : Nat, 3 + (7 * one + other) % 20 = (j : Int) := ⟨(3 + (7 * one + other) % 20).toNat, by omega⟩
  obtain ⟨b, hbb⟩ := tied_ok kind one other n (mixv (ns.getD j 0) (7 * one + other))
  have m7 := mul7 h0 (show one ≤ 1000 by omega)
  have p20 : ∀ i : Int, dIC posOk (fun i j => .int (i % j)) (.int i) (.int 20) = .ok (.int (i % 20)) := fun i => pos_ok (by decide)
  have p29 : ∀ i : Int, dIC posOk (fun i j => .int (i % j)) (.int i) (.int 29) = .ok (.int (i % 29)) := fun i => pos_ok (by decide)
  have ix : (mBin (dI fun i j => .int (i + j)) (mC (.int 3)) (mBin (dIC posOk fun i j => .int (i % j)) (mBin (dI fun i j => .int (i + j)) (mBin (dIC mulOk fun i j => .int (i * j)) (mC (.int 7)) (mVar 5)) (mVar 6)) (mC (.int 20)))) (wbF ns most first n r (.sh (.int one)) (.sh (.int other)) acc kind s9) = .ok (.int j) := by
    rw [← hj]
    simp only [mSeq, mIfS, mT, mBin, mVar, mOwn, mC, mU, mRet, mRetO, mAsg, mOrV, mAndV, mNotV, mAnd, mOr, mNot, mCons, mNil, mCB, mNext, bind_ok, ite_bind, dI, dEq_int, dNe_int, dEq_bl, dNe_bl, dLt, dGt, dLe, dGe, dMax, dMin, List.getElem?_cons_zero, List.getElem?_cons_succ, List.set_cons_zero, List.set_cons_succ, if_true, if_false, Bool.false_eq_true, Bool.true_eq_false, reduceIte, ite_true, ite_false, m7, p20]
  have e1 : (mAsg 9 (mCall 2 M_law_cell_at (mCons (mVar 0) (mCons (mBin (dI fun i j => .int (i + j)) (mC (.int 3)) (mBin (dIC posOk fun i j => .int (i % j)) (mBin (dI fun i j => .int (i + j)) (mBin (dIC mulOk fun i j => .int (i * j)) (mC (.int 7)) (mVar 5)) (mVar 6)) (mC (.int 20)))) mNil)))) (wbF ns most first n r (.sh (.int one)) (.sh (.int other)) acc kind s9) = .ok (.nx (wbF ns most first n r (.sh (.int one)) (.sh (.int other)) acc kind (.sh (.int (ns.getD j 0))))) :=
    asg_ok ((call_ok (ds := [.lsk (il ns), .int j]) (cons_ok (var_ok rfl) (cons_ok ix nil_ok)) rfl).trans (cell_at ns j))
  have mx : (mCall 2 M_law_mixed (mCons (mVar 9) (mCons (mBin (dI fun i j => .int (i + j)) (mBin (dIC mulOk fun i j => .int (i * j)) (mC (.int 7)) (mVar 5)) (mVar 6)) mNil))) (wbF ns most first n r (.sh (.int one)) (.sh (.int other)) acc kind (.sh (.int (ns.getD j 0)))) = .ok (.int (mixv (ns.getD j 0) (7 * one + other))) :=
    (call_ok (ds := [.int (ns.getD j 0), .int (7 * one + other)]) (cons_ok (var_ok rfl) (cons_ok (by simp only [mSeq, mIfS, mT, mBin, mVar, mOwn, mC, mU, mRet, mRetO, mAsg, mOrV, mAndV, mNotV, mAnd, mOr, mNot, mCons, mNil, mCB, mNext, bind_ok, ite_bind, dI, dEq_int, dNe_int, dEq_bl, dNe_bl, dLt, dGt, dLe, dGe, dMax, dMin, List.getElem?_cons_zero, List.getElem?_cons_succ, List.set_cons_zero, List.set_cons_succ, if_true, if_false, Bool.false_eq_true, Bool.true_eq_false, reduceIte, ite_true, ite_false, m7]) nil_ok)) rfl).trans (mixed (hb j) (by omega) (by omega))
  have tc : (mCall 5 M_law_tied (mCons (mVar 8) (mCons (mVar 5) (mCons (mVar 6) (mCons (mVar 3) (mCons (mCall 2 M_law_mixed (mCons (mVar 9) (mCons (mBin (dI fun i j => .int (i + j)) (mBin (dIC mulOk fun i j => .int (i * j)) (mC (.int 7)) (mVar 5)) (mVar 6)) mNil))) mNil)))))) (wbF ns most first n r (.sh (.int one)) (.sh (.int other)) acc kind (.sh (.int (ns.getD j 0)))) = .ok (.bl b) :=
    (call_ok (cons_ok (var_ok rfl) (cons_ok (var_ok rfl) (cons_ok (var_ok rfl) (cons_ok (var_ok rfl) (cons_ok mx nil_ok))))) rfl).trans hbb
  have rt : (mBin dEq (mBin (dIC posOk fun i j => .int (i % j)) (mVar 9) (mC (.int 29))) (mC (.int 3))) (wbF ns most first n r (.sh (.int one)) (.sh (.int other)) acc kind (.sh (.int (ns.getD j 0)))) = .ok (.bl (ns.getD j 0 % 29 == 3)) := by
    simp only [mSeq, mIfS, mT, mBin, mVar, mOwn, mC, mU, mRet, mRetO, mAsg, mOrV, mAndV, mNotV, mAnd, mOr, mNot, mCons, mNil, mCB, mNext, bind_ok, ite_bind, dI, dEq_int, dNe_int, dEq_bl, dNe_bl, dLt, dGt, dLe, dGe, dMax, dMin, List.getElem?_cons_zero, List.getElem?_cons_succ, List.set_cons_zero, List.set_cons_succ, if_true, if_false, Bool.false_eq_true, Bool.true_eq_false, reduceIte, ite_true, ite_false, p29]
  have cond := t_ok ((bin_ok tc rt).trans (dNe_bl ..))
  refine ⟨.sh (.int (ns.getD j 0)), ?_⟩
  unfold wbIn
  cases c : (!(b == (ns.getD j 0 % 29 == 3))) with
  | false =>
    rw [c] at cond
    exact .inl ((seq_nx e1).trans ((if_f cond).trans rfl))
  | true =>
    rw [c] at cond
    refine .inr ((seq_nx e1).trans ((if_t cond).trans ((app_ok (ds := tl acc) rfl (by rw [tl_len]; omega) (mm_e rfl rfl rfl ⟨h0, by omega⟩ ⟨by omega, by omega⟩)).trans ?_)))
    show Md.ok (Out.nx (wbF ns most first n r (.sh (.int one)) (.sh (.int other)) acc kind (.sh (.int (ns.getD j 0))) |>.set 7 (.ow (tl acc ++ [.tup [.int (mvP r (one, other)).1, .int (mvP r (one, other)).2]])))) = _
    rw [show tl acc ++ [.tup [.int (mvP r (one, other)).1, .int (mvP r (one, other)).2]] = tl (acc ++ [mvP r (one, other)]) by unfold tl; rw [List.map_append]; rfl]
    rfl
theorem wb_inner {ns : List Int} (hb : ∀ k, (ns.getD k 0).natAbs < 2 ^ 1048576) (most first kind : Int) {n : Nat} (hn : n ≤ 12) {r : List Int} (hr : r.Perm (nums 0 n)) {one : Int} (h0 : 0 ≤ one) : ∀ (m : Nat) (k : Int) (acc : List (Int × Int)) (s6 s9 : Sd), (m : Int) = n - k → one < k → acc.length + m ≤ 10000 →
    ∃ (E : List (Int × Int)) (s6' s9' : Sd), mForGo (gsName 6) wbIn (il (nums k m)) (wbF ns most first n r (.sh (.int one)) s6 acc kind s9) = .ok (.nx (wbF ns most first n r (.sh (.int one)) s6' (acc ++ E.map (mvP r)) kind s9')) ∧ (∀ p ∈ E, p.1 = one ∧ k ≤ p.2 ∧ p.2 < n) ∧ E.Nodup ∧ E.length ≤ m := by
  intro m
  induction m with
  | zero =>
    intro k acc s6 s9 _ _ _
    exact ⟨[], s6, s9, by rw [List.map_nil, List.append_nil]; rfl, fun p z => (nomatch z), List.nodup_nil, Nat.le_refl _⟩
  | succ m ih =>
    intro k acc s6 s9 h1 h2 h3
    obtain ⟨s9', e | e⟩ := wb_turn hb most first kind hn hr h0 h2 (show k < n by omega) acc (by omega) s9
    · obtain ⟨E, s6', s9'', e2, a, b, c⟩ := ih (k + 1) acc (.sh (.int k)) s9' (by omega) (by omega) (by omega)
      exact ⟨E, s6', s9'', (go_nx name_ok e).trans e2, fun p hp => ⟨(a p hp).1, by have := (a p hp).2.1; omega, (a p hp).2.2⟩, b, by omega⟩
    · obtain ⟨E, s6', s9'', e2, a, b, c⟩ := ih (k + 1) (acc ++ [mvP r (one, k)]) (.sh (.int k)) s9' (by omega) (by omega) (by rw [List.length_append, List.length_singleton]; omega)
      refine ⟨(one, k) :: E, s6', s9'', (go_nx name_ok e).trans ?_, fun p hp => ?_, List.nodup_cons.mpr ⟨fun z => ?_, b⟩, by rw [List.length_cons]; omega⟩
      · rw [List.map_cons, show acc ++ mvP r (one, k) :: E.map (mvP r) = acc ++ [mvP r (one, k)] ++ E.map (mvP r) by rw [List.append_assoc]; rfl]
        exact e2
      · rcases List.mem_cons.mp hp with z | z
        · subst z
          exact ⟨rfl, Int.le_refl _, by show k < n; omega⟩
        · exact ⟨(a p z).1, by have := (a p z).2.1; omega, (a p z).2.2⟩
      · have := (a _ z).2.1
        exact absurd this (by show ¬ (k + 1 ≤ k); omega)
theorem wb_outer {ns : List Int} (hb : ∀ k, (ns.getD k 0).natAbs < 2 ^ 1048576) (most first kind : Int) {n : Nat} (hn : n ≤ 12) {r : List Int} (hr : r.Perm (nums 0 n)) : ∀ (m : Nat) (k : Int) (acc : List (Int × Int)) (s5 s6 s9 : Sd), (m : Int) = n - k → 0 ≤ k → acc.length + 12 * m ≤ 10000 →
    ∃ (E : List (Int × Int)) (s5' s6' s9' : Sd), mForGo (gsName 5) wbMid (il (nums k m)) (wbF ns most first n r s5 s6 acc kind s9) = .ok (.nx (wbF ns most first n r s5' s6' (acc ++ E.map (mvP r)) kind s9')) ∧ (∀ p ∈ E, k ≤ p.1 ∧ p.1 < p.2 ∧ p.2 < n) ∧ E.Nodup := by
  intro m
  induction m with
  | zero =>
    intro k acc s5 s6 s9 _ _ _
    exact ⟨[], s5, s6, s9, by rw [List.map_nil, List.append_nil]; rfl, fun p z => (nomatch z), List.nodup_nil⟩
  | succ m ih =>
    intro k acc s5 s6 s9 h1 h2 h3
    obtain ⟨E1, s6', s9', e1, a1, b1, c1⟩ := wb_inner hb most first kind hn hr h2 ((n : Int) - (k + 1)).toNat (k + 1) acc s6 s9 (by omega) (by omega) (by omega)
    have e0 : wbMid (wbF ns most first n r (.sh (.int k)) s6 acc kind s9) = .ok (.nx (wbF ns most first n r (.sh (.int k)) s6' (acc ++ E1.map (mvP r)) kind s9')) := by
      unfold wbMid
      refine (for_ok (it2_ok (lo := k + 1) (hi := n) (by simp only [mSeq, mIfS, mT, mBin, mVar, mOwn, mC, mU, mRet, mRetO, mAsg, mOrV, mAndV, mNotV, mAnd, mOr, mNot, mCons, mNil, mCB, mNext, bind_ok, ite_bind, dI, dEq_int, dNe_int, dEq_bl, dNe_bl, dLt, dGt, dLe, dGe, dMax, dMin, List.getElem?_cons_zero, List.getElem?_cons_succ, List.set_cons_zero, List.set_cons_succ, if_true, if_false, Bool.false_eq_true, Bool.true_eq_false, reduceIte, ite_true, ite_false]) (var_ok rfl) (by omega) (by omega) (by omega) (by omega))).trans e1
    obtain ⟨E2, s5', s6'', s9'', e2, a2, b2⟩ := ih (k + 1) (acc ++ E1.map (mvP r)) (.sh (.int k)) s6' s9' (by omega) (by omega) (by rw [List.length_append, List.length_map]; omega)
    refine ⟨E1 ++ E2, s5', s6'', s9'', (go_nx name_ok e0).trans ?_, fun p hp => ?_, List.nodup_append.mpr ⟨b1, b2, fun p h1 q h2 e => ?_⟩⟩
    · rw [List.map_append, ← List.append_assoc]
      exact e2
    · rcases List.mem_append.mp hp with z | z
      · have := a1 p z
        omega
      · have := a2 p z
        omega
    · subst e
      have x := (a1 p h1).1
      have y := (a2 p h2).1
      omega

-- _law_web_by, whole
theorem rep_ok (c : Dt) {k : Nat} (hk : k ≤ 1000) : dRep (.lst [c]) (.int k) = .ok (.lst (List.replicate k c)) := by
  have cond : -(2 ^ 63) ≤ (k : Int) ∧ (k : Int) < 2 ^ 63 ∧ [c].length * (k : Int).toNat ≤ 16777216 := by
    refine ⟨by omega, by omega, ?_⟩
    show 1 * (k : Int).toNat ≤ 16777216
    omega
  unfold dRep
  refine (if_pos cond).trans ?_
  rw [Int.toNat_natCast]
  congr 2
  clear cond hk
  induction k with
  | zero => rfl
  | succ k ih => rw [List.replicate_succ, List.flatten_cons, ih]; rfl
theorem mM_ok {p : Dt → Bool} {f : Dt → Dt → Md Dt} {ma mb : Fd → Md Dt} {Δ : Fd} {a b : Dt} (h1 : ma Δ = .ok a) (hp : p a = true) (h2 : mb Δ = .ok b) : mM p f ma mb Δ = f a b := by
  unfold mM
  rw [h1, bind_ok, if_pos hp, h2]
  rfl
theorem isInts_il (xs : List Int) : isInts (.lst (il xs)) = true := by
  show (toInts (il xs)).isSome = true
  rw [toInts_il]
  rfl
theorem idx_lt {xs : List Int} {x : Int} (h : x ∈ xs) : xs.idxOf x < xs.length := List.idxOf_lt_length_of_mem h
theorem index_il {xs : List Int} {x : Int} (h : x ∈ xs) : dIndex (.lst (il xs)) (.int x) = .ok (.int (xs.idxOf x : Nat)) := by
  unfold dIndex
  simp only [toInts_il]
  rw [if_pos (idx_lt h)]
/-- colours, moved -/
def movC (cs r : List Int) (n : Nat) : List Int := (nums 0 n).map fun x => cs.getD (r.idxOf x) 0
theorem movC_len (cs r : List Int) (n : Nat) : (movC cs r n).length = n := by
  unfold movC
  rw [List.length_map, nums_len]
theorem movC_ok {cs r : List Int} {n : Nat} (hr : r.Perm (nums 0 n)) (hl : cs.length = n) (hc : ∀ c ∈ cs, 0 ≤ c ∧ c < 10) : ∀ c ∈ movC cs r n, 0 ≤ c ∧ c < 10 := by
  intro c h
  obtain ⟨x, hx, e⟩ := List.mem_map.mp h
  have q : r.idxOf x < cs.length := by
    rw [hl, ← nums_len n 0, ← hr.length_eq]
    exact idx_lt (hr.mem_iff.mpr hx)
  rw [← e, getD_at q]
  exact hc _ (List.getElem_mem q)
/-- the comprehension that moves colours -/
theorem movC_e {Δ : Fd} {cs r : List Int} {n i j k : Nat} {sz : Fd → Md Dt} {vs : List Nat} (hn : n ≤ 1000) (hr : r.Perm (nums 0 n)) (hl : cs.length = n) (hz : sz Δ = .ok (.int n))
    (h1 : ∀ x : Int, ((wipeD Δ vs).set k (.sh (.int x)))[i]? = some (.sh (.lst (il cs)))) (h2 : ∀ x : Int, ((wipeD Δ vs).set k (.sh (.int x)))[j]? = some (.sh (.lst (il r)))) (h3 : ∀ x : Int, ((wipeD Δ vs).set k (.sh (.int x)))[k]? = some (.sh (.int x))) :
    (mLc (mIt1 (mCons sz mNil)) (gsName k) mYes (mBin dIx (mVar i) (mM isInts dIndex (mVar j) (mVar k))) vs) Δ = .ok (.lst (il (movC cs r n))) := by
  refine lc_ok (ds := il (nums 0 n)) (it1_ok hn (cons_ok hz nil_ok)) (by rw [il_len, nums_len]; omega) ?_
  refine lcGo_il (fun x => cs.getD (r.idxOf x) 0) _ fun x hx => ?_
  have hm := hr.mem_iff.mpr hx
  have q : r.idxOf x < cs.length := by
    rw [hl, ← nums_len n 0, ← hr.length_eq]
    exact idx_lt hm
  refine (bin_ok (var_ok (h1 x)) ((mM_ok (var_ok (h2 x)) (isInts_il r) (var_ok (h3 x))).trans (index_il hm))).trans ((at_il (by omega) (by omega)).trans ?_)
  rw [Int.toNat_natCast]
theorem sorted_ok {n : Nat} {E : List (Int × Int)} (hE : ∀ p ∈ E, 0 ≤ p.1 ∧ p.1 < p.2 ∧ p.2 < n) (hd : E.Nodup) : (∀ p ∈ sortP E, 0 ≤ p.1 ∧ p.1 < p.2 ∧ p.2 < n) ∧ (sortP E).Pairwise ltP :=
  ⟨fun p hp => hE p ((sortP_perm E).mem_iff.mp hp), sortP_lt hd⟩
/-- the comprehension that moves ties -/
theorem movT_e {Δ : Fd} {r : List Int} {E : List (Int × Int)} {n i j k : Nat} {me : Fd → Md Dt} {vs : List Nat} (hr : r.Perm (nums 0 n)) (hE : ∀ p ∈ E, 0 ≤ p.1 ∧ p.1 < p.2 ∧ p.2 < n) (hl : E.length ≤ 10000) (hm : me Δ = .ok (.lst (tl E)))
    (h0 : ∀ x y : Int, (((wipeD Δ vs).set j (.sh (.int x))).set k (.sh (.int y)))[i]? = some (.sh (.lst (il r)))) (h1 : ∀ x y : Int, (((wipeD Δ vs).set j (.sh (.int x))).set k (.sh (.int y)))[j]? = some (.sh (.int x))) (h2 : ∀ x y : Int, (((wipeD Δ vs).set j (.sh (.int x))).set k (.sh (.int y)))[k]? = some (.sh (.int y))) :
    (mLc (mItL me) (gs2 j k) mYes (mTup (mCons (mCB dMin (mCons (mBin dIx (mVar i) (mVar j)) (mCons (mBin dIx (mVar i) (mVar k)) mNil))) (mCons (mCB dMax (mCons (mBin dIx (mVar i) (mVar j)) (mCons (mBin dIx (mVar i) (mVar k)) mNil))) mNil))) vs) Δ = .ok (.lst (tl (E.map (mvP r)))) := by
  have hl2 : r.length = n := hr.length_eq.trans (nums_len ..)
  refine (lc_ok (ds := tl E) ?_ (by rw [tl_len]; omega) (lcGo_t (fun p => .tup [.int (mvP r p).1, .int (mvP r p).2]) _ fun p hp => ?_)).trans ?_
  · unfold mItL
    rw [hm]
    rfl
  · have q := hE p hp
    exact mm_e (h0 _ _) (h1 _ _) (h2 _ _) ⟨q.1, by omega⟩ ⟨by omega, by omega⟩
  · unfold tl
    rw [List.map_map]
    rfl
theorem web_by_ok {ns : List Int} (hb : ∀ k, (ns.getD k 0).natAbs < 2 ^ 1048576) {most : Nat} (h1 : 1 ≤ most) (h2 : most ≤ 12) : ∃ (n : Nat) (cs : List Int) (ts : List (Int × Int)), WebD n cs ts ∧ n ≤ most ∧ M_law_web_by [.lsk (il ns), .int most] = .ok (.tup [.lst (il cs), .lst (tl ts)]) := by
  have st : startD 14 [.lsk (il ns), .int (most : Int)] = [.sh (.lsk (il ns)), .sh (.int most), .un, .un, .un, .un, .un, .un, .un, .un, .un, .un, .un, .un] := rfl
  generalize hf : ns.getD 0 0 = first
  have pm : ∀ i : Int, dIC posOk (fun i j => .int (i % j)) (.int i) (.int most) = .ok (.int (i % most)) := fun i => pos_ok (by omega)
  have dm : ∀ i : Int, dIC divOk (fun i j => .int (i / j)) (.int i) (.int most) = .ok (.int (i / most)) := fun i => div_ok (by omega) (by omega)
  have p5 : ∀ i : Int, dIC posOk (fun i j => .int (i % j)) (.int i) (.int 5) = .ok (.int (i % 5)) := fun i => pos_ok (by decide)
  have p3 : ∀ i : Int, dIC posOk (fun i j => .int (i % j)) (.int i) (.int 3) = .ok (.int (i % 3)) := fun i => pos_ok (by decide)
  have p6 : ∀ i : Int, dIC posOk (fun i j => .int (i % j)) (.int i) (.int 6) = .ok (.int (i % 6)) := fun i => pos_ok (by decide)
  have p9 : ∀ i : Int, dIC posOk (fun i j => .int (i % j)) (.int i) (.int 9) = .ok (.int (i % 9)) := fun i => pos_ok (by decide)
  have p10 : ∀ i : Int, dIC posOk (fun i j => .int (i % j)) (.int i) (.int 10) = .ok (.int (i % 10)) := fun i => pos_ok (by decide)
  have d7 : ∀ i : Int, dIC divOk (fun i j => .int (i / j)) (.int i) (.int 7) = .ok (.int (i / 7)) := fun i => div_ok (by decide) (by decide)
  have d9 : ∀ i : Int, dIC divOk (fun i j => .int (i / j)) (.int i) (.int 9) = .ok (.int (i / 9)) := fun i => div_ok (by decide) (by decide)
  have d35 : ∀ i : Int, dIC divOk (fun i j => .int (i / j)) (.int i) (.int 35) = .ok (.int (i / 35)) := fun i => div_ok (by decide) (by decide)
  have d70 : ∀ i : Int, dIC divOk (fun i j => .int (i / j)) (.int i) (.int 70) = .ok (.int (i / 70)) := fun i => div_ok (by decide) (by decide)
  have r0 := Int.emod_nonneg first (show (most : Int) ≠ 0 by omega)
  have r1 := Int.emod_lt_of_pos first (show (0 : Int) < most by omega)
  obtain ⟨n, hn⟩ : ∃ n : Nat, 1 + first % most = (n : Int) := ⟨(1 + first % most).toNat, by omega⟩
  have n1 : 1 ≤ n := by omega
  have n2 : n ≤ most := by omega
  unfold M_law_web_by
  have rowE : ∀ {Δ : Fd} {k : Nat} {sz : Fd → Md Dt}, k ≤ 1000 → Δ[0]? = some (.sh (.lsk (il ns))) → sz Δ = .ok (.int k) → ∃ r : List Int, r.Perm (nums 0 k) ∧ (mCall 2 M_law_row (mCons sz (mCons (mCall 2 M_law_mixed (mCons (mCall 2 M_law_cell_at (mCons (mVar 0) (mCons (mC (.int 1)) mNil))) (mCons (mC (.int 1)) mNil))) mNil))) Δ = .ok (.lst (il r)) := by
    intro Δ k sz hk h0 hz
    obtain ⟨r, a, e⟩ := row_is (n := k) (mixv (ns.getD 1 0) 1) hk
    refine ⟨r, a, ?_⟩
    have c1 : (mCall 2 M_law_cell_at (mCons (mVar 0) (mCons (mC (.int 1)) mNil))) Δ = .ok (.int (ns.getD 1 0)) := (call_ok (ds := [.lsk (il ns), .int (1 : Nat)]) (cons_ok (var_ok h0) (cons_ok c_ok nil_ok)) rfl).trans (cell_at ns 1)
    have c2 : (mCall 2 M_law_mixed (mCons (mCall 2 M_law_cell_at (mCons (mVar 0) (mCons (mC (.int 1)) mNil))) (mCons (mC (.int 1)) mNil))) Δ = .ok (.int (mixv (ns.getD 1 0) 1)) := (call_ok (cons_ok c1 (cons_ok c_ok nil_ok)) rfl).trans (mixed (hb 1) (by omega) (by omega))
    exact (call_ok (cons_ok hz (cons_ok c2 nil_ok)) rfl).trans e
  have A2 : (mAsg 2 (mCall 2 M_law_cell_at (mCons (mVar 0) (mCons (mC (.int 0)) mNil)))) [.sh (.lsk (il ns)), .sh (.int most), .un, .un, .un, .un, .un, .un, .un, .un, .un, .un, .un, .un] = .ok (.nx [.sh (.lsk (il ns)), .sh (.int most), .sh (.int first), .un, .un, .un, .un, .un, .un, .un, .un, .un, .un, .un]) :=
    asg_ok ((call_ok (ds := [.lsk (il ns), .int (0 : Nat)]) (cons_ok (var_ok rfl) (cons_ok c_ok nil_ok)) rfl).trans ((cell_at ns 0).trans (by rw [hf])))
  have A3 : (mAsg 3 (mBin (dI fun i j => .int (i + j)) (mC (.int 1)) (mBin (dIC posOk fun i j => .int (i % j)) (mVar 2) (mVar 1)))) [.sh (.lsk (il ns)), .sh (.int most), .sh (.int first), .un, .un, .un, .un, .un, .un, .un, .un, .un, .un, .un] = .ok (.nx [.sh (.lsk (il ns)), .sh (.int most), .sh (.int first), .sh (.int n), .un, .un, .un, .un, .un, .un, .un, .un, .un, .un]) := by
    rw [← hn]
    simp only [mSeq, mIfS, mT, mBin, mVar, mOwn, mC, mU, mRet, mRetO, mAsg, mOrV, mAndV, mNotV, mAnd, mOr, mNot, mCons, mNil, mCB, mNext, bind_ok, ite_bind, dI, dEq_int, dNe_int, dEq_bl, dNe_bl, dLt, dGt, dLe, dGe, dMax, dMin, List.getElem?_cons_zero, List.getElem?_cons_succ, List.set_cons_zero, List.set_cons_succ, if_true, if_false, Bool.false_eq_true, Bool.true_eq_false, reduceIte, ite_true, ite_false, pm]
  have W1 : (mT (mBin dGt (mVar 1) (mC (.int 6)))) [.sh (.lsk (il ns)), .sh (.int most), .sh (.int first), .sh (.int n), .un, .un, .un, .un, .un, .un, .un, .un, .un, .un] = .ok (decide (6 < (most : Int))) := by simp only [mSeq, mIfS, mT, mBin, mVar, mOwn, mC, mU, mRet, mRetO, mAsg, mOrV, mAndV, mNotV, mAnd, mOr, mNot, mCons, mNil, mCB, mNext, bind_ok, ite_bind, dI, dEq_int, dNe_int, dEq_bl, dNe_bl, dLt, dGt, dLe, dGe, dMax, dMin, List.getElem?_cons_zero, List.getElem?_cons_succ, List.set_cons_zero, List.set_cons_succ, if_true, if_false, Bool.false_eq_true, Bool.true_eq_false, reduceIte, ite_true, ite_false]
  have W2 : (mT (mBin dEq (mBin (dIC posOk fun i j => .int (i % j)) (mBin (dIC divOk fun i j => .int (i / j)) (mVar 2) (mC (.int 7))) (mC (.int 5))) (mC (.int 2)))) [.sh (.lsk (il ns)), .sh (.int most), .sh (.int first), .sh (.int n), .un, .un, .un, .un, .un, .un, .un, .un, .un, .un] = .ok (first / 7 % 5 == 2) := by simp only [mSeq, mIfS, mT, mBin, mVar, mOwn, mC, mU, mRet, mRetO, mAsg, mOrV, mAndV, mNotV, mAnd, mOr, mNot, mCons, mNil, mCB, mNext, bind_ok, ite_bind, dI, dEq_int, dNe_int, dEq_bl, dNe_bl, dLt, dGt, dLe, dGe, dMax, dMin, List.getElem?_cons_zero, List.getElem?_cons_succ, List.set_cons_zero, List.set_cons_succ, if_true, if_false, Bool.false_eq_true, Bool.true_eq_false, reduceIte, ite_true, ite_false, d7, p5]
  by_cases cc : 6 < (most : Int) ∧ (first / 7 % 5 == 2) = true
  · -- rings
    rw [decide_eq_true cc.1] at W1
    rw [cc.2] at W2
    obtain ⟨r, hr, er⟩ := rowE (Δ := [.sh (.lsk (il ns)), .sh (.int most), .sh (.int first), .sh (.int n), .un, .un, .un, .un, .un, .un, .un, .un, .un, .un]) (k := 7) (sz := mC (.int 7)) (by omega) rfl rfl
    obtain ⟨E, eE, hE, hd⟩ := uneven_ok (first / 35)
    have few : E.length ≤ 66 := few_ties (n := 7) (by omega) hE hd
    have hE2 : ∀ p ∈ E.map (mvP r), 0 ≤ p.1 ∧ p.1 < p.2 ∧ p.2 < (7 : Nat) := fun p hp => by
      obtain ⟨q, hq, e⟩ := List.mem_map.mp hp
      rw [← e]
      exact mvP_ok hr (hE q hq)
    have so := sorted_ok hE2 (mvP_nodup hr hE hd)
    refine ⟨7, List.replicate 7 (first / 70 % 10), sortP (E.map (mvP r)), ⟨by omega, by omega, List.length_replicate .., fun c hc => ?_, so.1, so.2⟩, by omega, ?_⟩
    · rw [(List.mem_replicate.mp hc).2]
      omega
    refine def_rt ?_
    rw [st]
    unfold m_law_web_by
    refine (seq_nx A2).trans ?_
    refine (seq_nx A3).trans ?_
    refine seq_rt ((if_t ((and_t W1).trans W2)).trans ?_)
    refine (seq_nx (asg_ok er)).trans ?_
    refine (seq_nx (asgO_ok (movT_e (n := 7) hr hE (by omega) ((call_ok (ds := [.int (first / 35)]) (cons_ok (by simp only [mSeq, mIfS, mT, mBin, mVar, mOwn, mC, mU, mRet, mRetO, mAsg, mOrV, mAndV, mNotV, mAnd, mOr, mNot, mCons, mNil, mCB, mNext, bind_ok, ite_bind, dI, dEq_int, dNe_int, dEq_bl, dNe_bl, dLt, dGt, dLe, dGe, dMax, dMin, List.getElem?_cons_zero, List.getElem?_cons_succ, List.set_cons_zero, List.set_cons_succ, if_true, if_false, Bool.false_eq_true, Bool.true_eq_false, reduceIte, ite_true, ite_false, d35]) nil_ok) rfl).trans eE) (fun x y => rfl) (fun x y => rfl) (fun x y => rfl)))).trans ?_
    refine ret_ok (tup2 ((bin_ok (lst_ok (ds := [.int (first / 70 % 10)]) (cons_ok (by simp only [mSeq, mIfS, mT, mBin, mVar, mOwn, mC, mU, mRet, mRetO, mAsg, mOrV, mAndV, mNotV, mAnd, mOr, mNot, mCons, mNil, mCB, mNext, bind_ok, ite_bind, dI, dEq_int, dNe_int, dEq_bl, dNe_bl, dLt, dGt, dLe, dGe, dMax, dMin, List.getElem?_cons_zero, List.getElem?_cons_succ, List.set_cons_zero, List.set_cons_succ, if_true, if_false, Bool.false_eq_true, Bool.true_eq_false, reduceIte, ite_true, ite_false, d70, p10]) nil_ok) (by show 1 ≤ 16777216; omega)) c_ok).trans ((rep_ok _ (k := 7) (by omega)).trans ?_)) ((u_ok (own_ok rfl)).trans (sorted_tl _)))
    unfold il
    rw [List.map_replicate]
  · have IF : ∀ {mo : Fd → Md Out}, (mIfS (mAnd (mT (mBin dGt (mVar 1) (mC (.int 6)))) (mT (mBin dEq (mBin (dIC posOk fun i j => .int (i % j)) (mBin (dIC divOk fun i j => .int (i / j)) (mVar 2) (mC (.int 7))) (mC (.int 5))) (mC (.int 2))))) mo mNext) [.sh (.lsk (il ns)), .sh (.int most), .sh (.int first), .sh (.int n), .un, .un, .un, .un, .un, .un, .un, .un, .un, .un] = .ok (.nx [.sh (.lsk (il ns)), .sh (.int most), .sh (.int first), .sh (.int n), .un, .un, .un, .un, .un, .un, .un, .un, .un, .un]) := by
      intro mo
      by_cases c6 : 6 < (most : Int)
      · rw [decide_eq_true c6] at W1
        have c2 : (first / 7 % 5 == 2) = false := by
          cases h : (first / 7 % 5 == 2)
          · rfl
          · exact absurd ⟨c6, h⟩ cc
        rw [c2] at W2
        exact (if_f ((and_t W1).trans W2)).trans rfl
      · rw [decide_eq_false c6] at W1
        exact (if_f (and_f W1)).trans rfl
    obtain ⟨r, hr, er⟩ := rowE (Δ := [.sh (.lsk (il ns)), .sh (.int most), .sh (.int first), .sh (.int n), .un, .un, .un, .un, .sh (.int (first / most % 9)), .un, .un, .un, .un, .un]) (k := n) (sz := mVar 3) (by omega) rfl rfl
    obtain ⟨E, s5, s6, s9, e7, hE, hd⟩ := wb_outer hb most first (first / most % 9) (show n ≤ 12 by omega) hr n 0 [] .un .un .un (by omega) (by omega) (by show 0 + 12 * n ≤ 10000; omega)
    have hE0 : ∀ p ∈ E, 0 ≤ p.1 ∧ p.1 < p.2 ∧ p.2 < n := hE
    have hE2 : ∀ p ∈ E.map (mvP r), 0 ≤ p.1 ∧ p.1 < p.2 ∧ p.2 < n := fun p hp => by
      obtain ⟨q, hq, e⟩ := List.mem_map.mp hp
      rw [← e]
      exact mvP_ok hr (hE q hq)
    have so := sorted_ok hE2 (mvP_nodup hr hE hd)
    -- how many colours
    obtain ⟨i, hi⟩ : ∃ i : Nat, first / most / 9 % 6 = (i : Int) := ⟨(first / most / 9 % 6).toNat, by omega⟩
    have i6 : i < 6 := by omega
    have many := (show ∀ i, i < 6 → 1 ≤ ([1, 1, 2, 2, 3, 10] : List Int).getD i 0 ∧ ([1, 1, 2, 2, 3, 10] : List Int).getD i 0 ≤ 10 by decide) i i6
    generalize hM : ([1, 1, 2, 2, 3, 10] : List Int).getD i 0 = M at many
    obtain ⟨j, hj⟩ : ∃ j : Nat, first / 7 % 3 = (j : Int) := ⟨(first / 7 % 3).toNat, by omega⟩
    have j3 : j < 3 := by omega
    have steps : 1 ≤ ([(n : Int), 2, 1] : List Int).getD j 0 ∧ ([(n : Int), 2, 1] : List Int).getD j 0 ≤ 12 := by
      match j, j3 with
      | 0, _ => exact ⟨by show 1 ≤ (n : Int); omega, by show (n : Int) ≤ 12; omega⟩
      | 1, _ => exact ⟨by show (1 : Int) ≤ 2; omega, by show (2 : Int) ≤ 12; omega⟩
      | 2, _ => exact ⟨by show (1 : Int) ≤ 1; omega, by show (1 : Int) ≤ 12; omega⟩
    generalize hV : ([(n : Int), 2, 1] : List Int).getD j 0 = V at steps
    have pM : ∀ i : Int, dIC posOk (fun i j => .int (i % j)) (.int i) (.int M) = .ok (.int (i % M)) := fun i => pos_ok (by omega)
    have pV : ∀ i : Int, dIC posOk (fun i j => .int (i % j)) (.int i) (.int V) = .ok (.int (i % V)) := fun i => pos_ok (by omega)
    refine ⟨n, movC ((nums 0 n).map fun k => mixv (ns.getD 2 0) (k % V) % M) r n, sortP (E.map (mvP r)), ⟨n1, by omega, movC_len .., ?_, so.1, so.2⟩, n2, ?_⟩
    · refine movC_ok hr (by rw [List.length_map, nums_len]) fun c hc => ?_
      obtain ⟨k, _, e⟩ := List.mem_map.mp hc
      rw [← e]
      have a := Int.emod_nonneg (mixv (ns.getD 2 0) (k % V)) (show M ≠ 0 by omega)
      have b := Int.emod_lt_of_pos (mixv (ns.getD 2 0) (k % V)) (show 0 < M by omega)
      omega
    refine def_rt ?_
    rw [st]
    unfold m_law_web_by
    refine (seq_nx A2).trans ?_
    refine (seq_nx A3).trans ?_
    refine (seq_nx IF).trans ?_
    refine (seq_nx (asg_ok (d := .int (first / most % 9)) (by simp only [mSeq, mIfS, mT, mBin, mVar, mOwn, mC, mU, mRet, mRetO, mAsg, mOrV, mAndV, mNotV, mAnd, mOr, mNot, mCons, mNil, mCB, mNext, bind_ok, ite_bind, dI, dEq_int, dNe_int, dEq_bl, dNe_bl, dLt, dGt, dLe, dGe, dMax, dMin, List.getElem?_cons_zero, List.getElem?_cons_succ, List.set_cons_zero, List.set_cons_succ, if_true, if_false, Bool.false_eq_true, Bool.true_eq_false, reduceIte, ite_true, ite_false, dm, p9]))).trans ?_
    refine (seq_nx (asg_ok er)).trans ?_
    refine (seq_nx (asgO_ok (lst_ok nil_ok (Nat.zero_le _)))).trans ?_
    refine (seq_nx ((for_ok (it1_ok (n := n) (by omega) (cons_ok (var_ok rfl) nil_ok))).trans e7)).trans ?_
    refine (seq_nx (asg_ok (d := .int M) ((bin_ok (lst_ok (ds := il [1, 1, 2, 2, 3, 10]) (cons_ok c_ok (cons_ok c_ok (cons_ok c_ok (cons_ok c_ok (cons_ok c_ok (cons_ok c_ok nil_ok)))))) (by show 6 ≤ 16777216; omega)) (b := .int i) (by rw [← hi]; simp only [mSeq, mIfS, mT, mBin, mVar, mOwn, mC, mU, mRet, mRetO, mAsg, mOrV, mAndV, mNotV, mAnd, mOr, mNot, mCons, mNil, mCB, mNext, bind_ok, ite_bind, dI, dEq_int, dNe_int, dEq_bl, dNe_bl, dLt, dGt, dLe, dGe, dMax, dMin, List.getElem?_cons_zero, List.getElem?_cons_succ, List.set_cons_zero, List.set_cons_succ, if_true, if_false, Bool.false_eq_true, Bool.true_eq_false, reduceIte, ite_true, ite_false, dm, d9, p6])).trans ((at_il (by omega) (by show (i : Int) < 6; omega)).trans (by rw [Int.toNat_natCast, hM]))))).trans ?_
    refine (seq_nx (asg_ok (lc_ok (ds := il (nums 0 n)) (it1_ok (by omega) (cons_ok (var_ok rfl) nil_ok)) (by rw [il_len, nums_len]; omega) (lcGo_il (fun k => mixv (ns.getD 2 0) (k % V) % M) _ fun k hk => ?_)))).trans ?_
    · have q := mem_nums.mp hk
      have kv0 := Int.emod_nonneg k (show V ≠ 0 by omega)
      have kv1 := Int.emod_lt_of_pos k (show 0 < V by omega)
      refine (bin_ok ((call_ok (ds := [.int (ns.getD 2 0), .int (k % V)]) (cons_ok ((call_ok (ds := [.lsk (il ns), .int (2 : Nat)]) (cons_ok (var_ok rfl) (cons_ok c_ok nil_ok)) rfl).trans (cell_at ns 2)) (cons_ok ?_ nil_ok)) rfl).trans (mixed (hb 2) kv0 (by omega))) (var_ok rfl)).trans (pM _)
      refine (bin_ok (var_ok rfl) ((bin_ok (lst_ok (ds := il [(n : Int), 2, 1]) (cons_ok (var_ok rfl) (cons_ok c_ok (cons_ok c_ok nil_ok))) (by show 3 ≤ 16777216; omega)) (b := .int j) (by rw [← hj]; simp only [mSeq, mIfS, mT, mBin, mVar, mOwn, mC, mU, mRet, mRetO, mAsg, mOrV, mAndV, mNotV, mAnd, mOr, mNot, mCons, mNil, mCB, mNext, bind_ok, ite_bind, dI, dEq_int, dNe_int, dEq_bl, dNe_bl, dLt, dGt, dLe, dGe, dMax, dMin, List.getElem?_cons_zero, List.getElem?_cons_succ, List.set_cons_zero, List.set_cons_succ, if_true, if_false, Bool.false_eq_true, Bool.true_eq_false, reduceIte, ite_true, ite_false, wbF, wipeD, d7, p3])).trans ((at_il (by omega) (by show (j : Int) < 3; omega)).trans (by rw [Int.toNat_natCast, hV])))).trans (pV _)
    · refine ret_ok (tup2 (movC_e (by omega) hr (by rw [List.length_map, nums_len]) (var_ok rfl) (fun x => rfl) (fun x => rfl) (fun x => rfl)) ((u_ok (own_ok (ds := tl (E.map (mvP r))) rfl)).trans (sorted_tl _)))

-- what may be colours and ties
theorem chn_t {f g : Dt → Dt → Md Dt} {ma mb mc : Fd → Md Dt} {Δ : Fd} {a b c : Dt} (h1 : ma Δ = .ok a) (h2 : mb Δ = .ok b) (h3 : f a b = .ok (.bl true)) (h4 : mc Δ = .ok c) : mChn f g ma mb mc Δ = g b c := by
  unfold mChn
  rw [h1, bind_ok, h2, bind_ok, h3, bind_ok]
  show (if true = true then (mc Δ).bind fun u => g b u else .ok (.bl false)) = _
  rw [if_pos rfl, h4]
  rfl
theorem chn_f {f g : Dt → Dt → Md Dt} {ma mb mc : Fd → Md Dt} {Δ : Fd} {a b : Dt} (h1 : ma Δ = .ok a) (h2 : mb Δ = .ok b) (h3 : f a b = .ok (.bl false)) : mChn f g ma mb mc Δ = .ok (.bl false) := by
  unfold mChn
  rw [h1, bind_ok, h2, bind_ok, h3, bind_ok]
  show (if false = true then (mc Δ).bind fun u => g b u else .ok (.bl false)) = _
  rw [if_neg Bool.false_ne_true]
def belowB (d : Dt) (k : Int) : Bool := match d with
  | .int i => decide (0 ≤ i) && decide (i < k)
  | _ => false
theorem below_pl {d : Dt} (h : pl d = true) (k : Int) : M_is_below [d, .int k] = .ok (.bl (belowB d k)) := by
  unfold M_is_below
  refine def_rt ?_
  have st : startD 2 [d, .int k] = [.sh d, .sh (.int k)] := rfl
  rw [st]
  unfold m_is_below
  refine ret_ok ?_
  have w : (mCall 1 M_is_whole (mCons (mVar 0) mNil)) [.sh d, .sh (.int k)] = .ok (.bl (isI d)) := (call_ok (ds := [d]) (cons_ok (var_ok rfl) nil_ok) rfl).trans (whole_pl h)
  cases d with
  | int i =>
    refine (andV_t w).trans ?_
    by_cases c : 0 ≤ i
    · refine (chn_t c_ok (var_ok rfl) (by show Md.ok (Dt.bl (decide (0 ≤ i))) = _; rw [decide_eq_true c]) (var_ok rfl)).trans ?_
      show Md.ok (Dt.bl (decide (i < k))) = .ok (.bl (decide (0 ≤ i) && decide (i < k)))
      rw [decide_eq_true c, Bool.true_and]
    · refine (chn_f c_ok (var_ok rfl) (by show Md.ok (Dt.bl (decide (0 ≤ i))) = _; rw [decide_eq_false c])).trans ?_
      show _ = Md.ok (Dt.bl (decide (0 ≤ i) && decide (i < k)))
      rw [decide_eq_false c, Bool.false_and]
  | bl _ => exact andV_f w
  | str _ => exact andV_f w
  | non => exact andV_f w
  | lst _ => exact andV_f w
  | _ => cases h
theorem allB_of {f : Dt → Md Dt} {g : Dt → Bool} : ∀ ds : List Dt, (∀ d ∈ ds, f d = .ok (.bl (g d))) → allB f ds = some (ds.map g)
  | [], _ => rfl
  | d :: r, hp => by
    show (match f d, allB f r with
      | .ok (.bl q), some bs => some (q :: bs)
      | _, _ => none) = _
    rw [hp d List.mem_cons_self, allB_of r fun x hx => hp x (List.mem_cons_of_mem _ hx)]
    rfl
theorem type_lst (ds : List Dt) : dType (.lst ds) = .ok (.ty "list") := rfl
def colsB (ds : List Dt) : Bool := decide (1 ≤ ds.length) && decide (ds.length ≤ 12) && ds.all fun d => belowB d 10
theorem colours_lst {ds : List Dt} (hp : ∀ d ∈ ds, pl d = true) (hq : qok.go ds = true) : M_are_colours [.lst ds] = .ok (.bl (colsB ds)) := by
  unfold M_are_colours
  refine def_rt ?_
  have st : startD 2 [.lst ds] = [.sh (.lst ds), .un] := rfl
  rw [st]
  unfold m_are_colours
  have w1 : (mT (mBin dIsNot (mU dType (mVar 0)) (mC (.ty "list")))) [.sh (.lst ds), .un] = .ok false := t_ok ((bin_ok ((u_ok (var_ok rfl)).trans (type_lst ds)) c_ok).trans rfl)
  have ln : (mU dLen (mVar 0)) [.sh (.lst ds), .un] = .ok (.int ds.length) := (u_ok (var_ok rfl)).trans rfl
  have gen : (mGen 1 (fun bs => bs.all id) (mVar 0) (mCall 2 M_is_below (mCons (mVar 1) (mCons (mC (.int 10)) mNil)))) [.sh (.lst ds), .un] = .ok (.bl (ds.all fun d => belowB d 10)) := by
    refine (gen_ok (var_ok rfl) hq (by show 1 < 2; omega) (allB_of (g := fun d => belowB d 10) ds fun d hd => (call_ok (ds := [d, .int 10]) (cons_ok (var_ok rfl) (cons_ok c_ok nil_ok)) rfl).trans (below_pl (hp d hd) 10))).trans ?_
    rw [List.all_map]
    rfl
  unfold colsB
  by_cases c1 : 1 ≤ ds.length
  · by_cases c2 : ds.length ≤ 12
    · have w2 : (mT (mChn dLe dLe (mC (.int 1)) (mU dLen (mVar 0)) (mC (.int 12)))) [.sh (.lst ds), .un] = .ok true := t_ok ((chn_t c_ok ln (by show Md.ok (Dt.bl (decide (1 ≤ (ds.length : Int)))) = _; rw [decide_eq_true (by omega)]) c_ok).trans (by show Md.ok (Dt.bl (decide ((ds.length : Int) ≤ 12))) = _; rw [decide_eq_true (by omega)]))
      refine (seq_nx ((if_f ((or_f w1).trans (not_ok w2))).trans rfl)).trans ((ret_ok gen).trans ?_)
      rw [decide_eq_true c1, decide_eq_true c2]
      rfl
    · have w2 : (mT (mChn dLe dLe (mC (.int 1)) (mU dLen (mVar 0)) (mC (.int 12)))) [.sh (.lst ds), .un] = .ok false := t_ok ((chn_t c_ok ln (by show Md.ok (Dt.bl (decide (1 ≤ (ds.length : Int)))) = _; rw [decide_eq_true (by omega)]) c_ok).trans (by show Md.ok (Dt.bl (decide ((ds.length : Int) ≤ 12))) = _; rw [decide_eq_false (by omega)]))
      refine (seq_rt ((if_t ((or_f w1).trans (not_ok w2))).trans (ret_ok c_ok))).trans ?_
      rw [decide_eq_false c2, Bool.and_false]
      rfl
  · have w2 : (mT (mChn dLe dLe (mC (.int 1)) (mU dLen (mVar 0)) (mC (.int 12)))) [.sh (.lst ds), .un] = .ok false := t_ok (chn_f c_ok ln (by show Md.ok (Dt.bl (decide (1 ≤ (ds.length : Int)))) = _; rw [decide_eq_false (by omega)]))
    refine (seq_rt ((if_t ((or_f w1).trans (not_ok w2))).trans (ret_ok c_ok))).trans ?_
    rw [decide_eq_false c1]
    rfl
theorem pl_il (xs : List Int) : ∀ d ∈ il xs, pl d = true := fun d h => by
  obtain ⟨x, _, e⟩ := List.mem_map.mp h
  rw [← e]
  rfl
theorem colours_yes {n : Nat} {cs : List Int} (h1 : 1 ≤ n) (h2 : n ≤ 12) (hl : cs.length = n) (hc : ∀ c ∈ cs, 0 ≤ c ∧ c < 10) : M_are_colours [.lst (il cs)] = .ok (.bl true) := by
  rw [colours_lst (pl_il cs) (qok_il cs)]
  unfold colsB
  rw [il_len, hl, decide_eq_true h1, decide_eq_true h2, Bool.true_and, Bool.true_and]
  have a : ((il cs).all fun d => belowB d 10) = true := by
    rw [List.all_eq_true]
    intro d hd
    obtain ⟨c, hm, e⟩ := List.mem_map.mp hd
    have := hc c hm
    rw [← e]
    show (decide (0 ≤ c) && decide (c < 10)) = true
    rw [decide_eq_true this.1, decide_eq_true this.2]
    rfl
  rw [a]
def plt : Dt → Bool
  | .tup es => es.all pl
  | d => pl d
def tieB (d : Dt) (n : Int) : Bool := match d with
  | .tup [.int i, .int j] => decide (0 ≤ i) && decide (i < n) && (decide (0 ≤ j) && decide (j < n) && decide (i < j))
  | _ => false
theorem tie_no {d : Dt} {n : Int} {ty : String} (h : dType d = .ok (.ty ty)) (hn : ty ≠ "tuple") : M_is_tie [d, .int n] = .ok (.bl false) := by
  unfold M_is_tie
  refine def_rt ?_
  have st : startD 4 [d, .int n] = [.sh d, .sh (.int n), .un, .un] := rfl
  rw [st]
  unfold m_is_tie
  have w1 : (mT (mBin dIsNot (mU dType (mVar 0)) (mC (.ty "tuple")))) [.sh d, .sh (.int n), .un, .un] = .ok true := t_ok ((bin_ok ((u_ok (var_ok rfl)).trans h) c_ok).trans (by
    show Md.ok (Dt.bl (!decide (ty = "tuple"))) = _
    rw [decide_eq_false hn]
    rfl))
  exact seq_rt ((if_t (or_t w1)).trans (ret_ok c_ok))
theorem tie_tup {es : List Dt} {n : Int} (hp : ∀ e ∈ es, pl e = true) : M_is_tie [.tup es, .int n] = .ok (.bl (tieB (.tup es) n)) := by
  unfold M_is_tie
  refine def_rt ?_
  have st : startD 4 [.tup es, .int n] = [.sh (.tup es), .sh (.int n), .un, .un] := rfl
  rw [st]
  unfold m_is_tie
  have w1 : (mT (mBin dIsNot (mU dType (mVar 0)) (mC (.ty "tuple")))) [.sh (.tup es), .sh (.int n), .un, .un] = .ok false := t_ok ((bin_ok ((u_ok (var_ok rfl)).trans (show dType (.tup es) = .ok (.ty "tuple") from rfl)) c_ok).trans rfl)
  have w2 : (mT (mBin dNe (mU dLen (mVar 0)) (mC (.int 2)))) [.sh (.tup es), .sh (.int n), .un, .un] = .ok (!decide ((es.length : Int) = 2)) := t_ok ((bin_ok ((u_ok (var_ok rfl)).trans (show dLen (.tup es) = .ok (.int es.length) from rfl)) c_ok).trans (dNe_int2 ..))
  match es, hp with
  | [], _ => exact seq_rt ((if_t ((or_f w1).trans w2)).trans (ret_ok c_ok))
  | [x], _ =>
    have e : tieB (.tup [x]) n = false := by cases x <;> rfl
    rw [e]
    exact seq_rt ((if_t ((or_f w1).trans w2)).trans (ret_ok c_ok))
  | x :: y :: z :: r, _ =>
    have e : decide (((x :: y :: z :: r).length : Int) = 2) = false := decide_eq_false (by simp only [List.length_cons]; omega)
    have e2 : tieB (.tup (x :: y :: z :: r)) n = false := by cases x <;> cases y <;> rfl
    rw [e] at w2
    rw [e2]
    exact seq_rt ((if_t ((or_f w1).trans w2)).trans (ret_ok c_ok))
  | [a, b], hp =>
    have pa := hp a (by simp)
    have pb := hp b (by simp)
    refine (seq_nx ((if_f ((or_f w1).trans w2)).trans rfl)).trans ?_
    refine (seq_nx (show (mAsgT (gsTup 2 (gsCons (gsName 2) (gsCons (gsName 3) gsNil))) (mVar 0)) [.sh (.tup [a, b]), .sh (.int n), .un, .un] = .ok (.nx [.sh (.tup [a, b]), .sh (.int n), .sh a, .sh b]) from rfl)).trans (ret_ok ?_)
    have wa : (mCall 2 M_is_below (mCons (mVar 2) (mCons (mVar 1) mNil))) [.sh (.tup [a, b]), .sh (.int n), .sh a, .sh b] = .ok (.bl (belowB a n)) := (call_ok (ds := [a, .int n]) (cons_ok (var_ok rfl) (cons_ok (var_ok rfl) nil_ok)) rfl).trans (below_pl pa n)
    have wb : (mCall 2 M_is_below (mCons (mVar 3) (mCons (mVar 1) mNil))) [.sh (.tup [a, b]), .sh (.int n), .sh a, .sh b] = .ok (.bl (belowB b n)) := (call_ok (ds := [b, .int n]) (cons_ok (var_ok rfl) (cons_ok (var_ok rfl) nil_ok)) rfl).trans (below_pl pb n)
    cases ea : belowB a n with
    | false =>
      rw [ea] at wa
      refine (andV_f wa).trans ?_
      cases a with
      | int i =>
        cases b with
        | int j =>
          have ea : (decide (0 ≤ i) && decide (i < n)) = false := ea
          show _ = Md.ok (Dt.bl (decide (0 ≤ i) && decide (i < n) && (decide (0 ≤ j) && decide (j < n) && decide (i < j))))
          rw [ea]
          rfl
        | _ => rfl
      | _ => rfl
    | true =>
      rw [ea] at wa
      refine (andV_t wa).trans ?_
      cases a with
      | int i =>
        have ea : (decide (0 ≤ i) && decide (i < n)) = true := ea
        cases eb : belowB b n with
        | false =>
          rw [eb] at wb
          refine (andV_f wb).trans ?_
          cases b with
          | int j =>
            have eb : (decide (0 ≤ j) && decide (j < n)) = false := eb
            show _ = Md.ok (Dt.bl (decide (0 ≤ i) && decide (i < n) && (decide (0 ≤ j) && decide (j < n) && decide (i < j))))
            rw [ea, eb]
            rfl
          | _ => rfl
        | true =>
          rw [eb] at wb
          refine (andV_t wb).trans ?_
          cases b with
          | int j =>
            have eb : (decide (0 ≤ j) && decide (j < n)) = true := eb
            refine (bin_ok (var_ok rfl) (var_ok rfl)).trans ?_
            show Md.ok (Dt.bl (decide (i < j))) = Md.ok (Dt.bl (decide (0 ≤ i) && decide (i < n) && (decide (0 ≤ j) && decide (j < n) && decide (i < j))))
            rw [ea, eb]
            rfl
          | _ => exact absurd (show false = true from eb) Bool.false_ne_true
      | _ => exact absurd (show false = true from ea) Bool.false_ne_true
theorem tie_plt {d : Dt} (h : plt d = true) (n : Int) : M_is_tie [d, .int n] = .ok (.bl (tieB d n)) := by
  cases d with
  | tup es => exact tie_tup (List.all_eq_true.mp h)
  | int _ => exact tie_no (ty := "int") rfl (by decide)
  | bl _ => exact tie_no (ty := "bool") rfl (by decide)
  | str _ => exact tie_no (ty := "str") rfl (by decide)
  | non => exact tie_no (ty := "NoneType") rfl (by decide)
  | lst _ => exact tie_no (ty := "list") rfl (by decide)
  | _ => cases h
theorem ties_of : ∀ {ds : List Dt} {n : Int}, (∀ d ∈ ds, tieB d n = true) → ∃ ts : List (Int × Int), ds = tl ts ∧ ∀ p ∈ ts, 0 ≤ p.1 ∧ p.1 < p.2 ∧ p.2 < n
  | [], _, _ => ⟨[], rfl, fun p z => (nomatch z)⟩
  | d :: r, n, h => by
    obtain ⟨ts, e, hr⟩ := ties_of (n := n) fun x hx => h x (List.mem_cons_of_mem _ hx)
    have hd := h d List.mem_cons_self
    unfold tieB at hd
    split at hd
    · rename_i i j
      simp only [Bool.and_eq_true, decide_eq_true_eq] at hd
      refine ⟨(i, j) :: ts, by rw [e]; rfl, fun p hp => ?_⟩
      rcases List.mem_cons.mp hp with z | z
      · subst z
        exact ⟨hd.1.1, hd.2.2, hd.2.1.2⟩
      · exact hr p z
    · cases hd
def tiesB (ds : List Dt) (n : Int) : Bool := (ds.all fun d => tieB d n) && (match toPairs ds with
  | some ts => decide ts.Nodup
  | none => false)
theorem ties_lst {ds : List Dt} (hp : ∀ d ∈ ds, plt d = true) (hq : qok.go ds = true) (hl : ds.length ≤ 76) (n : Int) : M_are_ties [.lst ds, .int n] = .ok (.bl (tiesB ds n)) := by
  unfold M_are_ties
  refine def_rt ?_
  have st : startD 3 [.lst ds, .int n] = [.sh (.lst ds), .sh (.int n), .un] := rfl
  rw [st]
  unfold m_are_ties
  have w1 : (mT (mBin dIsNot (mU dType (mVar 0)) (mC (.ty "list")))) [.sh (.lst ds), .sh (.int n), .un] = .ok false := t_ok ((bin_ok ((u_ok (var_ok rfl)).trans (type_lst ds)) c_ok).trans rfl)
  have gen : (mGen 2 (fun bs => bs.all id) (mVar 0) (mCall 2 M_is_tie (mCons (mVar 2) (mCons (mVar 1) mNil)))) [.sh (.lst ds), .sh (.int n), .un] = .ok (.bl (ds.all fun d => tieB d n)) := by
    refine (gen_ok (var_ok rfl) hq (by show 2 < 3; omega) (allB_of (g := fun d => tieB d n) ds fun d hd => (call_ok (ds := [d, .int n]) (cons_ok (var_ok rfl) (cons_ok (var_ok rfl) nil_ok)) rfl).trans (tie_plt (hp d hd) n))).trans ?_
    rw [List.all_map]
    rfl
  unfold tiesB
  cases c : ds.all fun d => tieB d n with
  | false =>
    rw [c] at gen
    exact seq_rt ((if_t ((or_f w1).trans (not_ok (t_ok gen)))).trans (ret_ok c_ok))
  | true =>
    rw [c] at gen
    obtain ⟨ts, e, _⟩ := ties_of (List.all_eq_true.mp c)
    subst e
    refine (seq_nx ((if_f ((or_f w1).trans (not_ok (t_ok gen)))).trans rfl)).trans (ret_ok ?_)
    rw [tl_len] at hl
    have ls : (mU dLenSet (mVar 0)) [.sh (.lst (tl ts)), .sh (.int n), .un] = .ok (.int (distinct ts).length) := by
      refine (u_ok (var_ok rfl)).trans ?_
      show (match toPairs (tl ts) with
        | some ps => if ps.length ≤ 76 then Md.ok (Dt.int (distinct ps).length) else .bad
        | none => .bad) = _
      rw [toPairs_tl]
      exact if_pos hl
    refine (bin_ok ls ((u_ok (var_ok rfl)).trans (show dLen (.lst (tl ts)) = .ok (.int (tl ts).length) from rfl))).trans ((dEq_int ..).trans ?_)
    rw [toPairs_tl, tl_len]
    by_cases nd : ts.Nodup
    · rw [distinct_id nd]
      simp [nd]
    · have lt := distinct_lt nd
      have ne : ((((distinct ts).length : Nat) : Int) == (ts.length : Int)) = false := by
        rw [beq_eq_false_iff_ne]
        omega
      rw [ne]
      simp [nd]
theorem qok_tl : ∀ ts : List (Int × Int), qok.go (tl ts) = true
  | [] => by simp [qok.go]
  | p :: r => by
    show qok.go (.tup [.int p.1, .int p.2] :: tl r) = true
    rw [qok.go, qok_tl r]
    have e : qok (.tup [.int p.1, .int p.2]) = true := by simp [qok, qok.go]
    rw [e]
    rfl
theorem plt_tl (ts : List (Int × Int)) : ∀ d ∈ tl ts, plt d = true := fun d h => by
  obtain ⟨p, _, e⟩ := List.mem_map.mp h
  rw [← e]
  rfl
theorem ties_yes {n : Nat} {ts : List (Int × Int)} (hl : ts.length ≤ 76) (ht : ∀ p ∈ ts, 0 ≤ p.1 ∧ p.1 < p.2 ∧ p.2 < n) (hd : ts.Nodup) : M_are_ties [.lst (tl ts), .int n] = .ok (.bl true) := by
  rw [ties_lst (plt_tl ts) (qok_tl ts) (by rw [tl_len]; exact hl)]
  unfold tiesB
  rw [toPairs_tl]
  have a : ((tl ts).all fun d => tieB d n) = true := by
    rw [List.all_eq_true]
    intro d h
    obtain ⟨p, hm, e⟩ := List.mem_map.mp h
    have := ht p hm
    rw [← e]
    show (decide (0 ≤ p.1) && decide (p.1 < n) && (decide (0 ≤ p.2) && decide (p.2 < n) && decide (p.1 < p.2))) = true
    rw [decide_eq_true this.1, decide_eq_true (show p.1 < n by omega), decide_eq_true (show 0 ≤ p.2 by omega), decide_eq_true this.2.2, decide_eq_true this.2.1]
    rfl
  rw [a]
  simp [hd]

-- K1u
theorem set_il : ∀ (l : List Int) (j : Nat) (x : Int), (il l).set j (.int x) = il (l.set j x)
  | [], _, _ => rfl
  | y :: r, 0, _ => rfl
  | y :: r, j + 1, x => congrArg (Dt.int y :: ·) (set_il r j x)
theorem setI_ok {Δ : Fd} {i : Nat} {ma mb : Fd → Md Dt} {zs : List Int} {v : Int} {j : Nat} (h1 : ma Δ = .ok (.int v)) (h2 : Δ[i]? = some (.ow (il zs))) (h3 : mb Δ = .ok (.int (j : Int))) (hj : j < zs.length) : mSetI i ma mb Δ = .ok (.nx (Δ.set i (.ow (il (zs.set j v))))) := by
  have hix : ixN (il zs).length (j : Int) = some j := by
    unfold ixN
    rw [il_len, if_pos (Int.natCast_nonneg j), if_pos (by omega), Int.toNat_natCast]
  unfold mSetI
  simp only [h1, h2, h3, Md.bind, hix, set_il]
theorem back_go {n : Nat} {one : Dt} : ∀ (rest : List Int) (k : Nat) (zs : List Int) (s2 s3 : Sd), zs.length = n → (∀ x ∈ rest, 0 ≤ x ∧ x < n) → rest.Nodup →
    ∃ zs' s2' s3', mForGo (gsTup 2 (gsCons (gsName 2) (gsCons (gsName 3) gsNil))) (mSetI 1 (mVar 2) (mVar 3)) (enu k (il rest)) [.sh one, .ow (il zs), s2, s3] = .ok (.nx [.sh one, .ow (il zs'), s2', s3']) ∧ zs'.length = n ∧
      (∀ (j : Nat) (x : Int), rest[j]? = some x → zs'[x.toNat]? = some ((k + j : Nat) : Int)) ∧ ∀ m, (∀ x ∈ rest, x.toNat ≠ m) → zs'[m]? = zs[m]?
  | [], k, zs, s2, s3, hl, _, _ => ⟨zs, s2, s3, rfl, hl, fun j x h => by simp at h, fun m _ => rfl⟩
  | x :: r, k, zs, s2, s3, hl, hb, nd => by
    obtain ⟨h0, h1⟩ := hb x List.mem_cons_self
    obtain ⟨j, rfl⟩ := Int.eq_ofNat_of_zero_le h0
    have hj : j < n := by omega
    obtain ⟨zs', a2, a3, e, l', p, q⟩ := back_go (n := n) (one := one) r (k + 1) (zs.set j k) (.sh (.int (k : Int))) (.sh (.int (j : Int))) (by rw [List.length_set]; exact hl) (fun y hy => hb y (List.mem_cons_of_mem _ hy)) (List.nodup_cons.mp nd).2
    refine ⟨zs', a2, a3, ?_, l', fun i y hy => ?_, fun m hm => ?_⟩
    · refine (go_nx (Δ1 := [.sh one, .ow (il zs), .sh (.int (k : Int)), .sh (.int (j : Int))]) rfl (setI_ok (zs := zs) (v := (k : Int)) (j := j) (var_ok rfl) rfl (var_ok rfl) (by omega))).trans e
    · cases i with
      | zero =>
        cases hy
        have : zs'[j]? = (zs.set j (k : Int))[j]? := q j fun y hy z => by
          have hy0 := (hb y (List.mem_cons_of_mem _ hy)).1
          have : y = (j : Int) := by omega
          exact (List.nodup_cons.mp nd).1 (this ▸ hy)
        rw [Int.toNat_natCast, this, List.getElem?_set_self (by omega)]
        rfl
      | succ i =>
        rw [p i y hy]
        congr 2
        omega
    · have hne : j ≠ m := fun z => hm (j : Int) List.mem_cons_self (by rw [Int.toNat_natCast]; exact z)
      rw [q m fun y hy => hm y (List.mem_cons_of_mem _ hy), List.getElem?_set_ne hne]
theorem nums_nd (n : Nat) : ∀ k, (nums k n).Nodup := by
  induction n with
  | zero => exact fun _ => .nil
  | succ n ih =>
    intro k
    refine List.nodup_cons.mpr ⟨fun h => ?_, ih (k + 1)⟩
    have := (mem_nums.mp h).1
    omega
theorem rep_il (n : Nat) : (List.replicate n (il [0])).flatten = il (List.replicate n 0) := by
  induction n with
  | zero => rfl
  | succ n ih =>
    rw [List.replicate_succ, List.flatten_cons, ih, List.replicate_succ]
    rfl
theorem dRep_ok {n : Nat} (hn : n ≤ 1000) : dRep (.lst (il [0])) (.int n) = .ok (.lst (il (List.replicate n 0))) := by
  have c : -(2 ^ 63) ≤ (n : Int) ∧ (n : Int) < 2 ^ 63 ∧ (il [0]).length * ((n : Int)).toNat ≤ 16777216 := by
    refine ⟨by omega, by omega, ?_⟩
    rw [il_len, Int.toNat_natCast]
    show 1 * n ≤ _
    omega
  unfold dRep
  simp only [if_pos c]
  rw [Int.toNat_natCast, rep_il]
-- what is no list
def nolist : Dt → Bool
  | .int _ => true
  | .bl _ => true
  | .str _ => true
  | .non => true
  | .tup _ => true
  | .dic => true
  | _ => false
theorem isNot_nl {d : Dt} (h : nolist d = true) : (dType d).bind (fun t => dIsNot t (.ty "list")) = .ok (.bl true) := by
  cases d <;> first | (exact congrArg (fun b => Md.ok (Dt.bl b)) (by decide)) | rfl | cases h
-- a web as data
abbrev webV (C : Addr) (n : Nat) (cs : List Int) (ts : List (Int × Int)) : Dt := .ins C ["size", "_colours", "_ties"] [.int n, .lst (il cs), .lst (tl ts)]
theorem nls_il : ∀ xs : List Int, nls (il xs) = true
  | [] => by simp [nls]
  | x :: r => by
    show nls (.int x :: il r) = true
    rw [nls, nls_il r, nl]
    rfl
theorem nls_tl : ∀ ts : List (Int × Int), nls (tl ts) = true
  | [] => by simp [nls]
  | p :: r => by
    show nls (.tup [.int p.1, .int p.2] :: tl r) = true
    rw [nls, nls_tl r]
    have e : Mr.nl (.tup [.int p.1, .int p.2]) = true := by simp [Mr.nl, nls]
    rw [e]
    rfl
theorem nl_lst {ds : List Dt} (h : nls ds = true) : Mr.nl (.lst ds) = true := by
  rw [Mr.nl]
  exact h
theorem nls_cons {d : Dt} {r : List Dt} (h1 : Mr.nl d = true) (h2 : nls r = true) : nls (d :: r) = true := by
  rw [nls, h1, h2]
  rfl
theorem nls_nil : nls [] = true := by simp [nls]
theorem nl_int (i : Int) : Mr.nl (.int i) = true := by simp [Mr.nl]
theorem nls_web (n : Nat) (cs : List Int) (ts : List (Int × Int)) : nls [.int n, .lst (il cs), .lst (tl ts)] = true :=
  nls_cons (nl_int _) (nls_cons (nl_lst (nls_il cs)) (nls_cons (nl_lst (nls_tl ts)) nls_nil))
theorem nl_web (C : Addr) (n : Nat) (cs : List Int) (ts : List (Int × Int)) : Mr.nl (webV C n cs ts) = true := by
  rw [Mr.nl]
  exact nls_web n cs ts
theorem fld_size {m : List Cl} {C : Addr} {n : Nat} {cs : List Int} {ts : List (Int × Int)} : dFld m C "size" (webV C n cs ts) = .ok (.int n) := fld_ok rfl
theorem fld_cols {m : List Cl} {C : Addr} {n : Nat} {cs : List Int} {ts : List (Int × Int)} : dFld m C "_colours" (webV C n cs ts) = .ok (.lst (il cs)) := fld_ok rfl
theorem fld_ties {m : List Cl} {C : Addr} {n : Nat} {cs : List Int} {ts : List (Int × Int)} : dFld m C "_ties" (webV C n cs ts) = .ok (.lst (tl ts)) := fld_ok rfl
theorem web_colours (C : Addr) (n : Nat) (cs : List Int) (ts : List (Int × Int)) : M_Web_colours C [webV C n cs ts] = .ok (.lst (il cs)) := by
  unfold M_Web_colours
  refine def_rt ?_
  rw [show startD 1 [webV C n cs ts] = [.sh (webV C n cs ts)] from rfl]
  unfold m_Web_colours
  exact ret_ok ((u_ok ((u_ok (var_ok rfl)).trans fld_cols)).trans rfl)
theorem web_ties (C : Addr) (n : Nat) (cs : List Int) (ts : List (Int × Int)) : M_Web_ties C [webV C n cs ts] = .ok (.lst (tl ts)) := by
  unfold M_Web_ties
  refine def_rt ?_
  rw [show startD 1 [webV C n cs ts] = [.sh (webV C n cs ts)] from rfl]
  unfold m_Web_ties
  exact ret_ok ((u_ok ((u_ok (var_ok rfl)).trans fld_ties)).trans rfl)
theorem colours_e {C : Addr} {n : Nat} {cs : List Int} {ts : List (Int × Int)} {mo : Fd → Md Dt} {Δ : Fd} (h : mo Δ = .ok (webV C n cs ts)) : mMeth C "colours" 1 (M_Web_colours C) mo mNil Δ = .ok (.lst (il cs)) :=
  (meth_ok h rfl nil_ok rfl).trans (web_colours ..)
theorem ties_e {C : Addr} {n : Nat} {cs : List Int} {ts : List (Int × Int)} {mo : Fd → Md Dt} {Δ : Fd} (h : mo Δ = .ok (webV C n cs ts)) : mMeth C "ties" 1 (M_Web_ties C) mo mNil Δ = .ok (.lst (tl ts)) :=
  (meth_ok h rfl nil_ok rfl).trans (web_ties ..)
theorem colours_n {C : Addr} {n : Nat} {cs : List Int} {ts : List (Int × Int)} {mo : Fd → Md Dt} {Δ : Fd} (h : mo Δ = .ok (webV C n cs ts)) : mMeth C "colours" 1 (M_Web_colours C) (mNl1 mo) (mNl mNil) Δ = .ok (.lst (il cs)) :=
  (meth_ok (nl1_ok h (nl_web ..)) rfl (nl_ok nil_ok nls_nil) rfl).trans (web_colours ..)
theorem ties_n {C : Addr} {n : Nat} {cs : List Int} {ts : List (Int × Int)} {mo : Fd → Md Dt} {Δ : Fd} (h : mo Δ = .ok (webV C n cs ts)) : mMeth C "ties" 1 (M_Web_ties C) (mNl1 mo) (mNl mNil) Δ = .ok (.lst (tl ts)) :=
  (meth_ok (nl1_ok h (nl_web ..)) rfl (nl_ok nil_ok nls_nil) rfl).trans (web_ties ..)
-- what is handed in is read
structure Reads (m : List Cl) (w : Nat) (A : Dt) (ds : List Dt) : Prop where
  deep : res m 8 A = .ok (.lst ds)
  cell : ∀ x, dCell (m.set w x) A = .ok (.lst ds)
  cell0 : dCell m A = .ok (.lst ds)
theorem mapMd_id {f : Dt → Md Dt} : ∀ {ds : List Dt}, (∀ d ∈ ds, f d = .ok d) → mapMd f ds = .ok ds
  | [], _ => rfl
  | d :: r, h => by
    show ((f d).bind fun e => (mapMd f r).bind fun es => .ok (e :: es)) = _
    rw [h d List.mem_cons_self, bind_ok, mapMd_id fun x hx => h x (List.mem_cons_of_mem _ hx)]
    rfl
theorem res_int (m : List Cl) (k : Nat) (i : Int) : res m (k + 1) (.int i) = .ok (.int i) := rfl
theorem res_il (m : List Cl) (k : Nat) (xs : List Int) : mapMd (res m (k + 1)) (il xs) = .ok (il xs) := mapMd_id fun d h => by
  obtain ⟨x, _, e⟩ := List.mem_map.mp h
  rw [← e]
  rfl
theorem res_tl (m : List Cl) (k : Nat) (ts : List (Int × Int)) : mapMd (res m (k + 2)) (tl ts) = .ok (tl ts) := mapMd_id fun d h => by
  obtain ⟨p, _, e⟩ := List.mem_map.mp h
  rw [← e]
  rfl
theorem reads_il (m : List Cl) (w : Nat) (xs : List Int) : Reads m w (.lst (il xs)) (il xs) where
  deep := by
    show (mapMd (res m 7) (il xs)).bind _ = _
    rw [res_il]
    rfl
  cell := fun _ => rfl
  cell0 := rfl
theorem reads_tl (m : List Cl) (w : Nat) (ts : List (Int × Int)) : Reads m w (.lst (tl ts)) (tl ts) where
  deep := by
    show (mapMd (res m 7) (tl ts)).bind _ = _
    rw [res_tl]
    rfl
  cell := fun _ => rfl
  cell0 := rfl
theorem callF_bl {n : Nat} {mr : List Dt → Md Dt} {ma : Fd → Md (List Dt)} {Δ : Fd} {ds : List Dt} {b : Bool} (h : ma Δ = .ok ds) (hl : nls ds = true) (hn : ds.length = n) (hm : mr ds = .ok (.bl b)) : mCallF n mr (mNl ma) Δ = .ok (.bl b) :=
  callF_ok (nl_ok h hl) hn hm rfl
/-- Web(..) of colours and ties -/
theorem init_ok (C : Addr) {m : List Cl} {w : Nat} {A B : Dt} {n : Nat} {cs : List Int} {ts : List (Int × Int)} (hw : m[w]? = some (.ins C [] [])) (rA : Reads m w A (il cs)) (rB : Reads m w B (tl ts))
    (h1 : 1 ≤ n) (h2 : n ≤ 12) (hl : cs.length = n) (hc : ∀ c ∈ cs, 0 ≤ c ∧ c < 10) (ht : ∀ p ∈ ts, 0 ≤ p.1 ∧ p.1 < p.2 ∧ p.2 < n) (hd : ts.Nodup) :
    X_Web_init__ C m [.loc w, A, B] = .ok (m.set w (.ins C ["size", "_colours", "_ties"] [.int n, .lst (il cs), .lst (tl (sortP ts))])) .non := by
  have wl : w < m.length := (List.getElem?_eq_some_iff.mp hw).1
  have few : ts.length ≤ 66 := few_ties h2 ht hd
  unfold X_Web_init__
  have st : startD 3 [.loc w, A, B] = [.sh (.loc w), .sh A, .sh B] := rfl
  refine xdef_nx (Δ := [.sh (.loc w), .sh A, .sh B]) ?_
  rw [st]
  unfold x_Web_init__
  have c1 : (mT (mCallF 1 M_are_colours (mNl (mCons (mU (res m 8) (mVar 1)) mNil)))) [.sh (.loc w), .sh A, .sh B] = .ok true := t_ok (callF_bl (cons_ok ((u_ok (var_ok rfl)).trans rA.deep) nil_ok) (nls_cons (nl_lst (nls_il cs)) nls_nil) rfl (colours_yes h1 h2 hl hc))
  refine (xseq_nx ((xif_f (xpt_ok (not_ok c1))).trans rfl)).trans ?_
  have ln : (mU dLen (mU (dCell m) (mVar 1))) [.sh (.loc w), .sh A, .sh B] = .ok (.int n) := (u_ok ((u_ok (var_ok rfl)).trans rA.cell0)).trans (len_il cs hl)
  have c2 : (mT (mCallF 2 M_are_ties (mNl (mCons (mU (res m 8) (mVar 2)) (mCons (mU dLen (mU (dCell m) (mVar 1))) mNil))))) [.sh (.loc w), .sh A, .sh B] = .ok true := t_ok (callF_bl (cons_ok ((u_ok (var_ok rfl)).trans rB.deep) (cons_ok ln nil_ok)) (nls_cons (nl_lst (nls_tl ts)) (nls_cons (nl_int _) nls_nil)) rfl (ties_yes (by omega) ht hd))
  refine (xseq_nx ((xif_f (xpt_ok (not_ok c2))).trans rfl)).trans ?_
  refine (xseq_nx (xfld_ok (xp_ok ln) (var_ok rfl) hw (Nat.zero_lt_succ _))).trans ?_
  have e1 : (m.set w (.ins C (putN "size" []) (putD "size" (.int n) [] [])))[w]? = some (.ins C ["size"] [.int n]) := by
    rw [List.getElem?_set_self wl]
    rfl
  refine (xseq_nx (xfld_ok (xp_ok ((u_ok ((u_ok (var_ok rfl)).trans (rA.cell _))).trans (show dList (.lst (il cs)) = .ok (.lst (il cs)) from rfl))) (var_ok rfl) e1 (by show 1 < 1000; omega))).trans ?_
  rw [List.set_set]
  have e2 : (m.set w (.ins C (putN "_colours" ["size"]) (putD "_colours" (.lst (il cs)) ["size"] [.int n])))[w]? = some (.ins C ["size", "_colours"] [.int n, .lst (il cs)]) := by
    rw [List.getElem?_set_self wl]
    rfl
  refine (xfld_ok (xp_ok ((u_ok ((u_ok (var_ok rfl)).trans (rB.cell _))).trans (sorted_tl ts))) (var_ok rfl) e2 (by show 2 < 1000; omega)).trans ?_
  rw [List.set_set]
  rfl
theorem make_web (C : Addr) {m m1 : List Cl} {Δ : Fd} {ma : List Cl → Fd → Mx (List Dt)} {A B : Dt} {n : Nat} {cs : List Int} {ts : List (Int × Int)} (ha : ma m Δ = .ok m1 [A, B]) (dn : noDN m1)
    (rA : Reads (m1 ++ [.ins C [] []]) m1.length A (il cs)) (rB : Reads (m1 ++ [.ins C [] []]) m1.length B (tl ts))
    (h1 : 1 ≤ n) (h2 : n ≤ 12) (hl : cs.length = n) (hc : ∀ c ∈ cs, 0 ≤ c ∧ c < 10) (ht : ∀ p ∈ ts, 0 ≤ p.1 ∧ p.1 < p.2 ∧ p.2 < n) (hd : ts.Nodup) :
    xMakeF C 3 (X_Web_init__ C) ma m Δ = .ok m1 (webV C n cs (sortP ts)) := by
  refine xmakeF_ok ha rfl ?_ dn (nls_web ..)
  have at1 : (m1 ++ [Cl.ins C [] []])[m1.length]? = some (.ins C [] []) := by
    rw [List.getElem?_append_right (Nat.le_refl _), Nat.sub_self]
    rfl
  rw [init_ok C at1 rA rB h1 h2 hl hc ht hd, List.set_append_right _ _ (Nat.le_refl _), Nat.sub_self]
  rfl

-- told, moved, renumbered
theorem ix0 (a b : Dt) : dIx (.tup [a, b]) (.int 0) = .ok a := by
  show (match atI [a, b] ((0 : Nat) : Int) with | some d => Md.ok d | none => Md.bad) = _
  rw [atI_nat (k := 0) rfl]
theorem ix1 (a b : Dt) : dIx (.tup [a, b]) (.int 1) = .ok b := by
  show (match atI [a, b] ((1 : Nat) : Int) with | some d => Md.ok d | none => Md.bad) = _
  rw [atI_nat (k := 1) rfl]
theorem lx0 (a b : Dt) : dIx (.lst [a, b]) (.int 0) = .ok a := by
  show (match atI [a, b] ((0 : Nat) : Int) with | some d => Md.ok d | none => Md.bad) = _
  rw [atI_nat (k := 0) rfl]
theorem lx1 (a b : Dt) : dIx (.lst [a, b]) (.int 1) = .ok b := by
  show (match atI [a, b] ((1 : Nat) : Int) with | some d => Md.ok d | none => Md.bad) = _
  rw [atI_nat (k := 1) rfl]
theorem lcGo_all {i : Nat} {me : Fd → Md Dt} {Δ : Fd} : ∀ ds : List Dt, (∀ d ∈ ds, me (Δ.set i (.sh d)) = .ok (.bl true)) → mLcGo (gsName i) mYes me Δ ds = .ok (List.replicate ds.length (.bl true))
  | [], _ => rfl
  | d :: r, h => by
    have e := lcGo_all r fun y hy => h y (List.mem_cons_of_mem _ hy)
    show ((mYes (Δ.set i (.sh d))).bind fun b => if b = true then (me (Δ.set i (.sh d))).bind fun x => (mLcGo (gsName i) mYes me Δ r).bind fun ds => .ok (x :: ds) else mLcGo (gsName i) mYes me Δ r) = _
    rw [h d List.mem_cons_self, e]
    rfl
theorem all_rep (k : Nat) : dAll (.lst (List.replicate k (.bl true))) = .ok (.bl true) := by
  unfold dAll
  simp [toBls_rep]
theorem lcGo_cons {i : Nat} {me : Fd → Md Dt} {Δ : Fd} (x : Dt) (r : List Dt) : mLcGo (gsName i) mYes me Δ (x :: r) = (me (Δ.set i (.sh x))).bind fun d => (mLcGo (gsName i) mYes me Δ r).bind fun ds => Md.ok (d :: ds) := rfl
theorem lcGo_two {i : Nat} {me : Fd → Md Dt} {Δ : Fd} {x y a b : Dt} (h1 : me (Δ.set i (.sh x)) = .ok a) (h2 : me (Δ.set i (.sh y)) = .ok b) : mLcGo (gsName i) mYes me Δ [x, y] = .ok [a, b] := by
  rw [lcGo_cons, lcGo_cons, h1, h2]
  rfl
theorem told_yes (C : Addr) {n : Nat} {cs : List Int} {ts : List (Int × Int)} (hl : cs.length = n) (hn : n ≤ 1000) (ht : ts.length ≤ 1000) : M_law_told C [webV C n cs ts, .tup [.lst (il cs), .lst (tl ts)]] = .ok (.bl true) := by
  unfold M_law_told
  refine def_rt ?_
  have st : startD 6 [webV C n cs ts, .tup [.lst (il cs), .lst (tl ts)]] = [.sh (webV C n cs ts), .sh (.tup [.lst (il cs), .lst (tl ts)]), .un, .un, .un, .un] := rfl
  rw [st]
  unfold m_law_told
  refine (seq_nx (asg_ok (colours_e (var_ok rfl)))).trans ?_
  refine (seq_nx (asg_ok (ties_e (var_ok rfl)))).trans ?_
  show mSeq _ _ [.sh (webV C n cs ts), .sh (.tup [.lst (il cs), .lst (tl ts)]), .sh (.lst (il cs)), .sh (.lst (tl ts)), .un, .un] = _
  have sz : (mU (dFld [] C "size") (mVar 0)) [.sh (webV C n cs ts), .sh (.tup [.lst (il cs), .lst (tl ts)]), .sh (.lst (il cs)), .sh (.lst (tl ts)), .un, .un] = .ok (.int n) := (u_ok (var_ok rfl)).trans fld_size
  have d0 : (mBin dIx (mVar 1) (mC (.int 0))) [.sh (webV C n cs ts), .sh (.tup [.lst (il cs), .lst (tl ts)]), .sh (.lst (il cs)), .sh (.lst (tl ts)), .un, .un] = .ok (.lst (il cs)) := (bin_ok (var_ok rfl) c_ok).trans (ix0 ..)
  have d1 : (mBin dIx (mVar 1) (mC (.int 1))) [.sh (webV C n cs ts), .sh (.tup [.lst (il cs), .lst (tl ts)]), .sh (.lst (il cs)), .sh (.lst (tl ts)), .un, .un] = .ok (.lst (tl ts)) := (bin_ok (var_ok rfl) c_ok).trans (ix1 ..)
  have w1 : (mT (mCB dIsi (mCons (mVar 2) (mCons (mC (.ty "list")) mNil)))) [.sh (webV C n cs ts), .sh (.tup [.lst (il cs), .lst (tl ts)]), .sh (.lst (il cs)), .sh (.lst (tl ts)), .un, .un] = .ok true := t_ok (by
    unfold mCB
    rw [cons_ok (var_ok rfl) (cons_ok c_ok nil_ok)]
    rfl)
  have w2 : (mT (mCB dIsi (mCons (mVar 3) (mCons (mC (.ty "list")) mNil)))) [.sh (webV C n cs ts), .sh (.tup [.lst (il cs), .lst (tl ts)]), .sh (.lst (il cs)), .sh (.lst (tl ts)), .un, .un] = .ok true := t_ok (by
    unfold mCB
    rw [cons_ok (var_ok rfl) (cons_ok c_ok nil_ok)]
    rfl)
  have w3 : (mT (mCall 1 M_law_whole (mCons (mU (dFld [] C "size") (mVar 0)) mNil))) [.sh (webV C n cs ts), .sh (.tup [.lst (il cs), .lst (tl ts)]), .sh (.lst (il cs)), .sh (.lst (tl ts)), .un, .un] = .ok true := t_ok ((call_ok (ds := [.int n]) (cons_ok sz nil_ok) rfl).trans (law_whole_int n))
  refine (seq_nx ((if_f ((or_f (not_ok w1)).trans ((or_f (not_ok w2)).trans (not_ok w3)))).trans rfl)).trans ?_
  have a1 : (mU dAll (mLc (mItL (mVar 2)) (gsName 4) mYes (mCall 1 M_law_whole (mCons (mVar 4) mNil)) [4])) [.sh (webV C n cs ts), .sh (.tup [.lst (il cs), .lst (tl ts)]), .sh (.lst (il cs)), .sh (.lst (tl ts)), .un, .un] = .ok (.bl true) :=
    (u_ok (lc_ok (ds := il cs) rfl (by rw [il_len]; omega) (lcGo_all _ fun d hd => by
      obtain ⟨x, _, e⟩ := List.mem_map.mp hd
      rw [← e]
      exact (call_ok (ds := [.int x]) (cons_ok (var_ok rfl) nil_ok) rfl).trans (law_whole_int x)))).trans (all_rep _)
  have w4 : (mT (mBin dNe (mU (dFld [] C "size") (mVar 0)) (mU dLen (mBin dIx (mVar 1) (mC (.int 0)))))) [.sh (webV C n cs ts), .sh (.tup [.lst (il cs), .lst (tl ts)]), .sh (.lst (il cs)), .sh (.lst (tl ts)), .un, .un] = .ok false :=
    t_ok ((bin_ok sz ((u_ok d0).trans (len_il cs hl))).trans ((dNe_int2 ..).trans (by rw [decide_eq_true rfl]; rfl)))
  refine (seq_nx ((if_f ((or_f (not_ok (t_ok a1))).trans w4)).trans rfl)).trans ?_
  have a2 : (mU dAll (mLc (mItL (mVar 3)) (gsName 5) mYes (mAndV (mCB dIsi (mCons (mVar 5) (mCons (mC (.ty "tuple")) mNil))) (mAndV (mCall 1 M_law_whole (mCons (mBin dIx (mVar 5) (mC (.int 0))) mNil)) (mCall 1 M_law_whole (mCons (mBin dIx (mVar 5) (mC (.int 1))) mNil)))) [5])) [.sh (webV C n cs ts), .sh (.tup [.lst (il cs), .lst (tl ts)]), .sh (.lst (il cs)), .sh (.lst (tl ts)), .un, .un] = .ok (.bl true) :=
    (u_ok (lc_ok (ds := tl ts) rfl (by rw [tl_len]; omega) (lcGo_all _ fun d hd => by
      obtain ⟨p, _, e⟩ := List.mem_map.mp hd
      rw [← e]
      refine (andV_t ?_).trans ((andV_t ?_).trans ?_)
      · unfold mCB
        rw [cons_ok (var_ok rfl) (cons_ok c_ok nil_ok)]
        rfl
      · exact (call_ok (ds := [.int p.1]) (cons_ok ((bin_ok (var_ok rfl) c_ok).trans (ix0 ..)) nil_ok) rfl).trans (law_whole_int _)
      · exact (call_ok (ds := [.int p.2]) (cons_ok ((bin_ok (var_ok rfl) c_ok).trans (ix1 ..)) nil_ok) rfl).trans (law_whole_int _)))).trans (all_rep _)
  refine (seq_nx ((if_f (not_ok (t_ok a2))).trans rfl)).trans (ret_ok ?_)
  refine (andV_t ((bin_ok (var_ok rfl) d0).trans ((dEq_il ..).trans (by rw [decide_eq_true rfl])))).trans ?_
  exact (bin_ok (var_ok rfl) d1).trans ((dEq_tl ..).trans (by rw [decide_eq_true rfl]))
theorem is_same_ok (C : Addr) (n k : Nat) (cs ds : List Int) (ts us : List (Int × Int)) : M_is_same C [webV C n cs ts, webV C k ds us] = .ok (.bl (decide (cs = ds) && decide (ts = us))) := by
  unfold M_is_same
  refine def_rt ?_
  rw [show startD 2 [webV C n cs ts, webV C k ds us] = [.sh (webV C n cs ts), .sh (webV C k ds us)] from rfl]
  unfold m_is_same
  refine ret_ok ?_
  have e1 := (bin_ok (colours_e (C := C) (Δ := [.sh (webV C n cs ts), .sh (webV C k ds us)]) (mo := mVar 0) (var_ok rfl)) (colours_e (C := C) (mo := mVar 1) (var_ok rfl))).trans (dEq_il cs ds)
  have e2 := (bin_ok (ties_e (C := C) (Δ := [.sh (webV C n cs ts), .sh (webV C k ds us)]) (mo := mVar 0) (var_ok rfl)) (ties_e (C := C) (mo := mVar 1) (var_ok rfl))).trans (dEq_tl ts us)
  by_cases c : cs = ds
  · rw [decide_eq_true c] at e1 ⊢
    rw [Bool.true_and]
    exact (andV_t e1).trans e2
  · rw [decide_eq_false c] at e1 ⊢
    exact andV_f e1
/-- a web's ties, moved -/
abbrev movT (ts : List (Int × Int)) (r : List Int) : List (Int × Int) := sortP (ts.map (mvP r))
theorem movW {n : Nat} {cs r : List Int} {ts : List (Int × Int)} (W : WebD n cs ts) (hr : r.Perm (nums 0 n)) : WebD n (movC cs r n) (movT ts r) := by
  have hE2 : ∀ p ∈ ts.map (mvP r), 0 ≤ p.1 ∧ p.1 < p.2 ∧ p.2 < n := fun p hp => by
    obtain ⟨q, hq, e⟩ := List.mem_map.mp hp
    rw [← e]
    exact mvP_ok hr (W.tie q hq)
  have so := sorted_ok hE2 (mvP_nodup hr W.tie (ltP_nodup W.ris))
  exact ⟨W.pos, W.top, movC_len .., movC_ok hr W.len W.col, so.1, so.2⟩
theorem WebD.few {n : Nat} {cs : List Int} {ts : List (Int × Int)} (W : WebD n cs ts) : ts.length ≤ 66 := few_ties W.top W.tie (ltP_nodup W.ris)
/-- the row back, place by place -/
def backL (r : List Int) (n : Nat) : List Int := (nums 0 n).map fun x => ((r.idxOf x : Nat) : Int)
theorem flat_il (xs : List Int) : (il xs).all flatD = true := by
  rw [List.all_eq_true]
  intro d h
  obtain ⟨x, _, e⟩ := List.mem_map.mp h
  rw [← e]
  rfl
end K2
namespace K2
open PySem L2 Mr
-- what tells no web
structure Plain (d : Dt) : Prop where
  q : qok d = true
  l : Mr.nl d = true
  r : ∀ (m : List Cl) (k : Nat), res m (k + 4) d = .ok d
theorem plain_int (i : Int) : Plain (.int i) := ⟨by simp [qok], by simp [Mr.nl], fun _ _ => rfl⟩
theorem plain_bl (b : Bool) : Plain (.bl b) := ⟨by simp [qok], by simp [Mr.nl], fun _ _ => rfl⟩
theorem plain_str (s : Str) : Plain (.str s) := ⟨by simp [qok], by simp [Mr.nl], fun _ _ => rfl⟩
theorem plain_non : Plain .non := ⟨by simp [qok], by simp [Mr.nl], fun _ _ => rfl⟩
theorem plain_dic : Plain .dic := ⟨by simp [qok], by simp [Mr.nl], fun _ _ => rfl⟩
theorem plain_nil : Plain (.lst []) := ⟨by simp [qok, qok.go], by simp [Mr.nl, nls], fun _ _ => rfl⟩
theorem plain_l1 (i : Int) : Plain (.lst [.int i]) := ⟨by simp [qok, qok.go], by simp [Mr.nl, nls], fun _ _ => rfl⟩
theorem plain_l2 (i j : Int) : Plain (.lst [.int i, .int j]) := ⟨by simp [qok, qok.go], by simp [Mr.nl, nls], fun _ _ => rfl⟩
theorem plain_pr (i j : Int) : Plain (.tup [.int i, .int j]) := ⟨by simp [qok, qok.go], by simp [Mr.nl, nls], fun _ _ => rfl⟩
theorem qok_all : ∀ {ds : List Dt}, (∀ d ∈ ds, Plain d) → qok.go ds = true
  | [], _ => by simp [qok.go]
  | d :: r, h => by rw [qok.go, (h d List.mem_cons_self).q, qok_all fun x hx => h x (List.mem_cons_of_mem _ hx)]; rfl
theorem nls_all : ∀ {ds : List Dt}, (∀ d ∈ ds, Plain d) → nls ds = true
  | [], _ => by simp [nls]
  | d :: r, h => by rw [nls, (h d List.mem_cons_self).l, nls_all fun x hx => h x (List.mem_cons_of_mem _ hx)]; rfl
theorem res_all' {ds : List Dt} (h : ∀ d ∈ ds, Plain d) (m : List Cl) : res m 8 (.lst ds) = .ok (.lst ds) := by
  show (mapMd (res m 7) ds).bind _ = _
  rw [mapMd_id fun d hd => (h d hd).r m 3]
  rfl
theorem res_allT {ds : List Dt} (h : ∀ d ∈ ds, Plain d) (m : List Cl) : res m 8 (.tup ds) = .ok (.tup ds) := by
  show (mapMd (res m 7) ds).bind _ = _
  rw [mapMd_id fun d hd => (h d hd).r m 3]
  rfl
theorem plain_il (xs : List Int) : ∀ d ∈ il xs, Plain d := fun d h => by
  obtain ⟨x, _, e⟩ := List.mem_map.mp h
  rw [← e]
  exact plain_int x
theorem plain_tl (ts : List (Int × Int)) : ∀ d ∈ tl ts, Plain d := fun d h => by
  obtain ⟨x, _, e⟩ := List.mem_map.mp h
  rw [← e]
  exact plain_pr x.1 x.2
theorem isNot_no {d : Dt} (h : nolist d = true) {ma : Fd → Md Dt} {Δ : Fd} (hm : ma Δ = .ok d) : (mT (mBin dIsNot (mU dType ma) (mC (.ty "list")))) Δ = .ok true := t_ok (by
  obtain ⟨t, e1, e2⟩ := md_bind (isNot_nl h)
  exact (bin_ok ((u_ok hm).trans e1) c_ok).trans e2)
theorem colours_not {d : Dt} (h : nolist d = true) : M_are_colours [d] = .ok (.bl false) := by
  unfold M_are_colours
  refine def_rt ?_
  rw [show startD 2 [d] = [.sh d, .un] from rfl]
  unfold m_are_colours
  exact seq_rt ((if_t (or_t (isNot_no h (var_ok rfl)))).trans (ret_ok c_ok))
theorem ties_not {d : Dt} (h : nolist d = true) (n : Int) : M_are_ties [d, .int n] = .ok (.bl false) := by
  unfold M_are_ties
  refine def_rt ?_
  rw [show startD 3 [d, .int n] = [.sh d, .sh (.int n), .un] from rfl]
  unfold m_are_ties
  exact seq_rt ((if_t (or_t (isNot_no h (var_ok rfl)))).trans (ret_ok c_ok))
/-- handed in as colours and ties, they are refused -/
structure Wrong (A B : Dt) : Prop where
  nlA : Mr.nl A = true
  nlB : Mr.nl B = true
  deepA : ∀ m, res m 8 A = .ok A
  deepB : ∀ m, res m 8 B = .ok B
  no : M_are_colours [A] = .ok (.bl false) ∨ ∃ cs : List Int, A = .lst (il cs) ∧ M_are_colours [A] = .ok (.bl true) ∧ M_are_ties [B, .int cs.length] = .ok (.bl false)
theorem init_no (C : Addr) {m : List Cl} {w : Nat} {A B : Dt} (h : Wrong A B) : X_Web_init__ C m [.loc w, A, B] = .exc m "BadWeb" := by
  unfold X_Web_init__
  refine xdef_exc ?_
  rw [show startD 3 [.loc w, A, B] = [.sh (.loc w), .sh A, .sh B] from rfl]
  unfold x_Web_init__
  rcases h.no with no | ⟨cs, rfl, yes, no⟩
  · have c1 : (mT (mCallF 1 M_are_colours (mNl (mCons (mU (res m 8) (mVar 1)) mNil)))) [.sh (.loc w), .sh A, .sh B] = .ok false := t_ok (callF_bl (cons_ok ((u_ok (var_ok rfl)).trans (h.deepA m)) nil_ok) (nls_cons h.nlA nls_nil) rfl no)
    exact xseq_exc ((xif_t (xpt_ok (not_ok c1))).trans (xps_exc rfl))
  · have c1 : (mT (mCallF 1 M_are_colours (mNl (mCons (mU (res m 8) (mVar 1)) mNil)))) [.sh (.loc w), .sh (.lst (il cs)), .sh B] = .ok true := t_ok (callF_bl (cons_ok ((u_ok (var_ok rfl)).trans (h.deepA m)) nil_ok) (nls_cons h.nlA nls_nil) rfl yes)
    have ln : (mU dLen (mU (dCell m) (mVar 1))) [.sh (.loc w), .sh (.lst (il cs)), .sh B] = .ok (.int cs.length) := (u_ok ((u_ok (var_ok rfl)).trans (show dCell m (.lst (il cs)) = .ok (.lst (il cs)) from rfl))).trans (len_il cs rfl)
    have c2 : (mT (mCallF 2 M_are_ties (mNl (mCons (mU (res m 8) (mVar 2)) (mCons (mU dLen (mU (dCell m) (mVar 1))) mNil))))) [.sh (.loc w), .sh (.lst (il cs)), .sh B] = .ok false := t_ok (callF_bl (cons_ok ((u_ok (var_ok rfl)).trans (h.deepB m)) (cons_ok ln nil_ok)) (nls_cons h.nlB (nls_cons (nl_int _) nls_nil)) rfl no)
    refine (xseq_nx ((xif_f (xpt_ok (not_ok c1))).trans rfl)).trans ?_
    exact xseq_exc ((xif_t (xpt_ok (not_ok c2))).trans (xps_exc rfl))
theorem drop_exc' {ma : Fd → Md Dt} {Δ : Fd} {c : Str} (h : ma Δ = .exc c) : mDrop ma Δ = .exc c := by
  unfold mDrop
  rw [h]
  rfl
theorem try_exc' {c : Str} {res : Dt} {mb : Fd → Md Out} {Δ : Fd} (h : mb Δ = .exc c) : mTry c res mb Δ = .ok (.rt res) := by
  unfold mTry
  rw [h]
  exact if_pos rfl
theorem mMake_exc {C : Addr} {n : Nat} {mir : List Cl → List Dt → Mx Dt} {ma : Fd → Md (List Dt)} {Δ : Fd} {ds : List Dt} {c : Str} {x : Cl} (h : ma Δ = .ok ds) (hn : ds.length + 1 = n) (hm : mir [.ins C [] []] (.loc 0 :: ds) = .exc [x] c) : mMake C n mir ma Δ = .exc c := by
  unfold mMake
  rw [h, bind_ok, if_pos hn, hm]
  rfl
theorem made_no (C : Addr) {A B : Dt} (h : Wrong A B) : M_law_made C [A, B] = .ok (.bl true) := by
  unfold M_law_made
  refine def_rt ?_
  rw [show startD 3 [A, B] = [.sh A, .sh B, .un] from rfl]
  unfold m_law_made
  exact seq_rt (try_exc' (drop_exc' (mMake_exc (ds := [A, B]) (cons_ok (var_ok rfl) (cons_ok (var_ok rfl) nil_ok)) rfl (init_no C h))))
theorem cut_lo (ds : List Dt) (k : Nat) (h : k ≤ ds.length) : cutD ds (some (k : Int)) none = ds.drop k := by
  unfold cutD
  rw [HT.sIx_none, HT.sIx_nat, Nat.min_eq_left h]
  rw [← List.length_drop, List.take_length]
theorem cut_hi (ds : List Dt) (k : Nat) (h : k ≤ ds.length) : cutD ds none (some (k : Int)) = ds.take k := by
  unfold cutD
  rw [HT.sIx_none, HT.sIx_nat, Nat.min_eq_left h, Nat.sub_zero, List.drop_zero]
theorem sl_lo {ma mk : Fd → Md Dt} {Δ : Fd} {ds : List Dt} {k : Nat} (h : ma Δ = .ok (.lst ds)) (h2 : mk Δ = .ok (.int k)) (hk : k ≤ ds.length) : mSl ma (mSoO mk) mNoO Δ = .ok (.lst (ds.drop k)) := by
  unfold mSl mSoO
  rw [h, h2, ← cut_lo ds k hk]
  rfl
theorem sl_hi {ma mk : Fd → Md Dt} {Δ : Fd} {ds : List Dt} {k : Nat} (h : ma Δ = .ok (.lst ds)) (h2 : mk Δ = .ok (.int k)) (hk : k ≤ ds.length) : mSl ma mNoO (mSoO mk) Δ = .ok (.lst (ds.take k)) := by
  unfold mSl mSoO
  rw [h, h2, ← cut_hi ds k hk]
  rfl
theorem cat_ok' {ds es : List Dt} (h : ds.length + es.length ≤ 16777216) : dCat (.lst ds) (.lst es) = .ok (.lst (ds ++ es)) := if_pos h
theorem at_lst {ds : List Dt} {k : Nat} {d : Dt} (h : ds[k]? = some d) : dIx (.lst ds) (.int k) = .ok d := by
  show (match atI ds (k : Int) with | some d => Md.ok d | none => Md.bad) = _
  rw [atI_nat h]
theorem all_no {p : Dt → Bool} {ds : List Dt} {d : Dt} (h : d ∈ ds) (hp : p d = false) : ds.all p = false := by
  cases c : ds.all p with
  | false => rfl
  | true => rw [List.all_eq_true.mp c d h] at hp; cases hp
/-- colours with one that is none -/
theorem wrong_colour {ds : List Dt} {d B : Dt} (hd : d ∈ ds) (hb : belowB d 10 = false) (hp : ∀ x ∈ ds, pl x = true ∧ Plain x) (hB : Mr.nl B = true) (rB : ∀ m, res m 8 B = .ok B) : Wrong (.lst ds) B where
  nlA := nl_lst (nls_all fun x h => (hp x h).2)
  nlB := hB
  deepA := res_all' fun x h => (hp x h).2
  deepB := rB
  no := by
    refine .inl ?_
    rw [colours_lst (fun x h => (hp x h).1) (qok_all fun x h => (hp x h).2)]
    unfold colsB
    rw [all_no hd hb, Bool.and_false]
theorem wrong_ties {n : Nat} {cs : List Int} {ts : List (Int × Int)} (W : WebD n cs ts) {ds : List Dt} (hl : ds.length ≤ 76) (hp : ∀ x ∈ ds, plt x = true ∧ Plain x) (hn : tiesB ds n = false) : Wrong (.lst (il cs)) (.lst ds) where
  nlA := nl_lst (nls_il cs)
  nlB := nl_lst (nls_all fun x h => (hp x h).2)
  deepA := fun m => (reads_il m 0 cs).deep
  deepB := res_all' fun x h => (hp x h).2
  no := by
    refine .inr ⟨cs, rfl, colours_yes W.pos W.top W.len W.col, ?_⟩
    rw [ties_lst (fun x h => (hp x h).1) (qok_all fun x h => (hp x h).2) hl, W.len, hn]
theorem wrong_not {n : Nat} {cs : List Int} {ts : List (Int × Int)} (W : WebD n cs ts) {d : Dt} (h : nolist d = true) (hl : Mr.nl d = true) (hr : ∀ m, res m 8 d = .ok d) : Wrong (.lst (il cs)) d where
  nlA := nl_lst (nls_il cs)
  nlB := hl
  deepA := fun m => (reads_il m 0 cs).deep
  deepB := hr
  no := .inr ⟨cs, rfl, colours_yes W.pos W.top W.len W.col, ties_not h _⟩

end K2
namespace K2
open PySem L2 Mr
-- _law_wrong
def oddC : List Dt := [.int (-1), .int 10, .bl true, .non, .str ("1" : Str), .int (10 ^ (9 : Int).toNat), .lst [.int 1], .lst []]
theorem oddC_no : ∀ d ∈ oddC, belowB d 10 = false ∧ pl d = true ∧ Plain d := by
  intro d hd
  unfold oddC at hd
  simp only [List.mem_cons, List.not_mem_nil, or_false] at hd
  rcases hd with rfl | rfl | rfl | rfl | rfl | rfl | rfl | rfl
  · exact ⟨rfl, rfl, plain_int _⟩
  · exact ⟨rfl, rfl, plain_int _⟩
  · exact ⟨rfl, rfl, plain_bl _⟩
  · exact ⟨rfl, rfl, plain_non⟩
  · exact ⟨rfl, rfl, plain_str _⟩
  · exact ⟨by show (decide ((0 : Int) ≤ 10 ^ (9 : Int).toNat) && decide ((10 : Int) ^ (9 : Int).toNat < 10)) = false; decide, rfl, plain_int _⟩
  · exact ⟨rfl, rfl, plain_l1 _⟩
  · exact ⟨rfl, rfl, plain_nil⟩
def oddT : List Dt := [.tup [.int 0, .int 12], .tup [.int (-1), .int 0], .tup [.int 1, .int 0], .tup [.int 0, .int 0], .lst [.int 0, .int 1], .tup [.int 0], .tup [.int 0, .int 1, .int 2], .non, .tup [.bl false, .int 1], .tup [.str ("0" : Str), .int 1], .tup [.non, .int 1], .tup [.int 0, .lst [.int 1]]]
def oddT11 : List Dt := [.tup [.int 0, .int 12], .tup [.int (-1), .int 0], .tup [.int 1, .int 0], .tup [.int 0, .int 0], .lst [.int 0, .int 1], .tup [.int 0], .tup [.int 0, .int 1, .int 2], .non, .tup [.bl false, .int 1], .tup [.str ("0" : Str), .int 1], .tup [.non, .int 1]]
theorem oddT_no {n : Nat} (hn : n ≤ 12) : ∀ d ∈ oddT, tieB d n = false ∧ plt d = true ∧ Plain d := by
  intro d hd
  unfold oddT at hd
  simp only [List.mem_cons, List.not_mem_nil, or_false] at hd
  rcases hd with rfl | rfl | rfl | rfl | rfl | rfl | rfl | rfl | rfl | rfl | rfl | rfl
  · refine ⟨?_, rfl, plain_pr ..⟩
    show (decide ((0 : Int) ≤ 0) && decide ((0 : Int) < n) && (decide ((0 : Int) ≤ 12) && decide ((12 : Int) < n) && decide ((0 : Int) < 12))) = false
    rw [decide_eq_false (show ¬ ((12 : Int) < n) by omega), Bool.and_false, Bool.false_and, Bool.and_false]
  · exact ⟨rfl, rfl, plain_pr ..⟩
  · refine ⟨?_, rfl, plain_pr ..⟩
    show (decide ((0 : Int) ≤ 1) && decide ((1 : Int) < n) && (decide ((0 : Int) ≤ 0) && decide ((0 : Int) < n) && decide ((1 : Int) < 0))) = false
    rw [decide_eq_false (show ¬ ((1 : Int) < 0) by omega), Bool.and_false, Bool.and_false]
  · refine ⟨?_, rfl, plain_pr ..⟩
    show (decide ((0 : Int) ≤ 0) && decide ((0 : Int) < n) && (decide ((0 : Int) ≤ 0) && decide ((0 : Int) < n) && decide ((0 : Int) < 0))) = false
    rw [decide_eq_false (show ¬ ((0 : Int) < 0) by omega), Bool.and_false, Bool.and_false]
  · exact ⟨rfl, rfl, plain_l2 ..⟩
  · exact ⟨rfl, rfl, by simp [qok, qok.go], by simp [Mr.nl, nls], fun _ _ => rfl⟩
  · exact ⟨rfl, rfl, by simp [qok, qok.go], by simp [Mr.nl, nls], fun _ _ => rfl⟩
  · exact ⟨rfl, rfl, plain_non⟩
  · exact ⟨rfl, rfl, by simp [qok, qok.go], by simp [Mr.nl, nls], fun _ _ => rfl⟩
  · exact ⟨rfl, rfl, by simp [qok, qok.go], by simp [Mr.nl, nls], fun _ _ => rfl⟩
  · exact ⟨rfl, rfl, by simp [qok, qok.go], by simp [Mr.nl, nls], fun _ _ => rfl⟩
  · exact ⟨rfl, rfl, by simp [qok, qok.go], by simp [Mr.nl, nls], fun _ _ => rfl⟩
theorem tiesB_odd {ds : List Dt} {d : Dt} {n : Int} (h : d ∈ ds) (hd : tieB d n = false) : tiesB ds n = false := by
  unfold tiesB
  rw [all_no h hd, Bool.false_and]
theorem tiesB_twice {ts : List (Int × Int)} {p : Int × Int} (h : p ∈ ts) (n : Int) : tiesB (tl (ts ++ [p])) n = false := by
  unfold tiesB
  rw [toPairs_tl]
  have e : decide (ts ++ [p]).Nodup = false := decide_eq_false fun z => by
    have := (List.nodup_append.mp z).2.2 p h p (List.mem_singleton.mpr rfl)
    exact this rfl
  show (((tl (ts ++ [p])).all fun d => tieB d n) && decide (ts ++ [p]).Nodup) = false
  rw [e, Bool.and_false]
theorem wrong_ok {n : Nat} {cs : List Int} {ts : List (Int × Int)} (W : WebD n cs ts) (cell : Int) : ∃ A B, M_law_wrong [.lst (il cs), .lst (tl ts), .int cell] = .ok (.tup [A, B]) ∧ Wrong A B := by
  have few := W.few
  have pos := W.pos
  have top := W.top
  have len := W.len
  have p8 : ∀ i : Int, dIC posOk (fun i j => .int (i % j)) (.int i) (.int 8) = .ok (.int (i % 8)) := fun i => pos_ok (by decide)
  have p12 : ∀ i : Int, dIC posOk (fun i j => .int (i % j)) (.int i) (.int 12) = .ok (.int (i % 12)) := fun i => pos_ok (by decide)
  have p4 : ∀ i : Int, dIC posOk (fun i j => .int (i % j)) (.int i) (.int 4) = .ok (.int (i % 4)) := fun i => pos_ok (by decide)
  have d8 : ∀ i : Int, dIC divOk (fun i j => .int (i / j)) (.int i) (.int 8) = .ok (.int (i / 8)) := fun i => div_ok (by decide) (by decide)
  have d96 : ∀ i : Int, dIC divOk (fun i j => .int (i / j)) (.int i) (.int 96) = .ok (.int (i / 96)) := fun i => div_ok (by decide) (by decide)
  have pn : ∀ i : Int, dIC posOk (fun i j => .int (i % j)) (.int i) (.int n) = .ok (.int (i % n)) := fun i => pos_ok (by omega)
  have pt : ∀ i : Int, dIC posOk (fun i j => .int (i % j)) (.int i) (.int ((ts.length : Int) + 1)) = .ok (.int (i % ((ts.length : Int) + 1))) := fun i => pos_ok (by omega)
  obtain ⟨at_, hat⟩ : ∃ k : Nat, cell / 8 % n = (k : Int) := ⟨(cell / 8 % n).toNat, by have := Int.emod_nonneg (cell / 8) (show (n : Int) ≠ 0 by omega); omega⟩
  have at_lt : at_ < n := by have := Int.emod_lt_of_pos (cell / 8) (show (0 : Int) < n by omega); omega
  obtain ⟨pc, hpc⟩ : ∃ k : Nat, cell / 8 % ((ts.length : Int) + 1) = (k : Int) := ⟨(cell / 8 % ((ts.length : Int) + 1)).toNat, by have := Int.emod_nonneg (cell / 8) (show ((ts.length : Int) + 1) ≠ 0 by omega); omega⟩
  have pc_le : pc ≤ ts.length := by have := Int.emod_lt_of_pos (cell / 8) (show (0 : Int) < (ts.length : Int) + 1 by omega); omega
  obtain ⟨way, hway⟩ : ∃ k : Nat, cell % 8 = (k : Int) := ⟨(cell % 8).toNat, by omega⟩
  have way8 : way < 8 := by omega
  obtain ⟨q, hq⟩ : ∃ k : Nat, cell / 8 % 4 = (k : Int) := ⟨(cell / 8 % 4).toNat, by omega⟩
  have q4 : q < 4 := by omega
  have st : startD 9 [.lst (il cs), .lst (tl ts), .int cell] = [.sh (.lst (il cs)), .sh (.lst (tl ts)), .sh (.int cell), .un, .un, .un, .un, .un, .un] := rfl
  have ln0 : dLen (.lst (il cs)) = .ok (.int n) := len_il cs len
  have ln1 : dLen (.lst (tl ts)) = .ok (.int (ts.length : Int)) := by
    show Md.ok (Dt.int ((tl ts).length : Int)) = _
    rw [tl_len]
  suffices h : ∃ A B, m_law_wrong [.sh (.lst (il cs)), .sh (.lst (tl ts)), .sh (.int cell), .un, .un, .un, .un, .un, .un] = .ok (.rt (.tup [A, B])) ∧ Wrong A B by
    obtain ⟨A, B, e, w⟩ := h
    exact ⟨A, B, by unfold M_law_wrong; exact def_rt (by rw [st]; exact e), w⟩
  unfold m_law_wrong
  rw [seq_nx (asg_ok ((u_ok (var_ok rfl)).trans ln0))]
  rw [seq_nx (asg_ok (d := .int at_) (by rw [← hat]; simp only [mSeq, mIfS, mT, mBin, mVar, mOwn, mC, mU, mRet, mRetO, mAsg, mOrV, mAndV, mNotV, mAnd, mOr, mNot, mCons, mNil, mCB, mNext, bind_ok, ite_bind, dI, dEq_int, dNe_int, dEq_bl, dNe_bl, dLt, dGt, dLe, dGe, dMax, dMin, List.getElem?_cons_zero, List.getElem?_cons_succ, List.set_cons_zero, List.set_cons_succ, if_true, if_false, Bool.false_eq_true, Bool.true_eq_false, reduceIte, ite_true, ite_false, d8, pn]))]
  rw [seq_nx (asg_ok (d := .int pc) (by rw [← hpc]; simp only [mSeq, mIfS, mT, mBin, mVar, mOwn, mC, mU, mRet, mRetO, mAsg, mOrV, mAndV, mNotV, mAnd, mOr, mNot, mCons, mNil, mCB, mNext, bind_ok, ite_bind, dI, dEq_int, dNe_int, dEq_bl, dNe_bl, dLt, dGt, dLe, dGe, dMax, dMin, List.getElem?_cons_zero, List.getElem?_cons_succ, List.set_cons_zero, List.set_cons_succ, if_true, if_false, Bool.false_eq_true, Bool.true_eq_false, reduceIte, ite_true, ite_false, d8, ln1, pt]))]
  rw [seq_nx (asg_ok (d := .int way) (by rw [← hway]; simp only [mSeq, mIfS, mT, mBin, mVar, mOwn, mC, mU, mRet, mRetO, mAsg, mOrV, mAndV, mNotV, mAnd, mOr, mNot, mCons, mNil, mCB, mNext, bind_ok, ite_bind, dI, dEq_int, dNe_int, dEq_bl, dNe_bl, dLt, dGt, dLe, dGe, dMax, dMin, List.getElem?_cons_zero, List.getElem?_cons_succ, List.set_cons_zero, List.set_cons_succ, if_true, if_false, Bool.false_eq_true, Bool.true_eq_false, reduceIte, ite_true, ite_false, p8]))]
  generalize hF : ((((([.sh (.lst (il cs)), .sh (.lst (tl ts)), .sh (.int cell), .un, .un, .un, .un, .un, .un] : Fd).set 3 (.sh (.int n))).set 4 (.sh (.int at_))).set 5 (.sh (.int pc))).set 6 (.sh (.int way))) = F
  have v0 : mVar 0 F = .ok (.lst (il cs)) := by rw [← hF]; exact var_ok rfl
  have v1 : mVar 1 F = .ok (.lst (tl ts)) := by rw [← hF]; exact var_ok rfl
  have v2 : mVar 2 F = .ok (.int cell) := by rw [← hF]; exact var_ok rfl
  have v4 : mVar 4 F = .ok (.int at_) := by rw [← hF]; exact var_ok rfl
  have v5 : mVar 5 F = .ok (.int pc) := by rw [← hF]; exact var_ok rfl
  have tst : ∀ k : Int, (mT (mBin dEq (mVar 6) (mC (.int k)))) F = .ok (decide ((way : Int) = k)) := fun k => t_ok ((bin_ok (by rw [← hF]; exact var_ok rfl) c_ok).trans ((dEq_int ..).trans (by rw [Bool.beq_eq_decide_eq])))
  have idx8 : (mBin (dIC posOk fun i j => .int (i % j)) (mBin (dIC divOk fun i j => .int (i / j)) (mVar 2) (mC (.int 8))) (mC (.int 4))) F = .ok (.int q) := by
    rw [← hq]
    exact (bin_ok ((bin_ok v2 c_ok).trans (d8 cell)) c_ok).trans (p4 _)
  by_cases w0 : way = 0
  · -- a colour
    subst w0
    obtain ⟨k, hk⟩ : ∃ k : Nat, cell / 96 % 8 = (k : Int) := ⟨(cell / 96 % 8).toNat, by omega⟩
    have k8 : k < oddC.length := by show k < 8; omega
    obtain ⟨d, hd⟩ : ∃ d, oddC[k]? = some d := ⟨_, List.getElem?_eq_getElem k8⟩
    have od := oddC_no d (List.mem_of_getElem? hd)
    have idx : (mBin (dIC posOk fun i j => .int (i % j)) (mBin (dIC divOk fun i j => .int (i / j)) (mVar 2) (mC (.int 96))) (mC (.int 8))) F = .ok (.int k) := by
      rw [← hk]
      exact (bin_ok ((bin_ok v2 c_ok).trans (d96 cell)) c_ok).trans (p8 _)
    have pw : (mBin (dIC powOk fun i j => .int (i ^ j.toNat)) (mC (.int 10)) (mC (.int 9))) F = .ok (.int (10 ^ (9 : Int).toNat)) := (bin_ok c_ok c_ok).trans (dIC_ok (by decide))
    have e7 := (bin_ok (f := dIx) (lst_ok (ds := oddC) (cons_ok (a := .int (-1)) (ma := mNeg (mC (.int 1))) (Δ := F) rfl (cons_ok c_ok (cons_ok c_ok (cons_ok c_ok (cons_ok c_ok (cons_ok pw (cons_ok (lst_ok (ds := [.int 1]) (cons_ok c_ok nil_ok) (by show 1 ≤ 16777216; omega)) (cons_ok (lst_ok nil_ok (Nat.zero_le _)) nil_ok)))))))) (by show 8 ≤ 16777216; omega)) idx).trans (at_lst hd)
    refine ⟨.lst ((il cs).take at_ ++ [d] ++ (il cs).drop (at_ + 1)), .lst (tl ts), seq_rt ((if_t (tst 0)).trans ((seq_nx (asg_ok e7)).trans (ret_ok (tup2 ?_ (by subst hF; exact var_ok rfl))))), ?_⟩
    · have u0 : mVar 0 (F.set 7 (.sh d)) = .ok (.lst (il cs)) := by subst hF; exact var_ok rfl
      have u4 : mVar 4 (F.set 7 (.sh d)) = .ok (.int at_) := by subst hF; exact var_ok rfl
      have u7 : mVar 7 (F.set 7 (.sh d)) = .ok d := by subst hF; exact var_ok rfl
      have a1 := sl_hi u0 u4 (by rw [il_len]; omega)
      have a2 := sl_lo (k := at_ + 1) u0 (mk := (mBin (dI fun i j => .int (i + j)) (mVar 4) (mC (.int 1)))) ((bin_ok u4 c_ok).trans rfl) (by rw [il_len]; omega)
      have l1 : ((il cs).take at_).length = at_ := by rw [List.length_take, il_len]; omega
      have l2 : ((il cs).drop (at_ + 1)).length = n - (at_ + 1) := by rw [List.length_drop, il_len, len]
      have a3 := (bin_ok a1 (lst_ok (ds := [d]) (cons_ok u7 nil_ok) (by show 1 ≤ 16777216; omega))).trans (cat_ok' (by rw [l1]; show at_ + 1 ≤ 16777216; omega))
      exact (bin_ok a3 a2).trans (cat_ok' (by rw [List.length_append, l1, l2]; show at_ + 1 + (n - (at_ + 1)) ≤ 16777216; omega))
    · refine wrong_colour (d := d) (List.mem_append_left _ (List.mem_append_right _ (List.mem_singleton.mpr rfl))) od.1 (fun x hx => ?_) (nl_lst (nls_tl ts)) fun m => (reads_tl m 0 ts).deep
      rcases List.mem_append.mp hx with hx | hx
      · rcases List.mem_append.mp hx with hx | hx
        · have := List.mem_of_mem_take hx
          exact ⟨pl_il cs x this, plain_il cs x this⟩
        · rw [List.mem_singleton.mp hx]
          exact od.2
      · have := List.mem_of_mem_drop hx
        exact ⟨pl_il cs x this, plain_il cs x this⟩
  rw [seq_nx ((if_f ((tst 0).trans (by rw [decide_eq_false (by omega)]))).trans rfl)]
  by_cases w1 : way = 1
  · -- a tie
    subst w1
    obtain ⟨k, hk⟩ : ∃ k : Nat, cell / 96 % 12 = (k : Int) := ⟨(cell / 96 % 12).toNat, by omega⟩
    have k12 : k < oddT.length := by show k < 12; omega
    obtain ⟨d, hd⟩ : ∃ d, oddT[k]? = some d := ⟨_, List.getElem?_eq_getElem k12⟩
    have od := oddT_no top d (List.mem_of_getElem? hd)
    have t1C : ∀ {Δ : Fd} {a : Dt}, mTup (mCons (mC a) mNil) Δ = .ok (.tup [a]) := fun {Δ a} => tup_ok (cons_ok c_ok nil_ok) (by show 1 ≤ 16777216; omega)
    have t3C : ∀ {Δ : Fd} {a b c : Dt}, mTup (mCons (mC a) (mCons (mC b) (mCons (mC c) mNil))) Δ = .ok (.tup [a, b, c]) := fun {Δ a b c} => tup_ok (cons_ok c_ok (cons_ok c_ok (cons_ok c_ok nil_ok))) (by show 3 ≤ 16777216; omega)
    have l2C : ∀ {Δ : Fd} {a b : Dt}, mLst (mCons (mC a) (mCons (mC b) mNil)) Δ = .ok (.lst [a, b]) := fun {Δ a b} => lst_ok (cons_ok c_ok (cons_ok c_ok nil_ok)) (by show 2 ≤ 16777216; omega)
    have l1C : ∀ {Δ : Fd} {a : Dt}, mLst (mCons (mC a) mNil) Δ = .ok (.lst [a]) := fun {Δ a} => lst_ok (cons_ok c_ok nil_ok) (by show 1 ≤ 16777216; omega)
    have e8 := asgO_ok (i := 8) (lst_ok (ds := oddT11) (cons_ok (Δ := F) tup2C (cons_ok (tup2 (a := .int (-1)) (ma := mNeg (mC (.int 1))) rfl (c_ok (d := .int 0))) (cons_ok tup2C (cons_ok tup2C (cons_ok l2C (cons_ok t1C (cons_ok t3C (cons_ok c_ok (cons_ok tup2C (cons_ok tup2C (cons_ok tup2C nil_ok))))))))))) (by show 11 ≤ 16777216; omega))
    have e9 := app_ok (i := 8) (Δ := F.set 8 (.ow oddT11)) (ds := oddT11) (by subst hF; rfl) (by show 11 < 16777216; omega) (tup2 (c_ok (d := .int 0)) (l1C (a := .int 1)))
    refine ⟨.lst (il cs), .lst ((tl ts).take pc ++ [d] ++ (tl ts).drop pc), seq_rt ((if_t (tst 1)).trans ((seq_nx e8).trans ((seq_nx e9).trans (ret_ok (tup2 (by subst hF; exact var_ok rfl) ?_))))), ?_⟩
    · generalize hG : ((F.set 8 (Sd.ow _)).set 8 (Sd.ow _)) = G
      have u1 : mVar 1 G = .ok (.lst (tl ts)) := by rw [← hG]; subst hF; exact var_ok rfl
      have u2 : mVar 2 G = .ok (.int cell) := by rw [← hG]; subst hF; exact var_ok rfl
      have u5 : mVar 5 G = .ok (.int pc) := by rw [← hG]; subst hF; exact var_ok rfl
      have u8 : mOwn 8 G = .ok (.lst oddT) := by rw [← hG]; subst hF; exact own_ok rfl
      have idx : (mBin (dIC posOk fun i j => .int (i % j)) (mBin (dIC divOk fun i j => .int (i / j)) (mVar 2) (mC (.int 96))) (mC (.int 12))) G = .ok (.int k) := by
        rw [← hk]
        exact (bin_ok ((bin_ok u2 c_ok).trans (d96 cell)) c_ok).trans (p12 _)
      have a1 := sl_hi u1 u5 (by rw [tl_len]; omega)
      have a2 := sl_lo u1 u5 (by rw [tl_len]; omega)
      have l1 : ((tl ts).take pc).length ≤ 66 := by rw [List.length_take, tl_len]; omega
      have l2 : ((tl ts).drop pc).length ≤ 66 := by rw [List.length_drop, tl_len]; omega
      have a3 := (bin_ok a1 (lst_ok (ds := [d]) (cons_ok ((bin_ok u8 idx).trans (at_lst hd)) nil_ok) (by show 1 ≤ 16777216; omega))).trans (cat_ok' (by show ((tl ts).take pc).length + 1 ≤ 16777216; omega))
      exact (bin_ok a3 a2).trans (cat_ok' (by rw [List.length_append]; show ((tl ts).take pc).length + 1 + ((tl ts).drop pc).length ≤ 16777216; omega))
    · refine wrong_ties W ?_ (fun x hx => ?_) (tiesB_odd (d := d) (List.mem_append_left _ (List.mem_append_right _ (List.mem_singleton.mpr rfl))) od.1)
      · rw [List.length_append, List.length_append, List.length_take, List.length_drop, tl_len]
        show min pc ts.length + 1 + (ts.length - pc) ≤ 76
        omega
      · rcases List.mem_append.mp hx with hx | hx
        · rcases List.mem_append.mp hx with hx | hx
          · have := List.mem_of_mem_take hx
            exact ⟨plt_tl ts x this, plain_tl ts x this⟩
          · rw [List.mem_singleton.mp hx]
            exact od.2
        · have := List.mem_of_mem_drop hx
          exact ⟨plt_tl ts x this, plain_tl ts x this⟩
  rw [seq_nx ((if_f ((tst 1).trans (by rw [decide_eq_false (by omega)]))).trans rfl)]
  have ne : (mT (mBin dNe (mVar 1) (mLst mNil))) F = .ok (!decide (ts = [])) := t_ok ((bin_ok v1 (lst_ok nil_ok (Nat.zero_le _))).trans (dNe_tl ts []))
  by_cases w2 : way = 2 ∧ ts ≠ []
  · -- a tie twice
    obtain ⟨rfl, hne⟩ := w2
    rw [decide_eq_false hne] at ne
    have lp : 0 < ts.length := List.length_pos_iff.mpr hne
    have pl2 : ∀ i : Int, dIC posOk (fun i j => .int (i % j)) (.int i) (.int (ts.length : Int)) = .ok (.int (i % (ts.length : Int))) := fun i => pos_ok (by omega)
    obtain ⟨k, hk⟩ : ∃ k : Nat, (pc : Int) % (ts.length : Int) = (k : Int) := ⟨((pc : Int) % (ts.length : Int)).toNat, by have := Int.emod_nonneg (pc : Int) (show ((ts.length : Int)) ≠ 0 by omega); omega⟩
    have kl : k < ts.length := by have := Int.emod_lt_of_pos (pc : Int) (show (0 : Int) < (ts.length : Int) by omega); omega
    obtain ⟨p, hp⟩ : ∃ p, ts[k]? = some p := ⟨_, List.getElem?_eq_getElem kl⟩
    have at1 : (tl ts)[k]? = some (.tup [.int p.1, .int p.2]) := by
      rw [List.getElem?_map, hp]
      rfl
    have ix := (bin_ok v1 (b := .int k) ((bin_ok v5 ((u_ok v1).trans ln1)).trans ((pl2 _).trans (by rw [hk])))).trans (at_lst at1)
    have ct := (bin_ok v1 (lst_ok (cons_ok ix nil_ok) (by show 1 ≤ 16777216; omega))).trans (cat_ok' (by rw [tl_len]; show ts.length + 1 ≤ 16777216; omega))
    refine ⟨_, _, seq_rt ((if_t ((and_t (tst 2)).trans ne)).trans (ret_ok (tup2 v0 ct))), ?_⟩
    rw [show tl ts ++ [.tup [.int p.1, .int p.2]] = tl (ts ++ [p]) by unfold tl; rw [List.map_append]; rfl]
    exact wrong_ties W (by rw [tl_len, List.length_append]; show ts.length + 1 ≤ 76; omega) (fun x hx => ⟨plt_tl _ x hx, plain_tl _ x hx⟩) (tiesB_twice (List.mem_of_getElem? hp) n)
  have s2 : (mAnd (mT (mBin dEq (mVar 6) (mC (.int 2)))) (mT (mBin dNe (mVar 1) (mLst mNil)))) F = .ok false := by
    by_cases c : way = 2
    · have hts : ts = [] := Classical.byContradiction fun z => w2 ⟨c, z⟩
      rw [decide_eq_true hts] at ne
      exact (and_t ((tst 2).trans (by rw [decide_eq_true (by omega)]))).trans ne
    · exact and_f ((tst 2).trans (by rw [decide_eq_false (by omega)]))
  rw [seq_nx ((if_f s2).trans rfl)]
  by_cases w3 : way = 3
  · subst w3
    refine ⟨_, _, seq_rt ((if_t (tst 3)).trans (ret_ok (tup2 (lst_ok nil_ok (Nat.zero_le _)) v1))), ?_⟩
    exact ⟨nl_lst nls_nil, nl_lst (nls_tl ts), fun m => rfl, fun m => (reads_tl m 0 ts).deep, .inl ((colours_lst (ds := []) (fun x h => (nomatch h)) (by simp [qok.go])).trans rfl)⟩
  rw [seq_nx ((if_f ((tst 3).trans (by rw [decide_eq_false (by omega)]))).trans rfl)]
  by_cases w4 : way = 4
  · subst w4
    refine ⟨_, _, seq_rt ((if_t (tst 4)).trans (ret_ok (tup2 ((bin_ok (lst_ok (ds := [.int 1]) (cons_ok c_ok nil_ok) (by show 1 ≤ 16777216; omega)) c_ok).trans (rep_ok (.int 1) (k := 13) (by omega))) v1))), ?_⟩
    have e : (List.replicate 13 (.int 1) : List Dt) = il (List.replicate 13 1) := by unfold il; rw [List.map_replicate]
    rw [e]
    refine ⟨nl_lst (nls_il _), nl_lst (nls_tl ts), fun m => (reads_il m 0 _).deep, fun m => (reads_tl m 0 ts).deep, .inl ((colours_lst (pl_il _) (qok_il _)).trans ?_)⟩
    unfold colsB
    rw [il_len, List.length_replicate]
    rfl
  rw [seq_nx ((if_f ((tst 4).trans (by rw [decide_eq_false (by omega)]))).trans rfl)]
  by_cases w5 : way = 5
  · subst w5
    have q4' : q < ([.tup (il cs), .non, .int 3, .str ("1" : Str)] : List Dt).length := q4
    obtain ⟨d, hd⟩ : ∃ d, ([.tup (il cs), .non, .int 3, .str ("1" : Str)] : List Dt)[q]? = some d := ⟨_, List.getElem?_eq_getElem q4'⟩
    have e := (bin_ok (lst_ok (cons_ok ((u_ok v0).trans (show dTuple (.lst (il cs)) = .ok (.tup (il cs)) from rfl)) (cons_ok c_ok (cons_ok c_ok (cons_ok c_ok nil_ok)))) (by show 4 ≤ 16777216; omega)) idx8).trans (at_lst hd)
    refine ⟨_, _, seq_rt ((if_t (tst 5)).trans (ret_ok (tup2 e v1))), ?_⟩
    have dm := List.mem_of_getElem? hd
    simp only [List.mem_cons, List.not_mem_nil, or_false] at dm
    have all : nolist d = true ∧ Mr.nl d = true ∧ ∀ m, res m 8 d = .ok d := by
      rcases dm with rfl | rfl | rfl | rfl
      · exact ⟨rfl, by rw [Mr.nl]; exact nls_il cs, res_allT (plain_il cs)⟩
      · exact ⟨rfl, plain_non.l, fun m => plain_non.r m 4⟩
      · exact ⟨rfl, (plain_int 3).l, fun m => (plain_int 3).r m 4⟩
      · exact ⟨rfl, (plain_str _).l, fun m => (plain_str _).r m 4⟩
    exact ⟨all.2.1, nl_lst (nls_tl ts), all.2.2, fun m => (reads_tl m 0 ts).deep, .inl (colours_not all.1)⟩
  rw [seq_nx ((if_f ((tst 5).trans (by rw [decide_eq_false (by omega)]))).trans rfl)]
  have q4' : q < ([.tup (tl ts), .non, .int 3, .dic] : List Dt).length := q4
  obtain ⟨d, hd⟩ : ∃ d, ([.tup (tl ts), .non, .int 3, .dic] : List Dt)[q]? = some d := ⟨_, List.getElem?_eq_getElem q4'⟩
  have e := (bin_ok (lst_ok (cons_ok ((u_ok v1).trans (show dTuple (.lst (tl ts)) = .ok (.tup (tl ts)) from rfl)) (cons_ok c_ok (cons_ok c_ok (cons_ok c_ok nil_ok)))) (by show 4 ≤ 16777216; omega)) idx8).trans (at_lst hd)
  refine ⟨_, _, ret_ok (tup2 v0 e), ?_⟩
  have dm := List.mem_of_getElem? hd
  simp only [List.mem_cons, List.not_mem_nil, or_false] at dm
  have all : nolist d = true ∧ Mr.nl d = true ∧ ∀ m, res m 8 d = .ok d := by
    rcases dm with rfl | rfl | rfl | rfl
    · exact ⟨rfl, by rw [Mr.nl]; exact nls_tl ts, res_allT (plain_tl ts)⟩
    · exact ⟨rfl, plain_non.l, fun m => plain_non.r m 4⟩
    · exact ⟨rfl, (plain_int 3).l, fun m => (plain_int 3).r m 4⟩
    · exact ⟨rfl, plain_dic.l, fun m => plain_dic.r m 4⟩
  exact wrong_not W all.1 all.2.1 all.2.2

end K2
namespace K2
open PySem L2 Mr
-- beside
theorem lcGo_tf {i j : Nat} {mt : Fd → Md Bool} {me : Fd → Md Dt} {Δ : Fd} (p : Int × Int → Bool) (g : Int × Int → Dt) : ∀ ps : List (Int × Int), (∀ x ∈ ps, mt ((Δ.set i (.sh (.int x.1))).set j (.sh (.int x.2))) = .ok (p x)) → (∀ x ∈ ps, p x = true → me ((Δ.set i (.sh (.int x.1))).set j (.sh (.int x.2))) = .ok (g x)) →
    mLcGo (gs2 i j) mt me Δ (tl ps) = .ok ((ps.filter p).map g)
  | [], _, _ => rfl
  | x :: r, h1, h2 => by
    have e := lcGo_tf (i := i) (j := j) p g r (fun y hy => h1 y (List.mem_cons_of_mem _ hy)) (fun y hy => h2 y (List.mem_cons_of_mem _ hy))
    show ((mt ((Δ.set i (.sh (.int x.1))).set j (.sh (.int x.2)))).bind fun b => if b = true then (me ((Δ.set i (.sh (.int x.1))).set j (.sh (.int x.2)))).bind fun d => (mLcGo (gs2 i j) mt me Δ (tl r)).bind fun ds => .ok (d :: ds) else mLcGo (gs2 i j) mt me Δ (tl r)) = _
    rw [h1 x List.mem_cons_self, bind_ok, e]
    cases c : p x with
    | true =>
      rw [if_pos rfl, h2 x List.mem_cons_self c, List.filter_cons_of_pos c]
      rfl
    | false =>
      rw [if_neg Bool.false_ne_true, List.filter_cons_of_neg (by simp [c])]
def nearB (k : Int) (p : Int × Int) : Bool := decide (k = p.1) || decide (k = p.2)
def besL (ts : List (Int × Int)) (k : Int) : List Int := sortI ((ts.filter (nearB k)).map fun p => if p.1 = k then p.2 else p.1)
theorem besL_len (ts : List (Int × Int)) (k : Int) : (besL ts k).length ≤ ts.length := by
  unfold besL
  rw [(sortI_perm _).length_eq, List.length_map]
  exact List.length_filter_le ..
theorem int_pr (k a b : Int) : dInT false (.int k) (.tup [.int a, .int b]) = .ok (.bl (nearB k (a, b))) := by
  show Md.ok (Dt.bl (decide (k ∈ [a, b]))) = _
  congr 2
  unfold nearB
  by_cases c1 : k = a
  · simp [c1]
  · by_cases c2 : k = b
    · simp [c2]
    · simp [c1, c2]
theorem ifE_ok {mt : Fd → Md Bool} {ma mb : Fd → Md Dt} {Δ : Fd} {q : Bool} {a b : Dt} (h1 : mt Δ = .ok q) (h2 : ma Δ = .ok a) (h3 : mb Δ = .ok b) : mIfE mt ma mb Δ = .ok (if q = true then a else b) := by
  unfold mIfE
  rw [h1, bind_ok]
  split <;> assumption
theorem beside_ok (C : Addr) {n : Nat} {cs : List Int} {ts : List (Int × Int)} (W : WebD n cs ts) {k : Int} (h0 : 0 ≤ k) (h1 : k < n) : M_Web_beside C [webV C n cs ts, .int k] = .ok (.lst (il (besL ts k))) := by
  have few := W.few
  unfold M_Web_beside
  refine def_rt ?_
  have st : startD 4 [webV C n cs ts, .int k] = [.sh (webV C n cs ts), .sh (.int k), .un, .un] := rfl
  rw [st]
  unfold m_Web_beside
  have c1 : (mT (mCall 2 M_is_below (mCons (mVar 1) (mCons (mU (dFld [] C "size") (mVar 0)) mNil)))) [.sh (webV C n cs ts), .sh (.int k), .un, .un] = .ok true :=
    t_ok ((call_ok (ds := [.int k, .int n]) (cons_ok (var_ok rfl) (cons_ok ((u_ok (var_ok rfl)).trans fld_size) nil_ok)) rfl).trans ((below_pl (d := .int k) rfl n).trans (by
      show Md.ok (Dt.bl (decide (0 ≤ k) && decide (k < n))) = _
      rw [decide_eq_true h0, decide_eq_true h1]
      rfl)))
  refine (seq_nx ((if_f (not_ok c1)).trans rfl)).trans (ret_ok ?_)
  refine (u_ok (lc_ok (ds := tl ts) ?_ (by rw [tl_len]; omega) (lcGo_tf (nearB k) (fun p => .int (if p.1 = k then p.2 else p.1)) _ (fun p _ => ?_) fun p _ _ => ?_))).trans ?_
  · unfold mItL
    rw [u_ok (var_ok rfl), fld_ties]
    rfl
  · exact t_ok ((bin_ok (var_ok rfl) (tup2 (var_ok rfl) (var_ok rfl))).trans (int_pr ..))
  · refine (ifE_ok (t_ok ((bin_ok (var_ok rfl) (var_ok rfl)).trans (dEq_int p.1 k))) (var_ok rfl) (var_ok rfl)).trans ?_
    by_cases c : p.1 = k
    · rw [if_pos (by rw [c]; exact beq_self_eq_true k), if_pos c]
    · rw [if_neg (by rw [beq_iff_eq]; exact c), if_neg c]
  · have e : ((ts.filter (nearB k)).map fun p => Dt.int (if p.1 = k then p.2 else p.1)) = il ((ts.filter (nearB k)).map fun p => if p.1 = k then p.2 else p.1) := by
      unfold il
      rw [List.map_map]
      rfl
    rw [e]
    exact sorted_il _
theorem beside_no (C : Addr) {n : Nat} {cs : List Int} {ts : List (Int × Int)} {d : Dt} (hp : pl d = true) (hb : belowB d n = false) : M_Web_beside C [webV C n cs ts, d] = .exc "NoPoint" := by
  unfold M_Web_beside
  refine def_exc ?_
  rw [show startD 4 [webV C n cs ts, d] = [.sh (webV C n cs ts), .sh d, .un, .un] from rfl]
  unfold m_Web_beside
  have c1 : (mT (mCall 2 M_is_below (mCons (mVar 1) (mCons (mU (dFld [] C "size") (mVar 0)) mNil)))) [.sh (webV C n cs ts), .sh d, .un, .un] = .ok false :=
    t_ok ((call_ok (ds := [d, .int n]) (cons_ok (var_ok rfl) (cons_ok ((u_ok (var_ok rfl)).trans fld_size) nil_ok)) rfl).trans ((below_pl hp n).trans (by rw [hb])))
  exact seq_exc ((if_t (not_ok c1)).trans rfl)
theorem no_point_ok (C : Addr) {n : Nat} {cs : List Int} {ts : List (Int × Int)} {d : Dt} (hp : pl d = true) (hb : belowB d n = false) : M_law_no_point C [webV C n cs ts, d] = .ok (.bl true) := by
  unfold M_law_no_point
  refine def_rt ?_
  rw [show startD 3 [webV C n cs ts, d] = [.sh (webV C n cs ts), .sh d, .un] from rfl]
  unfold m_law_no_point
  exact seq_rt (try_exc' (drop_exc' ((meth_ok (ds := [d]) (var_ok rfl) rfl (cons_ok (var_ok rfl) nil_ok) rfl).trans (beside_no C hp hb))))
/-- what the law holds due -/
theorem due_e {Δ : Fd} {i j a b : Nat} {ts : List (Int × Int)} {k : Int} (hl : ts.length ≤ 1000) (h0 : Δ[j]? = some (.sh (.lst (tl ts))))
    (h1 : ∀ x y : Int, (((wipeD Δ [a, b]).set a (.sh (.int x))).set b (.sh (.int y)))[i]? = some (.sh (.int k))) (h2 : ∀ x y : Int, (((wipeD Δ [a, b]).set a (.sh (.int x))).set b (.sh (.int y)))[a]? = some (.sh (.int x))) (h3 : ∀ x y : Int, (((wipeD Δ [a, b]).set a (.sh (.int x))).set b (.sh (.int y)))[b]? = some (.sh (.int y))) :
    (mU dSorted (mLc (mItL (mVar j)) (gs2 a b) (mOr (mT (mBin dEq (mVar i) (mVar a))) (mT (mBin dEq (mVar i) (mVar b)))) (mBin (dI fun i j => .int (i - j)) (mBin (dI fun i j => .int (i + j)) (mVar a) (mVar b)) (mVar i)) [a, b])) Δ = .ok (.lst (il (besL ts k))) := by
  refine (u_ok (lc_ok (ds := tl ts) (by unfold mItL; rw [var_ok h0]; rfl) (by rw [tl_len]; omega) (lcGo_tf (nearB k) (fun p => .int (p.1 + p.2 - k)) _ (fun p _ => ?_) fun p _ _ => ?_))).trans ?_
  · have a1 : (mT (mBin dEq (mVar i) (mVar a))) (((wipeD Δ [a, b]).set a (.sh (.int p.1))).set b (.sh (.int p.2))) = .ok (decide (k = p.1)) := t_ok ((bin_ok (var_ok (h1 ..)) (var_ok (h2 ..))).trans ((dEq_int ..).trans (by rw [Bool.beq_eq_decide_eq])))
    have a2 : (mT (mBin dEq (mVar i) (mVar b))) (((wipeD Δ [a, b]).set a (.sh (.int p.1))).set b (.sh (.int p.2))) = .ok (decide (k = p.2)) := t_ok ((bin_ok (var_ok (h1 ..)) (var_ok (h3 ..))).trans ((dEq_int ..).trans (by rw [Bool.beq_eq_decide_eq])))
    unfold nearB
    cases c : decide (k = p.1) with
    | true =>
      rw [c] at a1
      exact or_t a1
    | false =>
      rw [c] at a1
      rw [Bool.false_or]
      exact (or_f a1).trans a2
  · exact (bin_ok ((bin_ok (var_ok (h2 ..)) (var_ok (h3 ..))).trans rfl) (var_ok (h1 ..))).trans rfl
  · have e : ((ts.filter (nearB k)).map fun p => Dt.int (p.1 + p.2 - k)) = il ((ts.filter (nearB k)).map fun p => if p.1 = k then p.2 else p.1) := by
      unfold il
      rw [List.map_map]
      refine List.map_congr_left fun p hp => ?_
      have q := (List.mem_filter.mp hp).2
      unfold nearB at q
      rw [Bool.or_eq_true, decide_eq_true_eq, decide_eq_true_eq] at q
      show Dt.int (p.1 + p.2 - k) = Dt.int (if p.1 = k then p.2 else p.1)
      congr 1
      split <;> omega
    rw [e]
    exact sorted_il _
-- what is held
def pure1 (ds : List Dt) : Prop := (∃ xs : List Int, ds = il xs) ∨ ∃ ts : List (Int × Int), ds = tl ts
abbrev ent (e : Nat × List Dt) : Dt := .tup [.loc e.1, .lst e.2]
structure Held (m : List Cl) (h : Nat) (E : List (Nat × List Dt)) : Prop where
  at_ : m[h]? = some (.lst (E.map ent))
  dn : noDN m
  each : ∀ e ∈ E, e.1 ≠ h ∧ m[e.1]? = some (Cl.lst e.2) ∧ pure1 e.2 ∧ e.2.length ≤ 1000
theorem noDN_app : ∀ {m : List Cl} {ds : List Dt}, noDN m → noDN (m ++ [.lst ds])
  | [], _, _ => True.intro
  | .lst _ :: r, ds, h => noDN_app (m := r) h
  | .ins _ _ _ :: r, ds, h => noDN_app (m := r) h
  | .dK _ _ :: r, ds, h => noDN_app (m := r) h
  | .dN _ _ :: _, _, h => h.elim
theorem noDN_set : ∀ {m : List Cl} {ds : List Dt} {i : Nat}, noDN m → noDN (m.set i (.lst ds))
  | [], _, _, _ => True.intro
  | .lst _ :: r, ds, 0, h => h
  | .ins _ _ _ :: r, ds, 0, h => h
  | .dK _ _ :: r, ds, 0, h => h
  | .lst _ :: r, ds, i + 1, h => noDN_set (m := r) (i := i) h
  | .ins _ _ _ :: r, ds, i + 1, h => noDN_set (m := r) (i := i) h
  | .dK _ _ :: r, ds, i + 1, h => noDN_set (m := r) (i := i) h
  | .dN _ _ :: _, _, _, h => h.elim
theorem res_loc {m : List Cl} {p : Nat} {ds : List Dt} (h : m[p]? = some (.lst ds)) (hp : pure1 ds) : res m 8 (.loc p) = .ok (.lst ds) := by
  show (match m[p]? with
    | some (.lst ds) => (mapMd (res m 7) ds).bind fun es => Md.ok (Dt.lst es)
    | some (.ins C ns ds) => (mapMd (res m 7) ds).bind fun es => .ok (.ins C ns es)
    | some (.dK ks ds) => (mapMd (res m 7) ds).bind fun es => .ok (.dct ks es)
    | _ => .bad) = _
  rw [h]
  show (mapMd (res m 7) ds).bind (fun es => Md.ok (Dt.lst es)) = _
  rcases hp with ⟨xs, rfl⟩ | ⟨ts, rfl⟩
  · rw [res_il]
    rfl
  · rw [res_tl]
    rfl
theorem cell_loc {m : List Cl} {p : Nat} {ds : List Dt} (h : m[p]? = some (.lst ds)) : dCell m (.loc p) = .ok (.lst ds) := by
  show (match m[p]? with
    | some (.lst ds) => Md.ok (Dt.lst ds)
    | _ => .bad) = _
  rw [h]
theorem xapp_ok {m : List Cl} {Δ : Fd} {mo : List Cl → Fd → Md Dt} {ma : List Cl → Fd → Mx Dt} {n : Nat} {ds : List Dt} {b : Dt} (h1 : mo m Δ = .ok (.loc n)) (h2 : m[n]? = some (.lst ds)) (h3 : ma m Δ = .ok m b) (hl : ds.length < 16777216) : xM1 fApp mo ma m Δ = .ok (m.set n (Cl.lst (ds ++ [b]))) .non := by
  unfold xM1
  rw [h1]
  show (match m[n]? with
    | some (.lst _) => (ma m Δ).bind fun m1 b => (match m1[n]? with
      | some (.lst ds) => (match fApp ds b with
        | some (es, y) => Mx.ok (m1.set n (.lst es)) y
        | none => .bad)
      | _ => .bad)
    | _ => .bad) = _
  rw [h2]
  show (ma m Δ).bind _ = _
  rw [h3, xbind_ok, h2]
  show (match fApp ds b with
        | some (es, y) => Mx.ok (m.set n (.lst es)) y
        | none => .bad) = _
  unfold fApp
  rw [if_pos hl]
theorem Held.more {m : List Cl} {h : Nat} {E : List (Nat × List Dt)} (H : Held m h E) {ds : List Dt} (hp : pure1 ds) (hl : ds.length ≤ 1000) : Held ((m ++ [Cl.lst ds]).set h (Cl.lst (E.map ent ++ [ent (m.length, ds)]))) h (E ++ [(m.length, ds)]) := by
  have hm : h < m.length := (List.getElem?_eq_some_iff.mp H.at_).1
  refine ⟨?_, noDN_set (noDN_app H.dn), fun e he => ?_⟩
  · rw [List.getElem?_set_self (by rw [List.length_append]; omega), List.map_append]
    rfl
  · rcases List.mem_append.mp he with he | he
    · obtain ⟨a, b, c, d⟩ := H.each e he
      refine ⟨a, ?_, c, d⟩
      rw [List.getElem?_set_ne (fun z => a z.symm), List.getElem?_append_left (List.getElem?_eq_some_iff.mp b).1]
      exact b
    · rw [List.mem_singleton.mp he]
      refine ⟨fun z => ?_, ?_, hp, hl⟩
      · have z : m.length = h := z
        omega
      · show ((m ++ [Cl.lst ds]).set h _)[m.length]? = some (Cl.lst ds)
        rw [List.getElem?_set_ne (by omega), List.getElem?_append_right (Nat.le_refl _), Nat.sub_self]
        rfl

end K2
namespace K2
open PySem L2 Mr
-- _law_beside_right
theorem xfor_ok {m : List Cl} {Δ : Fd} {mi : List Cl → Fd → Md (List Dt)} {tg : Dt → Fd → Md Fd} {mb : List Cl → Fd → Mx Out} {ds : List Dt} (h : mi m Δ = .ok ds) : xFor mi tg mb m Δ = xForGo tg mb ds m Δ := by
  unfold xFor
  rw [h]
  rfl
theorem xgo_nx {m m1 : List Cl} {Δ Δ1 Δ2 : Fd} {tg : Dt → Fd → Md Fd} {mb : List Cl → Fd → Mx Out} {x : Dt} {r : List Dt} (h1 : tg x Δ = .ok Δ1) (h2 : mb m Δ1 = .ok m1 (.nx Δ2)) : xForGo tg mb (x :: r) m Δ = xForGo tg mb r m1 Δ2 := by
  show (match tg x Δ with
    | .ok Δ1 => (mb m Δ1).bind fun m1 o => match o with
      | .nx Δ2 => xForGo tg mb r m1 Δ2
      | .ct Δ2 => xForGo tg mb r m1 Δ2
      | .bk Δ2 => Mx.ok m1 (.nx Δ2)
      | .rt d => .ok m1 (.rt d)
    | _ => .bad) = _
  rw [h1]
  show (mb m Δ1).bind _ = _
  rw [h2]
  rfl
def brBody (C_Web : Addr) : List Cl → Fd → Mx Out := (xSeq (xAsg 5 (xN fun m => (mMeth C_Web "beside" 2 (M_Web_beside C_Web) (mNl1 (mVar 0)) (mNl (mCons (mVar 4) mNil))))) (xSeq (xPS fun m => (mAsg 6 (mU dSorted (mLc (mItL (mVar 2)) (gsTup 2 (gsCons (gsName 7) (gsCons (gsName 8) gsNil))) (mOr (mT (mBin dEq (mVar 4) (mVar 7))) (mT (mBin dEq (mVar 4) (mVar 8)))) (mBin (dI fun i j => .int (i - j)) (mBin (dI fun i j => .int (i + j)) (mVar 7) (mVar 8)) (mVar 4)) [7, 8])))) (xSeq (xIf (xPT fun m => (mNot (mT (mCallF 2 M_law_alike_rows (mNl (mCons (mU (res m 8) (mVar 5)) (mCons (mVar 6) mNil))))))) (xRet (xP fun m => (mC (.bl false)))) xNext) (xDrop (xM1 fApp (fun m => (mVar 3)) (xP fun m => (mTup (mCons (mVar 5) (mCons (mU dList (mU (dCell m) (mVar 5))) mNil)))))))))
abbrev brF (C : Addr) (n : Nat) (cs : List Int) (ts : List (Int × Int)) (h : Nat) (s4 s5 s6 : Sd) : Fd := [.sh (webV C n cs ts), .sh (.lst (il cs)), .sh (.lst (tl ts)), .sh (.loc h), s4, s5, s6, .un, .un]
theorem br_turn (C : Addr) {n : Nat} {cs : List Int} {ts : List (Int × Int)} (W : WebD n cs ts) {m : List Cl} {h : Nat} {E : List (Nat × List Dt)} (H : Held m h E) (hE : E.length ≤ 10000) {k : Int} (h0 : 0 ≤ k) (h1 : k < n) (s5 s6 : Sd) :
    ∃ m' s5' s6', brBody C m (brF C n cs ts h (.sh (.int k)) s5 s6) = .ok m' (.nx (brF C n cs ts h (.sh (.int k)) s5' s6')) ∧ Held m' h (E ++ [(m.length, il (besL ts k))]) := by
  have few := W.few
  have bl := besL_len ts k
  have bd : (mMeth C "beside" 2 (M_Web_beside C) (mNl1 (mVar 0)) (mNl (mCons (mVar 4) mNil))) (brF C n cs ts h (.sh (.int k)) s5 s6) = .ok (.lst (il (besL ts k))) :=
    (meth_ok (nl1_ok (var_ok rfl) (nl_web ..)) rfl (nl_ok (cons_ok (var_ok rfl) nil_ok) (nls_cons (nl_int _) nls_nil)) rfl).trans (beside_ok C W h0 h1)
  refine ⟨_, .sh (.loc m.length), .sh (.lst (il (besL ts k))), ?_, H.more (.inl ⟨_, rfl⟩) (by rw [il_len]; omega)⟩
  unfold brBody
  refine (xseq_nx (xasg_ok (xn_ok bd))).trans ?_
  show xSeq _ _ (m ++ [Cl.lst (il (besL ts k))]) (brF C n cs ts h (.sh (.int k)) (.sh (.loc m.length)) s6) = _
  refine (xseq_nx (xps_ok (asg_ok (due_e (Δ := brF C n cs ts h (.sh (.int k)) (.sh (.loc m.length)) s6) (i := 4) (j := 2) (a := 7) (b := 8) (ts := ts) (k := k) (by omega) rfl (fun x y => rfl) (fun x y => rfl) (fun x y => rfl))))).trans ?_
  show xSeq _ _ (m ++ [Cl.lst (il (besL ts k))]) (brF C n cs ts h (.sh (.int k)) (.sh (.loc m.length)) (.sh (.lst (il (besL ts k))))) = _
  have at1 : (m ++ [Cl.lst (il (besL ts k))])[m.length]? = some (Cl.lst (il (besL ts k))) := by
    rw [List.getElem?_append_right (Nat.le_refl _), Nat.sub_self]
    rfl
  have al : (mT (mCallF 2 M_law_alike_rows (mNl (mCons (mU (res (m ++ [Cl.lst (il (besL ts k))]) 8) (mVar 5)) (mCons (mVar 6) mNil))))) (brF C n cs ts h (.sh (.int k)) (.sh (.loc m.length)) (.sh (.lst (il (besL ts k))))) = .ok true :=
    t_ok (callF_bl (cons_ok ((u_ok (var_ok rfl)).trans (res_loc at1 (.inl ⟨_, rfl⟩))) (cons_ok (var_ok rfl) nil_ok)) (nls_cons (nl_lst (nls_il _)) (nls_cons (nl_lst (nls_il _)) nls_nil)) rfl ((alike_il (by omega)).trans (by rw [decide_eq_true rfl])))
  refine (xseq_nx ((xif_f (xpt_ok (not_ok al))).trans rfl)).trans ?_
  have hm : h < m.length := (List.getElem?_eq_some_iff.mp H.at_).1
  have ath : (m ++ [Cl.lst (il (besL ts k))])[h]? = some (Cl.lst (E.map ent)) := by
    rw [List.getElem?_append_left hm]
    exact H.at_
  exact xdrop_ok (xapp_ok (var_ok rfl) ath (xp_ok (tup2 (var_ok rfl) ((u_ok ((u_ok (var_ok rfl)).trans (cell_loc at1))).trans rfl))) (by rw [List.length_map]; omega))
theorem br_go (C : Addr) {n : Nat} {cs : List Int} {ts : List (Int × Int)} (W : WebD n cs ts) {h : Nat} : ∀ (ks : List Int) (m : List Cl) (E : List (Nat × List Dt)) (s4 s5 s6 : Sd), (∀ k ∈ ks, 0 ≤ k ∧ k < n) → Held m h E → E.length + ks.length ≤ 10000 →
    ∃ m' E' s4' s5' s6', xForGo (gsName 4) (brBody C) (il ks) m (brF C n cs ts h s4 s5 s6) = .ok m' (.nx (brF C n cs ts h s4' s5' s6')) ∧ Held m' h E' ∧ E'.length = E.length + ks.length
  | [], m, E, s4, s5, s6, _, H, _ => ⟨m, E, s4, s5, s6, rfl, H, rfl⟩
  | k :: ks, m, E, s4, s5, s6, hk, H, hl => by
    rw [List.length_cons] at hl
    have q := hk k List.mem_cons_self
    obtain ⟨m1, s5', s6', e1, H1⟩ := br_turn C W H (by omega) q.1 q.2 s5 s6
    obtain ⟨m2, E2, a, b, c, e2, H2, l2⟩ := br_go C W ks m1 _ (.sh (.int k)) s5' s6' (fun x hx => hk x (List.mem_cons_of_mem _ hx)) H1 (by rw [List.length_append, List.length_singleton]; omega)
    refine ⟨m2, E2, a, b, c, (xgo_nx name_ok e1).trans e2, H2, ?_⟩
    rw [l2, List.length_append, List.length_singleton, List.length_cons]
    omega
theorem beside_right_ok (C : Addr) {n : Nat} {cs : List Int} {ts : List (Int × Int)} (W : WebD n cs ts) {m : List Cl} {h : Nat} {E : List (Nat × List Dt)} (H : Held m h E) (hE : E.length ≤ 1000) :
    ∃ m' E', X_law_beside_right C m [webV C n cs ts, .lst (il cs), .lst (tl ts), .loc h] = .ok m' (.bl true) ∧ Held m' h E' ∧ E'.length ≤ E.length + 12 := by
  have top := W.top
  obtain ⟨m', E', a, b, c, e, H', l⟩ := br_go C W (nums 0 n) m E .un .un .un (fun k hk => by have := mem_nums.mp hk; omega) H (by rw [nums_len]; omega)
  rw [nums_len] at l
  refine ⟨m', E', ?_, H', by omega⟩
  unfold X_law_beside_right
  refine xdef_rt ?_
  rw [show startD 9 [webV C n cs ts, .lst (il cs), .lst (tl ts), .loc h] = brF C n cs ts h .un .un .un from rfl]
  unfold x_law_beside_right
  refine (xseq_nx ((xfor_ok (it1_ok (n := n) (by omega) (cons_ok ((u_ok (var_ok rfl)).trans (len_il cs W.len)) nil_ok))).trans e)).trans ?_
  exact xret_ok (xp_ok c_ok)
-- what is held is what was told
theorem lcGo_none {i : Nat} {mt : Fd → Md Bool} {me : Fd → Md Dt} {Δ : Fd} : ∀ ds : List Dt, (∀ d ∈ ds, mt (Δ.set i (.sh d)) = .ok false) → mLcGo (gsName i) mt me Δ ds = .ok []
  | [], _ => rfl
  | d :: r, h => by
    have e := lcGo_none (i := i) (me := me) r fun y hy => h y (List.mem_cons_of_mem _ hy)
    show ((mt (Δ.set i (.sh d))).bind fun b => if b = true then (me (Δ.set i (.sh d))).bind fun x => (mLcGo (gsName i) mt me Δ r).bind fun ds => .ok (x :: ds) else mLcGo (gsName i) mt me Δ r) = _
    rw [h d List.mem_cons_self, bind_ok, if_neg Bool.false_ne_true, e]
theorem pure1_ne {ds : List Dt} (h : pure1 ds) : dNe (.lst ds) (.lst ds) = .ok (.bl false) := by
  rcases h with ⟨xs, rfl⟩ | ⟨ts, rfl⟩
  · rw [dNe_il, decide_eq_true rfl]
    rfl
  · rw [dNe_tl, decide_eq_true rfl]
    rfl
theorem held_same {m : List Cl} {h : Nat} {E : List (Nat × List Dt)} (H : Held m h E) (hE : E.length ≤ 1000) {Δ : Fd} {i j : Nat} (hi : Δ[i]? = some (.sh (.loc h))) (hj : ∀ d : Dt, ((wipeD Δ [j]).set j (.sh d))[j]? = some (.sh d)) :
    (mT (mBin dNe (mU (res m 8) (mLc (mItL (mU (dCell m) (mVar i))) (gsName j) (mT (mBin dNe (mU (res m 8) (mBin dIx (mVar j) (mC (.int 0)))) (mBin dIx (mVar j) (mC (.int 1))))) (mVar j) [j])) (mLst mNil))) Δ = .ok false := by
  have e : (mLc (mItL (mU (dCell m) (mVar i))) (gsName j) (mT (mBin dNe (mU (res m 8) (mBin dIx (mVar j) (mC (.int 0)))) (mBin dIx (mVar j) (mC (.int 1))))) (mVar j) [j]) Δ = .ok (.lst []) := by
    refine lc_ok (ds := E.map ent) ?_ (by rw [List.length_map]; omega) (lcGo_none _ fun d hd => ?_)
    · unfold mItL
      rw [u_ok (var_ok hi), cell_loc H.at_]
      rfl
    · obtain ⟨x, hx, ex⟩ := List.mem_map.mp hd
      obtain ⟨_, b, c, _⟩ := H.each x hx
      rw [← ex]
      exact t_ok ((bin_ok ((u_ok ((bin_ok (var_ok (hj _)) c_ok).trans (ix0 ..))).trans (res_loc b c)) ((bin_ok (var_ok (hj _)) c_ok).trans (ix1 ..))).trans (pure1_ne c))
  exact t_ok ((bin_ok ((u_ok e).trans (show res m 8 (.lst []) = .ok (.lst []) from rfl)) (lst_ok nil_ok (Nat.zero_le _))).trans (pure1_ne (ds := []) (.inl ⟨[], rfl⟩)))
theorem happ_go {n : Nat} {xs : List Dt} {h : Nat} {j : Nat} (hxs : xs.length ≤ 100000) : ∀ (E : List (Nat × List Dt)) (m : List Cl) (Δ : Fd), m[h]? = some (.lst xs) → noDN m → j < Δ.length → (∀ e ∈ E, e.1 ≠ h ∧ ∃ ds, m[e.1]? = some (Cl.lst ds) ∧ ds.length + E.length ≤ 10000) →
    ∃ m' Δ', xForLGo (gsName j) (xDrop (xM1 fApp (fun m => (mBin dIx (mVar j) (mC (.int 0)))) (xP fun m => (mC (.int 0))))) h xs (E.map ent) m Δ = .ok m' (.nx Δ') ∧ noDN m' ∧ (Δ' = Δ ∨ ∃ d, Δ' = Δ.set j (.sh d))
  | [], m, Δ, hm, dn, _, _ => ⟨m, Δ, by
    show (if same m h xs = true then Mx.ok m (Out.nx Δ) else .bad) = _
    rw [same_of hm, if_pos rfl], dn, .inl rfl⟩
  | e :: E, m, Δ, hm, dn, hj, hE => by
    obtain ⟨ne, ds, hd, hl⟩ := hE e List.mem_cons_self
    rw [List.length_cons] at hl
    have gj : (Δ.set j (.sh (ent e)))[j]? = some (.sh (ent e)) := List.getElem?_set_self hj
    have st : xM1 fApp (fun m => (mBin dIx (mVar j) (mC (.int 0)))) (xP fun m => (mC (.int 0))) m (Δ.set j (.sh (ent e))) = .ok (m.set e.1 (Cl.lst (ds ++ [.int 0]))) .non :=
      xapp_ok ((bin_ok (var_ok gj) c_ok).trans (ix0 ..)) hd (xp_ok c_ok) (by omega)
    have hm' : (m.set e.1 (Cl.lst (ds ++ [.int 0])))[h]? = some (.lst xs) := by
      rw [List.getElem?_set_ne ne]
      exact hm
    obtain ⟨m', Δ', e2, dn', r⟩ := happ_go (n := n) (xs := xs) (h := h) (j := j) hxs E (m.set e.1 (Cl.lst (ds ++ [.int 0]))) (Δ.set j (.sh (ent e))) hm' (noDN_set dn) (by rw [List.length_set]; exact hj) fun x hx => by
      obtain ⟨nx, es, hx2, hlx⟩ := hE x (List.mem_cons_of_mem _ hx)
      rw [List.length_cons] at hlx
      refine ⟨nx, ?_⟩
      by_cases c : x.1 = e.1
      · rw [c, List.getElem?_set_self (List.getElem?_eq_some_iff.mp hd).1]
        exact ⟨_, rfl, by rw [List.length_append, List.length_singleton]; omega⟩
      · rw [List.getElem?_set_ne (fun z => c z.symm)]
        exact ⟨es, hx2, by omega⟩
    refine ⟨m', Δ', ?_, dn', ?_⟩
    · show (if same m h xs = true then (match gsName j (ent e) Δ with
        | .ok Δ1 => ((xDrop (xM1 fApp (fun m => (mBin dIx (mVar j) (mC (.int 0)))) (xP fun m => (mC (.int 0))))) m Δ1).bind fun m1 o => match o with
          | .nx Δ2 => xForLGo (gsName j) (xDrop (xM1 fApp (fun m => (mBin dIx (mVar j) (mC (.int 0)))) (xP fun m => (mC (.int 0))))) h xs (E.map ent) m1 Δ2
          | .ct Δ2 => xForLGo (gsName j) (xDrop (xM1 fApp (fun m => (mBin dIx (mVar j) (mC (.int 0)))) (xP fun m => (mC (.int 0))))) h xs (E.map ent) m1 Δ2
          | .bk Δ2 => Mx.ok m1 (.nx Δ2)
          | .rt d => .ok m1 (.rt d)
        | _ => .bad) else .bad) = _
      rw [same_of hm, if_pos rfl]
      show ((xDrop (xM1 fApp (fun m => (mBin dIx (mVar j) (mC (.int 0)))) (xP fun m => (mC (.int 0))))) m (Δ.set j (.sh (ent e)))).bind _ = _
      rw [xdrop_ok st]
      exact e2
    · rcases r with r | ⟨d, r⟩
      · exact .inr ⟨_, r⟩
      · exact .inr ⟨d, by rw [r, List.set_set]⟩
theorem held_app {m : List Cl} {h : Nat} {E : List (Nat × List Dt)} (H : Held m h E) (hE : E.length ≤ 1000) {Δ : Fd} {i j : Nat} (hi : Δ[i]? = some (.sh (.loc h))) (hj : j < Δ.length) :
    ∃ m' Δ', xForX (xP fun m => (mVar i)) (gsName j) (xDrop (xM1 fApp (fun m => (mBin dIx (mVar j) (mC (.int 0)))) (xP fun m => (mC (.int 0))))) m Δ = .ok m' (.nx Δ') ∧ noDN m' ∧ (Δ' = Δ ∨ ∃ d, Δ' = Δ.set j (.sh d)) := by
  obtain ⟨m', Δ', e, dn, r⟩ := happ_go (n := 0) (xs := E.map ent) (h := h) (j := j) (by rw [List.length_map]; omega) E m Δ H.at_ H.dn hj fun x hx => ⟨(H.each x hx).1, x.2, (H.each x hx).2.1, by have := (H.each x hx).2.2.2; omega⟩
  refine ⟨m', Δ', ?_, dn, r⟩
  unfold xForX
  rw [xp_ok (me := fun m => mVar i) (var_ok hi), xbind_ok]
  show (match m[h]? with
    | some (.lst xs) => xForLGo (gsName j) (xDrop (xM1 fApp (fun m => (mBin dIx (mVar j) (mC (.int 0)))) (xP fun m => (mC (.int 0))))) h xs xs m Δ
    | _ => .bad) = _
  rw [H.at_]
  exact e

end K2
namespace K2
open PySem L2 Mr
-- _law_same_right
theorem make_e (C : Addr) {Δ : Fd} {ma : Fd → Md (List Dt)} {n : Nat} {cs : List Int} {ts : List (Int × Int)} (W : WebD n cs ts) (h : ma Δ = .ok [.lst (il cs), .lst (tl ts)]) : mMake C 3 (X_Web_init__ C) ma Δ = .ok (webV C n cs ts) := by
  have e := init_ok C (m := [.ins C [] []]) (w := 0) rfl (reads_il _ 0 cs) (reads_tl _ 0 ts) W.pos W.top W.len W.col W.tie (ltP_nodup W.ris)
  rw [sortP_id W.ris] at e
  have e : X_Web_init__ C [.ins C [] []] [.loc 0, .lst (il cs), .lst (tl ts)] = .ok [.ins C ["size", "_colours", "_ties"] [.int n, .lst (il cs), .lst (tl ts)]] .non := e
  unfold mMake
  rw [h, bind_ok, if_pos (show [Dt.lst (il cs), Dt.lst (tl ts)].length + 1 = 3 from rfl), e]
  show (match (if C = C ∧ nls [.int n, .lst (il cs), .lst (tl ts)] = true then Mx.ok [] (Dt.ins C ["size", "_colours", "_ties"] [.int n, .lst (il cs), .lst (tl ts)]) else Mx.bad) with
    | .ok _ d => Md.ok d
    | .exc _ c => .exc c
    | .bad => .bad) = _
  rw [if_pos ⟨rfl, nls_web ..⟩]
theorem bools_ne (b : Bool) : dNe (.lst [.bl true, .bl false, .bl b]) (.lst [.bl true, .bl false, .bl b]) = .ok (.bl false) := by
  cases b <;> rfl
theorem drop_ne {α : Type} {ts : List α} (h : ts ≠ []) : ts.drop 1 ≠ ts := fun e => by
  have := congrArg List.length e
  rw [List.length_drop] at this
  have := List.length_pos_iff.mpr h
  omega
theorem cut_tail' (ds : List Dt) : cutD ds (some 1) none = ds.drop 1 := by
  cases ds with
  | nil => rfl
  | cons d r => exact cut_lo (d :: r) 1 (by rw [List.length_cons]; omega)
def shade (cs : List Int) (at_ : Nat) : List Int := cs.take at_ ++ [(cs.getD at_ 0 + 1) % 10] ++ cs.drop (at_ + 1)
theorem shade_len {cs : List Int} {at_ : Nat} (h : at_ < cs.length) : (shade cs at_).length = cs.length := by
  unfold shade
  rw [List.length_append, List.length_append, List.length_take, List.length_drop, List.length_singleton]
  omega
theorem shade_ne {cs : List Int} {at_ : Nat} (h : at_ < cs.length) (hc : ∀ c ∈ cs, 0 ≤ c ∧ c < 10) : cs ≠ shade cs at_ := fun e => by
  have a := congrArg (fun l => l[at_]?) e
  have lt : (cs.take at_).length = at_ := by rw [List.length_take]; omega
  have b : (shade cs at_)[at_]? = some ((cs.getD at_ 0 + 1) % 10) := by
    unfold shade
    rw [List.append_assoc, List.getElem?_append_right (by omega), lt, Nat.sub_self]
    rfl
  have a : cs[at_]? = (shade cs at_)[at_]? := a
  rw [b, List.getElem?_eq_getElem h, getD_at h] at a
  have q := hc _ (List.getElem_mem h)
  have z := Option.some.inj a
  omega
theorem same_e (C : Addr) {Δ : Fd} {ma mb : Fd → Md Dt} {n k : Nat} {cs ds : List Int} {ts us : List (Int × Int)} (h1 : ma Δ = .ok (webV C n cs ts)) (h2 : mb Δ = .ok (webV C k ds us)) : (mCall 2 (M_is_same C) (mCons ma (mCons mb mNil))) Δ = .ok (.bl (decide (cs = ds) && decide (ts = us))) :=
  (call_ok (cons_ok h1 (cons_ok h2 nil_ok)) rfl).trans (is_same_ok ..)
theorem same_right_ok (C : Addr) {n : Nat} {cs : List Int} {ts : List (Int × Int)} (W : WebD n cs ts) {at_ : Nat} (ha : at_ < n) : M_law_same_right C [webV C n cs ts, .lst (il cs), .lst (tl ts), .int at_] = .ok (.bl true) := by
  have few := W.few
  have pos := W.pos
  have top := W.top
  have len := W.len
  have la : at_ < cs.length := by omega
  have p10 : ∀ i : Int, dIC posOk (fun i j => .int (i % j)) (.int i) (.int 10) = .ok (.int (i % 10)) := fun i => pos_ok (by decide)
  have WS : WebD n (shade cs at_) ts := ⟨pos, top, (shade_len la).trans len, fun c hc => by
    unfold shade at hc
    rcases List.mem_append.mp hc with hc | hc
    · rcases List.mem_append.mp hc with hc | hc
      · exact W.col c (List.mem_of_mem_take hc)
      · rw [List.mem_singleton.mp hc]
        omega
    · exact W.col c (List.mem_of_mem_drop hc), W.tie, W.ris⟩
  have WT : WebD n cs (ts.drop 1) := ⟨pos, top, len, W.col, fun p hp => W.tie p (List.mem_of_mem_drop hp), W.ris.sublist (List.drop_sublist 1 ts)⟩
  have st : startD 8 [webV C n cs ts, .lst (il cs), .lst (tl ts), .int at_] = [.sh (webV C n cs ts), .sh (.lst (il cs)), .sh (.lst (tl ts)), .sh (.int at_), .un, .un, .un, .un] := rfl
  unfold M_law_same_right
  refine def_rt ?_
  rw [st]
  unfold m_law_same_right
  generalize hF : ([.sh (webV C n cs ts), .sh (.lst (il cs)), .sh (.lst (tl ts)), .sh (.int at_), .un, .un, .un, .un] : Fd) = F
  have e4 : (mBin dCat (mBin dCat (mSl (mVar 1) mNoO (mSoO (mVar 3))) (mLst (mCons (mBin (dIC posOk fun i j => .int (i % j)) (mBin (dI fun i j => .int (i + j)) (mBin dIx (mVar 1) (mVar 3)) (mC (.int 1))) (mC (.int 10))) mNil))) (mSl (mVar 1) (mSoO (mBin (dI fun i j => .int (i + j)) (mVar 3) (mC (.int 1)))) mNoO)) F = .ok (.lst (il (shade cs at_))) := by
    have u1 : mVar 1 F = .ok (.lst (il cs)) := by rw [← hF]; exact var_ok rfl
    have u3 : mVar 3 F = .ok (.int at_) := by rw [← hF]; exact var_ok rfl
    have x1 : mBin dIx (mVar 1) (mVar 3) F = .ok (.int (cs.getD at_ 0)) := (bin_ok u1 u3).trans ((at_il (by omega) (by omega)).trans (by rw [Int.toNat_natCast]))
    have a1 := sl_hi u1 u3 (by rw [il_len]; omega)
    have a2 := sl_lo (k := at_ + 1) u1 (mk := (mBin (dI fun i j => .int (i + j)) (mVar 3) (mC (.int 1)))) ((bin_ok u3 c_ok).trans rfl) (by rw [il_len]; omega)
    have l1 : ((il cs).take at_).length = at_ := by rw [List.length_take, il_len]; omega
    have l2 : ((il cs).drop (at_ + 1)).length = n - (at_ + 1) := by rw [List.length_drop, il_len, len]
    have mid := (bin_ok ((bin_ok (f := dI fun i j => .int (i + j)) (mb := mC (.int 1)) x1 c_ok).trans (show dI (fun i j => .int (i + j)) (.int (cs.getD at_ 0)) (.int 1) = .ok (.int (cs.getD at_ 0 + 1)) from rfl)) (c_ok (d := .int 10))).trans (p10 (cs.getD at_ 0 + 1))
    have a3 := (bin_ok a1 (lst_ok (ds := [.int ((cs.getD at_ 0 + 1) % 10)]) (cons_ok mid nil_ok) (by show 1 ≤ 16777216; omega))).trans (cat_ok' (by rw [l1]; show at_ + 1 ≤ 16777216; omega))
    refine ((bin_ok a3 a2).trans (cat_ok' (by rw [List.length_append, l1, l2]; show at_ + 1 + (n - (at_ + 1)) ≤ 16777216; omega))).trans ?_
    unfold shade il
    rw [List.map_append, List.map_append, List.map_take, List.map_drop]
    rfl
  rw [seq_nx (asg_ok e4)]
  subst hF
  show mSeq _ _ [.sh (webV C n cs ts), .sh (.lst (il cs)), .sh (.lst (tl ts)), .sh (.int at_), .sh (.lst (il (shade cs at_))), .un, .un, .un] = _
  have o1 := same_e C (Δ := [.sh (webV C n cs ts), .sh (.lst (il cs)), .sh (.lst (tl ts)), .sh (.int at_), .sh (.lst (il (shade cs at_))), .un, .un, .un]) (ma := mVar 0) (var_ok rfl) (make_e C (ma := (mCons (mVar 1) (mCons (mVar 2) mNil))) W (cons_ok (var_ok rfl) (cons_ok (var_ok rfl) nil_ok)))
  have o2 := same_e C (Δ := [.sh (webV C n cs ts), .sh (.lst (il cs)), .sh (.lst (tl ts)), .sh (.int at_), .sh (.lst (il (shade cs at_))), .un, .un, .un]) (ma := mVar 0) (var_ok rfl) (make_e C (ma := (mCons (mVar 4) (mCons (mVar 2) mNil))) WS (cons_ok (var_ok rfl) (cons_ok (var_ok rfl) nil_ok)))
  have sl : mSl (mVar 2) (mSoO (mC (.int 1))) mNoO [.sh (webV C n cs ts), .sh (.lst (il cs)), .sh (.lst (tl ts)), .sh (.int at_), .sh (.lst (il (shade cs at_))), .un, .un, .un] = .ok (.lst (tl (ts.drop 1))) := by
    have e : tl (ts.drop 1) = (tl ts).drop 1 := List.map_drop
    rw [e, ← cut_tail']
    rfl
  have o3 := same_e C (Δ := [.sh (webV C n cs ts), .sh (.lst (il cs)), .sh (.lst (tl ts)), .sh (.int at_), .sh (.lst (il (shade cs at_))), .un, .un, .un]) (mb := mVar 0) (make_e C (ma := (mCons (mVar 1) (mCons (mSl (mVar 2) (mSoO (mC (.int 1))) mNoO) mNil))) WT (cons_ok (var_ok rfl) (cons_ok sl nil_ok))) (var_ok rfl)
  have b1 : (decide (cs = cs) && decide (ts = ts)) = true := by rw [decide_eq_true rfl, decide_eq_true rfl]; rfl
  have b2 : (decide (cs = shade cs at_) && decide (ts = ts)) = false := by rw [decide_eq_false (shade_ne la W.col)]; rfl
  have b3 : (decide (cs = cs) && decide (ts.drop 1 = ts)) = decide (ts = []) := by
    rw [decide_eq_true rfl, Bool.true_and]
    by_cases c : ts = []
    · rw [decide_eq_true c, c]
      rfl
    · rw [decide_eq_false c, decide_eq_false (drop_ne c)]
  rw [b1] at o1
  rw [b2] at o2
  rw [b3] at o3
  rw [seq_nx (asg_ok (lst_ok (cons_ok o1 (cons_ok o2 (cons_ok o3 nil_ok))) (by show 3 ≤ 16777216; omega)))]
  generalize hb : decide (ts = []) = b
  show mSeq _ _ [.sh (webV C n cs ts), .sh (.lst (il cs)), .sh (.lst (tl ts)), .sh (.int at_), .sh (.lst (il (shade cs at_))), .sh (.lst [.bl true, .bl false, .bl b]), .un, .un] = _
  have w1 : (mT (mBin dNe (mVar 5) (mLst (mCons (mC (.bl true)) (mCons (mC (.bl false)) (mCons (mBin dEq (mVar 2) (mLst mNil)) mNil)))))) [.sh (webV C n cs ts), .sh (.lst (il cs)), .sh (.lst (tl ts)), .sh (.int at_), .sh (.lst (il (shade cs at_))), .sh (.lst [.bl true, .bl false, .bl b]), .un, .un] = .ok false :=
    t_ok ((bin_ok (var_ok rfl) (lst_ok (ds := [.bl true, .bl false, .bl b]) (cons_ok c_ok (cons_ok c_ok (cons_ok ((bin_ok (var_ok rfl) (lst_ok nil_ok (Nat.zero_le _))).trans ((dEq_tl ts []).trans (by rw [hb]))) nil_ok))) (by show 3 ≤ 16777216; omega))).trans (bools_ne b))
  have w2 : (mU dAll (mLc (mItL (mVar 5)) (gsName 7) mYes (mCB dIsi (mCons (mVar 7) (mCons (mC (.ty "bool")) mNil))) [7])) [.sh (webV C n cs ts), .sh (.lst (il cs)), .sh (.lst (tl ts)), .sh (.int at_), .sh (.lst (il (shade cs at_))), .sh (.lst [.bl true, .bl false, .bl b]), .un, .un] = .ok (.bl true) :=
    (u_ok (lc_ok (ds := [.bl true, .bl false, .bl b]) rfl (by show 3 < 16777216; omega) (lcGo_all _ fun d hd => by
      have z : ∃ q, d = .bl q := by
        simp only [List.mem_cons, List.not_mem_nil, or_false] at hd
        rcases hd with rfl | rfl | rfl <;> exact ⟨_, rfl⟩
      obtain ⟨q, rfl⟩ := z
      unfold mCB
      rw [cons_ok (var_ok rfl) (cons_ok c_ok nil_ok)]
      rfl))).trans (all_rep _)
  rw [seq_nx ((if_f ((or_f w1).trans (not_ok (t_ok w2)))).trans rfl)]
  have w3 : (mT (mBin dEq (mU dLen (mVar 1)) (mC (.int 12)))) [.sh (webV C n cs ts), .sh (.lst (il cs)), .sh (.lst (tl ts)), .sh (.int at_), .sh (.lst (il (shade cs at_))), .sh (.lst [.bl true, .bl false, .bl b]), .un, .un] = .ok (decide ((n : Int) = 12)) :=
    t_ok ((bin_ok ((u_ok (var_ok rfl)).trans (len_il cs len)) c_ok).trans ((dEq_int ..).trans (by rw [Bool.beq_eq_decide_eq])))
  by_cases c12 : (n : Int) = 12
  · rw [decide_eq_true c12] at w3
    exact seq_rt ((if_t w3).trans (ret_ok c_ok))
  rw [decide_eq_false c12] at w3
  rw [seq_nx ((if_f w3).trans rfl)]
  have WW : WebD (n + 1) (cs ++ [cs.getD 0 0]) ts := ⟨by omega, by omega, by rw [List.length_append, len]; rfl, fun c hc => by
    rcases List.mem_append.mp hc with hc | hc
    · exact W.col c hc
    · rw [List.mem_singleton.mp hc, getD_at (by omega)]
      exact W.col _ (List.getElem_mem _), fun p hp => by have := W.tie p hp; omega, W.ris⟩
  have ne : cs ≠ cs ++ [cs.getD 0 0] := fun e => by
    have := congrArg List.length e
    rw [List.length_append] at this
    simp at this
  have c0 : (mBin dCat (mVar 1) (mLst (mCons (mBin dIx (mVar 1) (mC (.int 0))) mNil))) [.sh (webV C n cs ts), .sh (.lst (il cs)), .sh (.lst (tl ts)), .sh (.int at_), .sh (.lst (il (shade cs at_))), .sh (.lst [.bl true, .bl false, .bl b]), .un, .un] = .ok (.lst (il (cs ++ [cs.getD 0 0]))) :=
    (bin_ok (var_ok rfl) (lst_ok (ds := [.int (cs.getD 0 0)]) (cons_ok ((bin_ok (var_ok rfl) c_ok).trans (at_il (x := 0) (by omega) (by omega))) nil_ok) (by show 1 ≤ 16777216; omega))).trans ((cat_ok' (by rw [il_len]; show cs.length + 1 ≤ 16777216; omega)).trans (by unfold il; rw [List.map_append]; rfl))
  rw [seq_nx (asg_ok (make_e C (ma := (mCons (mBin dCat (mVar 1) (mLst (mCons (mBin dIx (mVar 1) (mC (.int 0))) mNil))) (mCons (mVar 2) mNil))) WW (cons_ok c0 (cons_ok (var_ok rfl) nil_ok))))]
  show mRet _ [.sh (webV C n cs ts), .sh (.lst (il cs)), .sh (.lst (tl ts)), .sh (.int at_), .sh (.lst (il (shade cs at_))), .sh (.lst [.bl true, .bl false, .bl b]), .sh (webV C (n + 1) (cs ++ [cs.getD 0 0]) ts), .un] = _
  have z1 := same_e C (Δ := [.sh (webV C n cs ts), .sh (.lst (il cs)), .sh (.lst (tl ts)), .sh (.int at_), .sh (.lst (il (shade cs at_))), .sh (.lst [.bl true, .bl false, .bl b]), .sh (webV C (n + 1) (cs ++ [cs.getD 0 0]) ts), .un]) (ma := mVar 0) (mb := mVar 6) (var_ok rfl) (var_ok rfl)
  have z2 := same_e C (Δ := [.sh (webV C n cs ts), .sh (.lst (il cs)), .sh (.lst (tl ts)), .sh (.int at_), .sh (.lst (il (shade cs at_))), .sh (.lst [.bl true, .bl false, .bl b]), .sh (webV C (n + 1) (cs ++ [cs.getD 0 0]) ts), .un]) (ma := mVar 6) (mb := mVar 0) (var_ok rfl) (var_ok rfl)
  rw [decide_eq_false ne, Bool.false_and] at z1
  rw [decide_eq_false (fun e => ne e.symm), Bool.false_and] at z2
  exact ret_ok ((andV_t ((bin_ok z1 c_ok).trans rfl)).trans ((bin_ok z2 c_ok).trans rfl))

end K2
namespace K2
open PySem L2 Mr
-- alone
theorem isx_here (a : Addr) (q : Bool) (r : Fd) : mU (dIsX a q) (mVar 0) (.sh (.adr a) :: r) = .ok (.bl q) := by
  show dIsX a q (.adr a) = _
  unfold dIsX
  exact if_pos rfl
theorem alone_BadWeb : ∀ a, M_law_alone true false false false false false true a [.adr a, .int 0] = .ok (.bl true) := by
  intro a
  show (m_law_alone true false false false false false true a [.sh (.adr a), .sh (.int 0), .un, .un]).bind _ = _
  have e1 : (mAsg 2 (mLst (mCons (mU (dIsX a true) (mVar 0)) (mCons (mU (dIsX a false) (mVar 0)) (mCons (mU (dIsX a false) (mVar 0)) (mCons (mU (dIsX a false) (mVar 0)) mNil)))))) [.sh (.adr a), .sh (.int 0), .un, .un] = .ok (.nx [.sh (.adr a), .sh (.int 0), .sh (.lst [.bl true, .bl false, .bl false, .bl false]), .un]) := by
    unfold mAsg mLst mCons mNil
    simp only [isx_here, Md.bind]
    rfl
  have e2 : (mAsg 2 (mBin dCat (mVar 2) (mLst (mCons (mU (dIsX a false) (mVar 0)) (mCons (mU (dIsX a false) (mVar 0)) mNil))))) [.sh (.adr a), .sh (.int 0), .sh (.lst [.bl true, .bl false, .bl false, .bl false]), .un] = .ok (.nx [.sh (.adr a), .sh (.int 0), .sh (.lst [.bl true, .bl false, .bl false, .bl false, .bl false, .bl false]), .un]) := by
    unfold mAsg mBin mLst mCons mNil
    simp only [isx_here, Md.bind]
    rfl
  unfold m_law_alone mSeq
  simp only [e1, e2, Md.bind]
  unfold mRet mAndV mT
  simp only [isx_here, Md.bind]
  rfl
theorem alone_NoPoint : ∀ a, M_law_alone false false false true false false true a [.adr a, .int 3] = .ok (.bl true) := by
  intro a
  show (m_law_alone false false false true false false true a [.sh (.adr a), .sh (.int 3), .un, .un]).bind _ = _
  have e1 : (mAsg 2 (mLst (mCons (mU (dIsX a false) (mVar 0)) (mCons (mU (dIsX a false) (mVar 0)) (mCons (mU (dIsX a false) (mVar 0)) (mCons (mU (dIsX a true) (mVar 0)) mNil)))))) [.sh (.adr a), .sh (.int 3), .un, .un] = .ok (.nx [.sh (.adr a), .sh (.int 3), .sh (.lst [.bl false, .bl false, .bl false, .bl true]), .un]) := by
    unfold mAsg mLst mCons mNil
    simp only [isx_here, Md.bind]
    rfl
  have e2 : (mAsg 2 (mBin dCat (mVar 2) (mLst (mCons (mU (dIsX a false) (mVar 0)) (mCons (mU (dIsX a false) (mVar 0)) mNil))))) [.sh (.adr a), .sh (.int 3), .sh (.lst [.bl false, .bl false, .bl false, .bl true]), .un] = .ok (.nx [.sh (.adr a), .sh (.int 3), .sh (.lst [.bl false, .bl false, .bl false, .bl true, .bl false, .bl false]), .un]) := by
    unfold mAsg mBin mLst mCons mNil
    simp only [isx_here, Md.bind]
    rfl
  unfold m_law_alone mSeq
  simp only [e1, e2, Md.bind]
  unfold mRet mAndV mT
  simp only [isx_here, Md.bind]
  rfl

-- the law
theorem nl_tup2 {ds : List Dt} (h : nls ds = true) : Mr.nl (.tup ds) = true := by
  rw [Mr.nl]
  exact h
theorem nl_lsk2 {ds : List Dt} (h : nls ds = true) : Mr.nl (.lsk ds) = true := by
  rw [Mr.nl]
  exact h
theorem told_e2 {C : Addr} {Δ : Fd} {ma mb : Fd → Md Dt} {n : Nat} {cs : List Int} {ts : List (Int × Int)} (W : WebD n cs ts) (h1 : ma Δ = .ok (webV C n cs ts)) (h2 : mb Δ = .ok (.tup [.lst (il cs), .lst (tl ts)])) : (mCall 2 (M_law_told C) (mNl (mCons ma (mCons mb mNil)))) Δ = .ok (.bl true) := by
  have := W.few
  have := W.top
  exact (call_ok (nl_ok (cons_ok h1 (cons_ok h2 nil_ok)) (nls_cons (nl_web ..) (nls_cons (nl_tup2 (nls_cons (nl_lst (nls_il _)) (nls_cons (nl_lst (nls_tl _)) nls_nil))) nls_nil))) rfl).trans (told_yes C W.len (by omega) (by omega))
theorem asgT_ok {i j : Nat} {Δ : Fd} {ma : Fd → Md Dt} {a b : Dt} (h : ma Δ = .ok (.tup [a, b])) : mAsgT (gs2 i j) ma Δ = .ok (.nx ((Δ.set i (.sh a)).set j (.sh b))) := by
  unfold mAsgT
  rw [h]
  rfl
theorem two_ne (cs : List Int) (ts : List (Int × Int)) : dNe (.lst [.lst (il cs), .lst (tl ts)]) (.lst [.lst (il cs), .lst (tl ts)]) = .ok (.bl false) := by
  have e : toP (.lst [.lst (il cs), .lst (tl ts)]) = some (.list [.list (cs.map PyData.int), .list (ts.map fun p => PyData.tuple [.int p.1, .int p.2])]) := by
    rw [toP, toPs, toPs, toPs, toP_il, toP_tl]
    rfl
  have sh : SeqAt.shaped (.list [.list (cs.map PyData.int), .list (ts.map fun p => PyData.tuple [.int p.1, .int p.2])]) = true := by
    have h := dep_tl ts
    unfold SeqAt.shaped
    rw [PyData.canLay0, PyData.canLayAll0, PyData.canLayAll0, PyData.canLayAll0, PyData.canLay0, PyData.canLay0, lay_il, lay_tl, PyData.depth, PyData.depthAll, PyData.depthAll, PyData.depthAll, PyData.depth, PyData.depth, dep_il]
    simp only [Bool.and_self, Bool.true_and]
    exact decide_eq_true (by omega)
  have eq : PyData.eqv (.list [.list (cs.map PyData.int), .list (ts.map fun p => PyData.tuple [.int p.1, .int p.2])]) (.list [.list (cs.map PyData.int), .list (ts.map fun p => PyData.tuple [.int p.1, .int p.2])]) = true := by
    rw [PyData.eqv, PyData.eqvAll, PyData.eqvAll, PyData.eqvAll, PyData.eqv, PyData.eqv, eqv_il, eqv_tl]
    simp
  unfold dNe dEqv
  rw [e]
  show ((if SeqAt.shaped (.list [.list (cs.map PyData.int), .list (ts.map fun p => PyData.tuple [.int p.1, .int p.2])]) = true ∧ SeqAt.shaped (.list [.list (cs.map PyData.int), .list (ts.map fun p => PyData.tuple [.int p.1, .int p.2])]) = true then Md.ok (PyData.eqv (.list [.list (cs.map PyData.int), .list (ts.map fun p => PyData.tuple [.int p.1, .int p.2])]) (.list [.list (cs.map PyData.int), .list (ts.map fun p => PyData.tuple [.int p.1, .int p.2])])) else .bad).bind fun k => Md.ok (Dt.bl (!k))) = _
  rw [if_pos ⟨sh, sh⟩, eq]
  rfl
/-- beside_right, called -/
theorem br_call (C : Addr) {n : Nat} {cs : List Int} {ts : List (Int × Int)} (W : WebD n cs ts) {m m1 : List Cl} {Δ : Fd} {h : Nat} {E : List (Nat × List Dt)} {xh : List Cl → Fd → Mx Dt} (h8 : Δ[8]? = some (.sh (webV C n cs ts))) (h1 : Δ[1]? = some (.sh (.lst (il cs)))) (h2 : Δ[2]? = some (.sh (.lst (tl ts)))) (hx : xh m Δ = .ok m1 (.loc h)) (H : Held m1 h E) (hE : E.length ≤ 1000) :
    ∃ m' E', xNot (xT (xCall 4 (X_law_beside_right C) (xCons (xP fun m => (mVar 8)) (xCons (xP fun m => (mVar 1)) (xCons (xP fun m => (mVar 2)) (xCons xh xNil)))))) m Δ = .ok m' false ∧ Held m' h E' ∧ E'.length ≤ E.length + 12 := by
  obtain ⟨m', E', e, H', l⟩ := beside_right_ok C W H hE
  refine ⟨m', E', ?_, H', l⟩
  have a := xcall_ok (n := 4) (mir := X_law_beside_right C) (xcons_ok (xp_ok (me := fun m => (mVar 8)) (m := m) (var_ok h8)) (xcons_ok (xp_ok (me := fun m => (mVar 1)) (var_ok h1)) (xcons_ok (xp_ok (me := fun m => (mVar 2)) (var_ok h2)) (xcons_ok hx xnil_ok)))) rfl
  exact xnot_ok (b := true) (xt_ok (a.trans e))
theorem held_new {m : List Cl} (dn : noDN m) : Held (m ++ [.lst []]) m.length [] where
  at_ := by
    rw [List.getElem?_append_right (Nat.le_refl _), Nat.sub_self]
    rfl
  dn := noDN_app dn
  each := fun e he => (nomatch he)
theorem xn_nil {m : List Cl} {Δ : Fd} : (xN fun m => (mLst mNil)) m Δ = .ok (m ++ [.lst []]) (.loc m.length) := xn_ok (me := fun m => (mLst mNil)) (lst_ok nil_ok (Nat.zero_le _))
def oddP (n : Nat) : List Dt := [.int (-1), .int n, .bl true, .non, .str ("0" : Str), .int ((n : Int) + 10 ^ (9 : Int).toNat), .bl false, .lst [], .lst [.int 0]]
theorem oddP_no {n : Nat} : ∀ d ∈ oddP n, belowB d n = false ∧ pl d = true ∧ Plain d := by
  intro d hd
  unfold oddP at hd
  simp only [List.mem_cons, List.not_mem_nil, or_false] at hd
  rcases hd with rfl | rfl | rfl | rfl | rfl | rfl | rfl | rfl | rfl
  · exact ⟨rfl, rfl, plain_int _⟩
  · refine ⟨?_, rfl, plain_int _⟩
    show (decide ((0 : Int) ≤ n) && decide ((n : Int) < n)) = false
    rw [decide_eq_false (Int.lt_irrefl _), Bool.and_false]
  · exact ⟨rfl, rfl, plain_bl _⟩
  · exact ⟨rfl, rfl, plain_non⟩
  · exact ⟨rfl, rfl, plain_str _⟩
  · refine ⟨?_, rfl, plain_int _⟩
    have big : (0 : Int) ≤ 10 ^ (9 : Int).toNat := by decide
    show (decide ((0 : Int) ≤ n + 10 ^ (9 : Int).toNat) && decide ((n : Int) + 10 ^ (9 : Int).toNat < n)) = false
    rw [decide_eq_false (show ¬ ((n : Int) + 10 ^ (9 : Int).toNat < n) by omega), Bool.and_false]
  · exact ⟨rfl, rfl, plain_bl _⟩
  · exact ⟨rfl, rfl, plain_nil⟩
  · exact ⟨rfl, rfl, plain_l1 _⟩
theorem xclear_ok {m : List Cl} {Δ : Fd} {mo : List Cl → Fd → Md Dt} {n : Nat} {ds : List Dt} (h1 : mo m Δ = .ok (.loc n)) (h2 : m[n]? = some (Cl.lst ds)) : xM0 fClear mo m Δ = .ok (m.set n (Cl.lst [])) .non := by
  unfold xM0
  rw [h1]
  show (match m[n]? with
    | some (.lst ds) => (match fClear ds with
      | some (es, y) => Mx.ok (m.set n (Cl.lst es)) y
      | none => .bad)
    | _ => .bad) = _
  rw [h2]
  rfl
theorem math_law (C_Web : Addr) (ns : List Int) (hn : ns.length ≤ 63) (hbits : ∀ z ∈ ns, Builtin.Int.intBits z ≤ 1048576) : ∃ m, X_law C_Web [] [.lsk (ns.map Dt.int)] = .ok m (.bl true) := by
  have hb := fun k => getD_abs hbits k
  obtain ⟨n, cs, ts, W, n12, ew⟩ := web_by_ok hb (most := 12) (by omega) (by omega)
  have few := W.few
  have pos := W.pos
  have top := W.top
  have len := W.len
  have st : startD 12 [.lsk (ns.map Dt.int)] = [.sh (.lsk (il ns)), .un, .un, .un, .un, .un, .un, .un, .un, .un, .un, .un] := rfl
  unfold X_law
  suffices h : ∃ m, x_law C_Web [] (startD 12 [.lsk (ns.map Dt.int)]) = .ok m (.rt (.bl true)) by
    obtain ⟨m, e⟩ := h
    exact ⟨m, xdef_rt e⟩
  rw [st]
  unfold x_law
  have c1 : (mCall 2 M_law_web_by (mNl (mCons (mVar 0) (mCons (mC (.int 12)) mNil)))) [.sh (.lsk (il ns)), .un, .un, .un, .un, .un, .un, .un, .un, .un, .un, .un] = .ok (.tup [.lst (il cs), .lst (tl ts)]) :=
    (call_ok (ds := [.lsk (il ns), .int (12 : Nat)]) (nl_ok (cons_ok (var_ok rfl) (cons_ok c_ok nil_ok)) (nls_cons (nl_lsk2 (nls_il ns)) (nls_cons (nl_int _) nls_nil))) rfl).trans ew
  rw [xseq_nx (xps_ok (asgT_ok c1))]
  show ∃ m, xSeq _ _ [] [.sh (.lsk (il ns)), .sh (.lst (il cs)), .sh (.lst (tl ts)), .un, .un, .un, .un, .un, .un, .un, .un, .un] = _
  have c30 : (mCall 2 M_law_mixed (mNl (mCons (mCall 2 M_law_cell_at (mNl (mCons (mVar 0) (mCons (mC (.int 30)) mNil)))) (mCons (mC (.int 30)) mNil)))) [.sh (.lsk (il ns)), .sh (.lst (il cs)), .sh (.lst (tl ts)), .un, .un, .un, .un, .un, .un, .un, .un, .un] = .ok (.int (mixv (ns.getD 30 0) 30)) :=
    (call_ok (nl_ok (cons_ok ((call_ok (ds := [.lsk (il ns), .int (30 : Nat)]) (nl_ok (cons_ok (var_ok rfl) (cons_ok c_ok nil_ok)) (nls_cons (nl_lsk2 (nls_il ns)) (nls_cons (nl_int _) nls_nil))) rfl).trans (cell_at ns 30)) (cons_ok c_ok nil_ok)) (nls_cons (nl_int _) (nls_cons (nl_int _) nls_nil))) rfl).trans (mixed (hb 30) (by omega) (by omega))
  rw [xseq_nx (xps_ok (asg_ok c30))]
  generalize mixv (ns.getD 30 0) 30 = cell
  show ∃ m, xSeq _ _ [] [.sh (.lsk (il ns)), .sh (.lst (il cs)), .sh (.lst (tl ts)), .sh (.int cell), .un, .un, .un, .un, .un, .un, .un, .un] = _
  have p3 : ∀ i : Int, dIC posOk (fun i j => .int (i % j)) (.int i) (.int 3) = .ok (.int (i % 3)) := fun i => pos_ok (by decide)
  have p2 : ∀ i : Int, dIC posOk (fun i j => .int (i % j)) (.int i) (.int 2) = .ok (.int (i % 2)) := fun i => pos_ok (by decide)
  have p9 : ∀ i : Int, dIC posOk (fun i j => .int (i % j)) (.int i) (.int 9) = .ok (.int (i % 9)) := fun i => pos_ok (by decide)
  have d3 : ∀ i : Int, dIC divOk (fun i j => .int (i / j)) (.int i) (.int 3) = .ok (.int (i / 3)) := fun i => div_ok (by decide) (by decide)
  have d9 : ∀ i : Int, dIC divOk (fun i j => .int (i / j)) (.int i) (.int 9) = .ok (.int (i / 9)) := fun i => div_ok (by decide) (by decide)
  have d39 : ∀ i : Int, dIC divOk (fun i j => .int (i / j)) (.int i) (.int 39) = .ok (.int (i / 39)) := fun i => div_ok (by decide) (by decide)
  have d507 : ∀ i : Int, dIC divOk (fun i j => .int (i / j)) (.int i) (.int 507) = .ok (.int (i / 507)) := fun i => div_ok (by decide) (by decide)
  have pn : ∀ i : Int, dIC posOk (fun i j => .int (i % j)) (.int i) (.int n) = .ok (.int (i % n)) := fun i => pos_ok (by omega)
  have pt : ∀ i : Int, dIC posOk (fun i j => .int (i % j)) (.int i) (.int ((ts.length : Int) + 1)) = .ok (.int (i % ((ts.length : Int) + 1))) := fun i => pos_ok (by omega)
  have ln1 : dLen (.lst (tl ts)) = .ok (.int (ts.length : Int)) := by
    show Md.ok (Dt.int ((tl ts).length : Int)) = _
    rw [tl_len]
  have w3 : (mT (mBin dEq (mBin (dIC posOk fun i j => .int (i % j)) (mVar 3) (mC (.int 3))) (mC (.int 1)))) [.sh (.lsk (il ns)), .sh (.lst (il cs)), .sh (.lst (tl ts)), .sh (.int cell), .un, .un, .un, .un, .un, .un, .un, .un] = .ok (cell % 3 == 1) := by simp only [mSeq, mIfS, mT, mBin, mVar, mOwn, mC, mU, mRet, mRetO, mAsg, mOrV, mAndV, mNotV, mAnd, mOr, mNot, mCons, mNil, mCB, mNext, bind_ok, ite_bind, dI, dEq_int, dNe_int, dEq_bl, dNe_bl, dLt, dGt, dLe, dGe, dMax, dMin, List.getElem?_cons_zero, List.getElem?_cons_succ, List.set_cons_zero, List.set_cons_succ, if_true, if_false, Bool.false_eq_true, Bool.true_eq_false, reduceIte, ite_true, ite_false, p3]
  cases hc3 : (cell % 3 == 1) with
  | true =>
    rw [hc3] at w3
    obtain ⟨A, B, e, w⟩ := wrong_ok W (cell / 3)
    have e4 : (mCall 3 M_law_wrong (mNl (mCons (mVar 1) (mCons (mVar 2) (mCons (mBin (dIC divOk fun i j => .int (i / j)) (mVar 3) (mC (.int 3))) mNil))))) [.sh (.lsk (il ns)), .sh (.lst (il cs)), .sh (.lst (tl ts)), .sh (.int cell), .un, .un, .un, .un, .un, .un, .un, .un] = .ok (.tup [A, B]) :=
      (call_ok (ds := [.lst (il cs), .lst (tl ts), .int (cell / 3)]) (nl_ok (cons_ok (var_ok rfl) (cons_ok (var_ok rfl) (cons_ok ((bin_ok (var_ok rfl) c_ok).trans (d3 cell)) nil_ok))) (nls_cons (nl_lst (nls_il cs)) (nls_cons (nl_lst (nls_tl ts)) (nls_cons (nl_int _) nls_nil)))) rfl).trans e
    refine ⟨[], xseq_rt ((xif_t (xpt_ok w3)).trans ((xseq_nx (xps_ok (asg_ok e4))).trans (xret_ok (xp_ok ((call_ok (ds := [A, B]) (nl_ok (cons_ok ((bin_ok (var_ok rfl) c_ok).trans (ix0 A B)) (cons_ok ((bin_ok (var_ok rfl) c_ok).trans (ix1 A B)) nil_ok)) (nls_cons w.nlA (nls_cons w.nlB nls_nil))) rfl).trans (made_no C_Web w))))))⟩
  | false =>
  rw [hc3] at w3
  rw [xseq_nx ((xif_f (xpt_ok w3)).trans rfl)]
  -- the lists handed in
  have rev : (mU dRev (mVar 2)) [.sh (.lsk (il ns)), .sh (.lst (il cs)), .sh (.lst (tl ts)), .sh (.int cell), .un, .un, .un, .un, .un, .un, .un, .un] = .ok (.lst (tl ts.reverse)) := by
    rw [u_ok (var_ok rfl)]
    show Md.ok (Dt.lst (tl ts).reverse) = _
    unfold tl
    rw [List.map_reverse]
  rw [xseq_nx (xps_ok (asg_ok rev))]
  show ∃ m, xSeq _ _ [] [.sh (.lsk (il ns)), .sh (.lst (il cs)), .sh (.lst (tl ts)), .sh (.int cell), .un, .sh (.lst (tl ts.reverse)), .un, .un, .un, .un, .un, .un] = _
  obtain ⟨k, hk⟩ : ∃ k : Nat, cell / 3 % ((ts.length : Int) + 1) = (k : Int) := ⟨(cell / 3 % ((ts.length : Int) + 1)).toNat, by have := Int.emod_nonneg (cell / 3) (show ((ts.length : Int) + 1) ≠ 0 by omega); omega⟩
  have k_le : k ≤ ts.reverse.length := by
    have := Int.emod_lt_of_pos (cell / 3) (show (0 : Int) < (ts.length : Int) + 1 by omega)
    rw [List.length_reverse]
    omega
  obtain ⟨rot, hrot⟩ : ∃ rot, rot = ts.reverse.drop k ++ ts.reverse.take k := ⟨_, rfl⟩
  have pr : rot.Perm ts := by
    rw [hrot]
    refine (List.perm_append_comm).trans ?_
    rw [List.take_append_drop]
    exact List.reverse_perm ts
  have er : (mBin dCat (mSl (mVar 5) (mSoO (mBin (dIC posOk fun i j => .int (i % j)) (mBin (dIC divOk fun i j => .int (i / j)) (mVar 3) (mC (.int 3))) (mBin (dI fun i j => .int (i + j)) (mU dLen (mVar 2)) (mC (.int 1))))) mNoO) (mSl (mVar 5) mNoO (mSoO (mBin (dIC posOk fun i j => .int (i % j)) (mBin (dIC divOk fun i j => .int (i / j)) (mVar 3) (mC (.int 3))) (mBin (dI fun i j => .int (i + j)) (mU dLen (mVar 2)) (mC (.int 1))))))) [.sh (.lsk (il ns)), .sh (.lst (il cs)), .sh (.lst (tl ts)), .sh (.int cell), .un, .sh (.lst (tl ts.reverse)), .un, .un, .un, .un, .un, .un] = .ok (.lst (tl rot)) := by
    have ik : (mBin (dIC posOk fun i j => .int (i % j)) (mBin (dIC divOk fun i j => .int (i / j)) (mVar 3) (mC (.int 3))) (mBin (dI fun i j => .int (i + j)) (mU dLen (mVar 2)) (mC (.int 1)))) [.sh (.lsk (il ns)), .sh (.lst (il cs)), .sh (.lst (tl ts)), .sh (.int cell), .un, .sh (.lst (tl ts.reverse)), .un, .un, .un, .un, .un, .un] = .ok (.int k) := by
      rw [← hk]
      simp only [mSeq, mIfS, mT, mBin, mVar, mOwn, mC, mU, mRet, mRetO, mAsg, mOrV, mAndV, mNotV, mAnd, mOr, mNot, mCons, mNil, mCB, mNext, bind_ok, ite_bind, dI, dEq_int, dNe_int, dEq_bl, dNe_bl, dLt, dGt, dLe, dGe, dMax, dMin, List.getElem?_cons_zero, List.getElem?_cons_succ, List.set_cons_zero, List.set_cons_succ, if_true, if_false, Bool.false_eq_true, Bool.true_eq_false, reduceIte, ite_true, ite_false, d3, ln1, pt]
    have a1 := sl_lo (ma := mVar 5) (var_ok rfl) ik (by rw [tl_len]; exact k_le)
    have a2 := sl_hi (ma := mVar 5) (var_ok rfl) ik (by rw [tl_len]; exact k_le)
    refine (bin_ok a1 a2).trans ((cat_ok' (by rw [List.length_drop, List.length_take, tl_len, List.length_reverse]; omega)).trans ?_)
    rw [hrot]
    unfold tl
    rw [List.map_append, List.map_drop, List.map_take]
  have h6 : (xLst (xCons (xN fun m => (mU dList (mVar 1))) (xCons (xN fun m => (mBin dCat (mSl (mVar 5) (mSoO (mBin (dIC posOk fun i j => .int (i % j)) (mBin (dIC divOk fun i j => .int (i / j)) (mVar 3) (mC (.int 3))) (mBin (dI fun i j => .int (i + j)) (mU dLen (mVar 2)) (mC (.int 1))))) mNoO) (mSl (mVar 5) mNoO (mSoO (mBin (dIC posOk fun i j => .int (i % j)) (mBin (dIC divOk fun i j => .int (i / j)) (mVar 3) (mC (.int 3))) (mBin (dI fun i j => .int (i + j)) (mU dLen (mVar 2)) (mC (.int 1)))))))) xNil))) [] [.sh (.lsk (il ns)), .sh (.lst (il cs)), .sh (.lst (tl ts)), .sh (.int cell), .un, .sh (.lst (tl ts.reverse)), .un, .un, .un, .un, .un, .un] = .ok [.lst (il cs), .lst (tl rot)] (.lst [.loc 0, .loc 1]) := by
    have a := xcons_ok (xn_ok (me := fun m => (mU dList (mVar 1))) (m := []) (Δ := [.sh (.lsk (il ns)), .sh (.lst (il cs)), .sh (.lst (tl ts)), .sh (.int cell), .un, .sh (.lst (tl ts.reverse)), .un, .un, .un, .un, .un, .un]) (ds := il cs) ((u_ok (var_ok rfl)).trans rfl)) (xcons_ok (xn_ok (me := fun m => (mBin dCat (mSl (mVar 5) (mSoO (mBin (dIC posOk fun i j => .int (i % j)) (mBin (dIC divOk fun i j => .int (i / j)) (mVar 3) (mC (.int 3))) (mBin (dI fun i j => .int (i + j)) (mU dLen (mVar 2)) (mC (.int 1))))) mNoO) (mSl (mVar 5) mNoO (mSoO (mBin (dIC posOk fun i j => .int (i % j)) (mBin (dIC divOk fun i j => .int (i / j)) (mVar 3) (mC (.int 3))) (mBin (dI fun i j => .int (i + j)) (mU dLen (mVar 2)) (mC (.int 1)))))))) er) xnil_ok)
    unfold xLst
    rw [a, xbind_ok]
    exact if_pos (decide_eq_true (show 2 ≤ 16777216 by omega))
  rw [xseq_nx (xasg_ok h6)]
  show ∃ m, xSeq _ _ [.lst (il cs), .lst (tl rot)] [.sh (.lsk (il ns)), .sh (.lst (il cs)), .sh (.lst (tl ts)), .sh (.int cell), .un, .sh (.lst (tl ts.reverse)), .sh (.lst [.loc 0, .loc 1]), .un, .un, .un, .un, .un] = _
  have h7 : (mLst (mCons (mU dList (mU (dCell [.lst (il cs), .lst (tl rot)]) (mBin dIx (mVar 6) (mC (.int 0))))) (mCons (mU dList (mU (dCell [.lst (il cs), .lst (tl rot)]) (mBin dIx (mVar 6) (mC (.int 1))))) mNil))) [.sh (.lsk (il ns)), .sh (.lst (il cs)), .sh (.lst (tl ts)), .sh (.int cell), .un, .sh (.lst (tl ts.reverse)), .sh (.lst [.loc 0, .loc 1]), .un, .un, .un, .un, .un] = .ok (.lst [.lst (il cs), .lst (tl rot)]) :=
    lst_ok (cons_ok ((u_ok ((u_ok ((bin_ok (var_ok rfl) c_ok).trans (lx0 ..))).trans (cell_loc (m := [.lst (il cs), .lst (tl rot)]) (p := 0) rfl))).trans rfl) (cons_ok ((u_ok ((u_ok ((bin_ok (var_ok rfl) c_ok).trans (lx1 ..))).trans (cell_loc (m := [.lst (il cs), .lst (tl rot)]) (p := 1) rfl))).trans rfl) nil_ok)) (by show 2 ≤ 16777216; omega)
  rw [xseq_nx (xps_ok (asg_ok h7))]
  have nd : rot.Nodup := pr.nodup_iff.mpr (ltP_nodup W.ris)
  have rt : ∀ p ∈ rot, 0 ≤ p.1 ∧ p.1 < p.2 ∧ p.2 < n := fun p hp => W.tie p (pr.mem_iff.mp hp)
  have srt : sortP rot = ts := (sortP_eq pr).trans (sortP_id W.ris)
  have rA : Reads [.lst (il cs), .lst (tl rot), .ins C_Web [] []] 2 (.loc 0) (il cs) := ⟨res_loc rfl (.inl ⟨_, rfl⟩), fun x => cell_loc rfl, cell_loc rfl⟩
  have rB : Reads [.lst (il cs), .lst (tl rot), .ins C_Web [] []] 2 (.loc 1) (tl rot) := ⟨res_loc rfl (.inr ⟨_, rfl⟩), fun x => cell_loc rfl, cell_loc rfl⟩
  have h8 := make_web C_Web (m := [.lst (il cs), .lst (tl rot)]) (m1 := [.lst (il cs), .lst (tl rot)]) (Δ := [.sh (.lsk (il ns)), .sh (.lst (il cs)), .sh (.lst (tl ts)), .sh (.int cell), .un, .sh (.lst (tl ts.reverse)), .sh (.lst [.loc 0, .loc 1]), .sh (.lst [.lst (il cs), .lst (tl rot)]), .un, .un, .un, .un]) (xcons_ok (xp_ok (me := fun m => (mBin dIx (mVar 6) (mC (.int 0)))) ((bin_ok (var_ok rfl) c_ok).trans (lx0 ..))) (xcons_ok (xp_ok (me := fun m => (mBin dIx (mVar 6) (mC (.int 1)))) ((bin_ok (var_ok rfl) c_ok).trans (lx1 ..))) xnil_ok)) (show noDN [.lst (il cs), .lst (tl rot)] from True.intro) rA rB pos top len W.col rt nd
  rw [srt] at h8
  show ∃ m, xSeq _ _ [.lst (il cs), .lst (tl rot)] [.sh (.lsk (il ns)), .sh (.lst (il cs)), .sh (.lst (tl ts)), .sh (.int cell), .un, .sh (.lst (tl ts.reverse)), .sh (.lst [.loc 0, .loc 1]), .sh (.lst [.lst (il cs), .lst (tl rot)]), .un, .un, .un, .un] = _
  rw [xseq_nx (xasg_ok h8)]
  show ∃ m, xSeq _ _ [.lst (il cs), .lst (tl rot)] [.sh (.lsk (il ns)), .sh (.lst (il cs)), .sh (.lst (tl ts)), .sh (.int cell), .un, .sh (.lst (tl ts.reverse)), .sh (.lst [.loc 0, .loc 1]), .sh (.lst [.lst (il cs), .lst (tl rot)]), .sh (webV C_Web n cs ts), .un, .un, .un] = _
  have r6 : res [.lst (il cs), .lst (tl rot)] 8 (.lst [.loc 0, .loc 1]) = .ok (.lst [.lst (il cs), .lst (tl rot)]) := by
    show (((mapMd (res [.lst (il cs), .lst (tl rot)] 6) (il cs)).bind fun es => Md.ok (Dt.lst es)).bind fun e => ((((mapMd (res [.lst (il cs), .lst (tl rot)] 6) (tl rot)).bind fun es => Md.ok (Dt.lst es)).bind fun e => Md.ok [e]).bind fun es => Md.ok (e :: es))).bind _ = _
    rw [res_il, res_tl]
    rfl
  have r7 : res [.lst (il cs), .lst (tl rot)] 8 (.lst [.lst (il cs), .lst (tl rot)]) = .ok (.lst [.lst (il cs), .lst (tl rot)]) := by
    show (((mapMd (res [.lst (il cs), .lst (tl rot)] 6) (il cs)).bind fun es => Md.ok (Dt.lst es)).bind fun e => ((((mapMd (res [.lst (il cs), .lst (tl rot)] 6) (tl rot)).bind fun es => Md.ok (Dt.lst es)).bind fun e => Md.ok [e]).bind fun es => Md.ok (e :: es))).bind _ = _
    rw [res_il, res_tl]
    rfl
  have s8 : (mT (mBin dNe (mU (res [.lst (il cs), .lst (tl rot)] 8) (mVar 6)) (mU (res [.lst (il cs), .lst (tl rot)] 8) (mVar 7)))) [.sh (.lsk (il ns)), .sh (.lst (il cs)), .sh (.lst (tl ts)), .sh (.int cell), .un, .sh (.lst (tl ts.reverse)), .sh (.lst [.loc 0, .loc 1]), .sh (.lst [.lst (il cs), .lst (tl rot)]), .sh (webV C_Web n cs ts), .un, .un, .un] = .ok false :=
    t_ok ((bin_ok ((u_ok (var_ok rfl)).trans r6) ((u_ok (var_ok rfl)).trans r7)).trans (two_ne cs rot))
  rw [xseq_nx ((xif_f (xpt_ok s8)).trans rfl)]
  have h9 : xM0 fClear (fun m => (mBin dIx (mVar 6) (mC (.int 0)))) [.lst (il cs), .lst (tl rot)] [.sh (.lsk (il ns)), .sh (.lst (il cs)), .sh (.lst (tl ts)), .sh (.int cell), .un, .sh (.lst (tl ts.reverse)), .sh (.lst [.loc 0, .loc 1]), .sh (.lst [.lst (il cs), .lst (tl rot)]), .sh (webV C_Web n cs ts), .un, .un, .un] = .ok [.lst [], .lst (tl rot)] .non := by
    exact xclear_ok (n := 0) (ds := il cs) ((bin_ok (var_ok rfl) c_ok).trans (lx0 ..)) rfl
  rw [xseq_nx (xdrop_ok h9)]
  have h10 := xapp_ok (m := [.lst [], .lst (tl rot)]) (Δ := [.sh (.lsk (il ns)), .sh (.lst (il cs)), .sh (.lst (tl ts)), .sh (.int cell), .un, .sh (.lst (tl ts.reverse)), .sh (.lst [.loc 0, .loc 1]), .sh (.lst [.lst (il cs), .lst (tl rot)]), .sh (webV C_Web n cs ts), .un, .un, .un]) (mo := fun m => (mBin dIx (mVar 6) (mC (.int 1)))) (n := 1) ((bin_ok (var_ok rfl) c_ok).trans (lx1 ..)) rfl (xp_ok (me := fun m => (mTup (mCons (mC (.int 0)) (mCons (mC (.int 1)) mNil)))) tup2C) (by rw [tl_len, pr.length_eq]; omega)
  rw [xseq_nx (xdrop_ok h10)]
  generalize hm0 : ([Cl.lst [], Cl.lst (tl rot)].set 1 (Cl.lst (tl rot ++ [.tup [.int 0, .int 1]]))) = m0
  have dn0 : noDN m0 := by
    rw [← hm0]
    exact True.intro
  generalize hF : ([.sh (.lsk (il ns)), .sh (.lst (il cs)), .sh (.lst (tl ts)), .sh (.int cell), .un, .sh (.lst (tl ts.reverse)), .sh (.lst [.loc 0, .loc 1]), .sh (.lst [.lst (il cs), .lst (tl rot)]), .sh (webV C_Web n cs ts), .un, .un, .un] : Fd) = F
  have F1 : F[1]? = some (.sh (.lst (il cs))) := by rw [← hF]; rfl
  have F2 : F[2]? = some (.sh (.lst (tl ts))) := by rw [← hF]; rfl
  have F3 : F[3]? = some (.sh (.int cell)) := by rw [← hF]; rfl
  have F8 : F[8]? = some (.sh (webV C_Web n cs ts)) := by rw [← hF]; rfl
  have lF : F.length = 12 := by rw [← hF]; rfl
  -- in half of the scripts these first
  have w9 : (mT (mBin dEq (mBin (dIC posOk fun i j => .int (i % j)) (mBin (dIC divOk fun i j => .int (i / j)) (mVar 3) (mC (.int 9))) (mC (.int 2))) (mC (.int 1)))) F = .ok (cell / 9 % 2 == 1) :=
    t_ok ((bin_ok ((bin_ok ((bin_ok (var_ok F3) c_ok).trans (d9 cell)) c_ok).trans (p2 _)) c_ok).trans (dEq_int ..))
  obtain ⟨m1, dn1, s11⟩ : ∃ m1, noDN m1 ∧ (xAnd (xPT fun m => (mT (mBin dEq (mBin (dIC posOk fun i j => .int (i % j)) (mBin (dIC divOk fun i j => .int (i / j)) (mVar 3) (mC (.int 9))) (mC (.int 2))) (mC (.int 1))))) (xNot (xT (xCall 4 (X_law_beside_right C_Web) (xCons (xP fun m => (mVar 8)) (xCons (xP fun m => (mVar 1)) (xCons (xP fun m => (mVar 2)) (xCons (xN fun m => (mLst mNil)) xNil)))))))) m0 F = .ok m1 false := by
    cases hc9 : (cell / 9 % 2 == 1) with
    | true =>
      rw [hc9] at w9
      obtain ⟨m', E', e, H', _⟩ := br_call C_Web W (m := m0) (Δ := F) F8 F1 F2 xn_nil (held_new dn0) (by show 0 ≤ 1000; omega)
      exact ⟨m', H'.dn, (xand_t (xpt_ok w9)).trans e⟩
    | false =>
      rw [hc9] at w9
      exact ⟨m0, dn0, xand_f (xpt_ok w9)⟩
  rw [xseq_nx ((xif_f s11).trans rfl)]
  -- what is held
  have c9a := colours_n (C := C_Web) (Δ := F) (mo := mVar 8) (var_ok F8)
  have c9b := ties_n (C := C_Web) (Δ := F) (mo := mVar 8) (var_ok F8)
  have t9a : (xTup (xCons (xN fun m => (mMeth C_Web "colours" 1 (M_Web_colours C_Web) (mNl1 (mVar 8)) (mNl mNil))) (xCons (xP fun m => (mU dList (mVar 1))) xNil))) m1 F = .ok (m1 ++ [.lst (il cs)]) (.tup [.loc m1.length, .lst (il cs)]) := by
    unfold xTup
    rw [xcons_ok (xn_ok (me := fun m => (mMeth C_Web "colours" 1 (M_Web_colours C_Web) (mNl1 (mVar 8)) (mNl mNil))) c9a) (xcons_ok (xp_ok (me := fun m => (mU dList (mVar 1))) ((u_ok (var_ok F1)).trans (show dList (.lst (il cs)) = .ok (.lst (il cs)) from rfl))) xnil_ok), xbind_ok]
    exact if_pos (decide_eq_true (show 2 ≤ 16777216 by omega))
  have t9b : (xTup (xCons (xN fun m => (mMeth C_Web "ties" 1 (M_Web_ties C_Web) (mNl1 (mVar 8)) (mNl mNil))) (xCons (xP fun m => (mU dList (mVar 2))) xNil))) (m1 ++ [.lst (il cs)]) F = .ok (m1 ++ [.lst (il cs)] ++ [.lst (tl ts)]) (.tup [.loc (m1 ++ [Cl.lst (il cs)]).length, .lst (tl ts)]) := by
    unfold xTup
    rw [xcons_ok (xn_ok (me := fun m => (mMeth C_Web "ties" 1 (M_Web_ties C_Web) (mNl1 (mVar 8)) (mNl mNil))) c9b) (xcons_ok (xp_ok (me := fun m => (mU dList (mVar 2))) ((u_ok (var_ok F2)).trans (show dList (.lst (tl ts)) = .ok (.lst (tl ts)) from rfl))) xnil_ok), xbind_ok]
    exact if_pos (decide_eq_true (show 2 ≤ 16777216 by omega))
  have h9' : (xLstN (xCons (xTup (xCons (xN fun m => (mMeth C_Web "colours" 1 (M_Web_colours C_Web) (mNl1 (mVar 8)) (mNl mNil))) (xCons (xP fun m => (mU dList (mVar 1))) xNil))) (xCons (xTup (xCons (xN fun m => (mMeth C_Web "ties" 1 (M_Web_ties C_Web) (mNl1 (mVar 8)) (mNl mNil))) (xCons (xP fun m => (mU dList (mVar 2))) xNil))) xNil))) m1 F = .ok (m1 ++ [.lst (il cs)] ++ [.lst (tl ts)] ++ [.lst [ent (m1.length, il cs), ent ((m1 ++ [Cl.lst (il cs)]).length, tl ts)]]) (.loc (m1 ++ [Cl.lst (il cs)] ++ [Cl.lst (tl ts)]).length) := by
    unfold xLstN
    rw [xcons_ok t9a (xcons_ok t9b xnil_ok), xbind_ok]
    exact if_pos (decide_eq_true (show 2 ≤ 16777216 by omega))
  rw [xseq_nx (xasg_ok h9')]
  have H0 : Held (m1 ++ [Cl.lst (il cs)] ++ [Cl.lst (tl ts)] ++ [Cl.lst [ent (m1.length, il cs), ent ((m1 ++ [Cl.lst (il cs)]).length, tl ts)]]) (m1 ++ [Cl.lst (il cs)] ++ [Cl.lst (tl ts)]).length [(m1.length, il cs), ((m1 ++ [Cl.lst (il cs)]).length, tl ts)] := by
    refine ⟨?_, noDN_app (noDN_app (noDN_app dn1)), fun e he => ?_⟩
    · rw [List.getElem?_append_right (Nat.le_refl _), Nat.sub_self]
      rfl
    · simp only [List.mem_cons, List.not_mem_nil, or_false] at he
      rcases he with rfl | rfl
      · refine ⟨?_, ?_, .inl ⟨cs, rfl⟩, by show (il cs).length ≤ 1000; rw [il_len]; omega⟩
        · show m1.length ≠ (m1 ++ [Cl.lst (il cs)] ++ [Cl.lst (tl ts)]).length
          rw [List.length_append, List.length_append, List.length_singleton]
          omega
        · show (m1 ++ [Cl.lst (il cs)] ++ [Cl.lst (tl ts)] ++ [_])[m1.length]? = some (Cl.lst (il cs))
          rw [List.append_assoc, List.append_assoc, List.getElem?_append_right (Nat.le_refl _), Nat.sub_self]
          rfl
      · refine ⟨?_, ?_, .inr ⟨ts, rfl⟩, by show (tl ts).length ≤ 1000; rw [tl_len]; omega⟩
        · show (m1 ++ [Cl.lst (il cs)]).length ≠ (m1 ++ [Cl.lst (il cs)] ++ [Cl.lst (tl ts)]).length
          rw [List.length_append (bs := [Cl.lst (tl ts)]), List.length_singleton]
          omega
        · show (m1 ++ [Cl.lst (il cs)] ++ [Cl.lst (tl ts)] ++ [_])[(m1 ++ [Cl.lst (il cs)]).length]? = some (Cl.lst (tl ts))
          rw [List.append_assoc (as := m1 ++ [Cl.lst (il cs)]), List.getElem?_append_right (Nat.le_refl _), Nat.sub_self]
          rfl
  generalize (m1 ++ [Cl.lst (il cs)] ++ [Cl.lst (tl ts)] ++ [Cl.lst [ent (m1.length, il cs), ent ((m1 ++ [Cl.lst (il cs)]).length, tl ts)]]) = m2 at H0
  generalize (m1 ++ [Cl.lst (il cs)] ++ [Cl.lst (tl ts)]).length = h at H0
  generalize hE0 : ([(m1.length, il cs), ((m1 ++ [Cl.lst (il cs)]).length, tl ts)] : List (Nat × List Dt)) = E0 at H0
  have lE0 : E0.length = 2 := by rw [← hE0]; rfl
  generalize hG : F.set 9 (.sh (.loc h)) = G
  have G1 : G[1]? = some (.sh (.lst (il cs))) := by rw [← hG, List.getElem?_set_ne (by omega)]; exact F1
  have G2 : G[2]? = some (.sh (.lst (tl ts))) := by rw [← hG, List.getElem?_set_ne (by omega)]; exact F2
  have G3 : G[3]? = some (.sh (.int cell)) := by rw [← hG, List.getElem?_set_ne (by omega)]; exact F3
  have G8 : G[8]? = some (.sh (webV C_Web n cs ts)) := by rw [← hG, List.getElem?_set_ne (by omega)]; exact F8
  have G9 : G[9]? = some (.sh (.loc h)) := by rw [← hG]; exact List.getElem?_set_self (by omega)
  have lG : G.length = 12 := by rw [← hG, List.length_set]; exact lF
  have tG := told_e2 (C := C_Web) (Δ := G) (ma := mVar 8) (mb := (mTup (mCons (mVar 1) (mCons (mVar 2) mNil)))) W (var_ok G8) (tup2 (var_ok G1) (var_ok G2))
  obtain ⟨m3, E3, e13, H3, l3⟩ := br_call C_Web W (m := m2) (Δ := G) (xh := xP fun m => (mVar 9)) G8 G1 G2 (xp_ok (var_ok G9)) H0 (by omega)
  rw [xseq_nx ((xif_f ((xor_f (xpt_ok (not_ok (t_ok tG)))).trans e13)).trans rfl)]
  -- is_same
  obtain ⟨a, ha⟩ : ∃ a : Nat, cell / 39 % n = (a : Int) := ⟨(cell / 39 % n).toNat, by have := Int.emod_nonneg (cell / 39) (show (n : Int) ≠ 0 by omega); omega⟩
  have a_lt : a < n := by have := Int.emod_lt_of_pos (cell / 39) (show (0 : Int) < n by omega); omega
  have ia : (mBin (dIC posOk fun i j => .int (i % j)) (mBin (dIC divOk fun i j => .int (i / j)) (mVar 3) (mC (.int 39))) (mU dLen (mVar 1))) G = .ok (.int a) := by
    rw [← ha]
    exact (bin_ok ((bin_ok (var_ok G3) c_ok).trans (d39 cell)) ((u_ok (var_ok G1)).trans (len_il cs len))).trans (pn _)
  have sr : (mCall 4 (M_law_same_right C_Web) (mNl (mCons (mVar 8) (mCons (mVar 1) (mCons (mVar 2) (mCons (mBin (dIC posOk fun i j => .int (i % j)) (mBin (dIC divOk fun i j => .int (i / j)) (mVar 3) (mC (.int 39))) (mU dLen (mVar 1))) mNil)))))) G = .ok (.bl true) :=
    (call_ok (nl_ok (cons_ok (var_ok G8) (cons_ok (var_ok G1) (cons_ok (var_ok G2) (cons_ok ia nil_ok)))) (nls_cons (nl_web ..) (nls_cons (nl_lst (nls_il cs)) (nls_cons (nl_lst (nls_tl ts)) (nls_cons (nl_int _) nls_nil))))) rfl).trans (same_right_ok C_Web W a_lt)
  rw [xseq_nx ((xif_f (xpt_ok (not_ok (t_ok sr)))).trans rfl)]
  have hs := held_same H3 (by omega) (Δ := G) (i := 9) (j := 10) G9 (fun d => by
    have z : 10 < (wipeD G [10]).length := by rw [wipeD_len, lG]; omega
    exact List.getElem?_set_self z)
  rw [xseq_nx ((xif_f (xpt_ok hs)).trans rfl)]
  obtain ⟨m4, K, e16, dn4, rK⟩ := held_app H3 (by omega) (Δ := G) (i := 9) (j := 10) G9 (by omega)
  rw [xseq_nx e16]
  have gK : ∀ i, i ≠ 10 → K[i]? = G[i]? := fun i hi => by
    rcases rK with rK | ⟨d, rK⟩
    · rw [rK]
    · rw [rK, List.getElem?_set_ne (fun z => hi z.symm)]
  have K1 : K[1]? = some (.sh (.lst (il cs))) := (gK 1 (by omega)).trans G1
  have K2 : K[2]? = some (.sh (.lst (tl ts))) := (gK 2 (by omega)).trans G2
  have K3 : K[3]? = some (.sh (.int cell)) := (gK 3 (by omega)).trans G3
  have K8 : K[8]? = some (.sh (webV C_Web n cs ts)) := (gK 8 (by omega)).trans G8
  have lK : K.length = 12 := by
    rcases rK with rK | ⟨d, rK⟩
    · rw [rK]; exact lG
    · rw [rK, List.length_set]; exact lG
  have tK := told_e2 (C := C_Web) (Δ := K) (ma := mVar 8) (mb := (mTup (mCons (mVar 1) (mCons (mVar 2) mNil)))) W (var_ok K8) (tup2 (var_ok K1) (var_ok K2))
  obtain ⟨m5, E5, e17, H5, _⟩ := br_call C_Web W (m := m4) (Δ := K) K8 K1 K2 xn_nil (held_new dn4) (by show 0 ≤ 1000; omega)
  rw [xseq_nx ((xif_f ((xor_f (xpt_ok (not_ok (t_ok tK)))).trans e17)).trans rfl)]
  -- a point that is none
  obtain ⟨q, hq⟩ : ∃ q : Nat, cell / 507 % 9 = (q : Int) := ⟨(cell / 507 % 9).toNat, by omega⟩
  have q9 : q < (oddP n).length := by show q < 9; omega
  obtain ⟨d, hd⟩ : ∃ d, (oddP n)[q]? = some d := ⟨_, List.getElem?_eq_getElem q9⟩
  have od := oddP_no d (List.mem_of_getElem? hd)
  have lenK : (mU dLen (mVar 1)) K = .ok (.int n) := (u_ok (var_ok K1)).trans (len_il cs len)
  have pw : (mBin (dIC powOk fun i j => .int (i ^ j.toNat)) (mC (.int 10)) (mC (.int 9))) K = .ok (.int (10 ^ (9 : Int).toNat)) := (bin_ok c_ok c_ok).trans (dIC_ok (by decide))
  have iq : (mBin (dIC posOk fun i j => .int (i % j)) (mBin (dIC divOk fun i j => .int (i / j)) (mVar 3) (mC (.int 507))) (mC (.int 9))) K = .ok (.int q) := by
    rw [← hq]
    exact (bin_ok ((bin_ok (var_ok K3) c_ok).trans (d507 cell)) c_ok).trans (p9 _)
  have sum : (mBin (dI fun i j => .int (i + j)) (mU dLen (mVar 1)) (mBin (dIC powOk fun i j => .int (i ^ j.toNat)) (mC (.int 10)) (mC (.int 9)))) K = .ok (.int ((n : Int) + 10 ^ (9 : Int).toNat)) := (bin_ok lenK pw).trans rfl
  have e18 := (bin_ok (f := dIx) (lst_ok (ds := oddP n) (cons_ok (a := .int (-1)) (ma := mNeg (mC (.int 1))) (Δ := K) rfl (cons_ok lenK (cons_ok c_ok (cons_ok c_ok (cons_ok c_ok (cons_ok sum (cons_ok c_ok (cons_ok (lst_ok nil_ok (Nat.zero_le _)) (cons_ok (lst_ok (ds := [.int 0]) (cons_ok c_ok nil_ok) (by show 1 ≤ 16777216; omega)) nil_ok))))))))) (by show 9 ≤ 16777216; omega)) iq).trans (at_lst hd)
  rw [xseq_nx (xps_ok (asg_ok e18))]
  have L8 : (K.set 11 (.sh d))[8]? = some (.sh (webV C_Web n cs ts)) := by
    rw [List.getElem?_set_ne (by omega)]
    exact K8
  have L11 : (K.set 11 (.sh d))[11]? = some (.sh d) := List.getElem?_set_self (by omega)
  exact ⟨m5, xret_ok (xp_ok ((call_ok (nl_ok (cons_ok (var_ok L8) (cons_ok (var_ok L11) nil_ok)) (nls_cons (nl_web ..) (nls_cons od.2.2.l nls_nil))) rfl).trans (no_point_ok C_Web od.2.1 od.1)))⟩

end K2
namespace K2
open PySem L2 Mr PyProof.Rows
/-- what the program's top has left -/
theorem all_mk {l : PySem.W.OpenLaw} {w : World} {K : PySem.W.Frag} {h : Heap} {mg : Str → Option Value} {fa : Addr} (X : K.In h) (G : h.Ns mainGlobals mg) (hfa : mg "law" = some (.ref fa)) (hbits : Nat)
    {C_Web : Addr} {f_is_whole : Addr} {od_is_whole an_is_whole : Option Addr} {sl_is_whole : Array (Option Value)} {oc_is_whole kV_is_whole dc_is_whole pm_is_whole cd_is_whole ct_is_whole : Value} {f_is_below : Addr} {od_is_below an_is_below : Option Addr} {sl_is_below : Array (Option Value)} {oc_is_below kV_is_below dc_is_below pm_is_below cd_is_below ct_is_below : Value} {cc_are_colours tP_are_colours : Addr} {f_are_colours : Addr} {od_are_colours an_are_colours : Option Addr} {sl_are_colours : Array (Option Value)} {oc_are_colours kV_are_colours dc_are_colours pm_are_colours ct_are_colours : Value} {f_is_tie : Addr} {od_is_tie an_is_tie : Option Addr} {sl_is_tie : Array (Option Value)} {oc_is_tie kV_is_tie dc_is_tie pm_is_tie cd_is_tie ct_is_tie : Value} {cc_are_ties tP_are_ties : Addr} {f_are_ties : Addr} {od_are_ties an_are_ties : Option Addr} {sl_are_ties : Array (Option Value)} {oc_are_ties kV_are_ties dc_are_ties pm_are_ties ct_are_ties : Value} {f_Web_init__ : Addr} {od_Web_init__ an_Web_init__ : Option Addr} {sl_Web_init__ : Array (Option Value)} {oc_Web_init__ kV_Web_init__ dc_Web_init__ pm_Web_init__ cd_Web_init__ ct_Web_init__ : Value} {f_Web_colours : Addr} {od_Web_colours an_Web_colours : Option Addr} {sl_Web_colours : Array (Option Value)} {oc_Web_colours kV_Web_colours dc_Web_colours pm_Web_colours cd_Web_colours ct_Web_colours : Value} {f_Web_ties : Addr} {od_Web_ties an_Web_ties : Option Addr} {sl_Web_ties : Array (Option Value)} {oc_Web_ties kV_Web_ties dc_Web_ties pm_Web_ties cd_Web_ties ct_Web_ties : Value} {f_Web_beside : Addr} {od_Web_beside an_Web_beside : Option Addr} {sl_Web_beside : Array (Option Value)} {oc_Web_beside kV_Web_beside dc_Web_beside pm_Web_beside cd_Web_beside ct_Web_beside : Value} {f_is_same : Addr} {od_is_same an_is_same : Option Addr} {sl_is_same : Array (Option Value)} {oc_is_same kV_is_same dc_is_same pm_is_same cd_is_same ct_is_same : Value} {f_law_cell_at : Addr} {od_law_cell_at an_law_cell_at : Option Addr} {sl_law_cell_at : Array (Option Value)} {oc_law_cell_at kV_law_cell_at dc_law_cell_at pm_law_cell_at cd_law_cell_at ct_law_cell_at : Value} {f_law_mixed : Addr} {od_law_mixed an_law_mixed : Option Addr} {sl_law_mixed : Array (Option Value)} {oc_law_mixed kV_law_mixed dc_law_mixed pm_law_mixed cd_law_mixed ct_law_mixed : Value} {f_law_whole : Addr} {od_law_whole an_law_whole : Option Addr} {sl_law_whole : Array (Option Value)} {oc_law_whole kV_law_whole dc_law_whole pm_law_whole cd_law_whole ct_law_whole : Value} {f_law_row : Addr} {od_law_row an_law_row : Option Addr} {sl_law_row : Array (Option Value)} {oc_law_row kV_law_row dc_law_row pm_law_row cd_law_row ct_law_row : Value} {f_law_alike_rows : Addr} {od_law_alike_rows an_law_alike_rows : Option Addr} {sl_law_alike_rows : Array (Option Value)} {oc_law_alike_rows kV_law_alike_rows dc_law_alike_rows pm_law_alike_rows cd_law_alike_rows ct_law_alike_rows : Value} {f_law_tied : Addr} {od_law_tied an_law_tied : Option Addr} {sl_law_tied : Array (Option Value)} {oc_law_tied kV_law_tied dc_law_tied pm_law_tied cd_law_tied ct_law_tied : Value} {f_law_uneven : Addr} {od_law_uneven an_law_uneven : Option Addr} {sl_law_uneven : Array (Option Value)} {oc_law_uneven kV_law_uneven dc_law_uneven pm_law_uneven cd_law_uneven ct_law_uneven : Value} {f_law_web_by : Addr} {od_law_web_by an_law_web_by : Option Addr} {sl_law_web_by : Array (Option Value)} {oc_law_web_by kV_law_web_by dc_law_web_by pm_law_web_by cd_law_web_by ct_law_web_by : Value} {f_law_told : Addr} {od_law_told an_law_told : Option Addr} {sl_law_told : Array (Option Value)} {oc_law_told kV_law_told dc_law_told pm_law_told cd_law_told ct_law_told : Value} {f_law_made : Addr} {od_law_made an_law_made : Option Addr} {sl_law_made : Array (Option Value)} {oc_law_made kV_law_made dc_law_made pm_law_made cd_law_made ct_law_made : Value} {f_law_wrong : Addr} {od_law_wrong an_law_wrong : Option Addr} {sl_law_wrong : Array (Option Value)} {oc_law_wrong kV_law_wrong dc_law_wrong pm_law_wrong cd_law_wrong ct_law_wrong : Value} {f_law_beside_right : Addr} {od_law_beside_right an_law_beside_right : Option Addr} {sl_law_beside_right : Array (Option Value)} {oc_law_beside_right kV_law_beside_right dc_law_beside_right pm_law_beside_right cd_law_beside_right ct_law_beside_right : Value} {f_law_no_point : Addr} {od_law_no_point an_law_no_point : Option Addr} {sl_law_no_point : Array (Option Value)} {oc_law_no_point kV_law_no_point dc_law_no_point pm_law_no_point cd_law_no_point ct_law_no_point : Value} {f_law_same_right : Addr} {od_law_same_right an_law_same_right : Option Addr} {sl_law_same_right : Array (Option Value)} {oc_law_same_right kV_law_same_right dc_law_same_right pm_law_same_right cd_law_same_right ct_law_same_right : Value} {f_law : Addr} {od_law an_law : Option Addr} {sl_law : Array (Option Value)} {oc_law kV_law dc_law pm_law cd_law ct_law : Value} {f_law_alone : Addr} {od_law_alone an_law_alone : Option Addr} {sl_law_alone : Array (Option Value)} {oc_law_alone kV_law_alone dc_law_alone pm_law_alone cd_law_alone ct_law_alone : Value} {E_BadWeb : Addr} {E_BadRow : Addr} {E_BadCells : Addr} {E_NoPoint : Addr} {E_NoTurn : Addr} {E_NoWeb : Addr} {E_WebError : Addr} {t_MANY_COLOURS : Tok} {t_MOST_POINTS : Tok}
    (g_Web : PySem.W.nsIn K mainGlobals "Web" = some (some (.ref C_Web))) (pg_Web : PySem.W.plainGet K C_Web Str.empty = true) (hd_Web : PySem.W.hasDictIn K C_Web = true) (po_Web : PySem.W.plainOver K C_Web = true) (sa_Web : PySem.W.findIn K (.ref C_Web) "__setattr__" = some (some (.builtin "object.__setattr__"))) (mk_Web : PySem.W.makesIn K C_Web = true) (kc_Web : PySem.W.keepIn K (.ref C_Web) = true) (n_Web_colours : PySem.W.findIn K (.ref C_Web) "_colours" = some none) (n_Web_ties : PySem.W.findIn K (.ref C_Web) "_ties" = some none) (n_Web_size : PySem.W.findIn K (.ref C_Web) "size" = some none) (a_is_whole : PySem.W.nsIn K mainGlobals "is_whole" = some (some (.ref f_is_whole))) (l_is_whole : K.lookup f_is_whole = some ⟨oc_is_whole, od_is_whole, .func (PySem.W.fnOf "is_whole" "is_whole" (defArgs st_is_whole) (defBody st_is_whole) (defScope st_is_whole) .none kV_is_whole dc_is_whole pm_is_whole an_is_whole cd_is_whole ct_is_whole), sl_is_whole⟩) (c_is_whole : PySem.W.codeIn K cd_is_whole "is_whole" = true) (k_is_whole : PySem.W.keepIn K (.ref f_is_whole) = true) (a_is_below : PySem.W.nsIn K mainGlobals "is_below" = some (some (.ref f_is_below))) (l_is_below : K.lookup f_is_below = some ⟨oc_is_below, od_is_below, .func (PySem.W.fnOf "is_below" "is_below" (defArgs st_is_below) (defBody st_is_below) (defScope st_is_below) .none kV_is_below dc_is_below pm_is_below an_is_below cd_is_below ct_is_below), sl_is_below⟩) (c_is_below : PySem.W.codeIn K cd_is_below "is_below" = true) (k_is_below : PySem.W.keepIn K (.ref f_is_below) = true) (a_are_colours : PySem.W.nsIn K mainGlobals "_are_colours" = some (some (.ref f_are_colours))) (l_are_colours : K.lookup f_are_colours = some ⟨oc_are_colours, od_are_colours, .func (PySem.W.fnOf "_are_colours" "_are_colours" (defArgs st_are_colours) (defBody st_are_colours) (defScope st_are_colours) .none kV_are_colours dc_are_colours pm_are_colours an_are_colours (.ref cc_are_colours) ct_are_colours), sl_are_colours⟩) (c_are_colours : PySem.W.codeIn K (.ref cc_are_colours) "_are_colours" = true) (k_are_colours : PySem.W.keepIn K (.ref f_are_colours) = true) (t_are_colours : PySem.W.tabIn K "_are_colours" = some (cc_are_colours, tP_are_colours)) (n_are_colours : K.lookup tP_are_colours = none) (a_is_tie : PySem.W.nsIn K mainGlobals "_is_tie" = some (some (.ref f_is_tie))) (l_is_tie : K.lookup f_is_tie = some ⟨oc_is_tie, od_is_tie, .func (PySem.W.fnOf "_is_tie" "_is_tie" (defArgs st_is_tie) (defBody st_is_tie) (defScope st_is_tie) .none kV_is_tie dc_is_tie pm_is_tie an_is_tie cd_is_tie ct_is_tie), sl_is_tie⟩) (c_is_tie : PySem.W.codeIn K cd_is_tie "_is_tie" = true) (k_is_tie : PySem.W.keepIn K (.ref f_is_tie) = true) (a_are_ties : PySem.W.nsIn K mainGlobals "_are_ties" = some (some (.ref f_are_ties))) (l_are_ties : K.lookup f_are_ties = some ⟨oc_are_ties, od_are_ties, .func (PySem.W.fnOf "_are_ties" "_are_ties" (defArgs st_are_ties) (defBody st_are_ties) (defScope st_are_ties) .none kV_are_ties dc_are_ties pm_are_ties an_are_ties (.ref cc_are_ties) ct_are_ties), sl_are_ties⟩) (c_are_ties : PySem.W.codeIn K (.ref cc_are_ties) "_are_ties" = true) (k_are_ties : PySem.W.keepIn K (.ref f_are_ties) = true) (t_are_ties : PySem.W.tabIn K "_are_ties" = some (cc_are_ties, tP_are_ties)) (n_are_ties : K.lookup tP_are_ties = none) (a_Web_init__ : PySem.W.findIn K (.ref C_Web) "__init__" = some (some (.ref f_Web_init__))) (i_Web_init__ : PySem.W.isFn K (.ref f_Web_init__) = true) (l_Web_init__ : K.lookup f_Web_init__ = some ⟨oc_Web_init__, od_Web_init__, .func (PySem.W.fnOf "__init__" "Web.__init__" (defArgs st_Web_init__) (defBody st_Web_init__) (defScope st_Web_init__) .none kV_Web_init__ dc_Web_init__ pm_Web_init__ an_Web_init__ cd_Web_init__ ct_Web_init__), sl_Web_init__⟩) (c_Web_init__ : PySem.W.codeIn K cd_Web_init__ "Web.__init__" = true) (k_Web_init__ : PySem.W.keepIn K (.ref f_Web_init__) = true) (a_Web_colours : PySem.W.findIn K (.ref C_Web) "colours" = some (some (.ref f_Web_colours))) (i_Web_colours : PySem.W.isFn K (.ref f_Web_colours) = true) (l_Web_colours : K.lookup f_Web_colours = some ⟨oc_Web_colours, od_Web_colours, .func (PySem.W.fnOf "colours" "Web.colours" (defArgs st_Web_colours) (defBody st_Web_colours) (defScope st_Web_colours) .none kV_Web_colours dc_Web_colours pm_Web_colours an_Web_colours cd_Web_colours ct_Web_colours), sl_Web_colours⟩) (c_Web_colours : PySem.W.codeIn K cd_Web_colours "Web.colours" = true) (k_Web_colours : PySem.W.keepIn K (.ref f_Web_colours) = true) (a_Web_ties : PySem.W.findIn K (.ref C_Web) "ties" = some (some (.ref f_Web_ties))) (i_Web_ties : PySem.W.isFn K (.ref f_Web_ties) = true) (l_Web_ties : K.lookup f_Web_ties = some ⟨oc_Web_ties, od_Web_ties, .func (PySem.W.fnOf "ties" "Web.ties" (defArgs st_Web_ties) (defBody st_Web_ties) (defScope st_Web_ties) .none kV_Web_ties dc_Web_ties pm_Web_ties an_Web_ties cd_Web_ties ct_Web_ties), sl_Web_ties⟩) (c_Web_ties : PySem.W.codeIn K cd_Web_ties "Web.ties" = true) (k_Web_ties : PySem.W.keepIn K (.ref f_Web_ties) = true) (a_Web_beside : PySem.W.findIn K (.ref C_Web) "beside" = some (some (.ref f_Web_beside))) (i_Web_beside : PySem.W.isFn K (.ref f_Web_beside) = true) (l_Web_beside : K.lookup f_Web_beside = some ⟨oc_Web_beside, od_Web_beside, .func (PySem.W.fnOf "beside" "Web.beside" (defArgs st_Web_beside) (defBody st_Web_beside) (defScope st_Web_beside) .none kV_Web_beside dc_Web_beside pm_Web_beside an_Web_beside cd_Web_beside ct_Web_beside), sl_Web_beside⟩) (c_Web_beside : PySem.W.codeIn K cd_Web_beside "Web.beside" = true) (k_Web_beside : PySem.W.keepIn K (.ref f_Web_beside) = true) (a_is_same : PySem.W.nsIn K mainGlobals "is_same" = some (some (.ref f_is_same))) (l_is_same : K.lookup f_is_same = some ⟨oc_is_same, od_is_same, .func (PySem.W.fnOf "is_same" "is_same" (defArgs st_is_same) (defBody st_is_same) (defScope st_is_same) .none kV_is_same dc_is_same pm_is_same an_is_same cd_is_same ct_is_same), sl_is_same⟩) (c_is_same : PySem.W.codeIn K cd_is_same "is_same" = true) (k_is_same : PySem.W.keepIn K (.ref f_is_same) = true) (a_law_cell_at : PySem.W.nsIn K mainGlobals "_law_cell_at" = some (some (.ref f_law_cell_at))) (l_law_cell_at : K.lookup f_law_cell_at = some ⟨oc_law_cell_at, od_law_cell_at, .func (PySem.W.fnOf "_law_cell_at" "_law_cell_at" (defArgs st_law_cell_at) (defBody st_law_cell_at) (defScope st_law_cell_at) .none kV_law_cell_at dc_law_cell_at pm_law_cell_at an_law_cell_at cd_law_cell_at ct_law_cell_at), sl_law_cell_at⟩) (c_law_cell_at : PySem.W.codeIn K cd_law_cell_at "_law_cell_at" = true) (k_law_cell_at : PySem.W.keepIn K (.ref f_law_cell_at) = true) (a_law_mixed : PySem.W.nsIn K mainGlobals "_law_mixed" = some (some (.ref f_law_mixed))) (l_law_mixed : K.lookup f_law_mixed = some ⟨oc_law_mixed, od_law_mixed, .func (PySem.W.fnOf "_law_mixed" "_law_mixed" (defArgs st_law_mixed) (defBody st_law_mixed) (defScope st_law_mixed) .none kV_law_mixed dc_law_mixed pm_law_mixed an_law_mixed cd_law_mixed ct_law_mixed), sl_law_mixed⟩) (c_law_mixed : PySem.W.codeIn K cd_law_mixed "_law_mixed" = true) (k_law_mixed : PySem.W.keepIn K (.ref f_law_mixed) = true) (a_law_whole : PySem.W.nsIn K mainGlobals "_law_whole" = some (some (.ref f_law_whole))) (l_law_whole : K.lookup f_law_whole = some ⟨oc_law_whole, od_law_whole, .func (PySem.W.fnOf "_law_whole" "_law_whole" (defArgs st_law_whole) (defBody st_law_whole) (defScope st_law_whole) .none kV_law_whole dc_law_whole pm_law_whole an_law_whole cd_law_whole ct_law_whole), sl_law_whole⟩) (c_law_whole : PySem.W.codeIn K cd_law_whole "_law_whole" = true) (k_law_whole : PySem.W.keepIn K (.ref f_law_whole) = true) (a_law_row : PySem.W.nsIn K mainGlobals "_law_row" = some (some (.ref f_law_row))) (l_law_row : K.lookup f_law_row = some ⟨oc_law_row, od_law_row, .func (PySem.W.fnOf "_law_row" "_law_row" (defArgs st_law_row) (defBody st_law_row) (defScope st_law_row) .none kV_law_row dc_law_row pm_law_row an_law_row cd_law_row ct_law_row), sl_law_row⟩) (c_law_row : PySem.W.codeIn K cd_law_row "_law_row" = true) (k_law_row : PySem.W.keepIn K (.ref f_law_row) = true) (a_law_alike_rows : PySem.W.nsIn K mainGlobals "_law_alike_rows" = some (some (.ref f_law_alike_rows))) (l_law_alike_rows : K.lookup f_law_alike_rows = some ⟨oc_law_alike_rows, od_law_alike_rows, .func (PySem.W.fnOf "_law_alike_rows" "_law_alike_rows" (defArgs st_law_alike_rows) (defBody st_law_alike_rows) (defScope st_law_alike_rows) .none kV_law_alike_rows dc_law_alike_rows pm_law_alike_rows an_law_alike_rows cd_law_alike_rows ct_law_alike_rows), sl_law_alike_rows⟩) (c_law_alike_rows : PySem.W.codeIn K cd_law_alike_rows "_law_alike_rows" = true) (k_law_alike_rows : PySem.W.keepIn K (.ref f_law_alike_rows) = true) (a_law_tied : PySem.W.nsIn K mainGlobals "_law_tied" = some (some (.ref f_law_tied))) (l_law_tied : K.lookup f_law_tied = some ⟨oc_law_tied, od_law_tied, .func (PySem.W.fnOf "_law_tied" "_law_tied" (defArgs st_law_tied) (defBody st_law_tied) (defScope st_law_tied) .none kV_law_tied dc_law_tied pm_law_tied an_law_tied cd_law_tied ct_law_tied), sl_law_tied⟩) (c_law_tied : PySem.W.codeIn K cd_law_tied "_law_tied" = true) (k_law_tied : PySem.W.keepIn K (.ref f_law_tied) = true) (a_law_uneven : PySem.W.nsIn K mainGlobals "_law_uneven" = some (some (.ref f_law_uneven))) (l_law_uneven : K.lookup f_law_uneven = some ⟨oc_law_uneven, od_law_uneven, .func (PySem.W.fnOf "_law_uneven" "_law_uneven" (defArgs st_law_uneven) (defBody st_law_uneven) (defScope st_law_uneven) .none kV_law_uneven dc_law_uneven pm_law_uneven an_law_uneven cd_law_uneven ct_law_uneven), sl_law_uneven⟩) (c_law_uneven : PySem.W.codeIn K cd_law_uneven "_law_uneven" = true) (k_law_uneven : PySem.W.keepIn K (.ref f_law_uneven) = true) (a_law_web_by : PySem.W.nsIn K mainGlobals "_law_web_by" = some (some (.ref f_law_web_by))) (l_law_web_by : K.lookup f_law_web_by = some ⟨oc_law_web_by, od_law_web_by, .func (PySem.W.fnOf "_law_web_by" "_law_web_by" (defArgs st_law_web_by) (defBody st_law_web_by) (defScope st_law_web_by) .none kV_law_web_by dc_law_web_by pm_law_web_by an_law_web_by cd_law_web_by ct_law_web_by), sl_law_web_by⟩) (c_law_web_by : PySem.W.codeIn K cd_law_web_by "_law_web_by" = true) (k_law_web_by : PySem.W.keepIn K (.ref f_law_web_by) = true) (a_law_told : PySem.W.nsIn K mainGlobals "_law_told" = some (some (.ref f_law_told))) (l_law_told : K.lookup f_law_told = some ⟨oc_law_told, od_law_told, .func (PySem.W.fnOf "_law_told" "_law_told" (defArgs st_law_told) (defBody st_law_told) (defScope st_law_told) .none kV_law_told dc_law_told pm_law_told an_law_told cd_law_told ct_law_told), sl_law_told⟩) (c_law_told : PySem.W.codeIn K cd_law_told "_law_told" = true) (k_law_told : PySem.W.keepIn K (.ref f_law_told) = true) (a_law_made : PySem.W.nsIn K mainGlobals "_law_made" = some (some (.ref f_law_made))) (l_law_made : K.lookup f_law_made = some ⟨oc_law_made, od_law_made, .func (PySem.W.fnOf "_law_made" "_law_made" (defArgs st_law_made) (defBody st_law_made) (defScope st_law_made) .none kV_law_made dc_law_made pm_law_made an_law_made cd_law_made ct_law_made), sl_law_made⟩) (c_law_made : PySem.W.codeIn K cd_law_made "_law_made" = true) (k_law_made : PySem.W.keepIn K (.ref f_law_made) = true) (a_law_wrong : PySem.W.nsIn K mainGlobals "_law_wrong" = some (some (.ref f_law_wrong))) (l_law_wrong : K.lookup f_law_wrong = some ⟨oc_law_wrong, od_law_wrong, .func (PySem.W.fnOf "_law_wrong" "_law_wrong" (defArgs st_law_wrong) (defBody st_law_wrong) (defScope st_law_wrong) .none kV_law_wrong dc_law_wrong pm_law_wrong an_law_wrong cd_law_wrong ct_law_wrong), sl_law_wrong⟩) (c_law_wrong : PySem.W.codeIn K cd_law_wrong "_law_wrong" = true) (k_law_wrong : PySem.W.keepIn K (.ref f_law_wrong) = true) (a_law_beside_right : PySem.W.nsIn K mainGlobals "_law_beside_right" = some (some (.ref f_law_beside_right))) (l_law_beside_right : K.lookup f_law_beside_right = some ⟨oc_law_beside_right, od_law_beside_right, .func (PySem.W.fnOf "_law_beside_right" "_law_beside_right" (defArgs st_law_beside_right) (defBody st_law_beside_right) (defScope st_law_beside_right) .none kV_law_beside_right dc_law_beside_right pm_law_beside_right an_law_beside_right cd_law_beside_right ct_law_beside_right), sl_law_beside_right⟩) (c_law_beside_right : PySem.W.codeIn K cd_law_beside_right "_law_beside_right" = true) (k_law_beside_right : PySem.W.keepIn K (.ref f_law_beside_right) = true) (a_law_no_point : PySem.W.nsIn K mainGlobals "_law_no_point" = some (some (.ref f_law_no_point))) (l_law_no_point : K.lookup f_law_no_point = some ⟨oc_law_no_point, od_law_no_point, .func (PySem.W.fnOf "_law_no_point" "_law_no_point" (defArgs st_law_no_point) (defBody st_law_no_point) (defScope st_law_no_point) .none kV_law_no_point dc_law_no_point pm_law_no_point an_law_no_point cd_law_no_point ct_law_no_point), sl_law_no_point⟩) (c_law_no_point : PySem.W.codeIn K cd_law_no_point "_law_no_point" = true) (k_law_no_point : PySem.W.keepIn K (.ref f_law_no_point) = true) (a_law_same_right : PySem.W.nsIn K mainGlobals "_law_same_right" = some (some (.ref f_law_same_right))) (l_law_same_right : K.lookup f_law_same_right = some ⟨oc_law_same_right, od_law_same_right, .func (PySem.W.fnOf "_law_same_right" "_law_same_right" (defArgs st_law_same_right) (defBody st_law_same_right) (defScope st_law_same_right) .none kV_law_same_right dc_law_same_right pm_law_same_right an_law_same_right cd_law_same_right ct_law_same_right), sl_law_same_right⟩) (c_law_same_right : PySem.W.codeIn K cd_law_same_right "_law_same_right" = true) (k_law_same_right : PySem.W.keepIn K (.ref f_law_same_right) = true) (a_law : PySem.W.nsIn K mainGlobals "law" = some (some (.ref f_law))) (l_law : K.lookup f_law = some ⟨oc_law, od_law, .func (PySem.W.fnOf "law" "law" (defArgs st_law) (defBody st_law) (defScope st_law) .none kV_law dc_law pm_law an_law cd_law ct_law), sl_law⟩) (c_law : PySem.W.codeIn K cd_law "law" = true) (k_law : PySem.W.keepIn K (.ref f_law) = true) (a_law_alone : PySem.W.nsIn K mainGlobals "_law_alone" = some (some (.ref f_law_alone))) (l_law_alone : K.lookup f_law_alone = some ⟨oc_law_alone, od_law_alone, .func (PySem.W.fnOf "_law_alone" "_law_alone" (defArgs st_law_alone) (defBody st_law_alone) (defScope st_law_alone) .none kV_law_alone dc_law_alone pm_law_alone an_law_alone cd_law_alone ct_law_alone), sl_law_alone⟩) (c_law_alone : PySem.W.codeIn K cd_law_alone "_law_alone" = true) (k_law_alone : PySem.W.keepIn K (.ref f_law_alone) = true) (g_BadWeb : PySem.W.nsIn K mainGlobals "BadWeb" = some (some (.ref E_BadWeb))) (g_BadRow : PySem.W.nsIn K mainGlobals "BadRow" = some (some (.ref E_BadRow))) (g_BadCells : PySem.W.nsIn K mainGlobals "BadCells" = some (some (.ref E_BadCells))) (g_NoPoint : PySem.W.nsIn K mainGlobals "NoPoint" = some (some (.ref E_NoPoint))) (g_NoTurn : PySem.W.nsIn K mainGlobals "NoTurn" = some (some (.ref E_NoTurn))) (g_NoWeb : PySem.W.nsIn K mainGlobals "NoWeb" = some (some (.ref E_NoWeb))) (g_WebError : PySem.W.nsIn K mainGlobals "WebError" = some (some (.ref E_WebError))) (xx_BadWeb : PySem.W.excIn K E_BadWeb [.type "ValueError", .type "Exception", .type "BaseException", .type "object"] "ValueError.__new__" = true) (xk_BadWeb : PySem.W.keepIn K (.ref E_BadWeb) = true) (xb_BadWeb : PySem.W.subIn K (.ref E_BadWeb) (.type "BaseException") = some true) (xt_BadWeb : PySem.W.typeIn K (.ref E_BadWeb) = some (.type "type")) (xx_NoPoint : PySem.W.excIn K E_NoPoint [.type "ValueError", .type "Exception", .type "BaseException", .type "object"] "ValueError.__new__" = true) (xk_NoPoint : PySem.W.keepIn K (.ref E_NoPoint) = true) (xb_NoPoint : PySem.W.subIn K (.ref E_NoPoint) (.type "BaseException") = some true) (xt_NoPoint : PySem.W.typeIn K (.ref E_NoPoint) = some (.type "type")) (xg_BadWeb : PySem.W.findIn K (.ref E_BadWeb) "__getattribute__" = some (some (.builtin "BaseException.__getattribute__"))) (xa_BadWeb : PySem.W.findIn K (.ref E_BadWeb) "__getattr__" = some none) (xd_BadWeb : PySem.W.hasDictIn K E_BadWeb = true) (xc_BadWeb : PySem.W.findIn K (.ref E_BadWeb) "__class__" = some (some (.builtin "object.__class__"))) (xm_BadWeb : PySem.W.mroIn K E_BadWeb (.type "object") = some true) (xw_BadWeb : PySem.W.subIn K (.ref E_BadWeb) (.ref E_WebError) = some true) (xi_BadWeb_BadWeb : PySem.W.kitOne K (.ref E_BadWeb) (.ref E_BadWeb) = some true) (xi_BadWeb_BadRow : PySem.W.kitOne K (.ref E_BadWeb) (.ref E_BadRow) = some false) (xi_BadWeb_BadCells : PySem.W.kitOne K (.ref E_BadWeb) (.ref E_BadCells) = some false) (xi_BadWeb_NoPoint : PySem.W.kitOne K (.ref E_BadWeb) (.ref E_NoPoint) = some false) (xi_BadWeb_NoTurn : PySem.W.kitOne K (.ref E_BadWeb) (.ref E_NoTurn) = some false) (xi_BadWeb_NoWeb : PySem.W.kitOne K (.ref E_BadWeb) (.ref E_NoWeb) = some false) (xv_BadWeb : PySem.W.kitOne K (.ref E_BadWeb) (.type "ValueError") = some true) (xg_NoPoint : PySem.W.findIn K (.ref E_NoPoint) "__getattribute__" = some (some (.builtin "BaseException.__getattribute__"))) (xa_NoPoint : PySem.W.findIn K (.ref E_NoPoint) "__getattr__" = some none) (xd_NoPoint : PySem.W.hasDictIn K E_NoPoint = true) (xc_NoPoint : PySem.W.findIn K (.ref E_NoPoint) "__class__" = some (some (.builtin "object.__class__"))) (xm_NoPoint : PySem.W.mroIn K E_NoPoint (.type "object") = some true) (xw_NoPoint : PySem.W.subIn K (.ref E_NoPoint) (.ref E_WebError) = some true) (xi_NoPoint_BadWeb : PySem.W.kitOne K (.ref E_NoPoint) (.ref E_BadWeb) = some false) (xi_NoPoint_BadRow : PySem.W.kitOne K (.ref E_NoPoint) (.ref E_BadRow) = some false) (xi_NoPoint_BadCells : PySem.W.kitOne K (.ref E_NoPoint) (.ref E_BadCells) = some false) (xi_NoPoint_NoPoint : PySem.W.kitOne K (.ref E_NoPoint) (.ref E_NoPoint) = some true) (xi_NoPoint_NoTurn : PySem.W.kitOne K (.ref E_NoPoint) (.ref E_NoTurn) = some false) (xi_NoPoint_NoWeb : PySem.W.kitOne K (.ref E_NoPoint) (.ref E_NoWeb) = some false) (xv_NoPoint : PySem.W.kitOne K (.ref E_NoPoint) (.type "ValueError") = some true) (wb : PySem.W.subIn K (.ref E_WebError) (.type "BaseException") = some true) (wd : PySem.W.hasDictIn K E_WebError = true) (wt : PySem.W.typeIn K (.ref E_WebError) = some (.type "type")) (og : PySem.W.specialIn K (.builtin "object.__class__") "__get__" = some (some (.builtin "getset_descriptor.__get__"))) (ot : PySem.W.takesIn K (.builtin "object.__class__") = some true) (b_ValueError : PySem.W.nsIn K mainGlobals "ValueError" = some none) (b_all : PySem.W.nsIn K mainGlobals "all" = some none) (b_bool : PySem.W.nsIn K mainGlobals "bool" = some none) (b_int : PySem.W.nsIn K mainGlobals "int" = some none) (b_isinstance : PySem.W.nsIn K mainGlobals "isinstance" = some none) (b_len : PySem.W.nsIn K mainGlobals "len" = some none) (b_list : PySem.W.nsIn K mainGlobals "list" = some none) (b_max : PySem.W.nsIn K mainGlobals "max" = some none) (b_min : PySem.W.nsIn K mainGlobals "min" = some none) (b_range : PySem.W.nsIn K mainGlobals "range" = some none) (b_set : PySem.W.nsIn K mainGlobals "set" = some none) (b_sorted : PySem.W.nsIn K mainGlobals "sorted" = some none) (b_tuple : PySem.W.nsIn K mainGlobals "tuple" = some none) (b_type : PySem.W.nsIn K mainGlobals "type" = some none) (v_MANY_COLOURS : PySem.W.nsIn K mainGlobals "MANY_COLOURS" = some (some (.int 10 t_MANY_COLOURS))) (v_MOST_POINTS : PySem.W.nsIn K mainGlobals "MOST_POINTS" = some (some (.int 12 t_MOST_POINTS)))
    (tab : ∀ y ∈ (["_are_colours", "_are_ties"] : List Str), ∀ c P, PySem.W.tabIn K y = some (c, P) → PySem.W.CodeHd h c P ∧ h.get? P = some { cls := .none, data := .fields #[] }) : LamX.LawAtS l w K (L2N.CX l.prog w) 9 63 "_law_script" mg fa h := by
  have hl := PySem.W.mg_of X G a_law
  have e := hfa.symm.trans hl
  cases e
  have F_law := fun_mk (st := st_law) l_law c_law k_law
  refine ⟨PySem.W.fnOf "law" "law" (defArgs st_law) (defBody st_law) (defScope st_law) .none kV_law dc_law pm_law an_law cd_law ct_law, [(cc_are_colours, tP_are_colours), (cc_are_ties, tP_are_ties)], spM K [tP_are_colours, tP_are_ties] mg 1 (X_law C_Web), ?_, ?_, ?_, fun s u => .of_eq rfl, fun H a nums hn hb tb hs => (math_law C_Web nums hn hb).elim fun m hm => spM_true (fun P hP => ?_) hs hm, fun base kb gb tB => ?_⟩
  · intro p hp
    simp only [List.mem_cons, List.not_mem_nil, or_false] at hp
    rcases hp with z | z
    · rw [z]
      exact (tab _ (by simp) _ _ t_are_colours).2
    · rw [z]
      exact (tab _ (by simp) _ _ t_are_ties).2
  · intro p hp
    simp only [List.mem_cons, List.not_mem_nil, or_false] at hp
    rcases hp with z | z
    · rw [z]
      exact n_are_colours
    · rw [z]
      exact n_are_ties
  · intro p hp
    simp only [List.mem_cons, List.not_mem_nil, or_false] at hp
    rcases hp with z | z
    · rw [z]
      exact (tab _ (by simp) _ _ t_are_colours).1
    · rw [z]
      exact (tab _ (by simp) _ _ t_are_ties).1
  · have hp := hP
    simp only [List.mem_cons, List.not_mem_nil, or_false] at hp
    rcases hp with z | z
    · rw [z]
      exact tb (cc_are_colours, tP_are_colours) (by simp)
    · rw [z]
      exact tb (cc_are_ties, tP_are_ties) (by simp)
  · skip
    have TB_are_colours := tabB_of (tB (cc_are_colours, tP_are_colours) (by simp))
    have TB_are_ties := tabB_of (tB (cc_are_ties, tP_are_ties) (by simp))
    have K_Web : Cls K C_Web := ⟨pg_Web, hd_Web, po_Web, sa_Web⟩
    have G_Web : mg "Web" = some (.ref C_Web) := PySem.W.mg_of X G g_Web
    have G_BadWeb : mg "BadWeb" = some (.ref E_BadWeb) := PySem.W.mg_of X G g_BadWeb
    have G_BadRow : mg "BadRow" = some (.ref E_BadRow) := PySem.W.mg_of X G g_BadRow
    have G_BadCells : mg "BadCells" = some (.ref E_BadCells) := PySem.W.mg_of X G g_BadCells
    have G_NoPoint : mg "NoPoint" = some (.ref E_NoPoint) := PySem.W.mg_of X G g_NoPoint
    have G_NoTurn : mg "NoTurn" = some (.ref E_NoTurn) := PySem.W.mg_of X G g_NoTurn
    have G_NoWeb : mg "NoWeb" = some (.ref E_NoWeb) := PySem.W.mg_of X G g_NoWeb
    have G_WebError : mg "WebError" = some (.ref E_WebError) := PySem.W.mg_of X G g_WebError
    have XK_BadWeb : ExcK K E_BadWeb := ⟨xx_BadWeb, xk_BadWeb, xb_BadWeb, xt_BadWeb⟩
    have XK_NoPoint : ExcK K E_NoPoint := ⟨xx_NoPoint, xk_NoPoint, xb_NoPoint, xt_NoPoint⟩
    have Q_BadWeb : ExcC K E_BadWeb := ⟨xg_BadWeb, xa_BadWeb, xb_BadWeb, xd_BadWeb, xc_BadWeb, og, ot, xm_BadWeb⟩
    have E_BadWeb_m : PySem.W.exmOne K (.ref E_BadWeb) (.ref E_WebError) = some true := PySem.W.exm_ref wb wd wt xw_BadWeb
    have Q_NoPoint : ExcC K E_NoPoint := ⟨xg_NoPoint, xa_NoPoint, xb_NoPoint, xd_NoPoint, xc_NoPoint, og, ot, xm_NoPoint⟩
    have E_NoPoint_m : PySem.W.exmOne K (.ref E_NoPoint) (.ref E_WebError) = some true := PySem.W.exm_ref wb wd wt xw_NoPoint
    have B_ValueError : mg "ValueError" = none := PySem.W.mg_none_of X G b_ValueError
    have B_all : mg "all" = none := PySem.W.mg_none_of X G b_all
    have B_bool : mg "bool" = none := PySem.W.mg_none_of X G b_bool
    have B_int : mg "int" = none := PySem.W.mg_none_of X G b_int
    have B_isinstance : mg "isinstance" = none := PySem.W.mg_none_of X G b_isinstance
    have B_len : mg "len" = none := PySem.W.mg_none_of X G b_len
    have B_list : mg "list" = none := PySem.W.mg_none_of X G b_list
    have B_max : mg "max" = none := PySem.W.mg_none_of X G b_max
    have B_min : mg "min" = none := PySem.W.mg_none_of X G b_min
    have B_range : mg "range" = none := PySem.W.mg_none_of X G b_range
    have B_set : mg "set" = none := PySem.W.mg_none_of X G b_set
    have B_sorted : mg "sorted" = none := PySem.W.mg_none_of X G b_sorted
    have B_tuple : mg "tuple" = none := PySem.W.mg_none_of X G b_tuple
    have B_type : mg "type" = none := PySem.W.mg_none_of X G b_type
    have V_MANY_COLOURS := PySem.W.mg_of X G v_MANY_COLOURS
    have V_MOST_POINTS := PySem.W.mg_of X G v_MOST_POINTS
    have M_is_whole := PySem.W.mg_of X G a_is_whole
    have F_is_whole := fun_mk (st := st_is_whole) l_is_whole c_is_whole k_is_whole
    have N_is_whole := F_is_whole.binds (ps := ["thing"]) fun _ _ _ _ _ _ us hl => match us, hl with | [_], _ => rfl
    have M_is_below := PySem.W.mg_of X G a_is_below
    have F_is_below := fun_mk (st := st_is_below) l_is_below c_is_below k_is_below
    have N_is_below := F_is_below.binds (ps := ["thing", "limit"]) fun _ _ _ _ _ _ us hl => match us, hl with | [_, _], _ => rfl
    have M_are_colours := PySem.W.mg_of X G a_are_colours
    have F_are_colours := fun_mk (st := st_are_colours) l_are_colours c_are_colours k_are_colours
    have N_are_colours := F_are_colours.binds (ps := ["thing"]) fun _ _ _ _ _ _ us hl => match us, hl with | [_], _ => rfl
    have M_is_tie := PySem.W.mg_of X G a_is_tie
    have F_is_tie := fun_mk (st := st_is_tie) l_is_tie c_is_tie k_is_tie
    have N_is_tie := F_is_tie.binds (ps := ["thing", "size"]) fun _ _ _ _ _ _ us hl => match us, hl with | [_, _], _ => rfl
    have M_are_ties := PySem.W.mg_of X G a_are_ties
    have F_are_ties := fun_mk (st := st_are_ties) l_are_ties c_are_ties k_are_ties
    have N_are_ties := F_are_ties.binds (ps := ["thing", "size"]) fun _ _ _ _ _ _ us hl => match us, hl with | [_, _], _ => rfl
    have F_Web_init__ := fun_mk (st := st_Web_init__) l_Web_init__ c_Web_init__ k_Web_init__
    have N_Web_init__ := F_Web_init__.binds (ps := ["self", "colours", "ties"]) fun _ _ _ _ _ _ us hl => match us, hl with | [_, _, _], _ => rfl
    have F_Web_colours := fun_mk (st := st_Web_colours) l_Web_colours c_Web_colours k_Web_colours
    have N_Web_colours := F_Web_colours.binds (ps := ["self"]) fun _ _ _ _ _ _ us hl => match us, hl with | [_], _ => rfl
    have F_Web_ties := fun_mk (st := st_Web_ties) l_Web_ties c_Web_ties k_Web_ties
    have N_Web_ties := F_Web_ties.binds (ps := ["self"]) fun _ _ _ _ _ _ us hl => match us, hl with | [_], _ => rfl
    have F_Web_beside := fun_mk (st := st_Web_beside) l_Web_beside c_Web_beside k_Web_beside
    have N_Web_beside := F_Web_beside.binds (ps := ["self", "point"]) fun _ _ _ _ _ _ us hl => match us, hl with | [_, _], _ => rfl
    have M_is_same := PySem.W.mg_of X G a_is_same
    have F_is_same := fun_mk (st := st_is_same) l_is_same c_is_same k_is_same
    have N_is_same := F_is_same.binds (ps := ["one", "other"]) fun _ _ _ _ _ _ us hl => match us, hl with | [_, _], _ => rfl
    have M_law_cell_at := PySem.W.mg_of X G a_law_cell_at
    have F_law_cell_at := fun_mk (st := st_law_cell_at) l_law_cell_at c_law_cell_at k_law_cell_at
    have N_law_cell_at := F_law_cell_at.binds (ps := ["_law_script", "_law_k"]) fun _ _ _ _ _ _ us hl => match us, hl with | [_, _], _ => rfl
    have M_law_mixed := PySem.W.mg_of X G a_law_mixed
    have F_law_mixed := fun_mk (st := st_law_mixed) l_law_mixed c_law_mixed k_law_mixed
    have N_law_mixed := F_law_mixed.binds (ps := ["_law_cell", "_law_k"]) fun _ _ _ _ _ _ us hl => match us, hl with | [_, _], _ => rfl
    have M_law_whole := PySem.W.mg_of X G a_law_whole
    have F_law_whole := fun_mk (st := st_law_whole) l_law_whole c_law_whole k_law_whole
    have N_law_whole := F_law_whole.binds (ps := ["_law_found"]) fun _ _ _ _ _ _ us hl => match us, hl with | [_], _ => rfl
    have M_law_row := PySem.W.mg_of X G a_law_row
    have F_law_row := fun_mk (st := st_law_row) l_law_row c_law_row k_law_row
    have N_law_row := F_law_row.binds (ps := ["_law_size", "_law_number"]) fun _ _ _ _ _ _ us hl => match us, hl with | [_, _], _ => rfl
    have M_law_alike_rows := PySem.W.mg_of X G a_law_alike_rows
    have F_law_alike_rows := fun_mk (st := st_law_alike_rows) l_law_alike_rows c_law_alike_rows k_law_alike_rows
    have N_law_alike_rows := F_law_alike_rows.binds (ps := ["_law_found", "_law_due"]) fun _ _ _ _ _ _ us hl => match us, hl with | [_, _], _ => rfl
    have M_law_tied := PySem.W.mg_of X G a_law_tied
    have F_law_tied := fun_mk (st := st_law_tied) l_law_tied c_law_tied k_law_tied
    have N_law_tied := F_law_tied.binds (ps := ["_law_kind", "_law_one", "_law_other", "_law_size", "_law_number"]) fun _ _ _ _ _ _ us hl => match us, hl with | [_, _, _, _, _], _ => rfl
    have M_law_uneven := PySem.W.mg_of X G a_law_uneven
    have F_law_uneven := fun_mk (st := st_law_uneven) l_law_uneven c_law_uneven k_law_uneven
    have N_law_uneven := F_law_uneven.binds (ps := ["_law_cell"]) fun _ _ _ _ _ _ us hl => match us, hl with | [_], _ => rfl
    have M_law_web_by := PySem.W.mg_of X G a_law_web_by
    have F_law_web_by := fun_mk (st := st_law_web_by) l_law_web_by c_law_web_by k_law_web_by
    have N_law_web_by := F_law_web_by.binds (ps := ["_law_script", "_law_most"]) fun _ _ _ _ _ _ us hl => match us, hl with | [_, _], _ => rfl
    have M_law_told := PySem.W.mg_of X G a_law_told
    have F_law_told := fun_mk (st := st_law_told) l_law_told c_law_told k_law_told
    have N_law_told := F_law_told.binds (ps := ["_law_web", "_law_due"]) fun _ _ _ _ _ _ us hl => match us, hl with | [_, _], _ => rfl
    have M_law_made := PySem.W.mg_of X G a_law_made
    have F_law_made := fun_mk (st := st_law_made) l_law_made c_law_made k_law_made
    have N_law_made := F_law_made.binds (ps := ["_law_colours", "_law_ties"]) fun _ _ _ _ _ _ us hl => match us, hl with | [_, _], _ => rfl
    have M_law_wrong := PySem.W.mg_of X G a_law_wrong
    have F_law_wrong := fun_mk (st := st_law_wrong) l_law_wrong c_law_wrong k_law_wrong
    have N_law_wrong := F_law_wrong.binds (ps := ["_law_colours", "_law_ties", "_law_cell"]) fun _ _ _ _ _ _ us hl => match us, hl with | [_, _, _], _ => rfl
    have M_law_beside_right := PySem.W.mg_of X G a_law_beside_right
    have F_law_beside_right := fun_mk (st := st_law_beside_right) l_law_beside_right c_law_beside_right k_law_beside_right
    have N_law_beside_right := F_law_beside_right.binds (ps := ["_law_web", "_law_colours", "_law_ties", "_law_held"]) fun _ _ _ _ _ _ us hl => match us, hl with | [_, _, _, _], _ => rfl
    have M_law_no_point := PySem.W.mg_of X G a_law_no_point
    have F_law_no_point := fun_mk (st := st_law_no_point) l_law_no_point c_law_no_point k_law_no_point
    have N_law_no_point := F_law_no_point.binds (ps := ["_law_web", "_law_thing"]) fun _ _ _ _ _ _ us hl => match us, hl with | [_, _], _ => rfl
    have M_law_same_right := PySem.W.mg_of X G a_law_same_right
    have F_law_same_right := fun_mk (st := st_law_same_right) l_law_same_right c_law_same_right k_law_same_right
    have N_law_same_right := F_law_same_right.binds (ps := ["_law_web", "_law_colours", "_law_ties", "_law_at"]) fun _ _ _ _ _ _ us hl => match us, hl with | [_, _, _, _], _ => rfl
    have M_law_alone := PySem.W.mg_of X G a_law_alone
    have F_law_alone := fun_mk (st := st_law_alone) l_law_alone c_law_alone k_law_alone
    have N_law_alone := F_law_alone.binds (ps := ["_law_e", "_law_which"]) fun _ _ _ _ _ _ us hl => match us, hl with | [_, _], _ => rfl
    have Y_is_whole := qd_is_whole (P := l.prog) (w := w) (K := K) (mg := mg) (base := base) F_is_whole M_is_whole N_is_whole (b_int := B_int) (b_type := B_type)
    have Y_is_below := qd_is_below (P := l.prog) (w := w) (K := K) (mg := mg) (base := base) F_is_below M_is_below N_is_below (q_is_whole := Y_is_whole)
    have Y_is_tie := qd_is_tie (P := l.prog) (w := w) (K := K) (mg := mg) (base := base) F_is_tie M_is_tie N_is_tie (b_len := B_len) (q_is_below := Y_is_below) (b_tuple := B_tuple) (b_type := B_type)
    have A_BadWeb := hot_law_alone (P := l.prog) (w := w) (K := K) (mg := mg) (base := base) F_law_alone M_law_alone N_law_alone Q_BadWeb B_isinstance B_range B_ValueError G_BadWeb G_BadRow G_BadCells G_NoPoint G_NoTurn G_NoWeb xi_BadWeb_BadWeb xi_BadWeb_BadRow xi_BadWeb_BadCells xi_BadWeb_NoPoint xi_BadWeb_NoTurn xi_BadWeb_NoWeb xv_BadWeb
    have A_NoPoint := hot_law_alone (P := l.prog) (w := w) (K := K) (mg := mg) (base := base) F_law_alone M_law_alone N_law_alone Q_NoPoint B_isinstance B_range B_ValueError G_BadWeb G_BadRow G_BadCells G_NoPoint G_NoTurn G_NoWeb xi_NoPoint_BadWeb xi_NoPoint_BadRow xi_NoPoint_BadCells xi_NoPoint_NoPoint xi_NoPoint_NoTurn xi_NoPoint_NoWeb xv_NoPoint
    have D_is_whole := ok_is_whole (P := l.prog) (w := w) (K := K) (T := [tP_are_colours, tP_are_ties]) (mg := mg) (base := base) F_is_whole M_is_whole N_is_whole (b_int := B_int) (b_type := B_type)
    have D_is_below := ok_is_below (P := l.prog) (w := w) (K := K) (T := [tP_are_colours, tP_are_ties]) (mg := mg) (base := base) F_is_below M_is_below N_is_below (f_is_whole := D_is_whole)
    have D_are_colours := ok_are_colours (P := l.prog) (w := w) (K := K) (T := [tP_are_colours, tP_are_ties]) (mg := mg) (base := base) F_are_colours M_are_colours N_are_colours (hc := rfl) (TB := TB_are_colours) (hP := by simp) (b_all := B_all) (c_MANY_COLOURS := V_MANY_COLOURS) (c_MOST_POINTS := V_MOST_POINTS) (f_is_below := D_is_below) (b_len := B_len) (b_list := B_list) (q_is_below := Y_is_below) (b_type := B_type)
    have D_is_tie := ok_is_tie (P := l.prog) (w := w) (K := K) (T := [tP_are_colours, tP_are_ties]) (mg := mg) (base := base) F_is_tie M_is_tie N_is_tie (f_is_below := D_is_below) (b_len := B_len) (b_tuple := B_tuple) (b_type := B_type)
    have D_are_ties := ok_are_ties (P := l.prog) (w := w) (K := K) (T := [tP_are_colours, tP_are_ties]) (mg := mg) (base := base) F_are_ties M_are_ties N_are_ties (hc := rfl) (TB := TB_are_ties) (hP := by simp) (b_all := B_all) (f_is_tie := D_is_tie) (b_len := B_len) (b_list := B_list) (q_is_tie := Y_is_tie) (b_set := B_set) (b_type := B_type)
    have DX_Web_init__ := okk_Web_init__ (P := l.prog) (w := w) (K := K) (T := [tP_are_colours, tP_are_ties]) (mg := mg) (base := base) F_Web_init__ (hcl := G_Web) (hmk := ⟨mk_Web, a_Web_init__, i_Web_init__, kc_Web⟩) N_Web_init__ (n_Web_colours := n_Web_colours) (n_Web_ties := n_Web_ties) (n_Web_size := n_Web_size) (f_are_colours := D_are_colours) (f_are_ties := D_are_ties) (g_BadWeb := G_BadWeb) (x_BadWeb := XK_BadWeb) (k_Web := K_Web) (b_len := B_len) (b_list := B_list) (b_sorted := B_sorted)
    have D_Web_colours := okp_Web_colours (P := l.prog) (w := w) (K := K) (T := [tP_are_colours, tP_are_ties]) (mg := mg) (base := base) F_Web_colours (hme := (⟨a_Web_colours, i_Web_colours, k_Web_colours⟩ : Meth K C_Web "colours" f_Web_colours)) N_Web_colours (n_Web_colours := n_Web_colours) (k_Web := K_Web) (b_list := B_list)
    have D_Web_ties := okp_Web_ties (P := l.prog) (w := w) (K := K) (T := [tP_are_colours, tP_are_ties]) (mg := mg) (base := base) F_Web_ties (hme := (⟨a_Web_ties, i_Web_ties, k_Web_ties⟩ : Meth K C_Web "ties" f_Web_ties)) N_Web_ties (n_Web_ties := n_Web_ties) (k_Web := K_Web) (b_list := B_list)
    have D_Web_beside := okp_Web_beside (P := l.prog) (w := w) (K := K) (T := [tP_are_colours, tP_are_ties]) (mg := mg) (base := base) F_Web_beside (hme := (⟨a_Web_beside, i_Web_beside, k_Web_beside⟩ : Meth K C_Web "beside" f_Web_beside)) N_Web_beside (n_Web_ties := n_Web_ties) (n_Web_size := n_Web_size) (f_is_below := D_is_below) (g_NoPoint := G_NoPoint) (x_NoPoint := XK_NoPoint) (k_Web := K_Web) (b_sorted := B_sorted)
    have D_is_same := ok_is_same (P := l.prog) (w := w) (K := K) (T := [tP_are_colours, tP_are_ties]) (mg := mg) (base := base) F_is_same M_is_same N_is_same (k_Web := K_Web) (p_Web_colours := D_Web_colours) (p_Web_ties := D_Web_ties)
    have D_law_cell_at := ok_law_cell_at (P := l.prog) (w := w) (K := K) (T := [tP_are_colours, tP_are_ties]) (mg := mg) (base := base) F_law_cell_at M_law_cell_at N_law_cell_at (b_len := B_len)
    have D_law_mixed := ok_law_mixed (P := l.prog) (w := w) (K := K) (T := [tP_are_colours, tP_are_ties]) (mg := mg) (base := base) F_law_mixed M_law_mixed N_law_mixed 
    have D_law_whole := ok_law_whole (P := l.prog) (w := w) (K := K) (T := [tP_are_colours, tP_are_ties]) (mg := mg) (base := base) F_law_whole M_law_whole N_law_whole (b_bool := B_bool) (b_int := B_int) (b_isinstance := B_isinstance)
    have D_law_row := ok_law_row (P := l.prog) (w := w) (K := K) (T := [tP_are_colours, tP_are_ties]) (mg := mg) (base := base) F_law_row M_law_row N_law_row (b_len := B_len) (b_list := B_list) (b_range := B_range)
    have D_law_alike_rows := ok_law_alike_rows (P := l.prog) (w := w) (K := K) (T := [tP_are_colours, tP_are_ties]) (mg := mg) (base := base) F_law_alike_rows M_law_alike_rows N_law_alike_rows (b_all := B_all) (f_law_whole := D_law_whole) (b_isinstance := B_isinstance) (b_len := B_len) (b_list := B_list)
    have D_law_tied := ok_law_tied (P := l.prog) (w := w) (K := K) (T := [tP_are_colours, tP_are_ties]) (mg := mg) (base := base) F_law_tied M_law_tied N_law_tied (b_max := B_max)
    have D_law_uneven := ok_law_uneven (P := l.prog) (w := w) (K := K) (T := [tP_are_colours, tP_are_ties]) (mg := mg) (base := base) F_law_uneven M_law_uneven N_law_uneven (b_range := B_range)
    have D_law_web_by := ok_law_web_by (P := l.prog) (w := w) (K := K) (T := [tP_are_colours, tP_are_ties]) (mg := mg) (base := base) F_law_web_by M_law_web_by N_law_web_by (f_law_cell_at := D_law_cell_at) (f_law_mixed := D_law_mixed) (f_law_row := D_law_row) (f_law_tied := D_law_tied) (f_law_uneven := D_law_uneven) (b_max := B_max) (b_min := B_min) (b_range := B_range) (b_sorted := B_sorted)
    have D_law_told := ok_law_told (P := l.prog) (w := w) (K := K) (T := [tP_are_colours, tP_are_ties]) (mg := mg) (base := base) F_law_told M_law_told N_law_told (b_all := B_all) (n_Web_size := n_Web_size) (f_law_whole := D_law_whole) (b_isinstance := B_isinstance) (k_Web := K_Web) (b_len := B_len) (b_list := B_list) (p_Web_colours := D_Web_colours) (p_Web_ties := D_Web_ties) (b_tuple := B_tuple)
    have D_law_made := ok_law_made (P := l.prog) (w := w) (K := K) (T := [tP_are_colours, tP_are_ties]) (mg := mg) (base := base) F_law_made M_law_made N_law_made (g_BadWeb := G_BadWeb) (g_WebError := G_WebError) (e_BadWeb_WebError := E_BadWeb_m) (h_law_alone_BadWeb := A_BadWeb) (r_law_alone_BadWeb := alone_BadWeb) (mk_Web := DX_Web_init__)
    have D_law_wrong := ok_law_wrong (P := l.prog) (w := w) (K := K) (T := [tP_are_colours, tP_are_ties]) (mg := mg) (base := base) F_law_wrong M_law_wrong N_law_wrong (b_len := B_len) (b_tuple := B_tuple)
    have DX_law_beside_right := okx_law_beside_right (P := l.prog) (w := w) (K := K) (T := [tP_are_colours, tP_are_ties]) (mg := mg) (base := base) F_law_beside_right M_law_beside_right N_law_beside_right (f_law_alike_rows := D_law_alike_rows) (k_Web := K_Web) (b_len := B_len) (b_list := B_list) (p_Web_beside := D_Web_beside) (b_range := B_range) (b_sorted := B_sorted)
    have D_law_beside_right := DX_law_beside_right.pure
    have D_law_no_point := ok_law_no_point (P := l.prog) (w := w) (K := K) (T := [tP_are_colours, tP_are_ties]) (mg := mg) (base := base) F_law_no_point M_law_no_point N_law_no_point (g_NoPoint := G_NoPoint) (g_WebError := G_WebError) (e_NoPoint_WebError := E_NoPoint_m) (h_law_alone_NoPoint := A_NoPoint) (r_law_alone_NoPoint := alone_NoPoint) (k_Web := K_Web) (p_Web_beside := D_Web_beside)
    have D_law_same_right := ok_law_same_right (P := l.prog) (w := w) (K := K) (T := [tP_are_colours, tP_are_ties]) (mg := mg) (base := base) F_law_same_right M_law_same_right N_law_same_right (b_all := B_all) (b_bool := B_bool) (f_is_same := D_is_same) (b_isinstance := B_isinstance) (b_len := B_len) (mk_Web := DX_Web_init__)
    exact fn_law (P := l.prog) (w := w) (K := K) (T := [tP_are_colours, tP_are_ties]) (mg := mg) (base := base) F_law (f_law_cell_at := D_law_cell_at) (f_law_made := D_law_made) (f_law_mixed := D_law_mixed) (f_law_no_point := D_law_no_point) (f_law_same_right := D_law_same_right) (f_law_told := D_law_told) (f_law_web_by := D_law_web_by) (f_law_wrong := D_law_wrong) (k_Web := K_Web) (b_len := B_len) (b_list := B_list) (m_law_beside_right := DX_law_beside_right) (mk_Web := DX_Web_init__) (p_Web_colours := D_Web_colours) (p_Web_ties := D_Web_ties)
end K2
open PySem PySem.W PyProof.Rows
set_option maxRecDepth 100000 in
set_option maxHeartbeats 8000000 in
theorem PySem.Challenge.cw_sameweb_k02_webs_holds : PySem.Challenge.rw_sameweb_k02_webs.Holds := by
  w_on; o_law; k_head; (case hw => w_witness2)
  k_fill
  refine Mr.walk_tabs (l := PySem.Challenge.rw_sameweb_k02_webs) (k := 9) (n := 63) (CX := fun w => L2N.CX (PySem.Challenge.rw_sameweb_k02_webs).prog w) (x := "_law_script") ["_are_colours", "_are_ties"] rfl (by decide) rfl ⟨rfl, by decide, by decide⟩ (by decide +kernel) (fun w h Y => PySem.W.kIn_of Y) ?F (fun w H s e s' => Mr.cxN_end w H s e s')
  case F =>
    intro w mg fa h Y KX G hmg tab
    refine' K2.all_mk KX G hmg 0 ?g_Web ?pg_Web ?hd_Web ?po_Web ?sa_Web ?mk_Web ?kc_Web ?n_Web_colours ?n_Web_ties ?n_Web_size ?a_is_whole ?l_is_whole ?c_is_whole ?k_is_whole ?a_is_below ?l_is_below ?c_is_below ?k_is_below ?a_are_colours ?l_are_colours ?c_are_colours ?k_are_colours ?t_are_colours ?n_are_colours ?a_is_tie ?l_is_tie ?c_is_tie ?k_is_tie ?a_are_ties ?l_are_ties ?c_are_ties ?k_are_ties ?t_are_ties ?n_are_ties ?a_Web_init__ ?i_Web_init__ ?l_Web_init__ ?c_Web_init__ ?k_Web_init__ ?a_Web_colours ?i_Web_colours ?l_Web_colours ?c_Web_colours ?k_Web_colours ?a_Web_ties ?i_Web_ties ?l_Web_ties ?c_Web_ties ?k_Web_ties ?a_Web_beside ?i_Web_beside ?l_Web_beside ?c_Web_beside ?k_Web_beside ?a_is_same ?l_is_same ?c_is_same ?k_is_same ?a_law_cell_at ?l_law_cell_at ?c_law_cell_at ?k_law_cell_at ?a_law_mixed ?l_law_mixed ?c_law_mixed ?k_law_mixed ?a_law_whole ?l_law_whole ?c_law_whole ?k_law_whole ?a_law_row ?l_law_row ?c_law_row ?k_law_row ?a_law_alike_rows ?l_law_alike_rows ?c_law_alike_rows ?k_law_alike_rows ?a_law_tied ?l_law_tied ?c_law_tied ?k_law_tied ?a_law_uneven ?l_law_uneven ?c_law_uneven ?k_law_uneven ?a_law_web_by ?l_law_web_by ?c_law_web_by ?k_law_web_by ?a_law_told ?l_law_told ?c_law_told ?k_law_told ?a_law_made ?l_law_made ?c_law_made ?k_law_made ?a_law_wrong ?l_law_wrong ?c_law_wrong ?k_law_wrong ?a_law_beside_right ?l_law_beside_right ?c_law_beside_right ?k_law_beside_right ?a_law_no_point ?l_law_no_point ?c_law_no_point ?k_law_no_point ?a_law_same_right ?l_law_same_right ?c_law_same_right ?k_law_same_right ?a_law ?l_law ?c_law ?k_law ?a_law_alone ?l_law_alone ?c_law_alone ?k_law_alone ?g_BadWeb ?g_BadRow ?g_BadCells ?g_NoPoint ?g_NoTurn ?g_NoWeb ?g_WebError ?xx_BadWeb ?xk_BadWeb ?xb_BadWeb ?xt_BadWeb ?xx_NoPoint ?xk_NoPoint ?xb_NoPoint ?xt_NoPoint ?xg_BadWeb ?xa_BadWeb ?xd_BadWeb ?xc_BadWeb ?xm_BadWeb ?xw_BadWeb ?xi_BadWeb_BadWeb ?xi_BadWeb_BadRow ?xi_BadWeb_BadCells ?xi_BadWeb_NoPoint ?xi_BadWeb_NoTurn ?xi_BadWeb_NoWeb ?xv_BadWeb ?xg_NoPoint ?xa_NoPoint ?xd_NoPoint ?xc_NoPoint ?xm_NoPoint ?xw_NoPoint ?xi_NoPoint_BadWeb ?xi_NoPoint_BadRow ?xi_NoPoint_BadCells ?xi_NoPoint_NoPoint ?xi_NoPoint_NoTurn ?xi_NoPoint_NoWeb ?xv_NoPoint ?wb ?wd ?wt ?og ?ot ?b_ValueError ?b_all ?b_bool ?b_int ?b_isinstance ?b_len ?b_list ?b_max ?b_min ?b_range ?b_set ?b_sorted ?b_tuple ?b_type ?v_MANY_COLOURS ?v_MOST_POINTS tab
    (case g_Web => k_is)
    (case pg_Web => k_is)
    (case hd_Web => k_is)
    (case po_Web => k_is)
    (case sa_Web => k_is)
    (case mk_Web => k_is)
    (case kc_Web => k_is)
    (case n_Web_colours => k_is)
    (case n_Web_ties => k_is)
    (case n_Web_size => k_is)
    (case a_is_whole => k_is)
    (case l_is_whole => k_is)
    (case c_is_whole => k_is)
    (case k_is_whole => k_is)
    (case a_is_below => k_is)
    (case l_is_below => k_is)
    (case c_is_below => k_is)
    (case k_is_below => k_is)
    (case a_are_colours => k_is)
    (case l_are_colours => k_is)
    (case c_are_colours => k_is)
    (case k_are_colours => k_is)
    (case t_are_colours => refine' Mr.tab_in ?h1 ?h2 ?h3 ?h4 ?h5; (case h1 => k_is); (case h2 => k_is); (case h3 => rfl); (case h4 => k_is); (case h5 => rfl))
    (case n_are_colours => first | rfl | k_is | decide +kernel)
    (case a_is_tie => k_is)
    (case l_is_tie => k_is)
    (case c_is_tie => k_is)
    (case k_is_tie => k_is)
    (case a_are_ties => k_is)
    (case l_are_ties => k_is)
    (case c_are_ties => k_is)
    (case k_are_ties => k_is)
    (case t_are_ties => refine' Mr.tab_in ?h1 ?h2 ?h3 ?h4 ?h5; (case h1 => k_is); (case h2 => k_is); (case h3 => rfl); (case h4 => k_is); (case h5 => rfl))
    (case n_are_ties => first | rfl | k_is | decide +kernel)
    (case a_Web_init__ => k_is)
    (case i_Web_init__ => k_is)
    (case l_Web_init__ => k_is)
    (case c_Web_init__ => k_is)
    (case k_Web_init__ => k_is)
    (case a_Web_colours => k_is)
    (case i_Web_colours => k_is)
    (case l_Web_colours => k_is)
    (case c_Web_colours => k_is)
    (case k_Web_colours => k_is)
    (case a_Web_ties => k_is)
    (case i_Web_ties => k_is)
    (case l_Web_ties => k_is)
    (case c_Web_ties => k_is)
    (case k_Web_ties => k_is)
    (case a_Web_beside => k_is)
    (case i_Web_beside => k_is)
    (case l_Web_beside => k_is)
    (case c_Web_beside => k_is)
    (case k_Web_beside => k_is)
    (case a_is_same => k_is)
    (case l_is_same => k_is)
    (case c_is_same => k_is)
    (case k_is_same => k_is)
    (case a_law_cell_at => k_is)
    (case l_law_cell_at => k_is)
    (case c_law_cell_at => k_is)
    (case k_law_cell_at => k_is)
    (case a_law_mixed => k_is)
    (case l_law_mixed => k_is)
    (case c_law_mixed => k_is)
    (case k_law_mixed => k_is)
    (case a_law_whole => k_is)
    (case l_law_whole => k_is)
    (case c_law_whole => k_is)
    (case k_law_whole => k_is)
    (case a_law_row => k_is)
    (case l_law_row => k_is)
    (case c_law_row => k_is)
    (case k_law_row => k_is)
    (case a_law_alike_rows => k_is)
    (case l_law_alike_rows => k_is)
    (case c_law_alike_rows => k_is)
    (case k_law_alike_rows => k_is)
    (case a_law_tied => k_is)
    (case l_law_tied => k_is)
    (case c_law_tied => k_is)
    (case k_law_tied => k_is)
    (case a_law_uneven => k_is)
    (case l_law_uneven => k_is)
    (case c_law_uneven => k_is)
    (case k_law_uneven => k_is)
    (case a_law_web_by => k_is)
    (case l_law_web_by => k_is)
    (case c_law_web_by => k_is)
    (case k_law_web_by => k_is)
    (case a_law_told => k_is)
    (case l_law_told => k_is)
    (case c_law_told => k_is)
    (case k_law_told => k_is)
    (case a_law_made => k_is)
    (case l_law_made => k_is)
    (case c_law_made => k_is)
    (case k_law_made => k_is)
    (case a_law_wrong => k_is)
    (case l_law_wrong => k_is)
    (case c_law_wrong => k_is)
    (case k_law_wrong => k_is)
    (case a_law_beside_right => k_is)
    (case l_law_beside_right => k_is)
    (case c_law_beside_right => k_is)
    (case k_law_beside_right => k_is)
    (case a_law_no_point => k_is)
    (case l_law_no_point => k_is)
    (case c_law_no_point => k_is)
    (case k_law_no_point => k_is)
    (case a_law_same_right => k_is)
    (case l_law_same_right => k_is)
    (case c_law_same_right => k_is)
    (case k_law_same_right => k_is)
    (case a_law => k_is)
    (case l_law => k_is)
    (case c_law => k_is)
    (case k_law => k_is)
    (case a_law_alone => k_is)
    (case l_law_alone => k_is)
    (case c_law_alone => k_is)
    (case k_law_alone => k_is)
    (case g_BadWeb => k_is)
    (case g_BadRow => k_is)
    (case g_BadCells => k_is)
    (case g_NoPoint => k_is)
    (case g_NoTurn => k_is)
    (case g_NoWeb => k_is)
    (case g_WebError => k_is)
    (case xx_BadWeb => k_exc)
    (case xk_BadWeb => k_is)
    (case xb_BadWeb => k_is)
    (case xt_BadWeb => k_is)
    (case xx_NoPoint => k_exc)
    (case xk_NoPoint => k_is)
    (case xb_NoPoint => k_is)
    (case xt_NoPoint => k_is)
    (case xg_BadWeb => k_is)
    (case xa_BadWeb => k_is)
    (case xd_BadWeb => k_is)
    (case xc_BadWeb => k_is)
    (case xm_BadWeb => k_is)
    (case xw_BadWeb => k_is)
    (case xi_BadWeb_BadWeb => exact Mr.kit_self)
    (case xi_BadWeb_BadRow => refine' Mr.kit_ref ?_ ?_ ?_ (by decide +kernel) <;> k_is)
    (case xi_BadWeb_BadCells => refine' Mr.kit_ref ?_ ?_ ?_ (by decide +kernel) <;> k_is)
    (case xi_BadWeb_NoPoint => refine' Mr.kit_ref ?_ ?_ ?_ (by decide +kernel) <;> k_is)
    (case xi_BadWeb_NoTurn => refine' Mr.kit_ref ?_ ?_ ?_ (by decide +kernel) <;> k_is)
    (case xi_BadWeb_NoWeb => refine' Mr.kit_ref ?_ ?_ ?_ (by decide +kernel) <;> k_is)
    (case xv_BadWeb => refine' Mr.kit_ve ?_; k_is)
    (case xg_NoPoint => k_is)
    (case xa_NoPoint => k_is)
    (case xd_NoPoint => k_is)
    (case xc_NoPoint => k_is)
    (case xm_NoPoint => k_is)
    (case xw_NoPoint => k_is)
    (case xi_NoPoint_BadWeb => refine' Mr.kit_ref ?_ ?_ ?_ (by decide +kernel) <;> k_is)
    (case xi_NoPoint_BadRow => refine' Mr.kit_ref ?_ ?_ ?_ (by decide +kernel) <;> k_is)
    (case xi_NoPoint_BadCells => refine' Mr.kit_ref ?_ ?_ ?_ (by decide +kernel) <;> k_is)
    (case xi_NoPoint_NoPoint => exact Mr.kit_self)
    (case xi_NoPoint_NoTurn => refine' Mr.kit_ref ?_ ?_ ?_ (by decide +kernel) <;> k_is)
    (case xi_NoPoint_NoWeb => refine' Mr.kit_ref ?_ ?_ ?_ (by decide +kernel) <;> k_is)
    (case xv_NoPoint => refine' Mr.kit_ve ?_; k_is)
    (case wb => k_is)
    (case wd => k_is)
    (case wt => k_is)
    (case og => k_is)
    (case ot => k_is)
    (case b_ValueError => k_is)
    (case b_all => k_is)
    (case b_bool => k_is)
    (case b_int => k_is)
    (case b_isinstance => k_is)
    (case b_len => k_is)
    (case b_list => k_is)
    (case b_max => k_is)
    (case b_min => k_is)
    (case b_range => k_is)
    (case b_set => k_is)
    (case b_sorted => k_is)
    (case b_tuple => k_is)
    (case b_type => k_is)
    (case v_MANY_COLOURS => k_is)
    (case v_MOST_POINTS => k_is)
