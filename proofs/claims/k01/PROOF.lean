import PyProof.Rows.All
import Wide.All
import OpenK.AllK
import Wide.FinOn
import HandS.ForMost
import HandS.ForExc
import HandS.Evl
import HandS.Deep
import HandS.TupAny
import HandS.TupMul
import HandS.IsInst
import HandS.Property
import HandS.ExcOwn
import HandS.WordsExc
import HandS.Style
import HandS.TryMany
import HandS.ExcIs
import HandS.ExcField
import HandS.OwnEq
import KE.KStateDown
import HandS.Defaults
import HandS.EndBits
import HandS.Head0
import HandS.Head1
import HandS.Head2
import HandS.HeadEnd
import HandS.HeadHook1
import HandS.HeadHook2
import PySem.Challenge.RW_shipsrow_k01_fleets_refused
set_option Elab.async false
set_option linter.all false
set_option maxRecDepth 100000
set_option maxHeartbeats 0
/-! Sim0: plain data, cells, what stands for them in the heap; semantic functions; readings. -/
namespace Sim
open PySem L2 Evl

/-- plain data -/
inductive P where
  | non | bl (b : Bool) | int (i : Int) | str (x : Str)
  | tup (ps : List P) | lst (ps : List P) | scr (ps : List P) | dic (kvs : List (Key × P)) | ins (c : Nat) (ps : List P) | fn (k : Nat)
/-- a value: plain, or a thing that may change -/
inductive W where
  | p (p : P) | cell (k : Nat)
/-- what a cell holds -/
inductive O where
  | lst (ws : List W) | dic (kvs : List (Key × W)) | ins (c : Nat) (ws : List W)
abbrev S := List O
abbrev En := List (Option W)
/-- an own exception: its class, its fields -/
structure Xc where
  c : Nat
  ps : List P
inductive Rs (α : Type) where
  | ok (a : α) (s : S) | exc (x : Xc) (s : S) | no
def Rs.bind {α β : Type} (r : Rs α) (g : α → S → Rs β) : Rs β := match r with
  | .ok a s => g a s
  | .exc x s => .exc x s
  | .no => .no
/-- how a statement ends -/
inductive Fl where
  | nx (E : En) (s : S) | rt (w : W) (s : S) | bk (E : En) (s : S) | ct (E : En) (s : S) | xc (x : Xc) (E : En) (s : S) | no
abbrev FE := En → S → Rs W
abbrev FT := En → S → Rs Bool
abbrev FA := En → S → Rs (List W)
abbrev FS := En → S → Fl
abbrev FF := List W → S → Rs W

/-- where things stand -/
structure RC where
  K : PySem.W.Frag
  cls : Nat → Addr
  fna : Nat → Addr
  xcl : Nat → Addr
  /-- the classes, the errors that the text has -/
  has : Nat → Bool
  hax : Nat → Bool
/-- the classes (0 Fleet, 1 Plan, 2 Game): their attributes in the order in which they are stored -/
def fldN : Nat → List Str
  | 0 => ["_shape", "_ships", "_gap"]
  | 1 => ["_parts"]
  | 2 => ["_fleet", "_size", "_seen", "_stages"]
  | _ => []
/-- the errors: 0 SeaError, 1 BadShape, 2 BadShips, 3 BadGap, 4 BadNumber, 5 BadPart, 6 BadSeen, 7 BadOrder, 8 NoPlace, 9 BadCell, 10 Over, 11 BadLine: their fields -/
def xflN : Nat → List Str
  | 5 => ["index"]
  | 6 => ["index"]
  | 7 => ["index"]
  | 11 => ["line", "word"]
  | _ => []

mutual
inductive RepP (R : RC) (F : Hp) : P → V → Prop
  | non : RepP R F .non .non
  | bl (b : Bool) : RepP R F (.bl b) (.bl b)
  | int (i : Int) : RepP R F (.int i) (.int i)
  | str (x : Str) : RepP R F (.str x) (.str x)
  | tup {a : Addr} {vs : List V} {ps : List P} : SqT R.K F a vs → RepPs R F ps vs → RepP R F (.tup ps) (.ref a)
  | lst {a : Addr} {vs : List V} {ps : List P} : F a = some (.lst vs) → RepPs R F ps vs → RepP R F (.lst ps) (.ref a)
  | scr {a : Addr} {vs : List V} {ps : List P} : SqL R.K F a vs → RepPs R F ps vs → RepP R F (.scr ps) (.ref a)
  | dic {a : Addr} {kvs : List (Key × V)} {kps : List (Key × P)} : F a = some (.dK kvs) → RepKv R F kps kvs → RepP R F (.dic kps) (.ref a)
  | ins {a dx : Addr} {c : Nat} {fs : List (Str × V)} {ps : List P} : R.has c = true → F a = some (.ins (R.cls c) dx fs) → fs.map (·.1) = fldN c → RepPs R F ps (fs.map (·.2)) → RepP R F (.ins c ps) (.ref a)
  | fn (k : Nat) : RepP R F (.fn k) (.ref (R.fna k))
inductive RepPs (R : RC) (F : Hp) : List P → List V → Prop
  | nil : RepPs R F [] []
  | cons {p : P} {ps : List P} {v : V} {vs : List V} : RepP R F p v → RepPs R F ps vs → RepPs R F (p :: ps) (v :: vs)
inductive RepKv (R : RC) (F : Hp) : List (Key × P) → List (Key × V) → Prop
  | nil : RepKv R F [] []
  | cons {k : Key} {p : P} {kps : List (Key × P)} {v : V} {kvs : List (Key × V)} : RepP R F p v → RepKv R F kps kvs → RepKv R F ((k, p) :: kps) ((k, v) :: kvs)
end

section
variable {R : RC} {F F' F'' H H' : Hp}
mutual
theorem RepP.mono (e : Ex F F') : ∀ {p : P} {v : V}, RepP R F p v → RepP R F' p v
  | _, _, .non => .non
  | _, _, .bl b => .bl b
  | _, _, .int i => .int i
  | _, _, .str x => .str x
  | _, _, .tup h r => .tup (ex_t e h) (RepPs.mono e r)
  | _, _, .lst h r => .lst (e _ _ h) (RepPs.mono e r)
  | _, _, .scr h r => .scr (ex_l e h) (RepPs.mono e r)
  | _, _, .dic h r => .dic (e _ _ h) (RepKv.mono e r)
  | _, _, .ins h0 h f r => .ins h0 (e _ _ h) f (RepPs.mono e r)
  | _, _, .fn k => .fn k
theorem RepPs.mono (e : Ex F F') : ∀ {ps : List P} {vs : List V}, RepPs R F ps vs → RepPs R F' ps vs
  | _, _, .nil => .nil
  | _, _, .cons a b => .cons (RepP.mono e a) (RepPs.mono e b)
theorem RepKv.mono (e : Ex F F') : ∀ {ps : List (Key × P)} {vs : List (Key × V)}, RepKv R F ps vs → RepKv R F' ps vs
  | _, _, .nil => .nil
  | _, _, .cons a b => .cons (RepP.mono e a) (RepKv.mono e b)
end
theorem RepPs.length : ∀ {ps : List P} {vs : List V}, RepPs R F ps vs → ps.length = vs.length
  | _, _, .nil => rfl
  | _, _, .cons _ b => congrArg (· + 1) (RepPs.length b)
theorem RepPs.get : ∀ {ps : List P} {vs : List V} {i : Nat} {p : P}, RepPs R F ps vs → ps[i]? = some p → ∃ v, vs[i]? = some v ∧ RepP R F p v
  | _, _, _, _, .nil, e => by simp at e
  | _, _, 0, p, .cons a b, e => by
    simp at e; subst e; exact ⟨_, rfl, a⟩
  | _, _, i + 1, p, .cons a b, e => by
    obtain ⟨v, h1, h2⟩ := RepPs.get (i := i) (p := p) b (by simpa using e)
    exact ⟨v, by simpa using h1, h2⟩
theorem RepPs.append : ∀ {ps qs : List P} {vs us : List V}, RepPs R F ps vs → RepPs R F qs us → RepPs R F (ps ++ qs) (vs ++ us)
  | _, _, _, _, .nil, h => h
  | _, _, _, _, .cons a b, h => .cons a (RepPs.append b h)
theorem RepPs.drop : ∀ {ps : List P} {vs : List V} (n : Nat), RepPs R F ps vs → RepPs R F (ps.drop n) (vs.drop n)
  | _, _, 0, h => h
  | _, _, n + 1, .nil => .nil
  | _, _, n + 1, .cons a b => RepPs.drop n b
theorem RepPs.take : ∀ {ps : List P} {vs : List V} (n : Nat), RepPs R F ps vs → RepPs R F (ps.take n) (vs.take n)
  | _, _, 0, h => .nil
  | _, _, n + 1, .nil => .nil
  | _, _, n + 1, .cons a b => .cons a (RepPs.take n b)

/-! ### values -/
inductive RepW (R : RC) (F : Hp) (m : List Addr) : W → V → Prop
  | p {p : P} {v : V} : RepP R F p v → RepW R F m (.p p) v
  | cell {k : Nat} {a : Addr} : m[k]? = some a → RepW R F m (.cell k) (.ref a)
inductive RepWs (R : RC) (F : Hp) (m : List Addr) : List W → List V → Prop
  | nil : RepWs R F m [] []
  | cons {w : W} {ws : List W} {v : V} {vs : List V} : RepW R F m w v → RepWs R F m ws vs → RepWs R F m (w :: ws) (v :: vs)
inductive RepKw (R : RC) (F : Hp) (m : List Addr) : List (Key × W) → List (Key × V) → Prop
  | nil : RepKw R F m [] []
  | cons {k : Key} {w : W} {kws : List (Key × W)} {v : V} {kvs : List (Key × V)} : RepW R F m w v → RepKw R F m kws kvs → RepKw R F m ((k, w) :: kws) ((k, v) :: kvs)
variable {m m' m'' : List Addr}
/-- m' goes on from m -/
def Pre (m m' : List Addr) : Prop := ∃ l, m' = m ++ l
theorem Pre.refl (m : List Addr) : Pre m m := ⟨[], by simp⟩
theorem Pre.trans (a : Pre m m') (b : Pre m' m'') : Pre m m'' := by
  obtain ⟨l, rfl⟩ := a
  obtain ⟨l', rfl⟩ := b
  exact ⟨l ++ l', by simp⟩
theorem Pre.get (a : Pre m m') {k : Nat} {x : Addr} (h : m[k]? = some x) : m'[k]? = some x := by
  obtain ⟨l, rfl⟩ := a
  rw [List.getElem?_append_left (List.getElem?_eq_some_iff.mp h).1]
  exact h
theorem RepW.mono (e : Ex F F') (q : Pre m m') {w : W} {v : V} (h : RepW R F m w v) : RepW R F' m' w v := by
  cases h with
  | p h => exact .p (h.mono e)
  | cell h => exact .cell (q.get h)
theorem RepWs.mono (e : Ex F F') (q : Pre m m') : ∀ {w : List W} {v : List V}, RepWs R F m w v → RepWs R F' m' w v
  | _, _, .nil => .nil
  | _, _, .cons a b => .cons (a.mono e q) (RepWs.mono e q b)
theorem RepKw.mono (e : Ex F F') (q : Pre m m') : ∀ {w : List (Key × W)} {v : List (Key × V)}, RepKw R F m w v → RepKw R F' m' w v
  | _, _, .nil => .nil
  | _, _, .cons a b => .cons (a.mono e q) (RepKw.mono e q b)
theorem RepWs.length : ∀ {ws : List W} {vs : List V}, RepWs R F m ws vs → ws.length = vs.length
  | _, _, .nil => rfl
  | _, _, .cons _ b => congrArg (· + 1) (RepWs.length b)
theorem RepWs.get : ∀ {ws : List W} {vs : List V} {i : Nat} {w : W}, RepWs R F m ws vs → ws[i]? = some w → ∃ v, vs[i]? = some v ∧ RepW R F m w v
  | _, _, _, _, .nil, e => by simp at e
  | _, _, 0, w, .cons a b, e => by
    simp at e; subst e; exact ⟨_, rfl, a⟩
  | _, _, i + 1, w, .cons a b, e => by
    obtain ⟨v, h1, h2⟩ := RepWs.get (i := i) (w := w) b (by simpa using e)
    exact ⟨v, by simpa using h1, h2⟩
theorem RepWs.append : ∀ {ps qs : List W} {vs us : List V}, RepWs R F m ps vs → RepWs R F m qs us → RepWs R F m (ps ++ qs) (vs ++ us)
  | _, _, _, _, .nil, h => h
  | _, _, _, _, .cons a b, h => .cons a (RepWs.append b h)
theorem RepWs.set {w : W} {v : V} (r : RepW R F m w v) : ∀ {ws : List W} {vs : List V} (i : Nat), RepWs R F m ws vs → RepWs R F m (ws.set i w) (vs.set i v)
  | _, _, _, .nil => .nil
  | _, _, 0, .cons _ b => .cons r b
  | _, _, i + 1, .cons a b => .cons a (RepWs.set r i b)

/-- the plain items, if all are -/
def plains : List W → Option (List P)
  | [] => some []
  | .p p :: r => match plains r with
    | some ps => some (p :: ps)
    | none => none
  | .cell _ :: _ => none
theorem plains_rep : ∀ {ws : List W} {ps : List P} {vs : List V}, plains ws = some ps → RepWs R F m ws vs → RepPs R F ps vs
  | [], _, _, e, h => by
    cases h
    cases e
    exact .nil
  | .p p :: r, ps, _, e, h => by
    unfold plains at e
    cases q : plains r with
    | none => rw [q] at e; cases e
    | some qs =>
      rw [q] at e
      cases e
      cases h with
      | cons a b =>
        cases a with
        | p a => exact .cons a (plains_rep q b)
  | .cell _ :: _, _, _, e, _ => by cases e
@[simp] theorem plains_map (ps : List P) : plains (ps.map W.p) = some ps := by
  induction ps with
  | nil => rfl
  | cons p ps ih => simp [plains, ih]
theorem rep_map : ∀ {ps : List P} {vs : List V}, RepPs R F ps vs → RepWs R F m (ps.map W.p) vs
  | _, _, .nil => .nil
  | _, _, .cons a b => .cons (.p a) (rep_map b)

/-! ### cells -/
def OOk (R : RC) (F : Hp) (m : List Addr) (H : Hp) (a : Addr) : O → Prop
  | .lst ws => ∃ vs, H a = some (.lst vs) ∧ RepWs R F m ws vs
  | .dic kws => ∃ kvs, H a = some (.dK kvs) ∧ RepKw R F m kws kvs
  | .ins c ws => ∃ dx fs, R.has c = true ∧ H a = some (.ins (R.cls c) dx fs) ∧ fs.map (·.1) = (fldN c).take ws.length ∧ ws.length ≤ (fldN c).length ∧ RepWs R F m ws (fs.map (·.2))
theorem OOk.mono {a : Addr} {o : O} (e : Ex F F') (q : Pre m m') (k : H' a = H a) (h : OOk R F m H a o) : OOk R F' m' H' a o := by
  cases o with
  | lst ws =>
    obtain ⟨vs, h1, h2⟩ := h
    exact ⟨vs, k.trans h1, h2.mono e q⟩
  | dic kws =>
    obtain ⟨vs, h1, h2⟩ := h
    exact ⟨vs, k.trans h1, h2.mono e q⟩
  | ins c ws =>
    obtain ⟨dx, fs, h0, h1, h2, h3, h4⟩ := h
    exact ⟨dx, fs, h0, k.trans h1, h2, h3, h4.mono e q⟩
theorem OOk.some {a : Addr} {o : O} (h : OOk R F m H a o) : ∃ u, H a = some u ∧ Mut (some u) := by
  cases o with
  | lst ws => obtain ⟨vs, h1, _⟩ := h; exact ⟨_, h1, trivial⟩
  | dic kws => obtain ⟨vs, h1, _⟩ := h; exact ⟨_, h1, trivial⟩
  | ins c ws => obtain ⟨dx, fs, _, h1, _⟩ := h; exact ⟨_, h1, trivial⟩

structure StOk (R : RC) (G F : Hp) (m : List Addr) (s : S) (H : Hp) : Prop where
  ex : Ex F H
  exG : Ex G H
  dis : ∀ (a : Addr) (u : HO), G a = some u → F a = none ∧ a ∉ m
  len : m.length = s.length
  nod : m.Nodup
  off : ∀ a ∈ m, F a = none
  cell : ∀ (k : Nat) (a : Addr) (o : O), m[k]? = some a → s[k]? = some o → OOk R F m H a o
theorem StOk.at_ {G : Hp} {s : S} (h : StOk R G F m s H) {a : Addr} (ha : a ∈ m) : ∃ u, H a = some u ∧ Mut (some u) := by
  obtain ⟨k, hk⟩ := List.getElem?_of_mem ha
  have hl : k < s.length := by rw [← h.len]; exact (List.getElem?_eq_some_iff.mp hk).1
  exact (h.cell k a _ hk (List.getElem?_eq_getElem hl)).some
/-- a new thing, never to change -/
theorem StOk.new {G : Hp} {s : S} (h : StOk R G F m s H) {p : Addr} {o : HO} (hp : H p = none) : StOk R G (upd F p o) m s (upd H p o) ∧ Ex F (upd F p o) := by
  have fp : F p = none := by
    cases q : F p with
    | none => rfl
    | some u => rw [h.ex p u q] at hp; cases hp
  have e : Ex F (upd F p o) := Ex.new fp
  have np : ∀ a ∈ m, a ≠ p := fun a ha z => by
    obtain ⟨u, hu, _⟩ := h.at_ ha
    rw [z, hp] at hu; cases hu
  have ng : ∀ a u, G a = some u → a ≠ p := fun a u q z => by
    have := h.exG a u q
    rw [z, hp] at this; cases this
  refine ⟨⟨fun a u q => ?_, fun a u q => by rw [upd_ne (ng a u q)]; exact h.exG a u q, fun a u q => ⟨by rw [upd_ne (ng a u q)]; exact (h.dis a u q).1, (h.dis a u q).2⟩, h.len, h.nod, fun a ha => by rw [upd_ne (np a ha)]; exact h.off a ha, fun k a o' hk ho => ?_⟩, e⟩
  · by_cases ha : a = p
    · subst ha; rw [upd_same] at q ⊢; exact q
    · rw [upd_ne ha] at q ⊢; exact h.ex a u q
  · exact (h.cell k a o' hk ho).mono e (Pre.refl m) (upd_ne (np a (List.mem_of_getElem? hk)))
/-- a new cell -/
theorem StOk.push {G : Hp} {s : S} (h : StOk R G F m s H) {p : Addr} {ho : HO} {o : O} (hp : H p = none) (hm : Mut (some ho)) (ok : OOk R F (m ++ [p]) (upd H p ho) p o) : StOk R G F (m ++ [p]) (s ++ [o]) (upd H p ho) := by
  have fp : F p = none := by
    cases q : F p with
    | none => rfl
    | some u => rw [h.ex p u q] at hp; cases hp
  have np : ∀ a ∈ m, a ≠ p := fun a ha z => by
    obtain ⟨u, hu, _⟩ := h.at_ ha
    rw [z, hp] at hu; cases hu
  have ng : ∀ a u, G a = some u → a ≠ p := fun a u q z => by
    have := h.exG a u q
    rw [z, hp] at this; cases this
  refine ⟨fun a u q => ?_, fun a u q => by rw [upd_ne (ng a u q)]; exact h.exG a u q, fun a u q => ⟨(h.dis a u q).1, fun z => ?_⟩, by simp [h.len], ?_, fun a ha => ?_, fun k a o' hk ho' => ?_⟩
  · rw [upd_ne (ne_of_none q fp)]; exact h.ex a u q
  · rcases List.mem_append.mp z with z | z
    · exact (h.dis a u q).2 z
    · exact ng a u q (by simpa using z)
  · refine List.nodup_append.mpr ⟨h.nod, by simp, fun a ha b hb => ?_⟩
    have : b = p := by simpa using hb
    subst this
    exact np a ha
  · rcases List.mem_append.mp ha with ha | ha
    · exact h.off a ha
    · have : a = p := by simpa using ha
      subst this; exact fp
  · by_cases hl : k < m.length
    · rw [List.getElem?_append_left hl] at hk
      rw [List.getElem?_append_left (by rw [← h.len]; exact hl)] at ho'
      exact (h.cell k a o' hk ho').mono (Ex.refl F) ⟨[p], rfl⟩ (upd_ne (np a (List.mem_of_getElem? hk)))
    · have e1 : k = m.length := by
        have := (List.getElem?_eq_some_iff.mp hk).1
        simp at this
        omega
      subst e1
      rw [List.getElem?_append_right (Nat.le_refl _)] at hk
      rw [h.len, List.getElem?_append_right (Nat.le_refl _)] at ho'
      simp at hk ho'
      subst hk ho'
      exact ok
/-- a cell changes -/
theorem StOk.set {G : Hp} {s : S} (h : StOk R G F m s H) {k : Nat} {a : Addr} {ho : HO} {o : O} (hk : m[k]? = some a) (ok : OOk R F m (upd H a ho) a o) : StOk R G F m (s.set k o) (upd H a ho) := by
  have fa := h.off a (List.mem_of_getElem? hk)
  refine ⟨fun b u q => ?_, fun b u q => ?_, h.dis, by simp [h.len], h.nod, h.off, fun j b o' hj ho' => ?_⟩
  · rw [upd_ne (ne_of_none q fa)]; exact h.ex b u q
  · rw [upd_ne (fun z => (h.dis b u q).2 (by rw [z]; exact List.mem_of_getElem? hk))]; exact h.exG b u q
  · by_cases e : j = k
    · subst e
      rw [hk] at hj; cases hj
      have hl : j < s.length := by rw [← h.len]; exact (List.getElem?_eq_some_iff.mp hk).1
      rw [List.getElem?_set_self hl] at ho'
      cases ho'
      exact ok
    · rw [List.getElem?_set_ne (Ne.symm e)] at ho'
      have ne : b ≠ a := fun z => by
        subst z
        obtain ⟨l1, e1⟩ := List.getElem?_eq_some_iff.mp hj
        obtain ⟨l2, e2⟩ := List.getElem?_eq_some_iff.mp hk
        exact e ((List.getElem_inj h.nod).mp (e1.trans e2.symm))
      exact (h.cell j b o' hj ho').mono (Ex.refl F) (Pre.refl m) (upd_ne ne)

/-! ### slots -/
structure EnvOk (R : RC) (F : Hp) (m : List Addr) (E : En) (σ : L2.St) : Prop where
  len : E.length = σ.length
  at_ : ∀ (i : Nat) (w : W), E[i]? = some (some w) → ∃ v, σ[i]? = some (some v) ∧ RepW R F m w v
theorem EnvOk.mono {E : En} {σ : L2.St} (h : EnvOk R F m E σ) (e : Ex F F') (q : Pre m m') : EnvOk R F' m' E σ :=
  ⟨h.len, fun i w hi => let ⟨v, h1, h2⟩ := h.at_ i w hi; ⟨v, h1, h2.mono e q⟩⟩
theorem EnvOk.set {E : En} {σ : L2.St} (h : EnvOk R F m E σ) {w : W} {v : V} (r : RepW R F m w v) (i : Nat) : EnvOk R F m (E.set i (some w)) (σ.set i (some v)) := by
  refine ⟨by simp [h.len], fun j w' hj => ?_⟩
  by_cases e : j = i
  · subst e
    by_cases hl : j < E.length
    · rw [List.getElem?_set_self hl] at hj
      cases hj
      exact ⟨v, by rw [List.getElem?_set_self (by rw [← h.len]; exact hl)], r⟩
    · rw [List.getElem?_eq_none (by simpa using hl)] at hj; cases hj
  · rw [List.getElem?_set_ne (Ne.symm e)] at hj
    rw [List.getElem?_set_ne (Ne.symm e)]
    exact h.at_ j w' hj
def wipeE (E : En) : List Nat → En
  | [] => E
  | v :: vs => (wipeE E vs).set v none
theorem EnvOk.wipe {E : En} {σ : L2.St} (h : EnvOk R F m E σ) : ∀ vs : List Nat, EnvOk R F m (wipeE E vs) (wipe σ vs)
  | [] => h
  | v :: vs => by
    have ih := EnvOk.wipe h vs
    refine ⟨by simp [wipeE, L2.wipe, ih.len], fun j w hj => ?_⟩
    unfold wipeE at hj
    unfold L2.wipe
    by_cases e : j = v
    · subst e
      by_cases hl : j < (wipeE E vs).length
      · rw [List.getElem?_set_self hl] at hj; cases hj
      · rw [List.getElem?_eq_none (by simpa using hl)] at hj; cases hj
    · rw [List.getElem?_set_ne (Ne.symm e)] at hj ⊢
      exact ih.at_ j w hj

/-! ### exceptions -/
def RepX (R : RC) (F : Hp) (x : Xc) (c : Value) (d : Option Addr) : Prop :=
  c = .ref (R.xcl x.c) ∧ R.hax x.c = true ∧ ((x.ps = [] ∧ d = none) ∨ ∃ dx fs, d = some dx ∧ F dx = some (.xd fs) ∧ ∀ (i : Nat) (f : Str) (p : P), (xflN x.c)[i]? = some f → x.ps[i]? = some p → ∃ v, fs.lookup f = some v ∧ RepP R F p v)
theorem RepX.mono {x : Xc} {c : Value} {d : Option Addr} (e : Ex F F') (h : RepX R F x c d) : RepX R F' x c d := by
  obtain ⟨h1, h0, h2⟩ := h
  refine ⟨h1, h0, h2.imp id ?_⟩
  rintro ⟨dx, fs, a, b, c⟩
  exact ⟨dx, fs, a, e _ _ b, fun i f p h1 h2 => let ⟨v, q1, q2⟩ := c i f p h1 h2; ⟨v, q1, q2.mono e⟩⟩
end

/-! ### what is got -/
section
variable {R : RC} {α β γ δ : Type}
def Got (R : RC) (rel : Hp → List Addr → α → β → Prop) (W : WX) (G F : Hp) (m : List Addr) (r : Rs α) (σ : L2.St) (Q : β → Hp → Prop) : Prop :=
  match r with
  | .ok a s' => ∀ F' m' H' b, Ex F F' → Pre m m' → StOk R G F' m' s' H' → rel F' m' a b → Q b H'
  | .exc x s' => ∀ F' m' H' c d, Ex F F' → Pre m m' → StOk R G F' m' s' H' → RepX R F' x c d → W c d σ H'
  | .no => False
theorem Got.mono {rel : Hp → List Addr → α → β → Prop} {W : WX} {G F F' : Hp} {m m' : List Addr} {r : Rs α} {σ : L2.St} {Q : β → Hp → Prop} (e : Ex F F') (q : Pre m m') (h : Got R rel W G F m r σ Q) : Got R rel W G F' m' r σ Q := by
  cases r with
  | ok a s => exact fun F2 m2 H2 b e2 q2 => h F2 m2 H2 b (e.trans e2) (q.trans q2)
  | exc x s => exact fun F2 m2 H2 c d e2 q2 => h F2 m2 H2 c d (e.trans e2) (q.trans q2)
  | no => exact h
theorem got_bind {rel : Hp → List Addr → α → β → Prop} {rel2 : Hp → List Addr → γ → δ → Prop} {W : WX} {G F : Hp} {m : List Addr} {r : Rs α} {g : α → S → Rs γ} {σ : L2.St} {Q : β → Hp → Prop} {Q2 : δ → Hp → Prop}
    (h : Got R rel2 W G F m (r.bind g) σ Q2)
    (k : ∀ a s F1 m1 H1 b, r = .ok a s → Ex F F1 → Pre m m1 → StOk R G F1 m1 s H1 → rel F1 m1 a b → Got R rel2 W G F1 m1 (g a s) σ Q2 → Q b H1) : Got R rel W G F m r σ Q := by
  cases r with
  | ok a s => exact fun F1 m1 H1 b e q ok rp => k a s F1 m1 H1 b rfl e q ok rp (Got.mono e q (show Got R rel2 W G F m (g a s) σ Q2 from h))
  | exc x s => exact h
  | no => exact h
def tG (R : RC) (rel : Hp → List Addr → α → β → Prop) (W : WX) (f : En → S → Rs α) : L2.St → Hp → (β → Hp → Prop) → Prop := fun σ H Q =>
  ∃ G F m s E, StOk R G F m s H ∧ EnvOk R F m E σ ∧ Got R rel W G F m (f E s) σ Q
abbrev relB : Hp → List Addr → Bool → Bool → Prop := fun _ _ a b => a = b
abbrev tE (R : RC) (W : WX) (f : FE) : TE := tG R (RepW R) W f
abbrev tT (R : RC) (W : WX) (f : FT) : TT := tG R relB W f
abbrev tA (R : RC) (W : WX) (f : FA) : TA := tG R (RepWs R) W f
/-- a reading that asks more -/
theorem PE.imp {X : Cx} {e : Expr} {t t' : TE} (h : PE X e t) (k : ∀ σ H Q, t' σ H Q → t σ H Q) : PE X e t' := ⟨fun pins s σ H Q I q => h.run pins s σ H Q I (k σ H Q q)⟩
theorem PT.imp {X : Cx} {e : Expr} {t t' : TT} (h : PT X e t) (k : ∀ σ H Q, t' σ H Q → t σ H Q) : PT X e t' := ⟨fun pins s σ H Q I q => h.run pins s σ H Q I (k σ H Q q)⟩
theorem PW.imp {X : Cx} {e : Expr} {t t' : TT} (h : PW X e t) (k : ∀ σ H Q, t' σ H Q → t σ H Q) : PW X e t' := ⟨fun wh pins s σ H Q I q => h.run wh pins s σ H Q I (k σ H Q q)⟩
theorem PA.imp {X : Cx} {e : List Expr} {t t' : TA} (h : PA X e t) (k : ∀ σ H Q, t' σ H Q → t σ H Q) : PA X e t' := ⟨fun pos pins s σ H Q I q => h.run pos pins s σ H Q I (k σ H Q q)⟩
theorem PS.imp {X : Cx} {e : Stmt} {t t' : TS} (h : PS X e t) (k : ∀ D σ H, t' D σ H → t D σ H) : PS X e t' := ⟨fun pins s σ H D I q => h.run pins s σ H D I (k D σ H q)⟩
theorem PSs.imp {X : Cx} {e : List Stmt} {t t' : TS} (h : PSs X e t) (k : ∀ D σ H, t' D σ H → t D σ H) : PSs X e t' := ⟨fun pins s σ H D I q => h.run pins s σ H D I (k D σ H q)⟩

/-! ### statements -/
def GotS (R : RC) (W : WX) (G F : Hp) (m : List Addr) (r : Fl) (D : Ends) : Prop :=
  match r with
  | .nx E s' => ∀ F' m' H' σ', Ex F F' → Pre m m' → StOk R G F' m' s' H' → EnvOk R F' m' E σ' → D.nx σ' H'
  | .bk E s' => ∀ F' m' H' σ', Ex F F' → Pre m m' → StOk R G F' m' s' H' → EnvOk R F' m' E σ' → D.bk σ' H'
  | .ct E s' => ∀ F' m' H' σ', Ex F F' → Pre m m' → StOk R G F' m' s' H' → EnvOk R F' m' E σ' → D.ct σ' H'
  | .rt w s' => ∀ F' m' H' v, Ex F F' → Pre m m' → StOk R G F' m' s' H' → RepW R F' m' w v → D.rt v H'
  | .xc x E s' => ∀ F' m' H' c d σ', Ex F F' → Pre m m' → StOk R G F' m' s' H' → EnvOk R F' m' E σ' → RepX R F' x c d → W c d σ' H'
  | .no => False
theorem GotS.mono {W : WX} {G F F' : Hp} {m m' : List Addr} {r : Fl} {D : Ends} (e : Ex F F') (q : Pre m m') (h : GotS R W G F m r D) : GotS R W G F' m' r D := by
  cases r with
  | nx E s => exact fun F2 m2 H2 b e2 q2 => h F2 m2 H2 b (e.trans e2) (q.trans q2)
  | bk E s => exact fun F2 m2 H2 b e2 q2 => h F2 m2 H2 b (e.trans e2) (q.trans q2)
  | ct E s => exact fun F2 m2 H2 b e2 q2 => h F2 m2 H2 b (e.trans e2) (q.trans q2)
  | rt w s => exact fun F2 m2 H2 b e2 q2 => h F2 m2 H2 b (e.trans e2) (q.trans q2)
  | xc x E s => exact fun F2 m2 H2 c d σ e2 q2 => h F2 m2 H2 c d σ (e.trans e2) (q.trans q2)
  | no => exact h
def tS (R : RC) (W : WX) (f : FS) : TS := fun D σ H => ∃ G F m s E, StOk R G F m s H ∧ EnvOk R F m E σ ∧ GotS R W G F m (f E s) D
end
end Sim

/-! Sim1: operators on values. -/
namespace Sim
open PySem L2 Evl

/-! ### data for == -/
mutual
def P.toD : P → PyData
  | .bl b => .bool b
  | .int i => .int i
  | .str x => .str x
  | .tup ps => .tuple (toDs ps)
  | .lst ps => .list (toDs ps)
  | .scr ps => .list (toDs ps)
  | _ => .none
def toDs : List P → List PyData
  | [] => []
  | p :: ps => p.toD :: toDs ps
end
mutual
def P.okD : P → Bool
  | .str x => PyData.strOk x
  | .tup ps => okDs ps
  | .lst ps => okDs ps
  | .scr ps => okDs ps
  | .dic _ => false
  | .ins _ _ => false
  | .fn _ => false
  | _ => true
def okDs : List P → Bool
  | [] => true
  | p :: ps => p.okD && okDs ps
end
section
variable {R : RC} {H : Hp}
mutual
theorem dp_of : ∀ {p : P} {v : V}, RepP R H p v → p.okD = true → Dp R.K H v p.toD
  | _, _, .non, _ => .non
  | _, _, .bl b, _ => .bl b
  | _, _, .int i, _ => .int i
  | _, _, .str x, _ => .str x
  | _, _, .tup h r, o => .tup h (dps_of r (by simpa [P.okD] using o))
  | _, _, .lst h r, o => .lst (sq_of h) (dps_of r (by simpa [P.okD] using o))
  | _, _, .scr h r, o => .lst h (dps_of r (by simpa [P.okD] using o))
  | _, _, .dic _ _, o => by simp [P.okD] at o
  | _, _, .ins _ _ _ _, o => by simp [P.okD] at o
  | _, _, .fn _, o => by simp [P.okD] at o
theorem dps_of : ∀ {ps : List P} {vs : List V}, RepPs R H ps vs → okDs ps = true → DpAll R.K H vs (toDs ps)
  | _, _, .nil, _ => .nil
  | _, _, .cons a b, o => by
    have o' := Bool.and_eq_true_iff.mp (show (_ && _) = true from o)
    exact .cons (dp_of a o'.1) (dps_of b o'.2)
end
end
mutual
theorem lay_of : ∀ {p : P}, p.okD = true → p.toD.canLay0 = true
  | .non, _ => by simp [P.toD, PyData.canLay0]
  | .bl b, _ => by simp [P.toD, PyData.canLay0]
  | .int i, _ => by simp [P.toD, PyData.canLay0]
  | .str x, o => by simpa [P.toD, PyData.canLay0, P.okD] using o
  | .tup ps, o => by
    have := lays_of (ps := ps) (by simpa [P.okD] using o)
    simpa [P.toD, PyData.canLay0] using this
  | .lst ps, o => by
    have := lays_of (ps := ps) (by simpa [P.okD] using o)
    simpa [P.toD, PyData.canLay0] using this
  | .scr ps, o => by
    have := lays_of (ps := ps) (by simpa [P.okD] using o)
    simpa [P.toD, PyData.canLay0] using this
  | .dic _, o => by simp [P.okD] at o
  | .ins _ _, o => by simp [P.okD] at o
  | .fn _, o => by simp [P.okD] at o
theorem lays_of : ∀ {ps : List P}, okDs ps = true → PyData.canLayAll0 (toDs ps) = true
  | [], _ => by simp [toDs, PyData.canLayAll0]
  | p :: ps, o => by
    have o' := Bool.and_eq_true_iff.mp (show (_ && _) = true from o)
    simp [toDs, PyData.canLayAll0, lay_of o'.1, lays_of o'.2]
end
/-- fit for == -/
def fitD (p : P) : Bool := p.okD && decide (p.toD.depth ≤ 60)
theorem fit_shaped {p : P} (h : fitD p = true) : SeqAt.shaped p.toD = true := by
  obtain ⟨h1, h2⟩ := Bool.and_eq_true_iff.mp h
  have h2' : p.toD.depth ≤ 60 := of_decide_eq_true h2
  unfold SeqAt.shaped
  rw [lay_of h1, Bool.true_and]
  exact decide_eq_true (by omega)

/-! ### what a value is just now -/
def mapO {α β : Type} (f : α → Option β) : List α → Option (List β)
  | [] => some []
  | a :: as => match f a with
    | some b => match mapO f as with
      | some bs => some (b :: bs)
      | none => none
    | none => none
/-- (cells from lo on) -/
def frz (lo : Nat) : Nat → S → W → Option P
  | _, _, .p p => some p
  | 0, _, .cell _ => none
  | n + 1, s, .cell k => if k < lo then none else match s[k]? with
    | some (.lst ws) => (mapO (frz lo n s) ws).map P.lst
    | some (.dic kws) => (mapO (fun q : Key × W => (frz lo n s q.2).map fun p => (q.1, p)) kws).map P.dic
    | some (.ins c ws) => if ws.length = (fldN c).length then (mapO (frz lo n s) ws).map (P.ins c) else none
    | none => none
section
variable {R : RC} {G F F2 H : Hp} {m : List Addr} {s : S}
theorem mapO_rep {lo n : Nat} (ih : ∀ {w : W} {v : V} {p : P}, RepW R F m w v → frz lo n s w = some p → RepP R F2 p v) : ∀ {ws : List W} {vs : List V} {ps : List P}, RepWs R F m ws vs → mapO (frz lo n s) ws = some ps → RepPs R F2 ps vs
  | [], _, _, h, e => by
    cases h
    cases e
    exact .nil
  | w :: ws, _, ps, h, e => by
    unfold mapO at e
    cases q : frz lo n s w with
    | none => rw [q] at e; cases e
    | some p =>
      rw [q] at e
      cases q2 : mapO (frz lo n s) ws with
      | none => simp only [q2] at e; cases e
      | some qs =>
        simp only [q2] at e
        cases e
        cases h with
        | cons a b => exact .cons (ih a q) (mapO_rep ih b q2)
theorem mapK_rep {lo n : Nat} (ih : ∀ {w : W} {v : V} {p : P}, RepW R F m w v → frz lo n s w = some p → RepP R F2 p v) : ∀ {ws : List (Key × W)} {vs : List (Key × V)} {ps : List (Key × P)}, RepKw R F m ws vs →
    mapO (fun q : Key × W => (frz lo n s q.2).map fun p => (q.1, p)) ws = some ps → RepKv R F2 ps vs
  | [], _, _, h, e => by
    cases h
    cases e
    exact .nil
  | (k, w) :: ws, _, ps, h, e => by
    unfold mapO at e
    cases q : frz lo n s w with
    | none => simp only [q] at e; cases e
    | some p =>
      simp only [q, Option.map_some] at e
      cases q2 : mapO (fun q : Key × W => (frz lo n s q.2).map fun p => (q.1, p)) ws with
      | none => simp only [q2] at e; cases e
      | some qs =>
        simp only [q2] at e
        cases e
        cases h with
        | cons a b => exact .cons (ih a q) (mapK_rep ih b q2)
/-- over a heap of known things that has the cells as they stand -/
theorem frz_repG (ok : StOk R G F m s H) (ex : Ex F F2) {lo : Nat} (hc : ∀ (k : Nat) (a : Addr), lo ≤ k → m[k]? = some a → F2 a = H a) : ∀ (n : Nat) {w : W} {v : V} {p : P}, RepW R F m w v → frz lo n s w = some p → RepP R F2 p v
  | n, .p q, _, p, h, e => by
    have e' : q = p := by cases n <;> exact Option.some.inj e
    subst e'
    cases h with
    | p h => exact h.mono ex
  | 0, .cell k, _, p, h, e => by cases e
  | n + 1, .cell k, _, p, h, e => by
    cases h with
    | @cell k a hk =>
      have hl : k < s.length := by rw [← ok.len]; exact (List.getElem?_eq_some_iff.mp hk).1
      have c := ok.cell k a _ hk (List.getElem?_eq_getElem hl)
      unfold frz at e
      split at e
      · cases e
      rename_i hlo
      have hca := hc k a (Nat.le_of_not_lt hlo) hk
      rw [List.getElem?_eq_getElem hl] at e
      cases q : s[k] with
      | lst ws =>
        rw [q] at c
        simp only [q] at e
        obtain ⟨vs, h1, h2⟩ := c
        cases q2 : mapO (frz lo n s) ws with
        | none => rw [q2] at e; cases e
        | some ps =>
          rw [q2] at e
          cases e
          exact .lst (hca.trans h1) (mapO_rep (fun h e => frz_repG ok ex hc n h e) h2 q2)
      | dic ws =>
        rw [q] at c
        simp only [q] at e
        obtain ⟨vs, h1, h2⟩ := c
        cases q2 : mapO (fun q : Key × W => (frz lo n s q.2).map fun p => (q.1, p)) ws with
        | none => rw [q2] at e; cases e
        | some ps =>
          rw [q2] at e
          cases e
          exact .dic (hca.trans h1) (mapK_rep (fun h e => frz_repG ok ex hc n h e) h2 q2)
      | ins c' ws =>
        rw [q] at c
        simp only [q] at e
        obtain ⟨dx, fs, h0, h1, h2, h3, h4⟩ := c
        split at e
        · rename_i hlen
          cases q2 : mapO (frz lo n s) ws with
          | none => rw [q2] at e; cases e
          | some ps =>
            rw [q2] at e
            cases e
            exact .ins h0 (hca.trans h1) (by rw [h2, hlen, List.take_length]) (mapO_rep (fun h e => frz_repG ok ex hc n h e) h4 q2)
        · cases e
theorem frz_rep (ok : StOk R G F m s H) (n : Nat) {w : W} {v : V} {p : P} (h : RepW R F m w v) {lo : Nat} (e : frz lo n s w = some p) : RepP R H p v := frz_repG ok ok.ex (fun _ _ _ _ => rfl) n h e
/-- the items of a list | a tuple -/
def itL (s : S) : W → Option (List W)
  | .p (.lst ps) => some (ps.map .p)
  | .cell k => match s[k]? with
    | some (.lst ws) => some ws
    | _ => none
  | _ => none
def itT : W → Option (List P)
  | .p (.tup ps) => some ps
  | _ => none
theorem itL_rep (ok : StOk R G F m s H) {w : W} {v : V} {ws : List W} (h : RepW R F m w v) (e : itL s w = some ws) : ∃ a vs, v = .ref a ∧ H a = some (.lst vs) ∧ RepWs R F m ws vs := by
  cases h with
  | p h =>
    cases h with
    | lst h r =>
      cases e
      exact ⟨_, _, rfl, ok.ex _ _ h, rep_map r⟩
    | _ => cases e
  | @cell k a hk =>
    have hl : k < s.length := by rw [← ok.len]; exact (List.getElem?_eq_some_iff.mp hk).1
    have c := ok.cell k a _ hk (List.getElem?_eq_getElem hl)
    unfold itL at e
    dsimp only at e
    rw [List.getElem?_eq_getElem hl] at e
    cases q : s[k] with
    | lst ws =>
      rw [q] at c
      simp only [q] at e
      cases e
      obtain ⟨vs, h1, h2⟩ := c
      exact ⟨a, vs, rfl, h1, h2⟩
    | dic ws => simp only [q] at e; cases e
    | ins c ws => simp only [q] at e; cases e
theorem itT_rep (ok : StOk R G F m s H) {w : W} {v : V} {ps : List P} (h : RepW R F m w v) (e : itT w = some ps) : ∃ a vs, v = .ref a ∧ SqT R.K H a vs ∧ SqT R.K F a vs ∧ RepPs R F ps vs := by
  cases h with
  | p h =>
    cases h with
    | tup h r =>
      cases e
      exact ⟨_, _, rfl, ex_t ok.ex h, h, r⟩
    | _ => cases e
  | cell _ => cases e
end

/-! ### operators -/
section
variable {α β : Type}
def Rs.of (o : Option (α × S)) : Rs α := match o with
  | some (a, s) => .ok a s
  | none => .no
def GotV (R : RC) (rel : Hp → List Addr → α → β → Prop) (G F : Hp) (m : List Addr) (o : Option (α × S)) (Q : β → Hp → Prop) : Prop := match o with
  | some (a, s') => ∀ F' m' H' b, Ex F F' → Pre m m' → StOk R G F' m' s' H' → rel F' m' a b → Q b H'
  | none => False
theorem got_of {R : RC} {rel : Hp → List Addr → α → β → Prop} {W : WX} {G F : Hp} {m : List Addr} {o : Option (α × S)} {σ : L2.St} {Q : β → Hp → Prop} (h : Got R rel W G F m (Rs.of o) σ Q) : GotV R rel G F m o Q := by
  cases o with
  | none => exact h
  | some p => exact h
end
abbrev F1 := W → S → Option (W × S)
abbrev F2 := W → W → S → Option (W × S)
def cUn (g : F1) (fa : FE) : FE := fun E s => (fa E s).bind fun a s1 => Rs.of (g a s1)
def cBin (g : F2) (fa fb : FE) : FE := fun E s => (fa E s).bind fun a s1 => (fb E s1).bind fun b s2 => Rs.of (g a b s2)
def rOp (R : RC) (g : F2) : R2 := fun x y H Q => ∃ G F m s a b, StOk R G F m s H ∧ RepW R F m a x ∧ RepW R F m b y ∧ GotV R (RepW R) G F m (g a b s) Q
def rUn (R : RC) (g : F1) : V → Hp → VK → Prop := fun x H Q => ∃ G F m s a, StOk R G F m s H ∧ RepW R F m a x ∧ GotV R (RepW R) G F m (g a s) Q
section
variable {R : RC} {X : Cx} {W0 : WX} {a b : Expr} {fa fb : FE} {pos : Pos}
theorem red2 {g : F2} {σ : L2.St} {H : Hp} {Q : VK} (h : tE R W0 (cBin g fa fb) σ H Q) : tOp (rOp R g) (tE R W0 fa) (tE R W0 fb) σ H Q := by
  obtain ⟨G, F, m, s, E, ok, en, q⟩ := h
  refine ⟨G, F, m, s, E, ok, en, got_bind q fun a s1 F1 m1 H1 v1 _ e1 p1 ok1 r1 q1 => ?_⟩
  refine ⟨G, F1, m1, s1, E, ok1, en.mono e1 p1, got_bind q1 fun b s2 F2 m2 H2 v2 _ e2 p2 ok2 r2 q2 => ?_⟩
  exact ⟨G, F2, m2, s2, a, b, ok2, r1.mono e2 p2, r2, got_of q2⟩
theorem red1 {g : F1} {σ : L2.St} {H : Hp} {Q : VK} (h : tE R W0 (cUn g fa) σ H Q) : tUn (rUn R g) (tE R W0 fa) σ H Q := by
  obtain ⟨G, F, m, s, E, ok, en, q⟩ := h
  refine ⟨G, F, m, s, E, ok, en, got_bind q fun a s1 F1 m1 H1 v1 _ e1 p1 ok1 r1 q1 => ?_⟩
  exact ⟨G, F1, m1, s1, a, ok1, r1, got_of q1⟩
theorem se_bin {op : Operator} {g : F2} (ho : OpR X (binaryOp op) (rOp R g)) (ha : PE X a (tE R W0 fa)) (hb : PE X b (tE R W0 fb)) : PE X (.BinOp a op b pos) (tE R W0 (cBin g fa fb)) :=
  PE.imp (pe_op ho ha hb) fun _ _ _ h => red2 h
theorem se_un {op : UnaryOp} {g : F1} (ho : UnR X (unaryOp op) (rUn R g)) (ha : PE X a (tE R W0 fa)) : PE X (.UnaryOp op a pos) (tE R W0 (cUn g fa)) :=
  PE.imp (pe_un ho ha) fun _ _ _ h => red1 h
theorem se_cmp {op : CmpOp} {g : F2} (ho : OpR X (compareOp op) (rOp R g)) (ha : PE X a (tE R W0 fa)) (hb : PE X b (tE R W0 fb)) (hm : behindInMarks op b = false) : PE X (.Compare a [op] [b] pos) (tE R W0 (cBin g fa fb)) :=
  PE.imp (pe_cmpR ho ha hb hm) fun _ _ _ h => red2 h

/-! intsOf -/
def addF : F2 := fun a b s => match a, b with
  | .p (.int i), .p (.int j) => some (.p (.int (i + j)), s)
  | .p (.str x), .p (.str y) => if x.length + y.length ≤ 16777216 then some (.p (.str (x ++ y)), s) else none
  | .p (.tup x), .p (.tup y) => if x.length + y.length ≤ 16777216 then some (.p (.tup (x ++ y)), s) else none
  | a, b => match itL s a, itL s b with
    | some x, some y => if x.length + y.length ≤ 16777216 then (plains (x ++ y)).map fun ps => (.p (.lst ps), s) else none
    | _, _ => none
def intF (c : Int → Int → Bool) (g : Int → Int → Int) : F2 := fun a b s => match a, b with
  | .p (.int i), .p (.int j) => if c i j then some (.p (.int (g i j)), s) else none
  | _, _ => none
def subF : F2 := intF (fun _ _ => true) (fun i j => i - j)
def small (i : Int) : Bool := Nat.ble i.natAbs 18446744073709551615
def fdivF : F2 := intF (fun _ j => decide (0 < j) && decide (j < 1073741824)) (fun i j => i / j)
def modF : F2 := intF (fun _ j => decide (0 < j)) (fun i j => i % j)
def powF : F2 := intF (fun i j => small i && decide (0 ≤ j) && decide (j ≤ 10000)) (fun i j => i ^ j.toNat)
def cmpI (g : Int → Int → Bool) : F2 := fun a b s => match a, b with
  | .p (.int i), .p (.int j) => some (.p (.bl (g i j)), s)
  | _, _ => none
def leF : F2 := cmpI fun i j => decide (i ≤ j)
def gtF : F2 := cmpI fun i j => decide (j < i)
def geF : F2 := cmpI fun i j => decide (j ≤ i)
/-- the numbers of data -/
def intsOf : List P → Option (List Int)
  | [] => some []
  | .int i :: r => match intsOf r with
    | some is => some (i :: is)
    | none => none
  | _ :: _ => none
theorem ints_rep {F : Hp} : ∀ {ps : List P} {is : List Int} {vs : List V}, intsOf ps = some is → RepPs R F ps vs → vs = is.map V.int
  | [], _, _, e, h => by
    cases h
    cases e
    rfl
  | .int i :: r, is, _, e, h => by
    unfold intsOf at e
    cases q : intsOf r with
    | none => rw [q] at e; cases e
    | some js =>
      rw [q] at e
      cases e
      cases h with
      | cons a b =>
        cases a
        rw [ints_rep q b]
        rfl
  | .non :: _, _, _, e, _ => by cases e
  | .bl _ :: _, _, _, e, _ => by cases e
  | .str _ :: _, _, _, e, _ => by cases e
  | .tup _ :: _, _, _, e, _ => by cases e
  | .lst _ :: _, _, _, e, _ => by cases e
  | .scr _ :: _, _, _, e, _ => by cases e
  | .dic _ :: _, _, _, e, _ => by cases e
  | .ins _ _ :: _, _, _, e, _ => by cases e
  | .fn _ :: _, _, _, e, _ => by cases e
@[simp] theorem ints_map (is : List Int) : intsOf (is.map P.int) = some is := by
  induction is with
  | nil => rfl
  | cons i is ih => simp [intsOf, ih]
def ltF : F2 := fun a b s => match a, b with
  | .p (.int i), .p (.int j) => some (.p (.bl (decide (i < j))), s)
  | .p (.tup x), .p (.tup y) => match intsOf x, intsOf y with
    | some is, some js => some (.p (.bl (HT.lexLt is js)), s)
    | _, _ => none
  | _, _ => none
def negF : F1 := fun a s => match a with
  | .p (.int i) => some (.p (.int (-i)), s)
  | _ => none

theorem gv {G F : Hp} {m : List Addr} {s : S} {H : Hp} {w : W} {v : V} {Q : VK} (g : GotV R (RepW R) G F m (some (w, s)) Q) (ok : StOk R G F m s H) (r : RepW R F m w v) : Q v H := g F m H v (Ex.refl F) (Pre.refl m) ok r
theorem lim_eq : (16777216 : Nat) = sizeLine := sizeLine_eq.symm
theorem opI_of {f : Value → Value → Sem Value} {c : Int → Int → Bool} {g : Int → Int → Int} {C : Int → Int → Prop} (h : OpR X f (rI C fun i j => .int (g i j))) (hc : ∀ i j, c i j = true → C i j) : OpR X f (rOp R (intF c g)) := by
  intro pins s σ H x y v u Q I rx ry q
  obtain ⟨G, F, m, st, a, b, ok, ra, rb, q⟩ := q
  unfold intF at q
  split at q
  · rename_i i j
    split at q
    · rename_i hij
      cases ra with
      | p ra =>
        cases ra
        cases rb with
        | p rb =>
          cases rb
          exact h pins s σ H _ _ v u Q I rx ry ⟨i, j, rfl, rfl, hc i j hij, gv q ok (.p (.int _))⟩
    · exact q.elim
  · exact q.elim
theorem opC_of {f : Value → Value → Sem Value} {g : Int → Int → Bool} (h : OpR X f (rI0 fun i j => .bl (g i j))) : OpR X f (rOp R (cmpI g)) := by
  intro pins s σ H x y v u Q I rx ry q
  obtain ⟨G, F, m, st, a, b, ok, ra, rb, q⟩ := q
  unfold cmpI at q
  split at q
  · rename_i i j
    cases ra with
    | p ra =>
      cases ra
      cases rb with
      | p rb =>
        cases rb
        exact h pins s σ H _ _ v u Q I rx ry ⟨i, j, rfl, rfl, gv q ok (.p (.bl _))⟩
  · exact q.elim
theorem small_iff {i : Int} (h : small i = true) : -(2 ^ 64) < i ∧ i < 2 ^ 64 := by
  have h1 : i.natAbs ≤ 18446744073709551615 := Nat.le_of_ble_eq_true h
  constructor <;> omega
theorem o_sub : OpR X (binaryOp .Sub) (rOp R subF) := opI_of (C := fun _ _ => True) (fun pins s σ H x y v u Q I rx ry q => op_sub pins s σ H x y v u Q I rx ry (let ⟨i, j, a, b, _, q⟩ := q; ⟨i, j, a, b, q⟩)) (fun _ _ _ => trivial)
theorem o_fdiv : OpR X (binaryOp .FloorDiv) (rOp R fdivF) := opI_of op_fdiv fun i j h => by
  obtain ⟨h1, h2⟩ := Bool.and_eq_true_iff.mp h
  exact ⟨of_decide_eq_true h1, of_decide_eq_true h2⟩
theorem o_mod : OpR X (binaryOp .Mod) (rOp R modF) := opI_of op_mod fun i j h => of_decide_eq_true h
theorem o_pow : OpR X (binaryOp .Pow) (rOp R powF) := opI_of op_pow fun i j h => by
  obtain ⟨h12, h3⟩ := Bool.and_eq_true_iff.mp h
  obtain ⟨h1, h2⟩ := Bool.and_eq_true_iff.mp h12
  have h1' := small_iff h1
  exact ⟨of_decide_eq_true h2, by have := of_decide_eq_true h3; omega, by omega⟩
theorem o_le : OpR X (compareOp .LtE) (rOp R leF) := opC_of op_le
theorem o_gt : OpR X (compareOp .Gt) (rOp R gtF) := opC_of op_gt
theorem o_ge : OpR X (compareOp .GtE) (rOp R geF) := opC_of op_ge
theorem o_neg : UnR X (unaryOp .USub) (rUn R negF) := by
  intro pins s σ H x v Q I rx q
  obtain ⟨G, F, m, st, a, ok, ra, q⟩ := q
  unfold negF at q
  split at q
  · rename_i i
    cases ra with
    | p ra =>
      cases ra
      exact un_neg pins s σ H _ v Q I rx ⟨i, rfl, gv q ok (.p (.int _))⟩
  · exact q.elim
theorem o_lt (hK : X.K = R.K) (hu : X.A.units < cLine) : OpR X (compareOp .Lt) (rOp R ltF) := by
  intro pins s σ H x y v u Q I rx ry q
  obtain ⟨G, F, m, st, a, b, ok, ra, rb, q⟩ := q
  unfold ltF at q
  split at q
  · rename_i i j
    cases ra with
    | p ra =>
      cases ra
      cases rb with
      | p rb =>
        cases rb
        exact op_lt pins s σ H _ _ v u Q I rx ry ⟨i, j, rfl, rfl, gv q ok (.p (.bl _))⟩
  · rename_i ps qs
    cases ea : intsOf ps with
    | none => rw [ea] at q; exact q.elim
    | some is =>
      cases eb : intsOf qs with
      | none => rw [ea, eb] at q; exact q.elim
      | some js =>
        rw [ea, eb] at q
        cases ra with
        | p ra =>
          cases ra with
          | tup h1 r1 =>
            cases rb with
            | p rb =>
              cases rb with
              | tup h2 r2 =>
                have e1 := ints_rep ea r1
                have e2 := ints_rep eb r2
                subst e1 e2
                exact op_ltT hu pins s σ H _ _ v u Q I rx ry ⟨_, _, is, js, rfl, rfl, by rw [hK]; exact ex_t ok.ex h1, by rw [hK]; exact ex_t ok.ex h2, gv q ok (.p (.bl _))⟩
  · exact q.elim
theorem o_add (hK : X.K = R.K) : OpR X (binaryOp .Add) (rOp R addF) := by
  intro pins s σ H x y v u Q I rx ry q
  obtain ⟨G, F, m, st, a, b, ok, ra, rb, q⟩ := q
  unfold addF at q
  split at q
  · rename_i i j
    cases ra with
    | p ra =>
      cases ra
      cases rb with
      | p rb =>
        cases rb
        exact op_add pins s σ H _ _ v u Q I rx ry ⟨i, j, rfl, rfl, gv q ok (.p (.int _))⟩
  · rename_i i j
    split at q
    · rename_i hl
      cases ra with
      | p ra =>
        cases ra
        cases rb with
        | p rb =>
          cases rb
          exact op_add_str pins s σ H _ _ v u Q I rx ry ⟨i, j, rfl, rfl, by rw [← lim_eq]; exact hl, gv q ok (.p (.str _))⟩
    · exact q.elim
  · rename_i ps qs
    split at q
    · rename_i hl
      cases ra with
      | p ra =>
        cases ra with
        | @tup a1 v1 _ h1 r1 =>
          cases rb with
          | p rb =>
            cases rb with
            | @tup a2 v2 _ h2 r2 =>
              have l1 := r1.length
              have l2 := r2.length
              refine op_catA pins s σ H _ _ v u Q I rx ry ⟨_, _, v1, v2, rfl, rfl, by rw [hK]; exact ex_t ok.ex h1, by rw [hK]; exact ex_t ok.ex h2, by rw [← lim_eq]; omega, fun e => ?_, fun e e' => ?_, fun _ _ p hp => ?_⟩
              · have e2 : ps = [] := List.length_eq_zero_iff.mp (by rw [l1, e]; rfl)
                subst e2
                exact gv q ok (.p (.tup h2 r2))
              · have e2 : qs = [] := List.length_eq_zero_iff.mp (by rw [l2, e']; rfl)
                subst e2
                exact gv q ok (.p (.tup h1 (by simpa using r1)))
              · obtain ⟨ok', e'⟩ := ok.new (o := .tup (v1 ++ v2)) hp
                exact q _ m _ _ e' (Pre.refl m) ok' (.p (.tup (st_of upd_same) ((r1.append r2).mono e')))
    · exact q.elim
  · cases ea : itL st a with
    | none => rw [ea] at q; exact q.elim
    | some ws =>
      cases eb : itL st b with
      | none => rw [ea, eb] at q; exact q.elim
      | some us =>
        simp only [ea, eb] at q
        split at q
        · rename_i hl
          cases ep : plains (ws ++ us) with
          | none => rw [ep] at q; exact q.elim
          | some ps =>
            rw [ep] at q
            obtain ⟨a1, v1, rfl, h1, r1⟩ := itL_rep ok ra ea
            obtain ⟨a2, v2, rfl, h2, r2⟩ := itL_rep ok rb eb
            have l1 := r1.length
            have l2 := r2.length
            refine op_cat pins s σ H _ _ v u Q I rx ry ⟨_, _, v1, v2, rfl, rfl, h1, h2, by rw [← lim_eq]; omega, fun p hp => ?_⟩
            obtain ⟨ok', e'⟩ := ok.new (o := .lst (v1 ++ v2)) hp
            exact q _ m _ _ e' (Pre.refl m) ok' (.p (.lst upd_same ((plains_rep ep (r1.append r2)).mono e')))
        · exact q.elim
/-! == and != -/
def eqF (neg : Bool) : F2 := fun a b s => match frz 0 8 s a, frz 0 8 s b with
  | some p, some q => if fitD p && fitD q then some (.p (.bl (if neg then !PyData.eqv p.toD q.toD else PyData.eqv p.toD q.toD)), s) else none
  | _, _ => none
theorem eq_split {G F : Hp} {m : List Addr} {st : S} {H : Hp} {neg : Bool} {a b : W} {x y : V} {Q : VK} (ok : StOk R G F m st H) (ra : RepW R F m a x) (rb : RepW R F m b y) (q : GotV R (RepW R) G F m (eqF neg a b st) Q) :
    ∃ p r : P, Dp R.K H x p.toD ∧ Dp R.K H y r.toD ∧ SeqAt.shaped p.toD = true ∧ SeqAt.shaped r.toD = true ∧ Q (.bl (if neg then !PyData.eqv p.toD r.toD else PyData.eqv p.toD r.toD)) H := by
  unfold eqF at q
  cases ea : frz 0 8 st a with
  | none => rw [ea] at q; exact q.elim
  | some p =>
    cases eb : frz 0 8 st b with
    | none => rw [ea, eb] at q; exact q.elim
    | some r =>
      simp only [ea, eb] at q
      split at q
      · rename_i hf
        obtain ⟨f1, f2⟩ := Bool.and_eq_true_iff.mp hf
        exact ⟨p, r, dp_of (frz_rep ok 8 ra ea) (Bool.and_eq_true_iff.mp f1).1, dp_of (frz_rep ok 8 rb eb) (Bool.and_eq_true_iff.mp f2).1, fit_shaped f1, fit_shaped f2, gv q ok (.p (.bl _))⟩
      · exact q.elim
theorem o_eq (hK : X.K = R.K) (hu : X.A.units + 64 < cLine) : OpR X (compareOp .Eq) (rOp R (eqF false)) := by
  intro pins s σ H x y v u Q I rx ry q
  obtain ⟨G, F, m, st, a, b, ok, ra, rb, q⟩ := q
  obtain ⟨p, r, d1, d2, s1, s2, q⟩ := eq_split ok ra rb q
  rw [← hK] at d1 d2
  exact op_eqD hu pins s σ H _ _ v u Q I rx ry ⟨_, _, d1, d2, s1, s2, q⟩
theorem o_ne (hK : X.K = R.K) (hu : X.A.units + 64 < cLine) : OpR X (compareOp .NotEq) (rOp R (eqF true)) := by
  intro pins s σ H x y v u Q I rx ry q
  obtain ⟨G, F, m, st, a, b, ok, ra, rb, q⟩ := q
  obtain ⟨p, r, d1, d2, s1, s2, q⟩ := eq_split ok ra rb q
  rw [← hK] at d1 d2
  exact op_neD hu pins s σ H _ _ v u Q I rx ry ⟨_, _, d1, d2, s1, s2, q⟩
/-! is None -/
def isN : W → Bool
  | .p .non => true
  | _ => false
def isNF (neg : Bool) : F2 := fun a b s => match b with
  | .p .non => some (.p (.bl (if neg then !isN a else isN a)), s)
  | _ => none
theorem isN_rep {F : Hp} {m : List Addr} {a : W} {x : V} (ra : RepW R F m a x) : isN a = decide (x = .non) := by
  cases ra with
  | p ra => cases ra <;> rfl
  | cell _ => rfl
theorem o_is : OpR X (compareOp .Is) (rOp R (isNF false)) := by
  intro pins s σ H x y v u Q I rx ry q
  obtain ⟨G, F, m, st, a, b, ok, ra, rb, q⟩ := q
  unfold isNF at q
  split at q
  · cases rb with
    | p rb =>
      cases rb
      refine op_isN pins s σ H _ _ v u Q I rx ry ⟨rfl, ?_⟩
      rw [← isN_rep ra]
      simp only [if_true, Bool.false_eq_true, if_false] at q
      exact gv q ok (.p (.bl _))
  · exact q.elim
theorem o_isnot : OpR X (compareOp .IsNot) (rOp R (isNF true)) := by
  intro pins s σ H x y v u Q I rx ry q
  obtain ⟨G, F, m, st, a, b, ok, ra, rb, q⟩ := q
  unfold isNF at q
  split at q
  · cases rb with
    | p rb =>
      cases rb
      refine op_notN pins s σ H _ _ v u Q I rx ry ⟨rfl, ?_⟩
      rw [← isN_rep ra]
      simp only [if_true, Bool.false_eq_true, if_false] at q
      exact gv q ok (.p (.bl _))
  · exact q.elim
/-! in (a list, a tuple) -/
def itQ (s : S) (n : Nat) : W → Option (List P)
  | .p (.tup ps) => some ps
  | .p (.lst ps) => some ps
  | .p (.scr ps) => some ps
  | .cell k => match frz 0 n s (.cell k) with
    | some (.lst ps) => some ps
    | _ => none
  | _ => none
def inQ (neg : Bool) : F2 := fun a b s => match frz 0 8 s a, itQ s 8 b with
  | some p, some qs => if fitD p && fitD (.tup qs) then some (.p (.bl (if neg then !((toDs qs).any fun z => PyData.eqv z p.toD) else (toDs qs).any fun z => PyData.eqv z p.toD)), s) else none
  | _, _ => none
theorem itQ_rep {G F : Hp} {m : List Addr} {st : S} {H : Hp} (ok : StOk R G F m st H) {n : Nat} {b : W} {y : V} {qs : List P} (rb : RepW R F m b y) (e : itQ st n b = some qs) (o : okDs qs = true) :
    Dp R.K H y (.tuple (toDs qs)) ∨ Dp R.K H y (.list (toDs qs)) := by
  unfold itQ at e
  split at e
  · cases e
    cases rb with
    | p rb => exact .inl (by simpa [P.toD] using dp_of (rb.mono ok.ex) (by simpa [P.okD] using o))
  · cases e
    cases rb with
    | p rb => exact .inr (by simpa [P.toD] using dp_of (rb.mono ok.ex) (by simpa [P.okD] using o))
  · cases e
    cases rb with
    | p rb => exact .inr (by simpa [P.toD] using dp_of (rb.mono ok.ex) (by simpa [P.okD] using o))
  · rename_i k
    cases q : frz 0 n st (.cell k) with
    | none => rw [q] at e; cases e
    | some r =>
      rw [q] at e
      split at e
      · rename_i ps hps
        cases hps
        cases e
        exact .inr (by simpa [P.toD] using dp_of (frz_rep ok n rb q) (by simpa [P.okD] using o))
      · cases e
  · cases e
theorem in_split {G F : Hp} {m : List Addr} {st : S} {H : Hp} {neg : Bool} {a b : W} {x y : V} {Q : VK} (ok : StOk R G F m st H) (ra : RepW R F m a x) (rb : RepW R F m b y) (q : GotV R (RepW R) G F m (inQ neg a b st) Q) :
    ∃ (p : P) (qs : List P), Dp R.K H x p.toD ∧ (Dp R.K H y (.tuple (toDs qs)) ∨ Dp R.K H y (.list (toDs qs))) ∧ SeqAt.shaped p.toD = true ∧ PyData.canLayAll0 (toDs qs) = true ∧
      Q (.bl (if neg then !((toDs qs).any fun z => PyData.eqv z p.toD) else (toDs qs).any fun z => PyData.eqv z p.toD)) H := by
  unfold inQ at q
  cases ea : frz 0 8 st a with
  | none => rw [ea] at q; exact q.elim
  | some p =>
    cases eb : itQ st 8 b with
    | none => rw [ea, eb] at q; exact q.elim
    | some r =>
      simp only [ea, eb] at q
      split at q
      · rename_i hf
        obtain ⟨f1, f2⟩ := Bool.and_eq_true_iff.mp hf
        have o : okDs r = true := by
          have := (Bool.and_eq_true_iff.mp f2).1
          simpa [P.okD] using this
        exact ⟨p, r, dp_of (frz_rep ok 8 ra ea) (Bool.and_eq_true_iff.mp f1).1, itQ_rep ok rb eb o, fit_shaped f1, lays_of o, gv q ok (.p (.bl _))⟩
      · exact q.elim
theorem o_inQ (hK : X.K = R.K) (hu : X.A.units + 65 < cLine) : OpR X (compareOp .In) (rOp R (inQ false)) := by
  intro pins s σ H x y v u Q I rx ry q
  obtain ⟨G, F, m, st, a, b, ok, ra, rb, q⟩ := q
  obtain ⟨p, qs, d1, d2, s1, s2, q⟩ := in_split ok ra rb q
  rw [← hK] at d1 d2
  obtain ⟨as, r1⟩ := Dp.reads I _ x v d1 rx
  rcases d2 with d2 | d2
  · obtain ⟨bs, r2⟩ := Dp.reads I _ y u d2 ry
    exact SeqAt.in_tuple_reads r2 r1 s2 (SeqAt.canLay_of_shaped s1) (PyProof.Rows.room_in_shaped s1 hu) ⟨.bl _, H, I, rfl, q⟩
  · obtain ⟨bs, r2⟩ := Dp.reads I _ y u d2 ry
    exact SeqAt.in_list_reads r2 r1 s2 (SeqAt.canLay_of_shaped s1) (PyProof.Rows.room_in_shaped s1 hu) ⟨.bl _, H, I, rfl, q⟩
theorem o_notinQ (hK : X.K = R.K) (hu : X.A.units + 65 < cLine) : OpR X (compareOp .NotIn) (rOp R (inQ true)) := by
  intro pins s σ H x y v u Q I rx ry q
  obtain ⟨G, F, m, st, a, b, ok, ra, rb, q⟩ := q
  obtain ⟨p, qs, d1, d2, s1, s2, q⟩ := in_split ok ra rb q
  rw [← hK] at d1 d2
  obtain ⟨as, r1⟩ := Dp.reads I _ x v d1 rx
  rcases d2 with d2 | d2
  · obtain ⟨bs, r2⟩ := Dp.reads I _ y u d2 ry
    exact SeqAt.notIn_tuple_reads r2 r1 s2 (SeqAt.canLay_of_shaped s1) (PyProof.Rows.room_in_shaped s1 hu) ⟨.bl _, H, I, rfl, q⟩
  · obtain ⟨bs, r2⟩ := Dp.reads I _ y u d2 ry
    exact SeqAt.notIn_list_reads r2 r1 s2 (SeqAt.canLay_of_shaped s1) (PyProof.Rows.room_in_shaped s1 hu) ⟨.bl _, H, I, rfl, q⟩
end
end Sim

/-! Sim2: expressions. -/
namespace Sim
open PySem L2 Evl
section
variable {R : RC} {X : Cx} {W0 : WX} {a b c : Expr} {fa fb fe : FE} {ft fu : FT} {pos : Pos} {es : List Expr} {fs : FA}

/-! ### leaves -/
def cVar (i : Nat) : FE := fun E s => match E[i]? with
  | some (some w) => .ok w s
  | _ => .no
def cP (p : P) : FE := fun _ s => .ok (.p p) s
theorem se_ofVar {e : Expr} {i : Nat} (h : PE X e (tVar i)) : PE X e (tE R W0 (cVar i)) := PE.imp h fun σ H Q h => by
  obtain ⟨G, F, m, s, E, ok, en, q⟩ := h
  unfold cVar at q
  split at q
  · rename_i w hw
    obtain ⟨v, h1, h2⟩ := en.at_ i w hw
    exact ⟨v, h1, q F m H v (Ex.refl F) (Pre.refl m) ok h2⟩
  · exact q.elim
theorem sv (i : Nat) {x : Str} {pos : Pos} (hN : X.N[i]? = some x := by rfl) (hv : Vis X.env.scope x := by first | exact Or.inl rfl | exact Or.inr (Or.inl rfl) | exact Or.inr (Or.inr rfl)) (hd : (x == ("__debug__" : Str)) = false := by decide)
    (hcd : (x == ("__classdict__" : Str)) = false := by decide) : PE X (.Name x pos) (tE R W0 (cVar i)) := se_ofVar (pv i hN hv hd hcd)
theorem se_ofC {e : Expr} {p : P} {v : V} (h : PE X e (tC v)) (r : ∀ F : Hp, RepP R F p v) : PE X e (tE R W0 (cP p)) := PE.imp h fun σ H Q h => by
  obtain ⟨G, F, m, s, E, ok, en, q⟩ := h
  exact q F m H v (Ex.refl F) (Pre.refl m) ok (.p (r F))
theorem sc_int {i : Int} {j : Nat} : PE X (.Constant (.int i) j pos) (tE R W0 (cP (.int i))) := se_ofC pe_int fun _ => .int _
theorem sc_bl {i : Bool} {j : Nat} : PE X (.Constant (.bool i) j pos) (tE R W0 (cP (.bl i))) := se_ofC pe_bl fun _ => .bl _
theorem sc_non {j : Nat} : PE X (.Constant .none j pos) (tE R W0 (cP .non)) := se_ofC pe_non fun _ => .non
theorem sc_str {x : Str} {j : Nat} : PE X (.Constant (.str x) j pos) (tE R W0 (cP (.str x))) := se_ofC pe_str fun _ => .str _
/-- a constant of the module -/
theorem sc_glob {x : Str} {p : P} {v : V} {u : Value} (hg : Gl X x) (hm : X.mg x = some u) (r : RelV v u) (rp : ∀ F : Hp, RepP R F p v) (hd : (x == ("__debug__" : Str)) = false := by decide) : PE X (.Name x pos) (tE R W0 (cP p)) := se_ofC (pe_glob hg hm r hd) rp

/-! ### argument lists, displays -/
def cNil : FA := fun _ s => .ok [] s
def cCons (fa : FE) (fs : FA) : FA := fun E s => (fa E s).bind fun a s1 => (fs E s1).bind fun ws s2 => .ok (a :: ws) s2
theorem sa_nil : PA X [] (tA R W0 cNil) := PA.imp pa_nil fun σ H Q h => by
  obtain ⟨G, F, m, s, E, ok, en, q⟩ := h
  exact q F m H [] (Ex.refl F) (Pre.refl m) ok .nil
theorem sa_cons (ha : PE X a (tE R W0 fa)) (hs : PA X es (tA R W0 fs)) (hst : starEach (a :: es) X.env = (false, eval a X.env) :: starEach es X.env := by rfl) : PA X (a :: es) (tA R W0 (cCons fa fs)) := PA.imp (pa_cons ha hs hst) fun σ H Q h => by
  obtain ⟨G, F, m, s, E, ok, en, q⟩ := h
  refine ⟨G, F, m, s, E, ok, en, got_bind q fun a s1 F1 m1 H1 v1 _ e1 p1 ok1 r1 q1 => ?_⟩
  refine ⟨G, F1, m1, s1, E, ok1, en.mono e1 p1, got_bind q1 fun b s2 F2 m2 H2 v2 _ e2 p2 ok2 r2 q2 => ?_⟩
  exact q2 F2 m2 H2 _ (Ex.refl F2) (Pre.refl m2) ok2 (.cons (r1.mono e2 p2) r2)
def tupR (ws : List W) (s : S) : Option (W × S) := if ws.length ≤ 16777216 then match plains ws with
  | some ps => some (.p (.tup ps), s)
  | none => none else none
/-- a list of these: never to change, or a cell -/
def lstR (att : Bool) (ws : List W) (s : S) : Option (W × S) := if ws.length ≤ 16777216 then
  (match att with
    | true => some (.cell s.length, s ++ [.lst ws])
    | false => match plains ws with
      | some ps => some (.p (.lst ps), s)
      | none => none) else none
def cTup (fs : FA) : FE := fun E s => (fs E s).bind fun ws s1 => Rs.of (tupR ws s1)
def cLst (att : Bool) (fs : FA) : FE := fun E s => (fs E s).bind fun ws s1 => Rs.of (lstR att ws s1)
theorem tupR_ok {G F : Hp} {m : List Addr} {ws : List W} {s : S} {H : Hp} {vs : List V} {Q : VK} (ok : StOk R G F m s H) (r : RepWs R F m ws vs) (q : GotV R (RepW R) G F m (tupR ws s) Q) : vs.length ≤ sizeLine ∧ ∀ p, H p = none → Q (.ref p) (upd H p (.tup vs)) := by
  unfold tupR at q
  split at q
  · rename_i hl
    have l := r.length
    split at q
    · rename_i ps hp
      refine ⟨by rw [← lim_eq]; omega, fun p hp' => ?_⟩
      obtain ⟨ok', e'⟩ := ok.new (o := .tup vs) hp'
      exact q _ m _ _ e' (Pre.refl m) ok' (.p (.tup (st_of upd_same) ((plains_rep hp r).mono e')))
    · exact q.elim
  · exact q.elim
theorem push_list {G F : Hp} {m : List Addr} {ws : List W} {s : S} {H : Hp} {vs : List V} {p : Addr} (ok : StOk R G F m s H) (r : RepWs R F m ws vs) (hp : H p = none) : StOk R G F (m ++ [p]) (s ++ [.lst ws]) (upd H p (.lst vs)) ∧ RepW R F (m ++ [p]) (.cell s.length) (.ref p) := by
  refine ⟨ok.push hp trivial ⟨vs, upd_same, r.mono (Ex.refl F) ⟨[p], rfl⟩⟩, .cell ?_⟩
  rw [← ok.len, List.getElem?_append_right (Nat.le_refl _)]
  simp
theorem lstR_ok {G F : Hp} {m : List Addr} {att : Bool} {ws : List W} {s : S} {H : Hp} {vs : List V} {Q : VK} (ok : StOk R G F m s H) (r : RepWs R F m ws vs) (q : GotV R (RepW R) G F m (lstR att ws s) Q) : vs.length ≤ sizeLine ∧ ∀ p, H p = none → Q (.ref p) (upd H p (.lst vs)) := by
  unfold lstR at q
  split at q
  · rename_i hl
    have l := r.length
    refine ⟨by rw [← lim_eq]; omega, fun p hp' => ?_⟩
    cases att with
    | true =>
      obtain ⟨ok', r'⟩ := push_list ok r hp'
      exact q _ _ _ _ (Ex.refl F) ⟨[p], rfl⟩ ok' r'
    | false =>
      dsimp only at q
      split at q
      · rename_i ps hp
        obtain ⟨ok', e'⟩ := ok.new (o := .lst vs) hp'
        exact q _ m _ _ e' (Pre.refl m) ok' (.p (.lst upd_same ((plains_rep hp r).mono e')))
      · exact q.elim
  · exact q.elim
theorem se_tup {x1} (h : PA X es (tA R W0 fs)) : PE X (.Tuple es x1 pos) (tE R W0 (cTup fs)) := PE.imp (pe_tup h) fun σ H Q h => by
  obtain ⟨G, F, m, s, E, ok, en, q⟩ := h
  exact ⟨G, F, m, s, E, ok, en, got_bind q fun a s1 F1 m1 H1 v1 _ e1 p1 ok1 r1 q1 => tupR_ok ok1 r1 (got_of q1)⟩
theorem se_lst (att : Bool) (h : PA X es (tA R W0 fs)) : PE X (.List es pos) (tE R W0 (cLst att fs)) := PE.imp (pe_lst h) fun σ H Q h => by
  obtain ⟨G, F, m, s, E, ok, en, q⟩ := h
  exact ⟨G, F, m, s, E, ok, en, got_bind q fun a s1 F1 m1 H1 v1 _ e1 p1 ok1 r1 q1 => lstR_ok ok1 r1 (got_of q1)⟩

/-! ### tests -/
def bl? : W → Option Bool
  | .p (.bl b) => some b
  | _ => none
def cB (f : FE) : FT := fun E s => (f E s).bind fun w s1 => match bl? w with
  | some b => .ok b s1
  | none => .no
theorem bl_rep {F : Hp} {m : List Addr} {w : W} {v : V} {b : Bool} (r : RepW R F m w v) (e : bl? w = some b) : v = .bl b := by
  cases r with
  | p r =>
    cases r with
    | bl b' => cases e; rfl
    | _ => cases e
  | cell _ => cases e
theorem redB {σ : L2.St} {H : Hp} {Q : Bool → Hp → Prop} {f : FE} (h : tT R W0 (cB f) σ H Q) : tE R W0 f σ H fun x H' => ∃ k, x = .bl k ∧ Q k H' := by
  obtain ⟨G, F, m, s, E, ok, en, q⟩ := h
  refine ⟨G, F, m, s, E, ok, en, got_bind q fun a s1 F1 m1 H1 v1 _ e1 p1 ok1 r1 q1 => ?_⟩
  split at q1
  · rename_i b hb
    exact ⟨b, bl_rep r1 hb, q1 F1 m1 H1 b (Ex.refl F1) (Pre.refl m1) ok1 rfl⟩
  · exact q1.elim
theorem st_cmp {op : CmpOp} {g : F2} (ho : OpR X (compareOp op) (rOp R g)) (ha : PE X a (tE R W0 fa)) (hb : PE X b (tE R W0 fb)) (hm : behindInMarks op b = false) : PT X (.Compare a [op] [b] pos) (tT R W0 (cB (cBin g fa fb))) :=
  PT.imp (pt_cmpR ho ha hb hm) fun _ _ _ h => red2 (redB h)
/-- a name, a call, .. whose value is a bool -/
theorem st_val (h : PE X a (tE R W0 fa)) (he : ∀ whole, isTrue a X.env whole = (do let v ← whole; standAt a.pos; holding [v] (truthy v)) := by intro _; rfl) : PT X a (tT R W0 (cB fa)) := PT.imp (pt_val h he) fun _ _ _ h => redB h
/-- truth -/
def truF (s : S) : W → Option Bool
  | .p .non => some false
  | .p (.bl b) => some b
  | .p (.int i) => some (i != 0)
  | .p (.str x) => if x.length ≤ 16777216 then some ((x.length : Int) != 0) else none
  | .p (.tup ps) => some (!ps.isEmpty)
  | .p (.lst ps) => some (!ps.isEmpty)
  | .cell k => match s[k]? with
    | some (.lst ws) => some (!ws.isEmpty)
    | _ => none
  | _ => none
def cTru (f : FE) : FT := fun E s => (f E s).bind fun w s1 => match truF s1 w with
  | some b => .ok b s1
  | none => .no
theorem empty_ps {F : Hp} {ps : List P} {vs : List V} (r : RepPs R F ps vs) : ps.isEmpty = vs.isEmpty := by
  cases r <;> rfl
theorem empty_ws {F : Hp} {m : List Addr} {ps : List W} {vs : List V} (r : RepWs R F m ps vs) : ps.isEmpty = vs.isEmpty := by
  cases r <;> rfl
theorem tru_rep {G F : Hp} {m : List Addr} {s : S} {H : Hp} {w : W} {v : V} {b : Bool} (ok : StOk R G F m s H) (r : RepW R F m w v) (e : truF s w = some b) : TruV R.K v H b := by
  cases r with
  | p r =>
    cases r with
    | non => cases e; rfl
    | bl b' => cases e; rfl
    | int i => cases e; rfl
    | str x =>
      unfold truF at e
      dsimp only at e
      split at e
      · cases e
        exact ⟨by rw [← lim_eq]; assumption, rfl⟩
      · cases e
    | tup h r =>
      cases e
      exact .inr (.inl ⟨_, ex_t ok.ex h, by rw [empty_ps r]⟩)
    | lst h r =>
      cases e
      exact .inl ⟨_, sq_of (ok.ex _ _ h), by rw [empty_ps r]⟩
    | _ => cases e
  | @cell k a hk =>
    have hl : k < s.length := by rw [← ok.len]; exact (List.getElem?_eq_some_iff.mp hk).1
    have c := ok.cell k a _ hk (List.getElem?_eq_getElem hl)
    unfold truF at e
    dsimp only at e
    rw [List.getElem?_eq_getElem hl] at e
    cases q : s[k] with
    | lst ws =>
      rw [q] at c
      simp only [q] at e
      cases e
      obtain ⟨vs, h1, h2⟩ := c
      exact .inl ⟨vs, sq_of h1, by rw [empty_ws h2]⟩
    | dic ws => simp only [q] at e; cases e
    | ins c ws => simp only [q] at e; cases e
theorem st_tru (hK : X.K = R.K) (h : PE X a (tE R W0 fa)) (he : ∀ whole, isTrue a X.env whole = (do let v ← whole; standAt a.pos; holding [v] (truthy v)) := by intro _; rfl) : PT X a (tT R W0 (cTru fa)) := PT.imp (pt_truth h he) fun σ H Q h => by
  obtain ⟨G, F, m, s, E, ok, en, q⟩ := h
  refine ⟨G, F, m, s, E, ok, en, got_bind q fun a s1 F1 m1 H1 v1 _ e1 p1 ok1 r1 q1 => ?_⟩
  split at q1
  · rename_i b hb
    exact ⟨b, by rw [hK]; exact tru_rep ok1 r1 hb, q1 F1 m1 H1 b (Ex.refl F1) (Pre.refl m1) ok1 rfl⟩
  · exact q1.elim
def cNot (f : FT) : FT := fun E s => (f E s).bind fun b s1 => .ok (!b) s1
def cAnd (f g : FT) : FT := fun E s => (f E s).bind fun b s1 => match b with
  | true => g E s1
  | false => .ok false s1
def cOr (f g : FT) : FT := fun E s => (f E s).bind fun b s1 => match b with
  | true => .ok true s1
  | false => g E s1
theorem st_not (h : PT X a (tT R W0 ft)) : PT X (.UnaryOp .Not a pos) (tT R W0 (cNot ft)) := PT.imp (pt_not h) fun σ H Q h => by
  obtain ⟨G, F, m, s, E, ok, en, q⟩ := h
  refine ⟨G, F, m, s, E, ok, en, got_bind q fun a s1 F1 m1 H1 v1 _ e1 p1 ok1 r1 q1 => ?_⟩
  cases r1
  exact q1 F1 m1 H1 _ (Ex.refl F1) (Pre.refl m1) ok1 rfl
theorem redAnd {σ : L2.St} {H : Hp} {Q : Bool → Hp → Prop} (h : tT R W0 (cAnd ft fu) σ H Q) : tAnd (tT R W0 ft) (tT R W0 fu) σ H Q := by
  obtain ⟨G, F, m, s, E, ok, en, q⟩ := h
  refine ⟨G, F, m, s, E, ok, en, got_bind q fun a s1 F1 m1 H1 v1 _ e1 p1 ok1 r1 q1 => ?_⟩
  cases r1
  cases a with
  | true => exact ⟨G, F1, m1, s1, E, ok1, en.mono e1 p1, q1⟩
  | false => exact q1 F1 m1 H1 _ (Ex.refl F1) (Pre.refl m1) ok1 rfl
theorem redOr {σ : L2.St} {H : Hp} {Q : Bool → Hp → Prop} (h : tT R W0 (cOr ft fu) σ H Q) : tOr (tT R W0 ft) (tT R W0 fu) σ H Q := by
  obtain ⟨G, F, m, s, E, ok, en, q⟩ := h
  refine ⟨G, F, m, s, E, ok, en, got_bind q fun a s1 F1 m1 H1 v1 _ e1 p1 ok1 r1 q1 => ?_⟩
  cases r1
  cases a with
  | false => exact ⟨G, F1, m1, s1, E, ok1, en.mono e1 p1, q1⟩
  | true => exact q1 F1 m1 H1 _ (Ex.refl F1) (Pre.refl m1) ok1 rfl
theorem sw_and1 (h : PT X a (tT R W0 ft)) : PW X (.BoolOp .And [a] pos) (tT R W0 ft) := pw_and1 h
theorem sw_or1 (h : PT X a (tT R W0 ft)) : PW X (.BoolOp .Or [a] pos) (tT R W0 ft) := pw_or1 h
theorem sw_and (h : PT X a (tT R W0 ft)) (hr : PW X (.BoolOp .And (b :: es) pos) (tT R W0 fu)) : PW X (.BoolOp .And (a :: b :: es) pos) (tT R W0 (cAnd ft fu)) := PW.imp (pw_and h hr) fun _ _ _ h => redAnd h
theorem sw_or (h : PT X a (tT R W0 ft)) (hr : PW X (.BoolOp .Or (b :: es) pos) (tT R W0 fu)) : PW X (.BoolOp .Or (a :: b :: es) pos) (tT R W0 (cOr ft fu)) := PW.imp (pw_or h hr) fun _ _ _ h => redOr h
theorem st_w (h : PW X a (tT R W0 ft)) : PT X a (tT R W0 ft) := h.pt
/-! as values -/
def cAndV (f g : FE) : FE := fun E s => (f E s).bind fun w s1 => match bl? w with
  | some true => g E s1
  | some false => .ok (.p (.bl false)) s1
  | none => .no
def cOrV (f g : FE) : FE := fun E s => (f E s).bind fun w s1 => match bl? w with
  | some true => .ok (.p (.bl true)) s1
  | some false => g E s1
  | none => .no
def cNotV (f : FE) : FE := fun E s => (f E s).bind fun w s1 => match bl? w with
  | some b => .ok (.p (.bl (!b))) s1
  | none => .no
theorem se_one {op} (h : PE X a (tE R W0 fa)) : PE X (.BoolOp op [a] pos) (tE R W0 fa) := pe_one h
theorem se_and (ha : PE X a (tE R W0 fa)) (hb : PE X (.BoolOp .And (b :: es) pos) (tE R W0 fb)) : PE X (.BoolOp .And (a :: b :: es) pos) (tE R W0 (cAndV fa fb)) := PE.imp (pe_and ha hb) fun σ H Q h => by
  obtain ⟨G, F, m, s, E, ok, en, q⟩ := h
  refine ⟨G, F, m, s, E, ok, en, got_bind q fun a s1 F1 m1 H1 v1 _ e1 p1 ok1 r1 q1 => ?_⟩
  split at q1
  · rename_i hb
    exact ⟨true, bl_rep r1 hb, by rw [if_pos rfl]; exact ⟨G, F1, m1, s1, E, ok1, en.mono e1 p1, q1⟩⟩
  · rename_i hb
    exact ⟨false, bl_rep r1 hb, by rw [if_neg Bool.false_ne_true]; exact q1 F1 m1 H1 _ (Ex.refl F1) (Pre.refl m1) ok1 (.p (.bl _))⟩
  · exact q1.elim
theorem se_or (ha : PE X a (tE R W0 fa)) (hb : PE X (.BoolOp .Or (b :: es) pos) (tE R W0 fb)) : PE X (.BoolOp .Or (a :: b :: es) pos) (tE R W0 (cOrV fa fb)) := PE.imp (pe_or ha hb) fun σ H Q h => by
  obtain ⟨G, F, m, s, E, ok, en, q⟩ := h
  refine ⟨G, F, m, s, E, ok, en, got_bind q fun a s1 F1 m1 H1 v1 _ e1 p1 ok1 r1 q1 => ?_⟩
  split at q1
  · rename_i hb
    exact ⟨true, bl_rep r1 hb, by rw [if_pos rfl]; exact q1 F1 m1 H1 _ (Ex.refl F1) (Pre.refl m1) ok1 (.p (.bl _))⟩
  · rename_i hb
    exact ⟨false, bl_rep r1 hb, by rw [if_neg Bool.false_ne_true]; exact ⟨G, F1, m1, s1, E, ok1, en.mono e1 p1, q1⟩⟩
  · exact q1.elim
theorem se_not (ha : PE X a (tE R W0 fa)) : PE X (.UnaryOp .Not a pos) (tE R W0 (cNotV fa)) := PE.imp (pe_not ha) fun σ H Q h => by
  obtain ⟨G, F, m, s, E, ok, en, q⟩ := h
  refine ⟨G, F, m, s, E, ok, en, got_bind q fun a s1 F1 m1 H1 v1 _ e1 p1 ok1 r1 q1 => ?_⟩
  split at q1
  · rename_i b hb
    exact ⟨b, bl_rep r1 hb, q1 F1 m1 H1 _ (Ex.refl F1) (Pre.refl m1) ok1 (.p (.bl _))⟩
  · exact q1.elim
def cIf (t : FT) (f g : FE) : FE := fun E s => (t E s).bind fun b s1 => match b with
  | true => f E s1
  | false => g E s1
theorem se_if (ht : PT X c (tT R W0 ft)) (ha : PE X a (tE R W0 fa)) (hb : PE X b (tE R W0 fb)) : PE X (.IfExp c a b pos) (tE R W0 (cIf ft fa fb)) := PE.imp (pe_ifExp ht ha hb) fun σ H Q h => by
  obtain ⟨G, F, m, s, E, ok, en, q⟩ := h
  refine ⟨G, F, m, s, E, ok, en, got_bind q fun a s1 F1 m1 H1 v1 _ e1 p1 ok1 r1 q1 => ?_⟩
  cases r1
  cases a with
  | true => rw [if_pos rfl]; exact ⟨G, F1, m1, s1, E, ok1, en.mono e1 p1, q1⟩
  | false => rw [if_neg Bool.false_ne_true]; exact ⟨G, F1, m1, s1, E, ok1, en.mono e1 p1, q1⟩
/-- a <= b <= c -/
def cChain (g g' : F2) (fa fb fc : FE) : FE := fun E s => (fa E s).bind fun x s1 => (fb E s1).bind fun y s2 => (Rs.of (g x y s2)).bind fun z s3 => match bl? z with
  | some true => (fc E s3).bind fun w s4 => Rs.of (g' y w s4)
  | some false => .ok (.p (.bl false)) s3
  | none => .no
end
end Sim

/-! Sim3: chains, subscripts, calls. -/
namespace Sim
open PySem L2 Evl
section
variable {R : RC} {X : Cx} {W0 : WX} {a b c : Expr} {fa fb fc fe : FE} {ft fu : FT} {pos p : Pos} {es : List Expr} {fs : FA}

theorem redChain {g g' : F2} {σ : L2.St} {H : Hp} {Q : VK} (h : tE R W0 (cChain g g' fa fb fc) σ H Q) : tChain (rOp R g) (rOp R g') (tE R W0 fa) (tE R W0 fb) (tE R W0 fc) σ H Q := by
  obtain ⟨G, F, m, s, E, ok, en, q⟩ := h
  refine ⟨G, F, m, s, E, ok, en, got_bind q fun a s1 F1 m1 H1 v1 _ e1 p1 ok1 r1 q1 => ?_⟩
  refine ⟨G, F1, m1, s1, E, ok1, en.mono e1 p1, got_bind q1 fun b s2 F2 m2 H2 v2 _ e2 p2 ok2 r2 q2 => ?_⟩
  refine ⟨G, F2, m2, s2, a, b, ok2, r1.mono e2 p2, r2, ?_⟩
  cases hg : g a b s2 with
  | none => rw [hg] at q2; exact q2.elim
  | some z =>
    obtain ⟨z, s3⟩ := z
    rw [hg] at q2
    intro F3 m3 H3 v3 e3 p3 ok3 r3
    have q3 := Got.mono e3 p3 (show Got R (RepW R) W0 G F2 m2 (match bl? z with
      | some true => (fc E s3).bind fun w s4 => Rs.of (g' b w s4)
      | some false => .ok (.p (.bl false)) s3
      | none => .no) σ Q from q2)
    split at q3
    · rename_i hb
      exact ⟨true, bl_rep r3 hb, by
        rw [if_pos rfl]
        refine ⟨G, F3, m3, s3, E, ok3, ((en.mono e1 p1).mono e2 p2).mono e3 p3, got_bind q3 fun w s4 F4 m4 H4 v4 _ e4 p4 ok4 r4 q4 => ?_⟩
        exact ⟨G, F4, m4, s4, b, w, ok4, (r2.mono e3 p3).mono e4 p4, r4, got_of q4⟩⟩
    · rename_i hb
      exact ⟨false, bl_rep r3 hb, by rw [if_neg Bool.false_ne_true]; exact q3 F3 m3 H3 _ (Ex.refl F3) (Pre.refl m3) ok3 (.p (.bl _))⟩
    · exact q3.elim
theorem se_chain {op op' : CmpOp} {g g' : F2} (ho : OpR X (compareOp op) (rOp R g)) (ho' : OpR X (compareOp op') (rOp R g')) (ha : PE X a (tE R W0 fa)) (hb : PE X b (tE R W0 fb)) (hc : PE X c (tE R W0 fc))
    (hm : lastMarks [op, op'] [b, c] = false := by with_unfolding_all rfl) : PE X (.Compare a [op, op'] [b, c] pos) (tE R W0 (cChain g g' fa fb fc)) := PE.imp (pe_chain ho ho' ha hb hc hm) fun _ _ _ h => redChain h
theorem st_chain {op op' : CmpOp} {g g' : F2} (ho : OpR X (compareOp op) (rOp R g)) (ho' : OpR X (compareOp op') (rOp R g')) (ha : PE X a (tE R W0 fa)) (hb : PE X b (tE R W0 fb)) (hc : PE X c (tE R W0 fc))
    (hm : lastMarks [op, op'] [b, c] = false := by with_unfolding_all rfl) : PT X (.Compare a [op, op'] [b, c] pos) (tT R W0 (cB (cChain g g' fa fb fc))) := PT.imp (pt_chain ho ho' ha hb hc hm) fun _ _ _ h => redChain (redB h)

/-! ### subscripts -/
theorem atI_ps {F : Hp} {ps : List P} {vs : List V} {i : Int} {q : P} (r : RepPs R F ps vs) (e : atI ps i = some q) : ∃ v, atI vs i = some v ∧ RepP R F q v := by
  unfold atI at e ⊢
  rw [← r.length]
  cases h : ixN ps.length i with
  | none => rw [h] at e; cases e
  | some j =>
    rw [h] at e
    exact r.get e
theorem atI_ws {F : Hp} {m : List Addr} {ps : List W} {vs : List V} {i : Int} {q : W} (r : RepWs R F m ps vs) (e : atI ps i = some q) : ∃ v, atI vs i = some v ∧ RepW R F m q v := by
  unfold atI at e ⊢
  rw [← r.length]
  cases h : ixN ps.length i with
  | none => rw [h] at e; cases e
  | some j =>
    rw [h] at e
    exact r.get e
def ixF : F2 := fun a b s => match b with
  | .p (.int i) => match a with
    | .p (.tup ps) => (atI ps i).map fun q => (.p q, s)
    | .p (.lst ps) => (atI ps i).map fun q => (.p q, s)
    | .cell k => match s[k]? with
      | some (.lst ws) => (atI ws i).map fun q => (q, s)
      | _ => none
    | _ => none
  | _ => none
theorem o_ix (hK : X.K = R.K) : IxR X (rOp R ixF) := by
  intro value slice pins s σ H x y v u Q I rx ry q hs
  obtain ⟨G, F, m, st, a, b, ok, ra, rb, q⟩ := q
  unfold ixF at q
  split at q
  · rename_i i
    cases rb with
    | p rb =>
      cases rb
      split at q
      · rename_i ps
        cases ea : atI ps i with
        | none => rw [ea] at q; exact q.elim
        | some z =>
          rw [ea] at q
          cases ra with
          | p ra =>
            cases ra with
            | tup h r =>
              obtain ⟨v', h1, h2⟩ := atI_ps r ea
              exact ix_tup value slice pins s σ H _ _ v u Q I rx ry ⟨_, _, i, v', rfl, rfl, by rw [hK]; exact ex_t ok.ex h, h1, gv q ok (.p h2)⟩ hs
      · rename_i ps
        cases ea : atI ps i with
        | none => rw [ea] at q; exact q.elim
        | some z =>
          rw [ea] at q
          cases ra with
          | p ra =>
            cases ra with
            | lst h r =>
              obtain ⟨v', h1, h2⟩ := atI_ps r ea
              exact ix_list value slice pins s σ H _ _ v u Q I rx ry ⟨_, _, i, v', rfl, rfl, sq_of (ok.ex _ _ h), h1, gv q ok (.p h2)⟩ hs
      · rename_i k
        cases ra with
        | @cell k a hk =>
          have hl : k < st.length := by rw [← ok.len]; exact (List.getElem?_eq_some_iff.mp hk).1
          have c := ok.cell k a _ hk (List.getElem?_eq_getElem hl)
          rw [List.getElem?_eq_getElem hl] at q
          cases e : st[k] with
          | lst ws =>
            rw [e] at c
            simp only [e] at q
            obtain ⟨vs, h1, h2⟩ := c
            cases ea : atI ws i with
            | none => rw [ea] at q; exact q.elim
            | some z =>
              rw [ea] at q
              obtain ⟨v', h3, h4⟩ := atI_ws h2 ea
              exact ix_list value slice pins s σ H _ _ v u Q I rx ry ⟨_, _, i, v', rfl, rfl, sq_of h1, h3, gv q ok h4⟩ hs
          | dic ws => simp only [e] at q; exact q.elim
          | ins c ws => simp only [e] at q; exact q.elim
      · exact q.elim
  · exact q.elim
theorem se_ix {g : F2} (ho : IxR X (rOp R g)) (ha : PE X a (tE R W0 fa)) (hb : PE X b (tE R W0 fb)) (hs : PlainIx b := by exact fun _ _ => rfl) : PE X (.Subscript a b pos) (tE R W0 (cBin g fa fb)) := PE.imp (pe_ix ho ha hb hs) fun _ _ _ h => red2 h

/-! ### built-in functions -/
abbrev FN := List W → S → Option (W × S)
def rCal (R : RC) (g : FN) : List V → Hp → VK → Prop := fun vs H Q => ∃ G F m s ws, StOk R G F m s H ∧ RepWs R F m ws vs ∧ GotV R (RepW R) G F m (g ws s) Q
def cCB (g : FN) (fs : FA) : FE := fun E s => (fs E s).bind fun ws s1 => Rs.of (g ws s1)
theorem redCB {g : FN} {σ : L2.St} {H : Hp} {Q : VK} (h : tE R W0 (cCB g fs) σ H Q) : tCB (rCal R g) (tA R W0 fs) σ H Q := by
  obtain ⟨G, F, m, s, E, ok, en, q⟩ := h
  refine ⟨G, F, m, s, E, ok, en, got_bind q fun a s1 F1 m1 H1 v1 _ e1 p1 ok1 r1 q1 => ?_⟩
  exact ⟨G, F1, m1, s1, a, ok1, r1, got_of q1⟩
theorem se_callB {id : String} {x : Str} {g : FN} (hc : CallR X (.builtin id) (rCal R g)) (hg : Gl X x) (hm : X.mg x = none) (hv : bootBuiltins x = some (.builtin id)) (ha : PA X (a :: es) (tA R W0 fs)) (hn : x ≠ "__name__" := by decide) (hdb : (x == ("__debug__" : Str)) = false := by decide)
    (he : starEach (a :: es) X.env = (false, eval a X.env) :: starEach es X.env := by rfl) (hpl : (backTo pos (starEach es X.env)).any (·.1) = false := by rfl) : PE X (.Call (.Name x p) (a :: es) [] pos) (tE R W0 (cCB g fs)) :=
  PE.imp (pe_callB hc hg hm hv ha hn hdb he hpl) fun _ _ _ h => redCB h
theorem se_callTy {id : String} {x : Str} {g : FN} (hc : CallR X (.type id) (rCal R g)) (hg : Gl X x) (hm : X.mg x = none) (hv : bootBuiltins x = some (.type id)) (ha : PA X (a :: es) (tA R W0 fs)) (hn : x ≠ "__name__" := by decide) (hdb : (x == ("__debug__" : Str)) = false := by decide)
    (he : starEach (a :: es) X.env = (false, eval a X.env) :: starEach es X.env := by rfl) (hpl : (backTo pos (starEach es X.env)).any (·.1) = false := by rfl) : PE X (.Call (.Name x p) (a :: es) [] pos) (tE R W0 (cCB g fs)) :=
  PE.imp (pe_callTy hc hg hm hv ha hn hdb he hpl) fun _ _ _ h => redCB h
theorem reps1 {F : Hp} {m : List Addr} {w : W} {vs : List V} (h : RepWs R F m [w] vs) : ∃ v, vs = [v] ∧ RepW R F m w v := by
  cases h with
  | cons a b => cases b; exact ⟨_, rfl, a⟩
theorem reps2 {F : Hp} {m : List Addr} {w w' : W} {vs : List V} (h : RepWs R F m [w, w'] vs) : ∃ v v', vs = [v, v'] ∧ RepW R F m w v ∧ RepW R F m w' v' := by
  cases h with
  | cons a b =>
    cases b with
    | cons b c => cases c; exact ⟨_, _, rfl, a, b⟩
/-- len -/
def lenN (s : S) : W → Option Nat
  | .p (.tup ps) => some ps.length
  | .p (.lst ps) => some ps.length
  | .p (.scr ps) => some ps.length
  | .p (.str x) => if x.length ≤ 16777216 then some x.length else none
  | .cell k => match s[k]? with
    | some (.lst ws) => some ws.length
    | _ => none
  | _ => none
def lenF : FN := fun ws s => match ws with
  | [w] => (lenN s w).map fun n => (.p (.int (n : Int)), s)
  | _ => none
theorem len_rep {G F : Hp} {m : List Addr} {s : S} {H : Hp} {w : W} {v : V} {n : Nat} (ok : StOk R G F m s H) (r : RepW R F m w v) (e : lenN s w = some n) :
    (∃ p ys, v = .ref p ∧ (SqL R.K H p ys ∨ SqT R.K H p ys) ∧ ys.length = n) ∨ ∃ z, v = .str z ∧ z.length ≤ sizeLine ∧ z.length = n := by
  cases r with
  | p r =>
    cases r with
    | str x =>
      unfold lenN at e
      dsimp only at e
      split at e
      · cases e
        exact .inr ⟨x, rfl, by rw [← lim_eq]; assumption, rfl⟩
      · cases e
    | tup h r => cases e; exact .inl ⟨_, _, rfl, .inr (ex_t ok.ex h), r.length.symm⟩
    | lst h r => cases e; exact .inl ⟨_, _, rfl, .inl (sq_of (ok.ex _ _ h)), r.length.symm⟩
    | scr h r => cases e; exact .inl ⟨_, _, rfl, .inl (ex_l ok.ex h), r.length.symm⟩
    | _ => cases e
  | @cell k a hk =>
    have hl : k < s.length := by rw [← ok.len]; exact (List.getElem?_eq_some_iff.mp hk).1
    have c := ok.cell k a _ hk (List.getElem?_eq_getElem hl)
    unfold lenN at e
    dsimp only at e
    rw [List.getElem?_eq_getElem hl] at e
    cases q : s[k] with
    | lst ws =>
      rw [q] at c
      simp only [q] at e
      cases e
      obtain ⟨vs, h1, h2⟩ := c
      exact .inl ⟨a, vs, rfl, .inl (sq_of h1), h2.length.symm⟩
    | dic ws => simp only [q] at e; cases e
    | ins c ws => simp only [q] at e; cases e
theorem c_len (hK : X.K = R.K) : CallR X (.builtin "len") (rCal R lenF) := by
  intro pins s σ H xs us Q I rv q
  obtain ⟨G, F, m, st, ws, ok, r, q⟩ := q
  unfold lenF at q
  split at q
  · rename_i w
    cases e : lenN st w with
    | none => rw [e] at q; exact q.elim
    | some n =>
      rw [e] at q
      obtain ⟨v, rfl, r1⟩ := reps1 r
      have fin := gv q ok (.p (.int _))
      rcases len_rep ok r1 e with ⟨p, ys, rfl, h, hn⟩ | ⟨z, rfl, h, hn⟩
      · subst hn
        exact call_len_seq pins s σ H _ us Q I rv ⟨p, ys, rfl, by rw [hK]; exact h, fin⟩
      · subst hn
        exact call_len_str pins s σ H _ us Q I rv ⟨z, rfl, h, fin⟩
  · exact q.elim
/-- list(..): att, a cell -/
def itS (s : S) : W → Option (List W)
  | .p (.tup ps) => some (ps.map .p)
  | .p (.lst ps) => some (ps.map .p)
  | .p (.scr ps) => some (ps.map .p)
  | .cell k => match s[k]? with
    | some (.lst ws) => some ws
    | _ => none
  | _ => none
theorem itS_rep {G F : Hp} {m : List Addr} {s : S} {H : Hp} {w : W} {v : V} {ws : List W} (ok : StOk R G F m s H) (r : RepW R F m w v) (e : itS s w = some ws) : ∃ p ys, v = .ref p ∧ (SqL R.K H p ys ∨ SqT R.K H p ys) ∧ RepWs R F m ws ys := by
  cases r with
  | p r =>
    cases r with
    | tup h r => cases e; exact ⟨_, _, rfl, .inr (ex_t ok.ex h), rep_map r⟩
    | lst h r => cases e; exact ⟨_, _, rfl, .inl (sq_of (ok.ex _ _ h)), rep_map r⟩
    | scr h r => cases e; exact ⟨_, _, rfl, .inl (ex_l ok.ex h), rep_map r⟩
    | _ => cases e
  | @cell k a hk =>
    have hl : k < s.length := by rw [← ok.len]; exact (List.getElem?_eq_some_iff.mp hk).1
    have c := ok.cell k a _ hk (List.getElem?_eq_getElem hl)
    unfold itS at e
    dsimp only at e
    rw [List.getElem?_eq_getElem hl] at e
    cases q : s[k] with
    | lst ws =>
      rw [q] at c
      simp only [q] at e
      cases e
      obtain ⟨vs, h1, h2⟩ := c
      exact ⟨a, vs, rfl, .inl (sq_of h1), h2⟩
    | dic ws => simp only [q] at e; cases e
    | ins c ws => simp only [q] at e; cases e
def listF (att : Bool) : FN := fun ws s => match ws with
  | [w] => match itS s w with
    | some us => lstR att us s
    | none => none
  | _ => none
theorem c_list {att : Bool} (hK : X.K = R.K) : CallR X (.type "list") (rCal R (listF att)) := by
  intro pins s σ H xs us Q I rv q
  obtain ⟨G, F, m, st, ws, ok, r, q⟩ := q
  unfold listF at q
  split at q
  · rename_i w
    cases e : itS st w with
    | none => rw [e] at q; exact q.elim
    | some us' =>
      rw [e] at q
      obtain ⟨v, rfl, r1⟩ := reps1 r
      obtain ⟨p, ys, rfl, h, r2⟩ := itS_rep ok r1 e
      exact call_list_of pins s σ H _ us Q I rv ⟨p, ys, rfl, by rw [hK]; exact h, (lstR_ok ok r2 q).2⟩
  · exact q.elim
/-- tuple(..) of a list or a tuple of plain items -/
def tupleF : FN := fun ws s => match ws with
  | [w] => match itT w with
    | some ps => some (.p (.tup ps), s)
    | none => match itL s w with
      | some us => tupR us s
      | none => none
  | _ => none
theorem itT_is {w : W} {ps : List P} (e : itT w = some ps) : w = .p (.tup ps) := by
  unfold itT at e
  split at e
  · cases e; rfl
  · cases e
theorem c_tuple (hK : X.K = R.K) : CallR X (.type "tuple") (rCal R tupleF) := by
  intro pins s σ H xs us Q I rv q
  obtain ⟨G, F, m, st, ws, ok, r, q⟩ := q
  unfold tupleF at q
  split at q
  · rename_i w
    obtain ⟨v, rfl, r1⟩ := reps1 r
    split at q
    · rename_i ps e
      obtain ⟨a, vs, rfl, h1, h2, h3⟩ := itT_rep ok r1 e
      exact call_tuple_of pins s σ H _ us Q I rv ⟨a, vs, rfl, .inr ⟨by rw [hK]; exact h1, gv q ok (.p (.tup h2 h3))⟩⟩
    · split at q
      · rename_i us' e
        obtain ⟨a, vs, rfl, h1, h2⟩ := itL_rep ok r1 e
        exact call_tuple_of pins s σ H _ us Q I rv ⟨a, vs, rfl, .inl ⟨sq_of h1, (tupR_ok ok h2 q).2⟩⟩
      · exact q.elim
  · exact q.elim
/-- int(an int | a bool) -/
def intC : FN := fun ws s => match ws with
  | [.p (.int i)] => some (.p (.int i), s)
  | [.p (.bl b)] => some (.p (.int (if b then 1 else 0)), s)
  | _ => none
theorem c_int : CallR X (.type "int") (rCal R intC) := by
  intro pins s σ H xs us Q I rv q
  obtain ⟨G, F, m, st, ws, ok, r, q⟩ := q
  unfold intC at q
  split at q
  · obtain ⟨v, rfl, r1⟩ := reps1 r
    cases r1 with
    | p r1 =>
      cases r1
      exact call_int1 pins s σ H _ us Q I rv (.inl ⟨_, rfl, gv q ok (.p (.int _))⟩)
  · obtain ⟨v, rfl, r1⟩ := reps1 r
    cases r1 with
    | p r1 =>
      cases r1
      exact call_int1 pins s σ H _ us Q I rv (.inr ⟨_, rfl, gv q ok (.p (.int _))⟩)
  · exact q.elim
end
end Sim

/-! Sim4: calls of the program's own defs. -/
namespace Sim
open PySem L2 Evl
/-! ### what a call hands back -/
def shiftW (n : Nat) : W → W
  | .p p => .p p
  | .cell k => .cell (n + k)
def shiftO (n : Nat) : O → O
  | .lst ws => .lst (ws.map (shiftW n))
  | .dic kws => .dic (kws.map fun q => (q.1, shiftW n q.2))
  | .ins c ws => .ins c (ws.map (shiftW n))
def belowW (n : Nat) : W → Bool
  | .p _ => true
  | .cell k => decide (k < n)
def belowO (n : Nat) : O → Bool
  | .lst ws => ws.all (belowW n)
  | .dic kws => kws.all fun q => belowW n q.2
  | .ins _ ws => ws.all (belowW n)
def lowOk (n : Nat) (s : S) : Bool := decide (n ≤ s.length) && (s.take n).all (belowO n)
/-- behind a call on a store of its own -/
def fin0 (att : Bool) (w : W) (s' s : S) : Rs W := match att with
  | true => .ok (shiftW s.length w) (s ++ s'.map (shiftO s.length))
  | false => match frz 0 8 s' w with
    | some p => .ok (.p p) s
    | none => .no
/-- behind a call on the caller's store -/
def fin1 (att : Bool) (w : W) (s' s : S) : Rs W := match att with
  | true => .ok w s'
  | false => match frz s.length 8 s' w with
    | some p => if lowOk s.length s' then .ok (.p p) (s'.take s.length) else .no
    | none => .no
def callR (att : Bool) (f : FF) (ws : List W) (s : S) : Rs W := match plains ws with
  | some _ => match f ws [] with
    | .ok w s' => fin0 att w s' s
    | .exc x _ => .exc x s
    | .no => .no
  | none => match f ws s with
    | .ok w s' => fin1 att w s' s
    | .exc x s' => if lowOk s.length s' then .exc x (s'.take s.length) else .no
    | .no => .no
def cCall (att : Bool) (f : FF) (fs : FA) : FE := fun E s => (fs E s).bind fun ws s1 => callR att f ws s1

section
variable {R : RC} {G F F' H H' : Hp} {m m' : List Addr} {s s' : S}
theorem shift_rep {n : Nat} {mm : List Addr} (hm : ∀ (k : Nat) (a : Addr), m[k]? = some a → mm[n + k]? = some a) {w : W} {v : V} (r : RepW R F m w v) : RepW R F mm (shiftW n w) v := by
  cases r with
  | p r => exact .p r
  | cell h => exact .cell (hm _ _ h)
theorem shift_reps {n : Nat} {mm : List Addr} (hm : ∀ (k : Nat) (a : Addr), m[k]? = some a → mm[n + k]? = some a) : ∀ {ws : List W} {vs : List V}, RepWs R F m ws vs → RepWs R F mm (ws.map (shiftW n)) vs
  | _, _, .nil => .nil
  | _, _, .cons a b => .cons (shift_rep hm a) (shift_reps hm b)
theorem shift_kw {n : Nat} {mm : List Addr} (hm : ∀ (k : Nat) (a : Addr), m[k]? = some a → mm[n + k]? = some a) : ∀ {ws : List (Key × W)} {vs : List (Key × V)}, RepKw R F m ws vs → RepKw R F mm (ws.map fun q => (q.1, shiftW n q.2)) vs
  | _, _, .nil => .nil
  | _, _, .cons a b => .cons (shift_rep hm a) (shift_kw hm b)
theorem shift_o {n : Nat} {mm : List Addr} (hm : ∀ (k : Nat) (a : Addr), m[k]? = some a → mm[n + k]? = some a) {a : Addr} {o : O} (h : OOk R F m H a o) : OOk R F mm H a (shiftO n o) := by
  cases o with
  | lst ws => obtain ⟨vs, h1, h2⟩ := h; exact ⟨vs, h1, shift_reps hm h2⟩
  | dic ws => obtain ⟨vs, h1, h2⟩ := h; exact ⟨vs, h1, shift_kw hm h2⟩
  | ins c ws =>
    obtain ⟨dx, fs, h0, h1, h2, h3, h4⟩ := h
    refine ⟨dx, fs, h0, h1, ?_, ?_, shift_reps hm h4⟩
    · rw [List.length_map]; exact h2
    · rw [List.length_map]; exact h3
theorem below_rep {n : Nat} {l : List Addr} (hn : m.length = n) {w : W} {v : V} (b : belowW n w = true) (r : RepW R F (m ++ l) w v) (e : Ex F F') : RepW R F' m w v := by
  cases r with
  | p r => exact .p (r.mono e)
  | cell h =>
    have hb : _ < n := of_decide_eq_true b
    rw [List.getElem?_append_left (by omega)] at h
    exact .cell h
theorem below_reps {n : Nat} {l : List Addr} (hn : m.length = n) (e : Ex F F') : ∀ {ws : List W} {vs : List V}, ws.all (belowW n) = true → RepWs R F (m ++ l) ws vs → RepWs R F' m ws vs
  | _, _, _, .nil => .nil
  | _, _, b, .cons r rs => by
    have b' := Bool.and_eq_true_iff.mp (show (_ && _) = true from b)
    exact .cons (below_rep hn b'.1 r e) (below_reps hn e b'.2 rs)
theorem below_kw {n : Nat} {l : List Addr} (hn : m.length = n) (e : Ex F F') : ∀ {ws : List (Key × W)} {vs : List (Key × V)}, (ws.all fun q => belowW n q.2) = true → RepKw R F (m ++ l) ws vs → RepKw R F' m ws vs
  | _, _, _, .nil => .nil
  | _, _, b, .cons r rs => by
    have b' := Bool.and_eq_true_iff.mp (show (_ && _) = true from b)
    exact .cons (below_rep hn b'.1 r e) (below_kw hn e b'.2 rs)
theorem below_o {n : Nat} {l : List Addr} (hn : m.length = n) (e : Ex F F') {a : Addr} {o : O} (b : belowO n o = true) (h : OOk R F (m ++ l) H a o) : OOk R F' m H a o := by
  cases o with
  | lst ws => obtain ⟨vs, h1, h2⟩ := h; exact ⟨vs, h1, below_reps hn e b h2⟩
  | dic ws => obtain ⟨vs, h1, h2⟩ := h; exact ⟨vs, h1, below_kw hn e b h2⟩
  | ins c ws =>
    obtain ⟨dx, fs, h0, h1, h2, h3, h4⟩ := h
    exact ⟨dx, fs, h0, h1, h2, h3, below_reps hn e b h4⟩

open Classical in
/-- the known things and the cells as they stand -/
noncomputable def froz (F : Hp) (m : List Addr) (H : Hp) : Hp := fun a => if a ∈ m then H a else F a
theorem froz_in {a : Addr} (h : a ∈ m) : froz F m H a = H a := by unfold froz; rw [if_pos h]
theorem froz_out {a : Addr} (h : a ∉ m) : froz F m H a = F a := by unfold froz; rw [if_neg h]
theorem StOk.ex_froz (ok : StOk R G F m s H) {l : List Addr} (hl : ∀ a ∈ l, a ∈ m) : Ex F (froz F l H) := fun a u e => by
  rw [froz_out fun z => by rw [ok.off a (hl a z)] at e; cases e]
  exact e
theorem StOk.froz_ex (ok : StOk R G F m s H) {l : List Addr} : Ex (froz F l H) H := fun a u e => by
  by_cases h : a ∈ l
  · rw [froz_in h] at e; exact e
  · rw [froz_out h] at e; exact ok.ex a u e
theorem StOk.enter (ok : StOk R G F m s H) : StOk R (froz G m H) F [] [] H := by
  refine ⟨ok.ex, fun a u e => ?_, fun a u e => ⟨?_, by simp⟩, rfl, List.nodup_nil, by simp, by simp⟩
  · by_cases h : a ∈ m
    · rw [froz_in h] at e; exact e
    · rw [froz_out h] at e; exact ok.exG a u e
  · by_cases h : a ∈ m
    · exact ok.off a h
    · rw [froz_out h] at e; exact (ok.dis a u e).1
theorem StOk.cellG (ok : StOk R G F m s H) (ok' : StOk R (froz G m H) F' m' s' H') {a : Addr} (h : a ∈ m) : H' a = H a ∧ F' a = none ∧ a ∉ m' := by
  obtain ⟨u, hu, _⟩ := ok.at_ h
  have g : froz G m H a = some u := (froz_in h).trans hu
  exact ⟨(ok'.exG a u g).trans hu.symm, ok'.dis a u g⟩
/-- back from a call on a store of its own -/
theorem StOk.back (ok : StOk R G F m s H) (ok' : StOk R (froz G m H) F' m' s' H') (e : Ex F F') {F2 : Hp} (e2 : Ex F' F2) (e3 : Ex F2 H') (no : ∀ a, a ∉ m' → F' a = none → F2 a = none) : StOk R G F2 m s H' := by
  have gG : ∀ a u, G a = some u → froz G m H a = some u := fun a u h => (froz_out (ok.dis a u h).2).trans h
  refine ⟨e3, fun a u h => ok'.exG a u (gG a u h), fun a u h => ⟨?_, (ok.dis a u h).2⟩, ok.len, ok.nod, fun a h => ?_, fun k a o hk ho => ?_⟩
  · obtain ⟨h1, h2⟩ := ok'.dis a u (gG a u h)
    exact no a h2 h1
  · obtain ⟨_, h1, h2⟩ := ok.cellG ok' h
    exact no a h2 h1
  · exact (ok.cell k a o hk ho).mono (e.trans e2) (Pre.refl m) (ok.cellG ok' (List.mem_of_getElem? hk)).1
theorem fin0_ok (ok : StOk R G F m s H) (ok' : StOk R (froz G m H) F' m' s' H') (e : Ex F F') {att : Bool} {w : W} {v : V} {W0 : WX} {σ : L2.St} {Q : VK} (r : RepW R F' m' w v)
    (q : Got R (RepW R) W0 G F m (fin0 att w s' s) σ Q) : Q v H' := by
  unfold fin0 at q
  cases att with
  | true =>
    have hm : ∀ (k : Nat) (a : Addr), m'[k]? = some a → (m ++ m')[s.length + k]? = some a := fun k a h => by
      rw [← ok.len, List.getElem?_append_right (by omega), Nat.add_sub_cancel_left]; exact h
    refine q F' (m ++ m') H' v e ⟨m', rfl⟩ ?_ (shift_rep hm r)
    have B := ok.back ok' e (Ex.refl F') ok'.ex (fun a _ h => h)
    refine ⟨B.ex, B.exG, fun a u h => ⟨(B.dis a u h).1, fun z => ?_⟩, by simp [ok.len, ok'.len], List.nodup_append.mpr ⟨ok.nod, ok'.nod, fun a ha b hb z => (ok.cellG ok' ha).2.2 (z ▸ hb)⟩, fun a h => ?_, fun k a o hk ho => ?_⟩
    · rcases List.mem_append.mp z with z | z
      · exact (B.dis a u h).2 z
      · exact (ok'.dis a u ((froz_out (ok.dis a u h).2).trans h)).2 z
    · rcases List.mem_append.mp h with h | h
      · exact B.off a h
      · exact ok'.off a h
    · by_cases hl : k < m.length
      · rw [List.getElem?_append_left hl] at hk
        rw [List.getElem?_append_left (by rw [← ok.len]; exact hl)] at ho
        exact (B.cell k a o hk ho).mono (Ex.refl F') ⟨m', rfl⟩ rfl
      · have hl' : m.length ≤ k := Nat.le_of_not_lt hl
        rw [List.getElem?_append_right hl'] at hk
        rw [List.getElem?_append_right (by rw [← ok.len]; exact hl'), List.getElem?_map] at ho
        cases e1 : s'[k - s.length]? with
        | none => rw [e1] at ho; cases ho
        | some o' =>
          rw [e1] at ho
          cases ho
          exact shift_o hm (ok'.cell _ a o' (by rw [← ok.len]; exact hk) e1)
  | false =>
    dsimp only at q
    split at q
    · rename_i p hp
      have e2 : Ex F' (froz F' m' H') := ok'.ex_froz fun a h => h
      have B := ok.back ok' e e2 ok'.froz_ex (fun a h1 h2 => (froz_out h1).trans h2)
      exact q _ m H' v (e.trans e2) (Pre.refl m) B (.p (frz_repG ok' e2 (fun k a _ h => froz_in (List.mem_of_getElem? h)) 8 r hp))
    · exact q.elim
/-- back from a call on the caller's store: the callee's cells are known things from now on -/
theorem StOk.cut {l : List Addr} (len : m.length = s.length) (ok' : StOk R G F' (m ++ l) s' H') (lo : lowOk s.length s' = true) : StOk R G (froz F' l H') m (s'.take s.length) H' ∧ Ex F' (froz F' l H') := by
  obtain ⟨h1, h2⟩ := Bool.and_eq_true_iff.mp lo
  have h1' : s.length ≤ s'.length := of_decide_eq_true h1
  have e2 : Ex F' (froz F' l H') := ok'.ex_froz fun a h => List.mem_append_right m h
  have nd := List.nodup_append.mp ok'.nod
  have nl : ∀ a ∈ m, a ∉ l := fun a ha hl => nd.2.2 a ha a hl rfl
  refine ⟨⟨ok'.froz_ex, ok'.exG, fun a u h => ⟨?_, fun z => (ok'.dis a u h).2 (List.mem_append_left l z)⟩, by rw [List.length_take]; omega, nd.1, fun a h => ?_, fun k a o hk ho => ?_⟩, e2⟩
  · rw [froz_out fun z => (ok'.dis a u h).2 (List.mem_append_right m z)]
    exact (ok'.dis a u h).1
  · rw [froz_out (nl a h)]
    exact ok'.off a (List.mem_append_left l h)
  · have hk' : k < m.length := (List.getElem?_eq_some_iff.mp hk).1
    have ho2 : s'[k]? = some o := by
      rw [List.getElem?_take] at ho
      split at ho
      · exact ho
      · cases ho
    have c := ok'.cell k a o (by rw [List.getElem?_append_left hk']; exact hk) ho2
    exact below_o len e2 (List.all_eq_true.mp h2 o (List.mem_of_getElem? ho)) c
theorem fin1_ok (ok : StOk R G F m s H) (ok' : StOk R G F' m' s' H') (e : Ex F F') (p : Pre m m') {att : Bool} {w : W} {v : V} {W0 : WX} {σ : L2.St} {Q : VK} (r : RepW R F' m' w v)
    (q : Got R (RepW R) W0 G F m (fin1 att w s' s) σ Q) : Q v H' := by
  unfold fin1 at q
  cases att with
  | true => exact q F' m' H' v e p ok' r
  | false =>
    dsimp only at q
    split at q
    · rename_i z hz
      split at q
      · rename_i lo
        obtain ⟨l, rfl⟩ := p
        obtain ⟨B, e2⟩ := StOk.cut ok.len ok' lo
        refine q _ m H' v (e.trans e2) (Pre.refl m) B (.p (frz_repG ok' e2 (fun k a hk h => froz_in ?_) 8 r hz))
        rw [List.getElem?_append_right (by rw [ok.len]; exact hk)] at h
        exact List.mem_of_getElem? h
      · exact q.elim
    · exact q.elim
end

/-! ### promises -/
def spF (R : RC) (n : Nat) (f : FF) : Sp := fun vs H Q E => ∃ G F m s ws, StOk R G F m s H ∧ RepWs R F m ws vs ∧ ws.length = n ∧ Got R (RepW R) (fun c d _ H' => E c d H') G F m (f ws s) [] Q
theorem plains_is : ∀ {ws : List W} {ps : List P}, plains ws = some ps → ws = ps.map W.p
  | [], _, e => by cases e; rfl
  | .p p :: r, ps, e => by
    unfold plains at e
    cases q : plains r with
    | none => rw [q] at e; cases e
    | some qs =>
      rw [q] at e
      cases e
      rw [plains_is q]
      rfl
  | .cell _ :: _, _, e => by cases e
section
variable {R : RC} {G F : Hp} {m : List Addr} {s : S} {H : Hp} {W0 : WX} {σ : L2.St} {Q : VK}
theorem callR_ok {att : Bool} {f : FF} {ws : List W} {vs : List V} {n : Nat} (ok : StOk R G F m s H) (r : RepWs R F m ws vs) (hn : ws.length = n) (q : Got R (RepW R) W0 G F m (callR att f ws s) σ Q) : spF R n f vs H Q (WE W0 σ) := by
  unfold callR at q
  split at q
  · rename_i ps hp
    have e1 := plains_is hp
    refine ⟨froz G m H, F, [], [], ws, ok.enter, by rw [e1]; exact rep_map (plains_rep hp r), hn, ?_⟩
    cases e : f ws [] with
    | ok w s' =>
      rw [e] at q
      intro F' m' H' v ex _ ok' rw'
      exact fin0_ok ok ok' ex rw' q
    | exc x s' =>
      rw [e] at q
      intro F' m' H' c d ex _ ok' rx
      exact q F' m H' c d ex (Pre.refl m) (ok.back ok' ex (Ex.refl F') ok'.ex fun _ _ h => h) rx
    | no => rw [e] at q; exact q.elim
  · refine ⟨G, F, m, s, ws, ok, r, hn, ?_⟩
    cases e : f ws s with
    | ok w s' =>
      rw [e] at q
      intro F' m' H' v ex pr ok' rw'
      exact fin1_ok ok ok' ex pr rw' q
    | exc x s' =>
      rw [e] at q
      dsimp only at q
      split at q
      · rename_i lo
        intro F' m' H' c d ex pr ok' rx
        obtain ⟨l, rfl⟩ := pr
        obtain ⟨B, e2⟩ := StOk.cut ok.len ok' lo
        exact q _ m H' c d (ex.trans e2) (Pre.refl m) B (rx.mono e2)
      · exact q.elim
    | no => rw [e] at q; exact q.elim
end
section
variable {R : RC} {X : Cx} {W0 : WX} {e o : Expr} {es : List Expr} {fe fo : FE} {fs : FA} {k n : Nat} {g C : Addr} {fd : FuncData} {ps : List Str} {f : FF} {x mth : Str} {p pos apos : Pos}
/-- f(e, ..) -/
theorem se_call (att : Bool) (F : FnOk X.prog X.w X.K X.mg X.base (L2.CX X.prog X.w) k g fd ps (spF R n f)) (hr : Room k X.A) (hg : Gl X x) (hm : X.mg x = some (.ref g)) (hk : PySem.W.keepIn X.K (.ref g) = true) (hb : Binds X.K fd ps []) (tk : Takes X W0)
    (hn : (e :: es).length = n) (ha : PA X (e :: es) (tA R W0 fs)) (hdb : (x == ("__debug__" : Str)) = false := by decide) (he : starEach (e :: es) X.env = (false, eval e X.env) :: starEach es X.env := by rfl) (hpl : (backTo pos (starEach es X.env)).any (·.1) = false := by rfl)
    (hl : ∀ E s ws s', fs E s = .ok ws s' → ws.length = n) : PE X (.Call (.Name x p) (e :: es) [] pos) (tE R W0 (cCall att f fs)) :=
  PE.imp (pe_callS F hr hg hm hk hb (fun σ => passAt tk σ) ha hdb he hpl) fun σ H Q h => by
    obtain ⟨G, F, m, s, E, ok, en, q⟩ := h
    refine ⟨G, F, m, s, E, ok, en, got_bind q fun ws s1 F1 m1 H1 v1 h1 e1 p1 ok1 r1 q1 => ?_⟩
    exact callR_ok ok1 r1 (hl _ _ _ _ h1) q1
/-- C(e, ..): a new instance, a store of its own -/
def makeR (att : Bool) (c : Nat) (f : FF) (ws : List W) (s : S) : Rs W := match plains ws with
  | some _ => match f (.cell 0 :: ws) [.ins c []] with
    | .ok (.p .non) s' => fin0 att (.cell 0) s' s
    | .exc x _ => .exc x s
    | _ => .no
  | none => .no
def cMake (att : Bool) (c : Nat) (f : FF) (fs : FA) : FE := fun E s => (fs E s).bind fun ws s1 => makeR att c f ws s1
theorem makeR_ok {G F : Hp} {m : List Addr} {s : S} {H : Hp} {σ : L2.St} {Q : VK} {att : Bool} {c : Nat} (h0 : R.has c = true) {ws : List W} {vs : List V} {n : Nat} (ok : StOk R G F m s H) (r : RepWs R F m ws vs) (hn : ws.length = n) (q : Got R (RepW R) W0 G F m (makeR att c f ws s) σ Q)
    {a dx : Addr} (ha : H a = none) (hdx : H dx = none) (hne : dx ≠ a) : spF R (n + 1) f (.ref a :: vs) (upd (upd H dx (.own a)) a (.ins (R.cls c) dx [])) (fun v H2 => v = .non ∧ Q (.ref a) H2) (WE W0 σ) := by
  unfold makeR at q
  split at q
  · rename_i ps hp
    have e1 := plains_is hp
    obtain ⟨ok1, x1⟩ := ok.new (o := .own a) hdx
    have ha1 : upd H dx (.own a) a = none := by rw [upd_ne hne.symm]; exact ha
    have E1 := ok1.enter
    have e0 : froz G m (upd H dx (.own a)) = froz G m H := by
      funext b
      by_cases hb : b ∈ m
      · rw [froz_in hb, froz_in hb, upd_ne]
        obtain ⟨u, hu, _⟩ := ok.at_ hb
        exact ne_of_none hu hdx
      · rw [froz_out hb, froz_out hb]
    have E2 : StOk R (froz G m H) (upd F dx (.own a)) [a] [.ins c []] (upd (upd H dx (.own a)) a (.ins (R.cls c) dx [])) := by
      rw [e0] at E1
      exact E1.push (o := .ins c []) ha1 trivial ⟨dx, [], h0, upd_same, by simp, by simp, .nil⟩
    refine ⟨_, _, [a], [.ins c []], .cell 0 :: ws, E2, .cons (.cell rfl) (by rw [e1]; exact rep_map ((plains_rep hp r).mono x1)), by simp [hn], ?_⟩
    cases e : f (.cell 0 :: ws) [.ins c []] with
    | ok w s' =>
      rw [e] at q
      intro F' m' H' v ex pr ok' rw'
      cases w with
      | cell j => exact q.elim
      | p w =>
        cases w with
        | non =>
          cases rw' with
          | p rw' =>
            cases rw'
            exact ⟨rfl, fin0_ok ok ok' (x1.trans ex) (.cell (pr.get rfl)) q⟩
        | _ => exact q.elim
    | exc x s' =>
      rw [e] at q
      intro F' m' H' c d ex _ ok' rx
      exact q F' m H' c d (x1.trans ex) (Pre.refl m) (ok.back ok' (x1.trans ex) (Ex.refl F') ok'.ex fun _ _ h => h) rx
    | no => rw [e] at q; exact q.elim
  · exact q.elim
end
end Sim

/-! Sim5: instances. -/
namespace Sim
open PySem L2 Evl
/-- what the written part says of the classes -/
structure RcOk (R : RC) : Prop where
  cls : ∀ c, R.has c = true → Cls R.K (R.cls c)
  noat : ∀ c, R.has c = true → ∀ f ∈ fldN c, NoAttr R.K (R.cls c) f
  tyo : ∀ c, R.has c = true → PySem.W.findIn R.K (.ref (R.cls c)) "__class__" = some (some (.builtin "object.__class__")) ∧ PySem.W.specialIn R.K (.builtin "object.__class__") "__get__" = some (some (.builtin "getset_descriptor.__get__")) ∧
    PySem.W.takesIn R.K (.builtin "object.__class__") = some true ∧ PySem.W.mroIn R.K (R.cls c) (.type "object") = some true
  kitB : ∀ c, R.has c = true → ∀ n ∈ (["bool", "int", "str", "tuple", "list"] : List String), PySem.W.kitOne R.K (.ref (R.cls c)) (.type n) = some false
  kitT : ∀ t ∈ (["NoneType", "bool", "int", "str", "tuple", "list", "dict"] : List String), ∀ c, R.has c = true → PySem.W.kitOne R.K (.type t) (.ref (R.cls c)) = some false
  kitC : ∀ c c', R.has c = true → R.has c' = true → PySem.W.kitOne R.K (.ref (R.cls c)) (.ref (R.cls c')) = some (c == c')
  exm : ∀ x c, R.hax x = true → R.hax c = true → PySem.W.exmOne R.K (.ref (R.xcl x)) (.ref (R.xcl c)) = some (c == 0 || x == c)
theorem fld_lt {c i : Nat} {f : Str} (h : (fldN c)[i]? = some f) : c < 3 := by
  match c, h with
  | 0, _ => decide
  | 1, _ => decide
  | 2, _ => decide
  | c + 3, h => simp [fldN] at h
def fldIx (c : Nat) (f : Str) : Option Nat := (fldN c).findIdx? (· == f)
theorem lookup_ix {f : Str} : ∀ {fs : List (Str × V)} {i : Nat}, (fs.map (·.1)).findIdx? (· == f) = some i → ∃ v, (fs.map (·.2))[i]? = some v ∧ fs.lookup f = some v
  | [], i, h => by simp at h
  | (g, v) :: r, i, h => by
    rw [List.map_cons, List.findIdx?_cons] at h
    by_cases e : g = f
    · subst e
      simp at h
      subst h
      exact ⟨v, rfl, by simp [List.lookup]⟩
    · have e1 : (g == f) = false := by simpa using e
      have e2 : (f == g) = false := by simpa using (fun z => e z.symm)
      simp only [e1] at h
      cases q : (r.map (·.1)).findIdx? (· == f) with
      | none => rw [q] at h; cases h
      | some j =>
        rw [q] at h
        cases h
        obtain ⟨u, h1, h2⟩ := lookup_ix q
        exact ⟨u, by simpa using h1, by simp [List.lookup, e2, h2]⟩
theorem fldIx_get {c i : Nat} {f : Str} (h : fldIx c f = some i) : (fldN c)[i]? = some f ∧ f ∈ fldN c := by
  unfold fldIx at h
  obtain ⟨h1, h2, _⟩ := List.findIdx?_eq_some_iff_getElem.mp h
  have e : (fldN c)[i] = f := by simpa using h2
  exact ⟨by rw [List.getElem?_eq_getElem h1, e], e ▸ List.getElem_mem h1⟩
theorem fldIx_take {c i n : Nat} {f : Str} (h : fldIx c f = some i) (hi : i < n) : ((fldN c).take n).findIdx? (· == f) = some i := by
  unfold fldIx at h
  obtain ⟨h1, h2, h3⟩ := List.findIdx?_eq_some_iff_getElem.mp h
  refine List.findIdx?_eq_some_iff_getElem.mpr ⟨by rw [List.length_take]; omega, by simpa using h2, fun j hj => by simpa using h3 j hj⟩
/-- o.f -/
def fldF (f : Str) : F1 := fun a s => match a with
  | .p (.ins c ps) => match fldIx c f with
    | some i => match ps[i]? with
      | some p => some (.p p, s)
      | none => none
    | none => none
  | .cell k => match s[k]? with
    | some (.ins c ws) => match fldIx c f with
      | some i => match ws[i]? with
        | some w => some (w, s)
        | none => none
      | none => none
    | _ => none
  | _ => none
section
variable {R : RC} {X : Cx} {W0 : WX} {a b e o : Expr} {fa fb fe : FE} {pos p : Pos} {es : List Expr} {fs : FA}
theorem fld_rep (T : RcOk R) {G F : Hp} {m : List Addr} {s s' : S} {H : Hp} {w w' : W} {v : V} {f : Str} (ok : StOk R G F m s H) (r : RepW R F m w v) (h : fldF f w s = some (w', s')) :
    s' = s ∧ ∃ a C dx fs u, v = .ref a ∧ H a = some (.ins C dx fs) ∧ Cls R.K C ∧ NoAttr R.K C f ∧ fs.lookup f = some u ∧ RepW R F m w' u := by
  unfold fldF at h
  split at h
  · rename_i c ps
    cases hi : fldIx c f with
    | none => rw [hi] at h; cases h
    | some i =>
      simp only [hi] at h
      cases hp : ps[i]? with
      | none => simp only [hp] at h; cases h
      | some q =>
        simp only [hp] at h
        cases h
        cases r with
        | p r =>
          cases r with
          | ins hc h1 h2 h3 =>
            obtain ⟨e1, e2⟩ := fldIx_get hi
            obtain ⟨u, l1, l2⟩ := lookup_ix (f := f) (i := i) (by rw [h2]; exact hi)
            obtain ⟨u', g1, g2⟩ := h3.get hp
            rw [l1] at g1
            cases g1
            exact ⟨rfl, _, _, _, _, u, rfl, ok.ex _ _ h1, T.cls c hc, T.noat c hc f e2, l2, .p g2⟩
  · rename_i k
    cases r with
    | @cell k a hk =>
      have hl : k < s.length := by rw [← ok.len]; exact (List.getElem?_eq_some_iff.mp hk).1
      have c := ok.cell k a _ hk (List.getElem?_eq_getElem hl)
      rw [List.getElem?_eq_getElem hl] at h
      cases q : s[k] with
      | lst ws => simp only [q] at h; cases h
      | dic ws => simp only [q] at h; cases h
      | ins c' ws =>
        rw [q] at c
        simp only [q] at h
        cases hi : fldIx c' f with
        | none => simp only [hi] at h; cases h
        | some i =>
          simp only [hi] at h
          cases hp : ws[i]? with
          | none => simp only [hp] at h; cases h
          | some w2 =>
            simp only [hp] at h
            cases h
            obtain ⟨dx, fs, hc, h1, h2, h3, h4⟩ := c
            obtain ⟨e1, e2⟩ := fldIx_get hi
            have hi' : i < ws.length := (List.getElem?_eq_some_iff.mp hp).1
            obtain ⟨u, l1, l2⟩ := lookup_ix (f := f) (i := i) (by rw [h2]; exact fldIx_take hi hi')
            obtain ⟨u', g1, g2⟩ := h4.get hp
            rw [l1] at g1
            cases g1
            exact ⟨rfl, _, _, _, _, u, rfl, h1, T.cls c' hc, T.noat c' hc f e2, l2, g2⟩
  · cases h
theorem se_fld (T : RcOk R) (hK : X.K = R.K) {f : Str} (he : PE X e (tE R W0 fe)) (hb : attributeBase e f X.env (eval e X.env) = eval e X.env := by rfl) : PE X (.Attribute e f pos) (tE R W0 (cUn (fldF f) fe)) := PE.imp (pe_fld he hb) fun σ H Q h => by
  obtain ⟨G, F, m, s, E, ok, en, q⟩ := h
  refine ⟨G, F, m, s, E, ok, en, got_bind q fun w s1 F1 m1 H1 v1 _ e1 p1 ok1 r1 q1 => ?_⟩
  cases hf : fldF f w s1 with
  | none => rw [hf] at q1; exact q1.elim
  | some z =>
    obtain ⟨w', s'⟩ := z
    rw [hf] at q1
    obtain ⟨rfl, a, C, dx, fs, u, e2, h1, h2, h3, h4, r2⟩ := fld_rep T ok1 r1 hf
    exact ⟨a, C, dx, fs, u, e2, h1, by rw [hK]; exact h2, by rw [hK]; exact h3, h4, gv (got_of q1) ok1 r2⟩
/-- the class of an instance -/
def insC (s : S) : W → Option Nat
  | .p (.ins c _) => some c
  | .cell k => match s[k]? with
    | some (.ins c _) => some c
    | _ => none
  | _ => none
theorem insC_rep {G F : Hp} {m : List Addr} {s : S} {H : Hp} {w : W} {v : V} {c : Nat} (ok : StOk R G F m s H) (r : RepW R F m w v) (h : insC s w = some c) : ∃ a dx fs, v = .ref a ∧ H a = some (.ins (R.cls c) dx fs) ∧ R.has c = true ∧ ∀ f, f ∉ fldN c → fs.lookup f = none := by
  have nolook : ∀ {fs : List (Str × V)} {l : List Str} {f : Str}, fs.map (·.1) = l → f ∉ l → fs.lookup f = none := by
    intro fs
    induction fs with
    | nil => intros; rfl
    | cons q r ih =>
      intro l f e hn
      obtain ⟨g, u⟩ := q
      subst e
      rw [List.map_cons] at hn
      have e2 : (f == g) = false := by
        have : f ≠ g := fun z => hn (by rw [z]; exact List.mem_cons_self)
        simpa using this
      simp only [List.lookup, e2]
      exact ih rfl fun z => hn (List.mem_cons_of_mem _ z)
  unfold insC at h
  split at h
  · cases h
    cases r with
    | p r =>
      cases r with
      | ins h0 h1 h2 h3 => exact ⟨_, _, _, rfl, ok.ex _ _ h1, h0, fun f hf => nolook h2 hf⟩
  · rename_i k
    cases r with
    | @cell k a hk =>
      have hl : k < s.length := by rw [← ok.len]; exact (List.getElem?_eq_some_iff.mp hk).1
      have c := ok.cell k a _ hk (List.getElem?_eq_getElem hl)
      rw [List.getElem?_eq_getElem hl] at h
      cases q : s[k] with
      | lst ws => simp only [q] at h; cases h
      | dic ws => simp only [q] at h; cases h
      | ins c' ws =>
        rw [q] at c
        simp only [q] at h
        cases h
        obtain ⟨dx, fs, h0, h1, h2, h3, h4⟩ := c
        exact ⟨a, dx, fs, rfl, h1, h0, fun f hf => nolook h2 fun z => hf (List.mem_of_mem_take z)⟩
  · cases h
/-- a call that raises nothing -/
def noX (r : Rs W) : Rs W := match r with
  | .exc _ _ => .no
  | r => r
/-- o.f, a property of the class c -/
def cProp (att : Bool) (c : Nat) (f : FF) (fe : FE) : FE := fun E s => (fe E s).bind fun w s1 => if insC s1 w = some c then noX (callR att f [w] s1) else .no
theorem got_noX {G F : Hp} {m : List Addr} {r : Rs W} {σ : L2.St} {Q : VK} {W1 : WX} (h : Got R (RepW R) W0 G F m (noX r) σ Q) : Got R (RepW R) W1 G F m r σ Q := by
  cases r with
  | ok a s => exact h
  | exc x s => exact h.elim
  | no => exact h
theorem passNo {X : Cx} : Passes (L2.CX X.prog X.w) X.nox (fun _ _ _ => False) := fun _ _ _ _ _ _ _ h => by
  obtain ⟨_, _, _, _, _, _, _, _, _, _, _, _, z⟩ := h
  exact z.elim
theorem se_prop (att : Bool) {c k : Nat} {f : Str} {g pa : Addr} {fd : FuncData} {ps : List Str} {ff : FF} (hK : X.K = R.K) (he : PE X e (tE R W0 fe)) (hc : Cls X.K (R.cls c)) (hp : PropOf X.K (R.cls c) f pa g)
    (F : FnOk X.prog X.w X.K X.mg X.base (L2.CX X.prog X.w) k g fd ps (spF R 1 ff)) (hr : Room (k + 1) X.A) (hb : Binds X.K fd ps []) (hab : attributeBase e f X.env (eval e X.env) = eval e X.env := by rfl) :
    PE X (.Attribute e f pos) (tE R W0 (cProp att c ff fe)) := PE.imp (pe_prop he hc hp F hr hb .nil passNo hab) fun σ H Q h => by
  obtain ⟨G, F, m, s, E, ok, en, q⟩ := h
  refine ⟨G, F, m, s, E, ok, en, got_bind q fun w s1 F1 m1 H1 v1 _ e1 p1 ok1 r1 q1 => ?_⟩
  split at q1
  · rename_i hi
    obtain ⟨a, dx, fs, rfl, h1, _⟩ := insC_rep ok1 r1 hi
    refine ⟨a, dx, fs, rfl, h1, ?_⟩
    exact callR_ok (W0 := fun _ _ _ _ => False) (σ := σ) ok1 (.cons r1 .nil) rfl (got_noX q1)
  · exact q1.elim
/-- C(e, ..) -/
theorem run_makeS {C f : Addr} {k : Nat} {fd : FuncData} {ps : List Str} {sp : Sp} {E : St → XK} {CX : CXT} {pins : List (Addr × Obj)} {σ : St} {H : Hp} {s : Shared} {Q : VK} {us : List Value} {vs : List V} (M : Mk X.K C f) (F : FnOk X.prog X.w X.K X.mg X.base CX k f fd ps sp) (hr : Room (k + 1) X.A) (hb : Binds X.K fd ps [])
    (hx : PassesAt CX X σ (E σ)) (I : L2.Inv X pins σ H s) (r : Vals vs us)
    (h : ∀ x dx, H x = none → H dx = none → dx ≠ x → sp (.ref x :: vs) (upd (upd H dx (.own x)) x (.ins C dx [])) (fun v H2 => v = .non ∧ Q (.ref x) H2) (E σ)) :
    wpAny (model X.prog X.w) X.A (call (.ref C) us) (EP X pins σ Q) X.xe s := by
  have hq := h (s.heap.objs.size + 1) s.heap.objs.size (I.hok.fresh (Nat.le_succ _)) (I.hok.fresh (Nat.le_refl _)) (Nat.ne_of_lt (Nat.lt_succ_self _))
  have I2 := Inv.made (C := C) I
  have r2 : Vals (V.ref (s.heap.objs.size + 1) :: vs) (Value.ref (s.heap.objs.size + 1) :: us) := .cons rfl r
  have hl : (Value.ref (s.heap.objs.size + 1) :: us).length = ps.length := by
    have e := r2.length
    rw [F.len _ _ _ _ hq] at e
    exact e.symm
  have hbb := hb _ (Value.ref (s.heap.objs.size + 1) :: us) I2.kIn (by rw [List.append_nil]; exact hl)
  rw [List.append_nil] at hbb
  refine wpAny_call (make_map (f := f) I.kIn M.makes M.init (beq_iff_eq.mp M.fn) (codeAny_mono (F.run _ X.stack _ _ ⟨Value.ref (s.heap.objs.size + 1) :: us, []⟩ (Value.ref (s.heap.objs.size + 1) :: us) _ _ (E σ) (hr.make C us [])
    (I2.env0.make C us []) hbb r2 hq) fun r s' hq' => ?_))
  cases r with
  | error e => exact hx pins _ _ e s' I2 hq'
  | ok fl =>
    cases fl with
    | ret u =>
      obtain ⟨v, H', I3, rv, ev, q3⟩ := I2.after hq'
      subst ev
      exact ⟨rv, ⟨V.ref (s.heap.objs.size + 1), H', I3, rfl, q3⟩⟩
    | next => exact False.elim hq'
    | brk => exact False.elim hq'
    | cont => exact False.elim hq'
theorem se_make (att : Bool) {c k n : Nat} (h0 : R.has c = true) {x : Str} {g : Addr} {fd : FuncData} {ps : List Str} {ff : FF} (M : Mk X.K (R.cls c) g) (F : FnOk X.prog X.w X.K X.mg X.base (L2.CX X.prog X.w) k g fd ps (spF R (n + 1) ff)) (hr : Room (k + 1) X.A) (hg : Gl X x) (hm : X.mg x = some (.ref (R.cls c))) (hb : Binds X.K fd ps []) (tk : Takes X W0)
    (ha : PA X (e :: es) (tA R W0 fs)) (hdb : (x == ("__debug__" : Str)) = false := by decide) (he : starEach (e :: es) X.env = (false, eval e X.env) :: starEach es X.env := by rfl) (hpl : (backTo pos (starEach es X.env)).any (·.1) = false := by rfl)
    (hl : ∀ E s ws s', fs E s = .ok ws s' → ws.length = n) : PE X (.Call (.Name x p) (e :: es) [] pos) (tE R W0 (cMake att c ff fs)) := by
  refine ⟨fun pins s σ H Q I h => ?_⟩
  refine wpAny_Call_Name_kw (ld_glob I hg hm ?_ hdb)
  have h2 : tA R W0 fs σ H fun vs H1 => ∀ a dx, H1 a = none → H1 dx = none → dx ≠ a → spF R (n + 1) ff (.ref a :: vs) (upd (upd H1 dx (.own a)) a (.ins (R.cls c) dx [])) (fun v H2 => v = .non ∧ Q (.ref a) H2) (WE W0 σ) := by
    obtain ⟨G, F, m, s, E, ok, en, q⟩ := h
    refine ⟨G, F, m, s, E, ok, en, got_bind q fun ws s1 F1 m1 H1 v1 h1 e1 p1 ok1 r1 q1 => ?_⟩
    intro a dx h3 h4 h5
    exact makeR_ok h0 ok1 r1 (hl _ _ _ _ h1) q1 h3 h4 h5
  refine PySem.W.callWith_K (h₀ := X.base) I.ok.mod.kin M.kp (thn (ha.run pos pins s σ H _ I h2) fun us s1 ⟨vs, H1, I1, r, q⟩ => ⟨I1.kIn, ?_⟩) he hpl
  exact run_makeS M F hr hb (passAt tk σ) I1 r q
end
end Sim

/-! Sim6: what is walked, for, list comprehensions. -/
namespace Sim
open PySem L2 Evl
/-- an iterator over these plain things -/
def Walks (R : RC) (J : It) (ps : List P) (F0 : Hp) : Prop := ∀ (G F : Hp) (m : List Addr) (s : S) (H : Hp), Ex F0 F → StOk R G F m s H → ∀ i : Nat,
  (∀ p, ps[i]? = some p → J.go i H ∧ ∀ x H', J.yld i H x H' → ∃ F', Ex F F' ∧ StOk R G F' m s H' ∧ RepP R F' p x) ∧ (ps.length ≤ i → J.stop i H)
abbrev FI := En → S → Rs (List P)
abbrev relI (R : RC) : Hp → List Addr → List P → It → Prop := fun F _ ps J => Walks R J ps F
abbrev tI (R : RC) (W : WX) (f : FI) : TI := tG R (relI R) W f
section
variable {R : RC} {X : Cx} {W0 : WX} {a b e o tg : Expr} {fa fb fe : FE} {pos p : Pos} {es : List Expr} {fs : FA}
theorem walk_list (K : PySem.W.Frag) {F0 : Hp} {a : Addr} {vs : List V} {ps : List P} (h : F0 a = some (.lst vs)) (r : RepPs R F0 ps vs) : Walks R (Itl K a) ps F0 := by
  intro G F m s H ex ok i
  have hH : SqL K H a vs := sq_of (ok.ex _ _ (ex _ _ h))
  refine ⟨fun p hp => ?_, fun hi => ⟨vs, hH, by rw [← r.length]; exact hi⟩⟩
  obtain ⟨v, hv, rv⟩ := r.get hp
  refine ⟨⟨vs, v, hH, hv⟩, fun x H' y => ?_⟩
  obtain ⟨e1, y⟩ := y
  subst e1
  have e2 := y vs hH
  rw [hv] at e2
  cases e2
  exact ⟨F, Ex.refl F, ok, rv.mono ex⟩
theorem walk_tup (K : PySem.W.Frag) {F0 : Hp} {a : Addr} {vs : List V} {ps : List P} (h : SqT K F0 a vs) (r : RepPs R F0 ps vs) : Walks R (Itt K a) ps F0 := by
  intro G F m s H ex ok i
  have hH : SqT K H a vs := ex_t ok.ex (ex_t ex h)
  refine ⟨fun p hp => ?_, fun hi => ⟨vs, hH, by rw [← r.length]; exact hi⟩⟩
  obtain ⟨v, hv, rv⟩ := r.get hp
  refine ⟨⟨vs, v, hH, hv⟩, fun x H' y => ?_⟩
  obtain ⟨e1, y⟩ := y
  subst e1
  have e2 := y vs hH
  rw [hv] at e2
  cases e2
  exact ⟨F, Ex.refl F, ok, rv.mono ex⟩
def rngP (lo : Int) (n : Nat) : List P := (List.range n).map fun (i : Nat) => P.int (lo + (i : Int))
theorem walk_rng {F0 : Hp} {lo : Int} {n : Nat} : Walks R (Itr lo n) (rngP lo n) F0 := by
  intro G F m s H ex ok i
  refine ⟨fun p hp => ?_, fun hi => by show n ≤ i; simpa [rngP] using hi⟩
  have hi : i < n := by
    have := (List.getElem?_eq_some_iff.mp hp).1
    simpa [rngP] using this
  have e : p = .int (lo + i) := by
    unfold rngP at hp
    rw [List.getElem?_map, List.getElem?_range hi] at hp
    exact (Option.some.inj hp).symm
  subst e
  refine ⟨hi, fun x H' y => ?_⟩
  obtain ⟨e1, e2⟩ := y
  subst e1 e2
  exact ⟨F, Ex.refl F, ok, .int _⟩
/-! ### what stands behind in -/
def cSeq (fe : FE) : FI := fun E s => (fe E s).bind fun w s1 => match w with
  | .p (.tup ps) => .ok ps s1
  | .p (.lst ps) => .ok ps s1
  | _ => .no
theorem si_seq (hK : X.K = R.K) (he : PE X e (tE R W0 fe)) : PI X tg e (tI R W0 (cSeq fe)) := by
  refine ⟨fun pins s σ H Rr I h => ?_⟩
  obtain ⟨G, F, m, st, E, ok, en, q⟩ := h
  cases ef : fe E st with
  | ok w s1 =>
    have q1 := q
    unfold cSeq at q1
    rw [ef] at q1
    cases w with
    | cell k => exact q1.elim
    | p w =>
      cases w with
      | tup ps =>
        refine (pi_tup (tg := tg) he).run pins s σ H Rr I ⟨G, F, m, st, E, ok, en, ?_⟩
        rw [ef]
        intro F' m' H' v e1 p1 ok1 r1
        cases r1 with
        | p r1 =>
          cases r1 with
          | tup h r =>
            exact ⟨_, rfl, ⟨_, by rw [hK]; exact ex_t ok1.ex h⟩, q1 F' m' H' _ e1 p1 ok1 (by rw [hK]; exact walk_tup R.K h r)⟩
      | lst ps =>
        refine (pi_list (tg := tg) he).run pins s σ H Rr I ⟨G, F, m, st, E, ok, en, ?_⟩
        rw [ef]
        intro F' m' H' v e1 p1 ok1 r1
        cases r1 with
        | p r1 =>
          cases r1 with
          | lst h r =>
            exact ⟨_, rfl, ⟨_, sq_of (ok1.ex _ _ h)⟩, q1 F' m' H' _ e1 p1 ok1 (walk_list X.K h r)⟩
      | _ => exact q1.elim
  | exc x s1 =>
    refine (pi_list (tg := tg) he).run pins s σ H Rr I ⟨G, F, m, st, E, ok, en, ?_⟩
    have q1 := q
    unfold cSeq at q1
    rw [ef] at q1 ⊢
    exact q1
  | no =>
    have q1 := q
    unfold cSeq at q1
    rw [ef] at q1
    exact q1.elim
def big (i : Int) : Bool := Nat.ble i.natAbs 4611686018427387903
theorem big_iff {i : Int} (h : big i = true) : -(2 ^ 62) ≤ i ∧ i < 2 ^ 62 := by
  have h1 : i.natAbs ≤ 4611686018427387903 := Nat.le_of_ble_eq_true h
  constructor <;> omega
def cRng1 (fs : FA) : FI := fun E s => (fs E s).bind fun ws s1 => match ws with
  | [.p (.int j)] => if big j then .ok (rngP 0 j.toNat) s1 else .no
  | _ => .no
def cRng2 (fs : FA) : FI := fun E s => (fs E s).bind fun ws s1 => match ws with
  | [.p (.int i), .p (.int j)] => if big i && big j then .ok (rngP i (j - i).toNat) s1 else .no
  | _ => .no
theorem si_rng1 {a : Expr} (hg : Gl X "range") (hm : X.mg "range" = none) (ha : PA X [a] (tA R W0 fs)) (hs : starEach [a] X.env = [(false, eval a X.env)] := by rfl) : PI X tg (.Call (.Name "range" p) [a] [] pos) (tI R W0 (cRng1 fs)) := by
  refine ⟨fun pins s σ H Rr I h => (pi_range1 (tg := tg) hg hm ha hs).run pins s σ H Rr I ?_⟩
  obtain ⟨G, F, m, st, E, ok, en, q⟩ := h
  refine ⟨G, F, m, st, E, ok, en, got_bind q fun ws s1 F1 m1 H1 v1 _ e1 p1 ok1 r1 q1 => ?_⟩
  split at q1
  · split at q1
    · rename_i hb
      obtain ⟨v, rfl, r2⟩ := reps1 r1
      cases r2 with
      | p r2 =>
        cases r2
        have hb' := big_iff hb
        exact ⟨_, rfl, hb'.1, hb'.2, q1 F1 m1 H1 _ (Ex.refl F1) (Pre.refl m1) ok1 walk_rng⟩
    · exact q1.elim
  · exact q1.elim
theorem si_rng2 {a b : Expr} (hg : Gl X "range") (hm : X.mg "range" = none) (ha : PA X [a, b] (tA R W0 fs)) (hs : starEach [a, b] X.env = [(false, eval a X.env), (false, eval b X.env)] := by rfl) (hs2 : starEach [b] X.env = [(false, eval b X.env)] := by rfl) :
    PI X tg (.Call (.Name "range" p) [a, b] [] pos) (tI R W0 (cRng2 fs)) := by
  refine ⟨fun pins s σ H Rr I h => (pi_range2 (tg := tg) hg hm ha hs hs2).run pins s σ H Rr I ?_⟩
  obtain ⟨G, F, m, st, E, ok, en, q⟩ := h
  refine ⟨G, F, m, st, E, ok, en, got_bind q fun ws s1 F1 m1 H1 v1 _ e1 p1 ok1 r1 q1 => ?_⟩
  split at q1
  · split at q1
    · rename_i hb
      obtain ⟨v, v', rfl, r2, r3⟩ := reps2 r1
      cases r2 with
      | p r2 =>
        cases r2
        cases r3 with
        | p r3 =>
          cases r3
          obtain ⟨h1, h2⟩ := Bool.and_eq_true_iff.mp hb
          have h1' := big_iff h1
          have h2' := big_iff h2
          exact ⟨_, _, rfl, ⟨h1'.1, h1'.2, h2'.1, h2'.2⟩, q1 F1 m1 H1 _ (Ex.refl F1) (Pre.refl m1) ok1 walk_rng⟩
    · exact q1.elim
  · exact q1.elim

/-! ### targets -/
abbrev TgF := W → En → S → Option En
/-- only slots of is have changed -/
def SetIn (is : List Nat) (σ σ' : L2.St) : Prop := ∀ vs : List Nat, (∀ i ∈ is, i ∈ vs) → wipe σ' vs = wipe σ vs
def gT (R : RC) (is : List Nat) (g : TgF) : TG := fun v σ H Q => ∃ G F m s E w, StOk R G F m s H ∧ EnvOk R F m E σ ∧ RepW R F m w v ∧ match g w E s with
  | some E' => ∀ σ', EnvOk R F m E' σ' → SetIn is σ σ' → Q σ' H
  | none => False
theorem wipe_get {σ : L2.St} : ∀ {vs : List Nat} {j : Nat}, (wipe σ vs)[j]? = if j ∈ vs then (σ[j]?).map fun _ => none else σ[j]?
  | [], j => by simp [wipe]
  | v :: vs, j => by
    unfold wipe
    by_cases e : j = v
    · subst e
      rw [if_pos List.mem_cons_self]
      by_cases hl : j < (wipe σ vs).length
      · rw [List.getElem?_set_self hl]
        rw [wipe_length] at hl
        rw [List.getElem?_eq_getElem hl]
        rfl
      · rw [List.getElem?_eq_none (by simpa using hl)]
        rw [wipe_length] at hl
        rw [List.getElem?_eq_none (by omega)]
        rfl
    · rw [List.getElem?_set_ne (Ne.symm e), wipe_get]
      by_cases h : j ∈ vs
      · rw [if_pos h, if_pos (List.mem_cons_of_mem _ h)]
      · rw [if_neg h, if_neg (by simp [e, h])]
theorem wipe_wipe {σ : L2.St} {vs : List Nat} : wipe (wipe σ vs) vs = wipe σ vs := by
  refine List.ext_getElem? fun j => ?_
  rw [wipe_get, wipe_get]
  by_cases h : j ∈ vs
  · rw [if_pos h, if_pos h, Option.map_map]
    rfl
  · rw [if_neg h, if_neg h]
theorem setIn_set {σ : L2.St} {i : Nat} {x : Option V} : SetIn [i] σ (σ.set i x) := fun vs h => by
  have hi : i ∈ vs := h i (by simp)
  refine List.ext_getElem? fun j => ?_
  rw [wipe_get, wipe_get]
  by_cases e : j = i
  · subst e
    rw [if_pos hi, if_pos hi]
    by_cases hl : j < σ.length
    · rw [List.getElem?_set_self hl, List.getElem?_eq_getElem hl]
      rfl
    · rw [List.getElem?_eq_none (by simpa using hl), List.getElem?_eq_none (by omega)]
  · rw [List.getElem?_set_ne (Ne.symm e)]
theorem SetIn.refl {is : List Nat} {σ : L2.St} : SetIn is σ σ := fun _ _ => rfl
theorem SetIn.cons {is : List Nat} {i : Nat} {σ σ' σ'' : L2.St} (h : SetIn [i] σ σ') (h' : SetIn is σ' σ'') : SetIn (i :: is) σ σ'' := fun vs hv =>
  (h' vs fun j hj => hv j (List.mem_cons_of_mem _ hj)).trans (h vs fun j hj => hv j (by simp at hj; subst hj; exact List.mem_cons_self))
theorem PG.imp {t t' : TG} (h : PG X e t) (k : ∀ v σ H Q, t' v σ H Q → t v σ H Q) : PG X e t' := ⟨fun pins s σ H v u Q I r q => h.run pins s σ H v u Q I r (k v σ H Q q)⟩
def tgN (i : Nat) : TgF := fun w E _ => some (E.set i (some w))
theorem sg_name {i : Nat} {x : Str} (hN : X.N.Nodup) (hi : X.N[i]? = some x) (hx : Loc X.env.scope x) (hf : X.fn x = true ∨ X.env.scope.names.lookup x = some .local := by first | exact .inl rfl | exact .inr rfl | assumption) : PG X (.Name x pos) (gT R [i] (tgN i)) :=
  PG.imp (pg_name hN hi hx hf) fun v σ H Q h => by
    obtain ⟨G, F, m, s, E, w, ok, en, r, q⟩ := h
    exact q _ (en.set r i) setIn_set
/-- names in a row -/
def setN : List Nat → List P → En → En
  | i :: is, p :: ps, E => setN is ps (E.set i (some (.p p)))
  | _, _, E => E
def tgT (is : List Nat) : TgF := fun w E _ => match w with
  | .p (.tup ps) => if ps.length = is.length then some (setN is ps E) else none
  | _ => none
/-- the readings of names in a row -/
def gNs : List Nat → TGs
  | [] => gNil
  | i :: is => gCons (gName i) (gNs is)
theorem gNs_run {G F : Hp} {m : List Addr} {s : S} {H : Hp} {Q : St → Hp → Prop} : ∀ {is : List Nat} {ps : List P} {vs : List V} {E : En} {σ : L2.St}, RepPs R F ps vs → ps.length = is.length → EnvOk R F m E σ →
    (∀ σ', EnvOk R F m (setN is ps E) σ' → SetIn is σ σ' → Q σ' H) → gNs is vs σ H Q
  | [], [], _, E, σ, r, _, en, k => by
    cases r
    exact ⟨rfl, k σ en SetIn.refl⟩
  | i :: is, p :: ps, _, E, σ, r, hl, en, k => by
    cases r with
    | cons a b =>
      exact ⟨_, _, rfl, gNs_run (G := G) (s := s) b (by simpa using hl) (en.set (.p a) i) fun σ' e1 e2 => k σ' e1 (SetIn.cons setIn_set e2)⟩
  | [], _ :: _, _, _, _, _, hl, _, _ => by simp at hl
  | _ :: _, [], _, _, _, _, hl, _, _ => by simp at hl
theorem sg_tup {is : List Nat} {k : Nat} {n : Nat} (hK : X.K = R.K) (hc : X.calm = true) (h : PGs X es (gNs is)) (hl : is.length = n)
    (hn : (assignEach es X.env).length = n := by rfl) (hst : (assignEach es X.env).findIdx? (·.1) = none := by rfl) : PG X (.Tuple es k pos) (gT R is (tgT is)) :=
  PG.imp (pg_tup hc h hn hst) fun v σ H Q h => by
    obtain ⟨G, F, m, s, E, w, ok, en, r, q⟩ := h
    unfold tgT at q
    split at q
    · rename_i E' hE
      split at hE
      · rename_i ps
        split at hE
        · rename_i hlen
          cases hE
          cases r with
          | p r =>
            cases r with
            | tup h1 h2 =>
              exact ⟨_, _, rfl, by rw [hK]; exact ex_t ok.ex h1, by rw [← h2.length, hlen, hl], gNs_run (G := G) (s := s) h2 hlen en q⟩
        · cases hE
      · cases hE
    · exact q.elim

/-! ### for -/
def forL (g : TgF) (body : FS) : List P → En → S → Fl
  | [], E, s => .nx E s
  | p :: ps, E, s => match g (.p p) E s with
    | none => .no
    | some E' => match body E' s with
      | .nx E1 s1 => forL g body ps E1 s1
      | .ct E1 s1 => forL g body ps E1 s1
      | .bk E1 s1 => .nx E1 s1
      | r => r
def cFor (fi : FI) (g : TgF) (body : FS) : FS := fun E s => match fi E s with
  | .ok ps s1 => forL g body ps E s1
  | .exc x s1 => .xc x E s1
  | .no => .no
theorem got_for {fi : FI} {g : TgF} {body : FS} {G F : Hp} {m : List Addr} {E : En} {s : S} {D : Ends} {σ : L2.St} (en : EnvOk R F m E σ) (q : GotS R W0 G F m (cFor fi g body E s) D) {Q : It → Hp → Prop}
    (k : ∀ ps s1 F1 m1 H1 J, Ex F F1 → Pre m m1 → StOk R G F1 m1 s1 H1 → Walks R J ps F1 → GotS R W0 G F1 m1 (forL g body ps E s1) D → Q J H1) : Got R (relI R) W0 G F m (fi E s) σ Q := by
  unfold cFor at q
  cases h : fi E s with
  | ok ps s1 =>
    rw [h] at q
    exact fun F1 m1 H1 J e1 p1 ok1 r1 => k ps s1 F1 m1 H1 J e1 p1 ok1 r1 (GotS.mono e1 p1 q)
  | exc x s1 =>
    rw [h] at q
    exact fun F1 m1 H1 c d e1 p1 ok1 r1 => q F1 m1 H1 c d σ e1 p1 ok1 (en.mono e1 p1) r1
  | no => rw [h] at q; exact q.elim
theorem ss_for {iter : Expr} {body : List Stmt} {fi : FI} {g : TgF} {is : List Nat} {fb : FS} (hp : PassesOwn (model X.prog X.w) X.A X.env X.xe) (hc : X.calm = true) (hi : PI X tg iter (tI R W0 fi)) (hg : PG X tg (gT R is g)) (hb : PSs X body (tS R W0 fb))
    (hs : ∀ x, foldedSetIterable iter X.env x = pure x := by intro _; rfl) : PS X (.For tg iter body [] pos) (tS R W0 (cFor fi g fb)) := PS.imp (ps_for hp hc hi hg hb hs) fun D σ H h => by
  obtain ⟨G, F, m, s, E, ok, en, q⟩ := h
  refine ⟨G, F, m, s, E, ok, en, got_for en q fun ps s1 F1 m1 H1 J e1 p1 ok1 wk q1 => ?_⟩
  refine ⟨fun i n σ' H' => i ≤ ps.length ∧ n = ps.length - i ∧ ∃ F2 m2 s2 E2, Ex F1 F2 ∧ StOk R G F2 m2 s2 H' ∧ EnvOk R F2 m2 E2 σ' ∧ GotS R W0 G F2 m2 (forL g fb (ps.drop i) E2 s2) D,
    ⟨ps.length, Nat.zero_le _, by simp, F1, m1, s1, E, Ex.refl F1, ok1, en.mono e1 p1, by simpa using q1⟩, ?_⟩
  rintro i n σ' H' ⟨hi', rfl, F2, m2, s2, E2, ex2, ok2, en2, q2⟩
  obtain ⟨w1, w2⟩ := wk G F2 m2 s2 H' ex2 ok2 i
  by_cases hlt : i < ps.length
  · rw [List.drop_eq_getElem_cons hlt] at q2
    obtain ⟨go, yl⟩ := w1 ps[i] (List.getElem?_eq_getElem hlt)
    refine .inr ⟨go, fun σ3 H3 => ∃ F3 m3 s3 E3, Ex F1 F3 ∧ StOk R G F3 m3 s3 H3 ∧ EnvOk R F3 m3 E3 σ3 ∧ GotS R W0 G F3 m3 (forL g fb (ps.drop (i + 1)) E3 s3) D,
      fun σ3 H3 ⟨F3, m3, s3, E3, a1, a2, a3, a4⟩ => ⟨ps.length - (i + 1), by omega, hlt, rfl, F3, m3, s3, E3, a1, a2, a3, a4⟩, fun x H3 hy => ?_⟩
    obtain ⟨F3, ex3, ok3, rx⟩ := yl x H3 hy
    refine ⟨G, F3, m2, s2, E2, .p ps[i], ok3, en2.mono ex3 (Pre.refl m2), .p rx, ?_⟩
    unfold forL at q2
    cases hg' : g (.p ps[i]) E2 s2 with
    | none => simp only [hg'] at q2; exact q2.elim
    | some E' =>
      simp only [hg'] at q2
      intro σ4 en4 _
      refine ⟨G, F3, m2, s2, E', ok3, en4, ?_⟩
      have q3 := GotS.mono ex3 (Pre.refl m2) q2
      cases hb' : fb E' s2 with
      | nx E5 s5 =>
        simp only [hb'] at q3
        exact fun F5 m5 H5 σ5 a1 a2 a3 a4 => ⟨F5, m5, s5, E5, (ex2.trans ex3).trans a1, a3, a4, GotS.mono a1 a2 q3⟩
      | ct E5 s5 =>
        simp only [hb'] at q3
        exact fun F5 m5 H5 σ5 a1 a2 a3 a4 => ⟨F5, m5, s5, E5, (ex2.trans ex3).trans a1, a3, a4, GotS.mono a1 a2 q3⟩
      | bk E5 s5 =>
        simp only [hb'] at q3
        exact q3
      | rt w s5 =>
        simp only [hb'] at q3
        exact q3
      | xc x E5 s5 =>
        simp only [hb'] at q3
        exact q3
      | no => simp only [hb'] at q3; exact q3.elim
  · have e : i = ps.length := by omega
    subst e
    refine .inl ⟨w2 (Nat.le_refl _), ?_⟩
    rw [List.drop_length] at q2
    exact q2 F2 m2 H' σ' (Ex.refl F2) (Pre.refl m2) ok2 en2

/-! ### list comprehensions -/
def Rs.bindN {α β : Type} (r : Rs α) (g : α → S → Rs β) : Rs β := match r with
  | .ok a s => g a s
  | _ => .no
def compL (g : TgF) (t : FT) (e : FE) (E : En) : List P → S → Rs (List W)
  | [], s => .ok [] s
  | p :: ps, s => match g (.p p) E s with
    | none => .no
    | some E' => (t E' s).bindN fun b s1 => match b with
      | false => compL g t e E ps s1
      | true => (e E' s1).bindN fun w s2 => (compL g t e E ps s2).bindN fun ws s3 => .ok (w :: ws) s3
def cLc (att : Bool) (fi : FI) (g : TgF) (t : FT) (e : FE) (own : List Nat) : FE := fun E s => (fi E s).bind fun ps s1 => (compL g t e (wipeE E own) ps s1).bindN fun ws s2 => Rs.of (lstR att ws s2)
abbrev WF : WX := fun _ _ _ _ => False
theorem got_bindN {α β γ δ : Type} {rel : Hp → List Addr → α → β → Prop} {rel2 : Hp → List Addr → γ → δ → Prop} {W1 W2 : WX} {G F : Hp} {m : List Addr} {r : Rs α} {g : α → S → Rs γ} {σ σ' : L2.St} {Q : β → Hp → Prop} {Q2 : δ → Hp → Prop}
    (h : Got R rel2 W1 G F m (r.bindN g) σ Q2)
    (k : ∀ a s F1 m1 H1 b, r = .ok a s → Ex F F1 → Pre m m1 → StOk R G F1 m1 s H1 → rel F1 m1 a b → Got R rel2 W1 G F1 m1 (g a s) σ Q2 → Q b H1) : Got R rel W2 G F m r σ' Q := by
  cases r with
  | ok a s => exact fun F1 m1 H1 b e q ok rp => k a s F1 m1 H1 b rfl e q ok rp (Got.mono e q (show Got R rel2 W1 G F m (g a s) σ Q2 from h))
  | exc x s => exact h.elim
  | no => exact h.elim
/-- the same where the states have a further ghost -/
theorem got_bindG {α β γ δ : Type} {rel : Hp → List Addr → α → β → Prop} {rel2 : Hp → List Addr → γ → δ → Prop} {W1 W2 : WX} {G G' F : Hp} {m : List Addr} {r : Rs α} {g : α → S → Rs γ} {σ σ' : L2.St} {Q : β → Hp → Prop} {Q2 : δ → Hp → Prop}
    (h : Got R rel2 W1 G F m (r.bindN g) σ Q2)
    (k : ∀ a s F1 m1 H1 b, r = .ok a s → Ex F F1 → Pre m m1 → StOk R G' F1 m1 s H1 → rel F1 m1 a b → Got R rel2 W1 G F1 m1 (g a s) σ Q2 → Q b H1) : Got R rel W2 G' F m r σ' Q := by
  cases r with
  | ok a s => exact fun F1 m1 H1 b e q ok rp => k a s F1 m1 H1 b rfl e q ok rp (Got.mono e q (show Got R rel2 W1 G F m (g a s) σ Q2 from h))
  | exc x s => exact h.elim
  | no => exact h.elim
theorem bindN_assoc {α β γ : Type} {r : Rs α} {f : α → S → Rs β} {g : β → S → Rs γ} : (r.bindN f).bindN g = r.bindN fun a s => (f a s).bindN g := by cases r <;> rfl
/-- the ghost told otherwise -/
theorem Got.ghost {α β : Type} {rel : Hp → List Addr → α → β → Prop} {W1 : WX} {G G' F : Hp} {m : List Addr} {r : Rs α} {σ : L2.St} {Q : β → Hp → Prop} (h : ∀ F m s H, StOk R G' F m s H → StOk R G F m s H) (q : Got R rel W1 G F m r σ Q) : Got R rel W1 G' F m r σ Q := by
  cases r with
  | ok a s => exact fun F1 m1 H1 b e p ok => q F1 m1 H1 b e p (h _ _ _ _ ok)
  | exc x s => exact fun F1 m1 H1 c d e p ok => q F1 m1 H1 c d e p (h _ _ _ _ ok)
  | no => exact q
theorem StOk.keep {G F : Hp} {m : List Addr} {s : S} {H : Hp} (ok : StOk R G F m s H) {D : Addr} {o : HO} (hD : H D = none) : StOk R (upd G D o) F m s (upd H D o) := by
  have fD : F D = none := by
    cases q : F D with
    | none => rfl
    | some u => rw [ok.ex D u q] at hD; cases hD
  have mD : D ∉ m := fun z => by
    obtain ⟨u, hu, _⟩ := ok.at_ z
    rw [hD] at hu; cases hu
  refine ⟨fun a u e => by rw [upd_ne (ne_of_none e fD)]; exact ok.ex a u e, fun a u e => ?_, fun a u e => ?_, ok.len, ok.nod, ok.off, fun k a o' hk ho => ?_⟩
  · by_cases h : a = D
    · subst h; rw [upd_same] at e ⊢; exact e
    · rw [upd_ne h] at e ⊢; exact ok.exG a u e
  · by_cases h : a = D
    · subst h; exact ⟨fD, mD⟩
    · rw [upd_ne h] at e; exact ok.dis a u e
  · exact (ok.cell k a o' hk ho).mono (Ex.refl F) (Pre.refl m) (upd_ne fun z => mD (z ▸ List.mem_of_getElem? hk))
theorem StOk.unkeep {G F : Hp} {m : List Addr} {s : S} {H : Hp} {D : Addr} {o : HO} (hG : G D = none) (ok : StOk R (upd G D o) F m s H) : StOk R G F m s H :=
  ⟨ok.ex, fun a u e => ok.exG a u (by rw [upd_ne (ne_of_none e hG)]; exact e), fun a u e => ok.dis a u (by rw [upd_ne (ne_of_none e hG)]; exact e), ok.len, ok.nod, ok.off, ok.cell⟩
theorem StOk.rekeep {G F : Hp} {m : List Addr} {s : S} {H : Hp} {D : Addr} {o o' : HO} (ok : StOk R (upd G D o) F m s H) : StOk R (upd G D o') F m s (upd H D o') := by
  obtain ⟨fD, mD⟩ := ok.dis D o upd_same
  refine ⟨fun a u e => by rw [upd_ne (ne_of_none e fD)]; exact ok.ex a u e, fun a u e => ?_, fun a u e => ?_, ok.len, ok.nod, ok.off, fun k a o' hk ho => ?_⟩
  · by_cases h : a = D
    · subst h; rw [upd_same] at e ⊢; exact e
    · rw [upd_ne h] at e ⊢; exact ok.exG a u (by rw [upd_ne h]; exact e)
  · by_cases h : a = D
    · subst h; exact ⟨fD, mD⟩
    · rw [upd_ne h] at e; exact ok.dis a u (by rw [upd_ne h]; exact e)
  · exact (ok.cell k a o' hk ho).mono (Ex.refl F) (Pre.refl m) (upd_ne fun z => mD (z ▸ List.mem_of_getElem? hk))
/-- the list that was made stands: known from now on, or a cell -/
theorem lst_end {G F : Hp} {m : List Addr} {s : S} {H : Hp} {D : Addr} {vs : List V} {ws : List W} {att : Bool} {σ : L2.St} {Q : VK} (hG : G D = none) (ok : StOk R (upd G D (.lst vs)) F m s H) (r : RepWs R F m ws vs)
    (q : Got R (RepW R) W0 G F m (Rs.of (lstR att ws s)) σ Q) : Q (.ref D) H := by
  obtain ⟨fD, mD⟩ := ok.dis D _ upd_same
  have hD : H D = some (.lst vs) := ok.exG D _ upd_same
  have ok0 := ok.unkeep hG
  have q0 := got_of q
  unfold lstR at q0
  split at q0
  · cases att with
    | true =>
      refine q0 F (m ++ [D]) H _ (Ex.refl F) ⟨[D], rfl⟩ ⟨ok0.ex, ok0.exG, fun a u e => ⟨(ok0.dis a u e).1, fun z => ?_⟩, by simp [ok0.len], List.nodup_append.mpr ⟨ok0.nod, by simp, fun a ha b hb z => ?_⟩, fun a h => ?_, fun k a o hk ho => ?_⟩ (.cell ?_)
      · rcases List.mem_append.mp z with z | z
        · exact (ok0.dis a u e).2 z
        · have : a = D := by simpa using z
          rw [this, hG] at e; cases e
      · have : b = D := by simpa using hb
        exact mD (by rw [← this, ← z]; exact ha)
      · rcases List.mem_append.mp h with h | h
        · exact ok0.off a h
        · have : a = D := by simpa using h
          rw [this]; exact fD
      · by_cases hl : k < m.length
        · rw [List.getElem?_append_left hl] at hk
          rw [List.getElem?_append_left (by rw [← ok0.len]; exact hl)] at ho
          exact (ok0.cell k a o hk ho).mono (Ex.refl F) ⟨[D], rfl⟩ rfl
        · have e1 : k = m.length := by
            have := (List.getElem?_eq_some_iff.mp hk).1
            simp at this
            omega
          subst e1
          rw [List.getElem?_append_right (Nat.le_refl _)] at hk
          rw [ok0.len, List.getElem?_append_right (Nat.le_refl _)] at ho
          simp at hk ho
          subst hk ho
          exact ⟨vs, hD, r.mono (Ex.refl F) ⟨[D], rfl⟩⟩
      · rw [← ok0.len, List.getElem?_append_right (Nat.le_refl _)]
        simp
    | false =>
      dsimp only at q0
      split at q0
      · rename_i ps hp
        have eF : Ex F (upd F D (.lst vs)) := Ex.new fD
        refine q0 (upd F D (.lst vs)) m H _ eF (Pre.refl m) ⟨fun a u e => ?_, ok0.exG, fun a u e => ⟨?_, (ok0.dis a u e).2⟩, ok0.len, ok0.nod, fun a h => ?_, fun k a o hk ho => (ok0.cell k a o hk ho).mono eF (Pre.refl m) rfl⟩ (.p (.lst upd_same ((plains_rep hp r).mono eF)))
        · by_cases h : a = D
          · subst h; rw [upd_same] at e; rw [← e]; exact hD
          · rw [upd_ne h] at e; exact ok0.ex a u e
        · rw [upd_ne (fun z => by rw [z, hG] at e; cases e)]
          exact (ok0.dis a u e).1
        · rw [upd_ne (fun z => mD (by rw [← z]; exact h))]
          exact ok0.off a h
      · exact q0.elim
  · exact q0.elim
theorem redLc {own : List (Str × Nat)} {fi : FI} {g : TgF} {is : List Nat} {ft : FT} {att : Bool} (his : ∀ i ∈ is, i ∈ own.map (·.2)) {σ : L2.St} {H : Hp} {Q : VK} (h : tE R W0 (cLc att fi g ft fe (own.map (·.2))) σ H Q) : tLc (tI R W0 fi) (gT R is g) (tT R WF ft) (tE R WF fe) (own.map (·.2)) σ H Q := by
  obtain ⟨G, F, m, s, E, ok, en, q⟩ := h
  generalize own.map (·.2) = ow at *
  refine ⟨G, F, m, s, E, ok, en, got_bind q fun ps s1 F1 m1 H1 J _ e1 p1 ok1 wk q1 => ?_⟩
  intro D hD
  have enW := (en.mono e1 p1).wipe ow
  have hGD : G D = none := by
    cases z : G D with
    | none => rfl
    | some u => rw [ok1.exG D u z] at hD; cases hD
  refine ⟨fun i n H' => i ≤ ps.length ∧ n = ps.length - i ∧ ∃ F2 m2 s2 vs ws, Ex F1 F2 ∧ Pre m1 m2 ∧ StOk R (upd G D (.lst vs)) F2 m2 s2 H' ∧ RepWs R F2 m2 ws vs ∧
      Got R (RepW R) W0 G F2 m2 ((compL g ft fe (wipeE E ow) (ps.drop i) s2).bindN fun us s3 => Rs.of (lstR att (ws ++ us) s3)) σ Q,
    ⟨ps.length, Nat.zero_le _, by simp, F1, m1, s1, [], [], Ex.refl F1, Pre.refl m1, ok1.keep hD, .nil, by simpa using q1⟩, ?_⟩
  rintro i n H' ⟨hi', rfl, F2, m2, s2, vs, ws, ex2, pr2, ok2, rw2, q2⟩
  obtain ⟨w1, w2⟩ := wk _ F2 m2 s2 H' ex2 ok2 i
  by_cases hlt : i < ps.length
  · rw [List.drop_eq_getElem_cons hlt] at q2
    obtain ⟨go, yl⟩ := w1 ps[i] (List.getElem?_eq_getElem hlt)
    refine .inr ⟨go, fun H3 => ∃ F3 m3 s3 vs ws, Ex F1 F3 ∧ Pre m1 m3 ∧ StOk R (upd G D (.lst vs)) F3 m3 s3 H3 ∧ RepWs R F3 m3 ws vs ∧
        Got R (RepW R) W0 G F3 m3 ((compL g ft fe (wipeE E ow) (ps.drop (i + 1)) s3).bindN fun us s4 => Rs.of (lstR att (ws ++ us) s4)) σ Q,
      fun H3 ⟨F3, m3, s3, vs, ws, a1, a2, a3, a4, a5⟩ => ⟨ps.length - (i + 1), by omega, hlt, rfl, F3, m3, s3, vs, ws, a1, a2, a3, a4, a5⟩, fun x H3 hy => ?_⟩
    obtain ⟨F3, ex3, ok3, rx⟩ := yl x H3 hy
    refine ⟨_, F3, m2, s2, wipeE E ow, .p ps[i], ok3, (enW.mono ex2 pr2).mono ex3 (Pre.refl m2), .p rx, ?_⟩
    unfold compL at q2
    cases hg' : g (.p ps[i]) (wipeE E ow) s2 with
    | none => simp only [hg'] at q2; exact q2.elim
    | some E' =>
      simp only [hg'] at q2
      intro σ4 en4 set4
      refine ⟨(set4 _ his).trans wipe_wipe, ?_⟩
      rw [bindN_assoc] at q2
      refine ⟨_, F3, m2, s2, E', ok3, en4, got_bindG (Got.mono ex3 (Pre.refl m2) q2) fun b s5 F5 m5 H5 b' _ e5 p5 ok5 rb q5 => ?_⟩
      cases rb
      cases b with
      | false =>
        rw [if_neg Bool.false_ne_true]
        exact ⟨F5, m5, s5, vs, ws, (ex2.trans ex3).trans e5, pr2.trans p5, ok5, rw2.mono (ex3.trans e5) p5, q5⟩
      | true =>
        rw [if_pos rfl]
        dsimp only at q5
        rw [bindN_assoc] at q5
        refine ⟨_, F5, m5, s5, E', ok5, en4.mono e5 p5, got_bindG q5 fun w s6 F6 m6 H6 v _ e6 p6 ok6 rv q6 => ?_⟩
        rw [bindN_assoc] at q6
        have rws := (rw2.mono (ex3.trans e5) p5).mono e6 p6
        have lw := rws.length
        refine ⟨vs, ok6.exG D _ upd_same, ?_, F6, m6, s6, vs ++ [v], ws ++ [w], ((ex2.trans ex3).trans e5).trans e6, (pr2.trans p5).trans p6, ok6.rekeep, rws.append (.cons rv .nil), ?_⟩
        · cases z : compL g ft fe (wipeE E ow) (ps.drop (i + 1)) s6 with
          | ok us s7 =>
            rw [z] at q6
            have q7 : Got R (RepW R) W0 G F6 m6 (Rs.of (lstR att (ws ++ w :: us) s7)) σ Q := q6
            unfold lstR at q7
            split at q7
            · rename_i hl
              rw [List.length_append, List.length_cons] at hl
              rw [← lim_eq]
              omega
            · exact q7.elim
          | exc x s7 => rw [z] at q6; exact q6.elim
          | no => rw [z] at q6; exact q6.elim
        · cases z : compL g ft fe (wipeE E ow) (ps.drop (i + 1)) s6 with
          | ok us s7 =>
            rw [z] at q6
            have q7 : Got R (RepW R) W0 G F6 m6 (Rs.of (lstR att (ws ++ w :: us) s7)) σ Q := q6
            show Got R (RepW R) W0 G F6 m6 (Rs.of (lstR att ((ws ++ [w]) ++ us) s7)) σ Q
            rw [List.append_assoc]
            exact q7
          | exc x s7 => rw [z] at q6; exact q6.elim
          | no => rw [z] at q6; exact q6.elim
  · have e : i = ps.length := by omega
    subst e
    refine .inl ⟨w2 (Nat.le_refl _), ?_⟩
    rw [List.drop_length] at q2
    have q3 : Got R (RepW R) W0 G F2 m2 (Rs.of (lstR att ws s2)) σ Q := by simpa [compL, Rs.bindN] using q2
    exact lst_end hGD ok2 rw2 q3
theorem se_lc {elt iter : Expr} {ifs : List Expr} {scope : Scope} {own : List (Str × Nat)} {fi : FI} {g : TgF} {is : List Nat} {ft : FT} (att : Bool) (hc : X.calm = true) (hN : X.N.Nodup) (hi : PI X tg iter (tI R W0 fi)) (okB : BlkOk X.N X.env.scope scope own)
    (hg : ∀ (s : Shared) (H : Hp) (C : Addr) (cl : List (Str × Addr)) (fp : List Addr), PG (X.blk s H scope (compEnvC scope cl C X.env) fp) tg (gT R is g)) (ht : ∀ (s : Shared) (H : Hp) (C : Addr) (cl : List (Str × Addr)) (fp : List Addr), PTs (X.blk s H scope (compEnvC scope cl C X.env) fp) ifs (tT R WF ft))
    (he : ∀ (s : Shared) (H : Hp) (C : Addr) (cl : List (Str × Addr)) (fp : List Addr), PE (X.blk s H scope (compEnvC scope cl C X.env) fp) elt (tE R WF fe)) (his : ∀ i ∈ is, i ∈ own.map (·.2) := by decide) (hs : ∀ x, foldedSetIterable iter X.env x = pure x := by intro _; rfl) :
    PE X (.ListComp elt [⟨tg, iter, ifs, 0⟩] scope pos) (tE R W0 (cLc att fi g ft fe (own.map (·.2)))) := PE.imp (pe_lc hc hN hi okB hg ht he hs) fun σ H Q h => redLc his h
end
end Sim

/-! Sim7: statements. -/
namespace Sim
open PySem L2 Evl
def stB {α : Type} (r : Rs α) (E : En) (k : α → S → Fl) : Fl := match r with
  | .ok a s => k a s
  | .exc x s => .xc x E s
  | .no => .no
section
variable {R : RC} {X : Cx} {W0 : WX} {a b e o tg : Expr} {fa fb fe fo fi' : FE} {pos p : Pos} {es : List Expr} {fs : FA} {st : Stmt} {sts : List Stmt} {f g : FS}
theorem gotS_bind {α β : Type} {rel : Hp → List Addr → α → β → Prop} {G F : Hp} {m : List Addr} {E : En} {r : Rs α} {k : α → S → Fl} {D : Ends} {σ : L2.St} {Q : β → Hp → Prop} (en : EnvOk R F m E σ) (q : GotS R W0 G F m (stB r E k) D)
    (kk : ∀ a s1 F1 m1 H1 b, r = .ok a s1 → Ex F F1 → Pre m m1 → StOk R G F1 m1 s1 H1 → rel F1 m1 a b → GotS R W0 G F1 m1 (k a s1) D → Q b H1) : Got R rel W0 G F m r σ Q := by
  cases r with
  | ok a s1 => exact fun F1 m1 H1 b e1 p1 ok1 r1 => kk a s1 F1 m1 H1 b rfl e1 p1 ok1 r1 (GotS.mono e1 p1 q)
  | exc x s1 => exact fun F1 m1 H1 c d e1 p1 ok1 r1 => q F1 m1 H1 c d σ e1 p1 ok1 (en.mono e1 p1) r1
  | no => exact q.elim
theorem StOk.cellAt {G F : Hp} {m : List Addr} {s : S} {H : Hp} {k : Nat} {v : V} (ok : StOk R G F m s H) (r : RepW R F m (.cell k) v) : ∃ a o, v = .ref a ∧ m[k]? = some a ∧ s[k]? = some o ∧ OOk R F m H a o := by
  cases r with
  | cell hk =>
    have hl := (List.getElem?_eq_some_iff.mp hk).1
    rw [ok.len] at hl
    exact ⟨_, _, rfl, hk, List.getElem?_eq_getElem hl, ok.cell _ _ _ hk (List.getElem?_eq_getElem hl)⟩
/-! ### blocks -/
def cNil' : FS := fun E s => .nx E s
def cSq (f g : FS) : FS := fun E s => match f E s with
  | .nx E1 s1 => g E1 s1
  | r => r
theorem ss_nil : PSs X [] (tS R W0 cNil') := PSs.imp pss_nil fun D σ H h => by
  obtain ⟨G, F, m, s, E, ok, en, q⟩ := h
  exact q F m H σ (Ex.refl F) (Pre.refl m) ok en
theorem ss_pass : PS X (.Pass pos) (tS R W0 cNil') := PS.imp ps_pass fun D σ H h => by
  obtain ⟨G, F, m, s, E, ok, en, q⟩ := h
  exact q F m H σ (Ex.refl F) (Pre.refl m) ok en
theorem ss_cons (h1 : PS X st (tS R W0 f)) (h2 : PSs X sts (tS R W0 g)) : PSs X (st :: sts) (tS R W0 (cSq f g)) := PSs.imp (pss_cons h1 h2) fun D σ H h => by
  obtain ⟨G, F, m, s, E, ok, en, q⟩ := h
  refine ⟨G, F, m, s, E, ok, en, ?_⟩
  unfold cSq at q
  cases z : f E s with
  | nx E1 s1 =>
    rw [z] at q
    exact fun F1 m1 H1 σ1 e1 p1 ok1 en1 => ⟨G, F1, m1, s1, E1, ok1, en1, GotS.mono e1 p1 q⟩
  | rt w s1 => rw [z] at q; exact q
  | bk E1 s1 => rw [z] at q; exact q
  | ct E1 s1 => rw [z] at q; exact q
  | xc x E1 s1 => rw [z] at q; exact q
  | no => rw [z] at q; exact q
theorem ss_one (h1 : PS X st (tS R W0 f)) : PSs X [st] (tS R W0 f) := pss_one h1
/-! ### small ones -/
def cSet (i : Nat) (f : FE) : FS := fun E s => stB (f E s) E fun w s1 => .nx (E.set i (some w)) s1
theorem ss_set {i : Nat} {x : Str} {pos' : Pos} (hN : X.N.Nodup) (hi : X.N[i]? = some x) (hx : Loc X.env.scope x) (he : PE X e (tE R W0 fe)) (hs : swapsWith e (some (.Name x pos')) pos.line X.env = pure false := by rfl) (hf : X.fn x = true ∨ X.env.scope.names.lookup x = some .local := by first | exact .inl rfl | exact .inr rfl | assumption) :
    PS X (.Assign [.Name x pos'] e pos) (tS R W0 (cSet i fe)) := PS.imp (ps_set hN hi hx he hs hf) fun D σ H h => by
  obtain ⟨G, F, m, s, E, ok, en, q⟩ := h
  refine ⟨G, F, m, s, E, ok, en, gotS_bind en q fun w s1 F1 m1 H1 v _ e1 p1 ok1 r1 q1 => ?_⟩
  exact q1 F1 m1 H1 _ (Ex.refl F1) (Pre.refl m1) ok1 ((en.mono e1 p1).set r1 i)
def cEx (f : FE) : FS := fun E s => stB (f E s) E fun _ s1 => .nx E s1
theorem ss_expr (he : PE X e (tE R W0 fe)) (hs : swapsWith e none pos.line X.env = pure false := by rfl) : PS X (.Expr e pos) (tS R W0 (cEx fe)) := PS.imp (ps_expr he hs) fun D σ H h => by
  obtain ⟨G, F, m, s, E, ok, en, q⟩ := h
  refine ⟨G, F, m, s, E, ok, en, gotS_bind en q fun w s1 F1 m1 H1 v _ e1 p1 ok1 r1 q1 => ?_⟩
  exact q1 F1 m1 H1 _ (Ex.refl F1) (Pre.refl m1) ok1 (en.mono e1 p1)
def cRet (f : FE) : FS := fun E s => stB (f E s) E fun w s1 => .rt w s1
theorem ss_ret (he : PE X e (tE R W0 fe)) : PS X (.Return (some e) pos) (tS R W0 (cRet fe)) := PS.imp (ps_ret he) fun D σ H h => by
  obtain ⟨G, F, m, s, E, ok, en, q⟩ := h
  refine ⟨G, F, m, s, E, ok, en, gotS_bind en q fun w s1 F1 m1 H1 v _ e1 p1 ok1 r1 q1 => ?_⟩
  exact q1 F1 m1 H1 _ (Ex.refl F1) (Pre.refl m1) ok1 r1
def cIfS (t : FT) (f g : FS) : FS := fun E s => stB (t E s) E fun b s1 => match b with
  | true => f E s1
  | false => g E s1
theorem ss_if {c : Expr} {as bs : List Stmt} {t : FT} (hc : PT X c (tT R W0 t)) (ha : PSs X as (tS R W0 f)) (hb : PSs X bs (tS R W0 g)) : PS X (.If c as bs pos) (tS R W0 (cIfS t f g)) := PS.imp (ps_if hc ha hb) fun D σ H h => by
  obtain ⟨G, F, m, s, E, ok, en, q⟩ := h
  refine ⟨G, F, m, s, E, ok, en, gotS_bind en q fun b s1 F1 m1 H1 b' _ e1 p1 ok1 r1 q1 => ?_⟩
  cases r1
  cases b with
  | true => rw [if_pos rfl]; exact ⟨G, F1, m1, s1, E, ok1, en.mono e1 p1, q1⟩
  | false => rw [if_neg Bool.false_ne_true]; exact ⟨G, F1, m1, s1, E, ok1, en.mono e1 p1, q1⟩
/-- a def's end -/
def runF (N : Nat) (f : FS) : FF := fun ws s => match f (ws.map some ++ List.replicate (N - ws.length) none) s with
  | .nx _ s1 => .ok (.p .non) s1
  | .rt w s1 => .ok w s1
  | .xc x _ s1 => .exc x s1
  | _ => .no
theorem start_env {G F : Hp} {m : List Addr} {N : List Str} {ws : List W} {vs : List V} (r : RepWs R F m ws vs) : EnvOk R F m (ws.map some ++ List.replicate (N.length - ws.length) none) (L2.start N vs) := by
  have l := r.length
  refine ⟨by simp [L2.start, l], fun i w hi => ?_⟩
  by_cases hl : i < ws.length
  · rw [List.getElem?_append_left (by simpa using hl), List.getElem?_map] at hi
    have hw : ws[i]? = some w := by
      cases z : ws[i]? with
      | none => rw [z] at hi; cases hi
      | some u => rw [z] at hi; cases hi; rfl
    obtain ⟨v, h1, h2⟩ := r.get hw
    refine ⟨v, ?_, h2⟩
    unfold L2.start
    rw [List.getElem?_append_left (by simp; omega), List.getElem?_map, h1]
    rfl
  · rw [List.getElem?_append_right (by simpa using hl)] at hi
    rw [List.getElem?_replicate] at hi
    split at hi <;> cases hi
theorem run_body {n : Nat} {N : List Str} {vs : List V} {H : Hp} {Q : VK} {E : XK} (h : spF R n (runF N.length f) vs H Q E) : tS R (fun c d _ H' => E c d H') f { nx := fun _ H' => Q .non H', rt := Q } (L2.start N vs) H := by
  obtain ⟨G, F, m, s, ws, ok, r, hn, q⟩ := h
  refine ⟨G, F, m, s, _, ok, start_env (G := G) r, ?_⟩
  unfold runF at q
  cases z : f (ws.map some ++ List.replicate (N.length - ws.length) none) s with
  | nx E1 s1 =>
    rw [z] at q
    exact fun F1 m1 H1 σ1 e1 p1 ok1 en1 => q F1 m1 H1 _ e1 p1 ok1 (.p .non)
  | rt w s1 => rw [z] at q; exact q
  | bk E1 s1 => rw [z] at q; exact q.elim
  | ct E1 s1 => rw [z] at q; exact q.elim
  | xc x E1 s1 =>
    rw [z] at q
    exact fun F1 m1 H1 c d σ1 e1 p1 ok1 en1 rx => q F1 m1 H1 c d e1 p1 ok1 rx
  | no => rw [z] at q; exact q.elim
/-! ### a, b, .. = x, y, .. -/
def setW : List Nat → List W → En → En
  | i :: is, w :: ws, E => setW is ws (E.set i (some w))
  | _, _, E => E
def cPar (is : List Nat) (fs : FA) : FS := fun E s => stB (fs E s) E fun ws s1 => if ws.length = is.length then .nx (setW is ws E) s1 else .no
theorem ss_par2 {i j : Nat} {x y : Str} {px py pt : Pos} {kt k2 pt2} (hc : X.calm = true) (hN : X.N.Nodup) (hi : X.N[i]? = some x) (hj : X.N[j]? = some y) (hij : i ≠ j)
    (hx : X.env.scope.names.lookup x = some .local) (hy : X.env.scope.names.lookup y = some .local) (ha : PA X [a, b] (tA R W0 fs))
    (hw : swappedStores [.Tuple [.Name x px, .Name y py] kt pt] (.Tuple [a, b] k2 pt2) X.env = pure (some [x, y]))
    (hs : swapsWithSole [.Tuple [.Name x px, .Name y py] kt pt] (.Tuple [a, b] k2 pt2) pos.line X.env = pure false := by rfl) :
    PS X (.Assign [.Tuple [.Name x px, .Name y py] kt pt] (.Tuple [a, b] k2 pt2) pos) (tS R W0 (cPar [i, j] fs)) := PS.imp (ps_par hc hN hi hj hij hx hy ha hw hs) fun D σ H h => by
  obtain ⟨G, F, m, s, E, ok, en, q⟩ := h
  refine ⟨G, F, m, s, E, ok, en, gotS_bind en q fun ws s1 F1 m1 H1 vs _ e1 p1 ok1 r1 q1 => ?_⟩
  split at q1
  · rename_i hl
    cases r1 with
    | nil => cases hl
    | cons ra rr =>
      cases rr with
      | nil => cases hl
      | cons rb rr =>
        cases rr with
        | nil => exact ⟨_, _, rfl, q1 F1 m1 H1 _ (Ex.refl F1) (Pre.refl m1) ok1 (((en.mono e1 p1).set ra i).set rb j)⟩
        | cons _ _ => simp at hl
  · exact q1.elim
theorem ss_par3 {c : Expr} {i j l : Nat} {x y z : Str} {px py pz pt : Pos} {kt k2 pt2} (hc : X.calm = true) (hN : X.N.Nodup) (hi : X.N[i]? = some x) (hj : X.N[j]? = some y) (hl : X.N[l]? = some z) (hij : i ≠ j) (hil : i ≠ l) (hjl : j ≠ l)
    (hx : X.env.scope.names.lookup x = some .local) (hy : X.env.scope.names.lookup y = some .local) (hz : X.env.scope.names.lookup z = some .local) (ha : PA X [a, b, c] (tA R W0 fs))
    (hw : swappedStores [.Tuple [.Name x px, .Name y py, .Name z pz] kt pt] (.Tuple [a, b, c] k2 pt2) X.env = pure (some [x, y, z]))
    (hs : swapsWithSole [.Tuple [.Name x px, .Name y py, .Name z pz] kt pt] (.Tuple [a, b, c] k2 pt2) pos.line X.env = pure false := by rfl) :
    PS X (.Assign [.Tuple [.Name x px, .Name y py, .Name z pz] kt pt] (.Tuple [a, b, c] k2 pt2) pos) (tS R W0 (cPar [i, j, l] fs)) := PS.imp (ps_par3 hc hN hi hj hl hij hil hjl hx hy hz ha hw hs) fun D σ H h => by
  obtain ⟨G, F, m, s, E, ok, en, q⟩ := h
  refine ⟨G, F, m, s, E, ok, en, gotS_bind en q fun ws s1 F1 m1 H1 vs _ e1 p1 ok1 r1 q1 => ?_⟩
  split at q1
  · rename_i hl
    cases r1 with
    | nil => cases hl
    | cons ra rr =>
      cases rr with
      | nil => cases hl
      | cons rb rr =>
        cases rr with
        | nil => cases hl
        | cons rc rr =>
          cases rr with
          | nil => exact ⟨_, _, _, rfl, q1 F1 m1 H1 _ (Ex.refl F1) (Pre.refl m1) ok1 ((((en.mono e1 p1).set ra i).set rb j).set rc l)⟩
          | cons _ _ => simp at hl
  · exact q1.elim
theorem gNs_runW {G F : Hp} {m : List Addr} {s : S} {H : Hp} {Q : St → Hp → Prop} : ∀ {is : List Nat} {ps : List W} {vs : List V} {E : En} {σ : L2.St}, RepWs R F m ps vs → ps.length = is.length → EnvOk R F m E σ →
    (∀ σ', EnvOk R F m (setW is ps E) σ' → Q σ' H) → gNs is vs σ H Q
  | [], [], _, E, σ, r, _, en, k => by
    cases r
    exact ⟨rfl, k σ en⟩
  | i :: is, p :: ps, _, E, σ, r, hl, en, k => by
    cases r with
    | cons a b =>
      exact ⟨_, _, rfl, gNs_runW (G := G) (s := s) b (by simpa using hl) (en.set a i) k⟩
  | [], _ :: _, _, _, _, _, hl, _, _ => by simp at hl
  | _ :: _, [], _, _, _, _, hl, _, _ => by simp at hl
/-- the same where a tuple is made and taken apart -/
theorem ss_parT {ts : List Expr} {is : List Nat} {n : Nat} {k k2 : Nat} {pt pt2 : Pos} (hc : X.calm = true) (ha : PA X es (tA R W0 fs)) (h : PGs X ts (gNs is)) (hl : is.length = n) (hz : n ≤ 100)
    (hn : (assignEach ts X.env).length = n := by rfl) (hst : (assignEach ts X.env).findIdx? (·.1) = none := by rfl)
    (hs : swapsWithSole [.Tuple ts k pt] (.Tuple es k2 pt2) pos.line X.env = pure false := by rfl) (hw : swappedStores [.Tuple ts k pt] (.Tuple es k2 pt2) X.env = pure none := by rfl)
    (h1 : (assignEach [.Tuple ts k pt] X.env).map (·.2) = [assign (.Tuple ts k pt) X.env] := by rfl) :
    PS X (.Assign [.Tuple ts k pt] (.Tuple es k2 pt2) pos) (tS R W0 (cPar is fs)) := PS.imp (ps_asg (pe_tup ha) (pg_tup hc h hn hst) hs hw h1) fun D σ H h => by
  obtain ⟨G, F, m, s, E, ok, en, q⟩ := h
  refine ⟨G, F, m, s, E, ok, en, gotS_bind en q fun ws s1 F1 m1 H1 vs _ e1 p1 ok1 r1 q1 => ?_⟩
  split at q1
  · rename_i hlen
    have lv := r1.length
    refine ⟨by rw [← lim_eq]; omega, fun p hp => ?_⟩
    have fp : F1 p = none := by
      cases q : F1 p with
      | none => rfl
      | some u => rw [ok1.ex p u q] at hp; cases hp
    obtain ⟨ok2, ex2⟩ := ok1.new (o := .tup vs) hp
    exact ⟨p, vs, rfl, st_of upd_same, by omega, gNs_runW (G := G) (s := s1) (r1.mono ex2 (Pre.refl m1)) hlen ((en.mono e1 p1).mono ex2 (Pre.refl m1)) fun σ' en' => q1 _ m1 _ σ' ex2 (Pre.refl m1) ok2 en'⟩
  · exact q1.elim
/-- a, b, .. = a tuple -/
def cUnp (g : TgF) (f : FE) : FS := fun E s => stB (f E s) E fun w s1 => match g w E s1 with
  | some E' => .nx E' s1
  | none => .no
theorem ss_asg {is : List Nat} {gg : TgF} (he : PE X e (tE R W0 fe)) (hg : PG X tg (gT R is gg)) (hs : swapsWithSole [tg] e pos.line X.env = pure false := by rfl) (hw : swappedStores [tg] e X.env = pure none := by rfl)
    (h1 : (assignEach [tg] X.env).map (·.2) = [assign tg X.env] := by rfl) : PS X (.Assign [tg] e pos) (tS R W0 (cUnp gg fe)) := PS.imp (ps_asg he hg hs hw h1) fun D σ H h => by
  obtain ⟨G, F, m, s, E, ok, en, q⟩ := h
  refine ⟨G, F, m, s, E, ok, en, gotS_bind en q fun w s1 F1 m1 H1 v _ e1 p1 ok1 r1 q1 => ?_⟩
  refine ⟨G, F1, m1, s1, E, w, ok1, en.mono e1 p1, r1, ?_⟩
  cases z : gg w E s1 with
  | none => simp only [z] at q1; exact q1.elim
  | some E' =>
    simp only [z] at q1
    exact fun σ' en' _ => q1 F1 m1 H1 σ' (Ex.refl F1) (Pre.refl m1) ok1 en'
/-! ### stores -/
abbrev FSt := W → W → W → S → Option S
def rSt (R : RC) (g : FSt) : TSet := fun o i v H Q => ∃ G F m s a b c, StOk R G F m s H ∧ RepW R F m a o ∧ RepW R F m b i ∧ RepW R F m c v ∧ match g a b c s with
  | some s' => ∀ H', StOk R G F m s' H' → Q H'
  | none => False
def cSub (g : FSt) (fe fo fi : FE) : FS := fun E s => stB (fe E s) E fun v s1 => stB (fo E s1) E fun o s2 => stB (fi E s2) E fun i s3 => match g o i v s3 with
  | some s4 => .nx E s4
  | none => .no
theorem ss_sub {i : Expr} {fi : FE} {gs : FSt} {tpos : Pos} (hp : PSet X (rSt R gs)) (he : PE X e (tE R W0 fe)) (ho : PE X o (tE R W0 fo)) (hi : PE X i (tE R W0 fi))
    (ha : ∀ v, assign (.Subscript o i tpos) X.env v = (do
      let ov ← holding [v] (eval o X.env)
      let iv ← holding [v, ov] (eval i X.env)
      standAt tpos
      holding [v, ov, iv] (setItem ov iv v)
      release [v, ov, iv] []) := by intro _; rfl)
    (hs : swapsWithSole [.Subscript o i tpos] e pos.line X.env = pure false := by rfl) (hw : swappedStores [.Subscript o i tpos] e X.env = pure none := by rfl)
    (h1 : (assignEach [.Subscript o i tpos] X.env).map (·.2) = [assign (.Subscript o i tpos) X.env] := by rfl) : PS X (.Assign [.Subscript o i tpos] e pos) (tS R W0 (cSub gs fe fo fi)) :=
  PS.imp (ps_asg he (pg_sub ho hi hp ha) hs hw h1) fun D σ H h => by
    obtain ⟨G, F, m, s, E, ok, en, q⟩ := h
    refine ⟨G, F, m, s, E, ok, en, gotS_bind en q fun w s1 F1 m1 H1 v _ e1 p1 ok1 r1 q1 => ?_⟩
    refine ⟨G, F1, m1, s1, E, ok1, en.mono e1 p1, gotS_bind (en.mono e1 p1) q1 fun w2 s2 F2 m2 H2 v2 _ e2 p2 ok2 r2 q2 => ?_⟩
    refine ⟨G, F2, m2, s2, E, ok2, (en.mono e1 p1).mono e2 p2, gotS_bind ((en.mono e1 p1).mono e2 p2) q2 fun w3 s3 F3 m3 H3 v3 _ e3 p3 ok3 r3 q3 => ?_⟩
    refine ⟨G, F3, m3, s3, w2, w3, w, ok3, r2.mono e3 p3, r3, (r1.mono e2 p2).mono e3 p3, ?_⟩
    cases z : gs w2 w3 w s3 with
    | none => simp only [z] at q3; exact q3.elim
    | some s4 =>
      simp only [z] at q3
      exact fun H' ok4 => q3 F3 m3 H' σ (Ex.refl F3) (Pre.refl m3) ok4 (((en.mono e1 p1).mono e2 p2).mono e3 p3)
/-- xs[i] = v -/
def setL : FSt := fun o i v s => match o, i with
  | .cell k, .p (.int j) => match s[k]? with
    | some (.lst ws) => match ixN ws.length j with
      | some n => some (s.set k (.lst (ws.set n v)))
      | none => none
    | _ => none
  | _, _ => none
theorem o_setL : PSet X (rSt R setL) := by
  intro pins s σ H o i v ov iv u Q I ro ri rv q
  obtain ⟨G, F, m, st, a, b, c, ok, ra, rb, rc, q⟩ := q
  unfold setL at q
  split at q
  · rename_i s' hs'
    split at hs'
    · rename_i k j
      cases ra with
      | @cell k a hk =>
        have hl : k < st.length := by rw [← ok.len]; exact (List.getElem?_eq_some_iff.mp hk).1
        have cc := ok.cell k a _ hk (List.getElem?_eq_getElem hl)
        rw [List.getElem?_eq_getElem hl] at hs'
        cases z : st[k] with
        | lst ws =>
          rw [z] at cc
          simp only [z] at hs'
          obtain ⟨vs, h1, h2⟩ := cc
          cases zi : ixN ws.length j with
          | none => rw [zi] at hs'; cases hs'
          | some n =>
            rw [zi] at hs'
            cases hs'
            cases rb with
            | p rb =>
              cases rb
              refine set_list pins s σ H _ _ v ov iv u Q I ro ri rv ⟨a, vs, j, n, rfl, rfl, h1, by rw [← h2.length]; exact zi, ?_⟩
              exact q _ (ok.set hk ⟨_, upd_same, h2.set rc n⟩)
        | dic ws => simp only [z] at hs'; cases hs'
        | ins c ws => simp only [z] at hs'; cases hs'
    · cases hs'
  · exact q.elim
/-- o.f = v -/
def stoF (f : Str) : W → W → S → Option S := fun o v s => match o with
  | .cell k => match s[k]? with
    | some (.ins c ws) => match fldIx c f with
      | some i => if i < ws.length then some (s.set k (.ins c (ws.set i v))) else if i = ws.length then some (s.set k (.ins c (ws ++ [v]))) else none
      | none => none
    | _ => none
  | _ => none
def cFldS (f : Str) (fe fo : FE) : FS := fun E s => stB (fe E s) E fun v s1 => stB (fo E s1) E fun o s2 => match stoF f o v s2 with
  | some s3 => .nx E s3
  | none => .no
theorem putF_at {f : Str} {v : V} : ∀ {fs : List (Str × V)} {i : Nat}, (fs.map (·.1)).findIdx? (· == f) = some i → (putF f v fs).map (·.1) = fs.map (·.1) ∧ (putF f v fs).map (·.2) = (fs.map (·.2)).set i v
  | [], _, h => by simp at h
  | (g, x) :: r, i, h => by
    rw [List.map_cons, List.findIdx?_cons] at h
    by_cases e : g = f
    · subst e
      simp at h
      subst h
      simp [putF]
    · have e1 : (g == f) = false := by simpa using e
      simp only [e1] at h
      cases q : (r.map (·.1)).findIdx? (· == f) with
      | none => rw [q] at h; cases h
      | some j =>
        rw [q] at h
        cases h
        obtain ⟨h1, h2⟩ := putF_at (v := v) q
        simp [putF, e, h1, h2]
theorem putF_new {f : Str} {v : V} : ∀ {fs : List (Str × V)}, f ∉ fs.map (·.1) → putF f v fs = fs ++ [(f, v)]
  | [], _ => rfl
  | (g, x) :: r, h => by
    rw [List.map_cons, List.mem_cons, not_or] at h
    unfold putF
    rw [if_neg (fun z => h.1 z.symm), putF_new h.2]
    rfl
theorem ss_fld (T : RcOk R) (hK : X.K = R.K) {f : Str} {pos' : Pos} (ha : PE X o (tE R W0 fo)) (hv : PE X e (tE R W0 fe)) (hs : swapsWith e (some (.Attribute o f pos')) pos.line X.env = pure false := by rfl) : PS X (.Assign [.Attribute o f pos'] e pos) (tS R W0 (cFldS f fe fo)) :=
  PS.imp (ps_fld ha hv hs) fun D σ H h => by
    obtain ⟨G, F, m, s, E, ok, en, q⟩ := h
    refine ⟨G, F, m, s, E, ok, en, gotS_bind en q fun w s1 F1 m1 H1 v _ e1 p1 ok1 r1 q1 => ?_⟩
    refine ⟨G, F1, m1, s1, E, ok1, en.mono e1 p1, gotS_bind (en.mono e1 p1) q1 fun w2 s2 F2 m2 H2 v2 _ e2 p2 ok2 r2 q2 => ?_⟩
    cases z : stoF f w2 w s2 with
    | none => simp only [z] at q2; exact q2.elim
    | some s3 =>
      simp only [z] at q2
      unfold stoF at z
      split at z
      · obtain ⟨a, ob, rfl, hk, hsk, cc⟩ := ok2.cellAt r2
        rw [hsk] at z
        · cases ob with
          | lst ws => cases z
          | dic ws => cases z
          | ins c ws =>
            dsimp only at z
            obtain ⟨dx, fs, hc, h1, h2, h3, h4⟩ := cc
            cases zi : fldIx c f with
            | none => rw [zi] at z; cases z
            | some i =>
              simp only [zi] at z
              obtain ⟨g1, g2⟩ := fldIx_get zi
              have hc3 := fld_lt g1
              have lfs : fs.length = ws.length := by
                have := congrArg List.length h2
                simp at this
                omega
              have few : (fldN c).length < 1000 := by
                match c, hc3 with
                | 0, _ => decide
                | 1, _ => decide
                | 2, _ => decide
              have rv := r1.mono e2 p2
              refine ⟨a, R.cls c, dx, fs, rfl, h1, by rw [hK]; exact T.cls c hc, by rw [hK]; exact T.noat c hc f g2, by omega, ?_⟩
              split at z
              · rename_i hi
                cases z
                obtain ⟨k1, k2⟩ := putF_at (f := f) (v := v) (fs := fs) (i := i) (by rw [h2]; exact fldIx_take zi hi)
                refine q2 F2 m2 _ σ (Ex.refl F2) (Pre.refl m2) (ok2.set hk ⟨dx, _, hc, upd_same, by rw [k1, h2, List.length_set], by rw [List.length_set]; exact h3, ?_⟩) ((en.mono e1 p1).mono e2 p2)
                rw [k2]
                exact h4.set rv i
              · split at z
                · rename_i hn he
                  cases z
                  have hlen : i < (fldN c).length := (List.getElem?_eq_some_iff.mp g1).1
                  have nf : f ∉ fs.map (·.1) := by
                    rw [h2]
                    intro hm
                    obtain ⟨j, hj⟩ := List.getElem?_of_mem hm
                    obtain ⟨hj1, hj2⟩ := List.getElem?_eq_some_iff.mp hj
                    rw [List.length_take] at hj1
                    rw [List.getElem_take] at hj2
                    unfold fldIx at zi
                    obtain ⟨u1, u2, u3⟩ := List.findIdx?_eq_some_iff_getElem.mp zi
                    have := u3 j (by omega)
                    simp [hj2] at this
                  refine q2 F2 m2 _ σ (Ex.refl F2) (Pre.refl m2) (ok2.set hk ⟨dx, _, hc, upd_same, ?_, by rw [List.length_append]; simp; omega, ?_⟩) ((en.mono e1 p1).mono e2 p2)
                  · rw [putF_new nf, List.map_append, h2, List.length_append, ← he]
                    obtain ⟨u1, u2⟩ := List.getElem?_eq_some_iff.mp g1
                    simp [List.take_add_one, g1]
                  · rw [putF_new nf, List.map_append]
                    exact h4.append (.cons rv .nil)
                · cases z
      · cases z
end
end Sim

/-! Sim8: raise, try. -/
namespace L2
open PySem PySem.Spec PyProof.Rows
/-- what clauses 'except x as n' wish of an exception of the body, one after the other -/
def wManyA (K : PySem.W.Frag) (Wout : WX) (D : Ends) : List (Value × Nat × (Addr → Value → Option Addr → TS)) → WX
  | [] => Wout
  | (c, i, ts) :: r => fun cls d σ H => ∃ b, PySem.W.exmOne K cls c = some b ∧
      (b = true → ∀ a, H a = none → ts a cls d { nx := fun σ' H' => D.nx (σ'.set i none) H', rt := D.rt, bk := fun σ' H' => D.bk (σ'.set i none) H', ct := fun σ' H' => D.ct (σ'.set i none) H' } (σ.set i (some (.ref a))) H) ∧
      (b = false → wManyA K Wout D r cls d σ H)
inductive HdsA (X : Cx) : List ExceptHandler → List (Value × Nat × (Addr → Value → Option Addr → TS)) → Prop
  | nil : HdsA X [] []
  | cons {x n : Str} {c : Value} {i : Nat} {ts : Addr → Value → Option Addr → TS} {b₀ : Stmt} {suite : List Stmt} {np pos' : Pos} {hds : List ExceptHandler} {l : List (Value × Nat × (Addr → Value → Option Addr → TS))} (hc : Names X x c)
      (hi : X.N[i]? = some n) (hln : X.env.kindOf n = some .local)
      (hsu : ∀ (a : Addr) (oe : Obj) (cls : Value) (d : Option Addr) (pn : List (Addr × Obj)), Zc cls d oe → (∃ vs, oe.data = .fields vs) → PSs (X.suite a ((a, oe) :: pn)) (b₀ :: suite) (ts a cls d)) (r : HdsA X hds l) :
      HdsA X (.ExceptHandler (some (.Name x np)) (some n) (b₀ :: suite) pos' :: hds) ((c, i, ts) :: l)
section
variable {X : Cx} {body : List Stmt} {h₀ : ExceptHandler} {hds : List ExceptHandler} {l : List (Value × Nat × (Addr → Value → Option Addr → TS))} {pos : Pos} {tb : WX → TS} {Wout : WX}
theorem ps_try_manyA (hs : X.stack = X.env :: X.outer) (hf : X.env.frame = some X.env.locals) (hN : X.N.Nodup) (tk : Takes X Wout)
    (hb : ∀ (W : WX) (pn : List (Addr × Obj)) (xe : Value → Shared → Prop), Takes (X.tr pn xe) W → PassesOwn (model X.prog X.w) X.A X.env xe → PSs (X.tr pn xe) body (tb W))
    (hh : HdsA X (h₀ :: hds) l) : PS X (.Try body (h₀ :: hds) [] [] pos) (fun D σ H => tb (wManyA X.K Wout D l) D σ H) := by
  refine ⟨fun pins s σ H D I h => ?_⟩
  have ok := I.ok
  have hfr : X.A.frames = some (X.env :: X.outer) := by rw [ok.frames, hs]
  refine wpAny_Try_except ?_
  refine wpAny_mono ((hb (wManyA X.K Wout D l) (X.pn ++ pins) (fun e s₁ => wpAny (model X.prog X.w) X.A (noteFrame e X.env) (fun _ s₂ => wpAny (model X.prog X.w) X.A (setFlight e none) (fun _ s₃ =>
    wpAny (model X.prog X.w) X.A (handleBy e X.env (h₀ :: hds)) (SP X pins D) X.xe s₃) X.xe s₂) X.xe s₁) (fun u s' xx => ?_) PassesOwn.looking).run [] s σ H D (I.toTry _) h) (fun f s1 hsp => ?_) (fun e s1 he => he)
  · obtain ⟨a, B, sI, pins', σ', H', cls, d, rfl, J', nb, up, sky, na, os, ag, w⟩ := xx
    have J : Inv X pins σ' H' sI := J'.ofTry ok
    have sky' : Sky B (X.env :: X.outer) a (Zc cls d) X.env.locals s'.heap := by rw [← hs]; exact sky
    show wpAny (model X.prog X.w) X.A (noteFrame (.ref a) X.env) _ _ _
    refine Sky.land Zc.steady hfr hf sky' fun h3 fl3 up3 => ?_
    have J3 : Inv X pins σ' H' { s' with heap := h3 } := J.landed nb fl3.1 (up.trans up3) os ag
    obtain ⟨oe3, vs3, he3, hz3, hd3⟩ := fl3.there
    have notFr : ∀ {h : Heap} {o : Obj} {vs : Array Value}, h.FunFrames B (X.env :: X.outer) → h.get? a = some o → o.data = .fields vs → a ∉ frs (X.env :: X.outer) := fun {h o vs} ff e dd hm => by
      obtain ⟨_, o', e', hnf⟩ := ff.mem hm
      rw [e] at e'; cases e'
      exact hnf _ dd
    have nfr := notFr fl3.2.2.1 he3 hd3
    have nL : a ≠ X.env.locals := fun z => nfr (List.mem_filterMap.mpr ⟨X.env, List.mem_cons_self, by rw [hf, z]⟩)
    have nF : a ∉ X.fs := fun hm => by
      obtain ⟨e, he, q⟩ := List.mem_filterMap.mp hm
      exact nfr (List.mem_filterMap.mpr ⟨e, List.mem_cons_of_mem _ he, q⟩)
    have S3 := J3.suite he3 hd3 na nL nF
    have go : ∀ {hds' : List ExceptHandler} {l' : List (Value × Nat × (Addr → Value → Option Addr → TS))}, HdsA X hds' l' → wManyA X.K Wout D l' cls d σ' H' →
        wpAny (model X.prog X.w) X.A (handleBy (.ref a) X.env hds') (SP X pins D) X.xe { s' with heap := h3 } := by
      intro hds' l' hk
      induction hk with
      | nil =>
        intro w
        refine wpAny_handleBy_nil ?_
        obtain ⟨k1, k2, k3, oe, vs, T, oT, ts', he, hz, hd, h1, hr⟩ := id fl3
        unfold PySem.passOn
        refine wpAny_bind (wpAny_field he hd h1 ?_)
        rw [if_neg (show ¬ ((Value.ref T == Value.none) = true) from by simp)]
        have fin : wpAny (model X.prog X.w) X.A (setFlight (.ref a) X.env.frame) (fun _ s4 => wpAny (model X.prog X.w) X.A (throw (.ref a) : Sem Flow) (SP X pins D) X.xe s4) X.xe { s' with heap := h3 } := by
          rw [hf]
          refine HandSPX.setFlight_upZ fl3 fun h4 hh4 up4 => wpAny_throw (tk _ _ ?_)
          exact ⟨a, B, sI, pins, σ', H', cls, d, rfl, J, nb, (up.trans up3).trans up4, .inr (.inr (by rw [hs]; exact hh4)), na, os, ag, w⟩
        first
          | exact wpAny_bind (wpAny_pure (wpAny_bind fin))
          | exact wpAny_bind fin
      | @cons x n c i ts b₀ suite np pos' hds2 l2 hc hi hln hsu r ih =>
        intro w
        obtain ⟨b, hb1, hyes, hno⟩ := w
        refine wpAny_handleBy_cons (codeAny_handlers_test ?_) (by intro q; cases q)
        have LT : PySem.W.Looks (model X.prog X.w) h3 (typeOf (.ref a)) cls := fun A Q E s k q => wpAny_typeOf_ref (k _ _ he3) (by rw [hz3.1]; exact q)
        have LM := PySem.W.exm_one (M := model X.prog X.w) (J3.kIn) LT hb1
        have test : ∀ {Q : Value → Shared → Prop} {E : Value → Shared → Prop}, Q c { s' with heap := h3 } → wpAny (model X.prog X.w) (X.A.mark (some (.ref a))) (eval (.Name x np) X.env) Q E { s' with heap := h3 } := fun {Q E} q => by
          obtain ⟨hg, hdbg, hm | ⟨hm, hv, hnn⟩⟩ := hc
          · exact ld_glob (X := X.suite a ((a, oe3) :: (X.pn ++ pins))) S3 hg hm q hdbg
          · exact ld_blt (X := X.suite a ((a, oe3) :: (X.pn ++ pins))) S3 hg hm hv q hnn hdbg
        refine test (LM.here ?_)
        cases b with
        | true =>
          refine codeAny_handlers_suite_as ?_
          refine HandSPX.lands_againZ fl3 fun h4 fl4 up4 => ?_
          have J4 : Inv X pins σ' H' { s' with heap := h4 } := J.landed nb fl4.1 ((up.trans up3).trans up4) os ag
          obtain ⟨oe4, vs4, he4, hz4, hd4⟩ := fl4.there
          have S4 := J4.suite he4 hd4 na nL nF
          refine store_ok (X := X.suite a ((a, oe4) :: (X.pn ++ pins))) (v := .ref a) S4 hN hi (.inl hln) rfl (fun s5 S5 => ?_) (.inr hln)
          refine wpAny_mono ((hsu a oe4 cls d (X.pn ++ pins) hz4 ⟨_, hd4⟩).run [] s5 _ H' _ S5 (hyes rfl a na)) (fun f s6 hsp => ?_) (fun _ _ z => False.elim z)
          have end_ : ∀ {σ6 : St} {H6 : Hp} {Q : Shared → Prop}, Inv (X.suite a ((a, oe4) :: (X.pn ++ pins))) [] σ6 H6 s6 → (∀ s7, Inv X pins (σ6.set i none) H6 s7 → Q s7) →
              wpAny (model X.prog X.w) X.A (do bindName X.env n .none; unbindBehindTheSuite X.env n pos') (fun _ s7 => Q s7) X.xe s6 := fun {σ6 H6 Q} S6 hq => gone_ok (S6.unsuite ok) hN hi hln hq
          cases f with
          | next =>
            obtain ⟨σ6, H6, S6, q6⟩ := hsp
            exact end_ S6 fun s7 J7 => ⟨_, _, J7, q6⟩
          | brk =>
            obtain ⟨σ6, H6, S6, q6⟩ := hsp
            exact end_ S6 fun s7 J7 => ⟨_, _, J7, q6⟩
          | cont =>
            obtain ⟨σ6, H6, S6, q6⟩ := hsp
            exact end_ S6 fun s7 J7 => ⟨_, _, J7, q6⟩
          | ret u =>
            obtain ⟨v6, σ6, H6, S6, r6, q6⟩ := hsp
            exact end_ S6 fun s7 J7 => ⟨_, _, _, J7, r6, q6⟩
        | false =>
          show wpAny _ X.A (handleBy (.ref a) X.env hds2) _ _ _
          exact ih (hno rfl)
    exact go hh w
  · cases f with
    | next =>
      obtain ⟨σ', H', J', q⟩ := hsp
      exact wpAny_execs_nil ⟨σ', H', J'.ofTry ok, q⟩
    | brk =>
      obtain ⟨σ', H', J', q⟩ := hsp
      exact ⟨σ', H', J'.ofTry ok, q⟩
    | cont =>
      obtain ⟨σ', H', J', q⟩ := hsp
      exact ⟨σ', H', J'.ofTry ok, q⟩
    | ret u =>
      obtain ⟨v, σ', H', J', r, q⟩ := hsp
      exact ⟨v, σ', H', J'.ofTry ok, r, q⟩
end
end L2
namespace Sim
open PySem L2 Evl
section
variable {R : RC} {X : Cx} {W0 : WX} {e : Expr} {pos p : Pos} {es : List Expr}
/-- raise X('..') -/
def cRaise (c : Nat) : FS := fun E s => .xc ⟨c, []⟩ E s
theorem ss_raise {c : Nat} {x mm : Str} {j : Nat} {p2 pos' : Pos} (h0 : R.hax c = true) (hK : X.K = R.K) (hc : X.calm = true) (tk : Takes X W0) (q : PySem.W.excIn X.K (R.xcl c) [.type "ValueError", .type "Exception", .type "BaseException", .type "object"] "ValueError.__new__" = true) (gC : X.mg x = some (.ref (R.xcl c))) (kC : PySem.W.keepIn X.K (.ref (R.xcl c)) = true) (r : Raises X (.ref (R.xcl c))) (hg : Gl X x)
    (hdb : (x == ("__debug__" : Str)) = false := by decide) : PS X (.Raise (some (.Call (.Name x p) [.Constant (.str mm) j p2] [] pos)) none pos') (tS R W0 (cRaise c)) :=
  PS.imp (ps_raise hc tk (pmk_own PySem.F.excBase_ValueError q gC kC r hg hdb)) fun D σ H h => by
    obtain ⟨G, F, m, s, E, ok, en, q⟩ := h
    exact q F m H _ none σ (Ex.refl F) (Pre.refl m) ok en ⟨rfl, h0, .inl ⟨rfl, rfl⟩⟩
/-- is the error x one of the class c -/
def isX (x c : Nat) : Bool := c == 0 || x == c
abbrev HdF := Nat × Nat × (Xc → FS)
def hdl : List HdF → Xc → FS
  | [], x, E, s => .xc x E s
  | (c, i, f) :: r, x, E, s => if isX x.c c then if i < E.length then match f x (E.set i none) s with
      | .nx E2 s2 => .nx (E2.set i none) s2
      | .rt w s2 => .rt w s2
      | _ => .no
      else .no
    else hdl r x E s
def cTry (body : FS) (hs : List HdF) : FS := fun E s => match body E s with
  | .xc x E1 s1 => hdl hs x E1 s1
  | r => r
/-- what a suite does with the error -/
def tX (R : RC) (a : Addr) (i : Nat) (cls : Value) (d : Option Addr) (f : Xc → FS) : TS := fun D σ H => ∃ x G F m s E, σ[i]? = some (some (.ref a)) ∧ StOk R G F m s H ∧ EnvOk R F m E σ ∧ RepX R F x cls d ∧ GotS R WF G F m (f x E s) D
theorem EnvOk.unset {F : Hp} {m : List Addr} {E : En} {σ : L2.St} (h : EnvOk R F m E σ) (i : Nat) (v : Option V) : EnvOk R F m (E.set i none) (σ.set i v) := by
  refine ⟨by simp [h.len], fun j w' hj => ?_⟩
  by_cases e : j = i
  · subst e
    by_cases hl : j < E.length
    · rw [List.getElem?_set_self hl] at hj
      cases hj
    · rw [List.getElem?_eq_none (by simpa using hl)] at hj; cases hj
  · rw [List.getElem?_set_ne (Ne.symm e)] at hj
    rw [List.getElem?_set_ne (Ne.symm e)]
    exact h.at_ j w' hj
inductive HdsF (R : RC) (X : Cx) : List ExceptHandler → List HdF → Prop
  | nil : HdsF R X [] []
  | cons {x n : Str} {c i : Nat} {f : Xc → FS} {b₀ : Stmt} {suite : List Stmt} {np pos' : Pos} {hds : List ExceptHandler} {l : List HdF} (hc : Names X x (.ref (R.xcl c)))
      (hi : X.N[i]? = some n) (hln : X.env.kindOf n = some .local)
      (hsu : ∀ (a : Addr) (oe : Obj) (cls : Value) (d : Option Addr) (pn : List (Addr × Obj)), Zc cls d oe → (∃ vs, oe.data = .fields vs) → PSs (X.suite a ((a, oe) :: pn)) (b₀ :: suite) (tX R a i cls d f)) (r : HdsF R X hds l) :
      HdsF R X (.ExceptHandler (some (.Name x np)) (some n) (b₀ :: suite) pos' :: hds) ((c, i, f) :: l)
def hdsV (R : RC) (l : List HdF) : List (Value × Nat × (Addr → Value → Option Addr → TS)) := l.map fun h => (.ref (R.xcl h.1), h.2.1, fun a cls d => tX R a h.2.1 cls d h.2.2)
theorem HdsF.to {hds : List ExceptHandler} {l : List HdF} (h : HdsF R X hds l) : HdsA X hds (hdsV R l) := by
  induction h with
  | nil => exact .nil
  | cons hc hi hln hsu r ih => exact .cons hc hi hln hsu ih
def goodX (R : RC) : List HdF → Bool
  | [] => true
  | h :: r => R.hax h.1 && goodX R r
theorem hdl_ok (T : RcOk R) (hK : X.K = R.K) {D : Ends} {G F : Hp} {m : List Addr} {E : En} {s : S} {H : Hp} {σ : L2.St} {x : Xc} {cls : Value} {d : Option Addr} (ok : StOk R G F m s H) (en : EnvOk R F m E σ) (rx : RepX R F x cls d) :
    ∀ (l : List HdF), goodX R l = true → GotS R W0 G F m (hdl l x E s) D → wManyA X.K W0 D (hdsV R l) cls d σ H
  | [], _, q => q F m H cls d σ (Ex.refl F) (Pre.refl m) ok en rx
  | (c, i, f) :: r, hg, q => by
    obtain ⟨g1, g2⟩ := Bool.and_eq_true_iff.mp hg
    have ec := rx.1
    refine ⟨isX x.c c, by rw [hK, ec]; exact T.exm x.c c rx.2.1 g1, fun hb a ha => ?_, fun hb => ?_⟩
    · unfold hdl at q
      rw [if_pos hb] at q
      split at q
      case isFalse => exact q.elim
      rename_i hil
      refine ⟨x, G, F, m, s, E.set i none, List.getElem?_set_self (by rw [← en.len]; exact hil), ok, EnvOk.unset en i (some (.ref a)), rx, ?_⟩
      show GotS R WF G F m (f x (E.set i none) s) _
      cases z : f x (E.set i none) s with
      | nx E2 s2 =>
        rw [z] at q
        exact fun F2 m2 H2 σ2 e2 p2 ok2 en2 => q F2 m2 H2 _ e2 p2 ok2 (EnvOk.unset en2 i none)
      | rt w s2 => rw [z] at q; exact q
      | bk E2 s2 => rw [z] at q; exact q.elim
      | ct E2 s2 => rw [z] at q; exact q.elim
      | xc x E2 s2 => rw [z] at q; exact q.elim
      | no => rw [z] at q; exact q.elim
    · unfold hdl at q
      rw [hb, if_neg Bool.false_ne_true] at q
      exact hdl_ok T hK ok en rx r g2 q
theorem ss_try {body : List Stmt} {h₀ : ExceptHandler} {hds : List ExceptHandler} {fb : FS} {l : List HdF} (T : RcOk R) (hK : X.K = R.K) (hs : X.stack = X.env :: X.outer) (hf : X.env.frame = some X.env.locals) (hN : X.N.Nodup) (tk : Takes X W0)
    (hb : ∀ (W : WX) (pn : List (Addr × Obj)) (xe : Value → Shared → Prop), Takes (X.tr pn xe) W → PassesOwn (model X.prog X.w) X.A X.env xe → PSs (X.tr pn xe) body (tS R W fb))
    (hh : HdsF R X (h₀ :: hds) l) (hg : goodX R l = true) : PS X (.Try body (h₀ :: hds) [] [] pos) (tS R W0 (cTry fb l)) :=
  PS.imp (ps_try_manyA (tb := fun W => tS R W fb) hs hf hN tk hb hh.to) fun D σ H h => by
    obtain ⟨G, F, m, s, E, ok, en, q⟩ := h
    refine ⟨G, F, m, s, E, ok, en, ?_⟩
    unfold cTry at q
    cases z : fb E s with
    | nx E2 s2 => simp only [z] at q; exact q
    | rt w s2 => simp only [z] at q; exact q
    | bk E2 s2 => simp only [z] at q; exact q
    | ct E2 s2 => simp only [z] at q; exact q
    | no => simp only [z] at q; exact q
    | xc x E2 s2 =>
      simp only [z] at q
      exact fun F2 m2 H2 c d σ2 e2 p2 ok2 en2 rx => hdl_ok T hK ok2 en2 rx l hg (GotS.mono e2 p2 q)
end
end Sim

/-! Sim9: isinstance, own ==, *, append, what a suite says of its error. -/
namespace Sim
open PySem L2 Evl
/-! ### types -/
def tagO : O → Sum String Nat
  | .lst _ => .inl "list"
  | .dic _ => .inl "dict"
  | .ins c _ => .inr c
def tag (s : S) : W → Option (Sum String Nat)
  | .p .non => some (.inl "NoneType")
  | .p (.bl _) => some (.inl "bool")
  | .p (.int _) => some (.inl "int")
  | .p (.str _) => some (.inl "str")
  | .p (.tup _) => some (.inl "tuple")
  | .p (.lst _) => some (.inl "list")
  | .p (.dic _) => some (.inl "dict")
  | .p (.ins c _) => some (.inr c)
  | .cell k => s[k]?.map tagO
  | _ => none
/-- a built-in type's answer -/
def isB (t n : String) : Bool := t == n || (t == "bool" && n == "int")
def tagNames : List String := ["NoneType", "bool", "int", "str", "tuple", "list", "dict"]
def tyNames : List String := ["bool", "int", "str", "tuple", "list"]
theorem isB_ok : ∀ t ∈ tagNames, ∀ n ∈ tyNames, kitB t n = some (isB t n) := by decide +kernel
section
variable {R : RC} {X : Cx} {W0 : WX} {a b e o : Expr} {fa fb fe fo : FE} {pos p : Pos} {es : List Expr} {fs : FA}
theorem tag_rep (T : RcOk R) {G F : Hp} {m : List Addr} {s : S} {H : Hp} {w : W} {v : V} {t : Sum String Nat} (ok : StOk R G F m s H) (r : RepW R F m w v) (h : tag s w = some t) :
    match t with
    | .inl n => n ∈ tagNames ∧ TyX R.K H v (.type n)
    | .inr c => R.has c = true ∧ TyX R.K H v (.ref (R.cls c)) := by
  cases r with
  | p r =>
    cases r with
    | non => cases h; exact ⟨by decide, .base .non⟩
    | bl b => cases h; exact ⟨by decide, .base (.bl b)⟩
    | int i => cases h; exact ⟨by decide, .base (.int i)⟩
    | str x => cases h; exact ⟨by decide, .base (.str x)⟩
    | tup hh r =>
      cases h
      refine ⟨by decide, ?_⟩
      have h' := ex_t ok.ex hh
      rcases h' with (h' | ⟨o, h'⟩) | ⟨o, its, n, hk, hc, _⟩
      · exact .base (.tup h')
      · exact .fTuple h'
      · exact .kTuple hk hc
    | lst hh r => cases h; exact ⟨by decide, .base (.lst (ok.ex _ _ hh))⟩
    | scr hh r => cases h
    | dic hh r => cases h; exact ⟨by decide, .base (.dK (ok.ex _ _ hh))⟩
    | ins h0 h1 h2 h3 =>
      cases h
      obtain ⟨t1, t2, t3, t4⟩ := T.tyo _ h0
      exact ⟨h0, .base (.ins (ok.ex _ _ h1) (T.cls _ h0) t1 t2 t3 t4)⟩
    | fn k => cases h
  | cell hk =>
    obtain ⟨a, ob, e1, hk', hs, cc⟩ := ok.cellAt (.cell hk)
    unfold tag at h
    dsimp only at h
    rw [hs] at h
    cases ob with
    | lst ws =>
      cases h
      obtain ⟨vs, h1, _⟩ := cc
      cases e1
      exact ⟨by decide, .base (.lst h1)⟩
    | dic ws =>
      cases h
      obtain ⟨vs, h1, _⟩ := cc
      cases e1
      exact ⟨by decide, .base (.dK h1)⟩
    | ins c ws =>
      cases h
      obtain ⟨dx, fs, h0, h1, _⟩ := cc
      obtain ⟨t1, t2, t3, t4⟩ := T.tyo _ h0
      cases e1
      exact ⟨h0, .base (.ins h1 (T.cls _ h0) t1 t2 t3 t4)⟩
/-- isinstance(x, a built-in type) -/
def isTyF (n : String) : F1 := fun w s => match tag s w with
  | some (.inl t) => some (.p (.bl (isB t n)), s)
  | some (.inr _) => some (.p (.bl false), s)
  | none => none
/-- isinstance(x, an own class) -/
def isCF (c : Nat) : F1 := fun w s => match tag s w with
  | some (.inl _) => some (.p (.bl false), s)
  | some (.inr c') => some (.p (.bl (c' == c)), s)
  | none => none
theorem se_isTy (T : RcOk R) (hK : X.K = R.K) {n : String} {x : Str} {p1 p2 : Pos} (hn : n ∈ tyNames) (hg : Gl X "isinstance") (hm : X.mg "isinstance" = none) (hgx : Gl X x) (hmx : X.mg x = none) (hvx : bootBuiltins x = some (.type n)) (ha : PE X a (tE R W0 fa))
    (hnx : x ≠ "__name__" := by decide) (hdx : (x == ("__debug__" : Str)) = false := by decide)
    (he : starEach (a :: [.Name x p2]) X.env = (false, eval a X.env) :: starEach [.Name x p2] X.env := by rfl) (hpl : (backTo pos (starEach [.Name x p2] X.env)).any (·.1) = false := by rfl) :
    PE X (.Call (.Name "isinstance" p1) [a, .Name x p2] [] pos) (tE R W0 (cUn (isTyF n) fa)) :=
  PE.imp (pe_callB call_isi hg hm (by decide +kernel) (pa_cons ha (pa_cons (pe_bltn (v := .ty n) hgx hmx hvx rfl hnx hdx) pa_nil) he) (by decide) (by decide) he hpl) fun σ H Q h => by
    obtain ⟨G, F, m, s, E, ok, en, q⟩ := h
    refine ⟨G, F, m, s, E, ok, en, got_bind q fun w s1 F1 m1 H1 v _ e1 p1 ok1 r1 q1 => ?_⟩
    have q2 := got_of q1
    unfold isTyF at q2
    cases z : tag s1 w with
    | none => rw [z] at q2; exact q2.elim
    | some t =>
      rw [z] at q2
      have tr := tag_rep T ok1 r1 z
      cases t with
      | inl t =>
        obtain ⟨t1, t2⟩ := tr
        exact ⟨v, .ty n, .type t, .type n, isB t n, rfl, .ty n, by rw [hK]; exact t2, kit_ty (isB_ok t t1 n hn), gv q2 ok1 (.p (.bl _))⟩
      | inr c =>
        obtain ⟨t1, t2⟩ := tr
        exact ⟨v, .ty n, .ref (R.cls c), .type n, false, rfl, .ty n, by rw [hK]; exact t2, by rw [hK]; exact T.kitB c t1 n hn, gv q2 ok1 (.p (.bl _))⟩
theorem se_isC (T : RcOk R) (hK : X.K = R.K) {c : Nat} {x : Str} {p1 p2 : Pos} (h0 : R.has c = true) (hg : Gl X "isinstance") (hm : X.mg "isinstance" = none) (hgx : Gl X x) (hmx : X.mg x = some (.ref (R.cls c))) (ha : PE X a (tE R W0 fa))
    (hdx : (x == ("__debug__" : Str)) = false := by decide)
    (he : starEach (a :: [.Name x p2]) X.env = (false, eval a X.env) :: starEach [.Name x p2] X.env := by rfl) (hpl : (backTo pos (starEach [.Name x p2] X.env)).any (·.1) = false := by rfl) :
    PE X (.Call (.Name "isinstance" p1) [a, .Name x p2] [] pos) (tE R W0 (cUn (isCF c) fa)) :=
  PE.imp (pe_callB call_isi hg hm (by decide +kernel) (pa_cons ha (pa_cons (pe_glob (v := .ref (R.cls c)) hgx hmx rfl hdx) pa_nil) he) (by decide) (by decide) he hpl) fun σ H Q h => by
    obtain ⟨G, F, m, s, E, ok, en, q⟩ := h
    refine ⟨G, F, m, s, E, ok, en, got_bind q fun w s1 F1 m1 H1 v _ e1 p1 ok1 r1 q1 => ?_⟩
    have q2 := got_of q1
    unfold isCF at q2
    cases z : tag s1 w with
    | none => rw [z] at q2; exact q2.elim
    | some t =>
      rw [z] at q2
      have tr := tag_rep T ok1 r1 z
      cases t with
      | inl t =>
        obtain ⟨t1, t2⟩ := tr
        exact ⟨v, .ref (R.cls c), .type t, .ref (R.cls c), false, rfl, .own _, by rw [hK]; exact t2, by rw [hK]; exact T.kitT t t1 c h0, gv q2 ok1 (.p (.bl _))⟩
      | inr c' =>
        obtain ⟨t1, t2⟩ := tr
        exact ⟨v, .ref (R.cls c), .ref (R.cls c'), .ref (R.cls c), c' == c, rfl, .own _, by rw [hK]; exact t2, by rw [hK]; exact T.kitC c' c t1 h0, gv q2 ok1 (.p (.bl _))⟩
/-! ### own == -/
/-- what stands on the right is asked only behind the own __eq__ -/
def NotFirst (R : RC) (c : Nat) : Prop := (∀ t ∈ tagNames, PySem.W.notFirst R.K (R.cls c) (.type t) = true) ∧ ∀ c', R.has c' = true → PySem.W.notFirst R.K (R.cls c) (.ref (R.cls c')) = true
def eqO (neg : Bool) (c : Nat) (f : FF) : F2 := fun a b s => if insC s a = some c then match tag s b with
    | some _ => match callR false f [a, b] s with
      | .ok (.p (.bl r)) s' => some (.p (.bl (if neg then !r else r)), s')
      | _ => none
    | none => none
  else none
theorem o_eqO (T : RcOk R) (hK : X.K = R.K) {c k : Nat} {f : FF} {g : Addr} {fd : FuncData} {ps : List Str} (nf : NotFirst R c) (hs : PySem.W.findIn X.K (.ref (R.cls c)) "__eq__" = some (some (.ref g))) (hf : PySem.W.isFn X.K (.ref g) = true)
    (F : FnOk X.prog X.w X.K X.mg X.base (L2.CX X.prog X.w) k g fd ps (spF R 2 f)) (hr : Room k X.A) (hb : Binds X.K fd ps []) : OpR X (compareOp .Eq) (rOp R (eqO false c f)) := by
  intro pins s σ H x y v u Q I rx ry q
  obtain ⟨G, F', m, st, wa, wb, ok, ra, rb, q⟩ := q
  unfold eqO at q
  split at q
  · rename_i hi
    cases z : tag st wb with
    | none => rw [z] at q; exact q.elim
    | some t =>
      simp only [z] at q
      obtain ⟨a, dx, fs, rfl, h1, h0, _⟩ := insC_rep ok ra hi
      cases rx
      show wpAny (model X.prog X.w) X.A (richCompare .Eq (.ref a) u) (EP X pins σ Q) X.xe s
      obtain ⟨mA, J, _⟩ := ins_get I.hok h1
      obtain ⟨od, J, _⟩ := J.look
      obtain ⟨mm, hF⟩ := I.fr
      have tr := tag_rep T ok rb z
      obtain ⟨tb, hty, hnf⟩ : ∃ tb, TyX X.K H y tb ∧ PySem.W.notFirst X.K (R.cls c) tb = true := by
        cases t with
        | inl t => exact ⟨_, by rw [hK]; exact tr.2, by rw [hK]; exact nf.1 t tr.1⟩
        | inr c' => exact ⟨_, by rw [hK]; exact tr.2, by rw [hK]; exact nf.2 c' tr.1⟩
      obtain ⟨PP, Z, pp, _⟩ := kit_of I ry hty
      refine PySem.W.cmp_K (op := .Eq) (tb := tb) hr.units0 hF I.ok.mod.kin J (Z.ty _ _ I.kIn pp) hnf hs hf ?_
      have hsp : spF R 2 f [.ref a, y] H (fun v' H' => ∃ r, v' = .bl r ∧ Q v' H') (fun _ _ _ => False) := by
        refine callR_ok (att := false) (W0 := fun _ _ _ _ => False) (σ := σ) ok (.cons ra (.cons rb .nil)) rfl ?_
        cases w : callR false f [wa, wb] st with
        | ok w' s' =>
          rw [w] at q
          intro F2 m2 H2 v2 e2 p2 ok2 r2
          cases w' with
          | cell j => exact q.elim
          | p w' =>
            cases w' with
            | bl r =>
              cases r2 with
              | p r2 =>
                cases r2
                exact ⟨r, rfl, q F2 m2 H2 _ e2 p2 ok2 (.p (.bl _))⟩
            | _ => exact q.elim
        | exc x s' => rw [w] at q; exact q.elim
        | no => rw [w] at q; exact q.elim
      have r2 : Vals [V.ref a, y] [Value.ref a, u] := .cons rfl (.cons ry .nil)
      have hl := F.len _ _ _ _ hsp
      refine wpAny_call (codeAny_mono (F.run X.A X.stack s H ⟨[.ref a, u], []⟩ [.ref a, u] [.ref a, y] _ _ hr I.env0 (by
        have := hb s [.ref a, u] I.kIn (by simpa using hl)
        simpa using this) r2 hsp) fun r s' hq => ?_)
      cases r with
      | error e => exact False.elim (passNo (X := X) pins σ H s e s' (I.wish _) hq)
      | ok fl =>
        cases fl with
        | ret w =>
          obtain ⟨v', H', I', rz, ⟨r, ez, ex⟩⟩ := I.after hq
          subst ez
          cases rz
          exact ⟨.bl r, H', I', rfl, ex⟩
        | next => exact False.elim hq
        | brk => exact False.elim hq
        | cont => exact False.elim hq
  · exact q.elim
/-! ### * -/
def mulF : F2 := fun a b s => match a, b with
  | .p (.int i), .p (.int j) => if small i || small j then some (.p (.int (i * j)), s) else none
  | _, _ => none
theorem o_mul : OpR X (binaryOp .Mult) (rOp R mulF) := by
  intro pins s σ H x y v u Q I rx ry q
  obtain ⟨G, F, m, st, a, b, ok, ra, rb, q⟩ := q
  unfold mulF at q
  split at q
  · split at q
    · rename_i hb
      cases ra with
      | p ra =>
        cases ra
        cases rb with
        | p rb =>
          cases rb
          refine op_mul pins s σ H _ _ v u Q I rx ry ⟨_, _, rfl, rfl, ?_, gv q ok (.p (.int _))⟩
          rcases Bool.or_eq_true_iff.mp hb with hb | hb
          · exact .inl (small_iff hb)
          · exact .inr (small_iff hb)
    · exact q.elim
  · exact q.elim
/-! ### xs.append(e) -/
def appF : F2 := fun a b s => match a with
  | .cell k => match s[k]? with
    | some (.lst ws) => if ws.length < 16777216 then some (.p .non, s.set k (.lst (ws ++ [b]))) else none
    | _ => none
  | _ => none
def cApp (fo fe : FE) : FE := fun E s => (fo E s).bind fun a s1 => match a with
  | .cell k => (match s1[k]? with
    | some (.lst _) => (fe E s1).bind fun b s2 => Rs.of (appF a b s2)
    | _ => .no)
  | _ => .no
theorem se_app (hK : X.K = R.K) {apos cpos : Pos} (ho : PE X o (tE R W0 fo)) (ha : PE X e (tE R W0 fe))
    (hbase : attributeBase o "append" X.env (eval o X.env) = eval o X.env := by rfl)
    (hfew : ((backTo cpos (starEach (e :: []) X.env)).all (fun x => !x.1) && (backToKw cpos (keywordEach [] X.env)).all (fun x => x.1.isSome)
      && decide ((e :: ([] : List Expr)).length + ([] : List Keyword).length + (if ([] : List Keyword).isEmpty then 0 else 1) < 30)) = true := by rfl)
    (hline : (apos.endLine == cpos.line) = true := by rfl) (hs : starEach (e :: []) X.env = (false, eval e X.env) :: starEach [] X.env := by rfl) (hplain : (backTo cpos (starEach [] X.env)).any (·.1) = false := by rfl) :
    PE X (.Call (.Attribute o "append" apos) [e] [] cpos) (tE R W0 (cApp fo fe)) :=
  PE.imp (pe_bm PySem.F.plainAttrs_list PySem.F.slot_list_append PySem.F.type_list_append mt_append ho (pa_cons ha pa_nil hs) hbase hfew hline hs hplain) fun σ H Q h => by
    obtain ⟨G, F, m, s, E, ok, en, q⟩ := h
    refine ⟨G, F, m, s, E, ok, en, got_bind q fun w s1 F1 m1 H1 v _ e1 p1 ok1 r1 q1 => ?_⟩
    split at q1
    · split at q1
      · rename_i ws hws
        obtain ⟨a, ob, rfl, hk, hsk, cc⟩ := ok1.cellAt r1
        rw [hws] at hsk
        cases hsk
        obtain ⟨vs, h1, h2⟩ := cc
        refine ⟨.inl ⟨rfl, vs, sq_of h1⟩, ?_⟩
        refine ⟨G, F1, m1, s1, E, ok1, en.mono e1 p1, got_bind q1 fun b s2 F2 m2 H2 v2 _ e2 p2 ok2 r2 q2 => ?_⟩
        have q3 := got_of q2
        unfold appF at q3
        dsimp only at q3
        obtain ⟨a', ob, e', hk', hsk', cc'⟩ := ok2.cellAt (r1.mono e2 p2)
        cases e'
        rw [hsk'] at q3
        cases ob with
        | lst ws' =>
          dsimp only at q3
          split at q3
          · rename_i hl
            obtain ⟨vs', h1', h2'⟩ := cc'
            have l' := h2'.length
            exact ⟨a, vs', v2, rfl, rfl, h1', by rw [← lim_eq]; omega, q3 F2 m2 _ _ (Ex.refl F2) (Pre.refl m2) (ok2.set hk' ⟨_, upd_same, h2'.append (.cons r2 .nil)⟩) (.p .non)⟩
          · exact q3.elim
        | dic ws' => exact q3.elim
        | ins c ws' => exact q3.elim
      · exact q1.elim
    · exact q1.elim
end
end Sim

/-! SimH: the head: what the top has written, by one kernel run. -/
namespace Sim
open PySem L2 Evl He
/-- a def by where it stands -/
structure DA where
  adr : PySem.W.Frag → Addr
  name : Str
  qual : Str
  params : Arguments
  body : List Stmt
  scope : Scope
def fdOf (K : PySem.W.Frag) (a : Addr) : Option FuncData := match K.lookup a with
  | some ⟨_, _, .func fd, _⟩ => some fd
  | _ => none
def fnWa (K : PySem.W.Frag) (a : Addr) : FnW := match fdOf K a with
  | some fd => some (fd.name, fd.qualname, fd.params, fd.body, fd.scope, fd.globals, fd.closure, fd.builtins)
  | none => none
def DA.val (d : DA) : FnW := some (d.name, d.qual, d.params, .stmts d.body, d.scope, mainGlobals, [], builtinsNs)
def DA.ok (K : PySem.W.Frag) (d : DA) : Bool := PySem.W.keepIn K (.ref (d.adr K)) && (match fdOf K (d.adr K) with
  | some fd => PySem.W.codeIn K fd.code d.qual && (match fd.defaults with | .none => true | _ => false)
  | none => false)
theorem DA.funD {K : PySem.W.Frag} {d : DA} (e : fnWa K (d.adr K) = d.val) (c : d.ok K = true) : ∃ fd, FunD K d.name d.qual d.params d.body d.scope [] [] (d.adr K) fd := by
  obtain ⟨kp, c2⟩ := Bool.and_eq_true_iff.mp c
  unfold fnWa at e
  cases q : fdOf K (d.adr K) with
  | none => rw [q] at e; cases e
  | some fd =>
    rw [q] at e c2
    have lk : ∃ oc od osl, K.lookup (d.adr K) = some ⟨oc, od, .func fd, osl⟩ := by
      unfold fdOf at q
      split at q
      · rename_i oc od fd' osl h
        cases q
        exact ⟨oc, od, osl, h⟩
      · cases q
    obtain ⟨oc, od, osl, lk⟩ := lk
    obtain ⟨n1, n2, n3, n4, n5, n6, n7, n8, n9, n10, n11, n12, n13, n14, n15⟩ := fd
    have e2 : (some (n1, n2, n3, n4, n5, n6, n7, n15) : FnW) = some (d.name, d.qual, d.params, .stmts d.body, d.scope, mainGlobals, [], builtinsNs) := e
    simp only [Option.some.injEq, Prod.mk.injEq] at e2
    obtain ⟨h1, h2, h3, h4, h5, h6, h7, h8⟩ := e2
    subst h1 h2 h3 h4 h5 h6 h7 h8
    obtain ⟨k1, k2⟩ := Bool.and_eq_true_iff.mp c2
    have k3 : n8 = Value.none := by
      cases n8 with
      | none => rfl
      | _ => cases k2
    subst k3
    exact ⟨_, ⟨oc, od, .none, n9, n10, n11, n12, n13, n14, osl, rfl, lk, k1, .inl ⟨rfl, rfl⟩, .inl rfl⟩, kp⟩
/-! ### the classes, the errors -/
def nmAt (l : List (Option Str)) (i : Nat) : Option Str := match l[i]? with
  | some o => o
  | none => none
def adAt (K : PySem.W.Frag) (l : List (Option Str)) (i : Nat) : Addr := match nmAt l i with
  | some x => ga K x
  | none => 0
def RK (cn xn : List (Option Str)) (fns : List Str) (K : PySem.W.Frag) : RC where
  K := K
  cls := adAt K cn
  fna := fun k => match fns[k]? with
    | some x => ga K x
    | none => 0
  xcl := adAt K xn
  has := fun c => (nmAt cn c).isSome
  hax := fun c => (nmAt xn c).isSome
def deq (a b : Option (Option Value)) : Bool := decide (a = b)
theorem deq_ok {a b : Option (Option Value)} (h : deq a b = true) : a = b := of_decide_eq_true h
def clsB (K : PySem.W.Frag) (C : Addr) : Bool := PySem.W.plainGet K C Str.empty && (PySem.W.hasDictIn K C && (PySem.W.plainOver K C && deq (PySem.W.findIn K (.ref C) "__setattr__") (some (some (.builtin "object.__setattr__")))))
/-- one class -/
def oneB (K : PySem.W.Frag) (cn : List (Option Str)) (c : Nat) : Bool := match nmAt cn c with
  | none => true
  | some x => (Fa.cls x).ok K && (fldN c).all (fun f => deq (PySem.W.findIn K (.ref (ga K x)) f) (some none)) &&
    deq (PySem.W.findIn K (.ref (ga K x)) "__class__") (some (some (.builtin "object.__class__"))) && deq (PySem.W.specialIn K (.builtin "object.__class__") "__get__") (some (some (.builtin "getset_descriptor.__get__"))) &&
    decide (PySem.W.takesIn K (.builtin "object.__class__") = some true) && decide (PySem.W.mroIn K (ga K x) (.type "object") = some true) &&
    tyNames.all (fun n => decide (PySem.W.kitOne K (.ref (ga K x)) (.type n) = some false)) && tagNames.all (fun t => decide (PySem.W.kitOne K (.type t) (.ref (ga K x)) = some false) && PySem.W.notFirst K (ga K x) (.type t)) &&
    (List.range cn.length).all (fun c' => match nmAt cn c' with
      | none => true
      | some y => decide (PySem.W.kitOne K (.ref (ga K x)) (.ref (ga K y)) = some (c == c')) && PySem.W.notFirst K (ga K x) (.ref (ga K y)))
def excB (K : PySem.W.Frag) (xn : List (Option Str)) : Bool := (List.range xn.length).all fun x => match nmAt xn x with
  | none => true
  | some a => (List.range xn.length).all fun c => match nmAt xn c with
    | none => true
    | some b => decide (PySem.W.exmOne K (.ref (ga K a)) (.ref (ga K b)) = some (c == 0 || x == c))
def chkB (cn xn : List (Option Str)) (K : PySem.W.Frag) : Bool := (List.range cn.length).all (oneB K cn) && excB K xn
theorem nm_lt {l : List (Option Str)} {i : Nat} (h : (nmAt l i).isSome = true) : i < l.length ∧ ∃ x, nmAt l i = some x := by
  refine ⟨?_, Option.isSome_iff_exists.mp h⟩
  unfold nmAt at h
  split at h
  · rename_i o ho
    exact (List.getElem?_eq_some_iff.mp ho).1
  · cases h
theorem ad_eq {K : PySem.W.Frag} {l : List (Option Str)} {i : Nat} {x : Str} (h : nmAt l i = some x) : adAt K l i = ga K x := by
  unfold adAt
  rw [h]
section
variable {cn xn : List (Option Str)} {fns : List Str} {K : PySem.W.Frag}
structure OneOk (K : PySem.W.Frag) (cn : List (Option Str)) (c : Nat) (x : Str) : Prop where
  cls : Cls K (ga K x)
  noat : ∀ f ∈ fldN c, NoAttr K (ga K x) f
  t1 : PySem.W.findIn K (.ref (ga K x)) "__class__" = some (some (.builtin "object.__class__"))
  t2 : PySem.W.specialIn K (.builtin "object.__class__") "__get__" = some (some (.builtin "getset_descriptor.__get__"))
  t3 : PySem.W.takesIn K (.builtin "object.__class__") = some true
  t4 : PySem.W.mroIn K (ga K x) (.type "object") = some true
  kb : ∀ n ∈ tyNames, PySem.W.kitOne K (.ref (ga K x)) (.type n) = some false
  kt : ∀ t ∈ tagNames, PySem.W.kitOne K (.type t) (.ref (ga K x)) = some false
  nf : ∀ t ∈ tagNames, PySem.W.notFirst K (ga K x) (.type t) = true
  kc : ∀ c' y, nmAt cn c' = some y → PySem.W.kitOne K (.ref (ga K x)) (.ref (ga K y)) = some (c == c') ∧ PySem.W.notFirst K (ga K x) (.ref (ga K y)) = true
theorem one_ok (h : chkB cn xn K = true) {c : Nat} {x : Str} (hx : nmAt cn c = some x) : OneOk K cn c x := by
  have hl := (nm_lt (l := cn) (i := c) (by rw [hx]; rfl)).1
  have h1 := List.all_eq_true.mp (Bool.and_eq_true_iff.mp h).1 c (List.mem_range.mpr hl)
  unfold oneB at h1
  rw [hx] at h1
  simp only [Bool.and_eq_true] at h1
  obtain ⟨⟨⟨⟨⟨⟨⟨⟨a1, a2⟩, a3⟩, a4⟩, a5⟩, a6⟩, a7⟩, a8⟩, a9⟩ := h1
  refine ⟨cls_ok a1, fun f hf => deq_ok (List.all_eq_true.mp a2 f hf), deq_ok a3, deq_ok a4, of_decide_eq_true a5, of_decide_eq_true a6, fun n hn => of_decide_eq_true (List.all_eq_true.mp a7 n hn),
    fun t ht => of_decide_eq_true (Bool.and_eq_true_iff.mp (List.all_eq_true.mp a8 t ht)).1, fun t ht => (Bool.and_eq_true_iff.mp (List.all_eq_true.mp a8 t ht)).2, fun c' y hy => ?_⟩
  have hl' := (nm_lt (l := cn) (i := c') (by rw [hy]; rfl)).1
  have h2 := List.all_eq_true.mp a9 c' (List.mem_range.mpr hl')
  rw [hy] at h2
  obtain ⟨b1, b2⟩ := Bool.and_eq_true_iff.mp h2
  exact ⟨of_decide_eq_true b1, b2⟩
theorem rc_ok (h : chkB cn xn K = true) : RcOk (RK cn xn fns K) := by
  have go : ∀ c, (RK cn xn fns K).has c = true → ∃ x, nmAt cn c = some x ∧ (RK cn xn fns K).cls c = ga K x ∧ OneOk K cn c x := fun c hc => by
    obtain ⟨_, x, hx⟩ := nm_lt hc
    exact ⟨x, hx, ad_eq hx, one_ok h hx⟩
  refine ⟨fun c hc => ?_, fun c hc f hf => ?_, fun c hc => ?_, fun c hc n hn => ?_, fun t ht c hc => ?_, fun c c' hc hc' => ?_, fun x c hx hc => ?_⟩
  · obtain ⟨x, _, e, o⟩ := go c hc
    rw [e]; exact o.cls
  · obtain ⟨x, _, e, o⟩ := go c hc
    rw [e]; exact o.noat f hf
  · obtain ⟨x, _, e, o⟩ := go c hc
    rw [e]; exact ⟨o.t1, o.t2, o.t3, o.t4⟩
  · obtain ⟨x, _, e, o⟩ := go c hc
    rw [e]; exact o.kb n hn
  · obtain ⟨x, _, e, o⟩ := go c hc
    rw [e]; exact o.kt t ht
  · obtain ⟨x, _, e, o⟩ := go c hc
    obtain ⟨y, hy, e', _⟩ := go c' hc'
    rw [e, e']; exact (o.kc c' y hy).1
  · obtain ⟨l1, a, ha⟩ := nm_lt (show (nmAt xn x).isSome = true from hx)
    obtain ⟨l2, b, hb⟩ := nm_lt (show (nmAt xn c).isSome = true from hc)
    have h2 := List.all_eq_true.mp (Bool.and_eq_true_iff.mp h).2 x (List.mem_range.mpr l1)
    rw [ha] at h2
    have h3 := List.all_eq_true.mp h2 c (List.mem_range.mpr l2)
    rw [hb] at h3
    show PySem.W.exmOne K (.ref (adAt K xn x)) (.ref (adAt K xn c)) = _
    rw [ad_eq ha, ad_eq hb]
    exact of_decide_eq_true h3
theorem nf_ok (h : chkB cn xn K = true) {c : Nat} {x : Str} (hx : nmAt cn c = some x) : NotFirst (RK cn xn fns K) c := by
  have o := one_ok h hx
  have e : (RK cn xn fns K).cls c = ga K x := ad_eq hx
  refine ⟨fun t ht => by rw [e]; exact o.nf t ht, fun c' hc' => ?_⟩
  obtain ⟨_, y, hy⟩ := nm_lt hc'
  have e' : (RK cn xn fns K).cls c' = ga K y := ad_eq hy
  rw [e, e']
  exact (o.kc c' y hy).2
end
/-- a property's getter -/
def prG (K : PySem.W.Frag) (C : Addr) (f : Str) : Addr := match PySem.W.findIn K (.ref C) f with
  | some (some (.ref p)) => (match PySem.W.recIn K p "property" with
    | some (.ref g :: _) => g
    | _ => 0)
  | _ => 0
def prP (K : PySem.W.Frag) (C : Addr) (f : Str) : Addr := match PySem.W.findIn K (.ref C) f with
  | some (some (.ref p)) => p
  | _ => 0
def prB (K : PySem.W.Frag) (C : Addr) (f : Str) : Bool := deq (PySem.W.findIn K (.ref C) f) (some (some (.ref (prP K C f)))) && deq (PySem.W.specialIn K (.ref (prP K C f)) "__get__") (some (some (.builtin "property.__get__"))) &&
  decide (PySem.W.takesIn K (.ref (prP K C f)) = some true) && (match PySem.W.recIn K (prP K C f) "property" with
    | some (.ref g :: _) => decide (g = prG K C f)
    | _ => false)
theorem pr_ok {K : PySem.W.Frag} {C : Addr} {f : Str} (h : prB K C f = true) : PropOf K C f (prP K C f) (prG K C f) := by
  unfold prB at h
  simp only [Bool.and_eq_true] at h
  obtain ⟨⟨⟨a1, a2⟩, a3⟩, a4⟩ := h
  refine ⟨deq_ok a1, deq_ok a2, of_decide_eq_true a3, ?_⟩
  split at a4
  · rename_i g r hr
    exact ⟨r, by rw [hr, of_decide_eq_true a4]⟩
  · cases a4
/-! ### the Hook -/
def obsM (fa : List Fa) (fn : List DA) (ex : PySem.W.Frag → Bool) (K : PySem.W.Frag) : AlD := (((fa.all fun f => f.ok K) && fn.all fun d => d.ok K) && ex K, fn.map fun d => fnWa K (d.adr K))
def valM (fn : List DA) : AlD := (true, fn.map DA.val)
def SaysM (fa : List Fa) (fn : List DA) (ex : PySem.W.Frag → Bool) (K : PySem.W.Frag) : Prop := obsM fa fn ex K = valM fn
def obsMG (n : Nat) (fa : List Fa) (fn : List DA) (ex : PySem.W.Frag → Bool) (g : Addr → Option Obj) : AlD := obsM fa fn ex (frG g (asD g n))
def hookM (n : Nat) (fa : List Fa) (fn : List DA) (ex : PySem.W.Frag → Bool) : PySem.W.Hook where
  α := AlD
  obs := fun s => obsMG n fa fn ex s.heap.get?
  val := fun _ => valM fn
  says := fun _ h => ∃ K : PySem.W.Frag, K.In h ∧ SaysM fa fn ex K
  of := fun _ _ e => ⟨_, frG_in, e⟩
  keeps := fun _ _ _ ⟨K, hK, c⟩ k => ⟨K, PySem.W.Frag.In.keeps hK k, c⟩
theorem obsMG_eq {n : Nat} {fa : List Fa} {fn : List DA} {ex : PySem.W.Frag → Bool} {g : Addr → Option Obj} {s : Shared} (h : ∀ a, g a = s.heap.get? a) : obsMG n fa fn ex g = (hookM n fa fn ex).obs s := by
  have e : g = s.heap.get? := funext h
  rw [e] <;> rfl
section
variable {fa : List Fa} {fn : List DA} {ex : PySem.W.Frag → Bool} {K : PySem.W.Frag}
theorem SaysM.b (c : SaysM fa fn ex K) : (((fa.all fun f => f.ok K) && fn.all fun d => d.ok K) && ex K) = true := congrArg (fun z : AlD => z.1) c
theorem SaysM.fact (c : SaysM fa fn ex K) (i : Nat) {f : Fa} (h : fa[i]? = some f := by rfl) : f.ok K = true :=
  List.all_eq_true.mp (Bool.and_eq_true_iff.mp (Bool.and_eq_true_iff.mp c.b).1).1 f (List.mem_of_getElem? h)
theorem SaysM.more (c : SaysM fa fn ex K) : ex K = true := (Bool.and_eq_true_iff.mp c.b).2
theorem SaysM.def_ (c : SaysM fa fn ex K) (i : Nat) {d : DA} (h : fn[i]? = some d := by rfl) : ∃ fd, FunD K d.name d.qual d.params d.body d.scope [] [] (d.adr K) fd := by
  have c2 := (Bool.and_eq_true_iff.mp (Bool.and_eq_true_iff.mp c.b).1).2
  have e : fn.map (fun d => fnWa K (d.adr K)) = fn.map DA.val := congrArg (fun z : AlD => z.2) c
  have e2 : (fn.map fun d => fnWa K (d.adr K))[i]? = (fn.map DA.val)[i]? := by rw [e]
  rw [List.getElem?_map, List.getElem?_map, h] at e2
  exact DA.funD (Option.some.inj e2) (List.all_eq_true.mp c2 d (List.mem_of_getElem? h))
end
/-! ### a def's promise, the law's end -/
/-- a def keeps spF -/
def DefOk (P : Program) (w : World) (K : PySem.W.Frag) (mg : Str → Option Value) (base : Heap) (R : RC) (k : Nat) (a : Addr) (ps : List Str) (f : FF) : Prop :=
  ∃ fd, FnOk P w K mg base (L2.CX P w) k a fd ps (spF R ps.length f) ∧ Binds K fd ps [] ∧ PySem.W.keepIn K (.ref a) = true ∧ fdOf K a = some fd
theorem fd_of {K : PySem.W.Frag} {x qual : Str} {params : Arguments} {body : List Stmt} {scope : Scope} {ds : List V} {kws : List (Str × V)} {f : Addr} {fd : FuncData} (F : FunD K x qual params body scope ds kws f fd) : fdOf K f = some fd := by
  obtain ⟨oc, od, dV, kV, doc, pm, an, cdv, ct, osl, rfl, lk, _⟩ := F.ex
  unfold fdOf
  rw [lk]
theorem rep_ints {R : RC} {F : Hp} : ∀ ns : List Int, RepPs R F (ns.map P.int) (ns.map V.int)
  | [] => .nil
  | n :: ns => .cons (.int n) (rep_ints ns)
theorem law_end {l : PySem.W.OpenLaw} {n k : Nat} {q : Program} {loose : List Str} {XP : (Str → Option Value) → Heap → Prop} {fa : List Fa} {fn : List DA} {ex : PySem.W.Frag → Bool} {nn : Nat} {d : PySem.DefRec} {x : Str} {f : FF} {R : PySem.W.Frag → RC}
    (hn : l.most = some n) (hn2 : n ≤ sizeLine) (hdf : d.params.defaults = []) (hr : Room k PySem.callerA) (hR : ∀ K, (R K).K = K)
    (F : ∀ (w : World) (mg : Str → Option Value) (a : Addr) (h : Heap) (K : PySem.W.Frag), K.In h → SaysM fa fn ex K → h.Ns mainGlobals mg → mg d.name = some (.ref a) →
      ∃ fd : FuncData, (∀ (s : Shared) (u : Value), BindsTo s fd ⟨[u], []⟩ [(x, u)]) ∧ ∀ base : Heap, K.In base → base.Ns mainGlobals mg → FnOk l.prog w K mg base (L2.CX l.prog w) k a fd [x] (spF (R K) 1 f))
    (hf : ∀ ns : List Int, ns.length ≤ n → (∀ z ∈ ns, Builtin.Int.intBits z ≤ 1048576) → ∃ s, f [.p (.scr (ns.map P.int))] [] = .ok (.p (.bl true)) s) :
    PySem.W.WalkO q loose XP (hookM nn fa fn ex).says l.row.toRowW d [] (fun f vs => PySem.call f vs) := by
  refine Att.attach_callB hn hdf fun w s₀ s₁ mg mb a o pm cd doc a' vs ns G Y ho hd hcd hmg hobj hints hlen hbits hg => ?_
  obtain ⟨K, KX, c⟩ := Y
  obtain ⟨fd, hb, hF⟩ := F w mg a _ K KX c G.T.g hmg
  refine law_call KX G.T.g G.T.b G.T.builtins G.T.nolimit hg hobj hints (Nat.le_trans hlen hn2) hr hF hb (fun H hO hS => ?_) fun H e s' h => ?_
  · obtain ⟨s, e⟩ := hf ns hlen hbits
    refine ⟨fun _ => none, H, [], [], [.p (.scr (ns.map P.int))], ⟨Ex.refl H, fun a u e => (by cases e), fun a u e => (by cases e), rfl, List.nodup_nil, by simp, by simp⟩, .cons (.p (.scr (by rw [hR]; exact hS) (rep_ints ns))) .nil, rfl, ?_⟩
    rw [e]
    intro F' m' H' v _ _ _ r
    cases r with
    | p r => cases r; rfl
  · obtain ⟨_, _, _, _, _, _, _, _, _, _, _, _, z⟩ := h
    exact z.elim
end Sim

/-! Sim10: all, any; what a suite does with its error; short words. -/
namespace PySem.W
open PySem PySem.Spec PySem.Calls PyProof.Rows
section
variable {prog : Program} {w : World} {A : Around} {E : Value → Shared → Prop} {s : Shared} {K : Frag} {x D : Addr} {ox : Obj} {od : Option Obj}
theorem findObj_dataO {C : Addr} {name : Str} {a g : Value} (hc : (clsIn K C).isSome = true) (ha : findIn K (.ref C) name = some (some a)) (hg : specialIn K a "__get__" = some (some g)) (ht : takesIn K a = some true) : findObj K C od name = some (.bind g a) := by
  cases od with
  | none => exact findObj_dataN hc ha hg ht
  | some o => exact findObj_data hc ha hg ht
theorem kin_classO {Q : Option Value → Shared → Prop} (hga : findIn K (.ref D) "__getattribute__" = some (some (.builtin "BaseException.__getattribute__"))) (hgt : findIn K (.ref D) "__getattr__" = some none) (hsub : subIn K (.ref D) (.type "BaseException") = some true)
    (hdct : hasDictIn K D = true) (ha : findIn K (.ref D) "__class__" = some (some (.builtin "object.__class__")))
    (hn : specialIn K (.builtin "object.__class__") "__get__" = some (some (.builtin "getset_descriptor.__get__"))) (htk : takesIn K (.builtin "object.__class__") = some true) (hm : mroIn K D (.type "object") = some true)
    (X : K.In s.heap) (I : InstAt s.heap x ox D od) (h : Q (some (.ref D)) { s with toks := s.toks + 1 }) : wpAny (model prog w) A (getAttr? (.ref x) "__class__") Q E s := by
  have hf : findObj K D od "__class__" = some (.bind (.builtin "getset_descriptor.__get__") (.builtin "object.__class__")) := findObj_dataO (by obtain ⟨cd, hc, _⟩ := any_some hdct; rw [hc]; rfl) ha hn htk
  obtain ⟨hp, g, d, t, os⟩ := s
  have L0 := I.type (M := model prog w)
  have L1 := looks_findIn (M := model prog w) X hga
  have L2 := looks_findIn (M := model prog w) X hgt
  have L3 := looks_find (M := model prog w) X I hf
  have sub : Looks (model prog w) hp (isInstance (.ref x) (.type "BaseException")) true := L0.andThen (looks_subIn X hsub)
  have hx0 : (false && onTheHeap (Value.builtin "BaseException.__getattribute__")) = false := rfl
  have hx2 : (Value.builtin "BaseException.__getattribute__" == Value.builtin "object.__getattribute__") = false := by decide +kernel
  have hx1 : (onTheHeap (Value.ref D) && Value.builtin "BaseException.__getattribute__" == Value.builtin "object.__getattribute__") = false := by rw [hx2]; rfl
  unfold getAttr? getAttrBy? getAttrBy
  refine wpAny_bind (wpAny_mkText (wpAny_bind (wpAny_attempt (wpAny_holding (wpAny_bind (L0.at (wpAny_bind (L1.at ?_))))))))
  show wpAny _ _ (if (onTheHeap (Value.ref D) && Value.builtin "BaseException.__getattribute__" == Value.builtin "object.__getattribute__") = true then _ else _) _ _ _
  rw [hx1, if_neg Bool.false_ne_true]
  unfold getAttrByItsOwn hookBefore
  refine wpAny_bind ?_
  rw [if_pos (show onTheHeap (Value.ref D) = true from rfl)]
  refine L2.at ?_
  refine wpAny_bind (wpAny_attempt (wpAny_holding ?_))
  unfold callGetattribute
  rw [hx0, if_neg Bool.false_ne_true]
  unfold boundAndCalled
  rw [PySem.F.excAttr_ValueError.ga.bind (.ref x)]
  refine wpAny_bind (wpAny_pure ?_)
  show wpAny _ _ (call (.builtin "BaseException.__getattribute__") [.ref x, .str "__class__" t]) _ _ _
  refine wpAny_call (codeAny_call_builtin PySem.F.excAttr_ValueError.ga.plain PySem.F.entry_bexc_ga ?_)
  refine @check_slot (model prog w) _ _ ⟨hp, g, d, t + 1, os⟩ "BaseException.__getattribute__" "BaseException" "__getattribute__" (.ref x) [.str "__class__" t] [] _ (by decide +kernel) (by decide +kernel) sub (PySem.F.args_bexc_ga (.ref x) (.str "__class__" t)) ?_
  unfold Builtin.«object.__getattribute__»
  refine wpAny_bind (wpAny_of_eq (a := ((Value.ref x : Value), [Value.str "__class__" t])) (by first | rfl | (simp only [slotArgs]; rfl)) ?_)
  refine wpAny_bind (wpAny_pure (wpAny_bind (L0.at (wpAny_bind (L3.at ?_)))))
  show wpAny _ _ (holding [Value.builtin "object.__class__"] (call (.builtin "getset_descriptor.__get__") [.builtin "object.__class__", .ref x, .ref D]) >>= ret) _ _ _
  refine wpAny_bind (wpAny_holding (wpAny_call (class_get (s := ⟨hp, g, d, t + 1, os⟩) (ox := ox) (od := od) X I hm ?_)))
  refine wpAny_pure ?_
  show wpAny _ _ (handedOut (.ref D)) _ _ _
  rw [handedOut_of (v := .ref D) rfl]
  first
    | exact wpAny_pure (wpAny_pure h)
    | exact wpAny_pure h
    | exact wpAny_pure (wpAny_bind (wpAny_pure (wpAny_pure h)))
theorem kitx_excO (hga : findIn K (.ref D) "__getattribute__" = some (some (.builtin "BaseException.__getattribute__"))) (hgt : findIn K (.ref D) "__getattr__" = some none) (hsub : subIn K (.ref D) (.type "BaseException") = some true) (hdct : hasDictIn K D = true) (ha : findIn K (.ref D) "__class__" = some (some (.builtin "object.__class__")))
    (hn : specialIn K (.builtin "object.__class__") "__get__" = some (some (.builtin "getset_descriptor.__get__"))) (htk : takesIn K (.builtin "object.__class__") = some true) (hm : mroIn K D (.type "object") = some true) :
    KitX K (.ref x) (.ref D) (fun h => InstAt h x ox D od) where
  ty := fun _ _ _ I => I.type
  it := fun _ _ X _ => by
    obtain ⟨cdD, hcD, _⟩ := any_some hdct
    unfold clsIn at hcD
    split at hcD
    · rename_i c' d' cd' sl' ho
      intro A' Q' E' s' k q
      unfold isType loadHead
      exact wpAny_bind (wpAny_loadPart (k _ _ (X _ _ ho)) (wpAny_pure q))
    · cases hcD
  ne := (handS_kitx_exc (x := x) (ox := ox) hga hgt hsub hdct ha hn htk hm).ne
  ca := fun X I k => kin_classO hga hgt hsub hdct ha hn htk hm X I k
end
end PySem.W

namespace Sim
open PySem L2 Evl
/-! ### all, any of bools -/
def blsOf : List W → Option (List Bool)
  | [] => some []
  | .p (.bl b) :: r => match blsOf r with
    | some bs => some (b :: bs)
    | none => none
  | _ :: _ => none
@[simp] theorem blsOf_map (bs : List Bool) : blsOf ((bs.map P.bl).map W.p) = some bs := by
  induction bs with
  | nil => rfl
  | cons b bs ih => simp only [List.map_cons, blsOf, ih]
section
variable {R : RC} {X : Cx} {W0 : WX} {a b e o : Expr} {fa fb fe fo : FE} {pos p : Pos} {es : List Expr} {fs : FA}
theorem bls_rep {F : Hp} {m : List Addr} : ∀ {ws : List W} {bs : List Bool} {vs : List V}, blsOf ws = some bs → RepWs R F m ws vs → vs = bs.map V.bl
  | [], _, _, e, h => by
    cases h
    cases e
    rfl
  | .p (.bl b) :: r, bs, _, e, h => by
    unfold blsOf at e
    cases q : blsOf r with
    | none => rw [q] at e; cases e
    | some js =>
      rw [q] at e
      cases e
      cases h with
      | cons a b =>
        cases a with
        | p a =>
          cases a
          rw [bls_rep q b]
          rfl
  | .cell _ :: _, _, _, e, _ => by cases e
  | .p .non :: _, _, _, e, _ => by cases e
  | .p (.int _) :: _, _, _, e, _ => by cases e
  | .p (.str _) :: _, _, _, e, _ => by cases e
  | .p (.tup _) :: _, _, _, e, _ => by cases e
  | .p (.lst _) :: _, _, _, e, _ => by cases e
  | .p (.scr _) :: _, _, _, e, _ => by cases e
  | .p (.dic _) :: _, _, _, e, _ => by cases e
  | .p (.ins _ _) :: _, _, _, e, _ => by cases e
  | .p (.fn _) :: _, _, _, e, _ => by cases e
def quaF (g : List Bool → Bool) : FN := fun ws s => match ws with
  | [w] => match itL s w with
    | some us => match blsOf us with
      | some bs => some (.p (.bl (g bs)), s)
      | none => none
    | none => none
  | _ => none
theorem c_qua {id : String} {g : List Bool → Bool} (h : CallR X (.builtin id) (fun vs H Q => ∃ (a : Addr) (bs : List Bool), vs = [V.ref a] ∧ SqL X.K H a (bs.map V.bl) ∧ Q (.bl (g bs)) H)) : CallR X (.builtin id) (rCal R (quaF g)) := by
  intro pins s σ H xs us Q I rv q
  obtain ⟨G, F, m, st, ws, ok, r, q⟩ := q
  unfold quaF at q
  split at q
  · rename_i w
    cases e : itL st w with
    | none => rw [e] at q; exact q.elim
    | some us' =>
      simp only [e] at q
      cases e2 : blsOf us' with
      | none => rw [e2] at q; exact q.elim
      | some bs =>
        rw [e2] at q
        obtain ⟨v, rfl, r1⟩ := reps1 r
        obtain ⟨a, vs, rfl, h1, h2⟩ := itL_rep ok r1 e
        have e3 := bls_rep e2 h2
        subst e3
        exact h pins s σ H _ us Q I rv ⟨a, bs, rfl, sq_of h1, gv q ok (.p (.bl _))⟩
  · exact q.elim
theorem c_all (hc : X.calm = true) : CallR X (.builtin "all") (rCal R (quaF fun bs => bs.all id)) := c_qua (cr_all hc)
theorem c_any (hc : X.calm = true) : CallR X (.builtin "any") (rCal R (quaF fun bs => bs.any id)) := c_qua (cr_any hc)
/-- no test -/
def cYes : FT := fun _ s => .ok true s
theorem sts_nil : PTs X [] (tT R W0 cYes) := ⟨fun pins s σ H Q I h => pts_nil.run pins s σ H Q I (by
  obtain ⟨G, F, m, st, E, ok, en, q⟩ := h
  exact q F m H true (Ex.refl F) (Pre.refl m) ok rfl)⟩
theorem sts_one {c : Expr} {t : FT} (h : PT X c (tT R W0 t)) : PTs X [c] (tT R W0 t) := pts_one h
/-- how many arguments -/
def FAn (n : Nat) (fs : FA) : Prop := ∀ E s ws s', fs E s = .ok ws s' → ws.length = n
theorem fa_nil : FAn 0 cNil := fun E s ws s' h => by
  cases h
  rfl
theorem fa_cons {n : Nat} (h : FAn n fs) : FAn (n + 1) (cCons fa fs) := fun E s ws s' e => by
  unfold cCons at e
  cases z : fa E s with
  | ok a s1 =>
    rw [z] at e
    cases z2 : fs E s1 with
    | ok us s2 =>
      have e2 : (Rs.ok (a :: us) s2 : Rs (List W)) = .ok ws s' := by simpa [Rs.bind, z2] using e
      cases e2
      simp [h _ _ _ _ z2]
    | exc x s2 => simp [Rs.bind, z2] at e
    | no => simp [Rs.bind, z2] at e
  | exc x s1 => rw [z] at e; cases e
  | no => rw [z] at e; cases e
/-! ### in a suite: what the error tells -/
def tXE (R : RC) (ea : Addr) (ei : Nat) (cls : Value) (d : Option Addr) (f : Xc → FE) : TE := fun σ H Q => ∃ x G F m s E, σ[ei]? = some (some (.ref ea)) ∧ StOk R G F m s H ∧ EnvOk R F m E σ ∧ RepX R F x cls d ∧ Got R (RepW R) WF G F m (f x E s) σ Q
def tXA (R : RC) (ea : Addr) (ei : Nat) (cls : Value) (d : Option Addr) (f : Xc → FA) : TA := fun σ H Q => ∃ x G F m s E, σ[ei]? = some (some (.ref ea)) ∧ StOk R G F m s H ∧ EnvOk R F m E σ ∧ RepX R F x cls d ∧ Got R (RepWs R) WF G F m (f x E s) σ Q
def tXT (R : RC) (ea : Addr) (ei : Nat) (cls : Value) (d : Option Addr) (f : Xc → FT) : TT := fun σ H Q => ∃ x G F m s E, σ[ei]? = some (some (.ref ea)) ∧ StOk R G F m s H ∧ EnvOk R F m E σ ∧ RepX R F x cls d ∧ Got R relB WF G F m (f x E s) σ Q
variable {ea : Addr} {ei : Nat} {cls : Value} {d : Option Addr} {f g : Xc → FE} {fas : Xc → FA} {ft : Xc → FT}
theorem sx_of {h : FE} (he : PE X e (tE R WF h)) : PE X e (tXE R ea ei cls d fun _ => h) := PE.imp he fun σ H Q q => by
  obtain ⟨x, G, F, m, s, E, _, ok, en, _, q⟩ := q
  exact ⟨G, F, m, s, E, ok, en, q⟩
theorem sxa_nil : PA X [] (tXA R ea ei cls d fun _ => cNil) := PA.imp sa_nil fun σ H Q q => by
  obtain ⟨x, G, F, m, s, E, _, ok, en, _, q⟩ := q
  exact ⟨G, F, m, s, E, ok, en, q⟩
theorem sxa_cons (ha : PE X a (tXE R ea ei cls d f)) (hs : PA X es (tXA R ea ei cls d fas)) (hst : starEach (a :: es) X.env = (false, eval a X.env) :: starEach es X.env := by rfl) : PA X (a :: es) (tXA R ea ei cls d fun x => cCons (f x) (fas x)) := PA.imp (pa_cons ha hs hst) fun σ H Q h => by
  obtain ⟨x, G, F, m, s, E, hei, ok, en, rx, q⟩ := h
  refine ⟨x, G, F, m, s, E, hei, ok, en, rx, got_bind q fun a s1 F1 m1 H1 v1 _ e1 p1 ok1 r1 q1 => ?_⟩
  refine ⟨x, G, F1, m1, s1, E, hei, ok1, en.mono e1 p1, rx.mono e1, got_bind q1 fun b s2 F2 m2 H2 v2 _ e2 p2 ok2 r2 q2 => ?_⟩
  exact q2 F2 m2 H2 _ (Ex.refl F2) (Pre.refl m2) ok2 (.cons (r1.mono e2 p2) r2)
theorem sx_lst (h : PA X es (tXA R ea ei cls d fas)) : PE X (.List es pos) (tXE R ea ei cls d fun x => cLst false (fas x)) := PE.imp (pe_lst h) fun σ H Q h => by
  obtain ⟨x, G, F, m, s, E, hei, ok, en, rx, q⟩ := h
  exact ⟨x, G, F, m, s, E, hei, ok, en, rx, got_bind q fun a s1 F1 m1 H1 v1 _ e1 p1 ok1 r1 q1 => lstR_ok ok1 r1 (got_of q1)⟩
theorem sx_if {c : Expr} (ht : PT X c (tXT R ea ei cls d ft)) (ha : PE X a (tXE R ea ei cls d f)) (hb : PE X b (tXE R ea ei cls d g)) : PE X (.IfExp c a b pos) (tXE R ea ei cls d fun x => cIf (ft x) (f x) (g x)) := PE.imp (pe_ifExp ht ha hb) fun σ H Q h => by
  obtain ⟨x, G, F, m, s, E, hei, ok, en, rx, q⟩ := h
  refine ⟨x, G, F, m, s, E, hei, ok, en, rx, got_bind q fun a s1 F1 m1 H1 v1 _ e1 p1 ok1 r1 q1 => ?_⟩
  cases r1
  cases a with
  | true => rw [if_pos rfl]; exact ⟨x, G, F1, m1, s1, E, hei, ok1, en.mono e1 p1, rx.mono e1, q1⟩
  | false => rw [if_neg Bool.false_ne_true]; exact ⟨x, G, F1, m1, s1, E, hei, ok1, en.mono e1 p1, rx.mono e1, q1⟩
theorem ssx_set {i : Nat} {x : Str} {pos' : Pos} (hN : X.N.Nodup) (hi : X.N[i]? = some x) (hx : Loc X.env.scope x) (he : PE X e (tXE R ea ei cls d f)) (hs : swapsWith e (some (.Name x pos')) pos.line X.env = pure false := by rfl) (hf : X.fn x = true ∨ X.env.scope.names.lookup x = some .local := by first | exact .inl rfl | exact .inr rfl | assumption) :
    PSs X [.Assign [.Name x pos'] e pos] (tX R ea ei cls d fun x => cSet i (f x)) := pss_one (PS.imp (ps_set hN hi hx he hs hf) fun D σ H h => by
  obtain ⟨x, G, F, m, s, E, hei, ok, en, rx, q⟩ := h
  refine ⟨x, G, F, m, s, E, hei, ok, en, rx, gotS_bind en q fun w s1 F1 m1 H1 v _ e1 p1 ok1 r1 q1 => ?_⟩
  exact q1 F1 m1 H1 _ (Ex.refl F1) (Pre.refl m1) ok1 ((en.mono e1 p1).set r1 i))
/-- isinstance(e, C), e the suite's error -/
structure XcOk (R : RC) : Prop where
  hg : ∀ c, R.hax c = true → ExcC R.K (R.xcl c)
  xf : ∀ c, R.hax c = true → XfC R.K (R.xcl c)
  no : ∀ c, R.hax c = true → ∀ f ∈ xflN c, PySem.W.findIn R.K (.ref (R.xcl c)) f = some none
  kit : ∀ x c, R.hax x = true → R.hax c = true → PySem.W.kitOne R.K (.ref (R.xcl x)) (.ref (R.xcl c)) = some (c == 0 || x == c)
  kitVE : ∀ x, R.hax x = true → PySem.W.kitOne R.K (.ref (R.xcl x)) (.type "ValueError") = some true
def cIs (c : Nat) (x : Xc) : FE := fun _ s => .ok (.p (.bl (isX x.c c))) s
theorem inst_suite {pins : List (Addr × Obj)} {σ : St} {H : Hp} {s : Shared} {a D : Addr} {oe : Obj} {pn : List (Addr × Obj)} (I : L2.Inv (X.suite a ((a, oe) :: pn)) pins σ H s) (hz : Zc (.ref D) d oe) (hf : ∃ vs, oe.data = .fields vs) (hd : ∀ dx, d = some dx → ∃ fs, H dx = some (.xd fs)) : ∃ od, PySem.W.InstAt s.heap a oe D od := by
  obtain ⟨hget, _⟩ := I.pin (a, oe) (List.mem_append.mpr (.inl List.mem_cons_self))
  obtain ⟨vs, hv⟩ := hf
  obtain ⟨oc, od, oda, osl⟩ := oe
  obtain ⟨h1, h2⟩ := hz
  dsimp only at h1 h2 hv
  subst h1 h2 hv
  cases od with
  | none => exact ⟨none, hget, rfl, rfl, trivial⟩
  | some dx =>
    obtain ⟨fs, hu⟩ := hd dx rfl
    have hx : ObjOk X.prog X.w H s.heap dx (.xd fs) := I.hok dx _ hu
    obtain ⟨mA, hns, _⟩ := hx
    obtain ⟨o, ho, _⟩ := lookIn_ns hns
    exact ⟨some o, hget, rfl, rfl, ho⟩
theorem repx_d {F H : Hp} {x : Xc} (rx : RepX R F x cls d) (e : Ex F H) : ∀ dx, d = some dx → ∃ fs, H dx = some (.xd fs) := fun dx hd => by
  obtain ⟨_, _, h⟩ := rx
  rcases h with ⟨_, h⟩ | ⟨dx', fs, h, h2, _⟩
  · rw [h] at hd; cases hd
  · rw [h] at hd; cases hd
    exact ⟨fs, e _ _ h2⟩
def rIsX (K : PySem.W.Frag) (a : Addr) (cls : Value) (d : Option Addr) : List V → Hp → VK → Prop := fun xs H Q => ∃ (c : V) (cv : Value) (D : Addr) (b : Bool), xs = [.ref a, c] ∧ (∀ u, RelV c u → u = cv) ∧ cls = .ref D ∧ ExcC K D ∧ (∀ dx, d = some dx → ∃ fs, H dx = some (.xd fs)) ∧
  PySem.W.kitOne K (.ref D) cv = some b ∧ Q (.bl b) H
theorem call_isX {a : Addr} {oe : Obj} {pn : List (Addr × Obj)} (hz : Zc cls d oe) (hf : ∃ vs, oe.data = .fields vs) : CallR (X.suite a ((a, oe) :: pn)) (.builtin "isinstance") (rIsX X.K a cls d) := by
  intro pins s σ H xs us Q I r h
  obtain ⟨c, cv, D, b, rfl, hcv, rfl, C, hd, e, q⟩ := h
  cases r with
  | cons rx rr =>
    cases rr with
    | cons rt rr =>
      cases rr
      cases rx
      have ec := hcv _ rt
      subst ec
      obtain ⟨od, J⟩ := inst_suite I hz hf hd
      exact PySem.W.kia_one (PySem.W.kitx_excO C.hg C.hk C.hs C.hd C.ha C.hn C.ht C.hm) I.kIn J e (fun z => nomatch z) fun tk => ⟨.bl b, H, I.kept (t' := tk) fun _ _ z => z, rfl, q⟩
/-- isinstance(e, C) -/
theorem sx_is (T : XcOk R) (hK : X.K = R.K) {oe : Obj} {pn : List (Addr × Obj)} {c : Nat} {x n : Str} {p1 p2 p3 : Pos} (hz : Zc cls d oe) (hf : ∃ vs, oe.data = .fields vs) (h0 : R.hax c = true)
    (hn : PE (X.suite ea ((ea, oe) :: pn)) (.Name n p2) (tVar ei)) (hg : Gl X "isinstance") (hm : X.mg "isinstance" = none) (hgx : Gl X x) (hmx : X.mg x = some (.ref (R.xcl c))) (hdx : (x == ("__debug__" : Str)) = false := by decide) :
    PE (X.suite ea ((ea, oe) :: pn)) (.Call (.Name "isinstance" p1) [.Name n p2, .Name x p3] [] pos) (tXE R ea ei cls d (cIs c)) :=
  PE.imp (pe_callB (call_isX hz hf) hg hm (by decide +kernel) (pa_cons hn (pa_cons (pe_glob (v := .ref (R.xcl c)) hgx hmx rfl hdx) pa_nil)) (by decide) (by decide)) fun σ H Q h => by
    obtain ⟨y, G, F, m, s, E, hei, ok, en, rx, q⟩ := h
    refine ⟨.ref ea, hei, .ref (R.xcl c), .ref (R.xcl c), R.xcl y.c, isX y.c c, rfl, fun u hu => hu, rx.1, by rw [hK]; exact T.hg y.c rx.2.1, repx_d rx ok.ex, by rw [hK]; exact T.kit y.c c rx.2.1 h0, ?_⟩
    exact q F m H _ (Ex.refl F) (Pre.refl m) ok (.p (.bl _))
/-- .. as a test -/
def cIsT (c : Nat) (x : Xc) : FT := fun _ s => .ok (isX x.c c) s
theorem sxt_is {e : Expr} {c : Nat} (he : PE X e (tXE R ea ei cls d (cIs c))) (hw : ∀ whole, isTrue e X.env whole = (do let v ← whole; standAt e.pos; holding [v] (truthy v)) := by intro _; rfl) : PT X e (tXT R ea ei cls d (cIsT c)) := PT.imp (pt_val he hw) fun σ H Q h => by
  obtain ⟨x, G, F, m, s, E, hei, ok, en, rx, q⟩ := h
  refine ⟨x, G, F, m, s, E, hei, ok, en, rx, ?_⟩
  intro F' m' H' b e1 p1 ok1 r1
  cases r1 with
  | p r1 => cases r1; exact ⟨_, rfl, q F' m' H' _ e1 p1 ok1 rfl⟩
/-- e.f -/
def cXf (f : Str) (x : Xc) : FE := fun _ s => match (xflN x.c).findIdx? (· == f) with
  | some i => match x.ps[i]? with
    | some p => .ok (.p p) s
    | none => .no
  | none => .no
end
end Sim

/-! Sim11: the errors' facts; words for the walk. -/
namespace Sim
open PySem L2 Evl He
def xcB (xn : List (Option Str)) (K : PySem.W.Frag) : Bool := (List.range xn.length).all fun i => match nmAt xn i with
  | none => true
  | some x => deq (PySem.W.findIn K (.ref (ga K x)) "__getattribute__") (some (some (.builtin "BaseException.__getattribute__"))) && deq (PySem.W.findIn K (.ref (ga K x)) "__getattr__") (some none) &&
    decide (PySem.W.subIn K (.ref (ga K x)) (.type "BaseException") = some true) && PySem.W.hasDictIn K (ga K x) && deq (PySem.W.findIn K (.ref (ga K x)) "__class__") (some (some (.builtin "object.__class__"))) &&
    deq (PySem.W.specialIn K (.builtin "object.__class__") "__get__") (some (some (.builtin "getset_descriptor.__get__"))) && decide (PySem.W.takesIn K (.builtin "object.__class__") = some true) && decide (PySem.W.mroIn K (ga K x) (.type "object") = some true) &&
    (xflN i).all (fun f => deq (PySem.W.findIn K (.ref (ga K x)) f) (some none)) && decide (PySem.W.kitOne K (.ref (ga K x)) (.type "ValueError") = some true) &&
    (List.range xn.length).all (fun c => match nmAt xn c with
      | none => true
      | some b => decide (PySem.W.kitOne K (.ref (ga K x)) (.ref (ga K b)) = some (c == 0 || i == c)))
theorem xc_ok {cn xn : List (Option Str)} {fns : List Str} {K : PySem.W.Frag} (h : xcB xn K = true) : XcOk (RK cn xn fns K) := by
  have go : ∀ c, (RK cn xn fns K).hax c = true → ∃ x, nmAt xn c = some x ∧ (RK cn xn fns K).xcl c = ga K x ∧ c < xn.length := fun c hc => by
    obtain ⟨l, x, hx⟩ := nm_lt hc
    exact ⟨x, hx, ad_eq hx, l⟩
  have all : ∀ c x, nmAt xn c = some x → c < xn.length → _ := fun c x hx hl => by
    have h1 := List.all_eq_true.mp h c (List.mem_range.mpr hl)
    rw [hx] at h1
    simp only [Bool.and_eq_true] at h1
    exact h1
  refine ⟨fun c hc => ?_, fun c hc => ?_, fun c hc f hf => ?_, fun x c hx hc => ?_, fun c hc => ?_⟩
  · obtain ⟨x, hx, e, l⟩ := go c hc
    obtain ⟨⟨⟨⟨⟨⟨⟨⟨⟨⟨a1, a2⟩, a3⟩, a4⟩, a5⟩, a6⟩, a7⟩, a8⟩, a9⟩, a10⟩, a11⟩ := all c x hx l
    rw [e]
    exact ⟨deq_ok a1, deq_ok a2, of_decide_eq_true a3, a4, deq_ok a5, deq_ok a6, of_decide_eq_true a7, of_decide_eq_true a8⟩
  · obtain ⟨x, hx, e, l⟩ := go c hc
    obtain ⟨⟨⟨⟨⟨⟨⟨⟨⟨⟨a1, a2⟩, a3⟩, a4⟩, a5⟩, a6⟩, a7⟩, a8⟩, a9⟩, a10⟩, a11⟩ := all c x hx l
    rw [e]
    exact ⟨deq_ok a1, deq_ok a2, of_decide_eq_true a3, a4⟩
  · obtain ⟨x, hx, e, l⟩ := go c hc
    obtain ⟨⟨⟨⟨⟨⟨⟨⟨⟨⟨a1, a2⟩, a3⟩, a4⟩, a5⟩, a6⟩, a7⟩, a8⟩, a9⟩, a10⟩, a11⟩ := all c x hx l
    rw [e]
    exact deq_ok (List.all_eq_true.mp a9 f hf)
  · obtain ⟨a, ha, e, l⟩ := go x hx
    obtain ⟨b, hb, e', l'⟩ := go c hc
    obtain ⟨⟨⟨⟨⟨⟨⟨⟨⟨⟨a1, a2⟩, a3⟩, a4⟩, a5⟩, a6⟩, a7⟩, a8⟩, a9⟩, a10⟩, a11⟩ := all x a ha l
    rw [e, e']
    have h2 := List.all_eq_true.mp a11 c (List.mem_range.mpr l')
    rw [hb] at h2
    exact of_decide_eq_true h2
  · obtain ⟨x, hx, e, l⟩ := go c hc
    obtain ⟨⟨⟨⟨⟨⟨⟨⟨⟨⟨a1, a2⟩, a3⟩, a4⟩, a5⟩, a6⟩, a7⟩, a8⟩, a9⟩, a10⟩, a11⟩ := all c x hx l
    rw [e]
    exact of_decide_eq_true a10
theorem bt_len : bootBuiltins "len" = some (.builtin "len") := by decide +kernel
theorem bt_all : bootBuiltins "all" = some (.builtin "all") := by decide +kernel
theorem bt_any : bootBuiltins "any" = some (.builtin "any") := by decide +kernel
theorem bt_list : bootBuiltins "list" = some (.type "list") := by decide +kernel
theorem bt_tuple : bootBuiltins "tuple" = some (.type "tuple") := by decide +kernel
theorem bt_int : bootBuiltins "int" = some (.type "int") := by decide +kernel
theorem bt_bool : bootBuiltins "bool" = some (.type "bool") := by decide +kernel
theorem bt_str : bootBuiltins "str" = some (.type "str") := by decide +kernel
/-- a def's body keeps its promise -/
theorem def_ok {P : Program} {w : World} {K : PySem.W.Frag} {mg : Str → Option Value} {base : Heap} {R : RC} {name qual : Str} {params : Arguments} {body : List Stmt} {scope : Scope} {a : Addr} {N ps : List Str} {k : Nat} {f : FS}
    (F : ∃ fd, FunD K name qual params body scope [] [] a fd) (S : FnScope N ps scope)
    (hb : ∀ (kV doc pm : Value) (an : Option Addr) (cdv ct : Value) (us : List Value), us.length = ps.length → bindArgs (PySem.W.fnOf name qual params body scope .none kV doc pm an cdv ct) ⟨us, []⟩ = pure (ps.zip us))
    (h : ∀ (cdv : Value) (A : Around) (outer : List Env) (s : Shared) (H : Hp) (E : XK), Room k (cxOf (L2.CX P w) P w K mg base N qual scope a cdv A outer s H E).A →
      Takes (cxOf (L2.CX P w) P w K mg base N qual scope a cdv A outer s H E) (fun c d _ H' => E c d H') →
      PassesOwn (model P w) (cxOf (L2.CX P w) P w K mg base N qual scope a cdv A outer s H E).A (cxOf (L2.CX P w) P w K mg base N qual scope a cdv A outer s H E).env (cxOf (L2.CX P w) P w K mg base N qual scope a cdv A outer s H E).xe →
      PSs (cxOf (L2.CX P w) P w K mg base N qual scope a cdv A outer s H E) body (tS R (fun c d _ H' => E c d H') f)) :
    DefOk P w K mg base R (k + 1) a ps (runF N.length f) := by
  obtain ⟨fd, F⟩ := F
  refine ⟨fd, F.ok S (fun vs H Q E q => ?_) (fun cdv A outer s H vs Q E hr q => ⟨_, h cdv A outer s H E hr (takes_of rfl rfl rfl rfl) (passes_of rfl), run_body q⟩), F.bindsN hb, F.kp, fd_of F⟩
  obtain ⟨G, F', m, s, ws, _, r, hn, _⟩ := q
  rw [← r.length, hn]
end Sim

/-! Sim12: rooms; walks over a list that may change; an error's fields; x = [..] on one line. -/
namespace Sim
open PySem L2 Evl
theorem hu64 {k : Nat} {A : Around} (r : Room k A) : A.units + 64 < cLine := r.units
theorem hu65 {k : Nat} {A : Around} (r : Room k A) : A.units + 65 < cLine := by have := r.un; omega
theorem hu0 {k : Nat} {A : Around} (r : Room k A) : A.units < cLine := r.units0
section
variable {R : RC} {X : Cx} {W0 : WX} {a b e o tg : Expr} {fa fb fe : FE} {pos p : Pos} {es : List Expr} {fs : FA}
/-! ### an error's field -/
theorem sx_fld (T : XcOk R) (hK : X.K = R.K) {ea : Addr} {ei : Nat} {cls : Value} {d : Option Addr} {oe : Obj} {pn : List (Addr × Obj)} {f n : Str} {p2 : Pos} (hz : Zc cls d oe) (hf : ∃ vs, oe.data = .fields vs)
    (hn : PE (X.suite ea ((ea, oe) :: pn)) (.Name n p2) (tVar ei)) (hb : attributeBase (.Name n p2) f X.env (eval (.Name n p2) X.env) = eval (.Name n p2) X.env := by rfl) :
    PE (X.suite ea ((ea, oe) :: pn)) (.Attribute (.Name n p2) f pos) (tXE R ea ei cls d (cXf f)) := by
  refine ⟨fun pins s σ H Q I h => ?_⟩
  obtain ⟨x, G, F, m, st, E, hei, ok, en, rx, q⟩ := h
  unfold cXf at q
  split at q
  · rename_i i hi
    split at q
    · rename_i w hw
      obtain ⟨h1, h0, h2⟩ := rx
      obtain ⟨g1, g2, _⟩ := List.findIdx?_eq_some_iff_getElem.mp hi
      have g2' : (xflN x.c)[i] = f := by simpa using g2
      have gi : (xflN x.c)[i]? = some f := by rw [List.getElem?_eq_getElem g1, g2']
      rcases h2 with ⟨h3, _⟩ | ⟨dx, fs, h3, h4, h5⟩
      · rw [h3] at hw; cases hw
      · obtain ⟨v, l1, l2⟩ := h5 i f w gi hw
        refine (pe_xf (C := R.xcl x.c) (by rw [hK]; exact T.xf _ h0) (by rw [hK]; exact T.no _ h0 f (g2' ▸ List.getElem_mem g1)) hz hf hn hb).run pins s σ H Q I ⟨_, hei, rfl, h1, dx, fs, v, h3, ok.ex _ _ h4, l1, ?_⟩
        exact q F m H v (Ex.refl F) (Pre.refl m) ok (.p l2)
    · exact q.elim
  · exact q.elim
/-! ### walks over a cell's list -/
def WalkC (R : RC) (J : It) (k : Nat) (m0 : List Addr) : Prop := ∀ (G F : Hp) (m : List Addr) (s : S) (H : Hp), Pre m0 m → StOk R G F m s H → ∀ (i : Nat) (ws : List W), s[k]? = some (.lst ws) →
  (∀ w, ws[i]? = some w → J.go i H ∧ ∀ x H', J.yld i H x H' → H' = H ∧ RepW R F m w x) ∧ (ws.length ≤ i → J.stop i H)
abbrev FIC := En → S → Rs Nat
abbrev tIC (R : RC) (W : WX) (f : FIC) : TI := tG R (fun _ m k J => WalkC R J k m) W f
def cSeqC (fe : FE) : FIC := fun E s => (fe E s).bind fun w s1 => match w with
  | .cell k => (match s1[k]? with
    | some (.lst _) => .ok k s1
    | _ => .no)
  | _ => .no
theorem si_seqC (hK : X.K = R.K) (he : PE X e (tE R W0 fe)) : PI X tg e (tIC R W0 (cSeqC fe)) := by
  refine ⟨fun pins s σ H Rr I h => (pi_list (tg := tg) he).run pins s σ H Rr I ?_⟩
  obtain ⟨G, F, m, st, E, ok, en, q⟩ := h
  refine ⟨G, F, m, st, E, ok, en, got_bind q fun w s1 F1 m1 H1 v1 hh e1 p1 ok1 r1 q1 => ?_⟩
  clear hh
  split at q1
  · rename_i k
    split at q1
    · rename_i ws hws
      obtain ⟨a, ob, rfl, hk, hsk, cc⟩ := ok1.cellAt r1
      rw [hws] at hsk
      cases hsk
      obtain ⟨vs, h1, h2⟩ := cc
      refine ⟨a, rfl, ⟨vs, sq_of h1⟩, q1 F1 m1 H1 _ (Ex.refl F1) (Pre.refl m1) ok1 ?_⟩
      intro G2 F2 m2 s2 H2 pr ok2 i us hus
      have hk2 := pr.get hk
      obtain ⟨vs2, h3, h4⟩ := ok2.cell k a _ hk2 hus
      refine ⟨fun w hw => ?_, fun hi => ⟨vs2, sq_of h3, by rw [← h4.length]; exact hi⟩⟩
      obtain ⟨v, hv, rv⟩ := h4.get hw
      refine ⟨⟨vs2, v, sq_of h3, hv⟩, fun x H' y => ?_⟩
      obtain ⟨e2, y⟩ := y
      have e3 := y vs2 (sq_of h3)
      rw [hv] at e3
      cases e3
      exact ⟨e2, rv⟩
    · exact q1.elim
  · exact q1.elim
def forC (g : TgF) (body : FS) (k : Nat) : Nat → Nat → En → S → Fl
  | 0, _, _, _ => .no
  | n + 1, i, E, s => match s[k]? with
    | some (.lst ws) => (match ws[i]? with
      | none => .nx E s
      | some w => match g w E s with
        | none => .no
        | some E' => match body E' s with
          | .nx E1 s1 => forC g body k n (i + 1) E1 s1
          | .ct E1 s1 => forC g body k n (i + 1) E1 s1
          | .bk E1 s1 => .nx E1 s1
          | r => r)
    | _ => .no
def lenC (k : Nat) (s : S) : Nat := match s[k]? with
  | some (.lst ws) => ws.length + 1
  | _ => 0
def cForC (fi : FIC) (g : TgF) (body : FS) : FS := fun E s => match fi E s with
  | .ok k s1 => forC g body k (lenC k s1) 0 E s1
  | .exc x s1 => .xc x E s1
  | .no => .no
theorem got_forC {fi : FIC} {g : TgF} {body : FS} {G F : Hp} {m : List Addr} {E : En} {s : S} {D : Ends} {σ : L2.St} (en : EnvOk R F m E σ) (q : GotS R W0 G F m (cForC fi g body E s) D) {Q : It → Hp → Prop}
    (kk : ∀ k s1 F1 m1 H1 J, Ex F F1 → Pre m m1 → StOk R G F1 m1 s1 H1 → WalkC R J k m1 → GotS R W0 G F1 m1 (forC g body k (lenC k s1) 0 E s1) D → Q J H1) : Got R (fun _ m k J => WalkC R J k m) W0 G F m (fi E s) σ Q := by
  unfold cForC at q
  cases h : fi E s with
  | ok ps s1 =>
    rw [h] at q
    exact fun F1 m1 H1 J e1 p1 ok1 r1 => kk ps s1 F1 m1 H1 J e1 p1 ok1 r1 (GotS.mono e1 p1 q)
  | exc x s1 =>
    rw [h] at q
    exact fun F1 m1 H1 c d e1 p1 ok1 r1 => q F1 m1 H1 c d σ e1 p1 ok1 (en.mono e1 p1) r1
  | no => rw [h] at q; exact q.elim
theorem ss_forC {iter : Expr} {body : List Stmt} {fi : FIC} {g : TgF} {is : List Nat} {fb : FS} (hp : PassesOwn (model X.prog X.w) X.A X.env X.xe) (hc : X.calm = true) (hi : PI X tg iter (tIC R W0 fi)) (hg : PG X tg (gT R is g)) (hb : PSs X body (tS R W0 fb))
    (hs : ∀ x, foldedSetIterable iter X.env x = pure x := by intro _; rfl) : PS X (.For tg iter body [] pos) (tS R W0 (cForC fi g fb)) := PS.imp (ps_for hp hc hi hg hb hs) fun D σ H h => by
  obtain ⟨G, F, m, s, E, ok, en, q⟩ := h
  refine ⟨G, F, m, s, E, ok, en, got_forC en q fun k s1 F1 m1 H1 J e1 p1 ok1 wk q1 => ?_⟩
  refine ⟨fun i n σ' H' => ∃ F2 m2 s2 E2, Pre m1 m2 ∧ StOk R G F2 m2 s2 H' ∧ EnvOk R F2 m2 E2 σ' ∧ GotS R W0 G F2 m2 (forC g fb k n i E2 s2) D,
    ⟨_, F1, m1, s1, E, Pre.refl m1, ok1, en.mono e1 p1, q1⟩, ?_⟩
  rintro i n σ' H' ⟨F2, m2, s2, E2, pr2, ok2, en2, q2⟩
  cases n with
  | zero => exact q2.elim
  | succ n =>
    unfold forC at q2
    split at q2
    · rename_i ws hws
      obtain ⟨w1, w2⟩ := wk G F2 m2 s2 H' pr2 ok2 i ws hws
      split at q2
      · rename_i hn
        refine .inl ⟨w2 (List.getElem?_eq_none_iff.mp hn), ?_⟩
        exact q2 F2 m2 H' σ' (Ex.refl F2) (Pre.refl m2) ok2 en2
      · rename_i w hw
        obtain ⟨go, yl⟩ := w1 w hw
        refine .inr ⟨go, fun σ3 H3 => ∃ F3 m3 s3 E3, Pre m1 m3 ∧ StOk R G F3 m3 s3 H3 ∧ EnvOk R F3 m3 E3 σ3 ∧ GotS R W0 G F3 m3 (forC g fb k n (i + 1) E3 s3) D,
          fun σ3 H3 ⟨F3, m3, s3, E3, a1, a2, a3, a4⟩ => ⟨n, Nat.lt_succ_self n, F3, m3, s3, E3, a1, a2, a3, a4⟩, fun x H3 hy => ?_⟩
        obtain ⟨rfl, rx⟩ := yl x H3 hy
        refine ⟨G, F2, m2, s2, E2, w, ok2, en2, rx, ?_⟩
        cases hg' : g w E2 s2 with
        | none => simp only [hg'] at q2; exact q2.elim
        | some E' =>
          simp only [hg'] at q2
          intro σ4 en4 _
          refine ⟨G, F2, m2, s2, E', ok2, en4, ?_⟩
          cases hb' : fb E' s2 with
          | nx E5 s5 =>
            simp only [hb'] at q2
            exact fun F5 m5 H5 σ5 a1 a2 a3 a4 => ⟨F5, m5, s5, E5, pr2.trans a2, a3, a4, GotS.mono a1 a2 q2⟩
          | ct E5 s5 =>
            simp only [hb'] at q2
            exact fun F5 m5 H5 σ5 a1 a2 a3 a4 => ⟨F5, m5, s5, E5, pr2.trans a2, a3, a4, GotS.mono a1 a2 q2⟩
          | bk E5 s5 => simp only [hb'] at q2; exact q2
          | rt w s5 => simp only [hb'] at q2; exact q2
          | xc x E5 s5 => simp only [hb'] at q2; exact q2
          | no => simp only [hb'] at q2; exact q2.elim
    · exact q2.elim
/-! comprehensions over it -/
def compC (g : TgF) (t : FT) (e : FE) (E : En) (k : Nat) : Nat → Nat → S → Rs (List W)
  | 0, _, _ => .no
  | n + 1, i, s => match s[k]? with
    | some (.lst ws) => (match ws[i]? with
      | none => .ok [] s
      | some w => match g w E s with
        | none => .no
        | some E' => (t E' s).bindN fun b s1 => match b with
          | false => compC g t e E k n (i + 1) s1
          | true => (e E' s1).bindN fun w s2 => (compC g t e E k n (i + 1) s2).bindN fun ws s3 => .ok (w :: ws) s3)
    | _ => .no
def cLcC (att : Bool) (fi : FIC) (g : TgF) (t : FT) (e : FE) (own : List Nat) : FE := fun E s => (fi E s).bind fun k s1 => (compC g t e (wipeE E own) k (lenC k s1) 0 s1).bindN fun ws s2 => Rs.of (lstR att ws s2)
theorem redLcC {own : List (Str × Nat)} {fi : FIC} {g : TgF} {is : List Nat} {ft : FT} {att : Bool} (his : ∀ i ∈ is, i ∈ own.map (·.2)) {σ : L2.St} {H : Hp} {Q : VK} (h : tE R W0 (cLcC att fi g ft fe (own.map (·.2))) σ H Q) : tLc (tIC R W0 fi) (gT R is g) (tT R WF ft) (tE R WF fe) (own.map (·.2)) σ H Q := by
  obtain ⟨G, F, m, s, E, ok, en, q⟩ := h
  generalize own.map (·.2) = ow at *
  refine ⟨G, F, m, s, E, ok, en, got_bind q fun k s1 F1 m1 H1 J _ e1 p1 ok1 wk q1 => ?_⟩
  intro D hD
  have enW := (en.mono e1 p1).wipe ow
  have hGD : G D = none := by
    cases z : G D with
    | none => rfl
    | some u => rw [ok1.exG D u z] at hD; cases hD
  refine ⟨fun i n H' => ∃ F2 m2 s2 vs ws, Ex F1 F2 ∧ Pre m1 m2 ∧ StOk R (upd G D (.lst vs)) F2 m2 s2 H' ∧ RepWs R F2 m2 ws vs ∧
      Got R (RepW R) W0 G F2 m2 ((compC g ft fe (wipeE E ow) k n i s2).bindN fun us s3 => Rs.of (lstR att (ws ++ us) s3)) σ Q,
    ⟨_, F1, m1, s1, [], [], Ex.refl F1, Pre.refl m1, ok1.keep hD, .nil, by simpa using q1⟩, ?_⟩
  rintro i n H' ⟨F2, m2, s2, vs, ws, ex2, pr2, ok2, rw2, q2⟩
  cases n with
  | zero => exact q2.elim
  | succ n =>
    unfold compC at q2
    split at q2
    case h_2 => exact q2.elim
    rename_i us hus
    obtain ⟨w1, w2⟩ := wk _ F2 m2 s2 H' pr2 ok2 i us hus
    split at q2
    · rename_i hn
      refine .inl ⟨w2 (List.getElem?_eq_none_iff.mp hn), ?_⟩
      have q3 : Got R (RepW R) W0 G F2 m2 (Rs.of (lstR att ws s2)) σ Q := by simpa [Rs.bindN] using q2
      exact lst_end hGD ok2 rw2 q3
    · rename_i w hw
      obtain ⟨go, yl⟩ := w1 w hw
      refine .inr ⟨go, fun H3 => ∃ F3 m3 s3 vs ws, Ex F1 F3 ∧ Pre m1 m3 ∧ StOk R (upd G D (.lst vs)) F3 m3 s3 H3 ∧ RepWs R F3 m3 ws vs ∧
          Got R (RepW R) W0 G F3 m3 ((compC g ft fe (wipeE E ow) k n (i + 1) s3).bindN fun us s4 => Rs.of (lstR att (ws ++ us) s4)) σ Q,
        fun H3 ⟨F3, m3, s3, vs, ws, a1, a2, a3, a4, a5⟩ => ⟨n, Nat.lt_succ_self n, F3, m3, s3, vs, ws, a1, a2, a3, a4, a5⟩, fun x H3 hy => ?_⟩
      obtain ⟨rfl, rx⟩ := yl x H3 hy
      refine ⟨_, F2, m2, s2, wipeE E ow, w, ok2, enW.mono ex2 pr2, rx, ?_⟩
      cases hg' : g w (wipeE E ow) s2 with
      | none => simp only [hg'] at q2; exact q2.elim
      | some E' =>
        simp only [hg'] at q2
        intro σ4 en4 set4
        refine ⟨(set4 _ his).trans wipe_wipe, ?_⟩
        rw [bindN_assoc] at q2
        refine ⟨_, F2, m2, s2, E', ok2, en4, got_bindG q2 fun b s5 F5 m5 H5 b' _ e5 p5 ok5 rb q5 => ?_⟩
        cases rb
        cases b with
        | false =>
          rw [if_neg Bool.false_ne_true]
          exact ⟨F5, m5, s5, vs, ws, ex2.trans e5, pr2.trans p5, ok5, rw2.mono e5 p5, q5⟩
        | true =>
          rw [if_pos rfl]
          dsimp only at q5
          rw [bindN_assoc] at q5
          refine ⟨_, F5, m5, s5, E', ok5, en4.mono e5 p5, got_bindG q5 fun w s6 F6 m6 H6 v _ e6 p6 ok6 rv q6 => ?_⟩
          rw [bindN_assoc] at q6
          have rws := (rw2.mono e5 p5).mono e6 p6
          have lw := rws.length
          refine ⟨vs, ok6.exG D _ upd_same, ?_, F6, m6, s6, vs ++ [v], ws ++ [w], (ex2.trans e5).trans e6, (pr2.trans p5).trans p6, ok6.rekeep, rws.append (.cons rv .nil), ?_⟩
          · cases z : compC g ft fe (wipeE E ow) k n (i + 1) s6 with
            | ok us s7 =>
              rw [z] at q6
              have q7 : Got R (RepW R) W0 G F6 m6 (Rs.of (lstR att (ws ++ w :: us) s7)) σ Q := q6
              unfold lstR at q7
              split at q7
              · rename_i hl
                rw [List.length_append, List.length_cons] at hl
                rw [← lim_eq]
                omega
              · exact q7.elim
            | exc x s7 => rw [z] at q6; exact q6.elim
            | no => rw [z] at q6; exact q6.elim
          · cases z : compC g ft fe (wipeE E ow) k n (i + 1) s6 with
            | ok us s7 =>
              rw [z] at q6
              have q7 : Got R (RepW R) W0 G F6 m6 (Rs.of (lstR att (ws ++ w :: us) s7)) σ Q := q6
              show Got R (RepW R) W0 G F6 m6 (Rs.of (lstR att ((ws ++ [w]) ++ us) s7)) σ Q
              rw [List.append_assoc]
              exact q7
            | exc x s7 => rw [z] at q6; exact q6.elim
            | no => rw [z] at q6; exact q6.elim
theorem se_lcC {elt iter : Expr} {ifs : List Expr} {scope : Scope} {own : List (Str × Nat)} {fi : FIC} {g : TgF} {is : List Nat} {ft : FT} (att : Bool) (hc : X.calm = true) (hN : X.N.Nodup) (hi : PI X tg iter (tIC R W0 fi)) (okB : BlkOk X.N X.env.scope scope own)
    (hg : ∀ (s : Shared) (H : Hp) (C : Addr) (cl : List (Str × Addr)) (fp : List Addr), PG (X.blk s H scope (compEnvC scope cl C X.env) fp) tg (gT R is g)) (ht : ∀ (s : Shared) (H : Hp) (C : Addr) (cl : List (Str × Addr)) (fp : List Addr), PTs (X.blk s H scope (compEnvC scope cl C X.env) fp) ifs (tT R WF ft))
    (he : ∀ (s : Shared) (H : Hp) (C : Addr) (cl : List (Str × Addr)) (fp : List Addr), PE (X.blk s H scope (compEnvC scope cl C X.env) fp) elt (tE R WF fe)) (his : ∀ i ∈ is, i ∈ own.map (·.2) := by decide) (hs : ∀ x, foldedSetIterable iter X.env x = pure x := by intro _; rfl) :
    PE X (.ListComp elt [⟨tg, iter, ifs, 0⟩] scope pos) (tE R W0 (cLcC att fi g ft fe (own.map (·.2)))) := PE.imp (pe_lc hc hN hi okB hg ht he hs) fun σ H Q h => redLcC his h
/-! x = [..] on one line -/
theorem red_set {i : Nat} {D : Ends} {σ : L2.St} {H : Hp} {f : FE} {t : TE} (h : tS R W0 (cSet i f) D σ H) (k : ∀ Q, tE R W0 f σ H Q → t σ H Q) : tAsg t (gName i) D σ H := by
  obtain ⟨G, F, m, s, E, ok, en, q⟩ := h
  refine k _ ⟨G, F, m, s, E, ok, en, gotS_bind en q fun w s1 F1 m1 H1 v _ e1 p1 ok1 r1 q1 => ?_⟩
  exact q1 F1 m1 H1 _ (Ex.refl F1) (Pre.refl m1) ok1 ((en.mono e1 p1).set r1 i)
theorem ss_setLc {i : Nat} {y : Str} {py : Pos} {elt iter : Expr} {ifs : List Expr} {scope : Scope} {own : List (Str × Nat)} {spos : Pos} {fi : FI} {g : TgF} {is : List Nat} {ft : FT} (hc : X.calm = true) (hN : X.N.Nodup) (hy : X.N[i]? = some y) (hyl : X.env.scope.names.lookup y = some .local)
    (hsw : swapsWith (.ListComp elt [⟨tg, iter, ifs, 0⟩] scope pos) (some (.Name y py)) spos.line X.env = pure true) (att : Bool) (hi : PI X tg iter (tI R W0 fi)) (okB : BlkOk X.N X.env.scope scope own)
    (hg : ∀ (s : Shared) (H : Hp) (C : Addr) (cl : List (Str × Addr)) (fp : List Addr), PG (X.blk s H scope (compEnvC scope cl C X.env) fp) tg (gT R is g)) (ht : ∀ (s : Shared) (H : Hp) (C : Addr) (cl : List (Str × Addr)) (fp : List Addr), PTs (X.blk s H scope (compEnvC scope cl C X.env) fp) ifs (tT R WF ft))
    (he : ∀ (s : Shared) (H : Hp) (C : Addr) (cl : List (Str × Addr)) (fp : List Addr), PE (X.blk s H scope (compEnvC scope cl C X.env) fp) elt (tE R WF fe)) (his : ∀ i ∈ is, i ∈ own.map (·.2) := by decide) (hs : ∀ x, foldedSetIterable iter X.env x = pure x := by intro _; rfl) :
    PS X (.Assign [.Name y py] (.ListComp elt [⟨tg, iter, ifs, 0⟩] scope pos) spos) (tS R W0 (cSet i (cLc att fi g ft fe (own.map (·.2))))) := PS.imp (ps_setLc hc hN hy hyl hsw hi okB hg ht he hs) fun D σ H h => red_set h fun Q h => redLc his h
theorem ss_setLcC {i : Nat} {y : Str} {py : Pos} {elt iter : Expr} {ifs : List Expr} {scope : Scope} {own : List (Str × Nat)} {spos : Pos} {fi : FIC} {g : TgF} {is : List Nat} {ft : FT} (hc : X.calm = true) (hN : X.N.Nodup) (hy : X.N[i]? = some y) (hyl : X.env.scope.names.lookup y = some .local)
    (hsw : swapsWith (.ListComp elt [⟨tg, iter, ifs, 0⟩] scope pos) (some (.Name y py)) spos.line X.env = pure true) (att : Bool) (hi : PI X tg iter (tIC R W0 fi)) (okB : BlkOk X.N X.env.scope scope own)
    (hg : ∀ (s : Shared) (H : Hp) (C : Addr) (cl : List (Str × Addr)) (fp : List Addr), PG (X.blk s H scope (compEnvC scope cl C X.env) fp) tg (gT R is g)) (ht : ∀ (s : Shared) (H : Hp) (C : Addr) (cl : List (Str × Addr)) (fp : List Addr), PTs (X.blk s H scope (compEnvC scope cl C X.env) fp) ifs (tT R WF ft))
    (he : ∀ (s : Shared) (H : Hp) (C : Addr) (cl : List (Str × Addr)) (fp : List Addr), PE (X.blk s H scope (compEnvC scope cl C X.env) fp) elt (tE R WF fe)) (his : ∀ i ∈ is, i ∈ own.map (·.2) := by decide) (hs : ∀ x, foldedSetIterable iter X.env x = pure x := by intro _; rfl) :
    PS X (.Assign [.Name y py] (.ListComp elt [⟨tg, iter, ifs, 0⟩] scope pos) spos) (tS R W0 (cSet i (cLcC att fi g ft fe (own.map (·.2))))) := PS.imp (ps_setLc hc hN hy hyl hsw hi okB hg ht he hs) fun D σ H h => red_set h fun Q h => redLcC his h
end
end Sim

/-! Sim13: reckoning with the semantic functions. -/
namespace Sim
open PySem L2 Evl
/-! ### equal data -/
mutual
def P.beq : P → P → Bool
  | .non, .non => true
  | .bl a, .bl b => a == b
  | .int a, .int b => a == b
  | .str a, .str b => a == b
  | .tup a, .tup b => beqs a b
  | .lst a, .lst b => beqs a b
  | .scr a, .scr b => beqs a b
  | .ins c a, .ins d b => c == d && beqs a b
  | .fn a, .fn b => a == b
  | _, _ => false
def beqs : List P → List P → Bool
  | [], [] => true
  | a :: as, b :: bs => a.beq b && beqs as bs
  | _, _ => false
end
mutual
theorem P.beq_eq : ∀ {a b : P}, a.beq b = true → a = b
  | .non, b, h => by cases b <;> first | rfl | (simp [P.beq] at h)
  | .bl x, b, h => by cases b <;> simp [P.beq] at h <;> subst h <;> rfl
  | .int x, b, h => by cases b <;> simp [P.beq] at h <;> subst h <;> rfl
  | .str x, b, h => by cases b <;> simp [P.beq] at h <;> subst h <;> rfl
  | .tup x, b, h => by cases b <;> simp [P.beq] at h <;> rw [beqs_eq h]
  | .lst x, b, h => by cases b <;> simp [P.beq] at h <;> rw [beqs_eq h]
  | .scr x, b, h => by cases b <;> simp [P.beq] at h <;> rw [beqs_eq h]
  | .dic x, b, h => by cases b <;> simp [P.beq] at h
  | .ins c x, b, h => by
    cases b <;> simp [P.beq] at h
    obtain ⟨h1, h2⟩ := h
    rw [h1, beqs_eq h2]
  | .fn x, b, h => by cases b <;> simp [P.beq] at h <;> subst h <;> rfl
theorem beqs_eq : ∀ {a b : List P}, beqs a b = true → a = b
  | [], [], _ => rfl
  | x :: xs, y :: ys, h => by
    simp [beqs] at h
    rw [P.beq_eq h.1, beqs_eq h.2]
  | [], _ :: _, h => by simp [beqs] at h
  | _ :: _, [], h => by simp [beqs] at h
end
/-! ### calls -/
/-- what a call of plain things hands back -/
def valR (f : FF) (ps : List P) : Option P := match f (ps.map .p) [] with
  | .ok w s' => frz 0 8 s' w
  | _ => none
theorem callR_val {f : FF} {ps : List P} {p : P} {s : S} (h : valR f ps = some p) : callR false f (ps.map .p) s = .ok (.p p) s := by
  unfold valR at h
  unfold callR
  rw [plains_map]
  dsimp only
  split at h
  · rename_i w s' e
    rw [e]
    dsimp only [fin0]
    rw [h]
  · cases h
/-- the error of a call of plain things -/
def excR (f : FF) (ps : List P) : Option Xc := match f (ps.map .p) [] with
  | .exc x _ => some x
  | _ => none
theorem callR_exc {f : FF} {ps : List P} {x : Xc} {s : S} {att : Bool} (h : excR f ps = some x) : callR att f (ps.map .p) s = .exc x s := by
  unfold excR at h
  unfold callR
  rw [plains_map]
  dsimp only
  split at h
  · rename_i x' s' e
    rw [e]
    dsimp only
    rw [Option.some.inj h]
  · cases h
/-! ### loops -/
/-- what is promised of an end: of the next statement's start, of the value handed back -/
def Ends1 (r : Fl) (N : En → S → Prop) (Rt : W → S → Prop) : Prop := match r with
  | .nx E s => N E s
  | .rt w s => Rt w s
  | _ => False
theorem forL_inv {g : TgF} {body : FS} {I : En → S → Prop} {Rt : W → S → Prop} : ∀ (ps : List P) (E : En) (s : S), I E s →
    (∀ p ∈ ps, ∀ E s, I E s → ∃ E', g (.p p) E s = some E' ∧ Ends1 (body E' s) I Rt) → Ends1 (forL g body ps E s) I Rt
  | [], E, s, h, _ => h
  | p :: ps, E, s, h, k => by
    obtain ⟨E', e, q⟩ := k p List.mem_cons_self E s h
    unfold forL
    rw [e]
    dsimp only
    cases z : body E' s with
    | nx E1 s1 =>
      rw [z] at q
      exact forL_inv ps E1 s1 q fun p hp => k p (List.mem_cons_of_mem _ hp)
    | rt w s1 => rw [z] at q; exact q
    | bk E1 s1 => rw [z] at q; exact q.elim
    | ct E1 s1 => rw [z] at q; exact q.elim
    | xc x E1 s1 => rw [z] at q; exact q.elim
    | no => rw [z] at q; exact q.elim
/-! ### drawing -/
def B_pick : FS :=
    (cSq (cIfS (cB (cBin (eqF false) (cBin ixF (cVar 0) (cP (.int 2))) (cP (.int 0))))
    (cIfS (cB (cBin ltF (cBin ixF (cVar 0) (cP (.int 1))) (cCB lenF (cCons (cBin ixF (cVar 0) (cP (.int 0))) cNil))))
    (cSq (cSet 2 (cBin ixF (cBin ixF (cVar 0) (cP (.int 0))) (cBin ixF (cVar 0) (cP (.int 1)))))
    (cSq (cSub setL (cBin addF (cBin ixF (cVar 0) (cP (.int 1))) (cP (.int 1))) (cVar 0) (cP (.int 1)))
    (cIfS (cB (cBin geF (cVar 2) (cBin powF (cP (.int 10)) (cP (.int 18)))))
    (cSub setL (cVar 2) (cVar 0) (cP (.int 2)))
    (cSub setL (cBin modF (cCB intC (cCons (cBin addF (cBin addF (cBin mulF (cBin ixF (cVar 0) (cP (.int 3))) (cP (.int 48271))) (cBin mulF (cVar 2) (cP (.int 69621)))) (cP (.int 11))) cNil)) (cP (.int 2147483647))) (cVar 0) (cP (.int 3))))))
    (cSub setL (cBin modF (cCB intC (cCons (cBin addF (cBin mulF (cBin ixF (cVar 0) (cP (.int 3))) (cP (.int 48271))) (cP (.int 7))) cNil)) (cP (.int 2147483647))) (cVar 0) (cP (.int 3))))
    cNil')
    (cSq (cIfS (cB (cBin gtF (cBin ixF (cVar 0) (cP (.int 2))) (cP (.int 0))))
    (cSq (cSet 3 (cBin modF (cCB intC (cCons (cBin ixF (cVar 0) (cP (.int 2))) cNil)) (cVar 1)))
    (cSq (cSub setL (cBin fdivF (cBin ixF (cVar 0) (cP (.int 2))) (cVar 1)) (cVar 0) (cP (.int 2)))
    (cRet (cVar 3))))
    cNil')
    (cRet (cBin modF (cBin modF (cCB intC (cCons (cBin mulF (cBin ixF (cVar 0) (cP (.int 3))) (cP (.int 16807))) cNil)) (cP (.int 2147483629))) (cVar 1)))))
def F_pick : FF := runF 4 B_pick
/-! ### evaluation, step by step -/
section
variable {α β : Type} {a : α} {s : S} {x : Xc} {E : En} {w : W}
theorem bind_ok {g : α → S → Rs β} : (Rs.ok a s).bind g = g a s := rfl
theorem bind_exc {g : α → S → Rs β} : (Rs.exc x s : Rs α).bind g = .exc x s := rfl
theorem bindN_ok {g : α → S → Rs β} : (Rs.ok a s).bindN g = g a s := rfl
theorem stB_ok {k : α → S → Fl} : stB (.ok a s) E k = k a s := rfl
theorem stB_exc {k : α → S → Fl} : stB (.exc x s : Rs α) E k = .xc x E s := rfl
theorem of_some : Rs.of (some (a, s)) = .ok a s := rfl
theorem bind_cg {r r' : Rs α} {g : α → S → Rs β} (h : r = r') : r.bind g = r'.bind g := by rw [h]
theorem bindN_cg {r r' : Rs α} {g : α → S → Rs β} (h : r = r') : r.bindN g = r'.bindN g := by rw [h]
theorem stB_cg {r r' : Rs α} {g : α → S → Fl} (h : r = r') : stB r E g = stB r' E g := by rw [h]
def Fl.thn (r : Fl) (g : FS) : Fl := match r with
  | .nx E1 s1 => g E1 s1
  | r => r
theorem thn_cg {r r' : Fl} {g : FS} (h : r = r') : r.thn g = r'.thn g := by rw [h]
theorem thn_nx {g : FS} : (Fl.nx E s).thn g = g E s := rfl
theorem thn_rt {g : FS} : (Fl.rt w s).thn g = .rt w s := rfl
theorem thn_xc {g : FS} : (Fl.xc x E s).thn g = .xc x E s := rfl
theorem e_sq {f g : FS} : cSq f g E s = (f E s).thn g := rfl
theorem e_nil' : cNil' E s = .nx E s := rfl
theorem e_set {i : Nat} {f : FE} : cSet i f E s = stB (f E s) E fun w s1 => .nx (E.set i (some w)) s1 := rfl
theorem e_ex {f : FE} : cEx f E s = stB (f E s) E fun _ s1 => .nx E s1 := rfl
theorem e_ret {f : FE} : cRet f E s = stB (f E s) E fun w s1 => .rt w s1 := rfl
theorem e_ifS {t : FT} {f g : FS} : cIfS t f g E s = stB (t E s) E fun b s1 => if b = true then f E s1 else g E s1 := by
  unfold cIfS
  congr
  funext b s1
  cases b <;> rfl
theorem e_if {t : FT} {f g : FE} : cIf t f g E s = (t E s).bind fun b s1 => if b = true then f E s1 else g E s1 := by
  unfold cIf
  congr
  funext b s1
  cases b <;> rfl
theorem e_bin {g : F2} {fa fb : FE} : cBin g fa fb E s = (fa E s).bind fun a s1 => (fb E s1).bind fun b s2 => Rs.of (g a b s2) := rfl
theorem e_un {g : F1} {fa : FE} : cUn g fa E s = (fa E s).bind fun a s1 => Rs.of (g a s1) := rfl
theorem e_p {p : P} : cP p E s = .ok (.p p) s := rfl
theorem e_nil : cNil E s = .ok [] s := rfl
theorem e_cons {fa : FE} {fs : FA} : cCons fa fs E s = (fa E s).bind fun a s1 => (fs E s1).bind fun ws s2 => .ok (a :: ws) s2 := rfl
theorem e_tup {fs : FA} : cTup fs E s = (fs E s).bind fun ws s1 => Rs.of (tupR ws s1) := rfl
theorem e_lst {att : Bool} {fs : FA} : cLst att fs E s = (fs E s).bind fun ws s1 => Rs.of (lstR att ws s1) := rfl
theorem e_cb {g : FN} {fs : FA} : cCB g fs E s = (fs E s).bind fun ws s1 => Rs.of (g ws s1) := rfl
theorem e_call {att : Bool} {f : FF} {fs : FA} : cCall att f fs E s = (fs E s).bind fun ws s1 => callR att f ws s1 := rfl
theorem e_make {att : Bool} {c : Nat} {f : FF} {fs : FA} : cMake att c f fs E s = (fs E s).bind fun ws s1 => makeR att c f ws s1 := rfl
theorem e_var {i : Nat} (h : E[i]? = some (some w)) : cVar i E s = .ok w s := by
  unfold cVar
  rw [h]
theorem e_B {f : FE} : cB f E s = (f E s).bind fun w s1 => match bl? w with
  | some b => .ok b s1
  | none => .no := rfl
theorem bl_bl {b : Bool} : bl? (.p (.bl b)) = some b := rfl
theorem e_tru {f : FE} : cTru f E s = (f E s).bind fun w s1 => match truF s1 w with
  | some b => .ok b s1
  | none => .no := rfl
theorem e_not {f : FT} : cNot f E s = (f E s).bind fun b s1 => .ok (!b) s1 := rfl
theorem e_and {f g : FT} : cAnd f g E s = (f E s).bind fun b s1 => if b = true then g E s1 else .ok false s1 := by
  unfold cAnd
  congr
  funext b s1
  cases b <;> rfl
theorem e_or {f g : FT} : cOr f g E s = (f E s).bind fun b s1 => if b = true then .ok true s1 else g E s1 := by
  unfold cOr
  congr
  funext b s1
  cases b <;> rfl
theorem e_par {is : List Nat} {fs : FA} : cPar is fs E s = stB (fs E s) E fun ws s1 => if ws.length = is.length then .nx (setW is ws E) s1 else .no := rfl
theorem e_sub {g : FSt} {fe fo fi : FE} : cSub g fe fo fi E s = stB (fe E s) E fun v s1 => stB (fo E s1) E fun o s2 => stB (fi E s2) E fun i s3 => match g o i v s3 with
  | some s4 => .nx E s4
  | none => .no := rfl
theorem add_int {i j : Int} : addF (.p (.int i)) (.p (.int j)) s = some (.p (.int (i + j)), s) := rfl
theorem sub_int {i j : Int} : subF (.p (.int i)) (.p (.int j)) s = some (.p (.int (i - j)), s) := rfl
theorem le_int {i j : Int} : leF (.p (.int i)) (.p (.int j)) s = some (.p (.bl (decide (i ≤ j))), s) := rfl
theorem lt_int {i j : Int} : ltF (.p (.int i)) (.p (.int j)) s = some (.p (.bl (decide (i < j))), s) := rfl
theorem gt_int {i j : Int} : gtF (.p (.int i)) (.p (.int j)) s = some (.p (.bl (decide (j < i))), s) := rfl
theorem ge_int {i j : Int} : geF (.p (.int i)) (.p (.int j)) s = some (.p (.bl (decide (j ≤ i))), s) := rfl
theorem mod_int {i j : Int} (h : 0 < j) : modF (.p (.int i)) (.p (.int j)) s = some (.p (.int (i % j)), s) := by
  unfold modF intF
  simp [h]
theorem fdiv_int {i j : Int} (h : 0 < j) (h' : j < 1073741824) : fdivF (.p (.int i)) (.p (.int j)) s = some (.p (.int (i / j)), s) := by
  unfold fdivF intF
  simp [h, h']
theorem mul_int {i j : Int} (h : small j = true) : mulF (.p (.int i)) (.p (.int j)) s = some (.p (.int (i * j)), s) := by
  unfold mulF
  simp [h]
theorem int_int {i : Int} : intC [.p (.int i)] s = some (.p (.int i), s) := rfl
theorem len_lst {ps : List P} : lenF [.p (.lst ps)] s = some (.p (.int ps.length), s) := rfl
theorem ix_lst {ps : List P} {q : P} {i : Int} (h : atI ps i = some q) : ixF (.p (.lst ps)) (.p (.int i)) s = some (.p q, s) := by
  unfold ixF
  simp [h]
theorem ix_tup {ps : List P} {q : P} {i : Int} (h : atI ps i = some q) : ixF (.p (.tup ps)) (.p (.int i)) s = some (.p q, s) := by
  unfold ixF
  simp [h]
theorem eqF_int (neg : Bool) (i j : Int) : eqF neg (.p (.int i)) (.p (.int j)) s = some (.p (.bl (if neg = true then !decide (i = j) else decide (i = j))), s) := by
  have f : ∀ z : Int, fitD (.int z) = true := fun z => by simp [fitD, P.okD, P.toD, PyData.depth]
  unfold eqF
  simp only [frz, f, Bool.and_self, if_true, P.toD, PyData.eqv]
  congr
  all_goals rw [beq_eq_decide]
theorem atI_nat {α : Type} (xs : List α) {i : Nat} (h : i < xs.length) : atI xs (i : Int) = some xs[i] := by
  have e : ixN xs.length (i : Int) = some i := by unfold ixN; simp; omega
  unfold atI
  rw [e]
  simp [h]
theorem atI_mem {α : Type} {xs : List α} {i : Int} (h0 : 0 ≤ i) (h : i < xs.length) : ∃ q, atI xs i = some q ∧ q ∈ xs := by
  obtain ⟨n, rfl⟩ := Int.eq_ofNat_of_zero_le h0
  have hn : n < xs.length := by omega
  exact ⟨xs[n], atI_nat xs hn, List.getElem_mem hn⟩
end
/-! ### the row of draws -/
structure DRow where
  ns : List Int
  i : Nat
  c : Int
  d : Int
def rowO (r : DRow) : O := .lst [.p (.lst (r.ns.map .int)), .p (.int r.i), .p (.int r.c), .p (.int r.d)]
def DRow.step (r : DRow) : DRow := if r.c = 0 then (if h : r.i < r.ns.length then (if 1000000000000000000 ≤ r.ns[r.i] then ⟨r.ns, r.i + 1, r.ns[r.i], r.d⟩ else ⟨r.ns, r.i + 1, r.c, (r.d * 48271 + r.ns[r.i] * 69621 + 11) % 2147483647⟩) else ⟨r.ns, r.i, r.c, (r.d * 48271 + 7) % 2147483647⟩) else r
def DRow.draw (r : DRow) (m : Int) : Int := if 0 < r.step.c then r.step.c % m else r.step.d * 16807 % 2147483629 % m
def DRow.next (r : DRow) (m : Int) : DRow := if 0 < r.step.c then ⟨r.step.ns, r.step.i, r.step.c / m, r.step.d⟩ else r.step
theorem DRow.draw_range (r : DRow) {m : Int} (h : 0 < m) : 0 ≤ r.draw m ∧ r.draw m < m := by
  unfold DRow.draw
  split
  · exact ⟨Int.emod_nonneg _ (by omega), Int.emod_lt_of_pos _ h⟩
  · exact ⟨Int.emod_nonneg _ (by omega), Int.emod_lt_of_pos _ h⟩
theorem DRow.step_c {r : DRow} (h : 0 ≤ r.c) : 0 ≤ r.step.c := by
  unfold DRow.step
  split
  · split
    · split
      · dsimp only; omega
      · exact h
    · exact h
  · exact h
theorem DRow.next_c {r : DRow} (h : 0 ≤ r.c) {m : Int} (hm : 0 < m) : 0 ≤ (r.next m).c := by
  unfold DRow.next
  split
  · rename_i hc
    exact Int.ediv_nonneg (Int.le_of_lt hc) (Int.le_of_lt hm)
  · exact DRow.step_c h
section
variable {r : DRow} {many : Int} {t : S}
abbrev E4 (many : Int) (a b : Option W) : En := [some (.cell 0), some (.p (.int many)), a, b]
theorem row0 : ixF (.cell 0) (.p (.int 0)) (rowO r :: t) = some (.p (.lst (r.ns.map .int)), rowO r :: t) := rfl
theorem row1 : ixF (.cell 0) (.p (.int 1)) (rowO r :: t) = some (.p (.int r.i), rowO r :: t) := rfl
theorem row2 : ixF (.cell 0) (.p (.int 2)) (rowO r :: t) = some (.p (.int r.c), rowO r :: t) := rfl
theorem row3 : ixF (.cell 0) (.p (.int 3)) (rowO r :: t) = some (.p (.int r.d), rowO r :: t) := rfl
theorem set1 {j : Nat} : setL (.cell 0) (.p (.int 1)) (.p (.int (j + 1))) (rowO r :: t) = some (rowO ⟨r.ns, j + 1, r.c, r.d⟩ :: t) := rfl
theorem set2 {j : Int} : setL (.cell 0) (.p (.int 2)) (.p (.int j)) (rowO r :: t) = some (rowO ⟨r.ns, r.i, j, r.d⟩ :: t) := rfl
theorem set3 {j : Int} : setL (.cell 0) (.p (.int 3)) (.p (.int j)) (rowO r :: t) = some (rowO ⟨r.ns, r.i, r.c, j⟩ :: t) := rfl
theorem pow18 {s : S} : powF (.p (.int 10)) (.p (.int 18)) s = some (.p (.int 1000000000000000000), s) := by rfl
def B_pick1 : FS := (cIfS (cB (cBin (eqF false) (cBin ixF (cVar 0) (cP (.int 2))) (cP (.int 0))))
    (cIfS (cB (cBin ltF (cBin ixF (cVar 0) (cP (.int 1))) (cCB lenF (cCons (cBin ixF (cVar 0) (cP (.int 0))) cNil))))
    (cSq (cSet 2 (cBin ixF (cBin ixF (cVar 0) (cP (.int 0))) (cBin ixF (cVar 0) (cP (.int 1)))))
    (cSq (cSub setL (cBin addF (cBin ixF (cVar 0) (cP (.int 1))) (cP (.int 1))) (cVar 0) (cP (.int 1)))
    (cIfS (cB (cBin geF (cVar 2) (cBin powF (cP (.int 10)) (cP (.int 18)))))
    (cSub setL (cVar 2) (cVar 0) (cP (.int 2)))
    (cSub setL (cBin modF (cCB intC (cCons (cBin addF (cBin addF (cBin mulF (cBin ixF (cVar 0) (cP (.int 3))) (cP (.int 48271))) (cBin mulF (cVar 2) (cP (.int 69621)))) (cP (.int 11))) cNil)) (cP (.int 2147483647))) (cVar 0) (cP (.int 3))))))
    (cSub setL (cBin modF (cCB intC (cCons (cBin addF (cBin mulF (cBin ixF (cVar 0) (cP (.int 3))) (cP (.int 48271))) (cP (.int 7))) cNil)) (cP (.int 2147483647))) (cVar 0) (cP (.int 3))))
    cNil')
theorem at0 {a b c d : Option W} : [a, b, c, d][0]? = some a := rfl
theorem at1 {a b c d : Option W} : [a, b, c, d][1]? = some b := rfl
theorem at2 {a b c d : Option W} : [a, b, c, d][2]? = some c := rfl
theorem at3 {a b c d : Option W} : [a, b, c, d][3]? = some d := rfl
theorem st2 {a b c d x : Option W} : [a, b, c, d].set 2 x = [a, b, x, d] := rfl
theorem st3 {a b c d x : Option W} : [a, b, c, d].set 3 x = [a, b, c, x] := rfl
theorem pick1 : ∃ b : Option W, B_pick1 (E4 many none none) (rowO r :: t) = .nx (E4 many b none) (rowO r.step :: t) := by
  have s1 : small 48271 = true := rfl
  have s2 : small 69621 = true := rfl
  have m1 : (0 : Int) < 2147483647 := by decide
  by_cases hc : r.c = 0
  · by_cases hi : r.i < r.ns.length
    · have hx : atI (r.ns.map P.int) (r.i : Int) = some (.int r.ns[r.i]) := by
        have := atI_nat (r.ns.map P.int) (i := r.i) (by simpa using hi)
        simpa using this
      have hi' : (r.i : Int) < ((r.ns.map P.int).length : Int) := by simpa using hi
      by_cases hz : (1000000000000000000 : Int) ≤ r.ns[r.i]
      · refine ⟨some (.p (.int r.ns[r.i])), ?_⟩
        have e : r.step = ⟨r.ns, r.i + 1, r.ns[r.i], r.d⟩ := by unfold DRow.step; rw [if_pos hc, dif_pos hi, if_pos hz]
        rw [e]
        simp only [B_pick1, e_ifS, e_B, e_bin, e_var at0, e_var at1, e_var at2, e_p, bind_ok, of_some, row0, row1, row2, row3, eqF_int, bl_bl, stB_ok, hc, decide_true, if_true, Bool.false_eq_true, if_false, lt_int, e_cb, e_cons, e_nil, len_lst, decide_eq_true hi', e_sq, e_set, ix_lst hx, thn_nx, st2, e_sub, add_int, set1, pow18, ge_int, hz, set2]
      · refine ⟨some (.p (.int r.ns[r.i])), ?_⟩
        have e : r.step = ⟨r.ns, r.i + 1, r.c, (r.d * 48271 + r.ns[r.i] * 69621 + 11) % 2147483647⟩ := by unfold DRow.step; rw [if_pos hc, dif_pos hi, if_neg hz]
        rw [e]
        simp only [B_pick1, e_ifS, e_B, e_bin, e_var at0, e_var at1, e_var at2, e_p, bind_ok, of_some, row0, row1, row2, row3, eqF_int, bl_bl, stB_ok, hc, decide_true, if_true, Bool.false_eq_true, if_false, lt_int, e_cb, e_cons, e_nil, len_lst, decide_eq_true hi', e_sq, e_set, ix_lst hx, thn_nx, st2, e_sub, add_int, set1, pow18, ge_int, hz, decide_false, mul_int s1, mul_int s2, int_int, mod_int m1, set3]
    · refine ⟨none, ?_⟩
      have e : r.step = ⟨r.ns, r.i, r.c, (r.d * 48271 + 7) % 2147483647⟩ := by unfold DRow.step; rw [if_pos hc, dif_neg hi]
      have hi' : ¬ (r.i : Int) < ((r.ns.map P.int).length : Int) := by simpa using hi
      rw [e]
      simp only [B_pick1, e_ifS, e_B, e_bin, e_var at0, e_var at1, e_var at2, e_p, bind_ok, of_some, row0, row1, row2, row3, eqF_int, bl_bl, stB_ok, hc, decide_true, if_true, Bool.false_eq_true, if_false, lt_int, e_cb, e_cons, e_nil, len_lst, decide_eq_false hi', e_sub, add_int, mul_int s1, int_int, mod_int m1, set3]
  · refine ⟨none, ?_⟩
    have e : r.step = r := by unfold DRow.step; rw [if_neg hc]
    rw [e]
    simp only [B_pick1, e_ifS, e_B, e_bin, e_var at0, e_p, bind_ok, of_some, row2, eqF_int, bl_bl, stB_ok, hc, decide_false, Bool.false_eq_true, if_false, e_nil']
theorem pick_eq (hm : 0 < many) (hm2 : many < 1073741824) : F_pick [.cell 0, .p (.int many)] (rowO r :: t) = .ok (.p (.int (r.draw many))) (rowO (r.next many) :: t) := by
  have s1 : small 16807 = true := rfl
  have m1 : (0 : Int) < 2147483629 := by decide
  obtain ⟨b, hb⟩ := pick1 (r := r) (many := many) (t := t)
  have e : F_pick [.cell 0, .p (.int many)] (rowO r :: t) = match (B_pick1 (E4 many none none) (rowO r :: t)).thn (cSq (cIfS (cB (cBin gtF (cBin ixF (cVar 0) (cP (.int 2))) (cP (.int 0))))
    (cSq (cSet 3 (cBin modF (cCB intC (cCons (cBin ixF (cVar 0) (cP (.int 2))) cNil)) (cVar 1)))
    (cSq (cSub setL (cBin fdivF (cBin ixF (cVar 0) (cP (.int 2))) (cVar 1)) (cVar 0) (cP (.int 2)))
    (cRet (cVar 3))))
    cNil')
    (cRet (cBin modF (cBin modF (cCB intC (cCons (cBin mulF (cBin ixF (cVar 0) (cP (.int 3))) (cP (.int 16807))) cNil)) (cP (.int 2147483629))) (cVar 1)))) with
    | .nx _ s1 => .ok (.p .non) s1
    | .rt w s1 => .ok w s1
    | .xc x _ s1 => .exc x s1
    | _ => .no := rfl
  rw [e, hb]
  unfold DRow.draw DRow.next
  by_cases hc : 0 < r.step.c
  · rw [if_pos hc, if_pos hc]
    simp only [thn_nx, e_sq, e_ifS, e_B, e_bin, e_var at0, e_var at1, e_var at3, e_p, bind_ok, of_some, row2, gt_int, bl_bl, stB_ok, hc, decide_true, if_true, e_set, e_cb, e_cons, e_nil, int_int, mod_int hm, st3, e_sub, fdiv_int hm hm2, set2, e_ret, thn_rt]
  · rw [if_neg hc, if_neg hc]
    simp only [thn_nx, e_sq, e_ifS, e_B, e_bin, e_var at0, e_var at1, e_var at3, e_p, bind_ok, of_some, row2, row3, gt_int, bl_bl, stB_ok, hc, decide_false, Bool.false_eq_true, if_false, e_nil', e_cb, e_cons, e_nil, mul_int s1, int_int, mod_int hm, mod_int m1, e_ret]
/-- a draw in a def -/
theorem call_pick (hm : 0 < many) (hm2 : many < 1073741824) (lo : lowOk (t.length + 1) (rowO (r.next many) :: t) = true) : callR false F_pick [.cell 0, .p (.int many)] (rowO r :: t) = .ok (.p (.int (r.draw many))) (rowO (r.next many) :: t) := by
  unfold callR
  dsimp only [plains]
  rw [pick_eq hm hm2]
  dsimp only [fin1, frz, List.length_cons]
  rw [if_pos lo]
  simp
end
end Sim

/-! Sim14: more of the reckoning. -/
namespace Sim
open PySem L2 Evl
section
variable {α β : Type} {s : S} {x : Xc} {E : En} {w : W} {a b c : P}
def varR : Option (Option W) → S → Rs W
  | some (some w), s => .ok w s
  | _, _ => .no
theorem e_varR {i : Nat} : cVar i E s = varR E[i]? s := by
  unfold cVar varR
  cases E[i]? with
  | none => rfl
  | some o => cases o <;> rfl
theorem varR_some : varR (some (some w)) s = .ok w s := rfl
/-! == -/
def eqV (neg : Bool) (a b : P) : Option Bool := if fitD a && fitD b then some (if neg then !PyData.eqv a.toD b.toD else PyData.eqv a.toD b.toD) else none
theorem eqF_val {neg v : Bool} (h : eqV neg a b = some v) : eqF neg (.p a) (.p b) s = some (.p (.bl v), s) := by
  unfold eqV at h
  unfold eqF
  simp only [frz]
  split at h
  · rename_i hf
    rw [if_pos hf]
    cases neg <;> simp at h ⊢ <;> exact h
  · cases h
theorem isN_non : isNF false (.p .non) (.p .non) s = some (.p (.bl true), s) := rfl
theorem isnt_non : isNF true (.p .non) (.p .non) s = some (.p (.bl false), s) := rfl
theorem isN_str {z : Str} : isNF false (.p (.str z)) (.p .non) s = some (.p (.bl false), s) := rfl
theorem isnt_str {z : Str} : isNF true (.p (.str z)) (.p .non) s = some (.p (.bl true), s) := rfl
/-! calls -/
theorem call1 {f : FF} (h : valR f [a] = some b) : callR false f [.p a] s = .ok (.p b) s := callR_val h
theorem call2 {f : FF} {a2 : P} (h : valR f [a, a2] = some b) : callR false f [.p a, .p a2] s = .ok (.p b) s := callR_val h
theorem call3 {f : FF} {a2 a3 : P} (h : valR f [a, a2, a3] = some b) : callR false f [.p a, .p a2, .p a3] s = .ok (.p b) s := callR_val h
theorem e_prop {att : Bool} {k : Nat} {f : FF} {fe : FE} : cProp att k f fe E s = (fe E s).bind fun w s1 => if insC s1 w = some k then noX (callR att f [w] s1) else .no := rfl
theorem insC_ins {k : Nat} {ps : List P} : insC s (.p (.ins k ps)) = some k := rfl
theorem noX_ok : noX (.ok w s) = .ok w s := rfl
theorem eqO_val {neg v : Bool} {k : Nat} {f : FF} {ps : List P} (h : valR f [.ins k ps, b] = some (.bl v)) (t : ∃ u, tag s (.p b) = some u) : eqO neg k f (.p (.ins k ps)) (.p b) s = some (.p (.bl (if neg then !v else v)), s) := by
  obtain ⟨u, hu⟩ := t
  unfold eqO
  rw [insC_ins, if_pos rfl, hu, call2 h]
/-! displays -/
theorem lstT {ws : List W} (h : ws.length ≤ 16777216) : lstR true ws s = some (.cell s.length, s ++ [.lst ws]) := by
  unfold lstR
  rw [if_pos h]
theorem lstF {ws : List W} {ps : List P} (h : ws.length ≤ 16777216) (hp : plains ws = some ps) : lstR false ws s = some (.p (.lst ps), s) := by
  unfold lstR
  rw [if_pos h]
  simp [hp]
theorem lst0 : lstR false [] s = some (.p (.lst []), s) := lstF (by simp) rfl
theorem lst1 {p1 : P} : lstR false [.p p1] s = some (.p (.lst [p1]), s) := lstF (by simp) rfl
theorem lst2 {p1 p2 : P} : lstR false [.p p1, .p p2] s = some (.p (.lst [p1, p2]), s) := lstF (by simp) rfl
theorem lst3 {p1 p2 p3 : P} : lstR false [.p p1, .p p2, .p p3] s = some (.p (.lst [p1, p2, p3]), s) := lstF (by simp) rfl
theorem lst4 {p1 p2 p3 p4 : P} : lstR false [.p p1, .p p2, .p p3, .p p4] s = some (.p (.lst [p1, p2, p3, p4]), s) := lstF (by simp) rfl
theorem tupF {ws : List W} {ps : List P} (h : ws.length ≤ 16777216) (hp : plains ws = some ps) : tupR ws s = some (.p (.tup ps), s) := by
  unfold tupR
  rw [if_pos h]
  simp [hp]
theorem tup0 : tupR [] s = some (.p (.tup []), s) := tupF (by simp) rfl
theorem tup1 {p1 : P} : tupR [.p p1] s = some (.p (.tup [p1]), s) := tupF (by simp) rfl
theorem tup2 {p1 p2 : P} : tupR [.p p1, .p p2] s = some (.p (.tup [p1, p2]), s) := tupF (by simp) rfl
theorem tup3 {p1 p2 p3 : P} : tupR [.p p1, .p p2, .p p3] s = some (.p (.tup [p1, p2, p3]), s) := tupF (by simp) rfl
theorem tup4 {p1 p2 p3 p4 : P} : tupR [.p p1, .p p2, .p p3, .p p4] s = some (.p (.tup [p1, p2, p3, p4]), s) := tupF (by simp) rfl
theorem tup5 {p1 p2 p3 p4 p5 : P} : tupR [.p p1, .p p2, .p p3, .p p4, .p p5] s = some (.p (.tup [p1, p2, p3, p4, p5]), s) := tupF (by simp) rfl
theorem listF_scr {ps : List P} (h : ps.length ≤ 16777216) : listF false [.p (.scr ps)] s = some (.p (.lst ps), s) := by
  unfold listF
  dsimp only [itS]
  exact lstF (by simpa using h) (plains_map ps)
theorem tag_p {p : P} : tag s (.p p) = tag [] (.p p) := by cases p <;> rfl
theorem tru_bl {b : Bool} : truF s (.p (.bl b)) = some b := rfl
theorem e_app {fo fe : FE} {k : Nat} {s1 s2 : S} {ws ws' : List W} (h1 : fo E s = .ok (.cell k) s1) (h2 : s1[k]? = some (.lst ws)) (h3 : fe E s1 = .ok w s2) (h4 : s2[k]? = some (.lst ws')) (h5 : ws'.length < 16777216) : cApp fo fe E s = .ok (.p .non) (s2.set k (.lst (ws' ++ [w]))) := by
  unfold cApp
  rw [h1]
  dsimp only [bind_ok]
  rw [h2]
  dsimp only
  rw [h3]
  dsimp only [bind_ok, appF]
  rw [h4]
  dsimp only
  rw [if_pos h5]
  rfl
theorem e_lcC {att : Bool} {fi : FIC} {g : TgF} {t : FT} {e : FE} {own : List Nat} {k : Nat} {s1 s2 : S} {ws : List W} (h1 : fi E s = .ok k s1) (h2 : compC g t e (wipeE E own) k (lenC k s1) 0 s1 = .ok ws s2) : cLcC att fi g t e own E s = Rs.of (lstR att ws s2) := by
  unfold cLcC
  rw [h1]
  dsimp only [bind_ok]
  rw [h2]
  rfl
theorem e_seqC {fe : FE} {k : Nat} {s1 : S} {ws : List W} (h1 : fe E s = .ok (.cell k) s1) (h2 : s1[k]? = some (.lst ws)) : cSeqC fe E s = .ok k s1 := by
  unfold cSeqC
  rw [h1]
  dsimp only [bind_ok]
  rw [h2]
def Fl.done (r : Fl) : Rs W := match r with
  | .nx _ s1 => .ok (.p .non) s1
  | .rt w s1 => .ok w s1
  | .xc x _ s1 => .exc x s1
  | _ => .no
theorem run_done {n : Nat} {f : FS} {ws : List W} : runF n f ws s = (f (ws.map some ++ List.replicate (n - ws.length) none) s).done := rfl
theorem done_rt : (Fl.rt w s).done = .ok w s := rfl
theorem done_xc : (Fl.xc x E s).done = .exc x s := rfl
theorem done_nx : (Fl.nx E s).done = .ok (.p .non) s := rfl
/-! loops with a count -/
theorem forL_cnt {g : TgF} {body : FS} {I : Nat → En → S → Prop} {Rt : W → S → Prop} (N : Nat) : ∀ (ps : List P) (n : Nat) (E : En) (s : S), n + ps.length ≤ N → I n E s →
    (∀ p ∈ ps, ∀ n E s, n < N → I n E s → ∃ E', g (.p p) E s = some E' ∧ Ends1 (body E' s) (I (n + 1)) Rt) → Ends1 (forL g body ps E s) (I (n + ps.length)) Rt
  | [], n, E, s, _, h, _ => h
  | p :: ps, n, E, s, hN, h, k => by
    rw [List.length_cons] at hN
    obtain ⟨E', e, q⟩ := k p List.mem_cons_self n E s (by omega) h
    unfold forL
    rw [e]
    dsimp only
    cases z : body E' s with
    | nx E1 s1 =>
      rw [z] at q
      have := forL_cnt N ps (n + 1) E1 s1 (by omega) q fun p hp => k p (List.mem_cons_of_mem _ hp)
      rw [List.length_cons, show n + (ps.length + 1) = n + 1 + ps.length by omega]
      exact this
    | rt w s1 => rw [z] at q; exact q
    | bk E1 s1 => rw [z] at q; exact q.elim
    | ct E1 s1 => rw [z] at q; exact q.elim
    | xc x E1 s1 => rw [z] at q; exact q.elim
    | no => rw [z] at q; exact q.elim
/-- a loop over a range that is never left -/
theorem for_rng {g : TgF} {body : FS} {I : Nat → En → S → Prop} {N : Nat} {E : En} {s : S} (hN : N < 1000000) (h0 : I 0 E s) (k : ∀ p n E s, n < N → I n E s → ∃ E', g (.p p) E s = some E' ∧ Ends1 (body E' s) (I (n + 1)) fun _ _ => False) :
    ∃ E' s', cFor (cRng1 (cCons (cP (.int (N : Int))) cNil)) g body E s = .nx E' s' ∧ I N E' s' := by
  have hl : (rngP 0 N).length = N := by simp [rngP]
  have h := forL_cnt (g := g) (body := body) (I := I) (Rt := fun _ _ => False) N (rngP 0 N) 0 E s (by omega) h0 fun p _ => k p
  rw [hl, Nat.zero_add] at h
  have e : cFor (cRng1 (cCons (cP (.int (N : Int))) cNil)) g body E s = forL g body (rngP 0 N) E s := by
    have hb : big (N : Int) = true := by
      unfold big
      exact Nat.ble_eq_true_of_le (by omega)
    unfold cFor cRng1
    simp only [e_cons, e_p, bind_ok, e_nil, hb, if_true, Int.toNat_natCast]
  rw [e]
  cases z : forL g body (rngP 0 N) E s with
  | nx E1 s1 => rw [z] at h; exact ⟨E1, s1, rfl, h⟩
  | rt w s1 => rw [z] at h; exact h.elim
  | bk E1 s1 => rw [z] at h; exact h.elim
  | ct E1 s1 => rw [z] at h; exact h.elim
  | xc x E1 s1 => rw [z] at h; exact h.elim
  | no => rw [z] at h; exact h.elim
theorem e_for {fi : FI} {g : TgF} {body : FS} {ps : List P} {s1 : S} (h : fi E s = .ok ps s1) : cFor fi g body E s = forL g body ps E s1 := by
  unfold cFor
  rw [h]
theorem big_nat {i : Int} (h0 : 0 ≤ i) (h : i < 1000000) : big i = true := by
  unfold big
  exact Nat.ble_eq_true_of_le (by omega)
theorem e_rng1 {n : Nat} (h : n < 1000000) : cRng1 (cCons (cP (.int (n : Int))) cNil) E s = .ok (rngP 0 n) s := by
  have hb : big (n : Int) = true := big_nat (by omega) (by omega)
  unfold cRng1
  simp only [e_cons, e_p, bind_ok, e_nil, hb, if_true, Int.toNat_natCast]
end
/-- what runs to the next statement -/
theorem Ends1.run {r : Fl} {N : En → S → Prop} {Rt : W → S → Prop} (h : Ends1 r N Rt) : (∃ E s, r = .nx E s ∧ N E s) ∨ ∃ w s, r = .rt w s ∧ Rt w s := by
  cases r with
  | nx E s => exact .inl ⟨E, s, rfl, h⟩
  | rt w s => exact .inr ⟨w, s, rfl, h⟩
  | bk E s => exact h.elim
  | ct E s => exact h.elim
  | xc x E s => exact h.elim
  | no => exact h.elim
end Sim

namespace K01
open PySem PySem.Spec PyProof.Rows L2 Evl He Sim
def top (i : Nat) : Stmt := PySem.Challenge.pw_shipsrow_k01_fleets_refused.main.body.getD i (.Pass ⟨0, 0, 0, 0⟩)
abbrev s__law_draws : Stmt := top 11
abbrev s__law_pick : Stmt := top 12
abbrev s_is_whole : Stmt := top 6
abbrev s__are_ships : Stmt := top 8
abbrev s_Fleet___init__ : Stmt := inClass (top 9) 0
abbrev s__law_told : Stmt := top 13
abbrev s__law_int : Stmt := top 14
abbrev s__law_due : Stmt := top 15
abbrev s_Fleet___eq__ : Stmt := inClass (top 9) 4
abbrev s_Fleet_shape : Stmt := inClass (top 9) 1
abbrev s_Fleet_ships : Stmt := inClass (top 9) 2
abbrev s_Fleet_gap : Stmt := inClass (top 9) 3
abbrev s_law : Stmt := top 16
def cn : List (Option Str) := [some (PySem.Str.ofString "Fleet")]
def xn : List (Option Str) := [some (PySem.Str.ofString "SeaError"), some (PySem.Str.ofString "BadShape"), some (PySem.Str.ofString "BadShips"), some (PySem.Str.ofString "BadGap")]
def fns : List Str := []
abbrev R (K : PySem.W.Frag) : RC := RK cn xn fns K
def d__law_draws : DA := ⟨fun K => ga K "_law_draws", (PySem.Str.ofString "_law_draws"), (PySem.Str.ofString "_law_draws"), defArgs s__law_draws, defBody s__law_draws, defScope s__law_draws⟩
def d__law_pick : DA := ⟨fun K => ga K "_law_pick", (PySem.Str.ofString "_law_pick"), (PySem.Str.ofString "_law_pick"), defArgs s__law_pick, defBody s__law_pick, defScope s__law_pick⟩
def d_is_whole : DA := ⟨fun K => ga K "is_whole", (PySem.Str.ofString "is_whole"), (PySem.Str.ofString "is_whole"), defArgs s_is_whole, defBody s_is_whole, defScope s_is_whole⟩
def d__are_ships : DA := ⟨fun K => ga K "_are_ships", (PySem.Str.ofString "_are_ships"), (PySem.Str.ofString "_are_ships"), defArgs s__are_ships, defBody s__are_ships, defScope s__are_ships⟩
def d_Fleet___init__ : DA := ⟨fun K => ma K (ga K "Fleet") "__init__", (PySem.Str.ofString "__init__"), (PySem.Str.ofString "Fleet.__init__"), defArgs s_Fleet___init__, defBody s_Fleet___init__, defScope s_Fleet___init__⟩
def d__law_told : DA := ⟨fun K => ga K "_law_told", (PySem.Str.ofString "_law_told"), (PySem.Str.ofString "_law_told"), defArgs s__law_told, defBody s__law_told, defScope s__law_told⟩
def d__law_int : DA := ⟨fun K => ga K "_law_int", (PySem.Str.ofString "_law_int"), (PySem.Str.ofString "_law_int"), defArgs s__law_int, defBody s__law_int, defScope s__law_int⟩
def d__law_due : DA := ⟨fun K => ga K "_law_due", (PySem.Str.ofString "_law_due"), (PySem.Str.ofString "_law_due"), defArgs s__law_due, defBody s__law_due, defScope s__law_due⟩
def d_Fleet___eq__ : DA := ⟨fun K => ma K (ga K "Fleet") "__eq__", (PySem.Str.ofString "__eq__"), (PySem.Str.ofString "Fleet.__eq__"), defArgs s_Fleet___eq__, defBody s_Fleet___eq__, defScope s_Fleet___eq__⟩
def d_Fleet_shape : DA := ⟨fun K => prG K (ga K "Fleet") "shape", (PySem.Str.ofString "shape"), (PySem.Str.ofString "Fleet.shape"), defArgs s_Fleet_shape, defBody s_Fleet_shape, defScope s_Fleet_shape⟩
def d_Fleet_ships : DA := ⟨fun K => prG K (ga K "Fleet") "ships", (PySem.Str.ofString "ships"), (PySem.Str.ofString "Fleet.ships"), defArgs s_Fleet_ships, defBody s_Fleet_ships, defScope s_Fleet_ships⟩
def d_Fleet_gap : DA := ⟨fun K => prG K (ga K "Fleet") "gap", (PySem.Str.ofString "gap"), (PySem.Str.ofString "Fleet.gap"), defArgs s_Fleet_gap, defBody s_Fleet_gap, defScope s_Fleet_gap⟩
def d_law : DA := ⟨fun K => ga K "law", (PySem.Str.ofString "law"), (PySem.Str.ofString "law"), defArgs s_law, defBody s_law, defScope s_law⟩
def fn : List DA := [d__law_draws, d__law_pick, d_is_whole, d__are_ships, d_Fleet___init__, d__law_told, d__law_int, d__law_due, d_Fleet___eq__, d_Fleet_shape, d_Fleet_ships, d_Fleet_gap, d_law]
def fa : List Fa := [.glo "BadGap", .glo "BadShape", .glo "BadShips", .glo "SeaError", .glo "Fleet", .glo "_law_draws", .glo "_law_pick", .glo "is_whole", .glo "_are_ships", .glo "_law_told", .glo "_law_int", .glo "_law_due", .glo "law", .free "list", .free "int", .free "len", .free "isinstance", .free "bool", .free "all", .free "tuple", .exc "BadGap", .exc "BadShips", .exc "BadShape", .mkr "Fleet", .free "str", .free "range", .meth "Fleet" "__eq__"]
def ex (K : PySem.W.Frag) : Bool := chkB cn xn K && xcB xn K && prB K (ga K "Fleet") "gap" && prB K (ga K "Fleet") "ships" && prB K (ga K "Fleet") "shape"
structure Tx (K : PySem.W.Frag) (mg : Str → Option Value) : Prop where
  c : SaysM fa fn ex K
  h : ∃ hp : Heap, K.In hp ∧ hp.Ns mainGlobals mg
section
variable {K : PySem.W.Frag} {mg : Str → Option Value}
theorem Tx.glo (T : Tx K mg) (i : Nat) {x : Str} (h : fa[i]? = some (.glo x)) : mg x = some (.ref (ga K x)) := by
  obtain ⟨hp, a, b⟩ := T.h
  exact He.glo_ok a b (T.c.fact i h)
theorem Tx.free (T : Tx K mg) (i : Nat) {x : Str} (h : fa[i]? = some (.free x)) : mg x = none := by
  obtain ⟨hp, a, b⟩ := T.h
  exact He.free_ok a b (T.c.fact i h)
theorem Tx.rc (T : Tx K mg) : RcOk (R K) := rc_ok (Bool.and_eq_true_iff.mp (Bool.and_eq_true_iff.mp (Bool.and_eq_true_iff.mp (Bool.and_eq_true_iff.mp T.c.more).1).1).1).1
theorem Tx.xc (T : Tx K mg) : XcOk (R K) := xc_ok (cn := cn) (Bool.and_eq_true_iff.mp (Bool.and_eq_true_iff.mp (Bool.and_eq_true_iff.mp (Bool.and_eq_true_iff.mp T.c.more).1).1).1).2
theorem Tx.nf0 (T : Tx K mg) : NotFirst (R K) 0 := nf_ok (x := (PySem.Str.ofString "Fleet")) (Bool.and_eq_true_iff.mp (Bool.and_eq_true_iff.mp (Bool.and_eq_true_iff.mp (Bool.and_eq_true_iff.mp T.c.more).1).1).1).1 rfl
theorem Tx.p_Fleet_gap (T : Tx K mg) : PropOf K ((R K).cls 0) (PySem.Str.ofString "gap") (prP K (ga K "Fleet") "gap") (prG K (ga K "Fleet") "gap") := pr_ok (Bool.and_eq_true_iff.mp (Bool.and_eq_true_iff.mp (Bool.and_eq_true_iff.mp T.c.more).1).1).2
theorem Tx.p_Fleet_ships (T : Tx K mg) : PropOf K ((R K).cls 0) (PySem.Str.ofString "ships") (prP K (ga K "Fleet") "ships") (prG K (ga K "Fleet") "ships") := pr_ok (Bool.and_eq_true_iff.mp (Bool.and_eq_true_iff.mp T.c.more).1).2
theorem Tx.p_Fleet_shape (T : Tx K mg) : PropOf K ((R K).cls 0) (PySem.Str.ofString "shape") (prP K (ga K "Fleet") "shape") (prG K (ga K "Fleet") "shape") := pr_ok (Bool.and_eq_true_iff.mp T.c.more).2
end
def B__law_draws : FS :=
    (cRet (cLst true (cCons (cCB (listF false) (cCons (cVar 0) cNil)) (cCons (cP (.int 0)) (cCons (cP (.int 0)) (cCons (cP (.int 7)) cNil))))))
def F__law_draws : FF := runF 1 B__law_draws
theorem sc__law_draws : FnScope ["_law_script"] ["_law_script"] (defScope s__law_draws) := ⟨rfl, rfl, rfl, by decide +kernel, rfl, by decide +kernel, by decide +kernel⟩
theorem ok__law_draws {P : Program} {w : World} {K : PySem.W.Frag} {mg : Str → Option Value} {base : Heap} (T : Tx K mg) : DefOk P w K mg base (R K) 1 (ga K "_law_draws") ["_law_script"] F__law_draws := by
  refine def_ok (N := ["_law_script"]) (k := 0) (f := B__law_draws) (T.c.def_ 0 rfl) sc__law_draws (fun _ _ _ _ _ _ us hl => match us, hl with | [_], _ => rfl) (fun cdv A outer s H E hr tk hp => ?_)
  have nd := (sc__law_draws).nd
  exact (ss_one (ss_ret (se_lst true (sa_cons (se_callTy (c_list (att := false) rfl) (by rfl) (T.free 13 rfl) bt_list (sa_cons (sv 0) sa_nil)) (sa_cons sc_int (sa_cons sc_int (sa_cons sc_int sa_nil)))))))
def B__law_pick : FS :=
    (cSq (cIfS (cB (cBin (eqF false) (cBin ixF (cVar 0) (cP (.int 2))) (cP (.int 0))))
    (cIfS (cB (cBin ltF (cBin ixF (cVar 0) (cP (.int 1))) (cCB lenF (cCons (cBin ixF (cVar 0) (cP (.int 0))) cNil))))
    (cSq (cSet 2 (cBin ixF (cBin ixF (cVar 0) (cP (.int 0))) (cBin ixF (cVar 0) (cP (.int 1)))))
    (cSq (cSub setL (cBin addF (cBin ixF (cVar 0) (cP (.int 1))) (cP (.int 1))) (cVar 0) (cP (.int 1)))
    (cIfS (cB (cBin geF (cVar 2) (cBin powF (cP (.int 10)) (cP (.int 18)))))
    (cSub setL (cVar 2) (cVar 0) (cP (.int 2)))
    (cSub setL (cBin modF (cCB intC (cCons (cBin addF (cBin addF (cBin mulF (cBin ixF (cVar 0) (cP (.int 3))) (cP (.int 48271))) (cBin mulF (cVar 2) (cP (.int 69621)))) (cP (.int 11))) cNil)) (cP (.int 2147483647))) (cVar 0) (cP (.int 3))))))
    (cSub setL (cBin modF (cCB intC (cCons (cBin addF (cBin mulF (cBin ixF (cVar 0) (cP (.int 3))) (cP (.int 48271))) (cP (.int 7))) cNil)) (cP (.int 2147483647))) (cVar 0) (cP (.int 3))))
    cNil')
    (cSq (cIfS (cB (cBin gtF (cBin ixF (cVar 0) (cP (.int 2))) (cP (.int 0))))
    (cSq (cSet 3 (cBin modF (cCB intC (cCons (cBin ixF (cVar 0) (cP (.int 2))) cNil)) (cVar 1)))
    (cSq (cSub setL (cBin fdivF (cBin ixF (cVar 0) (cP (.int 2))) (cVar 1)) (cVar 0) (cP (.int 2)))
    (cRet (cVar 3))))
    cNil')
    (cRet (cBin modF (cBin modF (cCB intC (cCons (cBin mulF (cBin ixF (cVar 0) (cP (.int 3))) (cP (.int 16807))) cNil)) (cP (.int 2147483629))) (cVar 1)))))
def F__law_pick : FF := runF 4 B__law_pick
theorem sc__law_pick : FnScope ["_law_row", "_law_many", "_law_cell", "_law_found"] ["_law_row", "_law_many"] (defScope s__law_pick) := ⟨rfl, rfl, rfl, by decide +kernel, rfl, by decide +kernel, by decide +kernel⟩
theorem ok__law_pick {P : Program} {w : World} {K : PySem.W.Frag} {mg : Str → Option Value} {base : Heap} (T : Tx K mg) : DefOk P w K mg base (R K) 1 (ga K "_law_pick") ["_law_row", "_law_many"] F__law_pick := by
  refine def_ok (N := ["_law_row", "_law_many", "_law_cell", "_law_found"]) (k := 0) (f := B__law_pick) (T.c.def_ 1 rfl) sc__law_pick (fun _ _ _ _ _ _ us hl => match us, hl with | [_, _], _ => rfl) (fun cdv A outer s H E hr tk hp => ?_)
  have nd := (sc__law_pick).nd
  exact (ss_cons (ss_if (st_cmp (o_eq rfl (hu64 hr)) (se_ix (o_ix rfl) (sv 0) sc_int) sc_int (nomark _))
    (ss_one (ss_if (st_cmp (o_lt rfl (hu0 hr)) (se_ix (o_ix rfl) (sv 0) sc_int) (se_callB (c_len rfl) (by rfl) (T.free 15 rfl) bt_len (sa_cons (se_ix (o_ix rfl) (sv 0) sc_int) sa_nil)) (nomark _))
    (ss_cons (ss_set (i := 2) nd rfl (by first | exact Or.inl rfl | exact Or.inr rfl) (se_ix (o_ix rfl) (se_ix (o_ix rfl) (sv 0) sc_int) (se_ix (o_ix rfl) (sv 0) sc_int)))
    (ss_cons (ss_sub o_setL (se_bin (o_add rfl) (se_ix (o_ix rfl) (sv 0) sc_int) sc_int) (sv 0) sc_int)
    (ss_one (ss_if (st_cmp o_ge (sv 2) (se_bin o_pow sc_int sc_int) (nomark _))
    (ss_one (ss_sub o_setL (sv 2) (sv 0) sc_int))
    (ss_one (ss_sub o_setL (se_bin o_mod (se_callTy c_int (by rfl) (T.free 14 rfl) bt_int (sa_cons (se_bin (o_add rfl) (se_bin (o_add rfl) (se_bin o_mul (se_ix (o_ix rfl) (sv 0) sc_int) sc_int) (se_bin o_mul (sv 2) sc_int)) sc_int) sa_nil)) sc_int) (sv 0) sc_int))))))
    (ss_one (ss_sub o_setL (se_bin o_mod (se_callTy c_int (by rfl) (T.free 14 rfl) bt_int (sa_cons (se_bin (o_add rfl) (se_bin o_mul (se_ix (o_ix rfl) (sv 0) sc_int) sc_int) sc_int) sa_nil)) sc_int) (sv 0) sc_int))))
    ss_nil)
    (ss_cons (ss_if (st_cmp o_gt (se_ix (o_ix rfl) (sv 0) sc_int) sc_int (nomark _))
    (ss_cons (ss_set (i := 3) nd rfl (by first | exact Or.inl rfl | exact Or.inr rfl) (se_bin o_mod (se_callTy c_int (by rfl) (T.free 14 rfl) bt_int (sa_cons (se_ix (o_ix rfl) (sv 0) sc_int) sa_nil)) (sv 1)))
    (ss_cons (ss_sub o_setL (se_bin o_fdiv (se_ix (o_ix rfl) (sv 0) sc_int) (sv 1)) (sv 0) sc_int)
    (ss_one (ss_ret (sv 3)))))
    ss_nil)
    (ss_one (ss_ret (se_bin o_mod (se_bin o_mod (se_callTy c_int (by rfl) (T.free 14 rfl) bt_int (sa_cons (se_bin o_mul (se_ix (o_ix rfl) (sv 0) sc_int) sc_int) sa_nil)) sc_int) (sv 1))))))
def B_is_whole : FS :=
    (cSq (cIfS (cOr (cTru (cUn (isTyF "bool") (cVar 0))) (cNot (cTru (cUn (isTyF "int") (cVar 0)))))
    (cRet (cP (.bl false)))
    cNil')
    (cRet (cChain leF leF (cVar 1) (cVar 0) (cVar 2))))
def F_is_whole : FF := runF 3 B_is_whole
theorem sc_is_whole : FnScope ["value", "low", "high"] ["value", "low", "high"] (defScope s_is_whole) := ⟨rfl, rfl, rfl, by decide +kernel, rfl, by decide +kernel, by decide +kernel⟩
theorem ok_is_whole {P : Program} {w : World} {K : PySem.W.Frag} {mg : Str → Option Value} {base : Heap} (T : Tx K mg) : DefOk P w K mg base (R K) 1 (ga K "is_whole") ["value", "low", "high"] F_is_whole := by
  refine def_ok (N := ["value", "low", "high"]) (k := 0) (f := B_is_whole) (T.c.def_ 2 rfl) sc_is_whole (fun _ _ _ _ _ _ us hl => match us, hl with | [_, _, _], _ => rfl) (fun cdv A outer s H E hr tk hp => ?_)
  have nd := (sc_is_whole).nd
  exact (ss_cons (ss_if (st_w (sw_or (st_tru rfl (se_isTy T.rc rfl (n := "bool") (by decide) (by rfl) (T.free 16 rfl) (by rfl) (T.free 17 rfl) bt_bool (sv 0))) (sw_or1 (st_not (st_tru rfl (se_isTy T.rc rfl (n := "int") (by decide) (by rfl) (T.free 16 rfl) (by rfl) (T.free 14 rfl) bt_int (sv 0)))))))
    (ss_one (ss_ret sc_bl))
    ss_nil)
    (ss_one (ss_ret (se_chain o_le o_le (sv 1) (sv 0) (sv 2)))))
def B__are_ships : FS :=
    (cSq (cIfS (cOr (cNot (cTru (cUn (isTyF "tuple") (cVar 0)))) (cB (cBin (inQ true) (cCB lenF (cCons (cVar 0) cNil)) (cTup (cCons (cP (.int 1)) (cCons (cP (.int 2)) cNil))))))
    (cRet (cP (.bl false)))
    cNil')
    (cSq (cIfS (cNot (cTru (cCB (quaF fun bs => bs.all id) (cCons (cLc false (cSeq (cVar 0)) (tgN 1) cYes (cCall false F_is_whole (cCons (cVar 1) (cCons (cP (.int 1)) (cCons (cP (.int 4)) cNil)))) [1]) cNil))))
    (cRet (cP (.bl false)))
    cNil')
    (cRet (cBin leF (cBin ixF (cVar 0) (cP (.int 0))) (cBin ixF (cVar 0) (cUn negF (cP (.int 1))))))))
def F__are_ships : FF := runF 2 B__are_ships
theorem sc__are_ships : FnScope ["ships", "length"] ["ships"] (defScope s__are_ships) := ⟨rfl, rfl, rfl, by decide +kernel, rfl, by decide +kernel, by decide +kernel⟩
theorem ok__are_ships {P : Program} {w : World} {K : PySem.W.Frag} {mg : Str → Option Value} {base : Heap} (T : Tx K mg) : DefOk P w K mg base (R K) 3 (ga K "_are_ships") ["ships"] F__are_ships := by
  obtain ⟨fd_is_whole, F_ok_is_whole, b_ok_is_whole, k_ok_is_whole, _⟩ := ok_is_whole (P := P) (w := w) (base := base) T
  refine def_ok (N := ["ships", "length"]) (k := 2) (f := B__are_ships) (T.c.def_ 3 rfl) sc__are_ships (fun _ _ _ _ _ _ us hl => match us, hl with | [_], _ => rfl) (fun cdv A outer s H E hr tk hp => ?_)
  have nd := (sc__are_ships).nd
  exact (ss_cons (ss_if (st_w (sw_or (st_not (st_tru rfl (se_isTy T.rc rfl (n := "tuple") (by decide) (by rfl) (T.free 16 rfl) (by rfl) (T.free 19 rfl) bt_tuple (sv 0)))) (sw_or1 (st_cmp (o_notinQ rfl (hu65 hr)) (se_callB (c_len rfl) (by rfl) (T.free 15 rfl) bt_len (sa_cons (sv 0) sa_nil)) (se_tup (sa_cons sc_int (sa_cons sc_int sa_nil))) (by rfl)))))
    (ss_one (ss_ret sc_bl))
    ss_nil)
    (ss_cons (ss_if (st_not (st_tru rfl (se_callB (c_all rfl) (by rfl) (T.free 18 rfl) bt_all (sa_cons (se_lc (own := [("length", 1)]) false rfl nd (si_seq rfl (sv 0)) (blkOk_by (by kernel_rfl)) (fun _ _ _ _ _ => (sg_name (i := 1) nd rfl (by first | exact Or.inl rfl | exact Or.inr rfl))) (fun _ _ _ _ _ => sts_nil) (fun _ _ _ _ _ => (se_call false F_ok_is_whole (hr.mono (by decide)) (by rfl) (T.glo 7 rfl) k_ok_is_whole b_ok_is_whole takes0 rfl (sa_cons (sv 1) (sa_cons sc_int (sa_cons sc_int sa_nil))) (hl := (fa_cons (fa_cons (fa_cons fa_nil))))))) sa_nil))))
    (ss_one (ss_ret sc_bl))
    ss_nil)
    (ss_one (ss_ret (se_cmp o_le (se_ix (o_ix rfl) (sv 0) sc_int) (se_ix (o_ix rfl) (sv 0) (se_un o_neg sc_int)) (nomark _))))))
def B_Fleet___init__ : FS :=
    (cSq (cIfS (cB (cBin (inQ true) (cVar 1) (cTup (cCons (cP (.str (PySem.Str.ofString "row"))) (cCons (cP (.str (PySem.Str.ofString "ring"))) cNil)))))
    (cRaise 1)
    cNil')
    (cSq (cIfS (cNot (cTru (cCall false F__are_ships (cCons (cVar 2) cNil))))
    (cRaise 2)
    cNil')
    (cSq (cIfS (cNot (cTru (cCall false F_is_whole (cCons (cVar 3) (cCons (cP (.int 0)) (cCons (cP (.int 1)) cNil))))))
    (cRaise 3)
    cNil')
    (cSq (cFldS (PySem.Str.ofString "_shape") (cVar 1) (cVar 0))
    (cSq (cFldS (PySem.Str.ofString "_ships") (cVar 2) (cVar 0))
    (cFldS (PySem.Str.ofString "_gap") (cVar 3) (cVar 0)))))))
def F_Fleet___init__ : FF := runF 4 B_Fleet___init__
theorem sc_Fleet___init__ : FnScope ["self", "shape", "ships", "gap"] ["self", "shape", "ships", "gap"] (defScope s_Fleet___init__) := ⟨rfl, rfl, rfl, by decide +kernel, rfl, by decide +kernel, by decide +kernel⟩
theorem ok_Fleet___init__ {P : Program} {w : World} {K : PySem.W.Frag} {mg : Str → Option Value} {base : Heap} (T : Tx K mg) : DefOk P w K mg base (R K) 5 (ma K (ga K "Fleet") "__init__") ["self", "shape", "ships", "gap"] F_Fleet___init__ := by
  obtain ⟨fd_is_whole, F_ok_is_whole, b_ok_is_whole, k_ok_is_whole, _⟩ := ok_is_whole (P := P) (w := w) (base := base) T
  obtain ⟨fd__are_ships, F_ok__are_ships, b_ok__are_ships, k_ok__are_ships, _⟩ := ok__are_ships (P := P) (w := w) (base := base) T
  refine def_ok (N := ["self", "shape", "ships", "gap"]) (k := 4) (f := B_Fleet___init__) (T.c.def_ 4 rfl) sc_Fleet___init__ (fun _ _ _ _ _ _ us hl => match us, hl with | [_, _, _, _], _ => rfl) (fun cdv A outer s H E hr tk hp => ?_)
  have nd := (sc_Fleet___init__).nd
  exact (ss_cons (ss_if (st_cmp (o_notinQ rfl (hu65 hr)) (sv 1) (se_tup (sa_cons sc_str (sa_cons sc_str sa_nil))) (by rfl))
    (ss_one (ss_raise (c := 1) rfl rfl rfl tk (He.exc_ok (T.c.fact 22 rfl)).1 (T.glo 1 rfl) (He.exc_ok (T.c.fact 22 rfl)).2.1 (raises_own (He.exc_ok (T.c.fact 22 rfl)).2.2.1 (He.exc_ok (T.c.fact 22 rfl)).2.2.2) (by rfl)))
    ss_nil)
    (ss_cons (ss_if (st_not (st_tru rfl (se_call false F_ok__are_ships (hr.mono (by decide)) (by rfl) (T.glo 8 rfl) k_ok__are_ships b_ok__are_ships tk rfl (sa_cons (sv 2) sa_nil) (hl := (fa_cons fa_nil)))))
    (ss_one (ss_raise (c := 2) rfl rfl rfl tk (He.exc_ok (T.c.fact 21 rfl)).1 (T.glo 2 rfl) (He.exc_ok (T.c.fact 21 rfl)).2.1 (raises_own (He.exc_ok (T.c.fact 21 rfl)).2.2.1 (He.exc_ok (T.c.fact 21 rfl)).2.2.2) (by rfl)))
    ss_nil)
    (ss_cons (ss_if (st_not (st_tru rfl (se_call false F_ok_is_whole (hr.mono (by decide)) (by rfl) (T.glo 7 rfl) k_ok_is_whole b_ok_is_whole tk rfl (sa_cons (sv 3) (sa_cons sc_int (sa_cons sc_int sa_nil))) (hl := (fa_cons (fa_cons (fa_cons fa_nil)))))))
    (ss_one (ss_raise (c := 3) rfl rfl rfl tk (He.exc_ok (T.c.fact 20 rfl)).1 (T.glo 0 rfl) (He.exc_ok (T.c.fact 20 rfl)).2.1 (raises_own (He.exc_ok (T.c.fact 20 rfl)).2.2.1 (He.exc_ok (T.c.fact 20 rfl)).2.2.2) (by rfl)))
    ss_nil)
    (ss_cons (ss_fld T.rc rfl (sv 0) (sv 1))
    (ss_cons (ss_fld T.rc rfl (sv 0) (sv 2))
    (ss_one (ss_fld T.rc rfl (sv 0) (sv 3))))))))
def B__law_told : FS :=
    (cSq (cSet 3 (cP .non))
    (cSq (cTry (cSet 3 (cMake false 0 F_Fleet___init__ (cCons (cVar 0) (cCons (cVar 1) (cCons (cVar 2) cNil))))) [(1, 4, (fun x => cSet 3 (cIf (cIsT 0 x) (cP (.str (PySem.Str.ofString "shape"))) (cP (.str (PySem.Str.ofString "another")))))), (2, 4, (fun x => cSet 3 (cIf (cIsT 0 x) (cP (.str (PySem.Str.ofString "ships"))) (cP (.str (PySem.Str.ofString "another")))))), (3, 4, (fun x => cSet 3 (cIf (cIsT 0 x) (cP (.str (PySem.Str.ofString "gap"))) (cP (.str (PySem.Str.ofString "another"))))))])
    (cRet (cVar 3))))
def F__law_told : FF := runF 5 B__law_told
theorem sc__law_told : FnScope ["_law_shape", "_law_ships", "_law_gap", "_law_told_here", "e"] ["_law_shape", "_law_ships", "_law_gap"] (defScope s__law_told) := ⟨rfl, rfl, rfl, by decide +kernel, rfl, by decide +kernel, by decide +kernel⟩
theorem ok__law_told {P : Program} {w : World} {K : PySem.W.Frag} {mg : Str → Option Value} {base : Heap} (T : Tx K mg) : DefOk P w K mg base (R K) 7 (ga K "_law_told") ["_law_shape", "_law_ships", "_law_gap"] F__law_told := by
  obtain ⟨fd_Fleet___init__, F_ok_Fleet___init__, b_ok_Fleet___init__, k_ok_Fleet___init__, _⟩ := ok_Fleet___init__ (P := P) (w := w) (base := base) T
  refine def_ok (N := ["_law_shape", "_law_ships", "_law_gap", "_law_told_here", "e"]) (k := 6) (f := B__law_told) (T.c.def_ 5 rfl) sc__law_told (fun _ _ _ _ _ _ us hl => match us, hl with | [_, _, _], _ => rfl) (fun cdv A outer s H E hr tk hp => ?_)
  have nd := (sc__law_told).nd
  exact (ss_cons (ss_set (i := 3) nd rfl (by first | exact Or.inl rfl | exact Or.inr rfl) sc_non)
    (ss_cons (ss_try (l := [(1, 4, (fun x => cSet 3 (cIf (cIsT 0 x) (cP (.str (PySem.Str.ofString "shape"))) (cP (.str (PySem.Str.ofString "another")))))), (2, 4, (fun x => cSet 3 (cIf (cIsT 0 x) (cP (.str (PySem.Str.ofString "ships"))) (cP (.str (PySem.Str.ofString "another")))))), (3, 4, (fun x => cSet 3 (cIf (cIsT 0 x) (cP (.str (PySem.Str.ofString "gap"))) (cP (.str (PySem.Str.ofString "another"))))))]) T.rc rfl rfl rfl nd tk (fun W pn xe tk' hp' => (ss_one (ss_set (i := 3) nd rfl (by first | exact Or.inl rfl | exact Or.inr rfl) (se_make false (c := 0) rfl (He.mkr_ok (T.c.fact 23 rfl)) F_ok_Fleet___init__ (hr.mono (by decide)) (by rfl) (T.glo 4 rfl) b_ok_Fleet___init__ tk' (sa_cons (sv 0) (sa_cons (sv 1) (sa_cons (sv 2) sa_nil))) (hl := (fa_cons (fa_cons (fa_cons fa_nil)))))))) (.cons (c := 1) (i := 4) ⟨by rfl, by decide, .inl (T.glo 1 rfl)⟩ rfl rfl (fun ea oe cls d pn hz hf => (ssx_set (i := 3) nd rfl (by first | exact Or.inl rfl | exact Or.inr rfl) (sx_if (sxt_is (sx_is T.xc rfl (c := 0) hz hf rfl (pv 4) (by rfl) (T.free 16 rfl) (by rfl) (T.glo 3 rfl))) (sx_of sc_str) (sx_of sc_str)))) (.cons (c := 2) (i := 4) ⟨by rfl, by decide, .inl (T.glo 2 rfl)⟩ rfl rfl (fun ea oe cls d pn hz hf => (ssx_set (i := 3) nd rfl (by first | exact Or.inl rfl | exact Or.inr rfl) (sx_if (sxt_is (sx_is T.xc rfl (c := 0) hz hf rfl (pv 4) (by rfl) (T.free 16 rfl) (by rfl) (T.glo 3 rfl))) (sx_of sc_str) (sx_of sc_str)))) (.cons (c := 3) (i := 4) ⟨by rfl, by decide, .inl (T.glo 0 rfl)⟩ rfl rfl (fun ea oe cls d pn hz hf => (ssx_set (i := 3) nd rfl (by first | exact Or.inl rfl | exact Or.inr rfl) (sx_if (sxt_is (sx_is T.xc rfl (c := 0) hz hf rfl (pv 4) (by rfl) (T.free 16 rfl) (by rfl) (T.glo 3 rfl))) (sx_of sc_str) (sx_of sc_str)))) .nil))) rfl)
    (ss_one (ss_ret (sv 3)))))
def B__law_int : FS :=
    (cRet (cAndV (cUn (isTyF "int") (cVar 0)) (cAndV (cNotV (cUn (isTyF "bool") (cVar 0))) (cChain leF leF (cVar 1) (cVar 0) (cVar 2)))))
def F__law_int : FF := runF 3 B__law_int
theorem sc__law_int : FnScope ["_law_value", "_law_low", "_law_high"] ["_law_value", "_law_low", "_law_high"] (defScope s__law_int) := ⟨rfl, rfl, rfl, by decide +kernel, rfl, by decide +kernel, by decide +kernel⟩
theorem ok__law_int {P : Program} {w : World} {K : PySem.W.Frag} {mg : Str → Option Value} {base : Heap} (T : Tx K mg) : DefOk P w K mg base (R K) 1 (ga K "_law_int") ["_law_value", "_law_low", "_law_high"] F__law_int := by
  refine def_ok (N := ["_law_value", "_law_low", "_law_high"]) (k := 0) (f := B__law_int) (T.c.def_ 6 rfl) sc__law_int (fun _ _ _ _ _ _ us hl => match us, hl with | [_, _, _], _ => rfl) (fun cdv A outer s H E hr tk hp => ?_)
  have nd := (sc__law_int).nd
  exact (ss_one (ss_ret (se_and (se_isTy T.rc rfl (n := "int") (by decide) (by rfl) (T.free 16 rfl) (by rfl) (T.free 14 rfl) bt_int (sv 0)) (se_and (se_not (se_isTy T.rc rfl (n := "bool") (by decide) (by rfl) (T.free 16 rfl) (by rfl) (T.free 17 rfl) bt_bool (sv 0))) (se_one (se_chain o_le o_le (sv 1) (sv 0) (sv 2)))))))
def B__law_due : FS :=
    (cSq (cIfS (cOr (cNot (cTru (cUn (isTyF "str") (cVar 0)))) (cB (cBin (inQ true) (cVar 0) (cLst false (cCons (cP (.str (PySem.Str.ofString "row"))) (cCons (cP (.str (PySem.Str.ofString "ring"))) cNil))))))
    (cRet (cP (.str (PySem.Str.ofString "shape"))))
    cNil')
    (cSq (cIfS (cOr (cNot (cTru (cUn (isTyF "tuple") (cVar 1)))) (cNot (cB (cChain leF leF (cP (.int 1)) (cCB lenF (cCons (cVar 1) cNil)) (cP (.int 2))))))
    (cRet (cP (.str (PySem.Str.ofString "ships"))))
    cNil')
    (cSq (cIfS (cOr (cB (cBin (eqF true) (cLc false (cSeq (cVar 1)) (tgN 3) (cNot (cTru (cCall false F__law_int (cCons (cVar 3) (cCons (cP (.int 1)) (cCons (cP (.int 4)) cNil)))))) (cVar 3) [3]) (cLst false cNil))) (cB (cBin gtF (cBin ixF (cVar 1) (cP (.int 0))) (cBin ixF (cVar 1) (cUn negF (cP (.int 1)))))))
    (cRet (cP (.str (PySem.Str.ofString "ships"))))
    cNil')
    (cRet (cIf (cTru (cCall false F__law_int (cCons (cVar 2) (cCons (cP (.int 0)) (cCons (cP (.int 1)) cNil))))) (cP .non) (cP (.str (PySem.Str.ofString "gap"))))))))
def F__law_due : FF := runF 4 B__law_due
theorem sc__law_due : FnScope ["_law_shape", "_law_ships", "_law_gap", "_law_one"] ["_law_shape", "_law_ships", "_law_gap"] (defScope s__law_due) := ⟨rfl, rfl, rfl, by decide +kernel, rfl, by decide +kernel, by decide +kernel⟩
theorem ok__law_due {P : Program} {w : World} {K : PySem.W.Frag} {mg : Str → Option Value} {base : Heap} (T : Tx K mg) : DefOk P w K mg base (R K) 3 (ga K "_law_due") ["_law_shape", "_law_ships", "_law_gap"] F__law_due := by
  obtain ⟨fd__law_int, F_ok__law_int, b_ok__law_int, k_ok__law_int, _⟩ := ok__law_int (P := P) (w := w) (base := base) T
  refine def_ok (N := ["_law_shape", "_law_ships", "_law_gap", "_law_one"]) (k := 2) (f := B__law_due) (T.c.def_ 7 rfl) sc__law_due (fun _ _ _ _ _ _ us hl => match us, hl with | [_, _, _], _ => rfl) (fun cdv A outer s H E hr tk hp => ?_)
  have nd := (sc__law_due).nd
  exact (ss_cons (ss_if (st_w (sw_or (st_not (st_tru rfl (se_isTy T.rc rfl (n := "str") (by decide) (by rfl) (T.free 16 rfl) (by rfl) (T.free 24 rfl) bt_str (sv 0)))) (sw_or1 (st_cmp (o_notinQ rfl (hu65 hr)) (sv 0) (se_lst false (sa_cons sc_str (sa_cons sc_str sa_nil))) (by rfl)))))
    (ss_one (ss_ret sc_str))
    ss_nil)
    (ss_cons (ss_if (st_w (sw_or (st_not (st_tru rfl (se_isTy T.rc rfl (n := "tuple") (by decide) (by rfl) (T.free 16 rfl) (by rfl) (T.free 19 rfl) bt_tuple (sv 1)))) (sw_or1 (st_not (st_chain o_le o_le sc_int (se_callB (c_len rfl) (by rfl) (T.free 15 rfl) bt_len (sa_cons (sv 1) sa_nil)) sc_int)))))
    (ss_one (ss_ret sc_str))
    ss_nil)
    (ss_cons (ss_if (st_w (sw_or (st_cmp (o_ne rfl (hu64 hr)) (se_lc (own := [("_law_one", 3)]) false rfl nd (si_seq rfl (sv 1)) (blkOk_by (by kernel_rfl)) (fun _ _ _ _ _ => (sg_name (i := 3) nd rfl (by first | exact Or.inl rfl | exact Or.inr rfl))) (fun _ _ _ _ _ => (sts_one (st_not (st_tru rfl (se_call false F_ok__law_int (hr.mono (by decide)) (by rfl) (T.glo 10 rfl) k_ok__law_int b_ok__law_int takes0 rfl (sa_cons (sv 3) (sa_cons sc_int (sa_cons sc_int sa_nil))) (hl := (fa_cons (fa_cons (fa_cons fa_nil))))))))) (fun _ _ _ _ _ => (sv 3))) (se_lst false sa_nil) (nomark _)) (sw_or1 (st_cmp o_gt (se_ix (o_ix rfl) (sv 1) sc_int) (se_ix (o_ix rfl) (sv 1) (se_un o_neg sc_int)) (nomark _)))))
    (ss_one (ss_ret sc_str))
    ss_nil)
    (ss_one (ss_ret (se_if (st_tru rfl (se_call false F_ok__law_int (hr.mono (by decide)) (by rfl) (T.glo 10 rfl) k_ok__law_int b_ok__law_int tk rfl (sa_cons (sv 2) (sa_cons sc_int (sa_cons sc_int sa_nil))) (hl := (fa_cons (fa_cons (fa_cons fa_nil)))))) sc_non sc_str))))))
def B_Fleet___eq__ : FS :=
    (cRet (cAndV (cUn (isCF 0) (cVar 1)) (cAndV (cBin (eqF false) (cUn (fldF (PySem.Str.ofString "_shape")) (cVar 0)) (cUn (fldF (PySem.Str.ofString "_shape")) (cVar 1))) (cAndV (cBin (eqF false) (cUn (fldF (PySem.Str.ofString "_ships")) (cVar 0)) (cUn (fldF (PySem.Str.ofString "_ships")) (cVar 1))) (cBin (eqF false) (cUn (fldF (PySem.Str.ofString "_gap")) (cVar 0)) (cUn (fldF (PySem.Str.ofString "_gap")) (cVar 1)))))))
def F_Fleet___eq__ : FF := runF 2 B_Fleet___eq__
theorem sc_Fleet___eq__ : FnScope ["self", "other"] ["self", "other"] (defScope s_Fleet___eq__) := ⟨rfl, rfl, rfl, by decide +kernel, rfl, by decide +kernel, by decide +kernel⟩
theorem ok_Fleet___eq__ {P : Program} {w : World} {K : PySem.W.Frag} {mg : Str → Option Value} {base : Heap} (T : Tx K mg) : DefOk P w K mg base (R K) 1 (ma K (ga K "Fleet") "__eq__") ["self", "other"] F_Fleet___eq__ := by
  refine def_ok (N := ["self", "other"]) (k := 0) (f := B_Fleet___eq__) (T.c.def_ 8 rfl) sc_Fleet___eq__ (fun _ _ _ _ _ _ us hl => match us, hl with | [_, _], _ => rfl) (fun cdv A outer s H E hr tk hp => ?_)
  have nd := (sc_Fleet___eq__).nd
  exact (ss_one (ss_ret (se_and (se_isC T.rc rfl (c := 0) rfl (by rfl) (T.free 16 rfl) (by rfl) (T.glo 4 rfl) (sv 1)) (se_and (se_cmp (o_eq rfl (hu64 hr)) (se_fld T.rc rfl (sv 0)) (se_fld T.rc rfl (sv 1)) (nomark _)) (se_and (se_cmp (o_eq rfl (hu64 hr)) (se_fld T.rc rfl (sv 0)) (se_fld T.rc rfl (sv 1)) (nomark _)) (se_one (se_cmp (o_eq rfl (hu64 hr)) (se_fld T.rc rfl (sv 0)) (se_fld T.rc rfl (sv 1)) (nomark _))))))))
def B_Fleet_shape : FS :=
    (cRet (cUn (fldF (PySem.Str.ofString "_shape")) (cVar 0)))
def F_Fleet_shape : FF := runF 1 B_Fleet_shape
theorem sc_Fleet_shape : FnScope ["self"] ["self"] (defScope s_Fleet_shape) := ⟨rfl, rfl, rfl, by decide +kernel, rfl, by decide +kernel, by decide +kernel⟩
theorem ok_Fleet_shape {P : Program} {w : World} {K : PySem.W.Frag} {mg : Str → Option Value} {base : Heap} (T : Tx K mg) : DefOk P w K mg base (R K) 1 (prG K (ga K "Fleet") "shape") ["self"] F_Fleet_shape := by
  refine def_ok (N := ["self"]) (k := 0) (f := B_Fleet_shape) (T.c.def_ 9 rfl) sc_Fleet_shape (fun _ _ _ _ _ _ us hl => match us, hl with | [_], _ => rfl) (fun cdv A outer s H E hr tk hp => ?_)
  have nd := (sc_Fleet_shape).nd
  exact (ss_one (ss_ret (se_fld T.rc rfl (sv 0))))
def B_Fleet_ships : FS :=
    (cRet (cUn (fldF (PySem.Str.ofString "_ships")) (cVar 0)))
def F_Fleet_ships : FF := runF 1 B_Fleet_ships
theorem sc_Fleet_ships : FnScope ["self"] ["self"] (defScope s_Fleet_ships) := ⟨rfl, rfl, rfl, by decide +kernel, rfl, by decide +kernel, by decide +kernel⟩
theorem ok_Fleet_ships {P : Program} {w : World} {K : PySem.W.Frag} {mg : Str → Option Value} {base : Heap} (T : Tx K mg) : DefOk P w K mg base (R K) 1 (prG K (ga K "Fleet") "ships") ["self"] F_Fleet_ships := by
  refine def_ok (N := ["self"]) (k := 0) (f := B_Fleet_ships) (T.c.def_ 10 rfl) sc_Fleet_ships (fun _ _ _ _ _ _ us hl => match us, hl with | [_], _ => rfl) (fun cdv A outer s H E hr tk hp => ?_)
  have nd := (sc_Fleet_ships).nd
  exact (ss_one (ss_ret (se_fld T.rc rfl (sv 0))))
def B_Fleet_gap : FS :=
    (cRet (cUn (fldF (PySem.Str.ofString "_gap")) (cVar 0)))
def F_Fleet_gap : FF := runF 1 B_Fleet_gap
theorem sc_Fleet_gap : FnScope ["self"] ["self"] (defScope s_Fleet_gap) := ⟨rfl, rfl, rfl, by decide +kernel, rfl, by decide +kernel, by decide +kernel⟩
theorem ok_Fleet_gap {P : Program} {w : World} {K : PySem.W.Frag} {mg : Str → Option Value} {base : Heap} (T : Tx K mg) : DefOk P w K mg base (R K) 1 (prG K (ga K "Fleet") "gap") ["self"] F_Fleet_gap := by
  refine def_ok (N := ["self"]) (k := 0) (f := B_Fleet_gap) (T.c.def_ 11 rfl) sc_Fleet_gap (fun _ _ _ _ _ _ us hl => match us, hl with | [_], _ => rfl) (fun cdv A outer s H E hr tk hp => ?_)
  have nd := (sc_Fleet_gap).nd
  exact (ss_one (ss_ret (se_fld T.rc rfl (sv 0))))
def L_law_1 : FS :=
    (cSq (cPar [7, 8, 9] (cCons (cBin ixF (cVar 2) (cCall false F__law_pick (cCons (cVar 1) (cCons (cP (.int 7)) cNil)))) (cCons (cBin ixF (cVar 4) (cCall false F__law_pick (cCons (cVar 1) (cCons (cP (.int 16)) cNil)))) (cCons (cBin ixF (cVar 3) (cCall false F__law_pick (cCons (cVar 1) (cCons (cP (.int 7)) cNil)))) cNil))))
    (cSq (cIfS (cB (cBin (eqF false) (cCall false F__law_pick (cCons (cVar 1) (cCons (cP (.int 2)) cNil))) (cP (.int 0))))
    (cPar [7, 9] (cCons (cBin ixF (cVar 2) (cCall false F__law_pick (cCons (cVar 1) (cCons (cP (.int 2)) cNil)))) (cCons (cBin ixF (cVar 3) (cCall false F__law_pick (cCons (cVar 1) (cCons (cP (.int 2)) cNil)))) cNil)))
    cNil')
    (cSq (cPar [10, 11] (cCons (cCall false F__law_told (cCons (cVar 7) (cCons (cVar 8) (cCons (cVar 9) cNil)))) (cCons (cCall false F__law_due (cCons (cVar 7) (cCons (cVar 8) (cCons (cVar 9) cNil)))) cNil)))
    (cSq (cIfS (cOr (cAnd (cB (cBin (isNF true) (cVar 11) (cP .non))) (cB (cBin (eqF true) (cVar 10) (cVar 11)))) (cAnd (cB (cBin (isNF false) (cVar 11) (cP .non))) (cTru (cUn (isTyF "str") (cVar 10)))))
    (cRet (cP (.bl false)))
    cNil')
    (cIfS (cB (cBin (isNF false) (cVar 11) (cP .non)))
    (cSq (cIfS (cOr (cB (cBin (eqF true) (cLst false (cCons (cProp false 0 F_Fleet_shape (cVar 10)) (cCons (cProp false 0 F_Fleet_ships (cVar 10)) (cCons (cProp false 0 F_Fleet_gap (cVar 10)) cNil)))) (cLst false (cCons (cVar 7) (cCons (cVar 8) (cCons (cVar 9) cNil)))))) (cB (cBin (eqO false 0 F_Fleet___eq__) (cVar 10) (cVar 8))))
    (cRet (cP (.bl false)))
    cNil')
    (cSq (cIfS (cB (cBin (eqF true) (cLcC false (cSeqC (cVar 5)) (tgT [12, 13]) (cB (cBin (eqF true) (cBin (eqO false 0 F_Fleet___eq__) (cVar 12) (cVar 10)) (cBin (eqF false) (cVar 13) (cLst false (cCons (cVar 7) (cCons (cVar 8) (cCons (cVar 9) cNil))))))) (cVar 12) [12, 13]) (cLst false cNil)))
    (cRet (cP (.bl false)))
    cNil')
    (cEx (cApp (cVar 5) (cTup (cCons (cVar 10) (cCons (cLst false (cCons (cVar 7) (cCons (cVar 8) (cCons (cVar 9) cNil)))) cNil)))))))
    cNil')))))
def B_law : FS :=
    (cSq (cSet 1 (cCall true F__law_draws (cCons (cVar 0) cNil)))
    (cSq (cPar [2, 3] (cCons (cLst false (cCons (cP (.str (PySem.Str.ofString "row"))) (cCons (cP (.str (PySem.Str.ofString "ring"))) (cCons (cP (.str (PySem.Str.ofString "rows"))) (cCons (cP (.str (PySem.Str.ofString ""))) (cCons (cP .non) (cCons (cTup (cCons (cP (.str (PySem.Str.ofString "row"))) cNil)) (cCons (cP (.int 1)) cNil)))))))) (cCons (cLst false (cCons (cP (.int 0)) (cCons (cP (.int 1)) (cCons (cP (.int 2)) (cCons (cUn negF (cP (.int 1))) (cCons (cP (.bl true)) (cCons (cP .non) (cCons (cP (.str (PySem.Str.ofString "1"))) cNil)))))))) cNil)))
    (cSq (cSet 4 (cLst false (cCons (cTup (cCons (cP (.int 1)) cNil)) (cCons (cTup (cCons (cP (.int 4)) cNil)) (cCons (cTup (cCons (cP (.int 1)) (cCons (cP (.int 2)) cNil))) (cCons (cTup (cCons (cP (.int 3)) (cCons (cP (.int 3)) cNil))) (cCons (cTup (cCons (cP (.int 2)) (cCons (cP (.int 4)) cNil))) (cCons (cTup cNil) (cCons (cTup (cCons (cP (.int 1)) (cCons (cP (.int 2)) (cCons (cP (.int 3)) cNil)))) (cCons (cTup (cCons (cP (.int 2)) (cCons (cP (.int 1)) cNil))) (cCons (cTup (cCons (cP (.int 0)) cNil)) (cCons (cTup (cCons (cP (.int 5)) cNil)) (cCons (cTup (cCons (cP (.bl true)) cNil)) (cCons (cLst false (cCons (cP (.int 1)) cNil)) cNil))))))))))))))
    (cSq (cSet 4 (cBin addF (cVar 4) (cLst false (cCons (cP .non) (cCons (cTup (cCons (cP (.str (PySem.Str.ofString "1"))) cNil)) (cCons (cP (.int 1)) (cCons (cTup (cCons (cP (.int 1)) (cCons (cP .non) cNil))) cNil)))))))
    (cSq (cSet 5 (cLst true cNil))
    (cSq (cFor (cRng1 (cCons (cP (.int 16)) cNil)) (tgN 6)
    L_law_1)
    (cRet (cP (.bl true)))))))))
def F_law : FF := runF 14 B_law
theorem sc_law : FnScope ["_law_script", "_law_row", "_law_shapes", "_law_gaps", "_law_ships", "_law_before", "_law_turn", "_law_shape", "_law_some", "_law_gap", "_law_told_here", "_law_due_here", "_law_one", "_law_mark"] ["_law_script"] (defScope s_law) := ⟨rfl, rfl, rfl, by decide +kernel, rfl, by decide +kernel, by decide +kernel⟩
theorem ok_law {P : Program} {w : World} {K : PySem.W.Frag} {mg : Str → Option Value} {base : Heap} (T : Tx K mg) : DefOk P w K mg base (R K) 9 (ga K "law") ["_law_script"] F_law := by
  obtain ⟨fd_Fleet___eq__, F_ok_Fleet___eq__, b_ok_Fleet___eq__, k_ok_Fleet___eq__, _⟩ := ok_Fleet___eq__ (P := P) (w := w) (base := base) T
  obtain ⟨fd_Fleet_gap, F_ok_Fleet_gap, b_ok_Fleet_gap, k_ok_Fleet_gap, _⟩ := ok_Fleet_gap (P := P) (w := w) (base := base) T
  obtain ⟨fd_Fleet_ships, F_ok_Fleet_ships, b_ok_Fleet_ships, k_ok_Fleet_ships, _⟩ := ok_Fleet_ships (P := P) (w := w) (base := base) T
  obtain ⟨fd_Fleet_shape, F_ok_Fleet_shape, b_ok_Fleet_shape, k_ok_Fleet_shape, _⟩ := ok_Fleet_shape (P := P) (w := w) (base := base) T
  obtain ⟨fd__law_due, F_ok__law_due, b_ok__law_due, k_ok__law_due, _⟩ := ok__law_due (P := P) (w := w) (base := base) T
  obtain ⟨fd__law_told, F_ok__law_told, b_ok__law_told, k_ok__law_told, _⟩ := ok__law_told (P := P) (w := w) (base := base) T
  obtain ⟨fd__law_pick, F_ok__law_pick, b_ok__law_pick, k_ok__law_pick, _⟩ := ok__law_pick (P := P) (w := w) (base := base) T
  obtain ⟨fd__law_draws, F_ok__law_draws, b_ok__law_draws, k_ok__law_draws, _⟩ := ok__law_draws (P := P) (w := w) (base := base) T
  refine def_ok (N := ["_law_script", "_law_row", "_law_shapes", "_law_gaps", "_law_ships", "_law_before", "_law_turn", "_law_shape", "_law_some", "_law_gap", "_law_told_here", "_law_due_here", "_law_one", "_law_mark"]) (k := 8) (f := B_law) (T.c.def_ 12 rfl) sc_law (fun _ _ _ _ _ _ us hl => match us, hl with | [_], _ => rfl) (fun cdv A outer s H E hr tk hp => ?_)
  have nd := (sc_law).nd
  exact (ss_cons (ss_set (i := 1) nd rfl (by first | exact Or.inl rfl | exact Or.inr rfl) (se_call true F_ok__law_draws (hr.mono (by decide)) (by rfl) (T.glo 5 rfl) k_ok__law_draws b_ok__law_draws tk rfl (sa_cons (sv 0) sa_nil) (hl := (fa_cons fa_nil))))
    (ss_cons (ss_par2 (i := 2) (j := 3) rfl nd rfl rfl (by decide) rfl rfl (sa_cons (se_lst false (sa_cons sc_str (sa_cons sc_str (sa_cons sc_str (sa_cons sc_str (sa_cons sc_non (sa_cons (se_tup (sa_cons sc_str sa_nil)) (sa_cons sc_int sa_nil)))))))) (sa_cons (se_lst false (sa_cons sc_int (sa_cons sc_int (sa_cons sc_int (sa_cons (se_un o_neg sc_int) (sa_cons sc_bl (sa_cons sc_non (sa_cons sc_str sa_nil)))))))) sa_nil)) (by kernel_rfl))
    (ss_cons (ss_set (i := 4) nd rfl (by first | exact Or.inl rfl | exact Or.inr rfl) (se_lst false (sa_cons (se_tup (sa_cons sc_int sa_nil)) (sa_cons (se_tup (sa_cons sc_int sa_nil)) (sa_cons (se_tup (sa_cons sc_int (sa_cons sc_int sa_nil))) (sa_cons (se_tup (sa_cons sc_int (sa_cons sc_int sa_nil))) (sa_cons (se_tup (sa_cons sc_int (sa_cons sc_int sa_nil))) (sa_cons (se_tup sa_nil) (sa_cons (se_tup (sa_cons sc_int (sa_cons sc_int (sa_cons sc_int sa_nil)))) (sa_cons (se_tup (sa_cons sc_int (sa_cons sc_int sa_nil))) (sa_cons (se_tup (sa_cons sc_int sa_nil)) (sa_cons (se_tup (sa_cons sc_int sa_nil)) (sa_cons (se_tup (sa_cons sc_bl sa_nil)) (sa_cons (se_lst false (sa_cons sc_int sa_nil)) sa_nil))))))))))))))
    (ss_cons (ss_set (i := 4) nd rfl (by first | exact Or.inl rfl | exact Or.inr rfl) (se_bin (o_add rfl) (sv 4) (se_lst false (sa_cons sc_non (sa_cons (se_tup (sa_cons sc_str sa_nil)) (sa_cons sc_int (sa_cons (se_tup (sa_cons sc_int (sa_cons sc_non sa_nil))) sa_nil)))))))
    (ss_cons (ss_set (i := 5) nd rfl (by first | exact Or.inl rfl | exact Or.inr rfl) (se_lst true sa_nil))
    (ss_cons (ss_for hp rfl (si_rng1 (by rfl) (T.free 25 rfl) (sa_cons sc_int sa_nil)) (sg_name (i := 6) nd rfl (by first | exact Or.inl rfl | exact Or.inr rfl))
    (ss_cons (ss_parT (is := [7, 8, 9]) rfl (sa_cons (se_ix (o_ix rfl) (sv 2) (se_call false F_ok__law_pick (hr.mono (by decide)) (by rfl) (T.glo 6 rfl) k_ok__law_pick b_ok__law_pick tk rfl (sa_cons (sv 1) (sa_cons sc_int sa_nil)) (hl := (fa_cons (fa_cons fa_nil))))) (sa_cons (se_ix (o_ix rfl) (sv 4) (se_call false F_ok__law_pick (hr.mono (by decide)) (by rfl) (T.glo 6 rfl) k_ok__law_pick b_ok__law_pick tk rfl (sa_cons (sv 1) (sa_cons sc_int sa_nil)) (hl := (fa_cons (fa_cons fa_nil))))) (sa_cons (se_ix (o_ix rfl) (sv 3) (se_call false F_ok__law_pick (hr.mono (by decide)) (by rfl) (T.glo 6 rfl) k_ok__law_pick b_ok__law_pick tk rfl (sa_cons (sv 1) (sa_cons sc_int sa_nil)) (hl := (fa_cons (fa_cons fa_nil))))) sa_nil))) (pgs_cons (pg_name (i := 7) nd rfl (by first | exact Or.inl rfl | exact Or.inr rfl)) (pgs_cons (pg_name (i := 8) nd rfl (by first | exact Or.inl rfl | exact Or.inr rfl)) (pgs_cons (pg_name (i := 9) nd rfl (by first | exact Or.inl rfl | exact Or.inr rfl)) pgs_nil))) rfl (by decide) (hw := by kernel_rfl))
    (ss_cons (ss_if (st_cmp (o_eq rfl (hu64 hr)) (se_call false F_ok__law_pick (hr.mono (by decide)) (by rfl) (T.glo 6 rfl) k_ok__law_pick b_ok__law_pick tk rfl (sa_cons (sv 1) (sa_cons sc_int sa_nil)) (hl := (fa_cons (fa_cons fa_nil)))) sc_int (nomark _))
    (ss_one (ss_parT (is := [7, 9]) rfl (sa_cons (se_ix (o_ix rfl) (sv 2) (se_call false F_ok__law_pick (hr.mono (by decide)) (by rfl) (T.glo 6 rfl) k_ok__law_pick b_ok__law_pick tk rfl (sa_cons (sv 1) (sa_cons sc_int sa_nil)) (hl := (fa_cons (fa_cons fa_nil))))) (sa_cons (se_ix (o_ix rfl) (sv 3) (se_call false F_ok__law_pick (hr.mono (by decide)) (by rfl) (T.glo 6 rfl) k_ok__law_pick b_ok__law_pick tk rfl (sa_cons (sv 1) (sa_cons sc_int sa_nil)) (hl := (fa_cons (fa_cons fa_nil))))) sa_nil)) (pgs_cons (pg_name (i := 7) nd rfl (by first | exact Or.inl rfl | exact Or.inr rfl)) (pgs_cons (pg_name (i := 9) nd rfl (by first | exact Or.inl rfl | exact Or.inr rfl)) pgs_nil)) rfl (by decide) (hw := by kernel_rfl)))
    ss_nil)
    (ss_cons (ss_parT (is := [10, 11]) rfl (sa_cons (se_call false F_ok__law_told (hr.mono (by decide)) (by rfl) (T.glo 9 rfl) k_ok__law_told b_ok__law_told tk rfl (sa_cons (sv 7) (sa_cons (sv 8) (sa_cons (sv 9) sa_nil))) (hl := (fa_cons (fa_cons (fa_cons fa_nil))))) (sa_cons (se_call false F_ok__law_due (hr.mono (by decide)) (by rfl) (T.glo 11 rfl) k_ok__law_due b_ok__law_due tk rfl (sa_cons (sv 7) (sa_cons (sv 8) (sa_cons (sv 9) sa_nil))) (hl := (fa_cons (fa_cons (fa_cons fa_nil))))) sa_nil)) (pgs_cons (pg_name (i := 10) nd rfl (by first | exact Or.inl rfl | exact Or.inr rfl)) (pgs_cons (pg_name (i := 11) nd rfl (by first | exact Or.inl rfl | exact Or.inr rfl)) pgs_nil)) rfl (by decide) (hw := by kernel_rfl))
    (ss_cons (ss_if (st_w (sw_or (st_w (sw_and (st_cmp o_isnot (sv 11) sc_non (nomark _)) (sw_and1 (st_cmp (o_ne rfl (hu64 hr)) (sv 10) (sv 11) (nomark _))))) (sw_or1 (st_w (sw_and (st_cmp o_is (sv 11) sc_non (nomark _)) (sw_and1 (st_tru rfl (se_isTy T.rc rfl (n := "str") (by decide) (by rfl) (T.free 16 rfl) (by rfl) (T.free 24 rfl) bt_str (sv 10)))))))))
    (ss_one (ss_ret sc_bl))
    ss_nil)
    (ss_one (ss_if (st_cmp o_is (sv 11) sc_non (nomark _))
    (ss_cons (ss_if (st_w (sw_or (st_cmp (o_ne rfl (hu64 hr)) (se_lst false (sa_cons (se_prop false (c := 0) rfl (sv 10) (T.rc.cls 0 rfl) T.p_Fleet_shape F_ok_Fleet_shape (hr.mono (by decide)) b_ok_Fleet_shape) (sa_cons (se_prop false (c := 0) rfl (sv 10) (T.rc.cls 0 rfl) T.p_Fleet_ships F_ok_Fleet_ships (hr.mono (by decide)) b_ok_Fleet_ships) (sa_cons (se_prop false (c := 0) rfl (sv 10) (T.rc.cls 0 rfl) T.p_Fleet_gap F_ok_Fleet_gap (hr.mono (by decide)) b_ok_Fleet_gap) sa_nil)))) (se_lst false (sa_cons (sv 7) (sa_cons (sv 8) (sa_cons (sv 9) sa_nil)))) (nomark _)) (sw_or1 (st_cmp (o_eqO T.rc rfl T.nf0 (He.meth_ok (T.c.fact 26 rfl)).at_ (He.meth_ok (T.c.fact 26 rfl)).fn F_ok_Fleet___eq__ (hr.mono (by decide)) b_ok_Fleet___eq__) (sv 10) (sv 8) (nomark _)))))
    (ss_one (ss_ret sc_bl))
    ss_nil)
    (ss_cons (ss_if (st_cmp (o_ne rfl (hu64 hr)) (se_lcC (own := [("_law_one", 12), ("_law_mark", 13)]) false rfl nd (si_seqC rfl (sv 5)) (blkOk_by (by kernel_rfl)) (fun _ _ _ _ _ => (sg_tup (is := [12, 13]) rfl rfl (pgs_cons (pg_name (i := 12) nd rfl (by first | exact Or.inl rfl | exact Or.inr rfl)) (pgs_cons (pg_name (i := 13) nd rfl (by first | exact Or.inl rfl | exact Or.inr rfl)) pgs_nil)) rfl)) (fun _ _ _ _ _ => (sts_one (st_cmp (o_ne rfl (hu64 hr)) (se_cmp (o_eqO T.rc rfl T.nf0 (He.meth_ok (T.c.fact 26 rfl)).at_ (He.meth_ok (T.c.fact 26 rfl)).fn F_ok_Fleet___eq__ (hr.mono (by decide)) b_ok_Fleet___eq__) (sv 12) (sv 10) (nomark _)) (se_cmp (o_eq rfl (hu64 hr)) (sv 13) (se_lst false (sa_cons (sv 7) (sa_cons (sv 8) (sa_cons (sv 9) sa_nil)))) (nomark _)) (nomark _)))) (fun _ _ _ _ _ => (sv 12))) (se_lst false sa_nil) (nomark _))
    (ss_one (ss_ret sc_bl))
    ss_nil)
    (ss_one (ss_expr (se_app rfl (sv 5) (se_tup (sa_cons (sv 10) (sa_cons (se_lst false (sa_cons (sv 7) (sa_cons (sv 8) (sa_cons (sv 9) sa_nil)))) sa_nil))))))))
    ss_nil)))))))
    (ss_one (ss_ret sc_bl))))))))
end K01

namespace K01
open PySem PySem.Spec PyProof.Rows L2 Evl He Sim
theorem pick_is : F__law_pick = F_pick := rfl
def shapesP : List P := [.str (PySem.Str.ofString "row"), .str (PySem.Str.ofString "ring"), .str (PySem.Str.ofString "rows"), .str (PySem.Str.ofString ""), .non, .tup [.str (PySem.Str.ofString "row")], .int 1]
def gapsP : List P := [.int 0, .int 1, .int 2, .int (-1), .bl true, .non, .str (PySem.Str.ofString "1")]
def shipsP : List P := [.tup [.int 1], .tup [.int 4], .tup [.int 1, .int 2], .tup [.int 3, .int 3], .tup [.int 2, .int 4], .tup [], .tup [.int 1, .int 2, .int 3], .tup [.int 2, .int 1], .tup [.int 0], .tup [.int 5], .tup [.bl true], .lst [.int 1],
  .non, .tup [.str (PySem.Str.ofString "1")], .int 1, .tup [.int 1, .non]]
def okC (sh sp gp : P) : Bool := match valR F__law_told [sh, sp, gp], valR F__law_due [sh, sp, gp] with
  | some (.str a), some (.str b) => a == b && (match eqV true (.str a) (.str a) with | some v => !v | none => false)
  | some p, some .non => p.beq (.ins 0 [sh, sp, gp]) && (match eqV true (.lst [sh, sp, gp]) (.lst [sh, sp, gp]) with | some v => !v | none => false) && (match tag [] (.p sp) with | some _ => true | none => false) && (match valR F_Fleet___eq__ [.ins 0 [sh, sp, gp], sp] with | some (.bl v) => !v | _ => false)
  | _, _ => false
def combos : List (P × P × P) := shapesP.flatMap fun sh => shipsP.flatMap fun sp => gapsP.map fun gp => (sh, sp, gp)
theorem tab : (combos.all fun c => okC c.1 c.2.1 c.2.2) = true := by kernel_rfl
def isDue (c : P × P × P) : Bool := match valR F__law_due [c.1, c.2.1, c.2.2] with
  | some .non => true
  | _ => false
def good : List (P × P × P) := combos.filter isDue
def insP (c : P × P × P) : P := .ins 0 [c.1, c.2.1, c.2.2]
def lstP (c : P × P × P) : P := .lst [c.1, c.2.1, c.2.2]
/-- fleets are the same as their marks -/
def ok2 (c c' : P × P × P) : Bool := match valR F_Fleet___eq__ [insP c, insP c'], eqV false (lstP c) (lstP c') with
  | some (.bl v), some u => match eqV true (.bl v) (.bl u) with
    | some z => !z
    | none => false
  | _, _ => false
theorem tab2 : (good.all fun c => good.all fun c' => ok2 c c') = true := by kernel_rfl
theorem combos_mem {sh sp gp : P} (h1 : sh ∈ shapesP) (h2 : sp ∈ shipsP) (h3 : gp ∈ gapsP) : (sh, sp, gp) ∈ combos :=
  List.mem_flatMap.mpr ⟨sh, h1, List.mem_flatMap.mpr ⟨sp, h2, List.mem_map.mpr ⟨gp, h3, rfl⟩⟩⟩
theorem case1 {sh sp gp : P} (h1 : sh ∈ shapesP) (h2 : sp ∈ shipsP) (h3 : gp ∈ gapsP) :
    (∃ a, valR F__law_told [sh, sp, gp] = some (.str a) ∧ valR F__law_due [sh, sp, gp] = some (.str a) ∧ eqV true (.str a) (.str a) = some false) ∨
    ((sh, sp, gp) ∈ good ∧ valR F__law_told [sh, sp, gp] = some (.ins 0 [sh, sp, gp]) ∧ valR F__law_due [sh, sp, gp] = some .non ∧ eqV true (.lst [sh, sp, gp]) (.lst [sh, sp, gp]) = some false ∧ (∃ u, tag [] (.p sp) = some u) ∧ valR F_Fleet___eq__ [.ins 0 [sh, sp, gp], sp] = some (.bl false)) := by
  have hm := combos_mem h1 h2 h3
  have h := List.all_eq_true.mp tab _ hm
  dsimp only at h
  unfold okC at h
  split at h
  · rename_i a b e1 e2
    obtain ⟨h4, h5⟩ := Bool.and_eq_true_iff.mp h
    have e3 : a = b := by simpa using h4
    subst e3
    refine .inl ⟨a, e1, e2, ?_⟩
    split at h5
    · rename_i v e; cases v
      · exact e
      · cases h5
    · cases h5
  · rename_i p e1 e2 _
    simp only [Bool.and_eq_true] at h
    obtain ⟨⟨⟨h4, h5⟩, h6⟩, h7⟩ := h
    have e3 := P.beq_eq h4
    subst e3
    refine .inr ⟨List.mem_filter.mpr ⟨hm, ?_⟩, e2, by assumption, ?_, ?_, ?_⟩
    · unfold isDue
      simp only
      simp_all
    · split at h5
      · rename_i v e; cases v
        · exact e
        · cases h5
      · cases h5
    · split at h6
      · rename_i u e; exact ⟨u, e⟩
      · cases h6
    · split at h7
      · rename_i v e; cases v
        · exact e
        · cases h7
      · cases h7
  · cases h
theorem case2 {c c' : P × P × P} (h : c ∈ good) (h' : c' ∈ good) : ∃ v u, valR F_Fleet___eq__ [insP c, insP c'] = some (.bl v) ∧ eqV false (lstP c) (lstP c') = some u ∧ eqV true (.bl v) (.bl u) = some false := by
  have := List.all_eq_true.mp (List.all_eq_true.mp tab2 c h) c' h'
  unfold ok2 at this
  split at this
  · rename_i v u e1 e2
    refine ⟨v, u, e1, e2, ?_⟩
    split at this
    · rename_i z e; cases z
      · exact e
      · cases this
    · cases this
  · cases this
end K01

namespace K01
open PySem PySem.Spec PyProof.Rows L2 Evl He Sim
def entry (c : P × P × P) : W := .p (.tup [insP c, lstP c])
/-- the loop's slots -/
abbrev En14 (a0 x6 x7 x8 x9 x10 x11 x12 x13 : Option W) : En := [a0, some (.cell 0), some (.p (.lst shapesP)), some (.p (.lst gapsP)), some (.p (.lst shipsP)), some (.cell 1), x6, x7, x8, x9, x10, x11, x12, x13]
abbrev St2 (r : DRow) (gs : List (P × P × P)) : S := rowO r :: [.lst (gs.map entry)]
theorem low {r : DRow} {gs : List (P × P × P)} : lowOk ([O.lst (gs.map entry)].length + 1) (St2 r gs) = true := by
  simp [lowOk, St2, rowO, belowO, belowW, entry]
theorem draw_eq {r : DRow} {gs : List (P × P × P)} {many : Int} (hm : 0 < many) (hm2 : many < 1073741824) : callR false F_pick [.cell 0, .p (.int many)] (St2 r gs) = .ok (.p (.int (r.draw many))) (St2 (r.next many) gs) := call_pick hm hm2 low
theorem cmp_ok {sh sp gp : P} (hg : (sh, sp, gp) ∈ good) {a0 x6 x11 : Option W} {r : DRow} (gs : List (P × P × P)) (hgs : ∀ c ∈ gs, c ∈ good) : ∀ (n i : Nat), i + n = gs.length + 1 → i ≤ gs.length →
    compC (tgT [12, 13]) (cB (cBin (eqF true) (cBin (eqO false 0 F_Fleet___eq__) (cVar 12) (cVar 10)) (cBin (eqF false) (cVar 13) (cLst false (cCons (cVar 7) (cCons (cVar 8) (cCons (cVar 9) cNil))))))) (cVar 12)
      (En14 a0 x6 (some (.p sh)) (some (.p sp)) (some (.p gp)) (some (.p (insP (sh, sp, gp)))) x11 none none) 1 n i (St2 r gs) = .ok [] (St2 r gs)
  | 0, i, h, h' => by omega
  | n + 1, i, h, h' => by
    unfold compC
    show (match (gs.map entry)[i]? with
      | none => _
      | some w => _) = _
    by_cases hi : i < gs.length
    · have e1 : (gs.map entry)[i]? = some (entry gs[i]) := by simp [hi]
      rw [e1]
      obtain ⟨v, u, c1, c2, c3⟩ := case2 (hgs _ (List.getElem_mem hi)) hg
      have e2 : ∀ E s, tgT [12, 13] (entry gs[i]) E s = some ((E.set 12 (some (.p (insP gs[i])))).set 13 (some (.p (lstP gs[i])))) := fun E s => rfl
      simp only [e2]
      have e3 : eqO false 0 F_Fleet___eq__ (.p (insP gs[i])) (.p (insP (sh, sp, gp))) (St2 r gs) = some (.p (.bl v), St2 r gs) := eqO_val c1 ⟨_, rfl⟩
      have ih := cmp_ok hg (a0 := a0) (x6 := x6) (x11 := x11) (r := r) gs hgs n (i + 1) (by omega) hi
      simp only [e_B, e_bin, e_varR, List.set_cons_succ, List.set_cons_zero, List.getElem?_cons_succ, List.getElem?_cons_zero, varR_some, bind_ok, e3, of_some, e_cons, e_nil, e_lst, lst3]
      have e4 : eqF false (.p (lstP gs[i])) (.p (.lst [sh, sp, gp])) (St2 r gs) = some (.p (.bl u), St2 r gs) := eqF_val c2
      simp only [e4, of_some, bind_ok, eqF_val c3, bl_bl, bindN_ok]
      exact ih
    · have e1 : (gs.map entry)[i]? = none := by simp [Nat.le_of_not_lt hi]
      rw [e1]
theorem gmem {many : Nat} {xs : List P} {r : DRow} (h : xs.length = many) (h0 : 0 < many) : ∃ q, atI xs (r.draw (many : Int)) = some q ∧ q ∈ xs := by
  obtain ⟨h1, h2⟩ := r.draw_range (m := (many : Int)) (by omega)
  exact atI_mem h1 (by rw [h]; exact h2)
theorem gmem2 {many : Nat} {xs : List P} {r : DRow} (h : many ≤ xs.length) (h0 : 0 < many) : ∃ q, atI xs (r.draw (many : Int)) = some q ∧ q ∈ xs := by
  obtain ⟨h1, h2⟩ := r.draw_range (m := (many : Int)) (by omega)
  exact atI_mem h1 (by omega)
/-- behind the draws -/
def L2_law : FS := (cSq (cPar [10, 11] (cCons (cCall false F__law_told (cCons (cVar 7) (cCons (cVar 8) (cCons (cVar 9) cNil)))) (cCons (cCall false F__law_due (cCons (cVar 7) (cCons (cVar 8) (cCons (cVar 9) cNil)))) cNil)))
    (cSq (cIfS (cOr (cAnd (cB (cBin (isNF true) (cVar 11) (cP .non))) (cB (cBin (eqF true) (cVar 10) (cVar 11)))) (cAnd (cB (cBin (isNF false) (cVar 11) (cP .non))) (cTru (cUn (isTyF "str") (cVar 10)))))
    (cRet (cP (.bl false)))
    cNil')
    (cIfS (cB (cBin (isNF false) (cVar 11) (cP .non)))
    (cSq (cIfS (cOr (cB (cBin (eqF true) (cLst false (cCons (cProp false 0 F_Fleet_shape (cVar 10)) (cCons (cProp false 0 F_Fleet_ships (cVar 10)) (cCons (cProp false 0 F_Fleet_gap (cVar 10)) cNil)))) (cLst false (cCons (cVar 7) (cCons (cVar 8) (cCons (cVar 9) cNil)))))) (cB (cBin (eqO false 0 F_Fleet___eq__) (cVar 10) (cVar 8))))
    (cRet (cP (.bl false)))
    cNil')
    (cSq (cIfS (cB (cBin (eqF true) (cLcC false (cSeqC (cVar 5)) (tgT [12, 13]) (cB (cBin (eqF true) (cBin (eqO false 0 F_Fleet___eq__) (cVar 12) (cVar 10)) (cBin (eqF false) (cVar 13) (cLst false (cCons (cVar 7) (cCons (cVar 8) (cCons (cVar 9) cNil))))))) (cVar 12) [12, 13]) (cLst false cNil)))
    (cRet (cP (.bl false)))
    cNil')
    (cEx (cApp (cVar 5) (cTup (cCons (cVar 10) (cCons (cLst false (cCons (cVar 7) (cCons (cVar 8) (cCons (cVar 9) cNil)))) cNil)))))))
    cNil')))
def Inv (n : Nat) (E : En) (s : S) : Prop := ∃ a0 x6 x7 x8 x9 x10 x11 x12 x13 r gs, E = En14 a0 x6 x7 x8 x9 x10 x11 x12 x13 ∧ s = St2 r gs ∧ gs.length ≤ n ∧ ∀ c ∈ gs, c ∈ good
theorem rest {sh sp gp : P} (h1 : sh ∈ shapesP) (h2 : sp ∈ shipsP) (h3 : gp ∈ gapsP) {a0 x6 x10 x11 x12 x13 : Option W} {r : DRow} {gs : List (P × P × P)} {n : Nat} (hl : gs.length ≤ n) (hn : n < 1000) (hgs : ∀ c ∈ gs, c ∈ good) :
    Ends1 (L2_law (En14 a0 x6 (some (.p sh)) (some (.p sp)) (some (.p gp)) x10 x11 x12 x13) (St2 r gs)) (Inv (n + 1)) fun _ _ => False := by
  rcases case1 h1 h2 h3 with ⟨a, e1, e2, e3⟩ | ⟨hg, e1, e2, e3, e4, e5⟩
  · have : L2_law (En14 a0 x6 (some (.p sh)) (some (.p sp)) (some (.p gp)) x10 x11 x12 x13) (St2 r gs) = .nx (En14 a0 x6 (some (.p sh)) (some (.p sp)) (some (.p gp)) (some (.p (.str a))) (some (.p (.str a))) x12 x13) (St2 r gs) := by
      simp only [L2_law, e_sq, e_par, e_cons, e_nil, e_call, e_varR, List.set_cons_succ, List.set_cons_zero, List.getElem?_cons_succ, List.getElem?_cons_zero, varR_some, bind_ok, call3 e1, call3 e2, stB_ok, List.length_cons, List.length_nil, if_true, setW, thn_nx, e_ifS, e_or, e_and, e_B, e_bin, e_p, isnt_str, isN_str, of_some, bl_bl, eqF_val e3, Bool.false_eq_true, if_false, e_nil']
    rw [this]
    exact ⟨_, _, _, _, _, _, _, _, _, r, gs, rfl, rfl, by omega, hgs⟩
  · have p1 : valR F_Fleet_shape [.ins 0 [sh, sp, gp]] = some sh := rfl
    have p2 : valR F_Fleet_ships [.ins 0 [sh, sp, gp]] = some sp := rfl
    have p3 : valR F_Fleet_gap [.ins 0 [sh, sp, gp]] = some gp := rfl
    have t1 : isTyF "str" (.p (.ins 0 [sh, sp, gp])) (St2 r gs) = some (.p (.bl false), St2 r gs) := rfl
    have q1 : eqO false 0 F_Fleet___eq__ (.p (.ins 0 [sh, sp, gp])) (.p sp) (St2 r gs) = some (.p (.bl false), St2 r gs) := eqO_val e5 (by rw [tag_p]; exact e4)
    have q2 : cLcC false (cSeqC (cVar 5)) (tgT [12, 13]) (cB (cBin (eqF true) (cBin (eqO false 0 F_Fleet___eq__) (cVar 12) (cVar 10)) (cBin (eqF false) (cVar 13) (cLst false (cCons (cVar 7) (cCons (cVar 8) (cCons (cVar 9) cNil))))))) (cVar 12) [12, 13]
        (En14 a0 x6 (some (.p sh)) (some (.p sp)) (some (.p gp)) (some (.p (.ins 0 [sh, sp, gp]))) (some (.p .non)) x12 x13) (St2 r gs) = .ok (.p (.lst [])) (St2 r gs) := by
      have := cmp_ok hg (a0 := a0) (x6 := x6) (x11 := some (.p .non)) (r := r) gs hgs (gs.length + 1) 0 (by omega) (by omega)
      rw [e_lcC (k := 1) (s1 := St2 r gs) (s2 := St2 r gs) (ws := []) (e_seqC (ws := gs.map entry) rfl rfl) (by
        have e : lenC 1 (St2 r gs) = gs.length + 1 := by simp [lenC, St2]
        rw [e]
        exact this), lst0, of_some]
    have q3 : eqF true (.p (.lst [])) (.p (.lst [])) (St2 r gs) = some (.p (.bl false), St2 r gs) := eqF_val rfl
    have q4 : cApp (cVar 5) (cTup (cCons (cVar 10) (cCons (cLst false (cCons (cVar 7) (cCons (cVar 8) (cCons (cVar 9) cNil)))) cNil)))
        (En14 a0 x6 (some (.p sh)) (some (.p sp)) (some (.p gp)) (some (.p (.ins 0 [sh, sp, gp]))) (some (.p .non)) x12 x13) (St2 r gs) = .ok (.p .non) (St2 r (gs ++ [(sh, sp, gp)])) := by
      rw [e_app (k := 1) (s1 := St2 r gs) (s2 := St2 r gs) (ws := gs.map entry) (ws' := gs.map entry) (w := entry (sh, sp, gp)) rfl rfl ?_ rfl (by simp; omega)]
      · simp [St2]
      · simp only [e_tup, e_cons, e_nil, e_varR, List.getElem?_cons_succ, List.getElem?_cons_zero, varR_some, bind_ok, e_lst, lst3, of_some, tup2]
        rfl
    have : L2_law (En14 a0 x6 (some (.p sh)) (some (.p sp)) (some (.p gp)) x10 x11 x12 x13) (St2 r gs) = .nx (En14 a0 x6 (some (.p sh)) (some (.p sp)) (some (.p gp)) (some (.p (.ins 0 [sh, sp, gp]))) (some (.p .non)) x12 x13) (St2 r (gs ++ [(sh, sp, gp)])) := by
      simp only [L2_law, e_sq, e_par, e_cons, e_nil, e_call, e_varR, List.set_cons_succ, List.set_cons_zero, List.getElem?_cons_succ, List.getElem?_cons_zero, varR_some, bind_ok, call3 e1, call3 e2, stB_ok, List.length_cons, List.length_nil, if_true, setW, thn_nx, e_ifS, e_or, e_and, e_B, e_bin, e_p, isnt_non, isN_non, of_some, bl_bl, Bool.false_eq_true, if_false, e_nil', e_tru, e_un, t1, tru_bl, e_lst, e_prop, insC_ins, call1 p1, call1 p2, call1 p3, noX_ok, lst3, eqF_val e3, q1, q2, lst0, q3, e_ex, q4]
    rw [this]
    refine ⟨_, _, _, _, _, _, _, _, _, r, gs ++ [(sh, sp, gp)], rfl, rfl, by simp; omega, fun c hc => ?_⟩
    rcases List.mem_append.mp hc with hc | hc
    · exact hgs c hc
    · have : c = (sh, sp, gp) := by simpa using hc
      rw [this]; exact hg
theorem turn {E : En} {s : S} {n : Nat} (hn : n < 1000) (I : Inv n E s) (p : P) : ∃ E', tgN 6 (.p p) E s = some E' ∧ Ends1 (L_law_1 E' s) (Inv (n + 1)) fun _ _ => False := by
  obtain ⟨a0, x6, x7, x8, x9, x10, x11, x12, x13, r, gs, rfl, rfl, hl, hgs⟩ := I
  refine ⟨_, rfl, ?_⟩
  obtain ⟨sh, i1, m1⟩ := gmem (many := 7) (xs := shapesP) (r := r) rfl (by omega)
  obtain ⟨sp, i2, m2⟩ := gmem (many := 16) (xs := shipsP) (r := r.next 7) rfl (by omega)
  obtain ⟨gp, i3, m3⟩ := gmem (many := 7) (xs := gapsP) (r := (r.next 7).next 16) rfl (by omega)
  have d1 : ∀ r : DRow, callR false F__law_pick [.cell 0, .p (.int 7)] (St2 r gs) = .ok (.p (.int (r.draw 7))) (St2 (r.next 7) gs) := fun r => draw_eq (by decide) (by decide)
  have d2 : ∀ r : DRow, callR false F__law_pick [.cell 0, .p (.int 16)] (St2 r gs) = .ok (.p (.int (r.draw 16))) (St2 (r.next 16) gs) := fun r => draw_eq (by decide) (by decide)
  have d3 : ∀ r : DRow, callR false F__law_pick [.cell 0, .p (.int 2)] (St2 r gs) = .ok (.p (.int (r.draw 2))) (St2 (r.next 2) gs) := fun r => draw_eq (by decide) (by decide)
  obtain ⟨r3, hr3⟩ : ∃ r3, r3 = ((r.next 7).next 16).next 7 := ⟨_, rfl⟩
  have e0 : L_law_1 = cSq (cPar [7, 8, 9] (cCons (cBin ixF (cVar 2) (cCall false F__law_pick (cCons (cVar 1) (cCons (cP (.int 7)) cNil)))) (cCons (cBin ixF (cVar 4) (cCall false F__law_pick (cCons (cVar 1) (cCons (cP (.int 16)) cNil)))) (cCons (cBin ixF (cVar 3) (cCall false F__law_pick (cCons (cVar 1) (cCons (cP (.int 7)) cNil)))) cNil))))
    (cSq (cIfS (cB (cBin (eqF false) (cCall false F__law_pick (cCons (cVar 1) (cCons (cP (.int 2)) cNil))) (cP (.int 0))))
    (cPar [7, 9] (cCons (cBin ixF (cVar 2) (cCall false F__law_pick (cCons (cVar 1) (cCons (cP (.int 2)) cNil)))) (cCons (cBin ixF (cVar 3) (cCall false F__law_pick (cCons (cVar 1) (cCons (cP (.int 2)) cNil)))) cNil)))
    cNil') L2_law) := rfl
  have x1 : ∀ s : S, ixF (.p (.lst shapesP)) (.p (.int (r.draw 7))) s = some (.p sh, s) := fun s => ix_lst i1
  have x2 : ∀ s : S, ixF (.p (.lst shipsP)) (.p (.int ((r.next 7).draw 16))) s = some (.p sp, s) := fun s => ix_lst i2
  have x3 : ∀ s : S, ixF (.p (.lst gapsP)) (.p (.int (((r.next 7).next 16).draw 7))) s = some (.p gp, s) := fun s => ix_lst i3
  rw [e0]
  by_cases h : (((r.next 7).next 16).next 7).draw 2 = 0
  · obtain ⟨sh', i4, m4⟩ := gmem2 (many := 2) (xs := shapesP) (r := (((r.next 7).next 16).next 7).next 2) (by decide) (by omega)
    obtain ⟨gp', i5, m5⟩ := gmem2 (many := 2) (xs := gapsP) (r := ((((r.next 7).next 16).next 7).next 2).next 2) (by decide) (by omega)
    have x4 : ∀ s : S, ixF (.p (.lst shapesP)) (.p (.int (((((r.next 7).next 16).next 7).next 2).draw 2))) s = some (.p sh', s) := fun s => ix_lst i4
    have x5 : ∀ s : S, ixF (.p (.lst gapsP)) (.p (.int ((((((r.next 7).next 16).next 7).next 2).next 2).draw 2))) s = some (.p gp', s) := fun s => ix_lst i5
    simp only [e_sq, e_par, e_cons, e_nil, e_call, e_varR, List.set_cons_succ, List.set_cons_zero, List.getElem?_cons_succ, List.getElem?_cons_zero, varR_some, bind_ok, d1, d2, d3, e_bin, e_p, of_some, x1, x2, x3, x4, x5, stB_ok, List.length_cons, List.length_nil, if_true, setW, thn_nx, e_ifS, e_B, eqF_int, h, decide_true, Bool.false_eq_true, if_false, bl_bl]
    exact rest m4 m2 m5 hl hn hgs
  · simp only [e_sq, e_par, e_cons, e_nil, e_call, e_varR, List.set_cons_succ, List.set_cons_zero, List.getElem?_cons_succ, List.getElem?_cons_zero, varR_some, bind_ok, d1, d2, d3, e_bin, e_p, of_some, x1, x2, x3, stB_ok, List.length_cons, List.length_nil, if_true, setW, thn_nx, e_ifS, e_B, eqF_int, h, decide_false, Bool.false_eq_true, if_false, bl_bl, e_nil']
    exact rest m1 m2 m3 hl hn hgs
theorem math (ns : List Int) (hl : ns.length ≤ 63) (hb : ∀ z ∈ ns, Builtin.Int.intBits z ≤ 1048576) : ∃ s, F_law [.p (.scr (ns.map P.int))] [] = .ok (.p (.bl true)) s := by
  have h1 : callR true F__law_draws [.p (.scr (ns.map P.int))] [] = .ok (.cell 0) [rowO ⟨ns, 0, 0, 7⟩] := by
    have e : F__law_draws [.p (.scr (ns.map P.int))] [] = .ok (.cell 0) [rowO ⟨ns, 0, 0, 7⟩] := by
      unfold F__law_draws runF B__law_draws
      simp only [List.map, List.length_cons, List.length_nil, List.replicate, Nat.sub_self, List.append_nil, e_ret, e_lst, e_cons, e_nil, e_cb, e_p, e_varR, List.getElem?_cons_zero, varR_some, bind_ok, listF_scr (show (ns.map P.int).length ≤ 16777216 by simp; omega), of_some, stB_ok, lstT (show [W.p (.lst (ns.map P.int)), W.p (.int 0), W.p (.int 0), W.p (.int 7)].length ≤ 16777216 by simp)]
      rfl
    unfold callR
    dsimp only [plains]
    rw [e]
    rfl
  have h2 : B_law ([W.p (.scr (ns.map P.int))].map some ++ List.replicate 13 none) [] = ((cFor (cRng1 (cCons (cP (.int 16)) cNil)) (tgN 6) L_law_1) (En14 (some (.p (.scr (ns.map P.int)))) none none none none none none none none) (St2 ⟨ns, 0, 0, 7⟩ [])).thn (cRet (cP (.bl true))) := by
    unfold B_law
    simp only [e_sq, e_set, e_call, e_cons, e_nil, e_varR, List.map, List.replicate, List.cons_append, List.nil_append, List.getElem?_cons_zero, varR_some, bind_ok, h1, stB_ok, thn_nx, List.set_cons_succ, List.set_cons_zero]
    refine (thn_cg (r' := .nx [some (.p (.scr (ns.map P.int))), some (.cell 0), some (.p (.lst shapesP)), some (.p (.lst gapsP)), none, none, none, none, none, none, none, none, none, none] [rowO ⟨ns, 0, 0, 7⟩]) (by kernel_rfl)).trans ?_
    rw [thn_nx, e_sq]
    refine (thn_cg (r' := .nx [some (.p (.scr (ns.map P.int))), some (.cell 0), some (.p (.lst shapesP)), some (.p (.lst gapsP)), some (.p (.lst (shipsP.take 12))), none, none, none, none, none, none, none, none, none] [rowO ⟨ns, 0, 0, 7⟩]) (by kernel_rfl)).trans ?_
    rw [thn_nx, e_sq]
    refine (thn_cg (r' := .nx [some (.p (.scr (ns.map P.int))), some (.cell 0), some (.p (.lst shapesP)), some (.p (.lst gapsP)), some (.p (.lst shipsP)), none, none, none, none, none, none, none, none, none] [rowO ⟨ns, 0, 0, 7⟩]) (by kernel_rfl)).trans ?_
    rw [thn_nx, e_sq]
    refine (thn_cg (r' := .nx (En14 (some (.p (.scr (ns.map P.int)))) none none none none none none none none) (St2 ⟨ns, 0, 0, 7⟩ [])) (by kernel_rfl)).trans ?_
    rw [thn_nx, e_sq]
  obtain ⟨E', s', e3, _⟩ := for_rng (g := tgN 6) (body := L_law_1) (I := Inv) (N := 16) (E := En14 (some (.p (.scr (ns.map P.int)))) none none none none none none none none) (s := St2 ⟨ns, 0, 0, 7⟩ []) (by omega)
    ⟨_, _, _, _, _, _, _, _, _, _, [], rfl, rfl, by simp, by simp⟩ (fun p n E s hn I => turn (by omega) I p)
  refine ⟨s', ?_⟩
  have e4 : cFor (cRng1 (cCons (cP (.int 16)) cNil)) (tgN 6) L_law_1 (En14 (some (.p (.scr (ns.map P.int)))) none none none none none none none none) (St2 ⟨ns, 0, 0, 7⟩ []) = .nx E' s' := e3
  exact congrArg Fl.done (a₂ := .rt (.p (.bl true)) s') (h2.trans ((congrArg (fun z => Fl.thn z (cRet (cP (.bl true)))) e4).trans rfl))
end K01

namespace K01
open PySem PySem.Spec PyProof.Rows L2 Evl He Sim
def loose0 : List PySem.Str := ["SeaError", "BadShape", "BadShips", "BadGap", "is_whole", "_are_ships", "Fleet", "_law_draws", "_law_pick", "_law_told", "_law_int", "_law_due"]
def loose : List PySem.Str := loose0
abbrev LW : PySem.W.OpenLaw := PySem.Challenge.rw_shipsrow_k01_fleets_refused
abbrev RR : PySem.W.OpenRow := PySem.W.OpenLaw.row LW
abbrev hk : PySem.W.Hook := hookM 7 fa fn ex
def ob (s : PySem.W.SharedT) : He.AlD := obsMG 7 fa fn ex (HandSHeadRun.getT s)
theorem ob_eq (s : PySem.W.SharedT) : ob s = hk.obs s.abs := obsMG_eq (HandSHeadRun.getT_eq s)
theorem run (w : World) : HandSHeadRun.RunEq RR (PySem.W.view RR.prog [16]) hk ob 6000 loose w := by
  intro os
  kernel_rfl
theorem facts {P : Program} {w : World} {K : PySem.W.Frag} {h : Heap} {mg : Str → Option Value} {a : Addr} (X : K.In h) (G : h.Ns mainGlobals mg) (hfa : mg ("law" : Str) = some (.ref a)) (c : SaysM fa fn ex K) :
    ∃ fd : FuncData, (∀ (s : Shared) (v : Value), BindsTo s fd ⟨[v], []⟩ [("_law_script", v)]) ∧ ∀ base : Heap, K.In base → base.Ns mainGlobals mg → FnOk P w K mg base (L2.CX P w) 9 a fd ["_law_script"] (spF (R K) 1 F_law) := by
  have T : Tx K mg := ⟨c, h, X, G⟩
  have e := hfa.symm.trans (T.glo 12 rfl)
  cases e
  obtain ⟨fd, F⟩ := c.def_ 12 (d := d_law) rfl
  have b := FunD.bindsA (ps := ["_law_script"]) F fun _ _ _ _ _ _ us hl => match us, hl with | [_], _ => rfl
  refine ⟨fd, fun s v => b s [v] rfl, fun base _ _ => ?_⟩
  obtain ⟨fd2, F2, _, _, e2⟩ := ok_law (P := P) (w := w) (base := base) T
  have e3 := (fd_of F).symm.trans e2
  cases e3
  exact F2
end K01
open PySem PySem.W PySem.Calls PyProof.Rows
theorem PySem.Challenge.cw_shipsrow_k01_fleets_refused_holds : PySem.Challenge.rw_shipsrow_k01_fleets_refused.Holds := by
  w_on; o_law
  refine HandSHeadRun.head_any (r := OpenLaw.row PySem.Challenge.rw_shipsrow_k01_fleets_refused) (q := view (OpenLaw.row PySem.Challenge.rw_shipsrow_k01_fleets_refused).prog [16]) (H := K01.hk) (ob := K01.ob) (M := 6000) (loose := K01.loose) (d := HandSHeadRun.topDef (OpenLaw.row PySem.Challenge.rw_shipsrow_k01_fleets_refused).prog 16) (kwd := []) K01.ob_eq
    (by kernel_rfl) (fun s => by kernel_rfl) K01.run (by kernel_rfl) (by kernel_rfl) (by kernel_rfl) (by rfl) (by first | assumption | decide +kernel) (by decide +kernel) ⟨rfl, rfl, rfl, rfl, rfl, by decide +kernel⟩ ?hw ?hc
  case hw => w_witness2
  case hc =>
    refine Sim.law_end (n := 63) (k := 9) (x := "_law_script") (f := K01.F_law) (R := K01.R) rfl (by decide) (by kernel_rfl) ⟨rfl, by decide, by decide⟩ (fun _ => rfl) ?F (fun ns hl hb => K01.math ns hl hb)
    intro w mg a h K KX c G hmg0
    have hmg : mg ("law" : PySem.Str) = some (.ref a) := by
      have e : (HandSHeadRun.topDef (OpenLaw.row PySem.Challenge.rw_shipsrow_k01_fleets_refused).prog 16).name = ("law" : PySem.Str) := by kernel_rfl
      rw [← e]
      exact hmg0
    exact K01.facts (P := (PySem.Challenge.rw_shipsrow_k01_fleets_refused).prog) (w := w) KX G hmg c
