import PyProof.Rows.All
import Wide.All
import OpenK.AllK
import Wide.FinOn
import HandS.ForMost
import HandS.Codes
import HandS.IsInst
import HandS.Style
import HandS.More
import HandS.TupAny
import HandS.Deep
import HandS.Conv
import PyProof.P3In
import HandS.Dict
import PyProof.AutoSeq1
import HandS.Iter
import HandS.Ends
import PySem.Challenge.RW_sparkboard_k21_whole_exchanges_and_copie
set_option Elab.async false
set_option linter.all false
set_option maxRecDepth 100000
set_option maxHeartbeats 4000000
namespace Fw
open PySem PySem.Spec PyProof.Rows L2
abbrev D := PyData
/-- what a def's text stands on: the written part, the classes by their names -/
structure Gm where
  K : PySem.W.Frag
  X : Str → Option Addr
def keyD : Key → D
  | .inl i => .int i
  | .inr s => .str s
def keyT (ks : List Key) : D := .tuple (ks.map keyD)
def insD (c : Str) (fs : List Str) (ds : List D) : D := .dict ((.none, .str c) :: (fs.map PyData.str).zip ds)
/-! ### values as data -/
mutual
inductive Rz (G : Gm) (B : Hp) : V → D → Prop
  | non : Rz G B .non .none
  | bl (b : Bool) : Rz G B (.bl b) (.bool b)
  | int (i : Int) : Rz G B (.int i) (.int i)
  | str (x : Str) : Rz G B (.str x) (.str x)
  | lst {a : Addr} {xs : List V} {ds : List D} : B a = some (.lst xs) → RzA G B xs ds → Rz G B (.ref a) (.list ds)
  | tup {a : Addr} {xs : List V} {ds : List D} : SqT G.K B a xs → RzA G B xs ds → Rz G B (.ref a) (.tuple ds)
  | dk {a : Addr} {ks : List (Key × V)} {ds : List D} : B a = some (.dK ks) → RzA G B (ks.map (·.2)) ds → Rz G B (.ref a) (.dict ((ks.map fun k => keyD k.1).zip ds))
  | dt {a : Addr} {ks : List (List Key × V)} {ds : List D} : B a = some (.dT ks) → RzA G B (ks.map (·.2)) ds → Rz G B (.ref a) (.dict ((ks.map fun k => keyT k.1).zip ds))
  | ins {a C dx : Addr} {c : Str} {fs : List (Str × V)} {ds : List D} : B a = some (.ins C dx fs) → B dx = some (.own a) → G.X c = some C → RzA G B (fs.map (·.2)) ds → Rz G B (.ref a) (insD c (fs.map (·.1)) ds)
inductive RzA (G : Gm) (B : Hp) : List V → List D → Prop
  | nil : RzA G B [] []
  | cons {v : V} {vs : List V} {d : D} {ds : List D} : Rz G B v d → RzA G B vs ds → RzA G B (v :: vs) (d :: ds)
end
theorem same_rd {H H' : Hp} {a : Addr} {u : HO} (e : Same H H') (h : Rd H a u) : Rd H' a u := by
  rcases h with h | ⟨o, h⟩
  · exact .inl (e a _ h)
  · exact .inr ⟨o, e a _ h⟩
theorem same_t {K : PySem.W.Frag} {H H' : Hp} {a : Addr} {xs : List V} (e : Same H H') (h : SqT K H a xs) : SqT K H' a xs := by
  rcases h with h | h
  · exact .inl (same_rd e h)
  · exact .inr h
mutual
theorem Rz.same {G : Gm} {B B' : Hp} (s : Same B B') : ∀ {v : V} {d : D}, Rz G B v d → Rz G B' v d
  | _, _, .non => .non
  | _, _, .bl b => .bl b
  | _, _, .int i => .int i
  | _, _, .str x => .str x
  | _, _, .lst h hs => .lst (s _ _ h) (RzA.same s hs)
  | _, _, .tup h hs => .tup (same_t s h) (RzA.same s hs)
  | _, _, .dk h hs => .dk (s _ _ h) (RzA.same s hs)
  | _, _, .dt h hs => .dt (s _ _ h) (RzA.same s hs)
  | _, _, .ins h h2 h3 hs => .ins (s _ _ h) (s _ _ h2) h3 (RzA.same s hs)
theorem RzA.same {G : Gm} {B B' : Hp} (s : Same B B') : ∀ {v : List V} {d : List D}, RzA G B v d → RzA G B' v d
  | _, _, .nil => .nil
  | _, _, .cons h t => .cons (Rz.same s h) (RzA.same s t)
end
theorem same_upd {H : Hp} {p : Addr} {o : HO} (h : H p = none) : Same H (upd H p o) := fun b x e => by
  rw [upd_ne (ne_of_none e h)]
  exact e
section
variable {G : Gm} {B : Hp}
theorem RzA.length : ∀ {vs : List V} {ds : List D}, RzA G B vs ds → vs.length = ds.length
  | _, _, .nil => rfl
  | _, _, .cons _ t => congrArg (· + 1) t.length
theorem RzA.get : ∀ {vs : List V} {ds : List D} {i : Nat} {d : D}, RzA G B vs ds → ds[i]? = some d → ∃ x, vs[i]? = some x ∧ Rz G B x d
  | _, _, 0, _, .cons h _, e => by cases e; exact ⟨_, rfl, h⟩
  | _, _, i + 1, d, .cons _ t, e => RzA.get (i := i) t (by simpa using e)
  | _, _, 0, _, .nil, e => by cases e
  | _, _, i + 1, _, .nil, e => by cases e
theorem RzA.getV : ∀ {vs : List V} {ds : List D} {i : Nat} {x : V}, RzA G B vs ds → vs[i]? = some x → ∃ d, ds[i]? = some d ∧ Rz G B x d
  | _, _, 0, _, .cons h _, e => by cases e; exact ⟨_, rfl, h⟩
  | _, _, i + 1, d, .cons _ t, e => RzA.getV (i := i) t (by simpa using e)
  | _, _, 0, _, .nil, e => by cases e
  | _, _, i + 1, _, .nil, e => by cases e
theorem RzA.app : ∀ {vs us : List V} {ds es : List D}, RzA G B vs ds → RzA G B us es → RzA G B (vs ++ us) (ds ++ es)
  | _, _, _, _, .nil, h => h
  | _, _, _, _, .cons h t, u => .cons h (t.app u)
theorem RzA.take : ∀ {vs : List V} {ds : List D} (n : Nat), RzA G B vs ds → RzA G B (vs.take n) (ds.take n)
  | _, _, 0, _ => .nil
  | _, _, _ + 1, .nil => .nil
  | _, _, n + 1, .cons h t => .cons h (RzA.take n t)
theorem RzA.drop : ∀ {vs : List V} {ds : List D} (n : Nat), RzA G B vs ds → RzA G B (vs.drop n) (ds.drop n)
  | _, _, 0, h => h
  | _, _, _ + 1, .nil => .nil
  | _, _, n + 1, .cons _ t => RzA.drop n t
theorem RzA.set {x : V} {d : D} (h : Rz G B x d) : ∀ {vs : List V} {ds : List D} (n : Nat), RzA G B vs ds → RzA G B (vs.set n x) (ds.set n d)
  | _, _, _, .nil => .nil
  | _, _, 0, .cons _ t => .cons h t
  | _, _, n + 1, .cons h1 t => .cons h1 (RzA.set h n t)
theorem RzA.eraseIdx : ∀ {vs : List V} {ds : List D} (n : Nat), RzA G B vs ds → RzA G B (vs.eraseIdx n) (ds.eraseIdx n)
  | _, _, _, .nil => .nil
  | _, _, 0, .cons _ t => t
  | _, _, n + 1, .cons h1 t => .cons h1 (RzA.eraseIdx n t)
theorem RzA.reverse : ∀ {vs : List V} {ds : List D}, RzA G B vs ds → RzA G B vs.reverse ds.reverse
  | _, _, .nil => .nil
  | _, _, .cons h t => by
    rw [List.reverse_cons, List.reverse_cons]
    exact (RzA.reverse t).app (.cons h .nil)
theorem RzA.rep {x : V} {d : D} (h : Rz G B x d) : ∀ n : Nat, RzA G B (List.replicate n x) (List.replicate n d)
  | 0 => .nil
  | n + 1 => .cons h (RzA.rep h n)
theorem RzA.flat {vs : List V} {ds : List D} (h : RzA G B vs ds) : ∀ n : Nat, RzA G B (List.replicate n vs).flatten (List.replicate n ds).flatten
  | 0 => .nil
  | n + 1 => by
    rw [List.replicate_succ, List.replicate_succ, List.flatten_cons, List.flatten_cons]
    exact h.app (RzA.flat h n)
theorem RzA.ints (ns : List Int) : RzA G B (ns.map V.int) (ns.map PyData.int) := by
  induction ns with
  | nil => exact .nil
  | cons n t ih => exact .cons (.int n) ih
theorem Rz.non_inv {v : V} (h : Rz G B v .none) : v = .non := by cases h; rfl
theorem Rz.int_inv {v : V} {i : Int} (h : Rz G B v (.int i)) : v = .int i := by cases h; rfl
theorem Rz.str_inv {v : V} {i : Str} (h : Rz G B v (.str i)) : v = .str i := by cases h; rfl
theorem Rz.bl_inv {v : V} {i : Bool} (h : Rz G B v (.bool i)) : v = .bl i := by cases h; rfl
theorem Rz.lst_inv {v : V} {ds : List D} (h : Rz G B v (.list ds)) : ∃ a xs, v = .ref a ∧ B a = some (.lst xs) ∧ RzA G B xs ds := by
  cases h with
  | lst h hs => exact ⟨_, _, rfl, h, hs⟩
theorem Rz.tup_inv {v : V} {ds : List D} (h : Rz G B v (.tuple ds)) : ∃ a xs, v = .ref a ∧ SqT G.K B a xs ∧ RzA G B xs ds := by
  cases h with
  | tup h hs => exact ⟨_, _, rfl, h, hs⟩
mutual
/-- data without dicts and instances -/
def plain : D → Bool
  | .dict _ => false
  | .list ds => plainA ds
  | .tuple ds => plainA ds
  | _ => true
def plainA : List D → Bool
  | [] => true
  | d :: ds => plain d && plainA ds
end
mutual
theorem Rz.dp : ∀ {v : V} {d : D}, plain d = true → Rz G B v d → Dp G.K B v d
  | _, _, _, .non => .non
  | _, _, _, .bl b => .bl b
  | _, _, _, .int i => .int i
  | _, _, _, .str x => .str x
  | _, _, p, .lst h hs => .lst (SqL.of h) (RzA.dp (by simpa [plain] using p) hs)
  | _, _, p, .tup h hs => .tup h (RzA.dp (by simpa [plain] using p) hs)
  | _, _, p, .dk h hs => by simp [plain] at p
  | _, _, p, .dt h hs => by simp [plain] at p
  | _, _, p, .ins h h2 h3 hs => by simp [plain, insD] at p
theorem RzA.dp : ∀ {v : List V} {d : List D}, plainA d = true → RzA G B v d → DpAll G.K B v d
  | _, _, _, .nil => .nil
  | _, _, p, .cons h t => by
    simp only [plainA, Bool.and_eq_true] at p
    exact .cons (Rz.dp p.1 h) (RzA.dp p.2 t)
end
end
end Fw

set_option linter.all false
set_option maxRecDepth 100000
set_option maxHeartbeats 4000000
namespace Fw
open PySem PySem.Spec PyProof.Rows L2
/-! ### the state of a def: its slots, the pen -/
inductive Slot where
  | u | d (x : D) | o (x : D) | p
structure PenS where
  ns : List Int
  a : Int
  d : Int
  n : Int
  f : Int
structure Ev where
  sl : List Slot
  pen : PenS
abbrev Pn := Option (Addr × Addr)
def NP (pn : Pn) (a : Addr) : Prop := ∀ q, pn = some q → a ≠ q.1
def penD (c : Addr) (p : PenS) : List (Key × V) := [(.inr "cells", .ref c), (.inr "at", .int p.a), (.inr "digits", .int p.d), (.inr "count", .int p.n), (.inr "fold", .int p.f)]
def PenAt (pn : Pn) (p : PenS) (H B U : Hp) : Prop := ∀ q, pn = some q → B q.1 = none ∧ U q.1 = none ∧ H q.1 = some (.dK (penD q.2 p)) ∧ B q.2 = some (.lst (p.ns.map V.int))
structure Base (U : Hp) (pn : Pn) (p : PenS) (H B : Hp) : Prop where
  bh : Same B H
  uh : Same U H
  bu : ∀ a o, B a = some o → U a = none
  pen : PenAt pn p H B U
/-- an object of one's own: its parts are data -/
inductive OwnAt (G : Gm) (B H : Hp) (p : Addr) : D → Prop
  | lst {xs : List V} {ds : List D} : H p = some (.lst xs) → RzA G B xs ds → OwnAt G B H p (.list ds)
  | dk {ks : List (Key × V)} {ds : List D} : H p = some (.dK ks) → RzA G B (ks.map (·.2)) ds → OwnAt G B H p (.dict ((ks.map fun k => keyD k.1).zip ds))
  | dt {ks : List (List Key × V)} {ds : List D} : H p = some (.dT ks) → RzA G B (ks.map (·.2)) ds → OwnAt G B H p (.dict ((ks.map fun k => keyT k.1).zip ds))
inductive Slots (G : Gm) (pn : Pn) (B H : Hp) : L2.St → List Slot → List Addr → Prop
  | nil : Slots G pn B H [] [] []
  | u {x : Option V} {σ : L2.St} {ρ : List Slot} {os : List Addr} : Slots G pn B H σ ρ os → Slots G pn B H (x :: σ) (.u :: ρ) os
  | d {v : V} {x : D} {σ : L2.St} {ρ : List Slot} {os : List Addr} : Rz G B v x → Slots G pn B H σ ρ os → Slots G pn B H (some v :: σ) (.d x :: ρ) os
  | o {p : Addr} {x : D} {σ : L2.St} {ρ : List Slot} {os : List Addr} : OwnAt G B H p x → Slots G pn B H σ ρ os → Slots G pn B H (some (.ref p) :: σ) (.o x :: ρ) (p :: os)
  | p {a c : Addr} {σ : L2.St} {ρ : List Slot} {os : List Addr} : pn = some (a, c) → Slots G pn B H σ ρ os → Slots G pn B H (some (.ref a) :: σ) (.p :: ρ) os
def Free (U : Hp) (pn : Pn) (B : Hp) (os : List Addr) : Prop := ∀ q ∈ os, B q = none ∧ U q = none ∧ NP pn q
structure Rl (G : Gm) (U : Hp) (pn : Pn) (e : Ev) (σ : L2.St) (H B : Hp) : Prop where
  b : Base U pn e.pen H B
  s : ∃ os, Slots G pn B H σ e.sl os ∧ os.Nodup ∧ Free U pn B os
/-- all but the pen stands -/
def Keep (pn : Pn) (H H' : Hp) : Prop := ∀ a o, H a = some o → NP pn a → H' a = some o
theorem Keep.refl {pn : Pn} {H : Hp} : Keep pn H H := fun _ _ h _ => h
theorem Keep.trans {pn : Pn} {H H1 H2 : Hp} (a : Keep pn H H1) (b : Keep pn H1 H2) : Keep pn H H2 := fun x o h n => b x o (a x o h n) n
theorem Keep.of {pn : Pn} {H H' : Hp} (s : Same H H') : Keep pn H H' := fun a o h _ => s a o h
/-- seen from without: the object itself in the heap, its parts data -/
inductive RzB (G : Gm) (pn : Pn) (B H : Hp) : V → D → Prop
  | non : RzB G pn B H .non .none
  | bl (b : Bool) : RzB G pn B H (.bl b) (.bool b)
  | int (i : Int) : RzB G pn B H (.int i) (.int i)
  | str (x : Str) : RzB G pn B H (.str x) (.str x)
  | lst {a : Addr} {xs : List V} {ds : List D} : H a = some (.lst xs) → NP pn a → RzA G B xs ds → RzB G pn B H (.ref a) (.list ds)
  | tup {a : Addr} {xs : List V} {ds : List D} : SqT G.K B a xs → RzA G B xs ds → RzB G pn B H (.ref a) (.tuple ds)
  | dk {a : Addr} {ks : List (Key × V)} {ds : List D} : H a = some (.dK ks) → NP pn a → RzA G B (ks.map (·.2)) ds → RzB G pn B H (.ref a) (.dict ((ks.map fun k => keyD k.1).zip ds))
  | dt {a : Addr} {ks : List (List Key × V)} {ds : List D} : H a = some (.dT ks) → NP pn a → RzA G B (ks.map (·.2)) ds → RzB G pn B H (.ref a) (.dict ((ks.map fun k => keyT k.1).zip ds))
  | ins {a C dx : Addr} {c : Str} {fs : List (Str × V)} {ds : List D} : B a = some (.ins C dx fs) → B dx = some (.own a) → G.X c = some C → RzA G B (fs.map (·.2)) ds → RzB G pn B H (.ref a) (insD c (fs.map (·.1)) ds)
section
variable {G : Gm} {U : Hp} {pn : Pn} {e : Ev} {σ : L2.St} {H B H' B' : Hp} {v : V} {x : D}
theorem Base.np (b : Base U pn e.pen H B) {a : Addr} {o : HO} (h : B a = some o) : NP pn a := fun q hq z => by
  have := (b.pen q hq).1
  rw [← z, h] at this
  cases this
theorem Rz.b (b : Base U pn e.pen H B) (h : Rz G B v x) : RzB G pn B H v x := by
  cases h with
  | non => exact .non
  | bl b => exact .bl b
  | int b => exact .int b
  | str b => exact .str b
  | lst h hs => exact .lst (b.bh _ _ h) (b.np h) hs
  | tup h hs => exact .tup h hs
  | dk h hs => exact .dk (b.bh _ _ h) (b.np h) hs
  | dt h hs => exact .dt (b.bh _ _ h) (b.np h) hs
  | ins h h2 h3 hs => exact .ins h h2 h3 hs
theorem OwnAt.rb {p : Addr} (n : NP pn p) (h : OwnAt G B H p x) : RzB G pn B H (.ref p) x := by
  cases h with
  | lst h hs => exact .lst h n hs
  | dk h hs => exact .dk h n hs
  | dt h hs => exact .dt h n hs
theorem RzB.keep (k : Keep pn H H') (s : Same B B') (h : RzB G pn B H v x) : RzB G pn B' H' v x := by
  cases h with
  | non => exact .non
  | bl b => exact .bl b
  | int b => exact .int b
  | str b => exact .str b
  | lst h n hs => exact .lst (k _ _ h n) n (hs.same s)
  | tup h hs => exact .tup (same_t s h) (hs.same s)
  | dk h n hs => exact .dk (k _ _ h n) n (hs.same s)
  | dt h n hs => exact .dt (k _ _ h n) n (hs.same s)
  | ins h h2 h3 hs => exact .ins (s _ _ h) (s _ _ h2) h3 (hs.same s)
theorem RzB.int_inv {i : Int} (h : RzB G pn B H v (.int i)) : v = .int i := by cases h; rfl
theorem RzB.str_inv {i : Str} (h : RzB G pn B H v (.str i)) : v = .str i := by cases h; rfl
theorem RzB.bl_inv {i : Bool} (h : RzB G pn B H v (.bool i)) : v = .bl i := by cases h; rfl
theorem RzB.non_inv (h : RzB G pn B H v .none) : v = .non := by cases h; rfl
theorem RzB.lst_inv {ds : List D} (h : RzB G pn B H v (.list ds)) : ∃ a xs, v = .ref a ∧ H a = some (.lst xs) ∧ NP pn a ∧ RzA G B xs ds := by
  cases h with
  | lst h n hs => exact ⟨_, _, rfl, h, n, hs⟩
theorem RzB.tup_inv {ds : List D} (h : RzB G pn B H v (.tuple ds)) : ∃ a xs, v = .ref a ∧ SqT G.K B a xs ∧ RzA G B xs ds := by
  cases h with
  | tup h hs => exact ⟨_, _, rfl, h, hs⟩
theorem RzB.tup_data {ds : List D} (h : RzB G pn B H v (.tuple ds)) : Rz G B v (.tuple ds) := by
  cases h with
  | tup h hs => exact .tup h hs
theorem RzB.dp (b : Same B H) (p : plain x = true) (h : RzB G pn B H v x) : Dp G.K H v x := by
  cases h with
  | non => exact .non
  | bl b => exact .bl b
  | int b => exact .int b
  | str b => exact .str b
  | lst h n hs => exact .lst (SqL.of h) (RzA.dp (by simpa [plain] using p) (hs.same b))
  | tup h hs => exact .tup (same_t b h) (RzA.dp (by simpa [plain] using p) (hs.same b))
  | dk h hs => simp [plain] at p
  | dt h hs => simp [plain] at p
  | ins h h2 h3 hs => simp [plain, insD] at p
theorem OwnAt.keep {p : Addr} (k : H' p = H p) (s : Same B B') (h : OwnAt G B H p x) : OwnAt G B' H' p x := by
  cases h with
  | lst h hs => exact .lst (k.trans h) (hs.same s)
  | dk h hs => exact .dk (k.trans h) (hs.same s)
  | dt h hs => exact .dt (k.trans h) (hs.same s)
theorem OwnAt.at {p : Addr} (h : OwnAt G B H p x) : ∃ o, H p = some o := by
  cases h with
  | lst h hs => exact ⟨_, h⟩
  | dk h hs => exact ⟨_, h⟩
  | dt h hs => exact ⟨_, h⟩
/-- freed: it may stand within data from now on -/
theorem OwnAt.free {p : Addr} {o : HO} (e : H p = some o) (n : B p = none) (h : OwnAt G B H p x) : Rz G (upd B p o) (.ref p) x := by
  cases h with
  | lst h hs => rw [h] at e; cases e; exact .lst upd_same (hs.same (same_upd n))
  | dk h hs => rw [h] at e; cases e; exact .dk upd_same (hs.same (same_upd n))
  | dt h hs => rw [h] at e; cases e; exact .dt upd_same (hs.same (same_upd n))
variable {ρ : List Slot} {os : List Addr}
theorem Slots.grow (s : Same B B') : ∀ {σ : L2.St} {ρ : List Slot} {os : List Addr}, (∀ q ∈ os, H' q = H q) → Slots G pn B H σ ρ os → Slots G pn B' H' σ ρ os
  | _, _, _, _, .nil => .nil
  | _, _, _, k, .u t => .u (t.grow s k)
  | _, _, _, k, .d h t => .d (h.same s) (t.grow s k)
  | _, _, _, k, .o h t => .o (h.keep (k _ (.head _)) s) (t.grow s fun q hq => k q (.tail _ hq))
  | _, _, _, k, .p h t => .p h (t.grow s k)
theorem Slots.len : ∀ {σ : L2.St} {ρ : List Slot} {os : List Addr}, Slots G pn B H σ ρ os → σ.length = ρ.length
  | _, _, _, .nil => rfl
  | _, _, _, .u t => congrArg (· + 1) t.len
  | _, _, _, .d _ t => congrArg (· + 1) t.len
  | _, _, _, .o _ t => congrArg (· + 1) t.len
  | _, _, _, .p _ t => congrArg (· + 1) t.len
theorem Slots.get : ∀ {σ : L2.St} {ρ : List Slot} {os : List Addr} {i : Nat} {x : D}, Slots G pn B H σ ρ os → ρ[i]? = some (.d x) → ∃ v, σ[i]? = some (some v) ∧ Rz G B v x
  | _, _, _, 0, _, .d h _, e => by cases e; exact ⟨_, rfl, h⟩
  | _, _, _, 0, _, .u _, e => by cases e
  | _, _, _, 0, _, .o _ _, e => by cases e
  | _, _, _, 0, _, .p _ _, e => by cases e
  | _, _, _, i + 1, _, .d _ t, e => Slots.get (i := i) t (by simpa using e)
  | _, _, _, i + 1, _, .u t, e => Slots.get (i := i) t (by simpa using e)
  | _, _, _, i + 1, _, .o _ t, e => Slots.get (i := i) t (by simpa using e)
  | _, _, _, i + 1, _, .p _ t, e => Slots.get (i := i) t (by simpa using e)
  | _, _, _, _, _, .nil, e => by simp at e
theorem Slots.getO : ∀ {σ : L2.St} {ρ : List Slot} {os : List Addr} {i : Nat} {x : D}, Slots G pn B H σ ρ os → ρ[i]? = some (.o x) → ∃ p, σ[i]? = some (some (.ref p)) ∧ OwnAt G B H p x ∧ p ∈ os
  | _, _, _, 0, _, .o h _, e => by cases e; exact ⟨_, rfl, h, .head _⟩
  | _, _, _, 0, _, .u _, e => by cases e
  | _, _, _, 0, _, .d _ _, e => by cases e
  | _, _, _, 0, _, .p _ _, e => by cases e
  | _, _, _, i + 1, _, .d _ t, e => Slots.getO (i := i) t (by simpa using e)
  | _, _, _, i + 1, _, .u t, e => Slots.getO (i := i) t (by simpa using e)
  | _, _, _, i + 1, _, .o _ t, e => by
    obtain ⟨p, h1, h2, h3⟩ := Slots.getO (i := i) t (by simpa using e)
    exact ⟨p, h1, h2, .tail _ h3⟩
  | _, _, _, i + 1, _, .p _ t, e => Slots.getO (i := i) t (by simpa using e)
  | _, _, _, _, _, .nil, e => by simp at e
theorem Slots.getP : ∀ {σ : L2.St} {ρ : List Slot} {os : List Addr} {i : Nat}, Slots G pn B H σ ρ os → ρ[i]? = some .p → ∃ a c, σ[i]? = some (some (.ref a)) ∧ pn = some (a, c)
  | _, _, _, 0, .p h _, e => ⟨_, _, rfl, h⟩
  | _, _, _, 0, .u _, e => by cases e
  | _, _, _, 0, .d _ _, e => by cases e
  | _, _, _, 0, .o _ _, e => by cases e
  | _, _, _, i + 1, .d _ t, e => Slots.getP (i := i) t (by simpa using e)
  | _, _, _, i + 1, .u t, e => Slots.getP (i := i) t (by simpa using e)
  | _, _, _, i + 1, .o _ t, e => Slots.getP (i := i) t (by simpa using e)
  | _, _, _, i + 1, .p _ t, e => Slots.getP (i := i) t (by simpa using e)
  | _, _, _, _, .nil, e => by simp at e
/-- a slot's store of data -/
theorem Slots.setD (h : Rz G B v x) : ∀ {σ : L2.St} {ρ : List Slot} {os : List Addr} (i : Nat), Slots G pn B H σ ρ os → ∃ os', Slots G pn B H (σ.set i (some v)) (ρ.set i (.d x)) os' ∧ os'.Sublist os
  | _, _, _, _, .nil => ⟨[], .nil, .slnil⟩
  | _, _, _, 0, .u t => ⟨_, .d h t, List.Sublist.refl _⟩
  | _, _, _, 0, .d _ t => ⟨_, .d h t, List.Sublist.refl _⟩
  | _, _, _, 0, .o _ t => ⟨_, .d h t, List.sublist_cons_self ..⟩
  | _, _, _, 0, .p _ t => ⟨_, .d h t, List.Sublist.refl _⟩
  | _, _, _, i + 1, .u t => let ⟨os, a, b⟩ := Slots.setD h i t; ⟨os, .u a, b⟩
  | _, _, _, i + 1, .d g t => let ⟨os, a, b⟩ := Slots.setD h i t; ⟨os, .d g a, b⟩
  | _, _, _, i + 1, .o g t => let ⟨os, a, b⟩ := Slots.setD h i t; ⟨_ :: os, .o g a, b.cons₂ _⟩
  | _, _, _, i + 1, .p g t => let ⟨os, a, b⟩ := Slots.setD h i t; ⟨os, .p g a, b⟩
/-- .. of nothing -/
theorem Slots.setU {w : Option V} : ∀ {σ : L2.St} {ρ : List Slot} {os : List Addr} (i : Nat), Slots G pn B H σ ρ os → ∃ os', Slots G pn B H (σ.set i w) (ρ.set i .u) os' ∧ os'.Sublist os
  | _, _, _, _, .nil => ⟨[], .nil, .slnil⟩
  | _, _, _, 0, .u t => ⟨_, .u t, List.Sublist.refl _⟩
  | _, _, _, 0, .d _ t => ⟨_, .u t, List.Sublist.refl _⟩
  | _, _, _, 0, .o _ t => ⟨_, .u t, List.sublist_cons_self ..⟩
  | _, _, _, 0, .p _ t => ⟨_, .u t, List.Sublist.refl _⟩
  | _, _, _, i + 1, .u t => let ⟨os, a, b⟩ := Slots.setU i t; ⟨os, .u a, b⟩
  | _, _, _, i + 1, .d g t => let ⟨os, a, b⟩ := Slots.setU i t; ⟨os, .d g a, b⟩
  | _, _, _, i + 1, .o g t => let ⟨os, a, b⟩ := Slots.setU i t; ⟨_ :: os, .o g a, b.cons₂ _⟩
  | _, _, _, i + 1, .p g t => let ⟨os, a, b⟩ := Slots.setU i t; ⟨os, .p g a, b⟩
/-- .. of a new object of one's own -/
theorem Slots.setO {p : Addr} (h : OwnAt G B H p x) : ∀ {σ : L2.St} {ρ : List Slot} {os : List Addr} (i : Nat), i < ρ.length → Slots G pn B H σ ρ os → ∃ os', Slots G pn B H (σ.set i (some (.ref p))) (ρ.set i (.o x)) os' ∧ (∀ q ∈ os', q = p ∨ q ∈ os) ∧ (os.Nodup → p ∉ os → os'.Nodup)
  | _, _, _, _, l, .nil => by cases l
  | _, _, _, 0, _, .u t => ⟨_, .o h t, fun q hq => (List.mem_cons.mp hq), fun n f => List.nodup_cons.mpr ⟨f, n⟩⟩
  | _, _, _, 0, _, .d _ t => ⟨_, .o h t, fun q hq => (List.mem_cons.mp hq), fun n f => List.nodup_cons.mpr ⟨f, n⟩⟩
  | _, _, _, 0, _, .o _ t => ⟨_, .o h t, fun q hq => (List.mem_cons.mp hq).imp id fun z => .tail _ z, fun n f => List.nodup_cons.mpr ⟨fun z => f (.tail _ z), (List.nodup_cons.mp n).2⟩⟩
  | _, _, _, 0, _, .p _ t => ⟨_, .o h t, fun q hq => (List.mem_cons.mp hq), fun n f => List.nodup_cons.mpr ⟨f, n⟩⟩
  | _, _, _, i + 1, l, .u t => let ⟨os, a, b, c⟩ := Slots.setO h i (Nat.lt_of_succ_lt_succ l) t; ⟨os, .u a, b, c⟩
  | _, _, _, i + 1, l, .d g t => let ⟨os, a, b, c⟩ := Slots.setO h i (Nat.lt_of_succ_lt_succ l) t; ⟨os, .d g a, b, c⟩
  | _, _, _, i + 1, l, .o g t => let ⟨os, a, b, c⟩ := Slots.setO h i (Nat.lt_of_succ_lt_succ l) t
      ⟨_ :: os, .o g a, fun q hq => (List.mem_cons.mp hq).elim (fun z => .inr (z ▸ .head _)) fun z => (b q z).imp id fun y => .tail _ y,
        fun n f => List.nodup_cons.mpr ⟨fun z => (b _ z).elim (fun y => f (y ▸ .head _)) fun y => (List.nodup_cons.mp n).1 y, c (List.nodup_cons.mp n).2 fun z => f (.tail _ z)⟩⟩
  | _, _, _, i + 1, l, .p g t => let ⟨os, a, b, c⟩ := Slots.setO h i (Nat.lt_of_succ_lt_succ l) t; ⟨os, .p g a, b, c⟩
/-- an object of one's own changes -/
theorem Slots.mut {p : Addr} {y : D} : ∀ {σ : L2.St} {ρ : List Slot} {os : List Addr} (i : Nat), (∀ q ∈ os, q ≠ p → H' q = H q) → OwnAt G B H' p y → os.Nodup → σ[i]? = some (some (.ref p)) → ρ[i]? = some (.o x) → Slots G pn B H σ ρ os → Slots G pn B H' σ (ρ.set i (.o y)) os
  | _, _, _, _, _, _, _, e, _, .nil => by simp at e
  | _, _, _, 0, k, h, n, e, _, .o g t => by
    cases e
    exact .o h (t.grow (Same.refl _) fun q hq => k q (.tail _ hq) fun z => (List.nodup_cons.mp n).1 (z ▸ hq))
  | _, _, _, 0, _, _, _, _, f, .u _ => by cases f
  | _, _, _, 0, _, _, _, _, f, .d _ _ => by cases f
  | _, _, _, 0, _, _, _, _, f, .p _ _ => by cases f
  | _, _, _, i + 1, k, h, n, e, f, .u t => .u (Slots.mut i k h n (by simpa using e) (by simpa using f) t)
  | _, _, _, i + 1, k, h, n, e, f, .d g t => .d g (Slots.mut i k h n (by simpa using e) (by simpa using f) t)
  | _, _, _, i + 1, k, h, n, e, f, .p g t => .p g (Slots.mut i k h n (by simpa using e) (by simpa using f) t)
  | _, _, _, i + 1, k, h, n, e, f, .o g t => by
    obtain ⟨p', e', _, m⟩ := Slots.getO (i := i) t (by simpa using f)
    have e2 : some (some (V.ref p')) = some (some (V.ref p)) := e'.symm.trans (by simpa using e)
    cases e2
    exact .o (g.keep (k _ (.head _) fun z => (List.nodup_cons.mp n).1 (z ▸ m)) (Same.refl _)) (Slots.mut i (fun q hq => k q (.tail _ hq)) h (List.nodup_cons.mp n).2 (by simpa using e) (by simpa using f) t)
/-- .. becomes data -/
theorem Slots.rel {p : Addr} (s : Same B B') (h : Rz G B' (.ref p) x) : ∀ {σ : L2.St} {ρ : List Slot} {os : List Addr} (i : Nat), os.Nodup → σ[i]? = some (some (.ref p)) → ρ[i]? = some (.o x) → Slots G pn B H σ ρ os → ∃ os', Slots G pn B' H σ (ρ.set i (.d x)) os' ∧ os'.Sublist os ∧ p ∉ os'
  | _, _, _, _, _, e, _, .nil => by simp at e
  | _, _, _, 0, n, e, _, .o g t => by
    cases e
    exact ⟨_, .d h (t.grow s fun _ _ => rfl), List.sublist_cons_self .., (List.nodup_cons.mp n).1⟩
  | _, _, _, 0, _, _, f, .u _ => by cases f
  | _, _, _, 0, _, _, f, .d _ _ => by cases f
  | _, _, _, 0, _, _, f, .p _ _ => by cases f
  | _, _, _, i + 1, n, e, f, .u t => let ⟨os, a, b, c⟩ := Slots.rel s h i n (by simpa using e) (by simpa using f) t; ⟨os, .u a, b, c⟩
  | _, _, _, i + 1, n, e, f, .d g t => let ⟨os, a, b, c⟩ := Slots.rel s h i n (by simpa using e) (by simpa using f) t; ⟨os, .d (g.same s) a, b, c⟩
  | _, _, _, i + 1, n, e, f, .p g t => let ⟨os, a, b, c⟩ := Slots.rel s h i n (by simpa using e) (by simpa using f) t; ⟨os, .p g a, b, c⟩
  | _, _, _, i + 1, n, e, f, .o g t => by
    obtain ⟨p', e', _, m⟩ := Slots.getO (i := i) t (by simpa using f)
    have e2 : some (some (V.ref p')) = some (some (V.ref p)) := e'.symm.trans (by simpa using e)
    cases e2
    obtain ⟨os, a, b, c⟩ := Slots.rel s h i (List.nodup_cons.mp n).2 (by simpa using e) (by simpa using f) t
    refine ⟨_ :: os, .o (g.keep rfl s) a, b.cons₂ _, fun z => ?_⟩
    rcases List.mem_cons.mp z with z | z
    · exact (List.nodup_cons.mp n).1 (z ▸ m)
    · exact c z
theorem Slots.there : ∀ {σ : L2.St} {ρ : List Slot} {os : List Addr} {q : Addr}, Slots G pn B H σ ρ os → q ∈ os → ∃ o, H q = some o
  | _, _, _, _, .nil, h => by cases h
  | _, _, _, _, .u t, h => t.there h
  | _, _, _, _, .d _ t, h => t.there h
  | _, _, _, _, .p _ t, h => t.there h
  | _, _, _, _, .o g t, h => (List.mem_cons.mp h).elim (fun z => z ▸ g.at) fun z => t.there z
/-! ### the whole -/
theorem Rl.get (r : Rl G U pn e σ H B) {i : Nat} (h : e.sl[i]? = some (.d x)) : ∃ v, σ[i]? = some (some v) ∧ Rz G B v x := by
  obtain ⟨os, s, _, _⟩ := r.s
  exact s.get h
theorem Rl.getO (r : Rl G U pn e σ H B) {i : Nat} (h : e.sl[i]? = some (.o x)) : ∃ p, σ[i]? = some (some (.ref p)) ∧ OwnAt G B H p x ∧ B p = none ∧ U p = none ∧ NP pn p := by
  obtain ⟨os, s, _, f⟩ := r.s
  obtain ⟨p, h1, h2, h3⟩ := s.getO h
  exact ⟨p, h1, h2, f p h3⟩
theorem Rl.new (r : Rl G U pn e σ H B) {p : Addr} {o : HO} (h : H p = none) : Rl G U pn e σ (upd H p o) (upd B p o) := by
  obtain ⟨⟨bh, uh, bu, pe⟩, os, s, n, f⟩ := r
  have hB : B p = none := bh.free h
  have hU : U p = none := uh.free h
  refine ⟨⟨fun a x hx => ?_, uh.trans (same_upd h), fun a x hx => ?_, fun q hq => ?_⟩, os, s.grow (same_upd hB) (fun q hq => ?_), n, fun q hq => ?_⟩
  · by_cases z : a = p
    · rw [z, upd_same] at hx ⊢; exact hx
    · rw [upd_ne z] at hx ⊢; exact bh a x hx
  · by_cases z : a = p
    · rw [z]; exact hU
    · rw [upd_ne z] at hx; exact bu a x hx
  · obtain ⟨h1, h2, h3, h4⟩ := pe q hq
    have nq : q.1 ≠ p := fun z => by rw [← z, h3] at h; cases h
    exact ⟨(upd_ne nq).trans h1, h2, (upd_ne nq).trans h3, same_upd hB _ _ h4⟩
  · obtain ⟨p', hp⟩ := s.there hq
    exact upd_ne (ne_of_none hp h)
  · obtain ⟨h1, h2, h3⟩ := f q hq
    have nq : q ≠ p := fun z => by
      obtain ⟨o, ho⟩ := s.there hq
      rw [z, h] at ho
      cases ho
    exact ⟨(upd_ne nq).trans h1, h2, h3⟩
/-- a new object that is not yet data -/
structure Fresh (G : Gm) (U : Hp) (pn : Pn) (e : Ev) (σ : L2.St) (H B : Hp) (p : Addr) (x : D) : Prop where
  b : Base U pn e.pen H B
  s : ∃ os, Slots G pn B H σ e.sl os ∧ os.Nodup ∧ Free U pn B os ∧ p ∉ os
  o : OwnAt G B H p x
  n : B p = none ∧ U p = none ∧ NP pn p
theorem Fresh.rl {p : Addr} (r : Fresh G U pn e σ H B p x) : Rl G U pn e σ H B := by
  obtain ⟨os, s, n, f, _⟩ := r.s
  exact ⟨r.b, os, s, n, f⟩
/-- .. made data -/
theorem base_in {q : PenS} {p : Addr} {o : HO} (b : Base U pn q H B) (h : H p = some o) (hB : B p = none) (hU : U p = none) (hn : NP pn p) : Base U pn q H (upd B p o) := by
  refine ⟨fun a x hx => ?_, b.uh, fun a x hx => ?_, fun q hq => ?_⟩
  · by_cases z : a = p
    · rw [z, upd_same] at hx; rw [z, h]; exact hx
    · rw [upd_ne z] at hx; exact b.bh a x hx
  · by_cases z : a = p
    · rw [z]; exact hU
    · rw [upd_ne z] at hx; exact b.bu a x hx
  · obtain ⟨h1, h2, h3, h4⟩ := b.pen q hq
    exact ⟨(upd_ne (fun z => hn q hq z.symm)).trans h1, h2, h3, same_upd hB _ _ h4⟩
theorem Fresh.data {p : Addr} (r : Fresh G U pn e σ H B p x) : ∃ B', Rl G U pn e σ H B' ∧ Same B B' ∧ Rz G B' (.ref p) x := by
  obtain ⟨os, s, n, f, np⟩ := r.s
  obtain ⟨o, ho⟩ := r.o.at
  obtain ⟨hB, hU, hn⟩ := r.n
  refine ⟨upd B p o, ⟨base_in r.b ho hB hU hn, os, s.grow (same_upd hB) (fun _ _ => rfl), n, fun q hq => ?_⟩, same_upd hB, r.o.free ho hB⟩
  obtain ⟨h1, h2, h3⟩ := f q hq
  exact ⟨(upd_ne (fun z => np (by rw [← z]; exact hq))).trans h1, h2, h3⟩
theorem Rl.setD (r : Rl G U pn e σ H B) (h : Rz G B v x) (i : Nat) : Rl G U pn ⟨e.sl.set i (.d x), e.pen⟩ (σ.set i (some v)) H B := by
  obtain ⟨b, os, s, n, f⟩ := r
  obtain ⟨os', s', sb⟩ := Slots.setD h i s
  exact ⟨b, os', s', sb.nodup n, fun q hq => f q (sb.subset hq)⟩
theorem Rl.setU (r : Rl G U pn e σ H B) {w : Option V} (i : Nat) : Rl G U pn ⟨e.sl.set i .u, e.pen⟩ (σ.set i w) H B := by
  obtain ⟨b, os, s, n, f⟩ := r
  obtain ⟨os', s', sb⟩ := Slots.setU (w := w) i s
  exact ⟨b, os', s', sb.nodup n, fun q hq => f q (sb.subset hq)⟩
theorem Fresh.setO {p : Addr} (r : Fresh G U pn e σ H B p x) {i : Nat} (hi : i < e.sl.length) : Rl G U pn ⟨e.sl.set i (.o x), e.pen⟩ (σ.set i (some (.ref p))) H B := by
  obtain ⟨os, s, n, f, np⟩ := r.s
  obtain ⟨os', s', sb, nd⟩ := Slots.setO r.o i hi s
  exact ⟨r.b, os', s', nd n np, fun q hq => (sb q hq).elim (fun z => z ▸ r.n) (f q)⟩
theorem Rl.mut (r : Rl G U pn e σ H B) {p : Addr} {o : HO} {y : D} {i : Nat} (hs : σ[i]? = some (some (.ref p))) (he : e.sl[i]? = some (.o x)) (h : OwnAt G B (upd H p o) p y) : Rl G U pn ⟨e.sl.set i (.o y), e.pen⟩ σ (upd H p o) B := by
  obtain ⟨p', e', _, hB, hU, hn⟩ := r.getO he
  rw [hs] at e'
  cases e'
  obtain ⟨b, os, s, n, f⟩ := r
  refine ⟨⟨fun a x hx => ?_, fun a x hx => ?_, b.bu, fun q hq => ?_⟩, os, Slots.mut i (fun q _ z => upd_ne z) h n hs he s, n, f⟩
  · rw [upd_ne (ne_of_none hx hB)]; exact b.bh a x hx
  · rw [upd_ne (ne_of_none hx hU)]; exact b.uh a x hx
  · obtain ⟨h1, h2, h3, h4⟩ := b.pen q hq
    exact ⟨h1, h2, (upd_ne (fun z => hn q hq z.symm)).trans h3, h4⟩
theorem Rl.rel (r : Rl G U pn e σ H B) {i : Nat} (he : e.sl[i]? = some (.o x)) : ∃ B', Rl G U pn ⟨e.sl.set i (.d x), e.pen⟩ σ H B' ∧ Same B B' := by
  obtain ⟨p, hs, ow, hB, hU, hn⟩ := r.getO he
  obtain ⟨o, ho⟩ := ow.at
  obtain ⟨b, os, s, n, f⟩ := r
  obtain ⟨os', s', sb, np⟩ := Slots.rel (same_upd hB) (ow.free ho hB) i n hs he s
  refine ⟨upd B p o, ⟨base_in b ho hB hU hn, os', s', sb.nodup n, fun q hq => ?_⟩, same_upd hB⟩
  obtain ⟨h1, h2, h3⟩ := f q (sb.subset hq)
  exact ⟨(upd_ne (fun z => np (by rw [← z]; exact hq))).trans h1, h2, h3⟩
end
end Fw

set_option linter.all false
set_option maxRecDepth 100000
set_option maxHeartbeats 4000000
namespace Fw
open PySem PySem.Spec PyProof.Rows L2
/-! ### what an expression tells: a value, or an error with its fields -/
inductive Rs (α : Type) where
  | v (a : α) | x (c : Str) (ns : List Str) (ds : List D)
inductive Fl where
  | nx | bk | ct | rt (d : D) | x (c : Str) (ns : List Str) (ds : List D)
abbrev FG (α : Type) := Ev → Option (Rs α × PenS)
abbrev FS := Ev → Option (Fl × Ev)
def XAt (G : Gm) (B H : Hp) (cls : Value) (ao : Option Addr) (c : Str) (ns : List Str) (ds : List D) : Prop :=
  ∃ C a fvs, G.X c = some C ∧ cls = .ref C ∧ ao = some a ∧ H a = some (.xd fvs) ∧ fvs.map (·.1) = ns ∧ RzA G B (fvs.map (·.2)) ds
abbrev TG_ (W : Type) := L2.St → Hp → (W → Hp → Prop) → Prop
section
variable {α β γ : Type} {W W1 W2 : Type}
def retG (a : α) : FG α := fun e => some (.v a, e.pen)
def optG (o : Option α) : FG α := fun e => o.map fun d => (.v d, e.pen)
def bindG (f : FG α) (g : α → FG β) : FG β := fun e => match f e with
  | none => none
  | some (.x c ns ds, p) => some (.x c ns ds, p)
  | some (.v a, p) => g a ⟨e.sl, p⟩
def Post (G : Gm) (U : Hp) (pn : Pn) (E : XK) (R : Hp → Hp → W → α → Prop) (e : Ev) (σ : L2.St) (H B : Hp) (p' : PenS) (Q : W → Hp → Prop) : Rs α → Prop
  | .v d => ∀ v H' B', Rl G U pn ⟨e.sl, p'⟩ σ H' B' → Same B B' → Keep pn H H' → R B' H' v d → Q v H'
  | .x c ns ds => ∀ cls ao H' B', Base U pn p' H' B' → Same B B' → XAt G B' H' cls ao c ns ds → E cls ao H'
def CG (G : Gm) (pn : Pn) (E : XK) (R : Hp → Hp → W → α → Prop) (t : TG_ W) (f : FG α) : Prop :=
  ∀ U e σ H B r p' Q, Rl G U pn e σ H B → f e = some (r, p') → Post G U pn E R e σ H B p' Q r → t σ H Q
abbrev CE (G : Gm) (pn : Pn) (E : XK) (t : TE) (f : FG D) : Prop := CG G pn E (fun B _ v d => Rz G B v d) t f
abbrev CB (G : Gm) (pn : Pn) (E : XK) (t : TE) (f : FG D) : Prop := CG G pn E (fun B H v d => RzB G pn B H v d) t f
abbrev CA (G : Gm) (pn : Pn) (E : XK) (t : TA) (f : FG (List D)) : Prop := CG G pn E (fun B _ v d => RzA G B v d) t f
abbrev CT (G : Gm) (pn : Pn) (E : XK) (t : TT) (f : FG Bool) : Prop := CG G pn E (fun _ _ v d => v = d) t f
abbrev CO (G : Gm) (pn : Pn) (E : XK) (t : TO) (f : FG (Option Int)) : Prop := CG G pn E (fun _ _ v d => v = d) t f
variable {G : Gm} {U : Hp} {pn : Pn} {E : XK} {e : Ev} {σ : L2.St} {H B H' B' H1 B1 : Hp} {R : Hp → Hp → W → α → Prop} {R1 : Hp → Hp → W1 → β → Prop} {S2 : Hp → Hp → W2 → γ → Prop} {p' p1 : PenS}
theorem Post.up {Q : W → Hp → Prop} {r : Rs α} {q : PenS} (s : Same B B1) (k : Keep pn H H1) (h : Post G U pn E R e σ H B p' Q r) : Post G U pn E R ⟨e.sl, q⟩ σ H1 B1 p' Q r := by
  cases r with
  | v d => exact fun v H' B' r s' k' x => h v H' B' r (s.trans s') (k.trans k') x
  | x c ns ds => exact fun cls ao H' B' b s' x => h cls ao H' B' b (s.trans s') x
/-- one behind the other -/
theorem CG.bind {t : TG_ W} {k : W → L2.St → Hp → (W1 → Hp → Prop) → Prop} {f : FG α} {g : α → FG β} (h1 : CG G pn E R t f)
    (h2 : ∀ w a U e σ H B r p' Q, Rl G U pn e σ H B → R B H w a → g a e = some (r, p') → Post G U pn E R1 e σ H B p' Q r → k w σ H Q) :
    CG G pn E R1 (fun σ H Q => t σ H fun w H1 => k w σ H1 Q) (bindG f g) := by
  intro U e σ H B r p' Q rl hf post
  unfold bindG at hf
  cases hfe : f e with
  | none => rw [hfe] at hf; cases hf
  | some rp =>
    obtain ⟨r1, q1⟩ := rp
    rw [hfe] at hf
    cases r1 with
    | x c ns ds =>
      cases hf
      exact h1 U e σ H B _ _ _ rl hfe post
    | v a =>
      exact h1 U e σ H B _ _ _ rl hfe fun w H1 B1 rl1 s1 k1 rw1 => h2 w a U ⟨e.sl, q1⟩ σ H1 B1 r p' Q rl1 rw1 hf (post.up s1 k1)
theorem CG.mono {R' : Hp → Hp → W → α → Prop} {t : TG_ W} {f : FG α} (h : CG G pn E R t f) (hR : ∀ U p H B w a, Base U pn p H B → R B H w a → R' B H w a) : CG G pn E R' t f := by
  intro U e σ H B r p' Q rl hf post
  refine h U e σ H B r p' Q rl hf ?_
  cases r with
  | v d => exact fun v H' B' r s' k' x => post v H' B' r s' k' (hR _ _ _ _ _ _ r.b x)
  | x c ns ds => exact post
theorem CE.b {t : TE} {f : FG D} (h : CE G pn E t f) : CB G pn E t f := CG.mono h fun U p H B w a b h => by
  exact Rz.b (e := ⟨[], p⟩) b h
/-! ### names, constants -/
def slotD (i : Nat) : FG D := fun e => match e.sl[i]? with
  | some (.d x) => some (.v x, e.pen)
  | _ => none
def slotB (i : Nat) : FG D := fun e => match e.sl[i]? with
  | some (.d x) => some (.v x, e.pen)
  | some (.o x) => some (.v x, e.pen)
  | _ => none
theorem ce_var (i : Nat) : CE G pn E (tVar i) (slotD i) := by
  intro U e σ H B r p' Q rl hf post
  unfold slotD at hf
  split at hf
  · next x hx =>
    cases hf
    obtain ⟨v, hv, rz⟩ := rl.get hx
    exact ⟨v, hv, post v H B rl (Same.refl _) Keep.refl rz⟩
  · cases hf
theorem cb_var (i : Nat) : CB G pn E (tVar i) (slotB i) := by
  intro U e σ H B r p' Q rl hf post
  unfold slotB at hf
  split at hf
  · next x hx =>
    cases hf
    obtain ⟨v, hv, rz⟩ := rl.get hx
    exact ⟨v, hv, post v H B rl (Same.refl _) Keep.refl (rz.b rl.b)⟩
  · next x hx =>
    cases hf
    obtain ⟨p, hv, ow, _, _, n⟩ := rl.getO hx
    exact ⟨_, hv, post _ H B rl (Same.refl _) Keep.refl (ow.rb n)⟩
  · cases hf
theorem ce_const {v : V} {d : D} (h : ∀ B, Rz G B v d) : CE G pn E (tC v) (retG d) := by
  intro U e σ H B r p' Q rl hf post
  cases hf
  exact post v H B rl (Same.refl _) Keep.refl (h B)
theorem ce_int {i : Int} : CE G pn E (tC (.int i)) (retG (.int i)) := ce_const fun _ => .int i
theorem ce_str {i : Str} : CE G pn E (tC (.str i)) (retG (.str i)) := ce_const fun _ => .str i
theorem ce_bl {i : Bool} : CE G pn E (tC (.bl i)) (retG (.bool i)) := ce_const fun _ => .bl i
theorem ce_non : CE G pn E (tC .non) (retG .none) := ce_const fun _ => .non
/-! ### operations by values -/
def OpB (G : Gm) (pn : Pn) (r : R2) (φ : D → D → Option D) : Prop := ∀ U e σ H B x y a b c (Q : VK), Rl G U pn e σ H B → RzB G pn B H x a → RzB G pn B H y b → φ a b = some c →
  (∀ v H' B', Rl G U pn e σ H' B' → Same B B' → Keep pn H H' → Rz G B' v c → Q v H') → r x y H Q
def UnB (G : Gm) (pn : Pn) (r : V → Hp → VK → Prop) (φ : D → Option D) : Prop := ∀ U e σ H B x a c (Q : VK), Rl G U pn e σ H B → RzB G pn B H x a → φ a = some c →
  (∀ v H' B', Rl G U pn e σ H' B' → Same B B' → Keep pn H H' → Rz G B' v c → Q v H') → r x H Q
def op2 (φ : D → D → Option D) (f g : FG D) : FG D := bindG f fun a => bindG g fun b => optG (φ a b)
def op1 (φ : D → Option D) (f : FG D) : FG D := bindG f fun a => optG (φ a)
theorem optG_eq {o : Option α} {e : Ev} {r : Rs α} {p' : PenS} (h : optG o e = some (r, p')) : ∃ a, o = some a ∧ r = .v a ∧ p' = e.pen := by
  unfold optG at h
  cases o with
  | none => cases h
  | some a => cases h; exact ⟨a, rfl, rfl, rfl⟩
/-- a value, then a second one, the first one kept -/
theorem CB.bind2 {t : TE} {u : TG_ W1} {k : V → W1 → L2.St → Hp → (W2 → Hp → Prop) → Prop} {f : FG D} {g : FG β} {h : D → β → FG γ} (h1 : CB G pn E t f) (h2 : CG G pn E R1 u g)
    (h3 : ∀ v w a b U e σ H B r p' Q, Rl G U pn e σ H B → RzB G pn B H v a → R1 B H w b → h a b e = some (r, p') → Post G U pn E S2 e σ H B p' Q r → k v w σ H Q) :
    CG G pn E S2 (fun σ H Q => t σ H fun v H1 => u σ H1 fun w H2 => k v w σ H2 Q) (bindG f fun a => bindG g fun b => h a b) := by
  refine CG.bind h1 fun v a U e σ H B r p' Q rl rz hf post => ?_
  unfold bindG at hf
  cases hge : g e with
  | none => rw [hge] at hf; cases hf
  | some rp =>
    obtain ⟨r1, q1⟩ := rp
    rw [hge] at hf
    cases r1 with
    | x c ns ds =>
      cases hf
      exact h2 U e σ H B _ _ _ rl hge post
    | v b => exact h2 U e σ H B _ _ _ rl hge fun w H1 B1 rl1 s1 k1 rw1 => h3 v w a b U ⟨e.sl, q1⟩ σ H1 B1 r p' Q rl1 (rz.keep k1 s1) rw1 hf (post.up s1 k1)
theorem ce_op {r : R2} {φ : D → D → Option D} {ta tb : TE} {f g : FG D} (hr : OpB G pn r φ) (h1 : CB G pn E ta f) (h2 : CB G pn E tb g) : CE G pn E (tOp r ta tb) (op2 φ f g) := by
  refine CB.bind2 h1 h2 fun v w a b U e σ H B r p' Q rl ra rb hf post => ?_
  obtain ⟨c, hc, rfl, rfl⟩ := optG_eq hf
  exact hr U e σ H B v w a b c Q rl ra rb hc post
theorem ce_un {r : V → Hp → VK → Prop} {φ : D → Option D} {ta : TE} {f : FG D} (hr : UnB G pn r φ) (h1 : CB G pn E ta f) : CE G pn E (tUn r ta) (op1 φ f) := by
  refine CG.bind (t := ta) h1 fun v a U e σ H B r p' Q rl ra hf post => ?_
  obtain ⟨c, hc, rfl, rfl⟩ := optG_eq hf
  exact hr U e σ H B v a c Q rl ra hc post
/-! ### tests -/
def boolD : D → Option Bool
  | .bool b => some b
  | _ => none
def testG (f : FG D) : FG Bool := bindG f fun d => optG (boolD d)
theorem boolD_eq {d : D} {b : Bool} (h : boolD d = some b) : d = .bool b := by
  cases d <;> cases h <;> rfl
theorem ct_test {t : TE} {f : FG D} (h : CE G pn E t f) : CT G pn E (tTest t) (testG f) := by
  refine CG.bind (t := t) h fun v a U e σ H B r p' Q rl ra hf post => ?_
  obtain ⟨c, hc, rfl, rfl⟩ := optG_eq hf
  cases boolD_eq hc
  exact ⟨c, ra.bl_inv, post c H B rl (Same.refl _) Keep.refl rfl⟩
theorem ct_B {t : TE} {f : FG D} (h : CE G pn E t f) : CT G pn E (tB t) (testG f) := by
  refine CG.bind (t := t) h fun v a U e σ H B r p' Q rl ra hf post => ?_
  obtain ⟨c, hc, rfl, rfl⟩ := optG_eq hf
  cases boolD_eq hc
  exact ⟨c, ra.bl_inv, post c H B rl (Same.refl _) Keep.refl rfl⟩
def andG (f g : FG Bool) : FG Bool := bindG f fun b => if b = true then g else retG false
def orG (f g : FG Bool) : FG Bool := bindG f fun b => if b = true then retG true else g
def notG (f : FG Bool) : FG Bool := bindG f fun b => retG (!b)
theorem ct_and {t u : TT} {f g : FG Bool} (h1 : CT G pn E t f) (h2 : CT G pn E u g) : CT G pn E (tAnd t u) (andG f g) := by
  refine CG.bind (t := t) h1 fun v a U e σ H B r p' Q rl ra hf post => ?_
  cases ra
  cases v with
  | true => exact h2 U e σ H B r p' Q rl hf post
  | false => cases hf; exact post false H B rl (Same.refl _) Keep.refl rfl
theorem ct_or {t u : TT} {f g : FG Bool} (h1 : CT G pn E t f) (h2 : CT G pn E u g) : CT G pn E (tOr t u) (orG f g) := by
  refine CG.bind (t := t) h1 fun v a U e σ H B r p' Q rl ra hf post => ?_
  cases ra
  cases v with
  | true => cases hf; exact post true H B rl (Same.refl _) Keep.refl rfl
  | false => exact h2 U e σ H B r p' Q rl hf post
theorem ct_not {t : TT} {f : FG Bool} (h1 : CT G pn E t f) : CT G pn E (tNot t) (notG f) := by
  refine CG.bind (t := t) h1 fun v a U e σ H B r p' Q rl ra hf post => ?_
  cases ra
  cases hf
  exact post (!v) H B rl (Same.refl _) Keep.refl rfl
theorem ct_yes : CT G pn E tYes (retG true) := by
  intro U e σ H B r p' Q rl hf post
  cases hf
  exact post true H B rl (Same.refl _) Keep.refl rfl
def andV (f g : FG D) : FG D := bindG f fun d => bindG (optG (boolD d)) fun b => if b = true then g else retG (.bool false)
def orV (f g : FG D) : FG D := bindG f fun d => bindG (optG (boolD d)) fun b => if b = true then retG (.bool true) else g
def notV (f : FG D) : FG D := bindG f fun d => bindG (optG (boolD d)) fun b => retG (.bool (!b))
theorem bindOpt {o : Option α} {g : α → FG β} {e : Ev} {r : Rs β} {p' : PenS} (h : bindG (optG o) g e = some (r, p')) : ∃ a, o = some a ∧ g a e = some (r, p') := by
  unfold bindG optG at h
  cases o with
  | none => cases h
  | some a => exact ⟨a, rfl, h⟩
theorem ce_and {t u : TE} {f g : FG D} (h1 : CE G pn E t f) (h2 : CE G pn E u g) : CE G pn E (tAndV t u) (andV f g) := by
  refine CG.bind (t := t) h1 fun v a U e σ H B r p' Q rl ra hf post => ?_
  obtain ⟨b, hb, hf⟩ := bindOpt hf
  cases boolD_eq hb
  refine ⟨b, ra.bl_inv, ?_⟩
  cases b with
  | true => exact h2 U e σ H B r p' Q rl hf post
  | false => cases hf; exact post _ H B rl (Same.refl _) Keep.refl (.bl false)
theorem ce_or {t u : TE} {f g : FG D} (h1 : CE G pn E t f) (h2 : CE G pn E u g) : CE G pn E (tOrV t u) (orV f g) := by
  refine CG.bind (t := t) h1 fun v a U e σ H B r p' Q rl ra hf post => ?_
  obtain ⟨b, hb, hf⟩ := bindOpt hf
  cases boolD_eq hb
  refine ⟨b, ra.bl_inv, ?_⟩
  cases b with
  | true => cases hf; exact post _ H B rl (Same.refl _) Keep.refl (.bl true)
  | false => exact h2 U e σ H B r p' Q rl hf post
theorem ce_not {t : TE} {f : FG D} (h1 : CE G pn E t f) : CE G pn E (tNotV t) (notV f) := by
  refine CG.bind (t := t) h1 fun v a U e σ H B r p' Q rl ra hf post => ?_
  obtain ⟨b, hb, hf⟩ := bindOpt hf
  cases boolD_eq hb
  cases hf
  exact ⟨b, ra.bl_inv, post _ H B rl (Same.refl _) Keep.refl (.bl _)⟩
def ifG (c : FG Bool) (f g : FG D) : FG D := bindG c fun b => if b = true then f else g
theorem ce_if {c : TT} {t u : TE} {fc : FG Bool} {f g : FG D} (hc : CT G pn E c fc) (h1 : CE G pn E t f) (h2 : CE G pn E u g) : CE G pn E (tIf c t u) (ifG fc f g) := by
  refine CG.bind (t := c) hc fun v a U e σ H B r p' Q rl ra hf post => ?_
  cases ra
  cases v with
  | true => exact h1 U e σ H B r p' Q rl hf post
  | false => exact h2 U e σ H B r p' Q rl hf post
/-- a op b op c -/
def chainG (φ ψ : D → D → Option D) (f g h : FG D) : FG D := bindG f fun a => bindG g fun b => bindG (optG ((φ a b).bind boolD)) fun k => if k = true then bindG h fun c => optG (ψ b c) else retG (.bool false)
theorem ce_chain {r r' : R2} {φ ψ : D → D → Option D} {ta tb tc : TE} {f g h : FG D} (hr : OpB G pn r φ) (hr' : OpB G pn r' ψ) (h1 : CE G pn E ta f) (h2 : CE G pn E tb g) (h3 : CE G pn E tc h) : CE G pn E (tChain r r' ta tb tc) (chainG φ ψ f g h) := by
  refine CB.bind2 h1.b h2.b fun v w a b U e σ H B r p' Q rl ra rb hf post => ?_
  obtain ⟨k, hk, hf⟩ := bindOpt hf
  cases hab : φ a b with
  | none => rw [hab] at hk; cases hk
  | some z =>
    rw [hab] at hk
    cases boolD_eq hk
    refine hr U e σ H B v w a b _ _ rl ra rb hab fun x H1 B1 rl1 s1 k1 rz => ⟨k, rz.bl_inv, ?_⟩
    cases k with
    | true =>
      rw [if_pos rfl]
      have hf : bindG h (fun c => optG (ψ b c)) e = some (r, p') := hf
      unfold bindG at hf
      cases hge : h e with
      | none => rw [hge] at hf; cases hf
      | some rp =>
        obtain ⟨r1, q1⟩ := rp
        rw [hge] at hf
        cases r1 with
        | x c ns ds =>
          cases hf
          exact h3 U e σ H1 B1 _ _ _ rl1 hge (post.up s1 k1 (q := e.pen))
        | v c =>
          refine h3 U e σ H1 B1 _ _ _ rl1 hge fun y H2 B2 rl2 s2 k2 rc => ?_
          obtain ⟨c', hc, rfl, rfl⟩ := optG_eq hf
          refine hr' U ⟨e.sl, _⟩ σ H2 B2 w y b c c' Q rl2 (rb.keep (k1.trans k2) (s1.trans s2)) (rc.b rl2.b) hc fun z H3 B3 rl3 s3 k3 rz3 => post z H3 B3 rl3 ((s1.trans s2).trans s3) ((k1.trans k2).trans k3) rz3
    | false =>
      rw [if_neg (by simp)]
      cases hf
      exact post _ H1 B1 rl1 s1 k1 (.bl false)
/-! ### argument lists, tuples -/
def consG (f : FG D) (g : FG (List D)) : FG (List D) := bindG f fun a => bindG g fun as => retG (a :: as)
theorem ca_nil : CA G pn E tNil (retG []) := by
  intro U e σ H B r p' Q rl hf post
  cases hf
  exact post [] H B rl (Same.refl _) Keep.refl .nil
theorem ca_cons {t : TE} {u : TA} {f : FG D} {g : FG (List D)} (h1 : CE G pn E t f) (h2 : CA G pn E u g) : CA G pn E (tCons t u) (consG f g) := by
  intro U e σ H B r p' Q rl hf post
  unfold consG bindG at hf
  cases hfe : f e with
  | none => rw [hfe] at hf; cases hf
  | some rp =>
    obtain ⟨r1, q1⟩ := rp
    rw [hfe] at hf
    cases r1 with
    | x c ns ds => cases hf; exact h1 U e σ H B _ _ _ rl hfe post
    | v a =>
      refine h1 U e σ H B _ _ _ rl hfe fun w H1 B1 rl1 s1 k1 rw1 => ?_
      dsimp only at hf
      cases hge : g ⟨e.sl, q1⟩ with
      | none => rw [hge] at hf; cases hf
      | some rp2 =>
        obtain ⟨r2, q2⟩ := rp2
        rw [hge] at hf
        cases r2 with
        | x c ns ds => cases hf; exact h2 U ⟨e.sl, q1⟩ σ H1 B1 _ _ _ rl1 hge (post.up s1 k1)
        | v as =>
          cases hf
          exact h2 U ⟨e.sl, q1⟩ σ H1 B1 _ _ _ rl1 hge fun ws H2 B2 rl2 s2 k2 rws => post (w :: ws) H2 B2 rl2 (s1.trans s2) (k1.trans k2) (.cons (rw1.same s2) rws)
theorem line_of {n : Nat} (h : n ≤ 1000000) : n ≤ sizeLine := Nat.le_trans h (by decide)
theorem line_lt {n : Nat} (h : n ≤ 1000000) : n < sizeLine := Nat.lt_of_le_of_lt h (by decide)
/-- as many as a list may have here -/
def few (ds : List α) (x : β) : Option β := if ds.length ≤ 1000000 then some x else none
theorem few_eq {ds : List α} {x y : β} (h : few ds x = some y) : ds.length ≤ 1000000 ∧ x = y := by
  unfold few at h
  split at h
  · next z => cases h; exact ⟨z, rfl⟩
  · cases h
def tupG (f : FG (List D)) : FG D := bindG f fun ds => optG (few ds (.tuple ds))
theorem ce_tup {t : TA} {f : FG (List D)} (h : CA G pn E t f) : CE G pn E (tTup t) (tupG f) := by
  refine CG.bind (t := t) h fun vs ds U e σ H B r p' Q rl ra hf post => ?_
  obtain ⟨c, hc, rfl, rfl⟩ := optG_eq hf
  obtain ⟨hl, rfl⟩ := few_eq hc
  refine ⟨line_of (by rw [ra.length]; exact hl), fun p hp => ?_⟩
  exact post _ _ _ (rl.new hp) (same_upd (rl.b.bh.free hp)) (Keep.of (same_upd hp)) (.tup (.inl (.inl upd_same)) (ra.same (same_upd (rl.b.bh.free hp))))
/-! ### new lists and dicts: not yet data, or made data at once -/
def PostF (G : Gm) (U : Hp) (pn : Pn) (E : XK) (e : Ev) (σ : L2.St) (H B : Hp) (p' : PenS) (Q : VK) : Rs D → Prop
  | .v d => ∀ p H' B', Fresh G U pn ⟨e.sl, p'⟩ σ H' B' p d → Same B B' → Keep pn H H' → Q (.ref p) H'
  | .x c ns ds => ∀ cls ao H' B', Base U pn p' H' B' → Same B B' → XAt G B' H' cls ao c ns ds → E cls ao H'
def CF (G : Gm) (pn : Pn) (E : XK) (t : TE) (f : FG D) : Prop :=
  ∀ U e σ H B r p' Q, Rl G U pn e σ H B → f e = some (r, p') → PostF G U pn E e σ H B p' Q r → t σ H Q
theorem CF.ce {t : TE} {f : FG D} (h : CF G pn E t f) : CE G pn E t f := by
  intro U e σ H B r p' Q rl hf post
  refine h U e σ H B r p' Q rl hf ?_
  cases r with
  | v d =>
    intro p H' B' fr s k
    obtain ⟨B2, rl2, s2, rz⟩ := fr.data
    exact post _ H' B2 rl2 (s.trans s2) k rz
  | x c ns ds => exact post
theorem CF.b {t : TE} {f : FG D} (h : CF G pn E t f) : CB G pn E t f := (CF.ce h).b
theorem Slots.notin {H B : Hp} {σ : L2.St} {ρ : List Slot} {os : List Addr} {p : Addr} (s : Slots G pn B H σ ρ os) (h : H p = none) : p ∉ os := fun z => by
  obtain ⟨o, ho⟩ := s.there z
  rw [h] at ho
  cases ho
/-- what is laid anew -/
theorem Rl.fresh (r : Rl G U pn e σ H B) {p : Addr} {o : HO} {x : D} (h : H p = none) (ow : OwnAt G B (upd H p o) p x) : Fresh G U pn e σ (upd H p o) B p x := by
  obtain ⟨⟨bh, uh, bu, pe⟩, os, s, n, f⟩ := r
  have hB : B p = none := bh.free h
  have hU : U p = none := uh.free h
  refine ⟨⟨bh.trans (same_upd h), uh.trans (same_upd h), bu, fun q hq => ?_⟩, ⟨os, s.grow (Same.refl _) (fun q hq => ?_), n, f, s.notin h⟩, ow, hB, hU, fun q hq z => ?_⟩
  · obtain ⟨h1, h2, h3, h4⟩ := pe q hq
    have nq : q.1 ≠ p := fun z => by rw [← z, h3] at h; cases h
    exact ⟨h1, h2, (upd_ne nq).trans h3, h4⟩
  · exact upd_ne fun z => (s.notin h) (z ▸ hq)
  · obtain ⟨h1, h2, h3, h4⟩ := pe q hq
    rw [z, h3] at h
    cases h
def lstG (f : FG (List D)) : FG D := bindG f fun ds => optG (few ds (.list ds))
theorem bind_inv {f : FG α} {g : α → FG β} {e : Ev} {r : Rs β} {p' : PenS} (h : bindG f g e = some (r, p')) :
    (∃ c ns ds, f e = some (.x c ns ds, p') ∧ r = .x c ns ds) ∨ ∃ a q, f e = some (.v a, q) ∧ g a ⟨e.sl, q⟩ = some (r, p') := by
  unfold bindG at h
  split at h
  · cases h
  · next c ns ds p hx => cases h; exact .inl ⟨_, _, _, hx, rfl⟩
  · next a p hx => exact .inr ⟨_, _, hx, h⟩
theorem CF.bind {t : TG_ W} {k : W → L2.St → Hp → VK → Prop} {f : FG α} {g : α → FG D} (h1 : CG G pn E R t f)
    (h2 : ∀ w a U e σ H B r p' Q, Rl G U pn e σ H B → R B H w a → g a e = some (r, p') → PostF G U pn E e σ H B p' Q r → k w σ H Q) :
    CF G pn E (fun σ H Q => t σ H fun w H1 => k w σ H1 Q) (bindG f g) := by
  intro U e σ H B r p' Q rl hf post
  rcases bind_inv hf with ⟨c, ns, ds, hx, rfl⟩ | ⟨a, q, hx, hg⟩
  · exact h1 U e σ H B _ _ _ rl hx post
  · refine h1 U e σ H B _ _ _ rl hx fun w H1 B1 rl1 s1 k1 rw1 => h2 w a U ⟨e.sl, q⟩ σ H1 B1 r p' Q rl1 rw1 hg ?_
    cases r with
    | v d => exact fun p H' B' fr s k => post p H' B' fr (s1.trans s) (k1.trans k)
    | x c ns ds => exact fun cls ao H' B' b s x => post cls ao H' B' b (s1.trans s) x
theorem cf_lst {t : TA} {f : FG (List D)} (h : CA G pn E t f) : CF G pn E (tLst t) (lstG f) := by
  refine CF.bind (t := t) h fun vs ds U e σ H B r p' Q rl ra hf post => ?_
  obtain ⟨c, hc, rfl, rfl⟩ := optG_eq hf
  obtain ⟨hl, rfl⟩ := few_eq hc
  exact ⟨line_of (by rw [ra.length]; exact hl), fun p hp => post p _ B (rl.fresh hp (.lst upd_same ra)) (Same.refl _) (Keep.of (same_upd hp))⟩
theorem cf_dnewK : CF G pn E tDNewK (retG (.dict [])) := by
  intro U e σ H B r p' Q rl hf post
  cases hf
  exact fun p hp => post p _ B (rl.fresh hp (.dk (ks := []) (ds := []) upd_same .nil)) (Same.refl _) (Keep.of (same_upd hp))
theorem cf_dnewT : CF G pn E tDNewT (retG (.dict [])) := by
  intro U e σ H B r p' Q rl hf post
  cases hf
  exact fun p hp => post p _ B (rl.fresh hp (.dt (ks := []) (ds := []) upd_same .nil)) (Same.refl _) (Keep.of (same_upd hp))
/-! ### calls of built-ins by values -/
def CbB (G : Gm) (pn : Pn) (r : List V → Hp → VK → Prop) (φ : List D → Option D) : Prop := ∀ U e σ H B xs as c (Q : VK), Rl G U pn e σ H B → RzA G B xs as → φ as = some c →
  (∀ v H' B', Rl G U pn e σ H' B' → Same B B' → Keep pn H H' → Rz G B' v c → Q v H') → r xs H Q
def Cb1 (G : Gm) (pn : Pn) (r : List V → Hp → VK → Prop) (φ : D → Option D) : Prop := ∀ U e σ H B x a c (Q : VK), Rl G U pn e σ H B → RzB G pn B H x a → φ a = some c →
  (∀ v H' B', Rl G U pn e σ H' B' → Same B B' → Keep pn H H' → Rz G B' v c → Q v H') → r [x] H Q
def Cf1 (G : Gm) (pn : Pn) (r : List V → Hp → VK → Prop) (φ : D → Option D) : Prop := ∀ U e σ H B x a c (Q : VK), Rl G U pn e σ H B → RzB G pn B H x a → φ a = some c →
  (∀ p H' B', Fresh G U pn e σ H' B' p c → Same B B' → Keep pn H H' → Q (.ref p) H') → r [x] H Q
def cbG (φ : List D → Option D) (f : FG (List D)) : FG D := bindG f fun as => optG (φ as)
theorem ce_cb {r : List V → Hp → VK → Prop} {φ : List D → Option D} {t : TA} {f : FG (List D)} (hr : CbB G pn r φ) (h : CA G pn E t f) : CE G pn E (tCB r t) (cbG φ f) := by
  refine CG.bind (t := t) h fun vs ds U e σ H B r p' Q rl ra hf post => ?_
  obtain ⟨c, hc, rfl, rfl⟩ := optG_eq hf
  exact hr U e σ H B vs ds c Q rl ra hc post
theorem ce_cb1 {r : List V → Hp → VK → Prop} {φ : D → Option D} {t : TE} {f : FG D} (hr : Cb1 G pn r φ) (h : CB G pn E t f) : CE G pn E (tCB r (tCons t tNil)) (op1 φ f) := by
  refine CG.bind (t := t) h fun vs ds U e σ H B r p' Q rl ra hf post => ?_
  obtain ⟨c, hc, rfl, rfl⟩ := optG_eq hf
  exact hr U e σ H B vs ds c Q rl ra hc post
theorem cf_cb1 {r : List V → Hp → VK → Prop} {φ : D → Option D} {t : TE} {f : FG D} (hr : Cf1 G pn r φ) (h : CB G pn E t f) : CF G pn E (tCB r (tCons t tNil)) (op1 φ f) := by
  refine CF.bind (t := t) h fun vs ds U e σ H B r p' Q rl ra hf post => ?_
  obtain ⟨c, hc, rfl, rfl⟩ := optG_eq hf
  exact hr U e σ H B vs ds c Q rl ra hc post
end
end Fw

set_option linter.all false
set_option maxRecDepth 100000
set_option maxHeartbeats 4000000
namespace Fw
open PySem PySem.Spec PyProof.Rows L2
section
variable {X : Cx}
/-! ### operators, all kinds of operands in one rule -/
def uAdd (K : PySem.W.Frag) : R2 := fun x y H Q => (rI0 (fun i j => .int (i + j)) x y H Q ∨ (∃ i j, x = .str i ∧ y = .str j ∧ i.length + j.length ≤ sizeLine ∧ Q (.str (i ++ j)) H)) ∨ (rCat x y H Q ∨ rCatA K x y H Q)
theorem o_add : OpR X (binaryOp .Add) (uAdd X.K) := OpR.or (OpR.or op_add op_add_str) (OpR.or op_cat op_catA)
def uMul : R2 := fun x y H Q => rI CMul (fun i j => .int (i * j)) x y H Q ∨ rRep x y H Q
theorem o_mul : OpR X (binaryOp .Mult) uMul := OpR.or op_mul op_rep
def uSub : R2 := rI0 fun i j => .int (i - j)
theorem o_sub : OpR X (binaryOp .Sub) uSub := op_sub
def uMod : R2 := rI (fun _ j => j ≠ 0) fun i j => .int (i.fmod j)
theorem o_mod : OpR X (binaryOp .Mod) uMod := op_modN
def uDiv : R2 := rI CDivN fun i j => .int (i.fdiv j)
theorem o_div : OpR X (binaryOp .FloorDiv) uDiv := op_fdivN
def uAnd : R2 := rI0 fun i j => .int (Builtin.bitAnd i j)
theorem o_and : OpR X (binaryOp .BitAnd) uAnd := op_and
def uOr : R2 := rI0 fun i j => .int (Builtin.bitOr i j)
theorem o_or : OpR X (binaryOp .BitOr) uOr := op_or
def uXor : R2 := rI0 fun i j => .int (Builtin.bitXor i j)
theorem o_xor : OpR X (binaryOp .BitXor) uXor := op_xor
def uLt : R2 := rI0 fun i j => .bl (decide (i < j))
theorem o_lt : OpR X (compareOp .Lt) uLt := op_lt
def uLe : R2 := rI0 fun i j => .bl (decide (i ≤ j))
theorem o_le : OpR X (compareOp .LtE) uLe := op_le
def uGt : R2 := rI0 fun i j => .bl (decide (j < i))
theorem o_gt : OpR X (compareOp .Gt) uGt := op_gt
def uGe : R2 := rI0 fun i j => .bl (decide (j ≤ i))
theorem o_ge : OpR X (compareOp .GtE) uGe := op_ge
theorem o_eq (hu : X.A.units + 64 < cLine) : OpR X (compareOp .Eq) (rEqD X.K) := op_eqD hu
theorem o_ne (hu : X.A.units + 64 < cLine) : OpR X (compareOp .NotEq) (rNeD X.K) := op_neD hu
def uIsN : R2 := fun x y H Q => y = .non ∧ Q (.bl (decide (x = .non))) H
theorem o_isN : OpR X (compareOp .Is) uIsN := op_isN
def uNotN : R2 := fun x y H Q => y = .non ∧ Q (.bl (!decide (x = .non))) H
theorem o_notN : OpR X (compareOp .IsNot) uNotN := op_notN
/-! x in t, t a tuple -/
def rInTD (K : PySem.W.Frag) : R2 := fun x y H Q => ∃ d ds, Dp K H x d ∧ Dp K H y (.tuple ds) ∧ SeqAt.shaped d = true ∧ SeqAt.shaped (.tuple ds) = true ∧ Q (.bl (ds.any fun z => PyData.eqv z d)) H
def rNotInTD (K : PySem.W.Frag) : R2 := fun x y H Q => ∃ d ds, Dp K H x d ∧ Dp K H y (.tuple ds) ∧ SeqAt.shaped d = true ∧ SeqAt.shaped (.tuple ds) = true ∧ Q (.bl (!ds.any fun z => PyData.eqv z d)) H
theorem op_inTD (hu : X.A.units + 65 < cLine) : OpR X (compareOp .In) (rInTD X.K) := by
  intro pins s σ H x y v u Q I rx ry h
  obtain ⟨d, ds, hd, he, sd, se, q⟩ := h
  obtain ⟨as, r1⟩ := Dp.reads I d x v hd rx
  obtain ⟨bs, r2⟩ := Dp.reads I (.tuple ds) y u he ry
  exact SeqAt.in_tuple_reads r2 r1 (SeqAt.canLay_of_shaped se) (SeqAt.canLay_of_shaped sd) (room_in_shaped sd hu) ⟨.bl _, H, I, rfl, q⟩
theorem op_notInTD (hu : X.A.units + 65 < cLine) : OpR X (compareOp .NotIn) (rNotInTD X.K) := by
  intro pins s σ H x y v u Q I rx ry h
  obtain ⟨d, ds, hd, he, sd, se, q⟩ := h
  obtain ⟨as, r1⟩ := Dp.reads I d x v hd rx
  obtain ⟨bs, r2⟩ := Dp.reads I (.tuple ds) y u he ry
  exact SeqAt.notIn_tuple_reads r2 r1 (SeqAt.canLay_of_shaped se) (SeqAt.canLay_of_shaped sd) (room_in_shaped sd hu) ⟨.bl _, H, I, rfl, q⟩
def uIn (K : PySem.W.Frag) : R2 := fun x y H Q => rInD K x y H Q ∨ rInTD K x y H Q
def uNotIn (K : PySem.W.Frag) : R2 := fun x y H Q => rNotInD K x y H Q ∨ rNotInTD K x y H Q
theorem o_in (hu : X.A.units + 65 < cLine) : OpR X (compareOp .In) (uIn X.K) := OpR.or (op_inD hu) (op_inTD hu)
theorem o_notIn (hu : X.A.units + 65 < cLine) : OpR X (compareOp .NotIn) (uNotIn X.K) := OpR.or (op_notInD hu) (op_notInTD hu)
def uIx (K : PySem.W.Frag) : R2 := fun x y H Q => rIxL K x y H Q ∨ rIxT K x y H Q
theorem o_ix : IxR X (uIx X.K) := IxR.or ix_list ix_tup
def uSl (K : PySem.W.Frag) : V → Option Int → Option Int → Hp → VK → Prop := fun x lo hi H Q => rSlL K x lo hi H Q ∨ rSlA K x lo hi H Q
theorem o_sl : SlR X (uSl X.K) := SlR.or sl_list sl_tupA
def uNeg : V → Hp → VK → Prop := rU fun i => .int (-i)
theorem o_neg : UnR X (unaryOp .USub) uNeg := un_neg
/-! ### calls of built-ins -/
theorem CallR.or {f : Value} {r r' : List V → Hp → VK → Prop} (h : CallR X f r) (h' : CallR X f r') : CallR X f (fun xs H Q => r xs H Q ∨ r' xs H Q) := by
  intro pins s σ H xs us Q I rv q
  rcases q with q | q
  · exact h pins s σ H xs us Q I rv q
  · exact h' pins s σ H xs us Q I rv q
def uLen (K : PySem.W.Frag) : List V → Hp → VK → Prop := fun xs H Q => ∃ x n, xs = [x] ∧ LenV K x H n ∧ Q (.int n) H
theorem c_len : CallR X (.builtin "len") (uLen X.K) := call_len
def uLst (K : PySem.W.Frag) : List V → Hp → VK → Prop := fun xs H Q => ∃ p ys, xs = [V.ref p] ∧ (SqL K H p ys ∨ SqT K H p ys) ∧ ∀ l, H l = none → Q (.ref l) (upd H l (.lst ys))
theorem c_list : CallR X (.type "list") (uLst X.K) := call_list_of
def uTup (K : PySem.W.Frag) : List V → Hp → VK → Prop := fun xs H Q => ∃ p ys, xs = [V.ref p] ∧ ((SqL K H p ys ∧ ∀ l, H l = none → Q (.ref l) (upd H l (.tup ys))) ∨ (SqT K H p ys ∧ Q (.ref p) H))
theorem c_tuple : CallR X (.type "tuple") (uTup X.K) := call_tuple_of
def uInt : List V → Hp → VK → Prop := fun xs H Q => (∃ i, xs = [.int i] ∧ Q (.int i) H) ∨ ∃ k, xs = [.bl k] ∧ Q (.int (if k then 1 else 0)) H
theorem c_int : CallR X (.type "int") uInt := call_int1
def uAbs : List V → Hp → VK → Prop := fun xs H Q => ∃ i, xs = [.int i] ∧ Q (.int (if i < 0 then -i else i)) H
theorem c_abs : CallR X (.builtin "abs") uAbs := call_abs
theorem c_max (hc : X.calm = true) : CallR X (.builtin "max") (rMax X.K) := cr_max hc
theorem c_min (hc : X.calm = true) : CallR X (.builtin "min") (rMin X.K) := cr_min hc
theorem c_all (hc : X.calm = true) : CallR X (.builtin "all") (rAll X.K) := cr_all hc
theorem c_any (hc : X.calm = true) : CallR X (.builtin "any") (rAny X.K) := cr_any hc
end
/-! ### what they tell of data -/
def small (i : Int) : Bool := decide (-(2 ^ 64) < i) && decide (i < 2 ^ 64)
def dAdd : D → D → Option D
  | .int i, .int j => some (.int (i + j))
  | .str a, .str b => if a.length + b.length ≤ 1000000 then some (.str (a ++ b)) else none
  | .list a, .list b => few (a ++ b) (.list (a ++ b))
  | .tuple a, .tuple b => few (a ++ b) (.tuple (a ++ b))
  | _, _ => none
def dMul : D → D → Option D
  | .int i, .int j => if small i || small j then some (.int (i * j)) else none
  | .list a, .int k => if k ≤ 100000 ∧ a.length * k.toNat ≤ 1000000 ∧ -100000 ≤ k then some (.list (List.replicate k.toNat a).flatten) else none
  | _, _ => none
def dI (f : Int → Int → Int) : D → D → Option D
  | .int i, .int j => some (.int (f i j))
  | _, _ => none
def dB (f : Int → Int → Bool) : D → D → Option D
  | .int i, .int j => some (.bool (f i j))
  | _, _ => none
def dMod : D → D → Option D
  | .int i, .int j => if j ≠ 0 then some (.int (i.fmod j)) else none
  | _, _ => none
def dDiv : D → D → Option D
  | .int i, .int j => if j ≠ 0 ∧ j.natAbs < 1073741824 then some (.int (i.fdiv j)) else none
  | _, _ => none
def okD (d : D) : Bool := plain d && SeqAt.shaped d
def dEq (a b : D) : Option D := if okD a = true ∧ okD b = true then some (.bool (PyData.eqv a b)) else none
def dNe (a b : D) : Option D := if okD a = true ∧ okD b = true then some (.bool (!PyData.eqv a b)) else none
def dIn : D → D → Option D
  | a, .list ds => if okD a = true ∧ okD (.list ds) = true then some (.bool (ds.any fun z => PyData.eqv z a)) else none
  | a, .tuple ds => if okD a = true ∧ okD (.tuple ds) = true then some (.bool (ds.any fun z => PyData.eqv z a)) else none
  | _, _ => none
def negD : Option D → Option D
  | some (.bool b) => some (.bool (!b))
  | _ => none
def dNotIn (a b : D) : Option D := negD (dIn a b)
def isNone : D → Bool
  | .none => true
  | _ => false
def dIsN : D → D → Option D
  | a, .none => some (.bool (isNone a))
  | _, _ => none
def dNotN : D → D → Option D
  | a, .none => some (.bool (!isNone a))
  | _, _ => none
def dIx : D → D → Option D
  | .list a, .int i => atI a i
  | .tuple a, .int i => atI a i
  | _, _ => none
def cutD (xs : List D) (lo hi : Option Int) : List D := (xs.drop (HT.sIx xs.length 0 lo)).take (HT.sIx xs.length xs.length hi - HT.sIx xs.length 0 lo)
def dSl (lo hi : Option Int) : D → Option D
  | .list a => some (.list (cutD a lo hi))
  | .tuple a => some (.tuple (cutD a lo hi))
  | _ => none
def dNeg : D → Option D
  | .int i => some (.int (-i))
  | _ => none
def dLen : D → Option D
  | .list a => some (.int a.length)
  | .tuple a => some (.int a.length)
  | .str s => if s.length ≤ 1000000 then some (.int s.length) else none
  | _ => none
def dLst : D → Option D
  | .list a => some (.list a)
  | .tuple a => some (.list a)
  | _ => none
def dTup : D → Option D
  | .list a => some (.tuple a)
  | .tuple a => some (.tuple a)
  | _ => none
def dInt : D → Option D
  | .int i => some (.int i)
  | .bool b => some (.int (if b then 1 else 0))
  | _ => none
def dAbs : D → Option D
  | .int i => some (.int (if i < 0 then -i else i))
  | _ => none
def intsD : List D → Option (List Int)
  | [] => some []
  | .int i :: r => (intsD r).map (i :: ·)
  | _ => none
def boolsD : List D → Option (List Bool)
  | [] => some []
  | .bool i :: r => (boolsD r).map (i :: ·)
  | _ => none
def maxI : List Int → Option Int
  | [] => none
  | i :: r => match maxI r with
    | none => some i
    | some m => some (if i < m then m else i)
def minI : List Int → Option Int
  | [] => none
  | i :: r => match minI r with
    | none => some i
    | some m => some (if m < i then m else i)
def dMax : D → Option D
  | .list a => (intsD a).bind fun is => (maxI is).map .int
  | _ => none
def dMin : D → Option D
  | .list a => (intsD a).bind fun is => (minI is).map .int
  | _ => none
def dAll : D → Option D
  | .list a => (boolsD a).map fun bs => .bool (bs.all id)
  | _ => none
def dAny : D → Option D
  | .list a => (boolsD a).map fun bs => .bool (bs.any id)
  | _ => none
section
variable {G : Gm} {pn : Pn}
theorem RzA.ints_inv {B : Hp} : ∀ {vs : List V} {ds : List D} {is : List Int}, RzA G B vs ds → intsD ds = some is → vs = is.map V.int
  | _, _, _, .nil, h => by cases h; rfl
  | _, _, _, .cons (d := d) hd t, h => by
    cases d with
    | int i =>
      simp only [intsD] at h
      cases hr : intsD _ with
      | none => rw [hr] at h; cases h
      | some is =>
        rw [hr] at h; cases h
        rw [RzA.ints_inv t hr, hd.int_inv]; rfl
    | _ => cases h
theorem RzA.bools_inv {B : Hp} : ∀ {vs : List V} {ds : List D} {is : List Bool}, RzA G B vs ds → boolsD ds = some is → vs = is.map V.bl
  | _, _, _, .nil, h => by cases h; rfl
  | _, _, _, .cons (d := d) hd t, h => by
    cases d with
    | bool i =>
      simp only [boolsD] at h
      cases hr : boolsD _ with
      | none => rw [hr] at h; cases h
      | some is =>
        rw [hr] at h; cases h
        rw [RzA.bools_inv t hr, hd.bl_inv]; rfl
    | _ => cases h
theorem maxI_spec : ∀ {is : List Int} {m x : Int}, maxI is = some m → x ∈ is → (∀ y ∈ is, y ≤ x) → x = m
  | [], _, _, h, _, _ => by cases h
  | i :: r, m, x, h, hx, hy => by
    simp only [maxI] at h
    cases hr : maxI r with
    | none =>
      rw [hr] at h; cases h
      cases r with
      | nil => simpa using hx
      | cons a t => simp only [maxI] at hr; split at hr <;> cases hr
    | some k =>
      rw [hr] at h; cases h
      have e1 := hy i (.head _)
      have hk : k ∈ r ∧ ∀ y ∈ r, y ≤ k := by
        clear hx hy e1
        induction r generalizing k with
        | nil => cases hr
        | cons a t ih =>
          simp only [maxI] at hr
          cases ht : maxI t with
          | none =>
            rw [ht] at hr; cases hr
            cases t with
            | nil => simp
            | cons b u => simp only [maxI] at ht; split at ht <;> cases ht
          | some j =>
            rw [ht] at hr; cases hr
            obtain ⟨h1, h2⟩ := ih j ht
            split
            · refine ⟨.tail _ h1, fun y hy => ?_⟩
              rcases List.mem_cons.mp hy with z | z
              · omega
              · exact h2 y z
            · refine ⟨.head _, fun y hy => ?_⟩
              rcases List.mem_cons.mp hy with z | z
              · omega
              · have := h2 y z; omega
      have e2 := hy k (.tail _ hk.1)
      rcases List.mem_cons.mp hx with z | z
      · split <;> omega
      · have := hk.2 x z
        split <;> omega
theorem minI_spec : ∀ {is : List Int} {m x : Int}, minI is = some m → x ∈ is → (∀ y ∈ is, x ≤ y) → x = m
  | [], _, _, h, _, _ => by cases h
  | i :: r, m, x, h, hx, hy => by
    simp only [minI] at h
    cases hr : minI r with
    | none =>
      rw [hr] at h; cases h
      cases r with
      | nil => simpa using hx
      | cons a t => simp only [minI] at hr; split at hr <;> cases hr
    | some k =>
      rw [hr] at h; cases h
      have e1 := hy i (.head _)
      have hk : k ∈ r ∧ ∀ y ∈ r, k ≤ y := by
        clear hx hy e1
        induction r generalizing k with
        | nil => cases hr
        | cons a t ih =>
          simp only [minI] at hr
          cases ht : minI t with
          | none =>
            rw [ht] at hr; cases hr
            cases t with
            | nil => simp
            | cons b u => simp only [minI] at ht; split at ht <;> cases ht
          | some j =>
            rw [ht] at hr; cases hr
            obtain ⟨h1, h2⟩ := ih j ht
            split
            · refine ⟨.tail _ h1, fun y hy => ?_⟩
              rcases List.mem_cons.mp hy with z | z
              · omega
              · exact h2 y z
            · refine ⟨.head _, fun y hy => ?_⟩
              rcases List.mem_cons.mp hy with z | z
              · omega
              · have := h2 y z; omega
      have e2 := hy k (.tail _ hk.1)
      rcases List.mem_cons.mp hx with z | z
      · split <;> omega
      · have := hk.2 x z
        split <;> omega
theorem maxI_ne {is : List Int} {m : Int} (h : maxI is = some m) : 0 < is.length := by cases is with | nil => cases h | cons => simp
theorem minI_ne {is : List Int} {m : Int} (h : minI is = some m) : 0 < is.length := by cases is with | nil => cases h | cons => simp
theorem RzA.atI {B : Hp} {vs : List V} {ds : List D} {i : Int} {d : D} (h : RzA G B vs ds) (e : atI ds i = some d) : ∃ x, L2.atI vs i = some x ∧ Rz G B x d := by
  unfold L2.atI at e ⊢
  rw [h.length]
  cases hj : ixN ds.length i with
  | none => rw [hj] at e; cases e
  | some j =>
    rw [hj] at e
    exact h.get e
theorem RzA.cut {B : Hp} {vs : List V} {ds : List D} (h : RzA G B vs ds) (lo hi : Option Int) : RzA G B (cutV vs lo hi) (cutD ds lo hi) := by
  unfold cutV cutD
  rw [h.length]
  exact (h.drop _).take _
theorem ob_add : OpB G pn (uAdd G.K) dAdd := by
  intro U e σ H B x y a b c Q rl ra rb h q
  unfold dAdd at h
  split at h
  · cases h
    cases ra.int_inv; cases rb.int_inv
    exact .inl (.inl ⟨_, _, rfl, rfl, q _ H B rl (Same.refl _) Keep.refl (.int _)⟩)
  · split at h
    · next hz =>
      cases h
      cases ra.str_inv; cases rb.str_inv
      exact .inl (.inr ⟨_, _, rfl, rfl, line_of hz, q _ H B rl (Same.refl _) Keep.refl (.str _)⟩)
    · cases h
  · obtain ⟨hl, rfl⟩ := few_eq h
    obtain ⟨a1, xs, rfl, h1, n1, r1⟩ := ra.lst_inv
    obtain ⟨a2, ys, rfl, h2, n2, r2⟩ := rb.lst_inv
    have r := r1.app r2
    refine .inr (.inl ⟨a1, a2, xs, ys, rfl, rfl, h1, h2, ?_, fun p hp => ?_⟩)
    · rw [← List.length_append, r.length]; exact line_of hl
    · have hB := rl.b.bh.free hp
      exact q _ _ _ (rl.new hp) (same_upd hB) (Keep.of (same_upd hp)) (.lst upd_same (r.same (same_upd hB)))
  · obtain ⟨hl, rfl⟩ := few_eq h
    obtain ⟨a1, xs, rfl, h1, r1⟩ := ra.tup_inv
    obtain ⟨a2, ys, rfl, h2, r2⟩ := rb.tup_inv
    have r := r1.app r2
    refine .inr (.inr ⟨a1, a2, xs, ys, rfl, rfl, same_t rl.b.bh h1, same_t rl.b.bh h2, ?_, fun z => ?_, fun _ z => ?_, fun _ _ p hp => ?_⟩)
    · rw [← List.length_append, r.length]; exact line_of hl
    · subst z; cases r1; exact q _ H B rl (Same.refl _) Keep.refl (.tup h2 r2)
    · subst z; cases r2; rw [List.append_nil] at q; exact q _ H B rl (Same.refl _) Keep.refl (.tup h1 r1)
    · have hB := rl.b.bh.free hp
      exact q _ _ _ (rl.new hp) (same_upd hB) (Keep.of (same_upd hp)) (.tup (SqT.of upd_same) (r.same (same_upd hB)))
  · cases h
theorem small_mul {i j : Int} (h : (small i || small j) = true) : CMul i j := by
  unfold small at h
  simp only [Bool.or_eq_true, Bool.and_eq_true, decide_eq_true_eq] at h
  exact h.imp id id
theorem ob_mul : OpB G pn uMul dMul := by
  intro U e σ H B x y a b c Q rl ra rb h q
  unfold dMul at h
  split at h
  · split at h
    · next hz =>
      cases h
      cases ra.int_inv; cases rb.int_inv
      exact .inl ⟨_, _, rfl, rfl, small_mul hz, q _ H B rl (Same.refl _) Keep.refl (.int _)⟩
    · cases h
  · split at h
    · next hz =>
      cases h
      obtain ⟨a1, xs, rfl, h1, n1, r1⟩ := ra.lst_inv
      cases rb.int_inv
      refine .inr ⟨a1, _, xs, rfl, rfl, h1, by omega, by omega, by rw [r1.length]; exact line_of hz.2.1, fun p hp => ?_⟩
      have hB := rl.b.bh.free hp
      exact q _ _ _ (rl.new hp) (same_upd hB) (Keep.of (same_upd hp)) (.lst upd_same ((r1.flat _).same (same_upd hB)))
    · cases h
  · cases h
theorem ob_I {f : Int → Int → Int} : OpB G pn (rI0 fun i j => .int (f i j)) (dI f) := by
  intro U e σ H B x y a b c Q rl ra rb h q
  unfold dI at h
  split at h
  · cases h
    cases ra.int_inv; cases rb.int_inv
    exact ⟨_, _, rfl, rfl, q _ H B rl (Same.refl _) Keep.refl (.int _)⟩
  · cases h
theorem ob_B {f : Int → Int → Bool} : OpB G pn (rI0 fun i j => .bl (f i j)) (dB f) := by
  intro U e σ H B x y a b c Q rl ra rb h q
  unfold dB at h
  split at h
  · cases h
    cases ra.int_inv; cases rb.int_inv
    exact ⟨_, _, rfl, rfl, q _ H B rl (Same.refl _) Keep.refl (.bl _)⟩
  · cases h
theorem ob_sub : OpB G pn uSub (dI fun i j => i - j) := ob_I
theorem ob_and : OpB G pn uAnd (dI Builtin.bitAnd) := ob_I
theorem ob_or : OpB G pn uOr (dI Builtin.bitOr) := ob_I
theorem ob_xor : OpB G pn uXor (dI Builtin.bitXor) := ob_I
theorem ob_lt : OpB G pn uLt (dB fun i j => decide (i < j)) := ob_B
theorem ob_le : OpB G pn uLe (dB fun i j => decide (i ≤ j)) := ob_B
theorem ob_gt : OpB G pn uGt (dB fun i j => decide (j < i)) := ob_B
theorem ob_ge : OpB G pn uGe (dB fun i j => decide (j ≤ i)) := ob_B
theorem ob_mod : OpB G pn uMod dMod := by
  intro U e σ H B x y a b c Q rl ra rb h q
  unfold dMod at h
  split at h
  · split at h
    · next hz =>
      cases h
      cases ra.int_inv; cases rb.int_inv
      exact ⟨_, _, rfl, rfl, hz, q _ H B rl (Same.refl _) Keep.refl (.int _)⟩
    · cases h
  · cases h
theorem ob_div : OpB G pn uDiv dDiv := by
  intro U e σ H B x y a b c Q rl ra rb h q
  unfold dDiv at h
  split at h
  · split at h
    · next hz =>
      cases h
      cases ra.int_inv; cases rb.int_inv
      exact ⟨_, _, rfl, rfl, hz, q _ H B rl (Same.refl _) Keep.refl (.int _)⟩
    · cases h
  · cases h
theorem okD_eq {d : D} (h : okD d = true) : plain d = true ∧ SeqAt.shaped d = true := by
  unfold okD at h
  simpa using h
theorem ob_eq : OpB G pn (rEqD G.K) dEq := by
  intro U e σ H B x y a b c Q rl ra rb h q
  unfold dEq at h
  split at h
  · next hz =>
    cases h
    exact ⟨a, b, ra.dp rl.b.bh (okD_eq hz.1).1, rb.dp rl.b.bh (okD_eq hz.2).1, (okD_eq hz.1).2, (okD_eq hz.2).2, q _ H B rl (Same.refl _) Keep.refl (.bl _)⟩
  · cases h
theorem ob_ne : OpB G pn (rNeD G.K) dNe := by
  intro U e σ H B x y a b c Q rl ra rb h q
  unfold dNe at h
  split at h
  · next hz =>
    cases h
    exact ⟨a, b, ra.dp rl.b.bh (okD_eq hz.1).1, rb.dp rl.b.bh (okD_eq hz.2).1, (okD_eq hz.1).2, (okD_eq hz.2).2, q _ H B rl (Same.refl _) Keep.refl (.bl _)⟩
  · cases h
theorem ob_in : OpB G pn (uIn G.K) dIn := by
  intro U e σ H B x y a b c Q rl ra rb h q
  unfold dIn at h
  split at h
  · split at h
    · next hz =>
      cases h
      exact .inl ⟨a, _, ra.dp rl.b.bh (okD_eq hz.1).1, rb.dp rl.b.bh (okD_eq hz.2).1, (okD_eq hz.1).2, (okD_eq hz.2).2, q _ H B rl (Same.refl _) Keep.refl (.bl _)⟩
    · cases h
  · split at h
    · next hz =>
      cases h
      exact .inr ⟨a, _, ra.dp rl.b.bh (okD_eq hz.1).1, rb.dp rl.b.bh (okD_eq hz.2).1, (okD_eq hz.1).2, (okD_eq hz.2).2, q _ H B rl (Same.refl _) Keep.refl (.bl _)⟩
    · cases h
  · cases h
theorem ob_notIn : OpB G pn (uNotIn G.K) dNotIn := by
  intro U e σ H B x y a b c Q rl ra rb h q
  unfold dNotIn dIn at h
  split at h
  · split at h
    · next hz =>
      cases h
      exact .inl ⟨a, _, ra.dp rl.b.bh (okD_eq hz.1).1, rb.dp rl.b.bh (okD_eq hz.2).1, (okD_eq hz.1).2, (okD_eq hz.2).2, q _ H B rl (Same.refl _) Keep.refl (.bl _)⟩
    · cases h
  · split at h
    · next hz =>
      cases h
      exact .inr ⟨a, _, ra.dp rl.b.bh (okD_eq hz.1).1, rb.dp rl.b.bh (okD_eq hz.2).1, (okD_eq hz.1).2, (okD_eq hz.2).2, q _ H B rl (Same.refl _) Keep.refl (.bl _)⟩
    · cases h
  · cases h
theorem RzB.isN {B H : Hp} {v : V} {d : D} (h : RzB G pn B H v d) : decide (v = .non) = isNone d := by
  cases h <;> rfl
theorem ob_isN : OpB G pn uIsN dIsN := by
  intro U e σ H B x y a b c Q rl ra rb h q
  unfold dIsN at h
  split at h
  · cases h
    cases rb.non_inv
    exact ⟨rfl, ra.isN ▸ q _ H B rl (Same.refl _) Keep.refl (.bl _)⟩
  · cases h
theorem ob_notN : OpB G pn uNotN dNotN := by
  intro U e σ H B x y a b c Q rl ra rb h q
  unfold dNotN at h
  split at h
  · cases h
    cases rb.non_inv
    exact ⟨rfl, ra.isN ▸ q _ H B rl (Same.refl _) Keep.refl (.bl _)⟩
  · cases h
theorem ob_ix : OpB G pn (uIx G.K) dIx := by
  intro U e σ H B x y a b c Q rl ra rb h q
  unfold dIx at h
  split at h
  · obtain ⟨a1, xs, rfl, h1, n1, r1⟩ := ra.lst_inv
    cases rb.int_inv
    obtain ⟨z, hz, rz⟩ := r1.atI h
    exact .inl ⟨a1, xs, _, z, rfl, rfl, SqL.of h1, hz, q _ H B rl (Same.refl _) Keep.refl rz⟩
  · obtain ⟨a1, xs, rfl, h1, r1⟩ := ra.tup_inv
    cases rb.int_inv
    obtain ⟨z, hz, rz⟩ := r1.atI h
    exact .inr ⟨a1, xs, _, z, rfl, rfl, same_t rl.b.bh h1, hz, q _ H B rl (Same.refl _) Keep.refl rz⟩
  · cases h
theorem ub_neg : UnB G pn uNeg dNeg := by
  intro U e σ H B x a c Q rl ra h q
  unfold dNeg at h
  split at h
  · cases h
    cases ra.int_inv
    exact ⟨_, rfl, q _ H B rl (Same.refl _) Keep.refl (.int _)⟩
  · cases h
theorem b_len : Cb1 G pn (uLen G.K) dLen := by
  intro U e σ H B x a c Q rl ra h q
  unfold dLen at h
  split at h
  · cases h
    obtain ⟨a1, xs, rfl, h1, n1, r1⟩ := ra.lst_inv
    exact ⟨_, xs.length, rfl, .inl ⟨xs, SqL.of h1, rfl⟩, r1.length ▸ q _ H B rl (Same.refl _) Keep.refl (.int _)⟩
  · cases h
    obtain ⟨a1, xs, rfl, h1, r1⟩ := ra.tup_inv
    exact ⟨_, xs.length, rfl, .inr ⟨xs, same_t rl.b.bh h1, rfl⟩, r1.length ▸ q _ H B rl (Same.refl _) Keep.refl (.int _)⟩
  · split at h
    · next hz =>
      cases h
      cases ra.str_inv
      exact ⟨_, _, rfl, ⟨line_of hz, rfl⟩, q _ H B rl (Same.refl _) Keep.refl (.int _)⟩
    · cases h
  · cases h
theorem f_list : Cf1 G pn (uLst G.K) dLst := by
  intro U e σ H B x a c Q rl ra h q
  unfold dLst at h
  split at h
  · cases h
    obtain ⟨a1, xs, rfl, h1, n1, r1⟩ := ra.lst_inv
    exact ⟨a1, xs, rfl, .inl (SqL.of h1), fun p hp => q p _ B (rl.fresh hp (.lst upd_same r1)) (Same.refl _) (Keep.of (same_upd hp))⟩
  · cases h
    obtain ⟨a1, xs, rfl, h1, r1⟩ := ra.tup_inv
    exact ⟨a1, xs, rfl, .inr (same_t rl.b.bh h1), fun p hp => q p _ B (rl.fresh hp (.lst upd_same r1)) (Same.refl _) (Keep.of (same_upd hp))⟩
  · cases h
theorem b_tuple : Cb1 G pn (uTup G.K) dTup := by
  intro U e σ H B x a c Q rl ra h q
  unfold dTup at h
  split at h
  · cases h
    obtain ⟨a1, xs, rfl, h1, n1, r1⟩ := ra.lst_inv
    refine ⟨a1, xs, rfl, .inl ⟨SqL.of h1, fun p hp => ?_⟩⟩
    have hB := rl.b.bh.free hp
    exact q _ _ _ (rl.new hp) (same_upd hB) (Keep.of (same_upd hp)) (.tup (SqT.of upd_same) (r1.same (same_upd hB)))
  · cases h
    obtain ⟨a1, xs, rfl, h1, r1⟩ := ra.tup_inv
    exact ⟨a1, xs, rfl, .inr ⟨same_t rl.b.bh h1, q _ H B rl (Same.refl _) Keep.refl (.tup h1 r1)⟩⟩
  · cases h
theorem b_int : Cb1 G pn uInt dInt := by
  intro U e σ H B x a c Q rl ra h q
  unfold dInt at h
  split at h
  · cases h
    cases ra.int_inv
    exact .inl ⟨_, rfl, q _ H B rl (Same.refl _) Keep.refl (.int _)⟩
  · cases h
    cases ra.bl_inv
    exact .inr ⟨_, rfl, q _ H B rl (Same.refl _) Keep.refl (.int _)⟩
  · cases h
theorem b_abs : Cb1 G pn uAbs dAbs := by
  intro U e σ H B x a c Q rl ra h q
  unfold dAbs at h
  split at h
  · cases h
    cases ra.int_inv
    exact ⟨_, rfl, q _ H B rl (Same.refl _) Keep.refl (.int _)⟩
  · cases h
theorem b_max : Cb1 G pn (rMax G.K) dMax := by
  intro U e σ H B x a c Q rl ra h q
  unfold dMax at h
  split at h
  · next ds =>
    obtain ⟨is, h1, h2⟩ := Option.bind_eq_some_iff.mp h
    obtain ⟨m, h3, rfl⟩ := Option.map_eq_some_iff.mp h2
    obtain ⟨a1, xs, rfl, hx, n1, r1⟩ := ra.lst_inv
    refine ⟨a1, is, rfl, (r1.ints_inv h1) ▸ SqL.of hx, maxI_ne h3, fun z hz hy => ?_⟩
    rw [maxI_spec h3 hz hy]
    exact q _ H B rl (Same.refl _) Keep.refl (.int _)
  · cases h
theorem b_min : Cb1 G pn (rMin G.K) dMin := by
  intro U e σ H B x a c Q rl ra h q
  unfold dMin at h
  split at h
  · next ds =>
    obtain ⟨is, h1, h2⟩ := Option.bind_eq_some_iff.mp h
    obtain ⟨m, h3, rfl⟩ := Option.map_eq_some_iff.mp h2
    obtain ⟨a1, xs, rfl, hx, n1, r1⟩ := ra.lst_inv
    refine ⟨a1, is, rfl, (r1.ints_inv h1) ▸ SqL.of hx, minI_ne h3, fun z hz hy => ?_⟩
    rw [minI_spec h3 hz hy]
    exact q _ H B rl (Same.refl _) Keep.refl (.int _)
  · cases h
theorem b_all : Cb1 G pn (rAll G.K) dAll := by
  intro U e σ H B x a c Q rl ra h q
  unfold dAll at h
  split at h
  · next ds =>
    obtain ⟨is, h1, rfl⟩ := Option.map_eq_some_iff.mp h
    obtain ⟨a1, xs, rfl, hx, n1, r1⟩ := ra.lst_inv
    exact ⟨a1, is, rfl, (r1.bools_inv h1) ▸ SqL.of hx, q _ H B rl (Same.refl _) Keep.refl (.bl _)⟩
  · cases h
theorem b_any : Cb1 G pn (rAny G.K) dAny := by
  intro U e σ H B x a c Q rl ra h q
  unfold dAny at h
  split at h
  · next ds =>
    obtain ⟨is, h1, rfl⟩ := Option.map_eq_some_iff.mp h
    obtain ⟨a1, xs, rfl, hx, n1, r1⟩ := ra.lst_inv
    exact ⟨a1, is, rfl, (r1.bools_inv h1) ▸ SqL.of hx, q _ H B rl (Same.refl _) Keep.refl (.bl _)⟩
  · cases h
end
end Fw

set_option linter.all false
set_option maxRecDepth 100000
set_option maxHeartbeats 4000000
namespace Fw
open PySem PySem.Spec PyProof.Rows L2
section
variable {α β : Type}
/-! ### statements -/
def PostS (G : Gm) (U : Hp) (pn : Pn) (E : XK) (e' : Ev) (B : Hp) (Dn : Ends) : Fl → Prop
  | .nx => ∀ σ' H' B', Rl G U pn e' σ' H' B' → Same B B' → Dn.nx σ' H'
  | .bk => ∀ σ' H' B', Rl G U pn e' σ' H' B' → Same B B' → Dn.bk σ' H'
  | .ct => ∀ σ' H' B', Rl G U pn e' σ' H' B' → Same B B' → Dn.ct σ' H'
  | .rt d => ∀ v H' B', Base U pn e'.pen H' B' → Same B B' → Rz G B' v d → Dn.rt v H'
  | .x c ns ds => ∀ cls ao H' B', Base U pn e'.pen H' B' → Same B B' → XAt G B' H' cls ao c ns ds → E cls ao H'
def CS (G : Gm) (pn : Pn) (E : XK) (t : TS) (f : FS) : Prop :=
  ∀ U e σ H B r e' Dn, Rl G U pn e σ H B → f e = some (r, e') → PostS G U pn E e' B Dn r → t Dn σ H
variable {G : Gm} {U : Hp} {pn : Pn} {E : XK} {e : Ev} {σ : L2.St} {H B H' B' H1 B1 : Hp}
theorem PostS.up {Dn : Ends} {r : Fl} {e' : Ev} (s : Same B B1) (h : PostS G U pn E e' B Dn r) : PostS G U pn E e' B1 Dn r := by
  cases r with
  | nx => exact fun σ' H' B' r s' => h σ' H' B' r (s.trans s')
  | bk => exact fun σ' H' B' r s' => h σ' H' B' r (s.trans s')
  | ct => exact fun σ' H' B' r s' => h σ' H' B' r (s.trans s')
  | rt d => exact fun v H' B' b s' x => h v H' B' b (s.trans s') x
  | x c ns ds => exact fun cls ao H' B' b s' x => h cls ao H' B' b (s.trans s') x
def nextS : FS := fun e => some (.nx, e)
def breakS : FS := fun e => some (.bk, e)
def contS : FS := fun e => some (.ct, e)
def seqS (f g : FS) : FS := fun e => match f e with
  | some (.nx, e') => g e'
  | r => r
theorem cs_next : CS G pn E tNext nextS := by
  intro U e σ H B r e' Dn rl hf post
  cases hf
  exact post σ H B rl (Same.refl _)
theorem cs_break : CS G pn E tBreak breakS := by
  intro U e σ H B r e' Dn rl hf post
  cases hf
  exact post σ H B rl (Same.refl _)
theorem cs_cont : CS G pn E tCont contS := by
  intro U e σ H B r e' Dn rl hf post
  cases hf
  exact post σ H B rl (Same.refl _)
theorem cs_seq {t u : TS} {f g : FS} (h1 : CS G pn E t f) (h2 : CS G pn E u g) : CS G pn E (tSeq t u) (seqS f g) := by
  intro U e σ H B r e' Dn rl hf post
  unfold seqS at hf
  cases hfe : f e with
  | none => rw [hfe] at hf; cases hf
  | some rp =>
    obtain ⟨r1, e1⟩ := rp
    rw [hfe] at hf
    cases r1 with
    | nx => exact h1 U e σ H B _ _ { Dn with nx := u Dn } rl hfe fun σ1 H1 B1 rl1 s1 => h2 U e1 σ1 H1 B1 r e' Dn rl1 hf (post.up s1)
    | bk => cases hf; exact h1 U e σ H B _ _ { Dn with nx := u Dn } rl hfe post
    | ct => cases hf; exact h1 U e σ H B _ _ { Dn with nx := u Dn } rl hfe post
    | rt d => cases hf; exact h1 U e σ H B _ _ { Dn with nx := u Dn } rl hfe post
    | x c ns ds => cases hf; exact h1 U e σ H B _ _ { Dn with nx := u Dn } rl hfe post
/-- from an expression's outcome on -/
def thenS (f : FG α) (g : α → FS) : FS := fun e => match f e with
  | none => none
  | some (.x c ns ds, p) => some (.x c ns ds, ⟨e.sl, p⟩)
  | some (.v a, p) => g a ⟨e.sl, p⟩
theorem CS.of {W : Type} {R : Hp → Hp → W → α → Prop} {t : TG_ W} {k : W → TS} {f : FG α} {g : α → FS} (h1 : CG G pn E R t f)
    (h2 : ∀ w a U e σ H B r e' Dn, Rl G U pn e σ H B → R B H w a → g a e = some (r, e') → PostS G U pn E e' B Dn r → k w Dn σ H) :
    CS G pn E (fun Dn σ H => t σ H fun w H1 => k w Dn σ H1) (thenS f g) := by
  intro U e σ H B r e' Dn rl hf post
  unfold thenS at hf
  cases hfe : f e with
  | none => rw [hfe] at hf; cases hf
  | some rp =>
    obtain ⟨r1, q1⟩ := rp
    rw [hfe] at hf
    cases r1 with
    | x c ns ds => cases hf; exact h1 U e σ H B _ _ _ rl hfe post
    | v a => exact h1 U e σ H B _ _ _ rl hfe fun w H1 B1 rl1 s1 k1 rw1 => h2 w a U ⟨e.sl, q1⟩ σ H1 B1 r e' Dn rl1 rw1 hf (post.up s1)
def ifS (c : FG Bool) (f g : FS) : FS := thenS c fun b => if b = true then f else g
theorem cs_if {c : TT} {t u : TS} {fc : FG Bool} {f g : FS} (hc : CT G pn E c fc) (h1 : CS G pn E t f) (h2 : CS G pn E u g) : CS G pn E (tIfS c t u) (ifS fc f g) := by
  refine CS.of (t := c) hc fun w a U e σ H B r e' Dn rl ra hf post => ?_
  cases ra
  cases w with
  | true => exact h1 U e σ H B r e' Dn rl hf post
  | false => exact h2 U e σ H B r e' Dn rl hf post
def retS (f : FG D) : FS := thenS f fun d e => some (.rt d, e)
theorem cs_ret {t : TE} {f : FG D} (h : CE G pn E t f) : CS G pn E (tRet t) (retS f) := by
  refine CS.of (t := t) h fun w a U e σ H B r e' Dn rl ra hf post => ?_
  cases hf
  exact post w H B rl.b (Same.refl _) ra
theorem cs_retN : CS G pn E tRetN (retS (retG .none)) := by
  intro U e σ H B r e' Dn rl hf post
  cases hf
  exact post .non H B rl.b (Same.refl _) .non
def dropS (f : FG D) : FS := thenS f fun _ e => some (.nx, e)
theorem cs_drop {t : TE} {f : FG D} (h : CE G pn E t f) : CS G pn E (tDrop t) (dropS f) := by
  refine CS.of (t := t) h fun w a U e σ H B r e' Dn rl ra hf post => ?_
  cases hf
  exact post σ H B rl (Same.refl _)
/-! ### targets -/
abbrev FT := D → List Slot → Option (List Slot)
abbrev FTs := List D → List Slot → Option (List Slot)
def CTg (G : Gm) (pn : Pn) (g : TG) (f : FT) : Prop := ∀ U e σ H B v d sl' (Q : L2.St → Hp → Prop), Rl G U pn e σ H B → Rz G B v d → f d e.sl = some sl' →
  (∀ σ', Rl G U pn ⟨sl', e.pen⟩ σ' H B → Q σ' H) → g v σ H Q
def CTgs (G : Gm) (pn : Pn) (g : TGs) (f : FTs) : Prop := ∀ U e σ H B vs ds sl' (Q : L2.St → Hp → Prop), Rl G U pn e σ H B → RzA G B vs ds → f ds e.sl = some sl' →
  (∀ σ', Rl G U pn ⟨sl', e.pen⟩ σ' H B → Q σ' H) → g vs σ H Q
def nameT (i : Nat) : FT := fun d sl => some (sl.set i (.d d))
def nilT : FTs := fun ds sl => match ds with
  | [] => some sl
  | _ => none
def consT (f : FT) (g : FTs) : FTs := fun ds sl => match ds with
  | [] => none
  | d :: r => (f d sl).bind (g r)
def tupT (n : Nat) (f : FTs) : FT := fun d sl => match d with
  | .tuple ds => if ds.length = n then f ds sl else none
  | _ => none
theorem tg_name (i : Nat) : CTg G pn (gName i) (nameT i) := by
  intro U e σ H B v d sl' Q rl rz h q
  cases h
  exact q _ (rl.setD rz i)
theorem tg_nil : CTgs G pn gNil nilT := by
  intro U e σ H B vs ds sl' Q rl rz h q
  unfold nilT at h
  split at h
  · cases h; cases rz; exact ⟨rfl, q σ rl⟩
  · cases h
theorem tg_cons {t : TG} {u : TGs} {f : FT} {g : FTs} (h1 : CTg G pn t f) (h2 : CTgs G pn u g) : CTgs G pn (gCons t u) (consT f g) := by
  intro U e σ H B vs ds sl' Q rl rz h q
  unfold consT at h
  cases rz with
  | nil => cases h
  | cons r1 r2 =>
    obtain ⟨sl1, e1, e2⟩ := Option.bind_eq_some_iff.mp h
    exact ⟨_, _, rfl, h1 U e σ H B _ _ sl1 _ rl r1 e1 fun σ' rl' => h2 U ⟨sl1, e.pen⟩ σ' H B _ _ sl' Q rl' r2 e2 q⟩
theorem tg_tup {n : Nat} {t : TGs} {f : FTs} (h1 : CTgs G pn t f) : CTg G pn (gTup G.K n t) (tupT n f) := by
  intro U e σ H B v d sl' Q rl rz h q
  unfold tupT at h
  split at h
  · next ds =>
    split at h
    · next hn =>
      obtain ⟨a, xs, rfl, hx, hr⟩ := rz.tup_inv
      exact ⟨a, xs, rfl, same_t rl.b.bh hx, by rw [hr.length, hn], h1 U e σ H B xs ds sl' Q rl hr h q⟩
    · cases h
  · cases h
def asgS (f : FG D) (t : FT) : FS := thenS f fun d e => (t d e.sl).map fun sl => (.nx, ⟨sl, e.pen⟩)
theorem cs_asg {t : TE} {g : TG} {f : FG D} {ft : FT} (h : CE G pn E t f) (hg : CTg G pn g ft) : CS G pn E (tAsg t g) (asgS f ft) := by
  refine CS.of (t := t) h fun w a U e σ H B r e' Dn rl ra hf post => ?_
  obtain ⟨sl, h1, h2⟩ := Option.map_eq_some_iff.mp hf
  cases h2
  exact hg U e σ H B w a sl _ rl ra h1 fun σ' rl' => post σ' H B rl' (Same.refl _)
/-- a new list or dict that will change -/
def asgO (f : FG D) (i : Nat) : FS := thenS f fun d e => if i < e.sl.length then some (.nx, ⟨e.sl.set i (.o d), e.pen⟩) else none
theorem cs_asgO {t : TE} {f : FG D} {i : Nat} (h : CF G pn E t f) : CS G pn E (tAsg t (gName i)) (asgO f i) := by
  intro U e σ H B r e' Dn rl hf post
  unfold asgO thenS at hf
  cases hfe : f e with
  | none => rw [hfe] at hf; cases hf
  | some rp =>
    obtain ⟨r1, q1⟩ := rp
    rw [hfe] at hf
    cases r1 with
    | x c ns ds => cases hf; exact h U e σ H B _ _ _ rl hfe post
    | v a =>
      dsimp only at hf
      split at hf
      · next hi =>
        cases hf
        exact h U e σ H B _ _ _ rl hfe fun p H1 B1 fr s1 k1 => post _ H1 B1 (fr.setO hi) s1
      · cases hf
/-- a, b = x, y -/
def parS (i j : Nat) (f : FG (List D)) : FS := thenS f fun ds e => match ds with
  | [a, b] => some (.nx, ⟨(e.sl.set i (.d a)).set j (.d b), e.pen⟩)
  | _ => none
theorem cs_par {i j : Nat} {t : TA} {f : FG (List D)} (h : CA G pn E t f) : CS G pn E (tPar i j t) (parS i j f) := by
  refine CS.of (t := t) h fun w a U e σ H B r e' Dn rl ra hf post => ?_
  split at hf
  · cases hf
    cases ra with
    | cons r1 r2 =>
      cases r2 with
      | cons r2 r3 =>
        cases r3
        exact ⟨_, _, rfl, post _ H B ((rl.setD r1 i).setD r2 j) (Same.refl _)⟩
  · cases hf
/-- what one owns becomes data: nothing runs -/
def relS (i : Nat) (f : FS) : FS := fun e => match e.sl[i]? with
  | some (.o x) => f ⟨e.sl.set i (.d x), e.pen⟩
  | some (.d _) => f e
  | _ => none
theorem cs_rel {t : TS} {f : FS} (i : Nat) (h : CS G pn E t f) : CS G pn E t (relS i f) := by
  intro U e σ H B r e' Dn rl hf post
  unfold relS at hf
  split at hf
  · next x hx =>
    obtain ⟨B1, rl1, s1⟩ := rl.rel hx
    exact h U _ σ H B1 r e' Dn rl1 hf (post.up s1)
  · exact h U e σ H B r e' Dn rl hf post
  · cases hf
/-! ### lists that change -/
def ownL (i : Nat) (e : Ev) : Option (List D) := match e.sl[i]? with
  | some (.o (.list ds)) => some ds
  | _ => none
theorem ownL_eq {i : Nat} {ds : List D} (h : ownL i e = some ds) : e.sl[i]? = some (.o (.list ds)) := by
  unfold ownL at h
  split at h
  · next ds' hx => cases h; exact hx
  · cases h
theorem Rl.lst (rl : Rl G U pn e σ H B) {i : Nat} {ds : List D} (h : ownL i e = some ds) : ∃ p xs, σ[i]? = some (some (.ref p)) ∧ H p = some (.lst xs) ∧ RzA G B xs ds := by
  obtain ⟨p, h1, h2, _⟩ := rl.getO (ownL_eq h)
  cases h2 with
  | lst h hs => exact ⟨p, _, h1, h, hs⟩
theorem Rl.lstPut (rl : Rl G U pn e σ H B) {i : Nat} {ds es : List D} {p : Addr} {ys : List V} (h : ownL i e = some ds) (hs : σ[i]? = some (some (.ref p))) (hr : RzA G B ys es) : Rl G U pn ⟨e.sl.set i (.o (.list es)), e.pen⟩ σ (upd H p (.lst ys)) B :=
  rl.mut hs (ownL_eq h) (.lst upd_same hr)
def appS (i : Nat) (f : FG D) : FS := fun e => (ownL i e).bind fun _ => thenS f (fun d e => (ownL i e).bind fun ds => few ds (.nx, ⟨e.sl.set i (.o (.list (ds ++ [d]))), e.pen⟩)) e
theorem cs_app {i : Nat} {t : TE} {f : FG D} (h : CE G pn E t f) : CS G pn E (tDrop (tBM G.K "list" rAppend (tVar i) (tCons t tNil))) (appS i f) := by
  intro U e σ H B r e' Dn rl hf post
  obtain ⟨ds0, h0, hf⟩ := Option.bind_eq_some_iff.mp hf
  obtain ⟨p0, xs0, e0, e2, e3⟩ := rl.lst h0
  refine ⟨_, e0, .inl ⟨rfl, xs0, SqL.of e2⟩, ?_⟩
  unfold thenS at hf
  cases hfe : f e with
  | none => rw [hfe] at hf; cases hf
  | some rp =>
    obtain ⟨r1, q1⟩ := rp
    rw [hfe] at hf
    cases r1 with
    | v a =>
      refine h U e σ H B _ _ _ rl hfe fun v H1 B1 rl1 s1 k1 rz => ?_
      obtain ⟨ds, h1, h2⟩ := Option.bind_eq_some_iff.mp hf
      obtain ⟨hl, h3⟩ := few_eq h2
      cases h3
      obtain ⟨p, xs, e1, e2, e3⟩ := rl1.lst h1
      rw [e0] at e1
      cases e1
      exact ⟨p0, xs, v, rfl, rfl, e2, line_lt (by rw [e3.length]; exact hl), post _ _ B1 (rl1.lstPut h1 e0 (e3.app (.cons rz .nil))) s1⟩
    | x c ns ds => cases hf; exact h U e σ H B _ _ _ rl hfe post
/-- xs[k] = e -/
def setS (i : Nat) (fk f : FG D) : FS := thenS f fun d => thenS fk fun k e => match k with
  | .int k => (ownL i e).bind fun ds => (ixN ds.length k).map fun j => (.nx, ⟨e.sl.set i (.o (.list (ds.set j d))), e.pen⟩)
  | _ => none
theorem thenS_inv {f : FG α} {g : α → FS} {r : Fl} {e' : Ev} (h : thenS f g e = some (r, e')) :
    (∃ c ns ds q, f e = some (.x c ns ds, q) ∧ r = .x c ns ds ∧ e' = ⟨e.sl, q⟩) ∨ ∃ a q, f e = some (.v a, q) ∧ g a ⟨e.sl, q⟩ = some (r, e') := by
  unfold thenS at h
  split at h
  · cases h
  · next c ns ds p hx => cases h; exact .inl ⟨_, _, _, _, hx, rfl, rfl⟩
  · next a p hx => exact .inr ⟨_, _, hx, h⟩
theorem cs_set {i : Nat} {t tk : TE} {f fk : FG D} (hk : CE G pn E tk fk) (h : CE G pn E t f) (hx : ∀ (e : Ev) d q, f e = some (.v d, q) → ∃ k q2, fk ⟨e.sl, q⟩ = some (.v k, q2)) :
    CS G pn E (tAsg t (gSub (tVar i) tk rSetL)) (setS i fk f) := by
  intro U e σ H B r e' Dn rl hf post
  rcases thenS_inv hf with ⟨c, ns, ds, q, h1, rfl, rfl⟩ | ⟨d, q, h1, h2⟩
  · exact h U e σ H B _ _ _ rl h1 post
  · refine h U e σ H B _ _ _ rl h1 fun v H1 B1 rl1 s1 k1 rz => ?_
    obtain ⟨k, q2, h3⟩ := hx e d q h1
    rcases thenS_inv h2 with ⟨c, ns, ds, q3, h4, rfl, rfl⟩ | ⟨k', q3, h4, h5⟩
    · rw [h3] at h4; cases h4
    · rw [h3] at h4
      cases h4
      dsimp only at h5
      split at h5
      · next k =>
        obtain ⟨ds, h6, h7⟩ := Option.bind_eq_some_iff.mp h5
        obtain ⟨j, h8, h9⟩ := Option.map_eq_some_iff.mp h7
        cases h9
        obtain ⟨p, xs, e1, e2, e3⟩ := rl1.lst (i := i) (ds := ds) h6
        refine ⟨_, e1, hk U ⟨e.sl, q⟩ σ H1 B1 _ _ _ rl1 h3 fun w H2 B2 rl2 s2 k2 rw => ?_⟩
        obtain ⟨p', xs', e1', e2', e3'⟩ := rl2.lst (i := i) (ds := ds) h6
        rw [e1] at e1'
        cases e1'
        cases rw.int_inv
        exact ⟨p, xs', k, j, rfl, rfl, e2', by rw [e3'.length]; exact h8, post _ _ B2 (rl2.lstPut h6 e1 (e3'.set (rz.same s2) j)) (s1.trans s2)⟩
      · cases h5
/-- xs.extend(ys), ys a list -/
def extS (i : Nat) (f : FG D) : FS := fun e => (ownL i e).bind fun _ => thenS f (fun d e => match d with
  | .list es => (ownL i e).bind fun ds => few (ds ++ es) (.nx, ⟨e.sl.set i (.o (.list (ds ++ es))), e.pen⟩)
  | .tuple es => (ownL i e).bind fun ds => few (ds ++ es) (.nx, ⟨e.sl.set i (.o (.list (ds ++ es))), e.pen⟩)
  | _ => none) e
def rExtT (K : PySem.W.Frag) : V → List V → Hp → VK → Prop := fun x vs H Q => ∃ l b xs ys, x = .ref l ∧ vs = [.ref b] ∧ H l = some (.lst xs) ∧ SqT K H b ys ∧ xs.length + ys.length ≤ sizeLine ∧ Q .non (upd H l (.lst (xs ++ ys)))
def uExt (K : PySem.W.Frag) : V → List V → Hp → VK → Prop := fun x vs H Q => rExtend x vs H Q ∨ rExtT K x vs H Q
theorem cs_ext {i : Nat} {t : TE} {f : FG D} (h : CE G pn E t f) : CS G pn E (tDrop (tBM G.K "list" (uExt G.K) (tVar i) (tCons t tNil))) (extS i f) := by
  intro U e σ H B r e' Dn rl hf post
  obtain ⟨ds0, h0, hf⟩ := Option.bind_eq_some_iff.mp hf
  obtain ⟨p0, xs0, e0, e2, e3⟩ := rl.lst h0
  refine ⟨_, e0, .inl ⟨rfl, xs0, SqL.of e2⟩, ?_⟩
  unfold thenS at hf
  cases hfe : f e with
  | none => rw [hfe] at hf; cases hf
  | some rp =>
    obtain ⟨r1, q1⟩ := rp
    rw [hfe] at hf
    cases r1 with
    | v a =>
      refine h U e σ H B _ _ _ rl hfe fun v H1 B1 rl1 s1 k1 rz => ?_
      dsimp only at hf
      split at hf
      · obtain ⟨ds, h1, h2⟩ := Option.bind_eq_some_iff.mp hf
        obtain ⟨hl, h3⟩ := few_eq h2
        cases h3
        obtain ⟨p, xs, e1, e2, e3⟩ := rl1.lst h1
        rw [e0] at e1
        cases e1
        obtain ⟨b, ys, rfl, hy, ry⟩ := rz.lst_inv
        refine .inl ⟨p0, b, xs, ys, rfl, rfl, e2, rl1.b.bh _ _ hy, ?_, post _ _ B1 (rl1.lstPut h1 e0 (e3.app ry)) s1⟩
        rw [← List.length_append, (e3.app ry).length]
        exact line_of hl
      · obtain ⟨ds, h1, h2⟩ := Option.bind_eq_some_iff.mp hf
        obtain ⟨hl, h3⟩ := few_eq h2
        cases h3
        obtain ⟨p, xs, e1, e2, e3⟩ := rl1.lst h1
        rw [e0] at e1
        cases e1
        obtain ⟨b, ys, rfl, hy, ry⟩ := rz.tup_inv
        refine .inr ⟨p0, b, xs, ys, rfl, rfl, e2, same_t rl1.b.bh hy, ?_, post _ _ B1 (rl1.lstPut h1 e0 (e3.app ry)) s1⟩
        rw [← List.length_append, (e3.app ry).length]
        exact line_of hl
      · cases hf
    | x c ns ds => cases hf; exact h U e σ H B _ _ _ rl hfe post
end
end Fw

set_option linter.all false
set_option maxRecDepth 100000
set_option maxHeartbeats 4000000
namespace Fw
open PySem PySem.Spec PyProof.Rows L2
section
variable {α β : Type} {G : Gm} {U : Hp} {pn : Pn} {E : XK} {e : Ev} {σ : L2.St} {H B H' B' H1 B1 : Hp}
/-! ### what is walked -/
def Walks (G : Gm) (pn : Pn) (J : It) (ds : List D) (B0 : Hp) : Prop := ∀ (i : Nat) (U H B : Hp) (e : Ev) (σ : L2.St), Same B0 B → Rl G U pn e σ H B →
  (ds.length ≤ i → J.stop i H) ∧ ∀ d, ds[i]? = some d → J.go i H ∧ ∀ x H', J.yld i H x H' → ∃ B', Same B B' ∧ Same H H' ∧ (∀ U e σ, Rl G U pn e σ H B → Rl G U pn e σ H' B') ∧ Rz G B' x d
abbrev CI (G : Gm) (pn : Pn) (E : XK) (t : TI) (f : FG (List D)) : Prop := CG G pn E (fun B _ J ds => Walks G pn J ds B) t f
theorem PI.or {X : Cx} {tg iter : Expr} {w w' : TI} (h : PI X tg iter w) (h' : PI X tg iter w') : PI X tg iter (fun σ H R => w σ H R ∨ w' σ H R) :=
  ⟨fun pins s σ H R I q => q.elim (h.run pins s σ H R I) (h'.run pins s σ H R I)⟩
def iSeq (K : PySem.W.Frag) (te : TE) : TI := fun σ H R => iList K te σ H R ∨ iTup K te σ H R
theorem pi_seq {X : Cx} {tg l : Expr} {te : TE} (h : PE X l te) : PI X tg l (iSeq X.K te) := PI.or (pi_list h) (pi_tup h)
def seqD : D → Option (List D)
  | .list ds => some ds
  | .tuple ds => some ds
  | _ => none
def seqI (f : FG D) : FG (List D) := bindG f fun d => optG (seqD d)
theorem walks_l {K : PySem.W.Frag} {a : Addr} {xs : List V} {ds : List D} (h : B a = some (.lst xs)) (hr : RzA G B xs ds) : Walks G pn (Itl G.K a) ds B := by
  intro i U H B1 e σ s rl
  have hq : SqL G.K H a xs := SqL.of (rl.b.bh _ _ (s _ _ h))
  refine ⟨fun hi => ⟨xs, hq, by rw [hr.length]; exact hi⟩, fun d hd => ?_⟩
  obtain ⟨x, hx, rz⟩ := hr.get hd
  refine ⟨⟨xs, x, hq, hx⟩, fun y H' ⟨e1, e2⟩ => ?_⟩
  subst e1
  have := e2 xs hq
  rw [hx] at this
  cases this
  exact ⟨B1, Same.refl _, Same.refl _, fun _ _ _ r => r, rz.same s⟩
theorem walks_t {a : Addr} {xs : List V} {ds : List D} (h : SqT G.K B a xs) (hr : RzA G B xs ds) : Walks G pn (Itt G.K a) ds B := by
  intro i U H B1 e σ s rl
  have hq : SqT G.K H a xs := same_t rl.b.bh (same_t s h)
  refine ⟨fun hi => ⟨xs, hq, by rw [hr.length]; exact hi⟩, fun d hd => ?_⟩
  obtain ⟨x, hx, rz⟩ := hr.get hd
  refine ⟨⟨xs, x, hq, hx⟩, fun y H' ⟨e1, e2⟩ => ?_⟩
  subst e1
  have := e2 xs hq
  rw [hx] at this
  cases this
  exact ⟨B1, Same.refl _, Same.refl _, fun _ _ _ r => r, rz.same s⟩
theorem ci_seq {t : TE} {f : FG D} (h : CE G pn E t f) : CI G pn E (iSeq G.K t) (seqI f) := by
  intro U e σ H B r p' Q rl hf post
  rcases bind_inv hf with ⟨c, ns, ds, hx, rfl⟩ | ⟨a, q, hx, hg⟩
  · exact .inl (h U e σ H B _ _ _ rl hx post)
  · obtain ⟨ds, hc, rfl, rfl⟩ := optG_eq hg
    unfold seqD at hc
    split at hc
    · cases hc
      refine .inl (h U e σ H B _ _ _ rl hx fun v H1 B1 rl1 s1 k1 rz => ?_)
      obtain ⟨a, xs, rfl, hl, hr⟩ := rz.lst_inv
      exact ⟨a, rfl, ⟨xs, SqL.of (rl1.b.bh _ _ hl)⟩, post _ H1 B1 rl1 s1 k1 (walks_l (K := G.K) hl hr)⟩
    · cases hc
      refine .inr (h U e σ H B _ _ _ rl hx fun v H1 B1 rl1 s1 k1 rz => ?_)
      obtain ⟨a, xs, rfl, hl, hr⟩ := rz.tup_inv
      exact ⟨a, rfl, ⟨xs, same_t rl1.b.bh hl⟩, post _ H1 B1 rl1 s1 k1 (walks_t hl hr)⟩
    · cases hc
def rgD (lo : Int) (n : Nat) : List D := (List.range n).map fun (k : Nat) => PyData.int (lo + (k : Int))
theorem rgD_get {lo : Int} {n i : Nat} : (rgD lo n)[i]? = if i < n then some (.int (lo + (i : Int))) else none := by
  unfold rgD
  rw [List.getElem?_map]
  by_cases h : i < n
  · rw [if_pos h, List.getElem?_range h]; rfl
  · rw [if_neg h, List.getElem?_eq_none (by rw [List.length_range]; omega)]; rfl
theorem walks_r {lo : Int} {n : Nat} : Walks G pn (Itr lo n) (rgD lo n) B := by
  intro i U H B1 e σ s rl
  refine ⟨fun hi => by rw [rgD, List.length_map, List.length_range] at hi; exact hi, fun d hd => ?_⟩
  rw [rgD_get] at hd
  split at hd
  · next hi =>
    cases hd
    exact ⟨hi, fun y H' ⟨e1, e2⟩ => by subst e1; subst e2; exact ⟨B1, Same.refl _, Same.refl _, fun _ _ _ r => r, .int _⟩⟩
  · cases hd
def okR (i : Int) : Bool := decide (-1000000 ≤ i) && decide (i ≤ 1000000)
def rg1D : List D → Option (List D)
  | [.int j] => if okR j then some (rgD 0 j.toNat) else none
  | _ => none
def rg2D : List D → Option (List D)
  | [.int i, .int j] => if okR i && okR j then some (rgD i (j - i).toNat) else none
  | _ => none
theorem okR_eq {i : Int} (h : okR i = true) : -1000000 ≤ i ∧ i ≤ 1000000 := by
  unfold okR at h
  simpa using h
def rgI (φ : List D → Option (List D)) (f : FG (List D)) : FG (List D) := bindG f fun ds => optG (φ ds)
theorem ci_rg1 {t : TA} {f : FG (List D)} (h : CA G pn E t f) : CI G pn E (iRng1 t) (rgI rg1D f) := by
  refine CG.bind (t := t) h fun vs ds U e σ H B r p' Q rl ra hf post => ?_
  obtain ⟨c, hc, rfl, rfl⟩ := optG_eq hf
  unfold rg1D at hc
  split at hc
  · split at hc
    · next j hj =>
      cases hc
      have := okR_eq hj
      cases ra with
      | cons r1 r2 =>
        cases r2
        cases r1.int_inv
        exact ⟨j, rfl, by omega, by omega, post _ H B rl (Same.refl _) Keep.refl walks_r⟩
    · cases hc
  · cases hc
theorem ci_rg2 {t : TA} {f : FG (List D)} (h : CA G pn E t f) : CI G pn E (iRng2 t) (rgI rg2D f) := by
  refine CG.bind (t := t) h fun vs ds U e σ H B r p' Q rl ra hf post => ?_
  obtain ⟨c, hc, rfl, rfl⟩ := optG_eq hf
  unfold rg2D at hc
  split at hc
  · split at hc
    · next i j hj =>
      cases hc
      simp only [Bool.and_eq_true] at hj
      have h1 := okR_eq hj.1
      have h2 := okR_eq hj.2
      cases ra with
      | cons r1 r2 =>
        cases r2 with
        | cons r2 r3 =>
          cases r3
          cases r1.int_inv
          cases r2.int_inv
          exact ⟨i, j, rfl, ⟨by omega, by omega, by omega, by omega⟩, post _ H B rl (Same.refl _) Keep.refl walks_r⟩
    · cases hc
  · cases hc
/-! ### for -/
def forL (ft : FT) (body : FS) : List D → FS
  | [], e => some (.nx, e)
  | d :: ds, e => match ft d e.sl with
    | none => none
    | some sl => match body ⟨sl, e.pen⟩ with
      | none => none
      | some (.nx, e') => forL ft body ds e'
      | some (.ct, e') => forL ft body ds e'
      | some (.bk, e') => some (.nx, e')
      | some (.rt d, e') => some (.rt d, e')
      | some (.x c ns xs, e') => some (.x c ns xs, e')
def forS (fi : FG (List D)) (ft : FT) (body : FS) : FS := thenS fi fun ds => forL ft body ds
theorem drop_cons {ds : List D} {i : Nat} {d : D} {r : List D} (h : ds.drop i = d :: r) : ds[i]? = some d ∧ ds.drop (i + 1) = r ∧ i < ds.length := by
  have h1 : i < ds.length := by
    rcases Nat.lt_or_ge i ds.length with z | z
    · exact z
    · rw [List.drop_eq_nil_of_le z] at h; cases h
  rw [List.drop_eq_getElem_cons h1] at h
  cases h
  exact ⟨List.getElem?_eq_getElem h1, rfl, h1⟩
theorem cs_for {ti : TI} {g : TG} {tb : TS} {fi : FG (List D)} {ft : FT} {body : FS} (hi : CI G pn E ti fi) (hg : CTg G pn g ft) (hb : CS G pn E tb body) : CS G pn E (tFor ti g tb) (forS fi ft body) := by
  refine CS.of (t := ti) hi fun J ds U e σ H B r e' Dn rl wk hf post => ?_
  refine ⟨fun i m σ' H' => m = ds.length - i ∧ ∃ e1 B1, Rl G U pn e1 σ' H' B1 ∧ Same B B1 ∧ forL ft body (ds.drop i) e1 = some (r, e'), ⟨_, rfl, e, B, rl, Same.refl _, hf⟩, ?_⟩
  rintro i m σ1 H1 ⟨rfl, e1, B1, rl1, s1, h1⟩
  obtain ⟨w1, w2⟩ := wk i U H1 B1 e1 σ1 s1 rl1
  cases hd : ds.drop i with
  | nil =>
    rw [hd] at h1
    cases h1
    have hle : ds.length ≤ i := by
      rcases Nat.lt_or_ge i ds.length with z | z
      · rw [List.drop_eq_getElem_cons z] at hd; cases hd
      · exact z
    exact .inl ⟨w1 hle, post σ1 H1 B1 rl1 s1⟩
  | cons d rest =>
    rw [hd] at h1
    obtain ⟨g1, g2, g3⟩ := drop_cons hd
    obtain ⟨w3, w4⟩ := w2 d g1
    refine .inr ⟨w3, fun σ2 H2 => ∃ e2 B2, Rl G U pn e2 σ2 H2 B2 ∧ Same B B2 ∧ forL ft body (ds.drop (i + 1)) e2 = some (r, e'), fun σ2 H2 q => ⟨ds.length - (i + 1), by omega, rfl, q⟩, fun x H2 hy => ?_⟩
    obtain ⟨B2, s2, _, mv, rz⟩ := w4 x H2 hy
    rw [g2]
    unfold forL at h1
    cases ht : ft d e1.sl with
    | none => rw [ht] at h1; cases h1
    | some sl =>
      rw [ht] at h1
      dsimp only at h1
      have rl2 := mv U e1 σ1 rl1
      refine hg U e1 σ1 H2 B2 x d sl _ rl2 rz ht fun σ3 rl3 => ?_
      cases hbo : body ⟨sl, e1.pen⟩ with
      | none => rw [hbo] at h1; cases h1
      | some rp =>
        obtain ⟨rb, e3⟩ := rp
        rw [hbo] at h1
        have sB := s1.trans s2
        cases rb with
        | nx => exact hb U _ σ3 H2 B2 _ _ _ rl3 hbo fun σ4 H4 B4 rl4 s4 => ⟨e3, B4, rl4, sB.trans s4, h1⟩
        | ct => exact hb U _ σ3 H2 B2 _ _ _ rl3 hbo fun σ4 H4 B4 rl4 s4 => ⟨e3, B4, rl4, sB.trans s4, h1⟩
        | bk => cases h1; exact hb U _ σ3 H2 B2 _ _ _ rl3 hbo (post.up sB)
        | rt v => cases h1; exact hb U _ σ3 H2 B2 _ _ _ rl3 hbo (post.up sB)
        | x c ns xs => cases h1; exact hb U _ σ3 H2 B2 _ _ _ rl3 hbo (post.up sB)
/-! ### while: so many turns at most -/
def whileL (c : FG Bool) (body : FS) : Nat → FS
  | 0, _ => none
  | n + 1, e => match c e with
    | none => none
    | some (.x k ns ds, p) => some (.x k ns ds, ⟨e.sl, p⟩)
    | some (.v false, p) => some (.nx, ⟨e.sl, p⟩)
    | some (.v true, p) => match body ⟨e.sl, p⟩ with
      | none => none
      | some (.nx, e') => whileL c body n e'
      | some (.ct, e') => whileL c body n e'
      | some (.bk, e') => some (.nx, e')
      | some (.rt d, e') => some (.rt d, e')
      | some (.x c ns xs, e') => some (.x c ns xs, e')
theorem cs_while {c : TT} {tb : TS} {fc : FG Bool} {body : FS} (n : Nat) (hc : CT G pn E c fc) (hb : CS G pn E tb body) : CS G pn E (tWhile c tb) (whileL fc body n) := by
  intro U e σ H B r e' Dn rl hf post
  refine ⟨fun m σ' H' => ∃ e1 B1, Rl G U pn e1 σ' H' B1 ∧ Same B B1 ∧ whileL fc body m e1 = some (r, e'), ⟨n, e, B, rl, Same.refl _, hf⟩, ?_⟩
  rintro m σ1 H1 ⟨e1, B1, rl1, s1, h1⟩
  cases m with
  | zero => cases h1
  | succ m =>
    unfold whileL at h1
    cases hce : fc e1 with
    | none => rw [hce] at h1; cases h1
    | some rp =>
      obtain ⟨rc, p⟩ := rp
      rw [hce] at h1
      cases rc with
      | x k ns ds => cases h1; exact hc U e1 σ1 H1 B1 _ _ _ rl1 hce (post.up s1)
      | v b =>
        refine hc U e1 σ1 H1 B1 _ _ _ rl1 hce fun w H2 B2 rl2 s2 _ hw => ?_
        subst hw
        cases w with
        | false =>
          cases h1
          rw [if_neg (by simp)]
          exact post σ1 H2 B2 rl2 (s1.trans s2)
        | true =>
          rw [if_pos rfl]
          refine ⟨fun σ3 H3 => ∃ e3 B3, Rl G U pn e3 σ3 H3 B3 ∧ Same B B3 ∧ whileL fc body m e3 = some (r, e'), fun σ3 H3 q => ⟨m, Nat.lt_succ_self _, q⟩, ?_⟩
          dsimp only at h1
          have sB := s1.trans s2
          cases hbo : body ⟨e1.sl, p⟩ with
          | none => rw [hbo] at h1; cases h1
          | some rp =>
            obtain ⟨rb, e3⟩ := rp
            rw [hbo] at h1
            cases rb with
            | nx => exact hb U _ σ1 H2 B2 _ _ _ rl2 hbo fun σ4 H4 B4 rl4 s4 => ⟨e3, B4, rl4, sB.trans s4, h1⟩
            | ct => exact hb U _ σ1 H2 B2 _ _ _ rl2 hbo fun σ4 H4 B4 rl4 s4 => ⟨e3, B4, rl4, sB.trans s4, h1⟩
            | bk => cases h1; exact hb U _ σ1 H2 B2 _ _ _ rl2 hbo (post.up sB)
            | rt v => cases h1; exact hb U _ σ1 H2 B2 _ _ _ rl2 hbo (post.up sB)
            | x c ns xs => cases h1; exact hb U _ σ1 H2 B2 _ _ _ rl2 hbo (post.up sB)
/-! ### list comprehensions -/
def wipeS (sl : List Slot) : List Nat → List Slot
  | [] => sl
  | v :: vs => (wipeS sl vs).set v .u
theorem Rl.wipe (r : Rl G U pn e σ H B) : ∀ vs : List Nat, Rl G U pn ⟨wipeS e.sl vs, e.pen⟩ (wipe σ vs) H B
  | [] => r
  | v :: vs => (r.wipe vs).setU (w := none) v
/-- a target whose names are the comprehension's own -/
def CTw (G : Gm) (pn : Pn) (vs : List Nat) (g : TG) (f : FT) : Prop := ∀ U e σ0 σ H B v d sl' (Q : L2.St → Hp → Prop), Rl G U pn e σ H B → Rz G B v d → f d e.sl = some sl' → L2.wipe σ vs = L2.wipe σ0 vs →
  (∀ σ', L2.wipe σ' vs = L2.wipe σ0 vs → Rl G U pn ⟨sl', e.pen⟩ σ' H B → Q σ' H) → g v σ H Q
def CTws (G : Gm) (pn : Pn) (vs : List Nat) (g : TGs) (f : FTs) : Prop := ∀ U e σ0 σ H B ws ds sl' (Q : L2.St → Hp → Prop), Rl G U pn e σ H B → RzA G B ws ds → f ds e.sl = some sl' → L2.wipe σ vs = L2.wipe σ0 vs →
  (∀ σ', L2.wipe σ' vs = L2.wipe σ0 vs → Rl G U pn ⟨sl', e.pen⟩ σ' H B → Q σ' H) → g ws σ H Q
theorem wipe_set {σ : L2.St} {x : Option V} {i : Nat} : ∀ {vs : List Nat}, i ∈ vs → wipe (σ.set i x) vs = wipe σ vs
  | v :: vs, h => by
    unfold wipe
    by_cases z : i ∈ vs
    · rw [wipe_set z]
    · have e : v = i := ((List.mem_cons.mp h).resolve_right z).symm
      subst e
      clear h
      have : ∀ {ws : List Nat}, v ∉ ws → wipe (σ.set v x) ws = (wipe σ ws).set v x := by
        intro ws hw
        induction ws with
        | nil => rfl
        | cons w ws ih =>
          unfold wipe
          rw [ih fun q => hw (.tail _ q), List.set_comm _ _ (fun e => hw (by first | (rw [e]; exact .head _) | (rw [← e]; exact .head _)))]
      rw [this z, List.set_set]
theorem wipe_wipe {σ : L2.St} : ∀ (vs : List Nat), wipe (wipe σ vs) vs = wipe σ vs := fun vs => by
  have h : ∀ (us : List Nat), (∀ u ∈ us, u ∈ vs) → wipe (wipe σ us) vs = wipe σ vs := by
    intro us
    induction us with
    | nil => intro _; rfl
    | cons u us ih =>
      intro hs
      show wipe ((wipe σ us).set u none) vs = _
      rw [wipe_set (hs u (.head _))]
      exact ih fun w hw => hs w (.tail _ hw)
  exact h vs fun _ q => q
theorem wipeS_set {σ : List Slot} {x : Slot} {i : Nat} : ∀ {vs : List Nat}, i ∈ vs → wipeS (σ.set i x) vs = wipeS σ vs
  | v :: vs, h => by
    unfold wipeS
    by_cases z : i ∈ vs
    · rw [wipeS_set z]
    · have e : v = i := ((List.mem_cons.mp h).resolve_right z).symm
      subst e
      clear h
      have : ∀ {ws : List Nat}, v ∉ ws → wipeS (σ.set v x) ws = (wipeS σ ws).set v x := by
        intro ws hw
        induction ws with
        | nil => rfl
        | cons w ws ih =>
          unfold wipeS
          rw [ih fun q => hw (.tail _ q), List.set_comm _ _ (fun e => hw (by first | (rw [e]; exact .head _) | (rw [← e]; exact .head _)))]
      rw [this z, List.set_set]
theorem wipeS_wipe {σ : List Slot} : ∀ (vs : List Nat), wipeS (wipeS σ vs) vs = wipeS σ vs := fun vs => by
  have h : ∀ (us : List Nat), (∀ u ∈ us, u ∈ vs) → wipeS (wipeS σ us) vs = wipeS σ vs := by
    intro us
    induction us with
    | nil => intro _; rfl
    | cons u us ih =>
      intro hs
      show wipeS ((wipeS σ us).set u .u) vs = _
      rw [wipeS_set (hs u (.head _))]
      exact ih fun w hw => hs w (.tail _ hw)
  exact h vs fun _ q => q
/-- a target that stores to own names alone -/
def FTw (vs : List Nat) (f : FT) : Prop := ∀ d sl sl', f d sl = some sl' → wipeS sl' vs = wipeS sl vs
def FTws (vs : List Nat) (f : FTs) : Prop := ∀ d sl sl', f d sl = some sl' → wipeS sl' vs = wipeS sl vs
theorem fw_name {vs : List Nat} (i : Nat) (h : i ∈ vs) : FTw vs (nameT i) := by
  intro d sl sl' e
  cases e
  exact wipeS_set h
theorem fw_nil {vs : List Nat} : FTws vs nilT := by
  intro d sl sl' e
  unfold nilT at e
  split at e
  · cases e; rfl
  · cases e
theorem fw_cons {vs : List Nat} {f : FT} {g : FTs} (h1 : FTw vs f) (h2 : FTws vs g) : FTws vs (consT f g) := by
  intro d sl sl' e
  unfold consT at e
  split at e
  · cases e
  · obtain ⟨sl1, e1, e2⟩ := Option.bind_eq_some_iff.mp e
    exact (h2 _ _ _ e2).trans (h1 _ _ _ e1)
theorem fw_tup {vs : List Nat} {n : Nat} {f : FTs} (h1 : FTws vs f) : FTw vs (tupT n f) := by
  intro d sl sl' e
  unfold tupT at e
  split at e
  · split at e
    · exact h1 _ _ _ e
    · cases e
  · cases e
theorem tw_name {vs : List Nat} (i : Nat) (h : i ∈ vs) : CTw G pn vs (gName i) (nameT i) := by
  intro U e σ0 σ H B v d sl' Q rl rz hf hw q
  cases hf
  exact q _ ((wipe_set h).trans hw) (rl.setD rz i)
theorem tw_nil {vs : List Nat} : CTws G pn vs gNil nilT := by
  intro U e σ0 σ H B ws ds sl' Q rl rz hf hw q
  unfold nilT at hf
  split at hf
  · cases hf; cases rz; exact ⟨rfl, q σ hw rl⟩
  · cases hf
theorem tw_cons {vs : List Nat} {t : TG} {u : TGs} {f : FT} {g : FTs} (h1 : CTw G pn vs t f) (h2 : CTws G pn vs u g) : CTws G pn vs (gCons t u) (consT f g) := by
  intro U e σ0 σ H B ws ds sl' Q rl rz hf hw q
  unfold consT at hf
  cases rz with
  | nil => cases hf
  | cons r1 r2 =>
    obtain ⟨sl1, e1, e2⟩ := Option.bind_eq_some_iff.mp hf
    exact ⟨_, _, rfl, h1 U e σ0 σ H B _ _ sl1 _ rl r1 e1 hw fun σ' hw' rl' => h2 U ⟨sl1, e.pen⟩ σ0 σ' H B _ _ sl' Q rl' r2 e2 hw' q⟩
theorem tw_tup {vs : List Nat} {n : Nat} {t : TGs} {f : FTs} (h1 : CTws G pn vs t f) : CTw G pn vs (gTup G.K n t) (tupT n f) := by
  intro U e σ0 σ H B v d sl' Q rl rz hf hw q
  unfold tupT at hf
  split at hf
  · next ds =>
    split at hf
    · next hn =>
      obtain ⟨a, xs, rfl, hx, hr⟩ := rz.tup_inv
      exact ⟨a, xs, rfl, same_t rl.b.bh hx, by rw [hr.length, hn], h1 U e σ0 σ H B xs ds sl' Q rl hr hf hw q⟩
    · cases hf
  · cases hf
def lcL (slw : List Slot) (ft : FT) (test : FG Bool) (elt : FG D) : List D → PenS → Option (List D × PenS)
  | [], p => some ([], p)
  | d :: ds, p => match ft d slw with
    | none => none
    | some sl => match test ⟨sl, p⟩ with
      | some (.v true, p1) => match elt ⟨sl, p1⟩ with
        | some (.v x, p2) => (lcL slw ft test elt ds p2).map fun r => (x :: r.1, r.2)
        | _ => none
      | some (.v false, p1) => lcL slw ft test elt ds p1
      | _ => none
theorem Rl.addU (r : Rl G U pn e σ H B) {p : Addr} {o : HO} (h : H p = none) : Rl G (upd U p o) pn e σ (upd H p o) B := by
  obtain ⟨⟨bh, uh, bu, pe⟩, os, s, n, f⟩ := r
  have hB : B p = none := bh.free h
  refine ⟨⟨bh.trans (same_upd h), fun a x hx => ?_, fun a x hx => ?_, fun q hq => ?_⟩, os, s.grow (Same.refl _) (fun q hq => ?_), n, fun q hq => ?_⟩
  · by_cases z : a = p
    · rw [z, upd_same] at hx ⊢; exact hx
    · rw [upd_ne z] at hx ⊢; exact uh a x hx
  · rw [upd_ne (ne_of_none hx hB)]; exact bu a x hx
  · obtain ⟨h1, h2, h3, h4⟩ := pe q hq
    have nq : q.1 ≠ p := fun z => by rw [← z, h3] at h; cases h
    exact ⟨h1, (upd_ne nq).trans h2, (upd_ne nq).trans h3, h4⟩
  · exact upd_ne fun z => (s.notin h) (z ▸ hq)
  · obtain ⟨h1, h2, h3⟩ := f q hq
    have nq : q ≠ p := fun z => (s.notin h) (z ▸ hq)
    exact ⟨h1, (upd_ne nq).trans h2, h3⟩
theorem Rl.swapU {p : Addr} {o o' : HO} (r : Rl G (upd U p o) pn e σ H B) : Rl G (upd U p o') pn e σ (upd H p o') B ∧ H p = some o ∧ B p = none ∧ NP pn p := by
  obtain ⟨⟨bh, uh, bu, pe⟩, os, s, n, f⟩ := r
  have hp : H p = some o := uh p o upd_same
  have hB : B p = none := by
    cases h : B p with
    | none => rfl
    | some x => have := bu p x h; rw [upd_same] at this; cases this
  have np : NP pn p := fun q hq z => by
    have := (pe q hq).2.1
    rw [← z, upd_same] at this
    cases this
  have no : p ∉ os := fun z => by
    have := (f p z).2.1
    rw [upd_same] at this
    cases this
  refine ⟨⟨⟨fun a x hx => ?_, fun a x hx => ?_, fun a x hx => ?_, fun q hq => ?_⟩, os, s.grow (Same.refl _) (fun q hq => ?_), n, fun q hq => ?_⟩, hp, hB, np⟩
  · rw [upd_ne (ne_of_none hx hB)]; exact bh a x hx
  · by_cases z : a = p
    · rw [z, upd_same] at hx ⊢; exact hx
    · rw [upd_ne z] at hx ⊢
      have := uh a x
      rw [upd_ne z] at this
      exact this hx
  · have := bu a x hx
    rw [upd_ne (ne_of_none hx hB)] at this ⊢
    exact this
  · obtain ⟨h1, h2, h3, h4⟩ := pe q hq
    have nq : q.1 ≠ p := fun z => np q hq z.symm
    rw [upd_ne nq] at h2
    exact ⟨h1, (upd_ne nq).trans h2, (upd_ne nq).trans h3, h4⟩
  · exact upd_ne fun z => no (z ▸ hq)
  · obtain ⟨h1, h2, h3⟩ := f q hq
    have nq : q ≠ p := fun z => no (z ▸ hq)
    rw [upd_ne nq] at h2
    exact ⟨h1, (upd_ne nq).trans h2, h3⟩
/-- which objects one owns -/
def isO : Option Slot → Bool
  | some (.o _) => true
  | _ => false
def ownA1 (x : Option V) (y : Slot) (r : List Addr) : List Addr := match x, y with
  | some (.ref p), .o _ => p :: r
  | _, _ => r
def ownA : L2.St → List Slot → List Addr
  | [], _ => []
  | _ :: _, [] => []
  | x :: σ, y :: ρ => ownA1 x y (ownA σ ρ)
theorem ownA_nil : ∀ (σ : L2.St), ownA σ [] = []
  | [] => rfl
  | _ :: _ => rfl
theorem ownA1_no {x : Option V} {y : Slot} {r : List Addr} (h : isO (some y) = false) : ownA1 x y r = r := by
  cases y with
  | o d => cases h
  | u => cases x with | none => rfl | some v => cases v <;> rfl
  | d d => cases x with | none => rfl | some v => cases v <;> rfl
  | p => cases x with | none => rfl | some v => cases v <;> rfl
theorem Slots.own : ∀ {σ : L2.St} {ρ : List Slot} {os : List Addr}, Slots G pn B H σ ρ os → os = ownA σ ρ
  | _, _, _, .nil => rfl
  | _, _, _, .u t => t.own.trans (ownA1_no rfl).symm
  | _, _, _, .d _ t => t.own.trans (ownA1_no rfl).symm
  | _, _, _, .o _ t => congrArg _ t.own
  | _, _, _, .p _ t => t.own.trans (ownA1_no rfl).symm
theorem ownA_set : ∀ (σ : L2.St) (ρ : List Slot) (i : Nat), isO ρ[i]? = false → ownA (σ.set i none) (ρ.set i .u) = ownA σ ρ
  | [], _, _, _ => by rfl
  | x :: σ, [], i, _ => by rw [List.set_nil, ownA_nil, ownA_nil]
  | x :: σ, y :: ρ, 0, h => (ownA1_no (x := none) (y := .u) (r := ownA σ ρ) rfl).trans (ownA1_no (x := x) (r := ownA σ ρ) h).symm
  | x :: σ, y :: ρ, i + 1, h => congrArg (ownA1 x y) (ownA_set σ ρ i (by simpa using h))
theorem wipeS_get {sl : List Slot} {i : Nat} : ∀ (vs : List Nat), isO sl[i]? = false → isO (wipeS sl vs)[i]? = false
  | [], h => h
  | v :: vs, h => by
    unfold wipeS
    by_cases z : v = i
    · subst z
      by_cases l : v < (wipeS sl vs).length
      · rw [List.getElem?_set_self l]; rfl
      · rw [List.getElem?_eq_none (by rw [List.length_set]; omega)]; rfl
    · rw [List.getElem?_set_ne z]
      exact wipeS_get vs h
theorem ownA_wipe {σ : L2.St} {sl : List Slot} : ∀ {vs : List Nat}, (∀ v ∈ vs, isO sl[v]? = false) → ownA (wipe σ vs) (wipeS sl vs) = ownA σ sl
  | [], _ => rfl
  | v :: vs, h => by
    show ownA ((wipe σ vs).set v none) ((wipeS sl vs).set v .u) = _
    rw [ownA_set _ _ _ (wipeS_get vs (h v (.head _))), ownA_wipe fun w hw => h w (.tail _ hw)]
/-- back in the def's own slots -/
theorem Rl.back {q1 : PenS} {p : Addr} {xs : List V} {ds : List D} {vs : List Nat} (r0 : Rl G U pn e σ H B) (h0 : H p = none) (hv : ∀ v ∈ vs, isO e.sl[v]? = false) (r1 : Rl G (upd U p (.lst xs)) pn ⟨wipeS e.sl vs, q1⟩ (L2.wipe σ vs) H1 B1) (s : Same B B1) (k : Keep pn H H1) (hr : RzA G B1 xs ds) :
    Fresh G U pn ⟨e.sl, q1⟩ σ H1 B1 p (.list ds) := by
  obtain ⟨_, hp, hB, np⟩ := r1.swapU (o' := .lst xs)
  obtain ⟨⟨bh, uh, bu, pe⟩, os1, s1, _, f1⟩ := r1
  obtain ⟨b0, os, s0, n, f⟩ := r0
  have hU : U p = none := b0.uh.free h0
  have eo : os1 = os := by rw [s1.own, ownA_wipe hv, s0.own]
  subst eo
  refine ⟨⟨bh, fun a x hx => ?_, fun a x hx => ?_, fun q hq => ?_⟩, ⟨os1, s0.grow s (fun q hq => ?_), n, fun q hq => ?_, s0.notin h0⟩, .lst hp hr, hB, hU, np⟩
  · exact uh a x ((upd_ne (ne_of_none hx hU)).trans hx)
  · have := bu a x hx
    by_cases z : a = p
    · rw [z]; exact hU
    · rw [upd_ne z] at this; exact this
  · obtain ⟨h1, h2, h3, h4⟩ := pe q hq
    have nq : q.1 ≠ p := fun z => np q hq z.symm
    rw [upd_ne nq] at h2
    exact ⟨h1, h2, h3, h4⟩
  · obtain ⟨o, ho⟩ := s0.there hq
    rw [ho]
    exact k q o ho (f q hq).2.2
  · exact ⟨(f1 q hq).1, (f q hq).2⟩
def lcG (vs : List Nat) (fi : FG (List D)) (ft : FT) (test : FG Bool) (elt : FG D) : FG D := bindG fi fun ds e =>
  if vs.any (fun v => isO e.sl[v]?) = true then none else
  match lcL (wipeS e.sl vs) ft test elt ds e.pen with
  | none => none
  | some (xs, p) => if xs.length ≤ 1000000 then some (.v (.list xs), p) else none
theorem lcL_inv {slw : List Slot} {ft : FT} {test : FG Bool} {elt : FG D} {d : D} {ds xs : List D} {p q : PenS} (h : lcL slw ft test elt (d :: ds) p = some (xs, q)) :
    ∃ sl, ft d slw = some sl ∧ ((∃ p1 x p2 ys, test ⟨sl, p⟩ = some (.v true, p1) ∧ elt ⟨sl, p1⟩ = some (.v x, p2) ∧ lcL slw ft test elt ds p2 = some (ys, q) ∧ xs = x :: ys) ∨
      ∃ p1, test ⟨sl, p⟩ = some (.v false, p1) ∧ lcL slw ft test elt ds p1 = some (xs, q)) := by
  unfold lcL at h
  split at h
  · cases h
  · next sl hs =>
    refine ⟨sl, hs, ?_⟩
    split at h
    · next p1 ht =>
      split at h
      · next x p2 hx =>
        obtain ⟨⟨ys, q'⟩, h1, h2⟩ := Option.map_eq_some_iff.mp h
        cases h2
        exact .inl ⟨p1, x, p2, ys, ht, hx, h1, rfl⟩
      · cases h
    · next p1 ht => exact .inr ⟨p1, ht, h⟩
    · cases h
theorem cf_lc {vs : List Nat} {ti : TI} {g : TG} {tt : TT} {te : TE} {fi : FG (List D)} {ft : FT} {test : FG Bool} {elt : FG D} (hi : CI G pn E ti fi) (hg : CTw G pn vs g ft) (hf' : FTw vs ft) (ht : CT G pn E tt test) (he : CE G pn E te elt) :
    CF G pn E (tLc ti g tt te vs) (lcG vs fi ft test elt) := by
  refine CF.bind (t := ti) hi fun J ds U e σ H B r p' Q rl wk hf post => ?_
  intro D hD
  split at hf
  · cases hf
  next hv =>
  simp only [Bool.not_eq_true, Bool.not_eq_false', List.any_eq_false] at hv
  split at hf
  · cases hf
  next xs p hx =>
  split at hf
  · next hl =>
    cases hf
    have hv' : ∀ v ∈ vs, isO e.sl[v]? = false := fun v m => by simpa using hv v m
    have rl0 := (rl.addU (o := .lst []) hD).wipe vs
    refine ⟨fun i m H' => m = ds.length - i ∧ ∃ q1 B1 acc ws rest, Rl G (upd U D (.lst ws)) pn ⟨wipeS e.sl vs, q1⟩ (wipe σ vs) H' B1 ∧ Same B B1 ∧ Keep pn H H' ∧ RzA G B1 ws acc ∧ lcL (wipeS e.sl vs) ft test elt (ds.drop i) q1 = some (rest, p') ∧ acc ++ rest = xs,
      ⟨_, rfl, e.pen, B, [], [], xs, rl0, Same.refl _, Keep.of (same_upd hD), .nil, hx, rfl⟩, ?_⟩
    rintro i m H1 ⟨rfl, q1, B1, acc, ws, rest, rl1, s1, k1, rz1, h1, hxs⟩
    obtain ⟨w1, w2⟩ := wk i _ H1 B1 _ _ s1 rl1
    cases hd : ds.drop i with
    | nil =>
      rw [hd] at h1
      cases h1
      have hle : ds.length ≤ i := by
        rcases Nat.lt_or_ge i ds.length with z | z
        · rw [List.drop_eq_getElem_cons z] at hd; cases hd
        · exact z
      rw [List.append_nil] at hxs
      subst hxs
      exact .inl ⟨w1 hle, post D H1 B1 (rl.back hD hv' rl1 s1 k1 rz1) s1 k1⟩
    | cons d more =>
      rw [hd] at h1
      obtain ⟨g1, g2, g3⟩ := drop_cons hd
      obtain ⟨w3, w4⟩ := w2 d g1
      refine .inr ⟨w3, fun H' => ∃ q1 B1 acc ws rest, Rl G (upd U D (.lst ws)) pn ⟨wipeS e.sl vs, q1⟩ (wipe σ vs) H' B1 ∧ Same B B1 ∧ Keep pn H H' ∧ RzA G B1 ws acc ∧ lcL (wipeS e.sl vs) ft test elt (ds.drop (i + 1)) q1 = some (rest, p') ∧ acc ++ rest = xs,
        fun H' q => ⟨ds.length - (i + 1), by omega, rfl, q⟩, fun x H2 hy => ?_⟩
      obtain ⟨B2, s2, sh, mv, rz⟩ := w4 x H2 hy
      rw [g2]
      obtain ⟨sl, hs, hcase⟩ := lcL_inv h1
      have rl2 := mv _ _ _ rl1
      have k2 : Keep pn H H2 := k1.trans (.of sh)
      have s12 := s1.trans s2
      refine hg _ _ σ (wipe σ vs) H2 B2 x d sl _ rl2 rz hs (wipe_wipe vs) fun σ3 hw rl3 => ⟨hw, ?_⟩
      have hw' : wipe σ3 vs = wipe σ vs := hw
      rcases hcase with ⟨p1, y, p2, ys, h2, h3, h4, rfl⟩ | ⟨p1, h2, h4⟩
      · refine ht _ _ σ3 H2 B2 _ _ _ rl3 h2 fun b H3 B3 rl4 s3 k3 hb => ?_
        subst hb
        rw [if_pos rfl]
        refine he _ _ σ3 H3 B3 _ _ _ rl4 h3 fun v H4 B4 rl5 s4 k4 rv => ?_
        obtain ⟨rl6, hp, hB4, np⟩ := rl5.swapU (o' := .lst (ws ++ [v]))
        have sall := s12.trans (s3.trans s4)
        have r4 : RzA G B4 (ws ++ [v]) (acc ++ [y]) := (rz1.same (s2.trans (s3.trans s4))).app (.cons rv .nil)
        have hlen : ws.length < sizeLine := by
          rw [rz1.length]
          have : acc.length ≤ xs.length := by rw [← hxs, List.length_append]; omega
          exact line_lt (by omega)
        refine ⟨ws, hp, hlen, p2, B4, acc ++ [y], ws ++ [v], ys, ?_, sall, ?_, r4, h4, by rw [← hxs]; simp⟩
        · have z := rl6.wipe vs
          rw [hw'] at z
          have e2 : wipeS sl vs = wipeS e.sl vs := (hf' _ _ _ hs).trans (wipeS_wipe vs)
          simp only [e2] at z
          exact z
        · intro a o ha hn
          have hne : a ≠ D := fun z => by rw [z, hD] at ha; cases ha
          rw [upd_ne hne]
          exact (k2.trans (k3.trans k4)) a o ha hn
      · refine ht _ _ σ3 H2 B2 _ _ _ rl3 h2 fun b H3 B3 rl4 s3 k3 hb => ?_
        subst hb
        rw [if_neg (by simp)]
        refine ⟨p1, B3, acc, ws, rest, ?_, s12.trans s3, k2.trans k3, rz1.same (s2.trans s3), h4, hxs⟩
        have z := rl4.wipe vs
        rw [hw'] at z
        have e2 : wipeS sl vs = wipeS e.sl vs := (hf' _ _ _ hs).trans (wipeS_wipe vs)
        simp only [e2] at z
        exact z
  · cases hf
end
end Fw

set_option linter.all false
set_option maxRecDepth 100000
set_option maxHeartbeats 4000000
namespace Fw
open PySem PySem.Spec PyProof.Rows L2
/-! ### defs: what they tell of data -/
abbrev FF := List D → PenS → Option (Rs D × PenS)
def pen0 : PenS := ⟨[], 0, 0, 0, 0⟩
def penV : Pn → List V
  | none => []
  | some q => [.ref q.1]
def isPen (pn : Pn) (a : Addr) : Bool := match pn with
  | none => false
  | some q => a == q.1
theorem isPen_no {pn : Pn} {a : Addr} (h : NP pn a) : isPen pn a = false := by
  cases pn with
  | none => rfl
  | some q => exact beq_eq_false_iff_ne.mpr (h q rfl)
theorem isPen_of {pn : Pn} {a : Addr} (h : isPen pn a = false) : NP pn a := fun q hq => by
  subst hq
  exact beq_eq_false_iff_ne.mp h
/-- all else, for a callee -/
def outU (pn : Pn) (B H : Hp) : Hp := fun a => match B a with
  | some _ => none
  | none => if isPen pn a = true then none else H a
theorem outU_of {pn : Pn} {B H : Hp} {a : Addr} {o : HO} (h : H a = some o) (hb : B a = none) (hn : NP pn a) : outU pn B H a = some o := by
  unfold outU
  rw [hb]
  show (if isPen pn a = true then none else H a) = _
  rw [isPen_no hn, if_neg (by simp), h]
theorem outU_in {pn : Pn} {B H : Hp} {a : Addr} {o : HO} (h : outU pn B H a = some o) : B a = none ∧ NP pn a ∧ H a = some o := by
  unfold outU at h
  split at h
  · cases h
  · next hb =>
    split at h
    · cases h
    · next hp => exact ⟨hb, isPen_of (by simpa using hp), h⟩
def PostR (G : Gm) (U : Hp) (pn : Pn) (B : Hp) (p' : PenS) (Q : VK) (E : XK) : Rs D → Prop
  | .v d => ∀ v H' B', Base U pn p' H' B' → Same B B' → Rz G B' v d → Q v H'
  | .x c ns ds => ∀ cls ao H' B', Base U pn p' H' B' → Same B B' → XAt G B' H' cls ao c ns ds → E cls ao H'
/-- a def that raises nothing -/
def spN (G : Gm) (pen : Bool) (n : Nat) (F : FF) : Sp := fun vs H Q _ => ∃ (pn : Pn) (U B : Hp) (ws : List V) (ds : List D) (p p' : PenS) (d : D),
  vs = penV pn ++ ws ∧ pn.isSome = pen ∧ ds.length = n ∧ Base U pn p H B ∧ RzA G B ws ds ∧ F ds p = some (.v d, p') ∧ ∀ v H' B', Base U pn p' H' B' → Same B B' → Rz G B' v d → Q v H'
/-- a def that may raise -/
def spX (G : Gm) (pen : Bool) (n : Nat) (F : FF) : Sp := fun vs H Q E => ∃ (pn : Pn) (U B : Hp) (ws : List V) (ds : List D) (p p' : PenS) (r : Rs D),
  vs = penV pn ++ ws ∧ pn.isSome = pen ∧ ds.length = n ∧ Base U pn p H B ∧ RzA G B ws ds ∧ F ds p = some (r, p') ∧ PostR G U pn B p' Q E r
section
variable {α β : Type} {G : Gm} {U : Hp} {pn : Pn} {E : XK} {e : Ev} {σ : L2.St} {H B H' B' H1 B1 : Hp}
theorem Rl.there (r : Rl G U pn e σ H B) {os : List Addr} (s : Slots G pn B H σ e.sl os) {q : Addr} (h : q ∈ os) : ∃ o, H q = some o := s.there h
/-- ahead of a call -/
theorem Rl.call0 (r : Rl G U pn e σ H B) : Base (outU none B H) none pen0 H B :=
  ⟨r.b.bh, fun a o h => (outU_in h).2.2, fun a o h => by unfold outU; rw [h], fun q hq => by cases hq⟩
theorem Rl.call1 (r : Rl G U pn e σ H B) : Base (outU pn B H) pn e.pen H B :=
  ⟨r.b.bh, fun a o h => (outU_in h).2.2, fun a o h => by unfold outU; rw [h], fun q hq => by
    obtain ⟨h1, h2, h3, h4⟩ := r.b.pen q hq
    refine ⟨h1, ?_, h3, h4⟩
    cases h : outU pn B H q.1 with
    | none => rfl
    | some o => exact absurd rfl ((outU_in h).2.1 q hq)⟩
theorem Rl.uh1 (r : Rl G U pn e σ H B) {a : Addr} {o : HO} (h : U a = some o) : B a = none ∧ NP pn a ∧ H a = some o := by
  refine ⟨?_, fun q hq z => ?_, r.b.uh a o h⟩
  · cases hb : B a with
    | none => rfl
    | some x => have := r.b.bu a x hb; rw [h] at this; cases this
  · have := (r.b.pen q hq).2.1
    rw [← z, h] at this
    cases this
/-- behind a call -/
theorem Rl.after0 (r : Rl G U pn e σ H B) {q : PenS} (b : Base (outU none B H) none q H' B') (s : Same B B') : Rl G U pn e σ H' B' ∧ Keep pn H H' := by
  have r' := r
  obtain ⟨⟨bh, uh, bu, pe⟩, os, ss, n, f⟩ := r
  have np : ∀ a, NP none a := fun a q hq => by cases hq
  have out : ∀ {a : Addr} {o : HO}, H a = some o → B a = none → H' a = some o ∧ B' a = none := fun {a o} h hb => by
    have hu := outU_of h hb (np a)
    refine ⟨b.uh a o hu, ?_⟩
    cases hb' : B' a with
    | none => rfl
    | some x => have := b.bu a x hb'; rw [hu] at this; cases this
  refine ⟨⟨⟨b.bh, fun a o h => ?_, fun a o h => ?_, fun q hq => ?_⟩, os, ss.grow s (fun q hq => ?_), n, fun q hq => ?_⟩, fun a o h hn => ?_⟩
  · obtain ⟨h1, h2, h3⟩ := r'.uh1 h
    exact (out h3 h1).1
  · cases hu : U a with
    | none => rfl
    | some x =>
      obtain ⟨h1, h2, h3⟩ := r'.uh1 hu
      have := (out h3 h1).2
      rw [h] at this
      cases this
  · obtain ⟨h1, h2, h3, h4⟩ := pe q hq
    exact ⟨(out h3 h1).2, h2, (out h3 h1).1, s _ _ h4⟩
  · obtain ⟨o, ho⟩ := ss.there hq
    rw [ho]
    exact (out ho (f q hq).1).1
  · obtain ⟨o, ho⟩ := ss.there hq
    exact ⟨(out ho (f q hq).1).2, (f q hq).2⟩
  · cases hb : B a with
    | none => exact (out h hb).1
    | some x =>
      have := bh a x hb
      rw [h] at this
      cases this
      exact b.bh a o (s a o hb)
theorem Rl.after1 (r : Rl G U pn e σ H B) {q : PenS} (b : Base (outU pn B H) pn q H' B') (s : Same B B') : Rl G U pn ⟨e.sl, q⟩ σ H' B' ∧ Keep pn H H' := by
  have r' := r
  obtain ⟨⟨bh, uh, bu, pe⟩, os, ss, n, f⟩ := r
  have out : ∀ {a : Addr} {o : HO}, H a = some o → B a = none → NP pn a → H' a = some o ∧ B' a = none := fun {a o} h hb np => by
    have hu := outU_of h hb np
    refine ⟨b.uh a o hu, ?_⟩
    cases hb' : B' a with
    | none => rfl
    | some x => have := b.bu a x hb'; rw [hu] at this; cases this
  refine ⟨⟨⟨b.bh, fun a o h => ?_, fun a o h => ?_, fun q hq => ?_⟩, os, ss.grow s (fun q hq => ?_), n, fun q hq => ?_⟩, fun a o h hn => ?_⟩
  · obtain ⟨h1, h2, h3⟩ := r'.uh1 h
    exact (out h3 h1 h2).1
  · cases hu : U a with
    | none => rfl
    | some x =>
      obtain ⟨h1, h2, h3⟩ := r'.uh1 hu
      have := (out h3 h1 h2).2
      rw [h] at this
      cases this
  · obtain ⟨h1, h2, h3, h4⟩ := b.pen q hq
    exact ⟨h1, (pe q hq).2.1, h3, h4⟩
  · obtain ⟨o, ho⟩ := ss.there hq
    rw [ho]
    exact (out ho (f q hq).1 (f q hq).2.2).1
  · obtain ⟨o, ho⟩ := ss.there hq
    exact ⟨(out ho (f q hq).1 (f q hq).2.2).2, (f q hq).2⟩
  · cases hb : B a with
    | none => exact (out h hb hn).1
    | some x =>
      have := bh a x hb
      rw [h] at this
      cases this
      exact b.bh a o (s a o hb)
/-- f(..), f raises nothing -/
def callN (n : Nat) (F : FF) (f : FG (List D)) : FG D := bindG f fun ds e => if ds.length = n then (match F ds pen0 with
  | some (.v d, _) => some (.v d, e.pen)
  | _ => none) else none
theorem ce_callN {n : Nat} {F : FF} {f : FG (List D)} {t : TA} {E' : XK} (h : CA G pn E t f) : CE G pn E (tCall (spN G false n F) [] E' t) (callN n F f) := by
  refine CG.bind (t := t) h fun ws ds U e σ H B r p' Q rl ra hf post => ?_
  split at hf
  · next hn =>
    split at hf
    · next d q hF =>
      cases hf
      refine ⟨none, outU none B H, B, ws, ds, pen0, q, d, by rw [List.append_nil]; rfl, rfl, hn, rl.call0, ra, hF, fun v H' B' b s rz => ?_⟩
      obtain ⟨rl', k⟩ := rl.after0 b s
      exact post v H' B' rl' s k rz
    · cases hf
  · cases hf
def isP (e : Ev) (i : Nat) : Bool := match e.sl[i]? with
  | some .p => true
  | _ => false
theorem isP_eq {i : Nat} (h : isP e i = true) : e.sl[i]? = some .p := by
  unfold isP at h
  split at h
  · next h' => exact h'
  · cases h
/-- f(pen, ..) -/
def callP (n i : Nat) (F : FF) (f : FG (List D)) : FG D := fun e => if isP e i = true then bindG f (fun ds e => if ds.length = n then (match F ds e.pen with
  | some (.v d, p) => some (.v d, p)
  | _ => none) else none) e else none
theorem ce_callP {n i : Nat} {F : FF} {f : FG (List D)} {t : TA} {E' : XK} (h : CA G pn E t f) : CE G pn E (tCall (spN G true n F) [] E' (tCons (tVar i) t)) (callP n i F f) := by
  intro U e σ H B r p' Q rl hf post
  unfold callP at hf
  split at hf
  · next hi =>
    obtain ⟨os, ss, _, _⟩ := rl.s
    obtain ⟨a, c, hs, hp⟩ := ss.getP (isP_eq hi)
    refine ⟨_, hs, ?_⟩
    rcases bind_inv hf with ⟨c', ns, ds, hx, rfl⟩ | ⟨ds, q, hx, hg⟩
    · exact h U e σ H B _ _ _ rl hx post
    · refine h U e σ H B _ _ _ rl hx fun ws H1 B1 rl1 s1 k1 ra => ?_
      split at hg
      · next hn =>
        split at hg
        · next d q' hF =>
          cases hg
          refine ⟨pn, outU pn B1 H1, B1, ws, ds, q, _, d, by rw [List.append_nil, hp]; rfl, by rw [hp]; rfl, hn, rl1.call1, ra, hF, fun v H' B' b s rz => ?_⟩
          obtain ⟨rl', k⟩ := rl1.after1 b s
          exact post v H' B' rl' (s1.trans s) (k1.trans k) rz
        · cases hg
      · cases hg
  · cases hf
/-- a call that may raise -/
def callX (n : Nat) (F : FF) (f : FG (List D)) : FG D := bindG f fun ds e => if ds.length = n then (match F ds pen0 with
  | some (r, _) => some (r, e.pen)
  | none => none) else none
theorem Rl.base' (r : Rl G U pn e σ H B) : Base U pn e.pen H B := r.b
theorem ce_callX {n : Nat} {F : FF} {f : FG (List D)} {t : TA} (h : CA G pn E t f) : CE G pn E (tCall (spX G false n F) [] E t) (callX n F f) := by
  refine CG.bind (t := t) h fun ws ds U e σ H B r p' Q rl ra hf post => ?_
  split at hf
  · next hn =>
    split at hf
    · next r q hF =>
      cases hf
      refine ⟨none, outU none B H, B, ws, ds, pen0, q, r, by rw [List.append_nil]; rfl, rfl, hn, rl.call0, ra, hF, ?_⟩
      cases r with
      | v d =>
        intro v H' B' b s rz
        obtain ⟨rl', k⟩ := rl.after0 b s
        exact post v H' B' rl' s k rz
      | x c ns es =>
        intro cls ao H' B' b s x
        obtain ⟨rl', k⟩ := rl.after0 b s
        exact post cls ao H' B' rl'.b s x
    · cases hf
  · cases hf
/-! ### from a body to its def -/
def ofFl : Option (Fl × Ev) → Option (Rs D × PenS)
  | some (.rt d, e) => some (.v d, e.pen)
  | some (.nx, e) => some (.v .none, e.pen)
  | some (.x c ns ds, e) => some (.x c ns ds, e.pen)
  | _ => none
def slots0 (pen : Bool) (N : Nat) (ds : List D) : List Slot := (if pen = true then [Slot.p] else []) ++ (ds.map Slot.d ++ List.replicate (N - ((if pen = true then 1 else 0) + ds.length)) .u)
def defF (pen : Bool) (N : Nat) (f : FS) : FF := fun ds p => ofFl (f ⟨slots0 pen N ds, p⟩)
theorem Slots.us : ∀ (n : Nat), Slots G pn B H (List.replicate n none) (List.replicate n .u) []
  | 0 => .nil
  | n + 1 => .u (Slots.us n)
theorem Slots.ds {σ : L2.St} {ρ : List Slot} {os : List Addr} (t : Slots G pn B H σ ρ os) : ∀ {vs : List V} {ds : List D}, RzA G B vs ds → Slots G pn B H (vs.map some ++ σ) (ds.map Slot.d ++ ρ) os
  | _, _, .nil => t
  | _, _, .cons h r => .d h (t.ds r)
theorem start_rl {N : List Str} {ws : List V} {ds : List D} {p : PenS} {pen : Bool} (b : Base U pn p H B) (hp : pn.isSome = pen) (ra : RzA G B ws ds) : Rl G U pn ⟨slots0 pen N.length ds, p⟩ (L2.start N (penV pn ++ ws)) H B := by
  refine ⟨b, [], ?_, .nil, fun q hq => by cases hq⟩
  unfold L2.start slots0
  cases pn with
  | none =>
    cases hp
    show Slots _ _ _ _ (ws.map some ++ List.replicate (N.length - ws.length) none) (ds.map Slot.d ++ List.replicate (N.length - (0 + ds.length)) .u) _
    rw [Nat.zero_add, ra.length]
    exact (Slots.us _).ds ra
  | some q =>
    cases hp
    show Slots _ _ _ _ (some (.ref q.1) :: (ws.map some ++ List.replicate (N.length - (ws.length + 1)) none)) (.p :: (ds.map Slot.d ++ List.replicate (N.length - (1 + ds.length)) .u)) _
    rw [Nat.add_comm 1, ra.length]
    exact .p (c := q.2) rfl ((Slots.us _).ds ra)
theorem run_n {pen : Bool} {n : Nat} {N : List Str} {f : FS} {ts : TS} {vs : List V} {Q : VK} {E' : XK} (hcs : ∀ pn, CS G pn E0 ts f) (h : spN G pen n (defF pen N.length f) vs H Q E') : ts { nx := fun _ H' => Q .non H', rt := Q } (L2.start N vs) H := by
  obtain ⟨pn, U, B, ws, ds, p, p', d, rfl, hp, hn, b, ra, hF, post⟩ := h
  unfold defF ofFl at hF
  have rl := start_rl (N := N) b hp ra
  split at hF
  · next d' e' he => cases hF; exact hcs pn U _ _ H B _ _ _ rl he fun v H' B' b s rz => post v H' B' b s rz
  · next e' he => cases hF; exact hcs pn U _ _ H B _ _ _ rl he fun σ' H' B' r s => post .non H' B' r.b s .non
  · cases hF
  · cases hF
theorem run_x {pen : Bool} {n : Nat} {N : List Str} {f : FS} {ts : TS} {vs : List V} {Q : VK} (hcs : ∀ pn, CS G pn E ts f) (h : spX G pen n (defF pen N.length f) vs H Q E) : ts { nx := fun _ H' => Q .non H', rt := Q } (L2.start N vs) H := by
  obtain ⟨pn, U, B, ws, ds, p, p', d, rfl, hp, hn, b, ra, hF, post⟩ := h
  unfold defF ofFl at hF
  have rl := start_rl (N := N) b hp ra
  split at hF
  · next d' e' he => cases hF; exact hcs pn U _ _ H B _ _ _ rl he fun v H' B' b s rz => post v H' B' b s rz
  · next e' he => cases hF; exact hcs pn U _ _ H B _ _ _ rl he fun σ' H' B' r s => post .non H' B' r.b s .non
  · next c ns es e' he => cases hF; exact hcs pn U _ _ H B _ _ _ rl he fun cls ao H' B' b s x => post cls ao H' B' b s x
  · cases hF
theorem spN_len {pen : Bool} {n : Nat} {F : FF} {vs : List V} {Q : VK} {E' : XK} (h : spN G pen n F vs H Q E') : vs.length = (if pen = true then 1 else 0) + n := by
  obtain ⟨pn, U, B, ws, ds, p, p', d, rfl, hp, hn, b, ra, hF, post⟩ := h
  rw [List.length_append, ra.length, hn]
  cases pn with
  | none => cases hp; rfl
  | some q => cases hp; rfl
theorem spX_len {pen : Bool} {n : Nat} {F : FF} {vs : List V} {Q : VK} {E' : XK} (h : spX G pen n F vs H Q E') : vs.length = (if pen = true then 1 else 0) + n := by
  obtain ⟨pn, U, B, ws, ds, p, p', d, rfl, hp, hn, b, ra, hF, post⟩ := h
  rw [List.length_append, ra.length, hn]
  cases pn with
  | none => cases hp; rfl
  | some q => cases hp; rfl
end
section
variable {P : Program} {w : World} {K : PySem.W.Frag} {mg : Str → Option Value} {base : Heap} {G : Gm}
/-- a def's facts -/
structure FnD (K : PySem.W.Frag) (mg : Str → Option Value) (P : Program) (w : World) (base : Heap) (CX : CXT) (x : Str) (lv : Nat) (ps : List Str) (sp : Sp) : Prop where
  ex : ∃ (f : Addr) (fd : FuncData), mg x = some (.ref f) ∧ PySem.W.keepIn K (.ref f) = true ∧ Binds K fd ps [] ∧ FnOk P w K mg base CX lv f fd ps sp
theorem fn_n {x qual : Str} {st : Stmt} {f : Addr} {fd : FuncData} {N ps : List Str} {k n : Nat} {pen : Bool} {F : FS} (Fn : Fun K x qual st f fd) (S : FnScope N ps (defScope st)) (hl : ps.length = (if pen = true then 1 else 0) + n)
    (hbody : ∀ (cdv : Value) (A : Around) (outer : List Env) (s : Shared) (H : Hp) (E : XK), Room k (A.deeper (envOfC qual (defScope st) s.heap.objs.size f cdv)) →
      ∃ t, PSs (cxOf CX0 P w K mg base N qual (defScope st) f cdv A outer s H E).nox (defBody st) t ∧ ∀ pn, CS G pn E0 t F) : FnOk P w K mg base CX0 (k + 1) f fd ps (spN G pen n (defF pen N.length F)) := by
  refine Fn.ok S (fun vs H Q E h => by rw [spN_len h, hl]) (fun cdv A outer s H vs Q E hr h => ?_)
  obtain ⟨t, h1, h2⟩ := hbody cdv A outer s H E hr
  exact ⟨t, h1, run_n h2 h⟩
end
end Fw

set_option linter.all false
set_option maxRecDepth 100000
set_option maxHeartbeats 4000000
namespace Fw
open PySem PySem.Spec PyProof.Rows L2
abbrev dSub := dI fun i j => i - j
abbrev dAnd := dI Builtin.bitAnd
abbrev dOr := dI Builtin.bitOr
abbrev dXor := dI Builtin.bitXor
abbrev dLt := dB fun i j => decide (i < j)
abbrev dLe := dB fun i j => decide (i ≤ j)
abbrev dGt := dB fun i j => decide (j < i)
abbrev dGe := dB fun i j => decide (j ≤ i)
theorem hu65 {k : Nat} {A : Around} (r : Room k A) : A.units + 65 < cLine := by have := r.un; omega
/-- a def that stands in the text, with what it tells -/
structure Fn (K : PySem.W.Frag) (mg : Str → Option Value) (P : Program) (w : World) (base : Heap) (CX : CXT) (x : Str) (lv : Nat) (f : Addr) (fd : FuncData) (ps : List Str) (sp : Sp) : Prop where
  g : mg x = some (.ref f)
  k : PySem.W.keepIn K (.ref f) = true
  b : Binds K fd ps []
  G : FnOk P w K mg base CX lv f fd ps sp
/-- the built-ins that the text has not renamed -/
structure Bv (mg : Str → Option Value) : Prop where
  isinstance : mg "isinstance" = none
  int : mg "int" = none
  bool : mg "bool" = none
  str : mg "str" = none
  tuple : mg "tuple" = none
  list : mg "list" = none
  dict : mg "dict" = none
  set : mg "set" = none
  len : mg "len" = none
  all : mg "all" = none
  any : mg "any" = none
  enumerate : mg "enumerate" = none
  zip : mg "zip" = none
  range : mg "range" = none
  sorted : mg "sorted" = none
  max : mg "max" = none
  min : mg "min" = none
  abs : mg "abs" = none
  repr : mg "repr" = none
  reversed : mg "reversed" = none
section
variable {α β : Type} {G : Gm} {U : Hp} {pn : Pn} {E : XK} {e : Ev} {σ : L2.St} {H B H' B' H1 B1 : Hp}
/-! ### slices -/
theorem co_none : CO G pn E tNoPart (retG none) := by
  intro U e σ H B r p' Q rl hf post
  cases hf
  exact post none H B rl (Same.refl _) Keep.refl rfl
def partD : D → Option (Option Int)
  | .int i => some (some i)
  | _ => none
def partG (f : FG D) : FG (Option Int) := bindG f fun d => optG (partD d)
theorem co_some {t : TE} {f : FG D} (h : CE G pn E t f) : CO G pn E (tPart t) (partG f) := by
  refine CG.bind (t := t) h fun v a U e σ H B r p' Q rl ra hf post => ?_
  obtain ⟨c, hc, rfl, rfl⟩ := optG_eq hf
  unfold partD at hc
  split at hc
  · next i => cases hc; exact ⟨i, ra.int_inv, post _ H B rl (Same.refl _) Keep.refl rfl⟩
  · cases hc
def slG (f : FG D) (lo hi : FG (Option Int)) : FG D := bindG f fun a => bindG lo fun l => bindG hi fun h => optG (dSl l h a)
theorem ce_sl {t : TE} {tl th : TO} {f : FG D} {lo hi : FG (Option Int)} (h : CB G pn E t f) (h1 : CO G pn E tl lo) (h2 : CO G pn E th hi) : CE G pn E (tSl (uSl G.K) t tl th) (slG f lo hi) := by
  refine CB.bind2 (t := t) (u := tl) (k := fun v w σ H Q => th σ H fun u H3 => uSl G.K v w u H3 Q) (h := fun a l => bindG hi fun h => optG (dSl l h a)) h h1 fun v w a b U e σ H B r p' Q rl ra rb hf post => ?_
  subst rb
  rcases bind_inv hf with ⟨c, ns, ds, hx, rfl⟩ | ⟨u, q, hx, hg⟩
  · exact h2 U e σ H B _ _ _ rl hx post
  · refine h2 U e σ H B _ _ _ rl hx fun u' H1 B1 rl1 s1 k1 hu => ?_
    subst hu
    obtain ⟨c, hc, rfl, rfl⟩ := optG_eq hg
    have ra := ra.keep k1 s1
    unfold dSl at hc
    split at hc
    · cases hc
      obtain ⟨a1, xs, rfl, hl, n1, r1⟩ := ra.lst_inv
      refine .inl ⟨a1, xs, rfl, SqL.of hl, fun p hp => ?_⟩
      have hB := rl1.b.bh.free hp
      exact post _ _ _ (rl1.new hp) (s1.trans (same_upd hB)) (k1.trans (Keep.of (same_upd hp))) (.lst upd_same ((r1.cut _ _).same (same_upd hB)))
    · cases hc
      obtain ⟨a1, xs, rfl, hl, r1⟩ := ra.tup_inv
      refine .inr ⟨a1, xs, rfl, same_t rl1.b.bh hl, fun z => ?_, fun _ p hp => ?_⟩
      · have e1 : cutD ‹_› w u' = ‹List D› := by
          unfold cutD
          rw [r1.length] at z
          rw [z.1, z.2, List.drop_zero, Nat.sub_zero, List.take_length]
        rw [e1] at post
        exact post _ H1 B1 rl1 s1 k1 (.tup hl r1)
      · have hB := rl1.b.bh.free hp
        exact post _ _ _ (rl1.new hp) (s1.trans (same_upd hB)) (k1.trans (Keep.of (same_upd hp))) (.tup (SqT.of upd_same) ((r1.cut _ _).same (same_upd hB)))
    · cases hc
/-! ### list(range(..)) -/
def rgV3 (i c : Int) (n : Nat) : List V := (List.range n).map fun (k : Nat) => V.int (i + (k : Int) * c)
def rgD3 (i c : Int) (n : Nat) : List D := (List.range n).map fun (k : Nat) => PyData.int (i + (k : Int) * c)
def tLr3 (ta : TA) : TE := fun σ H Q => ta σ H fun vs H1 => ∃ (i j c : Int) (n : Nat), vs = [.int i, .int j, .int c] ∧ RgC i j c n ∧ n ≤ 1000000 ∧ ∀ p, H1 p = none → Q (.ref p) (upd H1 p (.lst (rgV3 i c n)))
theorem pe_lr3 {X : Cx} {a b c : Expr} {ta : TA} {p p2 pos pos2 : Pos} (hc : X.calm = true) (hg : Gl X "range") (hm : X.mg "range" = none) (hg2 : Gl X "list") (hm2 : X.mg "list" = none) (ha : PA X [a, b, c] ta)
    (hs : starEach [a, b, c] X.env = (false, eval a X.env) :: starEach [b, c] X.env := by rfl) (hpl : (backTo pos (starEach [b, c] X.env)).any (·.1) = false := by rfl)
    (hs2 : starEach [.Call (.Name "range" p) [a, b, c] [] pos] X.env = (false, eval (.Call (.Name "range" p) [a, b, c] [] pos) X.env) :: starEach [] X.env := by rfl) :
    PE X (.Call (.Name "list" p2) [.Call (.Name "range" p) [a, b, c] [] pos] [] pos2) (tLr3 ta) := by
  refine ⟨fun pins s σ H Q I h => ?_⟩
  refine Call_ (ld_blt I hg2 hm2 boot_list (PyProof.Rows.callWith_type1 (args_cons ?_ hs2) hs2))
  refine Call_ (ld_blt I hg hm boot_range (PyProof.Rows.callWith_type1 (thn (ha.run pos pins s σ H _ I h) fun us s1 ⟨vs, H1, I1, r1, q1⟩ => ?_) hs hpl))
  obtain ⟨i, j, k, n, e, ⟨c0, c1, c2, c3⟩, hn, q⟩ := q1
  subst e
  cases r1 with
  | cons r rr =>
    cases rr with
    | cons r' rr =>
      cases rr with
      | cons r'' rr =>
        cases rr
        obtain ⟨t, rfl⟩ := r
        obtain ⟨t', rfl⟩ := r'
        obtain ⟨t'', rfl⟩ := r''
        refine call_range_3 c0 (args_nil ?_) (.inl (PyProof.noPylong_small c1))
        have I2 : Inv X pins σ H1 { s1 with heap := s1.heap.push { cls := .type "range", data := .fields #[.int i t, .int j t', .int k t''] } } := I1.kept (t' := s1.toks) fun b o e => Heap.get?_push_of_some _ e
        refine call_list_range (n := n) (I2.ok.hd hc) (IsRange.new ..) c2 c3 (Nat.le_trans hn (by decide)) fun h' tk acc c' hk e' hi => ?_
        have hlen : acc.toList.length = n := by rw [Array.length_toList]; exact hi.1
        have hv : Vals (rgV3 i k n) acc.toList := by
          unfold rgV3
          rw [← hlen]
          refine vals_of_get acc.toList _ fun j u hj => ?_
          obtain ⟨t, rfl⟩ := hi.2 j u (by rw [← hj, Array.getElem?_toList])
          exact ⟨t, rfl⟩
        refine ⟨.ref _, upd H1 _ (.lst (rgV3 i k n)), I2.laid hk (Nat.le_refl _) (show ObjOk X.prog X.w _ _ _ (.lst (rgV3 i k n)) from ⟨?_, acc.toList, c', hv, ?_⟩), rfl, q _ (I2.hok.fresh (Nat.le_refl _))⟩
        · rw [rgV3, List.length_map, List.length_range]; exact line_of hn
        · rw [Array.toArray_toList]; exact e'
theorem rzA_rg3 {i c : Int} {n : Nat} : RzA G B (rgV3 i c n) (rgD3 i c n) := by
  unfold rgV3 rgD3
  generalize List.range n = l
  induction l with
  | nil => exact .nil
  | cons k t ih => exact .cons (.int _) ih
/-- how many turns a range has -/
def rgN (i j c : Int) : Nat := (Builtin.Range.rangeSize i j c).toNat
def lr3D : List D → Option D
  | [.int i, .int j, .int c] => if okR i && okR j && (c == 1 || c == -1 || c == 2) then some (.list (rgD3 i c (rgN i j c))) else none
  | _ => none
theorem rgC_of {i j c : Int} (h : (okR i && okR j && (c == 1 || c == -1 || c == 2)) = true) : RgC i j c (rgN i j c) ∧ rgN i j c ≤ 3000000 := by
  simp only [Bool.and_eq_true, Bool.or_eq_true, beq_iff_eq] at h
  obtain ⟨⟨h1, h2⟩, h3⟩ := h
  have a1 := okR_eq h1
  have a2 := okR_eq h2
  rcases h3 with (rfl | rfl) | rfl
  · refine ⟨⟨by decide, by decide, small_one (by omega) (by omega) (by omega) (by omega), ?_⟩, ?_⟩
    · unfold rgN; rw [rangeSize_one]; split <;> omega
    · unfold rgN; rw [rangeSize_one]; split <;> omega
  · refine ⟨⟨by decide, by decide, PySem.W.small_down (by omega) (by omega) (by omega) (by omega), ?_⟩, ?_⟩
    · unfold rgN; rw [PySem.W.rangeSize_downNat]; rfl
    · unfold rgN; rw [PySem.W.rangeSize_downNat]; omega
  · have e : Builtin.Range.rangeSize i j 2 = if i < j then (j - i - 1) / 2 + 1 else 0 := by
      unfold Builtin.Range.rangeSize
      simp only [show (2 : Int) > 0 by decide, if_true]
    have sm : Builtin.Range.small i j 2 = true := by
      unfold Builtin.Range.small
      rw [e]
      simp only [Builtin.Range.rangeFitsLong, Bool.and_eq_true, Bool.or_eq_true, decide_eq_true_eq, beq_iff_eq, show (2 : Int) > 0 by decide, if_true]
      split <;> omega
    refine ⟨⟨by decide, by decide, sm, ?_⟩, ?_⟩
    · unfold rgN; rw [e]; split <;> omega
    · unfold rgN; rw [e]; split <;> omega
def lrG (f : FG (List D)) : FG D := bindG f fun ds => optG ((lr3D ds).bind fun d => match d with
  | .list xs => few xs (.list xs)
  | _ => none)
theorem cf_lr3 {t : TA} {f : FG (List D)} (h : CA G pn E t f) : CF G pn E (tLr3 t) (lrG f) := by
  refine CF.bind (t := t) h fun vs ds U e σ H B r p' Q rl ra hf post => ?_
  obtain ⟨c, hc, rfl, rfl⟩ := optG_eq hf
  obtain ⟨c', hc', h2⟩ := Option.bind_eq_some_iff.mp hc
  unfold lr3D at hc'
  split at hc'
  · split at hc'
    · next i j k hk =>
      cases hc'
      obtain ⟨hl, rfl⟩ := few_eq h2
      obtain ⟨g1, g2⟩ := rgC_of hk
      cases ra with
      | cons r1 r2 =>
        cases r2 with
        | cons r2 r3 =>
          cases r3 with
          | cons r3 r4 =>
            cases r4
            cases r1.int_inv
            cases r2.int_inv
            cases r3.int_inv
            refine ⟨i, j, k, _, rfl, g1, ?_, fun p hp => post p _ B (rl.fresh hp (.lst upd_same rzA_rg3)) (Same.refl _) (Keep.of (same_upd hp))⟩
            rw [rgD3, List.length_map, List.length_range] at hl
            exact hl
    · cases hc'
  · cases hc'
def tLr2 (ta : TE) (tb : TE) : TE := tLstRg (tRg2 ta tb)
def lr2G (f g : FG D) : FG D := bindG f fun a => bindG g fun b => optG ((lr3D [a, b, .int 1]).bind fun d => match d with
  | .list xs => few xs (.list xs)
  | _ => none)
theorem rgV_eq {i j : Int} : rgV i j = rgV3 i 1 (j - i).toNat := by
  unfold rgV rgV3
  congr 1
  funext k
  rw [Int.mul_one]
theorem cf_lr2 {t u : TE} {f g : FG D} (h1 : CE G pn E t f) (h2 : CE G pn E u g) : CF G pn E (tLstRg (tRg2 t u)) (lr2G f g) := by
  refine CF.bind (t := t) h1 fun v a U e σ H B r p' Q rl ra hf post => ?_
  rcases bind_inv hf with ⟨c, ns, ds, hx, rfl⟩ | ⟨b, q, hx, hg⟩
  · exact h2 U e σ H B _ _ _ rl hx post
  · refine h2 U e σ H B _ _ _ rl hx fun w H1 B1 rl1 s1 k1 rb => ?_
    obtain ⟨c, hc, rfl, rfl⟩ := optG_eq hg
    obtain ⟨c', hc', h3⟩ := Option.bind_eq_some_iff.mp hc
    unfold lr3D at hc'
    split at hc'
    · next i j k he =>
      cases he
      split at hc'
      · next hk =>
        cases hc'
        obtain ⟨hl, rfl⟩ := few_eq h3
        obtain ⟨g1, g2⟩ := rgC_of hk
        simp only [Bool.and_eq_true] at hk
        have a1 := okR_eq hk.1.1
        have a2 := okR_eq hk.1.2
        cases ra.int_inv
        cases rb.int_inv
        refine ⟨i, j, rfl, rfl, ⟨by omega, by omega, by omega, by omega, by omega⟩, fun p hp => ?_⟩
        have hn : rgN i j 1 = (j - i).toNat := by unfold rgN; rw [rangeSize_one]; split <;> omega
        rw [rgV_eq, ← hn]
        exact post p _ B1 (rl1.fresh hp (.lst upd_same rzA_rg3)) s1 (k1.trans (Keep.of (same_upd hp)))
      · cases hc'
    · cases hc'
/-! ### isinstance -/
def tyN : D → String
  | .none => "NoneType"
  | .bool _ => "bool"
  | .int _ => "int"
  | .str _ => "str"
  | .list _ => "list"
  | .tuple _ => "tuple"
  | .dict _ => "dict"
def isInsD : D → Bool
  | .dict ((.none, _) :: _) => true
  | _ => false
theorem tyS {K : PySem.W.Frag} {a : Addr} {xs : List V} (h : SqT K H a xs) : TyX K H (.ref a) (.type "tuple") := by
  rcases h with (h | ⟨o, h⟩) | ⟨o, its, n, h1, h2, _⟩
  · exact .base (.tup h)
  · exact .fTuple h
  · exact .kTuple h1 h2
theorem RzB.ty {v : V} {d : D} (hb : Same B H) (h : RzB G pn B H v d) (hi : isInsD d = false) : TyX G.K H v (.type (tyN d)) := by
  cases h with
  | non => exact .base .non
  | bl b => exact .base (.bl b)
  | int i => exact .base (.int i)
  | str x => exact .base (.str x)
  | lst h _ _ => exact .base (.lst h)
  | tup h _ => exact tyS (same_t hb h)
  | dk h _ _ => exact .base (.dK h)
  | dt h _ _ => exact .base (.dT h)
  | ins h h2 h3 hs => simp [insD, isInsD] at hi
inductive Ty where
  | int | bool | str | tuple | list | dict
def Ty.nm : Ty → String
  | .int => "int"
  | .bool => "bool"
  | .str => "str"
  | .tuple => "tuple"
  | .list => "list"
  | .dict => "dict"
def isTy : Ty → D → Bool
  | .int, .int _ => true
  | .int, .bool _ => true
  | .bool, .bool _ => true
  | .str, .str _ => true
  | .tuple, .tuple _ => true
  | .list, .list _ => true
  | .dict, .dict _ => true
  | _, _ => false
theorem kit_is (t : Ty) (d : D) : kitB (tyN d) t.nm = some (isTy t d) := by
  cases t <;> cases d <;> kernel_rfl
def dIsi (T : Ty) (d : D) : Option D := if isInsD d = true then none else some (.bool (isTy T d))
def isiG (T : Ty) (f : FG D) : FG D := op1 (dIsi T) f
theorem ce_isi (T : Ty) {t : TE} {f : FG D} (h : CB G pn E t f) : CE G pn E (tCB (rIsi G.K) (tCons t (tCons (tC (.ty T.nm)) tNil))) (isiG T f) := by
  refine CG.bind (t := t) h fun v a U e σ H B r p' Q rl ra hf post => ?_
  obtain ⟨c, hc, rfl, rfl⟩ := optG_eq hf
  unfold dIsi at hc
  split at hc
  · cases hc
  · next hi =>
    cases hc
    exact ⟨v, .ty T.nm, _, _, isTy T a, rfl, .ty T.nm, ra.ty rl.b.bh (by simpa using hi), kit_ty (kit_is T a), post _ H B rl (Same.refl _) Keep.refl (.bl _)⟩
/-- isinstance(x, (S, T)) -/
def dIsi2 (S T : Ty) (d : D) : Option D := if isInsD d = true then none else some (.bool (isTy S d || isTy T d))
def isi2G (S T : Ty) (f : FG D) : FG D := op1 (dIsi2 S T) f
theorem ce_isi2 (S T : Ty) {t : TE} {f : FG D} (h : CE G pn E t f) : CE G pn E (tCB (rIsiT G.K) (tCons t (tCons (tTup (tCons (tC (.ty S.nm)) (tCons (tC (.ty T.nm)) tNil))) tNil))) (isi2G S T f) := by
  refine CG.bind (t := t) h fun v d U e σ H B r p' Q rl ra hf post => ?_
  obtain ⟨c, hc, rfl, rfl⟩ := optG_eq hf
  unfold dIsi2 at hc
  split at hc
  · cases hc
  · next hi =>
    cases hc
    have ha := kit_is S d
    have hb := kit_is T d
    generalize isTy S d = a at ha post ⊢
    generalize isTy T d = b at hb post ⊢
    refine ⟨by show 2 ≤ sizeLine; decide, fun p hp => ?_⟩
    have hB := rl.b.bh.free hp
    have rl2 := rl.new (o := .tup [.ty S.nm, .ty T.nm]) hp
    refine ⟨v, p, [.ty S.nm, .ty T.nm], _, [.type S.nm, .type T.nm], a || b, rfl, upd_same, .cons (.ty S.nm) (.cons (.ty T.nm) .nil), (Rz.b rl2.b (ra.same (same_upd hB))).ty rl2.b.bh (by simpa using hi), ?_, ?_⟩
    · exact kitAny_cons (kit_ty ha) (fun z => kitAny_cons (kit_ty hb) (fun z2 => by rw [z, z2]; rfl) (fun z2 => by rw [z, z2]; rfl)) (fun z => by rw [z, Bool.true_or])
    · exact post _ _ _ rl2 (same_upd hB) (Keep.of (same_upd hp)) (.bl _)
/-! ### stores of any form -/
abbrev FV := D → Ev → Option Ev
abbrev FVs := List D → Ev → Option Ev
def CV (G : Gm) (pn : Pn) (g : TG) (f : FV) : Prop := ∀ U e σ H B v d e' (Q : L2.St → Hp → Prop), Rl G U pn e σ H B → Rz G B v d → f d e = some e' →
  (∀ σ' H' B', Rl G U pn e' σ' H' B' → Same B B' → Q σ' H') → g v σ H Q
def CVs (G : Gm) (pn : Pn) (g : TGs) (f : FVs) : Prop := ∀ U e σ H B vs ds e' (Q : L2.St → Hp → Prop), Rl G U pn e σ H B → RzA G B vs ds → f ds e = some e' →
  (∀ σ' H' B', Rl G U pn e' σ' H' B' → Same B B' → Q σ' H') → g vs σ H Q
def nameV (i : Nat) : FV := fun d e => some ⟨e.sl.set i (.d d), e.pen⟩
def nilV : FVs := fun ds e => match ds with
  | [] => some e
  | _ => none
def consV (f : FV) (g : FVs) : FVs := fun ds e => match ds with
  | [] => none
  | d :: r => (f d e).bind (g r)
def tupV (n : Nat) (f : FVs) : FV := fun d e => match d with
  | .tuple ds => if ds.length = n then f ds e else none
  | _ => none
/-- xs[k] = .. -/
def subV (i : Nat) (fk : FG D) : FV := fun d e => (ownL i e).bind fun _ => match fk e with
  | some (.v (.int k), p) => (ownL i ⟨e.sl, p⟩).bind fun ds => (ixN ds.length k).map fun j => ⟨e.sl.set i (.o (.list (ds.set j d))), p⟩
  | _ => none
theorem v_name (i : Nat) : CV G pn (gName i) (nameV i) := by
  intro U e σ H B v d e' Q rl rz h q
  cases h
  exact q _ H B (rl.setD rz i) (Same.refl _)
theorem v_nil : CVs G pn gNil nilV := by
  intro U e σ H B vs ds e' Q rl rz h q
  unfold nilV at h
  split at h
  · cases h; cases rz; exact ⟨rfl, q σ H B rl (Same.refl _)⟩
  · cases h
theorem v_cons {t : TG} {u : TGs} {f : FV} {g : FVs} (h1 : CV G pn t f) (h2 : CVs G pn u g) : CVs G pn (gCons t u) (consV f g) := by
  intro U e σ H B vs ds e' Q rl rz h q
  unfold consV at h
  cases rz with
  | nil => cases h
  | cons r1 r2 =>
    obtain ⟨e1, h3, h4⟩ := Option.bind_eq_some_iff.mp h
    exact ⟨_, _, rfl, h1 U e σ H B _ _ e1 _ rl r1 h3 fun σ' H1 B1 rl' s1 => h2 U e1 σ' H1 B1 _ _ e' Q rl' (r2.same s1) h4 fun σ2 H2 B2 rl2 s2 => q σ2 H2 B2 rl2 (s1.trans s2)⟩
theorem v_tup {n : Nat} {t : TGs} {f : FVs} (h1 : CVs G pn t f) : CV G pn (gTup G.K n t) (tupV n f) := by
  intro U e σ H B v d e' Q rl rz h q
  unfold tupV at h
  split at h
  · next ds =>
    split at h
    · next hn =>
      obtain ⟨a, xs, rfl, hx, hr⟩ := rz.tup_inv
      exact ⟨a, xs, rfl, same_t rl.b.bh hx, by rw [hr.length, hn], h1 U e σ H B xs ds e' Q rl hr h q⟩
    · cases h
  · cases h
theorem v_sub {i : Nat} {tk : TE} {fk : FG D} (hk : CE G pn E tk fk) : CV G pn (gSub (tVar i) tk rSetL) (subV i fk) := by
  intro U e σ H B v d e' Q rl rz h q
  obtain ⟨ds0, h0, h⟩ := Option.bind_eq_some_iff.mp h
  obtain ⟨p0, xs0, e0, e2, e3⟩ := rl.lst h0
  refine ⟨_, e0, ?_⟩
  split at h
  · next k p hk' =>
    obtain ⟨ds, h6, h7⟩ := Option.bind_eq_some_iff.mp h
    obtain ⟨j, h8, h9⟩ := Option.map_eq_some_iff.mp h7
    cases h9
    refine hk U e σ H B _ _ _ rl hk' fun w H1 B1 rl1 s1 k1 rw => ?_
    obtain ⟨p', xs', e1', e2', e3'⟩ := rl1.lst (i := i) (ds := ds) h6
    rw [e0] at e1'
    cases e1'
    cases rw.int_inv
    exact ⟨p0, xs', k, j, rfl, rfl, e2', by rw [e3'.length]; exact h8, q σ _ B1 (rl1.lstPut h6 e0 (e3'.set (rz.same s1) j)) s1⟩
  · cases h
def asgV (f : FG D) (t : FV) : FS := thenS f fun d e => (t d e).map fun e' => (.nx, e')
theorem cs_asgV {t : TE} {g : TG} {f : FG D} {ft : FV} (h : CE G pn E t f) (hg : CV G pn g ft) : CS G pn E (tAsg t g) (asgV f ft) := by
  refine CS.of (t := t) h fun w a U e σ H B r e' Dn rl ra hf post => ?_
  obtain ⟨e1, h1, h2⟩ := Option.map_eq_some_iff.mp hf
  cases h2
  exact hg U e σ H B w a _ _ rl ra h1 fun σ' H' B' rl' s' => post σ' H' B' rl' s'
/-- a, b, c = x, y, z -/
def par3S (i j l : Nat) (f : FG (List D)) : FS := thenS f fun ds e => match ds with
  | [a, b, c] => some (.nx, ⟨((e.sl.set i (.d a)).set j (.d b)).set l (.d c), e.pen⟩)
  | _ => none
theorem cs_par3 {i j l : Nat} {t : TA} {f : FG (List D)} (h : CA G pn E t f) : CS G pn E (tPar3 i j l t) (par3S i j l f) := by
  refine CS.of (t := t) h fun w a U e σ H B r e' Dn rl ra hf post => ?_
  split at hf
  · cases hf
    cases ra with
    | cons r1 r2 =>
      cases r2 with
      | cons r2 r3 =>
        cases r3 with
        | cons r3 r4 =>
          cases r4
          exact ⟨_, _, _, rfl, post _ H B (((rl.setD r1 i).setD r2 j).setD r3 l) (Same.refl _)⟩
  · cases hf
end
end Fw

set_option linter.all false
set_option maxRecDepth 100000
set_option maxHeartbeats 4000000
namespace Fw
open PySem PySem.Spec PyProof.Rows L2
/-! ### keys -/
def kEq1 : D → D → Bool
  | .int i, .int j => decide (i = j)
  | .str a, .str b => decide (a = b)
  | _, _ => false
def kEqL : List D → List D → Bool
  | [], [] => true
  | x :: xs, y :: ys => kEq1 x y && kEqL xs ys
  | _, _ => false
def kEq : D → D → Bool
  | .tuple xs, .tuple ys => kEqL xs ys
  | a, b => kEq1 a b
theorem kEq1_key (a b : Key) : kEq1 (keyD a) (keyD b) = decide (a = b) := by
  cases a <;> cases b <;> simp [kEq1, keyD]
theorem kEq_key (a b : Key) : kEq (keyD a) (keyD b) = decide (a = b) := by
  rw [← kEq1_key]
  cases a <;> cases b <;> rfl
theorem kEqL_key : ∀ (a b : List Key), kEqL (a.map keyD) (b.map keyD) = decide (a = b)
  | [], [] => rfl
  | [], _ :: _ => rfl
  | _ :: _, [] => rfl
  | x :: xs, y :: ys => by
    show (kEq1 (keyD x) (keyD y) && kEqL (xs.map keyD) (ys.map keyD)) = _
    rw [kEq1_key, kEqL_key xs ys]
    simp [Bool.decide_and]
theorem kEq_tup (a b : List Key) : kEq (keyT a) (keyT b) = decide (a = b) := kEqL_key a b
def getD' (kvs : List (D × D)) (k : D) : Option D := (kvs.find? fun p => kEq p.1 k).map (·.2)
def putD (kvs : List (D × D)) (k v : D) : List (D × D) := if (kvs.any fun p => kEq p.1 k) = true then kvs.map (fun p => if kEq p.1 k = true then (p.1, v) else p) else kvs ++ [(k, v)]
section
variable {κ : Type} [DecidableEq κ] {enc : κ → D} {G : Gm} {B : Hp}
theorem get_some (he : ∀ a b, kEq (enc a) (enc b) = decide (a = b)) {k : κ} {d : D} : ∀ {ks : List (κ × V)} {ds : List D}, RzA G B (ks.map (·.2)) ds → getD' ((ks.map fun p => enc p.1).zip ds) (enc k) = some d → ∃ v, valV ks k = some v ∧ Rz G B v d
  | [], _, .nil, h => by cases h
  | p :: ks, _, .cons r1 r2, h => by
    unfold getD' at h
    rw [List.map_cons, List.zip_cons_cons, List.find?_cons] at h
    dsimp only at h
    rw [he] at h
    by_cases z : p.1 = k
    · rw [decide_eq_true z] at h
      cases h
      exact ⟨p.2, valV_pos z, r1⟩
    · rw [decide_eq_false z] at h
      obtain ⟨v, h1, h2⟩ := get_some he r2 h
      exact ⟨v, (valV_neg z).trans h1, h2⟩
theorem get_none (he : ∀ a b, kEq (enc a) (enc b) = decide (a = b)) {k : κ} : ∀ {ks : List (κ × V)} {ds : List D}, RzA G B (ks.map (·.2)) ds → getD' ((ks.map fun p => enc p.1).zip ds) (enc k) = none → valV ks k = none
  | [], _, .nil, h => rfl
  | p :: ks, _, .cons r1 r2, h => by
    unfold getD' at h
    rw [List.map_cons, List.zip_cons_cons, List.find?_cons] at h
    dsimp only at h
    rw [he] at h
    by_cases z : p.1 = k
    · rw [decide_eq_true z] at h; cases h
    · rw [decide_eq_false z] at h
      exact (valV_neg z).trans (get_none he r2 h)
theorem any_key (he : ∀ a b, kEq (enc a) (enc b) = decide (a = b)) {k : κ} : ∀ {ks : List (κ × V)} {ds : List D}, RzA G B (ks.map (·.2)) ds → (((ks.map fun p => enc p.1).zip ds).any fun p => kEq p.1 (enc k)) = ks.any fun p => decide (p.1 = k)
  | [], _, .nil => rfl
  | p :: ks, _, .cons r1 r2 => by
    rw [List.map_cons, List.zip_cons_cons, List.any_cons, List.any_cons, any_key he r2]
    dsimp only
    rw [he]
theorem put_rz (he : ∀ a b, kEq (enc a) (enc b) = decide (a = b)) {k : κ} {v : V} {d : D} (rv : Rz G B v d) {ks : List (κ × V)} {ds : List D} (r : RzA G B (ks.map (·.2)) ds) :
    ∃ ds', RzA G B ((putK ks k v).map (·.2)) ds' ∧ putD ((ks.map fun p => enc p.1).zip ds) (enc k) d = ((putK ks k v).map fun p => enc p.1).zip ds' := by
  unfold putK putD
  rw [any_key he r]
  by_cases z : (ks.any fun p => decide (p.1 = k)) = true
  · rw [if_pos z, if_pos z]
    clear z
    have gen : ∀ {ks : List (κ × V)} {ds : List D}, RzA G B (ks.map (·.2)) ds → ∃ ds', RzA G B ((ks.map fun p => if p.1 = k then (p.1, v) else p).map (·.2)) ds' ∧
        ((ks.map fun p => enc p.1).zip ds).map (fun p => if kEq p.1 (enc k) = true then (p.1, d) else p) = ((ks.map fun p => if p.1 = k then (p.1, v) else p).map fun p => enc p.1).zip ds' := by
      intro ks
      induction ks with
      | nil => intro ds r; cases r; exact ⟨[], .nil, rfl⟩
      | cons p ks ih =>
        intro ds r
        cases r with
        | @cons _ _ d0 _ r1 r2 =>
          obtain ⟨ds', h1, h2⟩ := ih r2
          by_cases y : p.1 = k
          · refine ⟨d :: ds', ?_, ?_⟩
            · rw [List.map_cons, List.map_cons, if_pos y]; exact .cons rv h1
            · have e1 : kEq (enc p.1) (enc k) = true := by rw [he, decide_eq_true y]
              show (if kEq (enc p.1) (enc k) = true then (enc p.1, d) else (enc p.1, _)) :: _ = (enc (if p.1 = k then (p.1, v) else p).1, d) :: _
              rw [if_pos e1, if_pos y]
              exact congrArg _ h2
          · refine ⟨d0 :: ds', ?_, ?_⟩
            · rw [List.map_cons, List.map_cons, if_neg y]; exact .cons r1 h1
            · have e1 : ¬ kEq (enc p.1) (enc k) = true := by rw [he, decide_eq_false y]; simp
              show (if kEq (enc p.1) (enc k) = true then (enc p.1, d) else (enc p.1, _)) :: _ = (enc (if p.1 = k then (p.1, v) else p).1, _) :: _
              rw [if_neg e1, if_neg y]
              exact congrArg _ h2
    exact gen r
  · rw [if_neg z, if_neg z]
    refine ⟨ds ++ [d], ?_, ?_⟩
    · rw [List.map_append]; exact r.app (.cons rv .nil)
    · rw [List.map_append, List.zip_append (by rw [List.length_map, ← r.length, List.length_map])]
      rfl
end
def keyOf : D → Option Key
  | .int i => some (.inl i)
  | .str s => some (.inr s)
  | _ => none
theorem keyOf_eq {d : D} {k : Key} (h : keyOf d = some k) : d = keyD k := by
  cases d <;> cases h <;> rfl
section
variable {α β : Type} {G : Gm} {U : Hp} {pn : Pn} {E : XK} {e : Ev} {σ : L2.St} {H B H' B' H1 B1 : Hp}
theorem RzB.keyV {v : V} {k : Key} (h : RzB G pn B H v (keyD k)) : v = kV k := by
  cases k with
  | inl i => exact h.int_inv
  | inr s => exact h.str_inv
/-- a dict with int and text keys, or an empty one -/
def dGetK (d k : D) : Option D := (keyOf k).bind fun _ => match d with
  | .dict kvs => if (kvs.all fun p => (keyOf p.1).isSome) = true ∧ kvs ≠ [] then getD' kvs k else none
  | _ => none
theorem dict_k {a : V} {kvs : List (D × D)} (h : RzB G pn B H a (.dict kvs)) (hk : (kvs.all fun p => (keyOf p.1).isSome) = true) (h0 : kvs ≠ []) : ∃ p ks ds, a = .ref p ∧ H p = some (.dK ks) ∧ NP pn p ∧ RzA G B (ks.map (·.2)) ds ∧ kvs = (ks.map fun k => keyD k.1).zip ds := by
  generalize hd : PyData.dict kvs = d at h
  cases h with
  | dk h n hs => cases hd; exact ⟨_, _, _, rfl, h, n, hs, rfl⟩
  | @dt a ks ds h n hs =>
    cases hd
    exfalso
    cases ks with
    | nil => cases hs; exact h0 rfl
    | cons k ks =>
      cases hs with
      | cons _ _ => rw [List.map_cons, List.zip_cons_cons, List.all_cons] at hk; simp [keyT, keyOf] at hk
  | ins h h2 h3 hs =>
    cases hd
    simp [insD, keyOf] at hk
  | _ => cases hd
theorem ce_dget {t u : TE} {f g : FG D} (h1 : CB G pn E t f) (h2 : CB G pn E u g) : CE G pn E (tDGet t u) (op2 dGetK f g) := by
  refine CB.bind2 (t := t) (u := u) (k := fun x y σ H2 Q => ∃ a v, x = .ref a ∧ DGet H2 a y (some v) ∧ Q v H2) (h := fun a b => optG (dGetK a b)) h1 h2 fun v w a b U e σ H B r p' Q rl ra rb hf post => ?_
  obtain ⟨c, hc, rfl, rfl⟩ := optG_eq hf
  unfold dGetK at hc
  obtain ⟨k, hk, hc⟩ := Option.bind_eq_some_iff.mp hc
  cases keyOf_eq hk
  split at hc
  · next kvs =>
    split at hc
    · next hz =>
      obtain ⟨p, ks, ds, rfl, hp, n, hr, rfl⟩ := dict_k ra hz.1 hz.2
      obtain ⟨x, hx, rx⟩ := get_some kEq_key hr hc
      cases rb.keyV
      exact ⟨p, x, rfl, hx ▸ DGet.k hp, post _ H B rl (Same.refl _) Keep.refl rx⟩
    · cases hc
  · cases hc
/-! ### written dicts -/
def pairsG : List (Key × FG D) → FG (List D)
  | [] => retG []
  | (_, f) :: r => bindG f fun a => bindG (pairsG r) fun as => retG (a :: as)
inductive CPs (G : Gm) (pn : Pn) (E : XK) : List (TE × TE) → List (Key × FG D) → Prop
  | nil : CPs G pn E [] []
  | cons {k : Key} {t : TE} {f : FG D} {ts : List (TE × TE)} {fs : List (Key × FG D)} : CE G pn E t f → CPs G pn E ts fs → CPs G pn E ((tC (kV k), t) :: ts) ((k, f) :: fs)
def dispD (ks : List Key) (ds : List D) : List (D × D) := (ks.zip ds).foldl (fun acc p => putD acc (keyD p.1) p.2) []
def dispG (fs : List (Key × FG D)) : FG D := bindG (pairsG fs) fun ds => if fs.length ≤ 15 then retG (.dict (dispD (fs.map (·.1)) ds)) else fun _ => none
theorem CPs.run {ts : List (TE × TE)} {fs : List (Key × FG D)} (h : CPs G pn E ts fs) : CG G pn E (fun B _ (ps : List (V × V)) ds => ∃ vs, RzA G B vs ds ∧ ps = ((fs.map (·.1)).zip vs).map fun p => (kV p.1, p.2)) (tPairs ts) (pairsG fs) := by
  induction h with
  | nil =>
    intro U e σ H B r p' Q rl hf post
    cases hf
    exact post [] H B rl (Same.refl _) Keep.refl ⟨[], .nil, rfl⟩
  | @cons k t f ts fs h1 hr ih =>
    intro U e σ H B r p' Q rl hf post
    rcases bind_inv hf with ⟨c, ns, ds, hx, rfl⟩ | ⟨a, q, hx, hg⟩
    · exact h1 U e σ H B _ _ _ rl hx post
    · refine h1 U e σ H B _ _ _ rl hx fun v H1 B1 rl1 s1 k1 rv => ?_
      rcases bind_inv hg with ⟨c, ns, ds, hx2, rfl⟩ | ⟨as, q2, hx2, hg2⟩
      · exact ih U _ σ H1 B1 _ _ _ rl1 hx2 (post.up s1 k1)
      · cases hg2
        refine ih U _ σ H1 B1 _ _ _ rl1 hx2 fun ps H2 B2 rl2 s2 k2 ⟨vs, rvs, ep⟩ => ?_
        exact post _ H2 B2 rl2 (s1.trans s2) (k1.trans k2) ⟨v :: vs, .cons (rv.same s2) rvs, by rw [ep]; rfl⟩
theorem merge_rz : ∀ (more : List (Key × V)) (es : List D) (ks : List (Key × V)) (ds : List D), RzA G B (more.map (·.2)) es → RzA G B (ks.map (·.2)) ds →
    ∃ ds', RzA G B ((mergeK ks more).map (·.2)) ds' ∧ ((more.map (·.1)).zip es).foldl (fun acc p => putD acc (keyD p.1) p.2) ((ks.map fun k => keyD k.1).zip ds) = ((mergeK ks more).map fun k => keyD k.1).zip ds'
  | [], _, ks, ds, .nil, r => ⟨ds, r, rfl⟩
  | m :: more, e :: es, ks, ds, .cons r1 r2, r => by
    obtain ⟨ds1, h1, h2⟩ := put_rz (k := m.1) kEq_key r1 r
    obtain ⟨ds2, h3, h4⟩ := merge_rz more es (putK ks m.1 m.2) ds1 r2 h1
    refine ⟨ds2, h3, ?_⟩
    rw [List.map_cons, List.zip_cons_cons, List.foldl_cons, h2]
    exact h4
theorem cf_disp {ts : List (TE × TE)} {fs : List (Key × FG D)} (h : CPs G pn E ts fs) : CF G pn E (tDisp ts) (dispG fs) := by
  intro U e σ H B r p' Q rl hf post p hp
  have rl0 := rl.addU (o := .dK []) hp
  rcases bind_inv hf with ⟨c, ns, ds, hx, rfl⟩ | ⟨as, q, hx, hg⟩
  · refine h.run _ e σ _ B _ _ _ rl0 hx fun cls ao H' B' b s x => ?_
    refine post cls ao H' B' ⟨b.bh, fun a o h => b.uh a o ((upd_ne (ne_of_none h (rl.b.uh.free hp))).trans h), fun a o h => ?_, fun q hq => ?_⟩ s x
    · have := b.bu a o h
      by_cases z : a = p
      · rw [z]; exact rl.b.uh.free hp
      · rw [upd_ne z] at this; exact this
    · obtain ⟨h1, h2, h3, h4⟩ := b.pen q hq
      have nq : q.1 ≠ p := fun z => by rw [z, upd_same] at h2; cases h2
      rw [upd_ne nq] at h2
      exact ⟨h1, h2, h3, h4⟩
  · refine h.run _ e σ _ B _ _ _ rl0 hx fun ps H2 B2 rl2 s2 k2 ⟨vs, rvs, ep⟩ => ?_
    split at hg
    · next hl =>
      cases hg
      have hpn := (rl2.swapU (o' := .dK [])).2.1
      obtain ⟨rl3, _, hB, np⟩ := rl2.swapU (o' := .dK (mergeK [] ((fs.map (·.1)).zip vs)))
      have hpl : (fs.map (·.1)).length = vs.length := by
        have key : ∀ {fs : List (Key × FG D)} {e : Ev} {as : List D} {q : PenS}, pairsG fs e = some (.v as, q) → as.length = fs.length := by
          intro fs
          induction fs with
          | nil => intro e as q hq; cases hq; rfl
          | cons f fs ih =>
            intro e as q hq
            rcases bind_inv (show bindG f.2 _ e = _ from hq) with ⟨_, _, _, _, z⟩ | ⟨a, q1, _, hg1⟩
            · cases z
            · rcases bind_inv hg1 with ⟨_, _, _, _, z⟩ | ⟨as', q2, hx2, hg2⟩
              · cases z
              · cases hg2; rw [List.length_cons, List.length_cons, ih hx2]
        rw [List.length_map, rvs.length, key hx]
      have e1 : ((fs.map (·.1)).zip vs).map (·.2) = vs := List.map_snd_zip (by omega)
      have e2 : ((fs.map (·.1)).zip vs).map (·.1) = fs.map (·.1) := List.map_fst_zip (by omega)
      refine ⟨hpn, (fs.map (·.1)).zip vs, ep, by rw [List.length_zip, List.length_map]; omega, ?_⟩
      obtain ⟨ds', h1, h2⟩ := merge_rz (G := G) (B := B2) ((fs.map (·.1)).zip vs) as [] [] (by rw [e1]; exact rvs) .nil
      have hd : dispD (fs.map (·.1)) as = ((mergeK [] ((fs.map (·.1)).zip vs)).map fun k => keyD k.1).zip ds' := by
        rw [← h2, e2]; rfl
      obtain ⟨⟨bh, uh, bu, pe⟩, os, ss, n, f⟩ := rl3
      have hU : U p = none := rl.b.uh.free hp
      have no : p ∉ os := fun z => by have := (f p z).2.1; rw [upd_same] at this; cases this
      refine post p _ B2 ⟨⟨bh, fun a o h => uh a o ((upd_ne (ne_of_none h hU)).trans h), fun a o h => ?_, fun q hq => ?_⟩, ⟨os, ss, n, fun q hq => ?_, no⟩, ?_, hB, hU, np⟩ s2 ?_
      · have := bu a o h
        by_cases z : a = p
        · rw [z]; exact hU
        · rw [upd_ne z] at this; exact this
      · obtain ⟨h1, h2, h3, h4⟩ := pe q hq
        have nq : q.1 ≠ p := fun z => np q hq z.symm
        rw [upd_ne nq] at h2
        exact ⟨h1, h2, h3, h4⟩
      · obtain ⟨h1, h2, h3⟩ := f q hq
        have nq : q ≠ p := fun z => no (z ▸ hq)
        rw [upd_ne nq] at h2
        exact ⟨h1, h2, h3⟩
      · rw [hd]
        exact .dk upd_same h1
      · intro a o ha hn
        have ne := ne_of_none ha hp
        rw [upd_ne ne]
        exact k2 a o ((upd_ne ne).trans ha) hn
    · cases hg
end
end Fw

set_option linter.all false
set_option maxRecDepth 100000
set_option maxHeartbeats 4000000
namespace Sb
open PySem PySem.Spec PyProof.Rows L2
open PySem.AutoSeq1 in
theorem extend_tup (l : Addr) (items : Array Value) (n : Nat) (b : Addr) (items2 : Array Value) (n2 : Nat) (dd : Option Addr) (sl : Array (Option Value)) (hs0 : ¬(!items.isEmpty && Builtin.List.listTooLong (items.size + items2.size)) = true) (hs1 : items.size ≤ sizeLine) (hs2 : items.size + items2.size ≤ sizeLine + 1) :
    Meets (Builtin.«list.extend» ⟨[.ref l, .ref b], []⟩) (fun _ R s => s.heap.get? l = some { cls := .type "list", dict := none, data := .seq items n, slots := #[] } ∧ s.heap.get? b = some { cls := .type "tuple", dict := dd, data := .seq items2 n2, slots := sl } ∧ R (.ok (.ret Value.none)) { s with heap := s.heap.update l (Obj.mapSeq fun x => x ++ items2), toks := s.toks }) :=
  .of_wp fun prog w A R s h => by
    obtain ⟨hp, g, d, tk, os⟩ := s; obtain ⟨hl, hb, h⟩ := h; have f1 := AutoSeq1.idx_int; have f2 := AutoSeq1.sub_tuple_tuple; have f3 := AutoSeq1.sub_list_list; have f4 := AutoSeq1.sub_tuple_list; have f5 := AutoSeq1.sub_list_tuple;
    have hz' : (items ++ items2).size ≤ sizeLine + 1 := by rw [Array.size_append]; exact hs2
    wp_walk using (wpAny_updateSeq hl rfl (hz := hs1) (_hz' := hz')), wpAny_loadPart' hl, wpAny_loadPart' hb; exact ⟨_, rfl, h⟩
/-- l.extend(t), t a tuple -/
def rExtT (K : PySem.W.Frag) : V → List V → Hp → VK → Prop := fun x vs H Q => ∃ l b xs zs, x = .ref l ∧ vs = [.ref b] ∧ H l = some (.lst xs) ∧ SqT K H b zs ∧ xs.length + zs.length ≤ sizeLine ∧ Q .non (upd H l (.lst (xs ++ zs)))
theorem mt_extT {X : Cx} : MtM X "list.extend" (rExtT X.K) := by
  intro pins s σ H x vs v us Q I rx rv h
  obtain ⟨l, b, xs, zs, rfl, rfl, hH, hB, hz, q⟩ := h
  cases rx
  obtain ⟨u, rfl, ru⟩ := rv.one
  cases ru
  obtain ⟨z, its, n, r, hl, e⟩ := I.lstM hH
  obtain ⟨its2, r2, ⟨⟨cls, dd, data, sl⟩, e2, hc, n2, hd⟩, z2⟩ := I.tuple hB
  simp only at hc hd
  subst hc hd
  have hl2 := r2.length
  have hsz : its.toArray.size + its2.toArray.size ≤ sizeLine := by rw [List.size_toArray, List.size_toArray]; omega
  have hlong : ¬ (!its.toArray.isEmpty && Builtin.List.listTooLong (its.toArray.size + its2.toArray.size)) = true := by
    rw [notLongL hsz, Bool.and_false]
    exact Bool.false_ne_true
  refine call_meets F.slot_list_extend ⟨_, e, rfl⟩ F.entry_list_extend (F.args_list_extend_2 _ _)
    (extend_tup l its.toArray n b its2.toArray n2 dd sl hlong (by rw [List.size_toArray]; omega) (by omega)) ⟨e, e2, ?_⟩
  refine ⟨.non, _, I.lset (its' := its ++ its2) hH e (by simp) (r.append r2) ?_, rfl, q⟩
  rw [List.length_append]
  omega
end Sb

set_option linter.all false
set_option maxRecDepth 100000
set_option maxHeartbeats 4000000
namespace Fw
open PySem PySem.Spec PyProof.Rows L2
theorem mt_ext {X : Cx} : MtR X "list.extend" (uExt X.K) := by
  intro pins s σ H x xs v us Q I rx rv h
  rcases h with h | h
  · exact mt_extend pins s σ H x xs v us Q I rx rv h
  · exact Sb.mt_extT pins s σ H x xs v us Q I rx rv h
section
variable {α β : Type} {G : Gm} {U : Hp} {pn : Pn} {E : XK} {e : Ev} {σ : L2.St} {H B H' B' H1 B1 : Hp}
/-! ### range with a step -/
theorem rgD3_get {lo c : Int} {n i : Nat} : (rgD3 lo c n)[i]? = if i < n then some (.int (lo + (i : Int) * c)) else none := by
  unfold rgD3
  rw [List.getElem?_map]
  by_cases h : i < n
  · rw [if_pos h, List.getElem?_range h]; rfl
  · rw [if_neg h, List.getElem?_eq_none (by rw [List.length_range]; omega)]; rfl
theorem walks_c {lo c : Int} {n : Nat} : Walks G pn (Itc lo c n) (rgD3 lo c n) B := by
  intro i U H B1 e σ s rl
  refine ⟨fun hi => by rw [rgD3, List.length_map, List.length_range] at hi; exact hi, fun d hd => ?_⟩
  rw [rgD3_get] at hd
  split at hd
  · next hi =>
    cases hd
    exact ⟨hi, fun y H' ⟨e1, e2⟩ => by subst e1; subst e2; exact ⟨B1, Same.refl _, Same.refl _, fun _ _ _ r => r, .int _⟩⟩
  · cases hd
def rg3D (ds : List D) : Option (List D) := (lr3D ds).bind fun d => match d with
  | .list xs => some xs
  | _ => none
theorem ci_rg3 {t : TA} {f : FG (List D)} (h : CA G pn E t f) : CI G pn E (iRng3 t) (rgI rg3D f) := by
  refine CG.bind (t := t) h fun vs ds U e σ H B r p' Q rl ra hf post => ?_
  obtain ⟨c, hc, rfl, rfl⟩ := optG_eq hf
  obtain ⟨d, hd, h2⟩ := Option.bind_eq_some_iff.mp hc
  unfold lr3D at hd
  split at hd
  · split at hd
    · next i j k hk =>
      cases hd
      cases h2
      obtain ⟨g1, g2⟩ := rgC_of hk
      cases ra with
      | cons r1 r2 =>
        cases r2 with
        | cons r2 r3 =>
          cases r3 with
          | cons r3 r4 =>
            cases r4
            cases r1.int_inv
            cases r2.int_inv
            cases r3.int_inv
            exact ⟨i, j, k, _, rfl, g1, post _ H B rl (Same.refl _) Keep.refl walks_c⟩
    · cases hd
  · cases hd
/-! ### a, b = [], [] -/
def parOO (i j : Nat) (f g : FG D) : FS := thenS f fun a => thenS g fun b e => if i < e.sl.length ∧ j < e.sl.length ∧ i ≠ j then some (.nx, ⟨(e.sl.set i (.o a)).set j (.o b), e.pen⟩) else none
/-- two new objects at once -/
theorem cs_parOO {i j : Nat} {t u : TE} {f g : FG D} (h1 : CF G pn E t f) (h2 : CF G pn E u g) : CS G pn E (tPar i j (tCons t (tCons u tNil))) (parOO i j f g) := by
  intro U e σ H B r e' Dn rl hf post
  rcases thenS_inv hf with ⟨c, ns, ds, q, hx, rfl, rfl⟩ | ⟨a, q, hx, hg⟩
  · exact h1 U e σ H B _ _ _ rl hx post
  · refine h1 U e σ H B _ _ _ rl hx fun p H1 B1 fr s1 k1 => ?_
    -- the first one stands by, as what is not touched
    obtain ⟨o, ho⟩ := fr.o.at
    obtain ⟨os, ss, nn, ff, np⟩ := fr.s
    obtain ⟨n1, n2, n3⟩ := fr.n
    have rlU : Rl G (upd U p o) pn ⟨e.sl, q⟩ σ H1 B1 := by
      refine ⟨⟨fr.b.bh, fun a x hx => ?_, fun a x hx => ?_, fun z hz => ?_⟩, os, ss, nn, fun z hz => ?_⟩
      · by_cases y : a = p
        · rw [y, upd_same] at hx; rw [y, ho]; exact hx
        · rw [upd_ne y] at hx; exact fr.b.uh a x hx
      · rw [upd_ne (ne_of_none hx n1)]; exact fr.b.bu a x hx
      · obtain ⟨a1, a2, a3, a4⟩ := fr.b.pen z hz
        exact ⟨a1, (upd_ne (fun y => n3 z hz y.symm)).trans a2, a3, a4⟩
      · obtain ⟨a1, a2, a3⟩ := ff z hz
        exact ⟨a1, (upd_ne (fun y => np (by rw [← y]; exact hz))).trans a2, a3⟩
    rcases thenS_inv hg with ⟨c, ns, ds, q2, hx2, rfl, rfl⟩ | ⟨b, q2, hx2, hg2⟩
    · refine h2 _ _ σ H1 B1 _ _ _ rlU hx2 fun cls ao H' B' b s x => ?_
      refine post cls ao H' B' ⟨b.bh, fun a o' h => b.uh a o' ((upd_ne (ne_of_none h n2)).trans h), fun a o' h => ?_, fun z hz => ?_⟩ (s1.trans s) x
      · have := b.bu a o' h
        by_cases y : a = p
        · rw [y]; exact n2
        · rw [upd_ne y] at this; exact this
      · obtain ⟨a1, a2, a3, a4⟩ := b.pen z hz
        rw [upd_ne (fun y => n3 z hz y.symm)] at a2
        exact ⟨a1, a2, a3, a4⟩
    · refine h2 _ _ σ H1 B1 _ _ _ rlU hx2 fun p2 H2 B2 fr2 s2 k2 => ?_
      dsimp only at hg2
      split at hg2
      · next hij =>
        cases hg2
        refine ⟨_, _, rfl, ?_⟩
        obtain ⟨os2, ss2, nn2, ff2, np2⟩ := fr2.s
        obtain ⟨m1, m2, m3⟩ := fr2.n
        have hp2 : H2 p = some o := fr2.b.uh p o upd_same
        have hBp : B2 p = none := by
          cases h : B2 p with
          | none => rfl
          | some x => have := fr2.b.bu p x h; rw [upd_same] at this; cases this
        have ne : p2 ≠ p := fun z => by rw [z, upd_same] at m2; cases m2
        have hpo : p ∉ os2 := fun z => by have := (ff2 p z).2.1; rw [upd_same] at this; cases this
        have hU2 : U p2 = none := by rw [upd_ne ne] at m2; exact m2
        have ow : OwnAt G B2 H2 p a := (fr.o.keep (by rw [hp2, ho]) s2)
        have base : Base U pn q2 H2 B2 := by
          refine ⟨fr2.b.bh, fun a x hx => fr2.b.uh a x ((upd_ne (ne_of_none hx n2)).trans hx), fun a x hx => ?_, fun z hz => ?_⟩
          · have := fr2.b.bu a x hx
            by_cases y : a = p
            · rw [y]; exact n2
            · rw [upd_ne y] at this; exact this
          · obtain ⟨a1, a2, a3, a4⟩ := fr2.b.pen z hz
            rw [upd_ne (fun y => n3 z hz y.symm)] at a2
            exact ⟨a1, a2, a3, a4⟩
        have fr3 : Fresh G U pn ⟨e.sl, q2⟩ σ H2 B2 p a := ⟨base, ⟨os2, ss2, nn2, fun z hz => by
          obtain ⟨a1, a2, a3⟩ := ff2 z hz
          rw [upd_ne (fun y => hpo (by rw [← y]; exact hz))] at a2
          exact ⟨a1, a2, a3⟩, hpo⟩, ow, hBp, n2, n3⟩
        have rl3 := fr3.setO (i := i) hij.1
        obtain ⟨b3, os3, ss3, nn3, ff3⟩ := rl3
        have hp3 : p2 ∉ os3 := fun z => by
          obtain ⟨os4, s4, sb4, _⟩ := Slots.setO ow i hij.1 ss2
          have e3 := ss3.own
          have e4 := s4.own
          rw [← e4] at e3
          subst e3
          rcases sb4 p2 z with y | y
          · exact ne y
          · exact np2 y
        have fr4 : Fresh G U pn ⟨e.sl.set i (.o a), q2⟩ (σ.set i (some (.ref p))) H2 B2 p2 b := ⟨b3, ⟨os3, ss3, nn3, ff3, hp3⟩, fr2.o, m1, hU2, m3⟩
        exact post _ H2 B2 (fr4.setO (i := j) (by rw [List.length_set]; exact hij.2.1)) (s1.trans s2)
      · cases hg2
end
end Fw

set_option linter.all false
set_option maxRecDepth 100000
set_option maxHeartbeats 4000000
namespace Fw
open PySem PySem.Spec PyProof.Rows L2
section
variable {α β : Type} {G : Gm} {U : Hp} {pn : Pn} {E : XK} {e : Ev} {σ : L2.St} {H B H' B' H1 B1 : Hp}
/-! ### operations that lay a new list -/
def OpF (G : Gm) (pn : Pn) (r : R2) (φ : D → D → Option D) : Prop := ∀ U e σ H B x y a b c (Q : VK), Rl G U pn e σ H B → RzB G pn B H x a → RzB G pn B H y b → φ a b = some c →
  (∀ p H' B', Fresh G U pn e σ H' B' p c → Same B B' → Keep pn H H' → Q (.ref p) H') → r x y H Q
theorem cf_op {r : R2} {φ : D → D → Option D} {ta tb : TE} {f g : FG D} (hr : OpF G pn r φ) (h1 : CB G pn E ta f) (h2 : CB G pn E tb g) : CF G pn E (tOp r ta tb) (op2 φ f g) := by
  refine CF.bind (t := ta) h1 fun v a U e σ H B r p' Q rl ra hf post => ?_
  rcases bind_inv hf with ⟨c, ns, ds, hx, rfl⟩ | ⟨b, q, hx, hg⟩
  · exact h2 U e σ H B _ _ _ rl hx post
  · refine h2 U e σ H B _ _ _ rl hx fun w H1 B1 rl1 s1 k1 rb => ?_
    obtain ⟨c, hc, rfl, rfl⟩ := optG_eq hg
    exact hr U _ σ H1 B1 v w a b c Q rl1 (ra.keep k1 s1) rb hc fun p H' B' fr s k => post p H' B' fr (s1.trans s) (k1.trans k)
def dRep : D → D → Option D
  | .list a, .int k => if k ≤ 100000 ∧ a.length * k.toNat ≤ 1000000 ∧ -100000 ≤ k then some (.list (List.replicate k.toNat a).flatten) else none
  | _, _ => none
theorem of_rep : OpF G pn uMul dRep := by
  intro U e σ H B x y a b c Q rl ra rb h q
  unfold dRep at h
  split at h
  · split at h
    · next hz =>
      cases h
      obtain ⟨a1, xs, rfl, h1, n1, r1⟩ := ra.lst_inv
      cases rb.int_inv
      exact .inr ⟨a1, _, xs, rfl, rfl, h1, by omega, by omega, by rw [r1.length]; exact line_of hz.2.1, fun p hp => q p _ B (rl.fresh hp (.lst upd_same (r1.flat _))) (Same.refl _) (Keep.of (same_upd hp))⟩
    · cases h
  · cases h
def dCat : D → D → Option D
  | .list a, .list b => few (a ++ b) (.list (a ++ b))
  | _, _ => none
theorem of_cat : OpF G pn (uAdd G.K) dCat := by
  intro U e σ H B x y a b c Q rl ra rb h q
  unfold dCat at h
  split at h
  · obtain ⟨hl, rfl⟩ := few_eq h
    obtain ⟨a1, xs, rfl, h1, n1, r1⟩ := ra.lst_inv
    obtain ⟨a2, ys, rfl, h2, n2, r2⟩ := rb.lst_inv
    have r := r1.app r2
    refine .inr (.inl ⟨a1, a2, xs, ys, rfl, rfl, h1, h2, ?_, fun p hp => q p _ B (rl.fresh hp (.lst upd_same r)) (Same.refl _) (Keep.of (same_upd hp))⟩)
    rw [← List.length_append, r.length]; exact line_of hl
  · cases h
/-! ### the pen -/
def okP (p : PenS) : Bool := decide (p.ns.length ≤ 63) && decide (0 ≤ p.a) && decide (0 ≤ p.d) && decide (0 ≤ p.n) && decide (p.n < 1000000000) && decide (0 ≤ p.f) && decide (p.f < 2147483587)
def penStep (p : PenS) : PenS :=
  if p.d = 0 ∧ p.a < p.ns.length then
    if 10 ^ 18 ≤ p.ns.getD p.a.toNat 0 then ⟨p.ns, p.a + 1, p.ns.getD p.a.toNat 0 - 10 ^ 18, p.n + 1, p.f⟩
    else ⟨p.ns, p.a + 1, p.d, p.n + 1, (p.f * 69069 + p.ns.getD p.a.toNat 0).fmod 2147483587⟩
  else ⟨p.ns, p.a, p.d, p.n + 1, p.f⟩
def penDraw (p : PenS) (m : Int) : Int × PenS :=
  let q := penStep p
  if 0 < q.d then (q.d.fmod m, ⟨q.ns, q.a, q.d.fdiv m, q.n, q.f⟩)
  else ((((q.f + q.n * 8111 + 57) ^ 17).fmod 2305843009213693951).fdiv 128 |>.fmod m, q)
def drawF : FF := fun ds p => match ds with
  | [.int m] => if okP p = true ∧ 0 < m ∧ m < 1000000 then some (.v (.int (penDraw p m).1), (penDraw p m).2) else none
  | _ => none
theorem okP_eq {p : PenS} (h : okP p = true) : p.ns.length ≤ 63 ∧ 0 ≤ p.a ∧ 0 ≤ p.d ∧ 0 ≤ p.n ∧ p.n < 1000000000 ∧ 0 ≤ p.f ∧ p.f < 2147483587 := by
  unfold okP at h
  simpa [and_assoc] using h
/-- what stands ahead of the k-th draw at the latest -/
structure GoodP (k : Int) (p : PenS) : Prop where
  ok : okP p = true
  le : p.n ≤ k
theorem fmod_lo (a : Int) {m : Int} (h : 0 < m) : 0 ≤ a.fmod m := Int.fmod_nonneg_of_pos _ h
theorem fmod_hi (a : Int) {m : Int} (h : 0 < m) : a.fmod m < m := Int.fmod_lt_of_pos _ h
theorem penStep_ok {k : Int} {p : PenS} (h : GoodP k p) (hk : k < 999999999) : GoodP (k + 1) (penStep p) := by
  obtain ⟨h1, h2, h3, h4, h5, h6, h7⟩ := okP_eq h.ok
  have hle := h.le
  unfold penStep
  split
  · split
    · next z1 z2 =>
      have hp : (10 : Int) ^ 18 = 1000000000000000000 := by decide
      refine ⟨?_, by show p.n + 1 ≤ _; omega⟩
      unfold okP
      simp only [Bool.and_eq_true, decide_eq_true_eq]
      refine ⟨⟨⟨⟨⟨⟨h1, by omega⟩, by omega⟩, by omega⟩, by omega⟩, h6⟩, h7⟩
    · refine ⟨?_, by show p.n + 1 ≤ _; omega⟩
      unfold okP
      simp only [Bool.and_eq_true, decide_eq_true_eq]
      exact ⟨⟨⟨⟨⟨⟨h1, by omega⟩, h3⟩, by omega⟩, by omega⟩, fmod_lo _ (by decide)⟩, fmod_hi _ (by decide)⟩
  · refine ⟨?_, by show p.n + 1 ≤ _; omega⟩
    unfold okP
    simp only [Bool.and_eq_true, decide_eq_true_eq]
    exact ⟨⟨⟨⟨⟨⟨h1, h2⟩, h3⟩, by omega⟩, by omega⟩, h6⟩, h7⟩
theorem draw_spec {k m : Int} {p : PenS} (h : GoodP k p) (hk : k < 999999999) (hm : 0 < m) (hm2 : m < 1000000) :
    ∃ d p', drawF [.int m] p = some (.v (.int d), p') ∧ 0 ≤ d ∧ d < m ∧ GoodP (k + 1) p' := by
  have hs := penStep_ok h hk
  obtain ⟨h1, h2, h3, h4, h5, h6, h7⟩ := okP_eq hs.ok
  refine ⟨(penDraw p m).1, (penDraw p m).2, if_pos ⟨h.ok, hm, hm2⟩, ?_, ?_, ?_⟩
  · unfold penDraw
    simp only
    split
    · exact fmod_lo _ hm
    · exact fmod_lo _ hm
  · unfold penDraw
    simp only
    split
    · exact fmod_hi _ hm
    · exact fmod_hi _ hm
  · unfold penDraw
    simp only
    split
    · refine ⟨?_, hs.le⟩
      unfold okP
      simp only [Bool.and_eq_true, decide_eq_true_eq]
      exact ⟨⟨⟨⟨⟨⟨h1, h2⟩, Int.fdiv_nonneg h3 (by omega)⟩, h4⟩, h5⟩, h6⟩, h7⟩
    · exact hs
end
end Fw

set_option linter.all false
set_option maxRecDepth 100000
set_option maxHeartbeats 4000000
namespace Fw
open PySem PySem.Spec PyProof.Rows L2
/-! ### a law: its pen, then the rest -/
def spPen (K : PySem.W.Frag) : Sp := fun vs H Q _ => ∃ (a : Addr) (ns : List Int), vs = [.ref a] ∧ SqL K H a (ns.map V.int) ∧ ns.length ≤ 63 ∧
  ∀ p c H' (pp : PenS), H p = none → H c = none → p ≠ c → Same H H' → GoodP 0 pp → H' p = some (.dK (Fw.penD c pp)) → H' c = some (.lst (pp.ns.map V.int)) → Q (.ref p) H'
def spLaw (K : PySem.W.Frag) : Sp := fun vs H Q _ => ∃ (a : Addr) (ns : List Int), vs = [.ref a] ∧ SqL K H a (ns.map V.int) ∧ ns.length ≤ 63 ∧ ∀ H', Q (.bl true) H'
def lawSl (n : Nat) : List Slot := .u :: .p :: List.replicate (n - 2) .u
theorem law_run {G : Gm} {rest : TS} {f : FS} {N : List Str} {E' E : XK} {vs : List V} {H : Hp} {Q : VK} (hcs : ∀ pn, CS G pn E0 rest f) (hn : 2 ≤ N.length)
    (hf : ∀ pp, GoodP 0 pp → ∃ e', f ⟨lawSl N.length, pp⟩ = some (.rt (.bool true), e')) (h : spLaw G.K vs H Q E) :
    tSeq (tAsg (tCall (spPen G.K) [] E' (tCons (tVar 0) tNil)) (gName 1)) rest { nx := fun _ H' => Q .non H', rt := Q } (L2.start N vs) H := by
  obtain ⟨a, ns, rfl, hS, hl, q⟩ := h
  have hs : L2.start N [V.ref a] = some (.ref a) :: none :: List.replicate (N.length - 2) none := by
    obtain ⟨k, hk⟩ : ∃ k, N.length = k + 2 := ⟨N.length - 2, by omega⟩
    unfold L2.start
    rw [hk]
    show some (V.ref a) :: List.replicate (k + 2 - 1) none = _
    rw [show k + 2 - 1 = k + 1 by omega, show k + 2 - 2 = k by omega]
    rfl
  refine ⟨.ref a, by rw [hs]; rfl, a, ns, rfl, hS, hl, fun p c H1 pp hp hc ne s1 g hp1 hc1 => ?_⟩
  obtain ⟨e', he⟩ := hf pp g
  show rest _ ((L2.start N [V.ref a]).set 1 (some (.ref p))) H1
  rw [hs]
  refine hcs (some (p, c)) (fun _ => none) _ _ _ (upd (fun _ => none) c (.lst (pp.ns.map V.int))) _ _ _ ?_ he fun v H' B' b s rz => ?_
  · refine ⟨⟨fun x o hx => ?_, fun x o hx => (by cases hx), fun _ _ _ => rfl, fun z hz => ?_⟩, [], ?_, .nil, fun z hz => (by cases hz)⟩
    · by_cases y : x = c
      · rw [y, upd_same] at hx; rw [y, hc1]; exact hx
      · rw [upd_ne y] at hx; cases hx
    · cases hz
      exact ⟨upd_ne ne, rfl, hp1, upd_same⟩
    · exact .u (.p (c := c) rfl (Slots.us _))
  · rw [rz.bl_inv]
    exact q H'
/-- over an unknown heap, with a name that holds the pen -/
theorem cs_law {G : Gm} {rest : TS} {f : FS} (h : ∀ pn, CS G pn E0 rest f) : ∀ pn, CS G pn E0 rest f := h
end Fw

set_option linter.all false
set_option maxRecDepth 100000
set_option maxHeartbeats 4000000
namespace Fw
open PySem PySem.Spec PyProof.Rows L2
/-! ### what does not draw: the pen is handed on -/
def withP {α : Type} (p : PenS) (r : α × PenS) : α × PenS := (r.1, p)
def withS {α : Type} (p : PenS) (r : α × Ev) : α × Ev := (r.1, ⟨r.2.sl, p⟩)
def Pg {α : Type} (f : FG α) : Prop := ∀ sl p, f ⟨sl, p⟩ = (f ⟨sl, pen0⟩).map (withP p)
def Ps (f : FS) : Prop := ∀ sl p, f ⟨sl, p⟩ = (f ⟨sl, pen0⟩).map (withS p)
def Pv (f : D → Ev → Option Ev) : Prop := ∀ d sl p, f d ⟨sl, p⟩ = (f d ⟨sl, pen0⟩).map fun e => ⟨e.sl, p⟩
def Pvs (f : List D → Ev → Option Ev) : Prop := ∀ d sl p, f d ⟨sl, p⟩ = (f d ⟨sl, pen0⟩).map fun e => ⟨e.sl, p⟩
section
variable {α β : Type}
theorem pg_ret {a : α} : Pg (retG a) := fun _ _ => rfl
theorem pg_opt {o : Option α} : Pg (optG o) := fun _ _ => by cases o <;> rfl
theorem pg_none : Pg (fun _ => none : FG α) := fun _ _ => rfl
theorem pg_bind {f : FG α} {g : α → FG β} (h1 : Pg f) (h2 : ∀ a, Pg (g a)) : Pg (Fw.bindG f g) := fun sl p => by
  unfold Fw.bindG
  rw [h1 sl p]
  cases hf : f ⟨sl, pen0⟩ with
  | none => rfl
  | some r =>
    obtain ⟨r, q⟩ := r
    cases r with
    | x c ns ds => rfl
    | v a =>
      show g a ⟨sl, p⟩ = (g a ⟨sl, q⟩).map (withP p)
      rw [h2 a sl p, h2 a sl q]
      cases g a ⟨sl, pen0⟩ <;> rfl
theorem pg_slotD {i : Nat} : Pg (slotD i) := fun sl p => by
  unfold slotD
  dsimp only
  split <;> rfl
theorem pg_slotB {i : Nat} : Pg (slotB i) := fun sl p => by
  unfold slotB
  dsimp only
  split <;> rfl
theorem pg_if {c : Prop} [Decidable c] {f g : FG α} (h1 : Pg f) (h2 : Pg g) : Pg (if c then f else g) := by
  split <;> assumption
theorem pg_callN {n : Nat} {F : FF} {f : FG (List D)} (h : Pg f) : Pg (callN n F f) := by
  refine pg_bind h fun ds sl p => ?_
  dsimp only
  split
  · split <;> rfl
  · rfl
theorem pg_callX {n : Nat} {F : FF} {f : FG (List D)} (h : Pg f) : Pg (callX n F f) := by
  refine pg_bind h fun ds sl p => ?_
  dsimp only
  split
  · split <;> rfl
  · rfl
theorem lcL_pen {slw : List Slot} {ft : FT} {test : FG Bool} {elt : FG D} (h1 : Pg test) (h2 : Pg elt) : ∀ (ds : List D) (p : PenS), lcL slw ft test elt ds p = (lcL slw ft test elt ds pen0).map (withP p)
  | [], p => rfl
  | d :: ds, p => by
    unfold lcL
    split
    · rfl
    · next sl hs =>
      rw [h1 sl p]
      cases ht : test ⟨sl, pen0⟩ with
      | none => rfl
      | some r =>
        obtain ⟨r, q⟩ := r
        cases r with
        | x c ns es => rfl
        | v b =>
          cases b with
          | false =>
            show lcL slw ft test elt ds p = (lcL slw ft test elt ds q).map (withP p)
            rw [lcL_pen h1 h2 ds p, lcL_pen h1 h2 ds q]
            cases lcL slw ft test elt ds pen0 <;> rfl
          | true =>
            show (match elt ⟨sl, p⟩ with
              | some (.v x, p2) => (lcL slw ft test elt ds p2).map fun (r : List D × PenS) => (x :: r.1, r.2)
              | _ => none) = (match elt ⟨sl, q⟩ with
              | some (.v x, p2) => (lcL slw ft test elt ds p2).map fun (r : List D × PenS) => (x :: r.1, r.2)
              | _ => none).map (withP p)
            rw [h2 sl p, h2 sl q]
            cases he : elt ⟨sl, pen0⟩ with
            | none => rfl
            | some r =>
              obtain ⟨r, q2⟩ := r
              cases r with
              | x c ns es => rfl
              | v y =>
                show (lcL slw ft test elt ds p).map _ = ((lcL slw ft test elt ds q).map _).map _
                rw [lcL_pen h1 h2 ds p, lcL_pen h1 h2 ds q]
                cases lcL slw ft test elt ds pen0 <;> rfl
theorem pg_lc {vs : List Nat} {fi : FG (List D)} {ft : FT} {test : FG Bool} {elt : FG D} (h0 : Pg fi) (h1 : Pg test) (h2 : Pg elt) : Pg (lcG vs fi ft test elt) := by
  refine pg_bind h0 fun ds sl p => ?_
  dsimp only
  split
  · rfl
  · rw [lcL_pen h1 h2 ds p]
    cases lcL (wipeS sl vs) ft test elt ds pen0 with
    | none => rfl
    | some r =>
      obtain ⟨xs, q⟩ := r
      show (if xs.length ≤ 1000000 then _ else _) = (if xs.length ≤ 1000000 then _ else _ : Option (Rs D × PenS)).map _
      split <;> rfl
theorem pg_pairs : ∀ {fs : List (Key × FG D)}, (∀ f ∈ fs, Pg f.2) → Pg (pairsG fs)
  | [], _ => pg_ret
  | f :: fs, h => pg_bind (h f (.head _)) fun _ => pg_bind (pg_pairs fun g hg => h g (.tail _ hg)) fun _ => pg_ret
theorem pg_disp {fs : List (Key × FG D)} (h : ∀ f ∈ fs, Pg f.2) : Pg (dispG fs) := by
  refine pg_bind (pg_pairs h) fun ds => ?_
  split
  · exact pg_ret
  · exact pg_none
theorem ps_next : Ps nextS := fun _ _ => rfl
theorem ps_brk : Ps breakS := fun _ _ => rfl
theorem ps_cnt : Ps contS := fun _ _ => rfl
theorem ps_none : Ps (fun _ => none) := fun _ _ => rfl
theorem ps_seq {f g : FS} (h1 : Ps f) (h2 : Ps g) : Ps (seqS f g) := fun sl p => by
  unfold seqS
  rw [h1 sl p]
  cases hf : f ⟨sl, pen0⟩ with
  | none => rfl
  | some r =>
    obtain ⟨r, e⟩ := r
    cases r with
    | nx =>
      show g ⟨e.sl, p⟩ = (g e).map (withS p)
      rw [h2 e.sl p, show g e = _ from h2 e.sl e.pen]
      cases g ⟨e.sl, pen0⟩ <;> rfl
    | _ => rfl
theorem ps_then {f : FG α} {g : α → FS} (h1 : Pg f) (h2 : ∀ a, Ps (g a)) : Ps (thenS f g) := fun sl p => by
  unfold thenS
  rw [h1 sl p]
  cases hf : f ⟨sl, pen0⟩ with
  | none => rfl
  | some r =>
    obtain ⟨r, q⟩ := r
    cases r with
    | x c ns ds => rfl
    | v a =>
      show g a ⟨sl, p⟩ = (g a ⟨sl, q⟩).map (withS p)
      rw [h2 a sl p, h2 a sl q]
      cases g a ⟨sl, pen0⟩ <;> rfl
theorem ps_ite {c : Prop} [Decidable c] {f g : FS} (h1 : Ps f) (h2 : Ps g) : Ps (if c then f else g) := by
  split <;> assumption
theorem ps_ifS {c : FG Bool} {f g : FS} (h0 : Pg c) (h1 : Ps f) (h2 : Ps g) : Ps (ifS c f g) := ps_then h0 fun _ => ps_ite h1 h2
theorem ps_retS {f : FG D} (h : Pg f) : Ps (retS f) := ps_then h fun _ _ _ => rfl
theorem ps_dropS {f : FG D} (h : Pg f) : Ps (dropS f) := ps_then h fun _ _ _ => rfl
theorem ps_asgS {f : FG D} {t : FT} (h : Pg f) : Ps (asgS f t) := ps_then h fun d sl p => by
  dsimp only
  cases t d sl <;> rfl
theorem ps_asgO {f : FG D} {i : Nat} (h : Pg f) : Ps (asgO f i) := ps_then h fun d sl p => by
  dsimp only
  split <;> rfl
theorem ps_asgV {f : FG D} {t : FV} (h : Pg f) (ht : Pv t) : Ps (asgV f t) := ps_then h fun d sl p => by
  rw [ht d sl p]
  cases t d ⟨sl, pen0⟩ <;> rfl
theorem pv_name {i : Nat} : Pv (nameV i) := fun _ _ _ => rfl
theorem pv_nil : Pvs nilV := fun d sl p => by cases d <;> rfl
theorem pv_cons {f : FV} {g : FVs} (h1 : Pv f) (h2 : Pvs g) : Pvs (consV f g) := fun d sl p => by
  cases d with
  | nil => rfl
  | cons d r =>
    show (f d ⟨sl, p⟩).bind (g r) = ((f d ⟨sl, pen0⟩).bind (g r)).map _
    rw [h1 d sl p]
    cases f d ⟨sl, pen0⟩ with
    | none => rfl
    | some e =>
      show g r ⟨e.sl, p⟩ = (g r e).map _
      rw [h2 r e.sl p, show g r e = _ from h2 r e.sl e.pen]
      cases g r ⟨e.sl, pen0⟩ <;> rfl
theorem pv_tup {n : Nat} {f : FVs} (h : Pvs f) : Pv (tupV n f) := fun d sl p => by
  cases d with
  | tuple ds =>
    show (if ds.length = n then f ds ⟨sl, p⟩ else none) = (if ds.length = n then f ds ⟨sl, pen0⟩ else none).map _
    split
    · exact h ds sl p
    · rfl
  | _ => rfl
theorem ps_parS {i j : Nat} {f : FG (List D)} (h : Pg f) : Ps (parS i j f) := ps_then h fun d sl p => by
  dsimp only
  split <;> rfl
theorem ps_par3S {i j l : Nat} {f : FG (List D)} (h : Pg f) : Ps (par3S i j l f) := ps_then h fun d sl p => by
  dsimp only
  split <;> rfl
theorem ps_parOO {i j : Nat} {f g : FG D} (h1 : Pg f) (h2 : Pg g) : Ps (parOO i j f g) := ps_then h1 fun a => ps_then h2 fun b sl p => by
  dsimp only
  split <;> rfl
theorem ps_rel {i : Nat} {f : FS} (h : Ps f) : Ps (relS i f) := fun sl p => by
  unfold relS
  dsimp only
  split
  · exact h _ p
  · exact h _ p
  · rfl
theorem ownL_pen {i : Nat} {sl : List Slot} {p : PenS} : ownL i ⟨sl, p⟩ = ownL i ⟨sl, pen0⟩ := rfl
theorem ps_app {i : Nat} {f : FG D} (h : Pg f) : Ps (appS i f) := fun sl p => by
  unfold appS
  rw [ownL_pen]
  cases ownL i ⟨sl, pen0⟩ with
  | none => rfl
  | some ds =>
    rw [Option.bind_some, Option.bind_some]
    refine ps_then h (fun d sl p => ?_) sl p
    rw [ownL_pen]
    cases ownL i ⟨sl, pen0⟩ with
    | none => rfl
    | some ds =>
      show few ds _ = (few ds _).map _
      unfold few
      split <;> rfl
theorem ps_ext {i : Nat} {f : FG D} (h : Pg f) : Ps (extS i f) := fun sl p => by
  unfold extS
  rw [ownL_pen]
  cases ownL i ⟨sl, pen0⟩ with
  | none => rfl
  | some ds =>
    rw [Option.bind_some, Option.bind_some]
    refine ps_then h (fun d sl p => ?_) sl p
    dsimp only
    split
    · rw [ownL_pen]
      cases ownL i ⟨sl, pen0⟩ with
      | none => rfl
      | some ds =>
        show few _ _ = (few _ _).map _
        unfold few
        split <;> rfl
    · rw [ownL_pen]
      cases ownL i ⟨sl, pen0⟩ with
      | none => rfl
      | some ds =>
        show few _ _ = (few _ _).map _
        unfold few
        split <;> rfl
    · rfl
theorem ps_forL {ft : FT} {body : FS} (h : Ps body) : ∀ ds, Ps (forL ft body ds)
  | [] => fun _ _ => rfl
  | d :: ds => fun sl p => by
    unfold forL
    dsimp only
    split
    · rfl
    · next sl' hs =>
      rw [h sl' p]
      cases hb : body ⟨sl', pen0⟩ with
      | none => rfl
      | some r =>
        obtain ⟨r, e⟩ := r
        cases r with
        | nx =>
          show forL ft body ds ⟨e.sl, p⟩ = (forL ft body ds e).map (withS p)
          rw [ps_forL h ds e.sl p, show forL ft body ds e = _ from ps_forL h ds e.sl e.pen]
          cases forL ft body ds ⟨e.sl, pen0⟩ <;> rfl
        | ct =>
          show forL ft body ds ⟨e.sl, p⟩ = (forL ft body ds e).map (withS p)
          rw [ps_forL h ds e.sl p, show forL ft body ds e = _ from ps_forL h ds e.sl e.pen]
          cases forL ft body ds ⟨e.sl, pen0⟩ <;> rfl
        | _ => rfl
theorem ps_for {fi : FG (List D)} {ft : FT} {body : FS} (h0 : Pg fi) (h : Ps body) : Ps (forS fi ft body) := ps_then h0 fun ds => ps_forL h ds
end
/-- some slots forgotten: nothing runs -/
def wipS (vs : List Nat) (f : FS) : FS := fun e => f ⟨wipeS e.sl vs, e.pen⟩
theorem Rl.forget {G : Gm} {U : Hp} {pn : Pn} {e : Ev} {σ : L2.St} {H B : Hp} (r : Rl G U pn e σ H B) (i : Nat) : Rl G U pn ⟨e.sl.set i .u, e.pen⟩ σ H B := by
  have z := r.setU (w := (σ[i]?).getD none) i
  have e1 : σ.set i ((σ[i]?).getD none) = σ := by
    refine List.ext_getElem? fun j => ?_
    rw [List.getElem?_set]
    split
    · next h =>
      subst h
      split
      · next hl => rw [List.getElem?_eq_getElem hl]; rfl
      · next hl => rw [List.getElem?_eq_none (by omega)]
    · rfl
  rw [e1] at z
  exact z
theorem cs_wip {G : Gm} {pn : Pn} {E : XK} {t : TS} {f : FS} (vs : List Nat) (h : CS G pn E t f) : CS G pn E t (wipS vs f) := by
  intro U e σ H B r e' Dn rl hf post
  have : ∀ vs : List Nat, Rl G U pn ⟨wipeS e.sl vs, e.pen⟩ σ H B := by
    intro vs
    induction vs with
    | nil => exact rl
    | cons v vs ih => exact ih.forget v
  exact h U _ σ H B r e' Dn (this vs) hf post
end Fw

set_option linter.all false
namespace Sb
open PySem PySem.Spec PyProof.Rows L2
def top (i : Nat) : Stmt := PySem.Challenge.pw_sparkboard_k21_whole_exchanges_and_copie.main.body.getD i (.Pass ⟨0, 0, 0, 0⟩)
end Sb

set_option linter.all false
set_option maxRecDepth 100000
set_option maxHeartbeats 4000000
namespace Sb
open PySem PySem.Spec PyProof.Rows L2 Fw
section
variable {P : Program} {w : World} {K : PySem.W.Frag} {mg : Str → Option Value} {base : Heap} {XC : Str → Option Addr}
def F__tiles : FS := (retS (op1 dTup (lcG [3] (rgI rg3D (consG (slotD 1) (consG (slotD 2) (consG (retG (.int 2)) (retG []))))) (nameT 3) (retG true) (tupG (consG (slotD 0) (consG (slotD 3) (retG [])))))))
theorem sc__tiles : FnScope ["kind", "first", "end", "row"] ["kind", "first", "end"] (defScope (top 1)) := ⟨rfl, rfl, rfl, by decide +kernel, rfl, by decide +kernel, by decide +kernel⟩
theorem ok__tiles {f : Addr} {fd : FuncData} (F : Fun K "_tiles" "_tiles" (top 1) f fd) (T : Bv mg) :
    FnOk P w K mg base CX0 1 f fd ["kind", "first", "end"] (spN ⟨K, XC⟩ false 3 (defF false 4 F__tiles)) := by
  have sc := sc__tiles
  refine fn_n (G := ⟨K, XC⟩) F sc__tiles (by rfl) (fun cdv A outer s H E hr => ?_)
  refine ⟨_, (pss_one (ps_ret (pe_callTy (show CallR _ _ (uTup K) from c_tuple) (by rfl) T.tuple (by decide +kernel) (pa_cons (pe_lc (own := [("row", 3)]) (g := gName 3) (tt := tYes) rfl sc.nd (pi_range3 (by rfl) T.range (pa_cons (pv 1) (pa_cons (pv 2) (pa_cons pe_int pa_nil)))) (blkOk_by (N := ["kind", "first", "end", "row"]) (sc := defScope (top 1)) (by decide +kernel)) (fun _ _ _ _ _ => (pg_name (i := 3) sc.nd rfl (.inl rfl))) (fun _ _ _ _ _ => pts_nil) (fun _ _ _ _ _ => (pe_tup (pa_cons (pv 0) (pa_cons (pv 3) pa_nil))))) pa_nil)))), fun pn => ?_⟩
  exact (cs_ret (ce_cb1 b_tuple (CF.b (cf_lc (ci_rg3 (ca_cons (ce_var 1) (ca_cons (ce_var 2) (ca_cons ce_int ca_nil)))) (tw_name 3 (by decide)) (fw_name 3 (by decide)) ct_yes (ce_tup (ca_cons (ce_var 0) (ca_cons (ce_var 3) ca_nil)))))))
def F_doubled : FS := (seqS (asgS (op2 dMul (retG (.int 2)) (slotD 1)) (nameT 2))
  (retS (tupG (consG (op2 dAdd (op2 dAdd (callN 3 (defF false 4 F__tiles) (consG (retG (.str "wire")) (consG (retG (.int 0)) (consG (slotD 2) (retG []))))) (tupG (consG (tupG (consG (retG (.str "copy")) (consG (slotD 2) (retG [])))) (retG [])))) (callN 3 (defF false 4 F__tiles) (consG (retG (.str "down")) (consG (op2 dAdd (slotD 2) (retG (.int 2))) (consG (op2 dMul (retG (.int 2)) (slotD 0)) (retG [])))))) (consG (op2 dAdd (callN 3 (defF false 4 F__tiles) (consG (retG (.str "wire")) (consG (retG (.int 0)) (consG (op2 dAdd (slotD 2) (retG (.int 2))) (retG []))))) (callN 3 (defF false 4 F__tiles) (consG (retG (.str "down")) (consG (op2 dAdd (slotD 2) (retG (.int 1))) (consG (op2 dMul (retG (.int 2)) (slotD 0)) (retG [])))))) (retG []))))))
theorem sc_doubled : FnScope ["m", "p", "row"] ["m", "p"] (defScope (top 2)) := ⟨rfl, rfl, rfl, by decide +kernel, rfl, by decide +kernel, by decide +kernel⟩
theorem ok_doubled {f a__tiles : Addr} {fd e__tiles : FuncData} (F : Fun K "doubled" "doubled" (top 2) f fd) (T : Bv mg) (H__tiles : Fn K mg P w base CX0 "_tiles" 1 a__tiles e__tiles ["kind", "first", "end"] (spN ⟨K, XC⟩ false 3 (defF false 4 F__tiles))) :
    FnOk P w K mg base CX0 2 f fd ["m", "p"] (spN ⟨K, XC⟩ false 2 (defF false 3 F_doubled)) := by
  have sc := sc_doubled
  refine fn_n (G := ⟨K, XC⟩) F sc_doubled (by rfl) (fun cdv A outer s H E hr => ?_)
  refine ⟨_, (pss_cons (ps_set (i := 2) sc.nd rfl (.inl rfl) (pe_op o_mul pe_int (pv 1)))
      (pss_one (ps_ret (pe_tup (pa_cons (pe_op (show OpR _ (binaryOp .Add) (uAdd K) from o_add) (pe_op (show OpR _ (binaryOp .Add) (uAdd K) from o_add) (pe_call H__tiles.G (hr.mono (by decide)) (by rfl) H__tiles.g H__tiles.k H__tiles.b .nil pass0 (pa_cons pe_str (pa_cons pe_int (pa_cons (pv 2) pa_nil)))) (pe_tup (pa_cons (pe_tup (pa_cons pe_str (pa_cons (pv 2) pa_nil))) pa_nil))) (pe_call H__tiles.G (hr.mono (by decide)) (by rfl) H__tiles.g H__tiles.k H__tiles.b .nil pass0 (pa_cons pe_str (pa_cons (pe_op (show OpR _ (binaryOp .Add) (uAdd K) from o_add) (pv 2) pe_int) (pa_cons (pe_op o_mul pe_int (pv 0)) pa_nil))))) (pa_cons (pe_op (show OpR _ (binaryOp .Add) (uAdd K) from o_add) (pe_call H__tiles.G (hr.mono (by decide)) (by rfl) H__tiles.g H__tiles.k H__tiles.b .nil pass0 (pa_cons pe_str (pa_cons pe_int (pa_cons (pe_op (show OpR _ (binaryOp .Add) (uAdd K) from o_add) (pv 2) pe_int) pa_nil)))) (pe_call H__tiles.G (hr.mono (by decide)) (by rfl) H__tiles.g H__tiles.k H__tiles.b .nil pass0 (pa_cons pe_str (pa_cons (pe_op (show OpR _ (binaryOp .Add) (uAdd K) from o_add) (pv 2) pe_int) (pa_cons (pe_op o_mul pe_int (pv 0)) pa_nil))))) pa_nil)))))), fun pn => ?_⟩
  exact (cs_seq (cs_asg (ce_op ob_mul (CE.b ce_int) (CE.b (ce_var 1))) (tg_name 2))
    (cs_ret (ce_tup (ca_cons (ce_op ob_add (CE.b (ce_op ob_add (CE.b (ce_callN (ca_cons ce_str (ca_cons ce_int (ca_cons (ce_var 2) ca_nil))))) (CE.b (ce_tup (ca_cons (ce_tup (ca_cons ce_str (ca_cons (ce_var 2) ca_nil))) ca_nil))))) (CE.b (ce_callN (ca_cons ce_str (ca_cons (ce_op ob_add (CE.b (ce_var 2)) (CE.b ce_int)) (ca_cons (ce_op ob_mul (CE.b ce_int) (CE.b (ce_var 0))) ca_nil)))))) (ca_cons (ce_op ob_add (CE.b (ce_callN (ca_cons ce_str (ca_cons ce_int (ca_cons (ce_op ob_add (CE.b (ce_var 2)) (CE.b ce_int)) ca_nil))))) (CE.b (ce_callN (ca_cons ce_str (ca_cons (ce_op ob_add (CE.b (ce_var 2)) (CE.b ce_int)) (ca_cons (ce_op ob_mul (CE.b ce_int) (CE.b (ce_var 0))) ca_nil)))))) ca_nil)))))
def F_exchanged : FS := (seqS (asgS (op2 dMul (retG (.int 2)) (slotD 1)) (nameT 2))
  (seqS (asgS (tupG (consG (tupG (consG (tupG (consG (retG (.str "copy")) (consG (slotD 2) (retG [])))) (consG (tupG (consG (retG (.str "copy")) (consG (op2 dAdd (slotD 2) (retG (.int 2))) (retG [])))) (retG [])))) (consG (tupG (consG (tupG (consG (retG (.str "wire")) (consG (slotD 2) (retG [])))) (consG (tupG (consG (retG (.str "xor")) (consG (op2 dAdd (slotD 2) (retG (.int 1))) (retG [])))) (consG (tupG (consG (retG (.str "wire")) (consG (op2 dAdd (slotD 2) (retG (.int 3))) (retG [])))) (retG []))))) (consG (tupG (consG (tupG (consG (retG (.str "wire")) (consG (slotD 2) (retG [])))) (consG (tupG (consG (retG (.str "copy")) (consG (op2 dAdd (slotD 2) (retG (.int 1))) (retG [])))) (consG (tupG (consG (retG (.str "wire")) (consG (op2 dAdd (slotD 2) (retG (.int 3))) (retG [])))) (retG []))))) (consG (tupG (consG (tupG (consG (retG (.str "xor")) (consG (slotD 2) (retG [])))) (consG (tupG (consG (retG (.str "xor")) (consG (op2 dAdd (slotD 2) (retG (.int 2))) (retG [])))) (retG [])))) (retG [])))))) (nameT 3))
  (retS (op1 dTup (lcG [4] (seqI (slotD 3)) (nameT 4) (retG true) (op2 dAdd (op2 dAdd (callN 3 (defF false 4 F__tiles) (consG (retG (.str "wire")) (consG (retG (.int 0)) (consG (slotD 2) (retG []))))) (slotD 4)) (callN 3 (defF false 4 F__tiles) (consG (retG (.str "wire")) (consG (op2 dAdd (slotD 2) (retG (.int 4))) (consG (op2 dMul (retG (.int 2)) (slotD 0)) (retG [])))))))))))
theorem sc_exchanged : FnScope ["m", "p", "row", "between", "tiles"] ["m", "p"] (defScope (top 3)) := ⟨rfl, rfl, rfl, by decide +kernel, rfl, by decide +kernel, by decide +kernel⟩
theorem ok_exchanged {f a__tiles : Addr} {fd e__tiles : FuncData} (F : Fun K "exchanged" "exchanged" (top 3) f fd) (T : Bv mg) (H__tiles : Fn K mg P w base CX0 "_tiles" 1 a__tiles e__tiles ["kind", "first", "end"] (spN ⟨K, XC⟩ false 3 (defF false 4 F__tiles))) :
    FnOk P w K mg base CX0 2 f fd ["m", "p"] (spN ⟨K, XC⟩ false 2 (defF false 5 F_exchanged)) := by
  have sc := sc_exchanged
  refine fn_n (G := ⟨K, XC⟩) F sc_exchanged (by rfl) (fun cdv A outer s H E hr => ?_)
  refine ⟨_, (pss_cons (ps_set (i := 2) sc.nd rfl (.inr rfl) (pe_op o_mul pe_int (pv 1)))
      (pss_cons (ps_set (i := 3) sc.nd rfl (.inl rfl) (pe_tup (pa_cons (pe_tup (pa_cons (pe_tup (pa_cons pe_str (pa_cons (pv 2) pa_nil))) (pa_cons (pe_tup (pa_cons pe_str (pa_cons (pe_op (show OpR _ (binaryOp .Add) (uAdd K) from o_add) (pv 2) pe_int) pa_nil))) pa_nil))) (pa_cons (pe_tup (pa_cons (pe_tup (pa_cons pe_str (pa_cons (pv 2) pa_nil))) (pa_cons (pe_tup (pa_cons pe_str (pa_cons (pe_op (show OpR _ (binaryOp .Add) (uAdd K) from o_add) (pv 2) pe_int) pa_nil))) (pa_cons (pe_tup (pa_cons pe_str (pa_cons (pe_op (show OpR _ (binaryOp .Add) (uAdd K) from o_add) (pv 2) pe_int) pa_nil))) pa_nil)))) (pa_cons (pe_tup (pa_cons (pe_tup (pa_cons pe_str (pa_cons (pv 2) pa_nil))) (pa_cons (pe_tup (pa_cons pe_str (pa_cons (pe_op (show OpR _ (binaryOp .Add) (uAdd K) from o_add) (pv 2) pe_int) pa_nil))) (pa_cons (pe_tup (pa_cons pe_str (pa_cons (pe_op (show OpR _ (binaryOp .Add) (uAdd K) from o_add) (pv 2) pe_int) pa_nil))) pa_nil)))) (pa_cons (pe_tup (pa_cons (pe_tup (pa_cons pe_str (pa_cons (pv 2) pa_nil))) (pa_cons (pe_tup (pa_cons pe_str (pa_cons (pe_op (show OpR _ (binaryOp .Add) (uAdd K) from o_add) (pv 2) pe_int) pa_nil))) pa_nil))) pa_nil))))))
      (pss_one (ps_ret (pe_callTy (show CallR _ _ (uTup K) from c_tuple) (by rfl) T.tuple (by decide +kernel) (pa_cons (pe_lc (own := [("tiles", 4)]) (g := gName 4) (tt := tYes) rfl sc.nd (show PI _ _ _ (iSeq K _) from pi_seq (pv 3)) (blkOk_by (N := ["m", "p", "row", "between", "tiles"]) (sc := defScope (top 3)) (by decide +kernel)) (fun _ _ _ _ _ => (pg_name (i := 4) sc.nd rfl (.inl rfl))) (fun _ _ _ _ _ => pts_nil) (fun _ _ _ _ _ => (pe_op (show OpR _ (binaryOp .Add) (uAdd K) from o_add) (pe_op (show OpR _ (binaryOp .Add) (uAdd K) from o_add) (pe_call H__tiles.G (hr.mono (by decide)) (by rfl) H__tiles.g H__tiles.k H__tiles.b .nil pass0 (pa_cons pe_str (pa_cons pe_int (pa_cons (pv 2) pa_nil)))) (pv 4)) (pe_call H__tiles.G (hr.mono (by decide)) (by rfl) H__tiles.g H__tiles.k H__tiles.b .nil pass0 (pa_cons pe_str (pa_cons (pe_op (show OpR _ (binaryOp .Add) (uAdd K) from o_add) (pv 2) pe_int) (pa_cons (pe_op o_mul pe_int (pv 0)) pa_nil))))))) pa_nil)))))), fun pn => ?_⟩
  exact (cs_seq (cs_asg (ce_op ob_mul (CE.b ce_int) (CE.b (ce_var 1))) (tg_name 2))
    (cs_seq (cs_asg (ce_tup (ca_cons (ce_tup (ca_cons (ce_tup (ca_cons ce_str (ca_cons (ce_var 2) ca_nil))) (ca_cons (ce_tup (ca_cons ce_str (ca_cons (ce_op ob_add (CE.b (ce_var 2)) (CE.b ce_int)) ca_nil))) ca_nil))) (ca_cons (ce_tup (ca_cons (ce_tup (ca_cons ce_str (ca_cons (ce_var 2) ca_nil))) (ca_cons (ce_tup (ca_cons ce_str (ca_cons (ce_op ob_add (CE.b (ce_var 2)) (CE.b ce_int)) ca_nil))) (ca_cons (ce_tup (ca_cons ce_str (ca_cons (ce_op ob_add (CE.b (ce_var 2)) (CE.b ce_int)) ca_nil))) ca_nil)))) (ca_cons (ce_tup (ca_cons (ce_tup (ca_cons ce_str (ca_cons (ce_var 2) ca_nil))) (ca_cons (ce_tup (ca_cons ce_str (ca_cons (ce_op ob_add (CE.b (ce_var 2)) (CE.b ce_int)) ca_nil))) (ca_cons (ce_tup (ca_cons ce_str (ca_cons (ce_op ob_add (CE.b (ce_var 2)) (CE.b ce_int)) ca_nil))) ca_nil)))) (ca_cons (ce_tup (ca_cons (ce_tup (ca_cons ce_str (ca_cons (ce_var 2) ca_nil))) (ca_cons (ce_tup (ca_cons ce_str (ca_cons (ce_op ob_add (CE.b (ce_var 2)) (CE.b ce_int)) ca_nil))) ca_nil))) ca_nil))))) (tg_name 3))
    (cs_ret (ce_cb1 b_tuple (CF.b (cf_lc (ci_seq (ce_var 3)) (tw_name 4 (by decide)) (fw_name 4 (by decide)) ct_yes (ce_op ob_add (CE.b (ce_op ob_add (CE.b (ce_callN (ca_cons ce_str (ca_cons ce_int (ca_cons (ce_var 2) ca_nil))))) (CE.b (ce_var 4)))) (CE.b (ce_callN (ca_cons ce_str (ca_cons (ce_op ob_add (CE.b (ce_var 2)) (CE.b ce_int)) (ca_cons (ce_op ob_mul (CE.b ce_int) (CE.b (ce_var 0))) ca_nil))))))))))))
def F_led : FS := (seqS (asgS (ifG (testG (op2 dLt (slotD 1) (slotD 2))) (lr2G (slotD 1) (slotD 2)) (lrG (consG (op2 dSub (slotD 1) (retG (.int 1))) (consG (op2 dSub (slotD 2) (retG (.int 1))) (consG (op1 dNeg (retG (.int 1))) (retG [])))))) (nameT 3))
  (seqS (asgO (lstG (retG [])) 4)
  (seqS (forS (seqI (slotD 3)) (nameT 5) (extS 4 (callN 2 (defF false 5 F_exchanged) (consG (slotD 0) (consG (slotD 5) (retG []))))))
  (retS (op1 dTup (slotB 4))))))
theorem sc_led : FnScope ["m", "p", "q", "turns", "stages", "slot"] ["m", "p", "q"] (defScope (top 4)) := ⟨rfl, rfl, rfl, by decide +kernel, rfl, by decide +kernel, by decide +kernel⟩
theorem ok_led {f a_exchanged : Addr} {fd e_exchanged : FuncData} (F : Fun K "led" "led" (top 4) f fd) (T : Bv mg) (H_exchanged : Fn K mg P w base CX0 "exchanged" 2 a_exchanged e_exchanged ["m", "p"] (spN ⟨K, XC⟩ false 2 (defF false 5 F_exchanged))) :
    FnOk P w K mg base CX0 3 f fd ["m", "p", "q"] (spN ⟨K, XC⟩ false 3 (defF false 6 F_led)) := by
  have sc := sc_led
  refine fn_n (G := ⟨K, XC⟩) F sc_led (by rfl) (fun cdv A outer s H E hr => ?_)
  refine ⟨_, (pss_cons (ps_set (i := 3) sc.nd rfl (.inl rfl) (pe_ifExp (pt_cmpR o_lt (pv 1) (pv 2) (nomark _)) (pe_listRg rfl (by rfl) T.list (prg_2 (by rfl) T.range (pv 1) (pv 2))) (pe_lr3 rfl (by rfl) T.range (by rfl) T.list (pa_cons (pe_op o_sub (pv 1) pe_int) (pa_cons (pe_op o_sub (pv 2) pe_int) (pa_cons (pe_un o_neg pe_int) pa_nil))))))
      (pss_cons (ps_set (i := 4) sc.nd rfl (.inl rfl) (pe_lst pa_nil))
      (pss_cons (ps_for PassesOwn.never rfl (show PI _ _ _ (iSeq K _) from pi_seq (pv 3)) (pg_name (i := 5) sc.nd rfl (.inl rfl)) (pss_one (ps_expr (pe_bm PySem.F.plainAttrs_list PySem.F.slot_list_extend PySem.F.type_list_extend mt_ext (pv 4) (pa_cons (pe_call H_exchanged.G (hr.mono (by decide)) (by rfl) H_exchanged.g H_exchanged.k H_exchanged.b .nil pass0 (pa_cons (pv 0) (pa_cons (pv 5) pa_nil))) pa_nil)))))
      (pss_one (ps_ret (pe_callTy (show CallR _ _ (uTup K) from c_tuple) (by rfl) T.tuple (by decide +kernel) (pa_cons (pv 4) pa_nil))))))), fun pn => ?_⟩
  exact (cs_seq (cs_asg (ce_if (ct_test (ce_op ob_lt (CE.b (ce_var 1)) (CE.b (ce_var 2)))) (CF.ce (cf_lr2 (ce_var 1) (ce_var 2))) (CF.ce (cf_lr3 (ca_cons (ce_op ob_sub (CE.b (ce_var 1)) (CE.b ce_int)) (ca_cons (ce_op ob_sub (CE.b (ce_var 2)) (CE.b ce_int)) (ca_cons (ce_un ub_neg (CE.b ce_int)) ca_nil)))))) (tg_name 3))
    (cs_seq (cs_asgO (cf_lst ca_nil))
    (cs_seq (cs_for (ci_seq (ce_var 3)) (tg_name 5) (cs_ext (ce_callN (ca_cons (ce_var 0) (ca_cons (ce_var 5) ca_nil)))))
    (cs_ret (ce_cb1 b_tuple (cb_var 4))))))
def F_made_at : FS := (seqS (asgS (op2 dMul (retG (.int 2)) (slotD 1)) (nameT 3))
  (retS (tupG (consG (op2 dAdd (callN 3 (defF false 4 F__tiles) (consG (retG (.str "wire")) (consG (retG (.int 0)) (consG (op2 dAdd (slotD 3) (retG (.int 2))) (retG []))))) (callN 3 (defF false 4 F__tiles) (consG (retG (.str "up")) (consG (op2 dAdd (slotD 3) (retG (.int 2))) (consG (op2 dMul (retG (.int 2)) (slotD 0)) (retG [])))))) (consG (op2 dAdd (op2 dAdd (callN 3 (defF false 4 F__tiles) (consG (retG (.str "wire")) (consG (retG (.int 0)) (consG (slotD 3) (retG []))))) (tupG (consG (tupG (consG (slotD 2) (consG (slotD 3) (retG [])))) (retG [])))) (callN 3 (defF false 4 F__tiles) (consG (retG (.str "up")) (consG (op2 dAdd (slotD 3) (retG (.int 3))) (consG (op2 dSub (op2 dMul (retG (.int 2)) (slotD 0)) (retG (.int 1))) (retG [])))))) (retG []))))))
theorem sc_made_at : FnScope ["m", "p", "kind", "row"] ["m", "p", "kind"] (defScope (top 5)) := ⟨rfl, rfl, rfl, by decide +kernel, rfl, by decide +kernel, by decide +kernel⟩
theorem ok_made_at {f a__tiles : Addr} {fd e__tiles : FuncData} (F : Fun K "made_at" "made_at" (top 5) f fd) (T : Bv mg) (H__tiles : Fn K mg P w base CX0 "_tiles" 1 a__tiles e__tiles ["kind", "first", "end"] (spN ⟨K, XC⟩ false 3 (defF false 4 F__tiles))) :
    FnOk P w K mg base CX0 2 f fd ["m", "p", "kind"] (spN ⟨K, XC⟩ false 3 (defF false 4 F_made_at)) := by
  have sc := sc_made_at
  refine fn_n (G := ⟨K, XC⟩) F sc_made_at (by rfl) (fun cdv A outer s H E hr => ?_)
  refine ⟨_, (pss_cons (ps_set (i := 3) sc.nd rfl (.inl rfl) (pe_op o_mul pe_int (pv 1)))
      (pss_one (ps_ret (pe_tup (pa_cons (pe_op (show OpR _ (binaryOp .Add) (uAdd K) from o_add) (pe_call H__tiles.G (hr.mono (by decide)) (by rfl) H__tiles.g H__tiles.k H__tiles.b .nil pass0 (pa_cons pe_str (pa_cons pe_int (pa_cons (pe_op (show OpR _ (binaryOp .Add) (uAdd K) from o_add) (pv 3) pe_int) pa_nil)))) (pe_call H__tiles.G (hr.mono (by decide)) (by rfl) H__tiles.g H__tiles.k H__tiles.b .nil pass0 (pa_cons pe_str (pa_cons (pe_op (show OpR _ (binaryOp .Add) (uAdd K) from o_add) (pv 3) pe_int) (pa_cons (pe_op o_mul pe_int (pv 0)) pa_nil))))) (pa_cons (pe_op (show OpR _ (binaryOp .Add) (uAdd K) from o_add) (pe_op (show OpR _ (binaryOp .Add) (uAdd K) from o_add) (pe_call H__tiles.G (hr.mono (by decide)) (by rfl) H__tiles.g H__tiles.k H__tiles.b .nil pass0 (pa_cons pe_str (pa_cons pe_int (pa_cons (pv 3) pa_nil)))) (pe_tup (pa_cons (pe_tup (pa_cons (pv 2) (pa_cons (pv 3) pa_nil))) pa_nil))) (pe_call H__tiles.G (hr.mono (by decide)) (by rfl) H__tiles.g H__tiles.k H__tiles.b .nil pass0 (pa_cons pe_str (pa_cons (pe_op (show OpR _ (binaryOp .Add) (uAdd K) from o_add) (pv 3) pe_int) (pa_cons (pe_op o_sub (pe_op o_mul pe_int (pv 0)) pe_int) pa_nil))))) pa_nil)))))), fun pn => ?_⟩
  exact (cs_seq (cs_asg (ce_op ob_mul (CE.b ce_int) (CE.b (ce_var 1))) (tg_name 3))
    (cs_ret (ce_tup (ca_cons (ce_op ob_add (CE.b (ce_callN (ca_cons ce_str (ca_cons ce_int (ca_cons (ce_op ob_add (CE.b (ce_var 3)) (CE.b ce_int)) ca_nil))))) (CE.b (ce_callN (ca_cons ce_str (ca_cons (ce_op ob_add (CE.b (ce_var 3)) (CE.b ce_int)) (ca_cons (ce_op ob_mul (CE.b ce_int) (CE.b (ce_var 0))) ca_nil)))))) (ca_cons (ce_op ob_add (CE.b (ce_op ob_add (CE.b (ce_callN (ca_cons ce_str (ca_cons ce_int (ca_cons (ce_var 3) ca_nil))))) (CE.b (ce_tup (ca_cons (ce_tup (ca_cons (ce_var 2) (ca_cons (ce_var 3) ca_nil))) ca_nil))))) (CE.b (ce_callN (ca_cons ce_str (ca_cons (ce_op ob_add (CE.b (ce_var 3)) (CE.b ce_int)) (ca_cons (ce_op ob_sub (CE.b (ce_op ob_mul (CE.b ce_int) (CE.b (ce_var 0)))) (CE.b ce_int)) ca_nil)))))) ca_nil)))))
end
end Sb

set_option linter.all false
set_option maxRecDepth 100000
set_option maxHeartbeats 4000000
namespace Sb
open PySem PySem.Spec PyProof.Rows L2 Fw
def penO (c : Addr) (a d n f : Int) : List (Key × V) := [(.inr "cells", .ref c), (.inr "at", .int a), (.inr "digits", .int d), (.inr "count", .int n), (.inr "fold", .int f)]
theorem pen_cells {c : Addr} {a d n f : Int} : valV (penO c a d n f) (.inr "cells") = some (.ref c) := by kernel_rfl
theorem pen_at {c : Addr} {a d n f : Int} : valV (penO c a d n f) (.inr "at") = some (.int a) := by kernel_rfl
theorem pen_digits {c : Addr} {a d n f : Int} : valV (penO c a d n f) (.inr "digits") = some (.int d) := by kernel_rfl
theorem pen_count {c : Addr} {a d n f : Int} : valV (penO c a d n f) (.inr "count") = some (.int n) := by kernel_rfl
theorem pen_fold {c : Addr} {a d n f : Int} : valV (penO c a d n f) (.inr "fold") = some (.int f) := by kernel_rfl
theorem put_at {c : Addr} {a d n f v : Int} : putK (penO c a d n f) (.inr "at") (.int v) = penO c v d n f := by kernel_rfl
theorem put_digits {c : Addr} {a d n f v : Int} : putK (penO c a d n f) (.inr "digits") (.int v) = penO c a v n f := by kernel_rfl
theorem put_count {c : Addr} {a d n f v : Int} : putK (penO c a d n f) (.inr "count") (.int v) = penO c a d v f := by kernel_rfl
theorem put_fold {c : Addr} {a d n f v : Int} : putK (penO c a d n f) (.inr "fold") (.int v) = penO c a d n v := by kernel_rfl

section
variable {H : Hp} {p c : Addr} {a d n f v : Int}
theorem dg_cells (h : H p = some (.dK (penO c a d n f))) : DGet H p (.str "cells") (some (.ref c)) := pen_cells (a := a) (d := d) (n := n) (f := f) ▸ DGet.k (k := Sum.inr "cells") h
theorem dg_at (h : H p = some (.dK (penO c a d n f))) : DGet H p (.str "at") (some (.int a)) := pen_at (c := c) (d := d) (n := n) (f := f) ▸ DGet.k (k := Sum.inr "at") h
theorem dg_digits (h : H p = some (.dK (penO c a d n f))) : DGet H p (.str "digits") (some (.int d)) := pen_digits (a := a) (c := c) (n := n) (f := f) ▸ DGet.k (k := Sum.inr "digits") h
theorem dg_count (h : H p = some (.dK (penO c a d n f))) : DGet H p (.str "count") (some (.int n)) := pen_count (a := a) (d := d) (c := c) (f := f) ▸ DGet.k (k := Sum.inr "count") h
theorem dg_fold (h : H p = some (.dK (penO c a d n f))) : DGet H p (.str "fold") (some (.int f)) := pen_fold (a := a) (d := d) (n := n) (c := c) ▸ DGet.k (k := Sum.inr "fold") h
theorem len_pen : (penO c a d n f).length < sizeLine := by show 5 < sizeLine; decide
theorem dp_at (h : H p = some (.dK (penO c a d n f))) : DPut H p (.str "at") (.int v) (upd H p (.dK (penO c v d n f))) := put_at ▸ DPut.k (k := Sum.inr "at") h len_pen
theorem dp_digits (h : H p = some (.dK (penO c a d n f))) : DPut H p (.str "digits") (.int v) (upd H p (.dK (penO c a v n f))) := put_digits ▸ DPut.k (k := Sum.inr "digits") h len_pen
theorem dp_count (h : H p = some (.dK (penO c a d n f))) : DPut H p (.str "count") (.int v) (upd H p (.dK (penO c a d v f))) := put_count ▸ DPut.k (k := Sum.inr "count") h len_pen
theorem dp_fold (h : H p = some (.dK (penO c a d n f))) : DPut H p (.str "fold") (.int v) (upd H p (.dK (penO c a d n v))) := put_fold ▸ DPut.k (k := Sum.inr "fold") h len_pen
end
section
variable {P : Program} {w : World} {K : PySem.W.Frag} {mg : Str → Option Value} {base : Heap} {XC : Str → Option Addr}
theorem sc_pen : FnScope ["_law_script", "_law_fold", "_law_cell"] ["_law_script"] (defScope (top 7)) := ⟨rfl, rfl, rfl, by decide +kernel, rfl, by decide +kernel, by decide +kernel⟩
theorem ok_pen {f : Addr} {fd : FuncData} (F : Fun K "_law_pen" "_law_pen" (top 7) f fd) (T : Bv mg) : FnOk P w K mg base CX0 1 f fd ["_law_script"] (Fw.spPen K) := by
  have sc := sc_pen
  refine F.ok sc_pen (fun vs H Q E h => ?_) (fun cdv A outer s H vs Q E hr h => ?_)
  · obtain ⟨a, ns, rfl, _⟩ := h
    rfl
  · obtain ⟨a, ns, rfl, hS, hlen, q⟩ := h
    refine ⟨_, (pss_cons (ps_set (i := 1) sc.nd rfl (.inl rfl) pe_int)
      (pss_cons (ps_for PassesOwn.never rfl (pi_list (pv 0)) (pg_name (i := 2) sc.nd rfl (.inl rfl)) (pss_one (ps_set (i := 1) sc.nd rfl (.inl rfl) (pe_op op_modN (pe_callTy call_int1 (by rfl) T.int (by decide +kernel) (pa_cons (pe_op op_add (pe_op op_mul (pv 1) pe_int) (pv 2)) pa_nil)) pe_int))))
      (pss_one (ps_ret (pe_disp (pps_cons pe_str (pe_callTy call_list_of (by rfl) T.list (by decide +kernel) (pa_cons (pv 0) pa_nil)) (pps_cons pe_str pe_int (pps_cons pe_str pe_int (pps_cons pe_str pe_int (pps_cons pe_str (pv 1) pps_nil))))) (by rfl) (by rfl) (fun z => by cases z) (by decide)))))), ?_⟩
    refine ⟨_, rfl, a, rfl, ⟨_, hS⟩, for_list (K := K) (a := a) (xs := ns.map V.int) (fun i σ H' => ∃ f v, σ = [some (.ref a), some (.int f), v] ∧ H' = H ∧ 0 ≤ f ∧ f < 1000000007) ⟨0, none, rfl, rfl, by decide, by decide⟩ (fun i σ H' _ hh => ?_) ?_ ?_⟩
    · obtain ⟨f, v, rfl, rfl, _⟩ := hh
      exact hS
    · rintro i y σ H' hi ⟨f, v, rfl, rfl, h1, h2⟩
      obtain ⟨z, hz, rfl⟩ : ∃ z, ns[i]? = some z ∧ y = V.int z := by
        rw [List.getElem?_map] at hi
        cases e : ns[i]? with
        | none => rw [e] at hi; cases hi
        | some z => rw [e] at hi; exact ⟨z, rfl, (Option.some.inj hi).symm⟩
      refine ⟨_, rfl, _, _, rfl, rfl, .inl ⟨by omega, by omega⟩, _, rfl, _, _, rfl, rfl, .inl ⟨_, rfl, _, _, rfl, rfl, (by show (1000000007 : Int) ≠ 0; decide), _, _, rfl, rfl, ?_, ?_⟩⟩
      · exact Int.fmod_nonneg_of_pos _ (by decide)
      · exact Int.fmod_lt_of_pos _ (by decide)
    · rintro σ H' ⟨f, v, rfl, rfl, h1, h2⟩
      intro p hp
      refine ⟨_, rfl, a, _, rfl, .inl ((same_upd hp).seq hS), fun l hl => ⟨_, rfl, ?_, [(.inr "cells", .ref l), (.inr "at", .int 0), (.inr "digits", .int 0), (.inr "count", .int 0), (.inr "fold", .int f)], rfl, (by show 5 ≤ 15; decide), ?_⟩⟩
      · have e : p ≠ l := fun e => by rw [← e, upd_same] at hl; cases hl
        rw [upd_ne e, upd_same]
      · have e : l ≠ p := fun e => by rw [e, upd_same] at hl; cases hl
        have hl0 : H' l = none := by rw [upd_ne e] at hl; exact hl
        refine q p l _ ⟨ns, 0, 0, 0, f⟩ hp hl0 e.symm (fun b o z => ?_) ⟨?_, Int.le_refl _⟩ ?_ ?_
        · rw [upd_ne (ne_of_none z hp), upd_ne (ne_of_none z hl0), upd_ne (ne_of_none z hp)]
          exact z
        · unfold okP
          simp only [Bool.and_eq_true, decide_eq_true_eq]
          exact ⟨⟨⟨⟨⟨⟨hlen, by decide⟩, by decide⟩, by decide⟩, by decide⟩, h1⟩, by omega⟩
        · rw [upd_same]
          exact congrArg (fun x => some (HO.dK x)) (by kernel_rfl)
        · rw [upd_ne e, upd_same]
theorem sc_draw : FnScope ["_law_pen_here", "_law_many", "_law_cell", "_law_digit", "_law_blend"] ["_law_pen_here", "_law_many"] (defScope (top 8)) := ⟨rfl, rfl, rfl, by decide +kernel, rfl, by decide +kernel, by decide +kernel⟩
theorem ok__law_draw {f : Addr} {fd : FuncData} (F : Fun K "_law_draw" "_law_draw" (top 8) f fd) (T : Bv mg) : FnOk P w K mg base CX0 1 f fd ["_law_pen_here", "_law_many"] (spN ⟨K, XC⟩ true 1 drawF) := by
  have sc := sc_draw
  refine F.ok sc_draw (fun vs H Q E h => spN_len h) (fun cdv A outer s H vs Q E hr h => ?_)
  obtain ⟨pn, U, B, ws, ds, pp, pp', r, rfl, hpn, hn, b, ra, hF, post⟩ := h
  have hu := hu_of hr
  cases pn with
  | none => cases hpn
  | some pc =>
  obtain ⟨p, c⟩ := pc
  obtain ⟨hBp, hUp, hp, hBc⟩ := b.pen _ rfl
  unfold drawF at hF
  split at hF
  · next m =>
    split at hF
    · next hok =>
      cases hF
      obtain ⟨hok, hm, hm2⟩ := hok
      obtain ⟨hln, ha, hd, hn0, hnk, hf, hf2⟩ := okP_eq hok
      cases ra with
      | cons r1 r2 =>
      cases r2
      cases r1.int_inv
      have npc : c ≠ p := fun z => by rw [z, hBp] at hBc; cases hBc
      have hc : H c = some (.lst (pp.ns.map V.int)) := b.bh _ _ hBc
      have fin : ∀ (q : PenS) (x : Int), q.ns = pp.ns → (x, q) = penDraw pp m → Q (.int x) (upd H p (.dK (penO c q.a q.d q.n q.f))) := by
        intro q x hq hx
        have e1 : (penDraw pp m).1 = x := by rw [← hx]
        have e2 : (penDraw pp m).2 = q := by rw [← hx]
        refine post _ _ B ?_ (Same.refl _) ?_
        · rw [e2]
          refine ⟨fun a o h => ?_, fun a o h => ?_, b.bu, fun z hz => ?_⟩
          · rw [upd_ne (ne_of_none h hBp)]; exact b.bh a o h
          · rw [upd_ne (ne_of_none h hUp)]; exact b.uh a o h
          · cases hz
            exact ⟨hBp, hUp, upd_same, by rw [hq]; exact hBc⟩
        · rw [e1]; exact .int _
      refine ⟨_, (pss_cons (ps_dput hu (pv 0) pe_str (pe_op op_add (pe_dget hu (pv 0) pe_str (fun _ _ => rfl)) pe_int) rfl)
      (C8.pss_cut (ps_if (PW.pt (pw_and (pt_cmpR op_eq (pe_dget hu (pv 0) pe_str (fun _ _ => rfl)) pe_int (nomark _)) (pw_and1 (pt_cmpR op_lt (pe_dget hu (pv 0) pe_str (fun _ _ => rfl)) (pe_callB call_len (by rfl) T.len (by decide +kernel) (pa_cons (pe_dget hu (pv 0) pe_str (fun _ _ => rfl)) pa_nil)) (nomark _))))) (pss_cons (ps_set (i := 2) sc.nd rfl (.inl rfl) (pe_ix ix_list (pe_dget hu (pv 0) pe_str (fun _ _ => rfl)) (pe_dget hu (pv 0) pe_str (fun _ _ => rfl)) (fun _ _ => rfl)))
      (pss_cons (ps_dput hu (pv 0) pe_str (pe_op op_add (pe_dget hu (pv 0) pe_str (fun _ _ => rfl)) pe_int) rfl)
      (pss_one (ps_if (pt_cmpR op_ge (pv 2) (pe_op op_pow pe_int pe_int) (nomark _)) (pss_one (ps_dput hu (pv 0) pe_str (pe_op op_sub (pv 2) (pe_op op_pow pe_int pe_int)) rfl)) (pss_one (ps_dput hu (pv 0) pe_str (pe_op op_modN (pe_callTy call_int1 (by rfl) T.int (by decide +kernel) (pa_cons (pe_op op_add (pe_op op_mul (pe_dget hu (pv 0) pe_str (fun _ _ => rfl)) pe_int) (pv 2)) pa_nil)) pe_int) rfl)))))) pss_nil)
      (pss_cons (ps_if (pt_cmpR op_gt (pe_dget hu (pv 0) pe_str (fun _ _ => rfl)) pe_int (nomark _)) (pss_cons (ps_set (i := 3) sc.nd rfl (.inl rfl) (pe_op op_modN (pe_callTy call_int1 (by rfl) T.int (by decide +kernel) (pa_cons (pe_dget hu (pv 0) pe_str (fun _ _ => rfl)) pa_nil)) (pv 1)))
      (pss_cons (ps_dput hu (pv 0) pe_str (pe_op op_fdivN (pe_dget hu (pv 0) pe_str (fun _ _ => rfl)) (pv 1)) rfl)
      (pss_one (ps_ret (pv 3))))) pss_nil)
      (pss_cons (ps_set (i := 4) sc.nd rfl (.inl rfl) (pe_op op_add (pe_op op_add (pe_dget hu (pv 0) pe_str (fun _ _ => rfl)) (pe_op op_mul (pe_dget hu (pv 0) pe_str (fun _ _ => rfl)) pe_int)) pe_int))
      (pss_one (ps_ret (pe_op op_modN (pe_op op_fdivN (pe_callTy call_int1 (by rfl) T.int (by decide +kernel) (pa_cons (pe_op op_modN (pe_op op_pow (pv 4) pe_int) pe_int) pa_nil)) pe_int) (pv 1)))))))), ?_⟩
      have hp : H p = some (.dK (penO c pp.a pp.d pp.n pp.f)) := hp
      refine ⟨_, rfl, p, _, rfl, dg_count hp, _, _, rfl, rfl, _, rfl, p, _, rfl, dp_count hp, ?_⟩
      refine ⟨fun σ' H' => ∃ (v2 : Option V), σ' = [some (.ref p), some (.int m), v2, none, none] ∧ H' = upd H p (.dK (penO c (penStep pp).a (penStep pp).d (penStep pp).n (penStep pp).f)), ?_, ?_⟩
      · refine ⟨_, rfl, p, _, rfl, dg_digits upd_same, rfl, _, rfl, ?_⟩
        refine ite2 (fun e0 => ?_) (fun e0 => ?_)
        · have hd0 : pp.d = 0 := V.int.inj (of_decide_eq_true e0)
          refine ⟨_, rfl, p, _, rfl, dg_at upd_same, _, rfl, p, _, rfl, dg_cells upd_same, _, pp.ns.length, rfl, .inl ⟨_, SqL.of (by rw [upd_ne npc]; exact hc), by rw [List.length_map]⟩, _, _, rfl, rfl, _, rfl, ?_⟩
          refine ite2 (fun e => ?_) (fun e => ?_)
          · have hlt : pp.a < (pp.ns.length : Int) := of_decide_eq_true e
            have han : pp.a.toNat < pp.ns.length := by omega
            have hgd : pp.ns.getD pp.a.toNat 0 = pp.ns[pp.a.toNat] := by rw [List.getD_eq_getElem?_getD, List.getElem?_eq_getElem han]; rfl
            have hx : (pp.ns.map V.int)[pp.a.toNat]? = some (.int (pp.ns.getD pp.a.toNat 0)) := by
              rw [List.getElem?_map, List.getElem?_eq_getElem han, hgd]
              rfl
            refine ⟨_, rfl, p, _, rfl, dg_cells upd_same, _, rfl, p, _, rfl, dg_at upd_same, c, pp.ns.map V.int, pp.a, .int (pp.ns.getD pp.a.toNat 0), rfl, rfl, SqL.of (by rw [upd_ne npc]; exact hc), at_of (by omega) hx, ?_⟩
            refine ⟨_, rfl, p, _, rfl, dg_at upd_same, _, _, rfl, rfl, _, rfl, p, _, rfl, dp_at upd_same, ?_⟩
            rw [upd_upd]
            refine ⟨_, rfl, _, _, rfl, rfl, ⟨by decide, by decide, by decide⟩, _, _, rfl, rfl, _, rfl, ?_⟩
            refine ite2 (fun e2 => ?_) (fun e2 => ?_)
            · have hge : (10 : Int) ^ 18 ≤ pp.ns.getD pp.a.toNat 0 := of_decide_eq_true e2
              refine ⟨_, rfl, _, _, rfl, rfl, ⟨by decide, by decide, by decide⟩, _, _, rfl, rfl, _, rfl, p, _, rfl, dp_digits upd_same, ?_⟩
              rw [upd_upd]
              refine ⟨_, rfl, ?_⟩
              unfold penStep
              rw [if_pos ⟨hd0, hlt⟩, if_pos hge]
              rfl
            · have hge : ¬ (10 : Int) ^ 18 ≤ pp.ns.getD pp.a.toNat 0 := fun z => e2 (decide_eq_true z)
              refine ⟨_, rfl, p, _, rfl, dg_fold upd_same, _, _, rfl, rfl, .inl ⟨by omega, by omega⟩, _, rfl, _, _, rfl, rfl, .inl ⟨_, rfl, _, _, rfl, rfl, (by show (2147483587 : Int) ≠ 0; decide), _, rfl, p, _, rfl, dp_fold upd_same, ?_⟩⟩
              rw [upd_upd]
              refine ⟨_, rfl, ?_⟩
              unfold penStep
              rw [if_pos ⟨hd0, hlt⟩, if_neg hge]
          · refine ⟨none, rfl, ?_⟩
            unfold penStep
            rw [if_neg fun z => e (decide_eq_true z.2)]
        · refine ⟨none, rfl, ?_⟩
          unfold penStep
          rw [if_neg fun z => e0 (decide_eq_true (congrArg V.int z.1))]
      · rintro σ' H' ⟨v2, rfl, rfl⟩
        have hs := penStep_ok (k := pp.n) ⟨hok, Int.le_refl _⟩
        have hst : (penStep pp).ns = pp.ns := by unfold penStep; split; (· split <;> rfl); rfl
        have hgood : 0 ≤ (penStep pp).f ∧ (penStep pp).f < 2147483587 ∧ 0 ≤ (penStep pp).n ∧ (penStep pp).n ≤ 1000000000 := by
          unfold penStep
          split
          · split
            · exact ⟨hf, hf2, (by show 0 ≤ pp.n + 1; omega), (by show pp.n + 1 ≤ _; omega)⟩
            · exact ⟨fmod_lo _ (by decide), fmod_hi _ (by decide), (by show 0 ≤ pp.n + 1; omega), (by show pp.n + 1 ≤ _; omega)⟩
          · exact ⟨hf, hf2, (by show 0 ≤ pp.n + 1; omega), (by show pp.n + 1 ≤ _; omega)⟩
        obtain ⟨g1, g2, g3, g4⟩ := hgood
        refine ⟨_, rfl, p, _, rfl, dg_digits upd_same, _, _, rfl, rfl, _, rfl, ?_⟩
        refine ite2 (fun e => ?_) (fun e => ?_)
        · have hgt : 0 < (penStep pp).d := of_decide_eq_true e
          refine ⟨_, rfl, p, _, rfl, dg_digits upd_same, .inl ⟨_, rfl, _, rfl, _, _, rfl, rfl, (by show m ≠ 0; omega), ?_⟩⟩
          refine ⟨_, rfl, p, _, rfl, dg_digits upd_same, _, rfl, _, _, rfl, rfl, ⟨by omega, by omega⟩, _, rfl, p, _, rfl, dp_digits upd_same, ?_⟩
          rw [upd_upd]
          refine ⟨_, rfl, fin ⟨(penStep pp).ns, (penStep pp).a, (penStep pp).d.fdiv m, (penStep pp).n, (penStep pp).f⟩ _ hst ?_⟩
          unfold penDraw
          simp only
          rw [if_pos hgt]
        · have hgt : ¬ 0 < (penStep pp).d := fun z => e (decide_eq_true z)
          refine ⟨_, rfl, p, _, rfl, dg_fold upd_same, _, rfl, p, _, rfl, dg_count upd_same, _, _, rfl, rfl, .inl ⟨by omega, by omega⟩, _, _, rfl, rfl, _, _, rfl, rfl, ?_⟩
          refine ⟨_, rfl, _, _, rfl, rfl, ⟨by decide, by decide, by omega⟩, _, _, rfl, rfl, (by show (2305843009213693951 : Int) ≠ 0; decide), .inl ⟨_, rfl, _, _, rfl, rfl, ⟨by decide, by decide⟩, _, rfl, _, _, rfl, rfl, (by show m ≠ 0; omega), ?_⟩⟩
          refine fin (penStep pp) _ hst ?_
          unfold penDraw
          simp only
          rw [if_neg hgt]
          rfl
    · cases hF
  · cases hF
end
end Sb

set_option linter.all false
set_option maxRecDepth 100000
set_option maxHeartbeats 4000000
namespace Sb
open PySem PySem.Spec PyProof.Rows L2 Fw
section
variable {P : Program} {w : World} {K : PySem.W.Frag} {mg : Str → Option Value} {base : Heap} {XC : Str → Option Addr}
def F__law_pick : FS := (retS (op2 dIx (slotD 1) (callP 1 0 drawF (consG (op1 dLen (slotD 1)) (retG [])))))
theorem sc__law_pick : FnScope ["_law_pen_here", "_law_some"] ["_law_pen_here", "_law_some"] (defScope (top 9)) := ⟨rfl, rfl, rfl, by decide +kernel, rfl, by decide +kernel, by decide +kernel⟩
theorem ok__law_pick {f a__law_draw : Addr} {fd e__law_draw : FuncData} (F : Fun K "_law_pick" "_law_pick" (top 9) f fd) (T : Bv mg) (H__law_draw : Fn K mg P w base CX0 "_law_draw" 1 a__law_draw e__law_draw ["_law_pen_here", "_law_many"] (spN ⟨K, XC⟩ true 1 drawF)) :
    FnOk P w K mg base CX0 2 f fd ["_law_pen_here", "_law_some"] (spN ⟨K, XC⟩ true 1 (defF true 2 F__law_pick)) := by
  have sc := sc__law_pick
  refine fn_n (G := ⟨K, XC⟩) F sc__law_pick (by rfl) (fun cdv A outer s H E hr => ?_)
  refine ⟨_, (pss_one (ps_ret (pe_ix (show IxR _ (uIx K) from o_ix) (pv 1) (pe_call H__law_draw.G (hr.mono (by decide)) (by rfl) H__law_draw.g H__law_draw.k H__law_draw.b .nil pass0 (pa_cons (pv 0) (pa_cons (pe_callB (show CallR _ _ (uLen K) from c_len) (by rfl) T.len (by decide +kernel) (pa_cons (pv 1) pa_nil)) pa_nil))) (fun _ _ => rfl)))), fun pn => ?_⟩
  exact (cs_ret (ce_op ob_ix (CE.b (ce_var 1)) (CE.b (ce_callP (ca_cons (ce_cb1 b_len (CE.b (ce_var 1))) ca_nil)))))
def F__law_is_whole : FS := (retS (andV (isiG .int (slotD 0)) (notV (isiG .bool (slotD 0)))))
theorem sc__law_is_whole : FnScope ["_law_thing"] ["_law_thing"] (defScope (top 10)) := ⟨rfl, rfl, rfl, by decide +kernel, rfl, by decide +kernel, by decide +kernel⟩
theorem ok__law_is_whole {f : Addr} {fd : FuncData} (F : Fun K "_law_is_whole" "_law_is_whole" (top 10) f fd) (T : Bv mg) :
    FnOk P w K mg base CX0 1 f fd ["_law_thing"] (spN ⟨K, XC⟩ false 1 (defF false 1 F__law_is_whole)) := by
  have sc := sc__law_is_whole
  refine fn_n (G := ⟨K, XC⟩) F sc__law_is_whole (by rfl) (fun cdv A outer s H E hr => ?_)
  refine ⟨_, (pss_one (ps_ret (pe_and (pe_callB (show CallR _ _ (rIsi K) from call_isi) (by rfl) T.isinstance (by decide +kernel) (pa_cons (pv 0) (pa_cons (pe_bltn (v := .ty "int") (by rfl) T.int (by decide +kernel) rfl) pa_nil))) (pe_one (pe_not (pe_callB (show CallR _ _ (rIsi K) from call_isi) (by rfl) T.isinstance (by decide +kernel) (pa_cons (pv 0) (pa_cons (pe_bltn (v := .ty "bool") (by rfl) T.bool (by decide +kernel) rfl) pa_nil)))))))), fun pn => ?_⟩
  exact (cs_ret (ce_and (ce_isi .int (CE.b (ce_var 0))) (ce_not (ce_isi .bool (CE.b (ce_var 0))))))
def F__law_gate : FS := (seqS (ifS (testG (op2 dEq (op2 dIx (slotD 0) (retG (.int 0))) (retG (.str "one")))) (retS (retG (.int 1))) nextS)
  (seqS (ifS (testG (op2 dEq (op2 dIx (slotD 0) (retG (.int 0))) (retG (.str "not")))) (retS (op2 dSub (retG (.int 1)) (op2 dIx (slotD 1) (op2 dIx (slotD 0) (retG (.int 1)))))) nextS)
  (seqS (parS 2 3 (consG (op2 dIx (slotD 1) (op2 dIx (slotD 0) (retG (.int 1)))) (consG (op2 dIx (slotD 1) (op2 dIx (slotD 0) (retG (.int 2)))) (retG []))))
  (retS (op2 dGetK (dispG (((.inr "and"), (op2 dMul (slotD 2) (slotD 3))) :: (((.inr "or"), (op1 dMax (lstG (consG (slotD 2) (consG (slotD 3) (retG [])))))) :: (((.inr "xor"), (op1 dInt (op2 dNe (slotD 2) (slotD 3)))) :: (((.inr "but"), (op2 dMul (slotD 2) (op2 dSub (retG (.int 1)) (slotD 3)))) :: []))))) (op2 dIx (slotD 0) (retG (.int 0))))))))
theorem sc__law_gate : FnScope ["_law_gate_here", "_law_values", "_law_one", "_law_two"] ["_law_gate_here", "_law_values"] (defScope (top 11)) := ⟨rfl, rfl, rfl, by decide +kernel, rfl, by decide +kernel, by decide +kernel⟩
theorem ok__law_gate {f : Addr} {fd : FuncData} (F : Fun K "_law_gate" "_law_gate" (top 11) f fd) (T : Bv mg) :
    FnOk P w K mg base CX0 1 f fd ["_law_gate_here", "_law_values"] (spN ⟨K, XC⟩ false 2 (defF false 4 F__law_gate)) := by
  have sc := sc__law_gate
  refine fn_n (G := ⟨K, XC⟩) F sc__law_gate (by rfl) (fun cdv A outer s H E hr => ?_)
  have hu := hu_of hr
  refine ⟨_, (pss_cons (ps_if (pt_cmpR (show OpR _ (compareOp .Eq) (rEqD K) from o_eq hr.units) (pe_ix (show IxR _ (uIx K) from o_ix) (pv 0) pe_int (fun _ _ => rfl)) pe_str (nomark _)) (pss_one (ps_ret pe_int)) pss_nil)
      (pss_cons (ps_if (pt_cmpR (show OpR _ (compareOp .Eq) (rEqD K) from o_eq hr.units) (pe_ix (show IxR _ (uIx K) from o_ix) (pv 0) pe_int (fun _ _ => rfl)) pe_str (nomark _)) (pss_one (ps_ret (pe_op o_sub pe_int (pe_ix (show IxR _ (uIx K) from o_ix) (pv 1) (pe_ix (show IxR _ (uIx K) from o_ix) (pv 0) pe_int (fun _ _ => rfl)) (fun _ _ => rfl))))) pss_nil)
      (pss_cons (ps_par (i := 2) (j := 3) (by rfl) sc.nd rfl rfl (by decide) rfl rfl (pa_cons (pe_ix (show IxR _ (uIx K) from o_ix) (pv 1) (pe_ix (show IxR _ (uIx K) from o_ix) (pv 0) pe_int (fun _ _ => rfl)) (fun _ _ => rfl)) (pa_cons (pe_ix (show IxR _ (uIx K) from o_ix) (pv 1) (pe_ix (show IxR _ (uIx K) from o_ix) (pv 0) pe_int (fun _ _ => rfl)) (fun _ _ => rfl)) pa_nil)) (by rfl))
      (pss_one (ps_ret (pe_dget hu (pe_disp (pps_cons pe_str (pe_op o_mul (pv 2) (pv 3)) (pps_cons pe_str (pe_callB (show CallR _ _ (rMax K) from c_max rfl) (by rfl) T.max (by decide +kernel) (pa_cons (pe_lst (pa_cons (pv 2) (pa_cons (pv 3) pa_nil))) pa_nil)) (pps_cons pe_str (pe_callTy c_int (by rfl) T.int (by decide +kernel) (pa_cons (pe_cmpR (show OpR _ (compareOp .NotEq) (rNeD K) from o_ne hr.units) (pv 2) (pv 3) (nomark _)) pa_nil)) (pps_cons pe_str (pe_op o_mul (pv 2) (pe_op o_sub pe_int (pv 3))) pps_nil)))) (by rfl) (by rfl) (fun z => by cases z) (by decide)) (pe_ix (show IxR _ (uIx K) from o_ix) (pv 0) pe_int (fun _ _ => rfl)) (fun _ _ => rfl))))))), fun pn => ?_⟩
  exact (cs_seq (cs_if (ct_test (ce_op ob_eq (CE.b (ce_op ob_ix (CE.b (ce_var 0)) (CE.b ce_int))) (CE.b ce_str))) (cs_ret ce_int) cs_next)
    (cs_seq (cs_if (ct_test (ce_op ob_eq (CE.b (ce_op ob_ix (CE.b (ce_var 0)) (CE.b ce_int))) (CE.b ce_str))) (cs_ret (ce_op ob_sub (CE.b ce_int) (CE.b (ce_op ob_ix (CE.b (ce_var 1)) (CE.b (ce_op ob_ix (CE.b (ce_var 0)) (CE.b ce_int))))))) cs_next)
    (cs_seq (cs_par (ca_cons (ce_op ob_ix (CE.b (ce_var 1)) (CE.b (ce_op ob_ix (CE.b (ce_var 0)) (CE.b ce_int)))) (ca_cons (ce_op ob_ix (CE.b (ce_var 1)) (CE.b (ce_op ob_ix (CE.b (ce_var 0)) (CE.b ce_int)))) ca_nil)))
    (cs_ret (ce_dget (CF.b (cf_disp (CPs.cons (k := (.inr "and")) (ce_op ob_mul (CE.b (ce_var 2)) (CE.b (ce_var 3))) (CPs.cons (k := (.inr "or")) (ce_cb1 b_max (CF.b (cf_lst (ca_cons (ce_var 2) (ca_cons (ce_var 3) ca_nil))))) (CPs.cons (k := (.inr "xor")) (ce_cb1 b_int (CE.b (ce_op ob_ne (CE.b (ce_var 2)) (CE.b (ce_var 3))))) (CPs.cons (k := (.inr "but")) (ce_op ob_mul (CE.b (ce_var 2)) (CE.b (ce_op ob_sub (CE.b ce_int) (CE.b (ce_var 3))))) CPs.nil)))))) (CE.b (ce_op ob_ix (CE.b (ce_var 0)) (CE.b ce_int))))))))
def F__law_bit_rows : FS := (seqS (asgS (lstG (consG (tupG (retG [])) (retG []))) (nameT 1))
  (seqS (forS (rgI rg1D (consG (slotD 0) (retG []))) (nameT 2) (seqS (asgS (lstG (retG [])) (nameT 3))
  (seqS (forS (seqI (slotD 1)) (nameT 4) (asgS (op2 dAdd (slotD 3) (lstG (consG (op2 dAdd (slotD 4) (tupG (consG (retG (.int 0)) (retG [])))) (consG (op2 dAdd (slotD 4) (tupG (consG (retG (.int 1)) (retG [])))) (retG []))))) (nameT 3)))
  (asgS (slotD 3) (nameT 1)))))
  (retS (slotD 1))))
theorem sc__law_bit_rows : FnScope ["_law_many", "_law_rows", "_law_lap", "_law_longer", "_law_row"] ["_law_many"] (defScope (top 12)) := ⟨rfl, rfl, rfl, by decide +kernel, rfl, by decide +kernel, by decide +kernel⟩
theorem ok__law_bit_rows {f : Addr} {fd : FuncData} (F : Fun K "_law_bit_rows" "_law_bit_rows" (top 12) f fd) (T : Bv mg) :
    FnOk P w K mg base CX0 1 f fd ["_law_many"] (spN ⟨K, XC⟩ false 1 (defF false 5 F__law_bit_rows)) := by
  have sc := sc__law_bit_rows
  refine fn_n (G := ⟨K, XC⟩) F sc__law_bit_rows (by rfl) (fun cdv A outer s H E hr => ?_)
  refine ⟨_, (pss_cons (ps_set (i := 1) sc.nd rfl (.inl rfl) (pe_lst (pa_cons (pe_tup pa_nil) pa_nil)))
      (pss_cons (ps_for PassesOwn.never rfl (pi_range1 (by rfl) T.range (pa_cons (pv 0) pa_nil)) (pg_name (i := 2) sc.nd rfl (.inl rfl)) (pss_cons (ps_set (i := 3) sc.nd rfl (.inl rfl) (pe_lst pa_nil))
      (pss_cons (ps_for PassesOwn.never rfl (show PI _ _ _ (iSeq K _) from pi_seq (pv 1)) (pg_name (i := 4) sc.nd rfl (.inl rfl)) (pss_one (ps_set (i := 3) sc.nd rfl (.inl rfl) (pe_op (show OpR _ (binaryOp .Add) (uAdd K) from o_add) (pv 3) (pe_lst (pa_cons (pe_op (show OpR _ (binaryOp .Add) (uAdd K) from o_add) (pv 4) (pe_tup (pa_cons pe_int pa_nil))) (pa_cons (pe_op (show OpR _ (binaryOp .Add) (uAdd K) from o_add) (pv 4) (pe_tup (pa_cons pe_int pa_nil))) pa_nil)))))))
      (pss_one (ps_set (i := 1) sc.nd rfl (.inl rfl) (pv 3))))))
      (pss_one (ps_ret (pv 1))))), fun pn => ?_⟩
  exact (cs_seq (cs_asg (CF.ce (cf_lst (ca_cons (ce_tup ca_nil) ca_nil))) (tg_name 1))
    (cs_seq (cs_for (ci_rg1 (ca_cons (ce_var 0) ca_nil)) (tg_name 2) (cs_seq (cs_asg (CF.ce (cf_lst ca_nil)) (tg_name 3))
    (cs_seq (cs_for (ci_seq (ce_var 1)) (tg_name 4) (cs_asg (ce_op ob_add (CE.b (ce_var 3)) (CF.b (cf_lst (ca_cons (ce_op ob_add (CE.b (ce_var 4)) (CE.b (ce_tup (ca_cons ce_int ca_nil)))) (ca_cons (ce_op ob_add (CE.b (ce_var 4)) (CE.b (ce_tup (ca_cons ce_int ca_nil)))) ca_nil))))) (tg_name 3)))
    (cs_asg (ce_var 3) (tg_name 1)))))
    (cs_ret (ce_var 1))))
def F__law_rows_of : FS := (seqS (asgV (slotD 0) (tupV 2 (consV (nameV 1) (consV (nameV 2) nilV))))
  (seqS (ifS (testG (op2 dEq (slotD 1) (retG (.str "wire")))) (retS (lstG (consG (slotD 2) (retG [])))) nextS)
  (retS (ifG (testG (op2 dEq (slotD 1) (retG (.str "up")))) (lstG (consG (op2 dSub (slotD 2) (retG (.int 1))) (consG (slotD 2) (retG [])))) (lstG (consG (slotD 2) (consG (op2 dAdd (slotD 2) (retG (.int 1))) (retG []))))))))
theorem sc__law_rows_of : FnScope ["_law_tile", "_law_kind", "_law_row"] ["_law_tile"] (defScope (top 13)) := ⟨rfl, rfl, rfl, by decide +kernel, rfl, by decide +kernel, by decide +kernel⟩
theorem ok__law_rows_of {f : Addr} {fd : FuncData} (F : Fun K "_law_rows_of" "_law_rows_of" (top 13) f fd) (T : Bv mg) :
    FnOk P w K mg base CX0 1 f fd ["_law_tile"] (spN ⟨K, XC⟩ false 1 (defF false 3 F__law_rows_of)) := by
  have sc := sc__law_rows_of
  refine fn_n (G := ⟨K, XC⟩) F sc__law_rows_of (by rfl) (fun cdv A outer s H E hr => ?_)
  refine ⟨_, (pss_cons (ps_asg (pv 0) (pg_tup (by rfl) (pgs_cons (pg_name (i := 1) sc.nd rfl (.inl rfl)) (pgs_cons (pg_name (i := 2) sc.nd rfl (.inl rfl)) pgs_nil))))
      (pss_cons (ps_if (pt_cmpR (show OpR _ (compareOp .Eq) (rEqD K) from o_eq hr.units) (pv 1) pe_str (nomark _)) (pss_one (ps_ret (pe_lst (pa_cons (pv 2) pa_nil)))) pss_nil)
      (pss_one (ps_ret (pe_ifExp (pt_cmpR (show OpR _ (compareOp .Eq) (rEqD K) from o_eq hr.units) (pv 1) pe_str (nomark _)) (pe_lst (pa_cons (pe_op o_sub (pv 2) pe_int) (pa_cons (pv 2) pa_nil))) (pe_lst (pa_cons (pv 2) (pa_cons (pe_op (show OpR _ (binaryOp .Add) (uAdd K) from o_add) (pv 2) pe_int) pa_nil)))))))), fun pn => ?_⟩
  exact (cs_seq (cs_asgV (ce_var 0) (v_tup (v_cons (v_name 1) (v_cons (v_name 2) v_nil))))
    (cs_seq (cs_if (ct_test (ce_op ob_eq (CE.b (ce_var 1)) (CE.b ce_str))) (cs_ret (CF.ce (cf_lst (ca_cons (ce_var 2) ca_nil)))) cs_next)
    (cs_ret (ce_if (ct_test (ce_op ob_eq (CE.b (ce_var 1)) (CE.b ce_str))) (CF.ce (cf_lst (ca_cons (ce_op ob_sub (CE.b (ce_var 2)) (CE.b ce_int)) (ca_cons (ce_var 2) ca_nil)))) (CF.ce (cf_lst (ca_cons (ce_var 2) (ca_cons (ce_op ob_add (CE.b (ce_var 2)) (CE.b ce_int)) ca_nil))))))))
def F__law_stage_behind : FS := (seqS (asgO (op2 dRep (lstG (consG (retG (.int 0)) (retG []))) (op1 dLen (slotD 1))) 2)
  (seqS (forS (seqI (slotD 0)) (tupT 2 (consT (nameT 3) (consT (nameT 4) nilT))) (ifS (testG (op2 dEq (slotD 3) (retG (.str "wire")))) (asgV (op2 dIx (slotD 1) (slotD 4)) (subV 2 (slotD 4))) (ifS (testG (op2 dEq (slotD 3) (retG (.str "up")))) (asgV (op2 dIx (slotD 1) (slotD 4)) (subV 2 (op2 dSub (slotD 4) (retG (.int 1))))) (ifS (testG (op2 dEq (slotD 3) (retG (.str "down")))) (asgV (op2 dIx (slotD 1) (slotD 4)) (subV 2 (op2 dAdd (slotD 4) (retG (.int 1))))) (ifS (testG (op2 dEq (slotD 3) (retG (.str "copy")))) (asgV (tupG (consG (op2 dIx (slotD 1) (slotD 4)) (consG (op2 dIx (slotD 1) (slotD 4)) (retG [])))) (tupV 2 (consV (subV 2 (slotD 4)) (consV (subV 2 (op2 dAdd (slotD 4) (retG (.int 1)))) nilV)))) (asgV (callN 2 (defF false 4 F__law_gate) (consG (tupG (consG (slotD 3) (consG (slotD 4) (consG (op2 dAdd (slotD 4) (retG (.int 1))) (retG []))))) (consG (slotD 1) (retG [])))) (subV 2 (slotD 4))))))))
  (relS 2 (retS (slotD 2)))))
theorem sc__law_stage_behind : FnScope ["_law_tiles", "_law_bits", "_law_found", "_law_kind", "_law_row"] ["_law_tiles", "_law_bits"] (defScope (top 14)) := ⟨rfl, rfl, rfl, by decide +kernel, rfl, by decide +kernel, by decide +kernel⟩
theorem ok__law_stage_behind {f a__law_gate : Addr} {fd e__law_gate : FuncData} (F : Fun K "_law_stage_behind" "_law_stage_behind" (top 14) f fd) (T : Bv mg) (H__law_gate : Fn K mg P w base CX0 "_law_gate" 1 a__law_gate e__law_gate ["_law_gate_here", "_law_values"] (spN ⟨K, XC⟩ false 2 (defF false 4 F__law_gate))) :
    FnOk P w K mg base CX0 2 f fd ["_law_tiles", "_law_bits"] (spN ⟨K, XC⟩ false 2 (defF false 5 F__law_stage_behind)) := by
  have sc := sc__law_stage_behind
  refine fn_n (G := ⟨K, XC⟩) F sc__law_stage_behind (by rfl) (fun cdv A outer s H E hr => ?_)
  refine ⟨_, (pss_cons (ps_set (i := 2) sc.nd rfl (.inl rfl) (pe_op o_mul (pe_lst (pa_cons pe_int pa_nil)) (pe_callB (show CallR _ _ (uLen K) from c_len) (by rfl) T.len (by decide +kernel) (pa_cons (pv 1) pa_nil))))
      (pss_cons (ps_for PassesOwn.never rfl (show PI _ _ _ (iSeq K _) from pi_seq (pv 0)) (show PG _ _ (gTup K 2 _) from pg_tup (by rfl) (pgs_cons (pg_name (i := 3) sc.nd rfl (.inl rfl)) (pgs_cons (pg_name (i := 4) sc.nd rfl (.inl rfl)) pgs_nil))) (pss_one (ps_if (pt_cmpR (show OpR _ (compareOp .Eq) (rEqD K) from o_eq hr.units) (pv 3) pe_str (nomark _)) (pss_one (ps_asg (pe_ix (show IxR _ (uIx K) from o_ix) (pv 1) (pv 4) (fun _ _ => rfl)) (pg_sub (pv 2) (pv 4) set_list))) (pss_one (ps_if (pt_cmpR (show OpR _ (compareOp .Eq) (rEqD K) from o_eq hr.units) (pv 3) pe_str (nomark _)) (pss_one (ps_asg (pe_ix (show IxR _ (uIx K) from o_ix) (pv 1) (pv 4) (fun _ _ => rfl)) (pg_sub (pv 2) (pe_op o_sub (pv 4) pe_int) set_list))) (pss_one (ps_if (pt_cmpR (show OpR _ (compareOp .Eq) (rEqD K) from o_eq hr.units) (pv 3) pe_str (nomark _)) (pss_one (ps_asg (pe_ix (show IxR _ (uIx K) from o_ix) (pv 1) (pv 4) (fun _ _ => rfl)) (pg_sub (pv 2) (pe_op (show OpR _ (binaryOp .Add) (uAdd K) from o_add) (pv 4) pe_int) set_list))) (pss_one (ps_if (pt_cmpR (show OpR _ (compareOp .Eq) (rEqD K) from o_eq hr.units) (pv 3) pe_str (nomark _)) (pss_one (ps_asg (pe_tup (pa_cons (pe_ix (show IxR _ (uIx K) from o_ix) (pv 1) (pv 4) (fun _ _ => rfl)) (pa_cons (pe_ix (show IxR _ (uIx K) from o_ix) (pv 1) (pv 4) (fun _ _ => rfl)) pa_nil))) (pg_tup (by rfl) (pgs_cons (pg_sub (pv 2) (pv 4) set_list) (pgs_cons (pg_sub (pv 2) (pe_op (show OpR _ (binaryOp .Add) (uAdd K) from o_add) (pv 4) pe_int) set_list) pgs_nil))))) (pss_one (ps_asg (pe_call H__law_gate.G (hr.mono (by decide)) (by rfl) H__law_gate.g H__law_gate.k H__law_gate.b .nil pass0 (pa_cons (pe_tup (pa_cons (pv 3) (pa_cons (pv 4) (pa_cons (pe_op (show OpR _ (binaryOp .Add) (uAdd K) from o_add) (pv 4) pe_int) pa_nil)))) (pa_cons (pv 1) pa_nil))) (pg_sub (pv 2) (pv 4) set_list))))))))))))
      (pss_one (ps_ret (pv 2))))), fun pn => ?_⟩
  exact (cs_seq (cs_asgO (cf_op of_rep (CF.b (cf_lst (ca_cons ce_int ca_nil))) (CE.b (ce_cb1 b_len (CE.b (ce_var 1))))))
    (cs_seq (cs_for (ci_seq (ce_var 0)) (tg_tup (tg_cons (tg_name 3) (tg_cons (tg_name 4) tg_nil))) (cs_if (ct_test (ce_op ob_eq (CE.b (ce_var 3)) (CE.b ce_str))) (cs_asgV (ce_op ob_ix (CE.b (ce_var 1)) (CE.b (ce_var 4))) (v_sub (E := E0) (ce_var 4))) (cs_if (ct_test (ce_op ob_eq (CE.b (ce_var 3)) (CE.b ce_str))) (cs_asgV (ce_op ob_ix (CE.b (ce_var 1)) (CE.b (ce_var 4))) (v_sub (E := E0) (ce_op ob_sub (CE.b (ce_var 4)) (CE.b ce_int)))) (cs_if (ct_test (ce_op ob_eq (CE.b (ce_var 3)) (CE.b ce_str))) (cs_asgV (ce_op ob_ix (CE.b (ce_var 1)) (CE.b (ce_var 4))) (v_sub (E := E0) (ce_op ob_add (CE.b (ce_var 4)) (CE.b ce_int)))) (cs_if (ct_test (ce_op ob_eq (CE.b (ce_var 3)) (CE.b ce_str))) (cs_asgV (ce_tup (ca_cons (ce_op ob_ix (CE.b (ce_var 1)) (CE.b (ce_var 4))) (ca_cons (ce_op ob_ix (CE.b (ce_var 1)) (CE.b (ce_var 4))) ca_nil))) (v_tup (v_cons (v_sub (E := E0) (ce_var 4)) (v_cons (v_sub (E := E0) (ce_op ob_add (CE.b (ce_var 4)) (CE.b ce_int))) v_nil)))) (cs_asgV (ce_callN (ca_cons (ce_tup (ca_cons (ce_var 3) (ca_cons (ce_var 4) (ca_cons (ce_op ob_add (CE.b (ce_var 4)) (CE.b ce_int)) ca_nil)))) (ca_cons (ce_var 1) ca_nil))) (v_sub (E := E0) (ce_var 4))))))))
    (cs_rel 2 (cs_ret (ce_var 2)))))
def F__law_passed : FS := (seqS (forS (seqI (slotD 0)) (nameT 2) (asgS (callN 2 (defF false 5 F__law_stage_behind) (consG (slotD 2) (consG (slotD 1) (retG [])))) (nameT 1)))
  (retS (op1 dLst (slotD 1))))
theorem sc__law_passed : FnScope ["_law_stages", "_law_bits", "_law_tiles"] ["_law_stages", "_law_bits"] (defScope (top 15)) := ⟨rfl, rfl, rfl, by decide +kernel, rfl, by decide +kernel, by decide +kernel⟩
theorem ok__law_passed {f a__law_stage_behind : Addr} {fd e__law_stage_behind : FuncData} (F : Fun K "_law_passed" "_law_passed" (top 15) f fd) (T : Bv mg) (H__law_stage_behind : Fn K mg P w base CX0 "_law_stage_behind" 2 a__law_stage_behind e__law_stage_behind ["_law_tiles", "_law_bits"] (spN ⟨K, XC⟩ false 2 (defF false 5 F__law_stage_behind))) :
    FnOk P w K mg base CX0 3 f fd ["_law_stages", "_law_bits"] (spN ⟨K, XC⟩ false 2 (defF false 3 F__law_passed)) := by
  have sc := sc__law_passed
  refine fn_n (G := ⟨K, XC⟩) F sc__law_passed (by rfl) (fun cdv A outer s H E hr => ?_)
  refine ⟨_, (pss_cons (ps_for PassesOwn.never rfl (show PI _ _ _ (iSeq K _) from pi_seq (pv 0)) (pg_name (i := 2) sc.nd rfl (.inl rfl)) (pss_one (ps_set (i := 1) sc.nd rfl (.inl rfl) (pe_call H__law_stage_behind.G (hr.mono (by decide)) (by rfl) H__law_stage_behind.g H__law_stage_behind.k H__law_stage_behind.b .nil pass0 (pa_cons (pv 2) (pa_cons (pv 1) pa_nil))))))
      (pss_one (ps_ret (pe_callTy (show CallR _ _ (uLst K) from c_list) (by rfl) T.list (by decide +kernel) (pa_cons (pv 1) pa_nil))))), fun pn => ?_⟩
  exact (cs_seq (cs_for (ci_seq (ce_var 0)) (tg_name 2) (cs_asg (ce_callN (ca_cons (ce_var 2) (ca_cons (ce_var 1) ca_nil))) (tg_name 1)))
    (cs_ret (CF.ce (cf_cb1 f_list (CE.b (ce_var 1))))))
def F__law_are_stages : FS := (seqS (ifS (notG (testG (isiG .tuple (slotD 0)))) (retS (retG (.bool false))) nextS)
  (seqS (forS (seqI (slotD 0)) (nameT 2) (seqS (ifS (notG (testG (isiG .tuple (slotD 2)))) (retS (retG (.bool false))) nextS)
  (seqS (asgS (op1 dNeg (retG (.int 1))) (nameT 3))
  (forS (seqI (slotD 2)) (nameT 4) (seqS (ifS (orG (notG (testG (isiG .tuple (slotD 4)))) (orG (testG (op2 dNe (op1 dLen (slotD 4)) (retG (.int 2)))) (notG (testG (callN 1 (defF false 1 F__law_is_whole) (consG (op2 dIx (slotD 4) (retG (.int 1))) (retG []))))))) (retS (retG (.bool false))) nextS)
  (seqS (ifS (testG (op2 dNotIn (op2 dIx (slotD 4) (retG (.int 0))) (lstG (consG (retG (.str "wire")) (consG (retG (.str "up")) (consG (retG (.str "down")) (consG (retG (.str "copy")) (consG (retG (.str "or")) (consG (retG (.str "xor")) (consG (retG (.str "but")) (retG []))))))))))) (retS (retG (.bool false))) nextS)
  (seqS (asgS (callN 1 (defF false 3 F__law_rows_of) (consG (slotD 4) (retG []))) (nameT 5))
  (seqS (ifS (orG (testG (op2 dLe (op2 dIx (slotD 5) (retG (.int 0))) (slotD 3))) (testG (op2 dGe (op2 dIx (slotD 5) (op1 dNeg (retG (.int 1)))) (slotD 1)))) (retS (retG (.bool false))) nextS)
  (asgS (op2 dIx (slotD 5) (op1 dNeg (retG (.int 1)))) (nameT 3))))))))))
  (retS (retG (.bool true)))))
theorem sc__law_are_stages : FnScope ["_law_value", "_law_rows", "_law_tiles", "_law_last", "_law_tile", "_law_here"] ["_law_value", "_law_rows"] (defScope (top 16)) := ⟨rfl, rfl, rfl, by decide +kernel, rfl, by decide +kernel, by decide +kernel⟩
theorem ok__law_are_stages {f a__law_is_whole a__law_rows_of : Addr} {fd e__law_is_whole e__law_rows_of : FuncData} (F : Fun K "_law_are_stages" "_law_are_stages" (top 16) f fd) (T : Bv mg) (H__law_is_whole : Fn K mg P w base CX0 "_law_is_whole" 1 a__law_is_whole e__law_is_whole ["_law_thing"] (spN ⟨K, XC⟩ false 1 (defF false 1 F__law_is_whole))) (H__law_rows_of : Fn K mg P w base CX0 "_law_rows_of" 1 a__law_rows_of e__law_rows_of ["_law_tile"] (spN ⟨K, XC⟩ false 1 (defF false 3 F__law_rows_of))) :
    FnOk P w K mg base CX0 2 f fd ["_law_value", "_law_rows"] (spN ⟨K, XC⟩ false 2 (defF false 6 F__law_are_stages)) := by
  have sc := sc__law_are_stages
  refine fn_n (G := ⟨K, XC⟩) F sc__law_are_stages (by rfl) (fun cdv A outer s H E hr => ?_)
  refine ⟨_, (pss_cons (ps_if (pt_not (pt_val (pe_callB (show CallR _ _ (rIsi K) from call_isi) (by rfl) T.isinstance (by decide +kernel) (pa_cons (pv 0) (pa_cons (pe_bltn (v := .ty "tuple") (by rfl) T.tuple (by decide +kernel) rfl) pa_nil))))) (pss_one (ps_ret pe_bl)) pss_nil)
      (pss_cons (ps_for PassesOwn.never rfl (show PI _ _ _ (iSeq K _) from pi_seq (pv 0)) (pg_name (i := 2) sc.nd rfl (.inl rfl)) (pss_cons (ps_if (pt_not (pt_val (pe_callB (show CallR _ _ (rIsi K) from call_isi) (by rfl) T.isinstance (by decide +kernel) (pa_cons (pv 2) (pa_cons (pe_bltn (v := .ty "tuple") (by rfl) T.tuple (by decide +kernel) rfl) pa_nil))))) (pss_one (ps_ret pe_bl)) pss_nil)
      (pss_cons (ps_set (i := 3) sc.nd rfl (.inl rfl) (pe_un o_neg pe_int))
      (pss_one (ps_for PassesOwn.never rfl (show PI _ _ _ (iSeq K _) from pi_seq (pv 2)) (pg_name (i := 4) sc.nd rfl (.inl rfl)) (pss_cons (ps_if (PW.pt (pw_or (pt_not (pt_val (pe_callB (show CallR _ _ (rIsi K) from call_isi) (by rfl) T.isinstance (by decide +kernel) (pa_cons (pv 4) (pa_cons (pe_bltn (v := .ty "tuple") (by rfl) T.tuple (by decide +kernel) rfl) pa_nil))))) (pw_or (pt_cmpR (show OpR _ (compareOp .NotEq) (rNeD K) from o_ne hr.units) (pe_callB (show CallR _ _ (uLen K) from c_len) (by rfl) T.len (by decide +kernel) (pa_cons (pv 4) pa_nil)) pe_int (nomark _)) (pw_or1 (pt_not (pt_val (pe_call H__law_is_whole.G (hr.mono (by decide)) (by rfl) H__law_is_whole.g H__law_is_whole.k H__law_is_whole.b .nil pass0 (pa_cons (pe_ix (show IxR _ (uIx K) from o_ix) (pv 4) pe_int (fun _ _ => rfl)) pa_nil)))))))) (pss_one (ps_ret pe_bl)) pss_nil)
      (pss_cons (ps_if (pt_cmpR (show OpR _ (compareOp .NotIn) (uNotIn K) from o_notIn (hu65 hr)) (pe_ix (show IxR _ (uIx K) from o_ix) (pv 4) pe_int (fun _ _ => rfl)) (pe_lst (pa_cons pe_str (pa_cons pe_str (pa_cons pe_str (pa_cons pe_str (pa_cons pe_str (pa_cons pe_str (pa_cons pe_str pa_nil)))))))) (by rfl)) (pss_one (ps_ret pe_bl)) pss_nil)
      (pss_cons (ps_set (i := 5) sc.nd rfl (.inl rfl) (pe_call H__law_rows_of.G (hr.mono (by decide)) (by rfl) H__law_rows_of.g H__law_rows_of.k H__law_rows_of.b .nil pass0 (pa_cons (pv 4) pa_nil)))
      (pss_cons (ps_if (PW.pt (pw_or (pt_cmpR o_le (pe_ix (show IxR _ (uIx K) from o_ix) (pv 5) pe_int (fun _ _ => rfl)) (pv 3) (nomark _)) (pw_or1 (pt_cmpR o_ge (pe_ix (show IxR _ (uIx K) from o_ix) (pv 5) (pe_un o_neg pe_int) (fun _ _ => rfl)) (pv 1) (nomark _))))) (pss_one (ps_ret pe_bl)) pss_nil)
      (pss_one (ps_set (i := 3) sc.nd rfl (.inl rfl) (pe_ix (show IxR _ (uIx K) from o_ix) (pv 5) (pe_un o_neg pe_int) (fun _ _ => rfl)))))))))))))
      (pss_one (ps_ret pe_bl)))), fun pn => ?_⟩
  exact (cs_seq (cs_if (ct_not (ct_B (ce_isi .tuple (CE.b (ce_var 0))))) (cs_ret ce_bl) cs_next)
    (cs_seq (cs_for (ci_seq (ce_var 0)) (tg_name 2) (cs_seq (cs_if (ct_not (ct_B (ce_isi .tuple (CE.b (ce_var 2))))) (cs_ret ce_bl) cs_next)
    (cs_seq (cs_asg (ce_un ub_neg (CE.b ce_int)) (tg_name 3))
    (cs_for (ci_seq (ce_var 2)) (tg_name 4) (cs_seq (cs_if (ct_or (ct_not (ct_B (ce_isi .tuple (CE.b (ce_var 4))))) (ct_or (ct_test (ce_op ob_ne (CE.b (ce_cb1 b_len (CE.b (ce_var 4)))) (CE.b ce_int))) (ct_not (ct_B (ce_callN (ca_cons (ce_op ob_ix (CE.b (ce_var 4)) (CE.b ce_int)) ca_nil)))))) (cs_ret ce_bl) cs_next)
    (cs_seq (cs_if (ct_test (ce_op ob_notIn (CE.b (ce_op ob_ix (CE.b (ce_var 4)) (CE.b ce_int))) (CF.b (cf_lst (ca_cons ce_str (ca_cons ce_str (ca_cons ce_str (ca_cons ce_str (ca_cons ce_str (ca_cons ce_str (ca_cons ce_str ca_nil))))))))))) (cs_ret ce_bl) cs_next)
    (cs_seq (cs_asg (ce_callN (ca_cons (ce_var 4) ca_nil)) (tg_name 5))
    (cs_seq (cs_if (ct_or (ct_test (ce_op ob_le (CE.b (ce_op ob_ix (CE.b (ce_var 5)) (CE.b ce_int))) (CE.b (ce_var 3)))) (ct_test (ce_op ob_ge (CE.b (ce_op ob_ix (CE.b (ce_var 5)) (CE.b (ce_un ub_neg (CE.b ce_int))))) (CE.b (ce_var 1))))) (cs_ret ce_bl) cs_next)
    (cs_asg (ce_op ob_ix (CE.b (ce_var 5)) (CE.b (ce_un ub_neg (CE.b ce_int)))) (tg_name 3))))))))))
    (cs_ret ce_bl)))
def F__law_slot_bits : FS := (seqS (asgO (op2 dRep (lstG (consG (retG (.int 0)) (retG []))) (slotD 0)) 2)
  (seqS (forS (rgI rg1D (consG (op1 dLen (slotD 1)) (retG []))) (nameT 3) (asgV (op2 dIx (slotD 1) (slotD 3)) (subV 2 (op2 dMul (retG (.int 2)) (slotD 3)))))
  (relS 2 (retS (slotD 2)))))
theorem sc__law_slot_bits : FnScope ["_law_rows", "_law_bits", "_law_found", "_law_k"] ["_law_rows", "_law_bits"] (defScope (top 17)) := ⟨rfl, rfl, rfl, by decide +kernel, rfl, by decide +kernel, by decide +kernel⟩
theorem ok__law_slot_bits {f : Addr} {fd : FuncData} (F : Fun K "_law_slot_bits" "_law_slot_bits" (top 17) f fd) (T : Bv mg) :
    FnOk P w K mg base CX0 1 f fd ["_law_rows", "_law_bits"] (spN ⟨K, XC⟩ false 2 (defF false 4 F__law_slot_bits)) := by
  have sc := sc__law_slot_bits
  refine fn_n (G := ⟨K, XC⟩) F sc__law_slot_bits (by rfl) (fun cdv A outer s H E hr => ?_)
  refine ⟨_, (pss_cons (ps_set (i := 2) sc.nd rfl (.inl rfl) (pe_op o_mul (pe_lst (pa_cons pe_int pa_nil)) (pv 0)))
      (pss_cons (ps_for PassesOwn.never rfl (pi_range1 (by rfl) T.range (pa_cons (pe_callB (show CallR _ _ (uLen K) from c_len) (by rfl) T.len (by decide +kernel) (pa_cons (pv 1) pa_nil)) pa_nil)) (pg_name (i := 3) sc.nd rfl (.inl rfl)) (pss_one (ps_asg (pe_ix (show IxR _ (uIx K) from o_ix) (pv 1) (pv 3) (fun _ _ => rfl)) (pg_sub (pv 2) (pe_op o_mul pe_int (pv 3)) set_list))))
      (pss_one (ps_ret (pv 2))))), fun pn => ?_⟩
  exact (cs_seq (cs_asgO (cf_op of_rep (CF.b (cf_lst (ca_cons ce_int ca_nil))) (CE.b (ce_var 0))))
    (cs_seq (cs_for (ci_rg1 (ca_cons (ce_cb1 b_len (CE.b (ce_var 1))) ca_nil)) (tg_name 3) (cs_asgV (ce_op ob_ix (CE.b (ce_var 1)) (CE.b (ce_var 3))) (v_sub (E := E0) (ce_op ob_mul (CE.b ce_int) (CE.b (ce_var 3))))))
    (cs_rel 2 (cs_ret (ce_var 2)))))
def F__law_own_exchanged : FS := (seqS (asgS (op2 dMul (retG (.int 2)) (slotD 1)) (nameT 2))
  (seqS (asgS (op1 dTup (lcG [6] (rgI rg1D (consG (slotD 1) (retG []))) (nameT 6) (retG true) (tupG (consG (retG (.str "wire")) (consG (op2 dMul (retG (.int 2)) (slotD 6)) (retG [])))))) (nameT 3))
  (seqS (asgS (op1 dTup (lcG [6] (rgI rg2D (consG (op2 dAdd (slotD 1) (retG (.int 2))) (consG (slotD 0) (retG [])))) (nameT 6) (retG true) (tupG (consG (retG (.str "wire")) (consG (op2 dMul (retG (.int 2)) (slotD 6)) (retG [])))))) (nameT 4))
  (seqS (asgO (lstG (consG (tupG (consG (tupG (consG (retG (.str "copy")) (consG (slotD 2) (retG [])))) (consG (tupG (consG (retG (.str "copy")) (consG (op2 dAdd (slotD 2) (retG (.int 2))) (retG [])))) (retG [])))) (retG []))) 5)
  (seqS (appS 5 (tupG (consG (tupG (consG (retG (.str "wire")) (consG (slotD 2) (retG [])))) (consG (tupG (consG (retG (.str "xor")) (consG (op2 dAdd (slotD 2) (retG (.int 1))) (retG [])))) (consG (tupG (consG (retG (.str "wire")) (consG (op2 dAdd (slotD 2) (retG (.int 3))) (retG [])))) (retG []))))))
  (seqS (appS 5 (tupG (consG (tupG (consG (retG (.str "wire")) (consG (slotD 2) (retG [])))) (consG (tupG (consG (retG (.str "copy")) (consG (op2 dAdd (slotD 2) (retG (.int 1))) (retG [])))) (consG (tupG (consG (retG (.str "wire")) (consG (op2 dAdd (slotD 2) (retG (.int 3))) (retG [])))) (retG []))))))
  (seqS (appS 5 (tupG (consG (tupG (consG (retG (.str "xor")) (consG (slotD 2) (retG [])))) (consG (tupG (consG (retG (.str "xor")) (consG (op2 dAdd (slotD 2) (retG (.int 2))) (retG [])))) (retG [])))))
  (relS 5 (retS (op1 dTup (lcG [7] (seqI (slotD 5)) (nameT 7) (retG true) (op2 dAdd (op2 dAdd (slotD 3) (slotD 7)) (slotD 4)))))))))))))
theorem sc__law_own_exchanged : FnScope ["_law_m", "_law_p", "_law_low", "_law_ahead", "_law_behind", "_law_found", "_law_k", "_law_tiles"] ["_law_m", "_law_p"] (defScope (top 18)) := ⟨rfl, rfl, rfl, by decide +kernel, rfl, by decide +kernel, by decide +kernel⟩
theorem ok__law_own_exchanged {f : Addr} {fd : FuncData} (F : Fun K "_law_own_exchanged" "_law_own_exchanged" (top 18) f fd) (T : Bv mg) :
    FnOk P w K mg base CX0 1 f fd ["_law_m", "_law_p"] (spN ⟨K, XC⟩ false 2 (defF false 8 F__law_own_exchanged)) := by
  have sc := sc__law_own_exchanged
  refine fn_n (G := ⟨K, XC⟩) F sc__law_own_exchanged (by rfl) (fun cdv A outer s H E hr => ?_)
  refine ⟨_, (pss_cons (ps_set (i := 2) sc.nd rfl (.inl rfl) (pe_op o_mul pe_int (pv 1)))
      (pss_cons (ps_set (i := 3) sc.nd rfl (.inr rfl) (pe_callTy (show CallR _ _ (uTup K) from c_tuple) (by rfl) T.tuple (by decide +kernel) (pa_cons (pe_lc (own := [("_law_k", 6)]) (g := gName 6) (tt := tYes) rfl sc.nd (pi_range1 (by rfl) T.range (pa_cons (pv 1) pa_nil)) (blkOk_by (N := ["_law_m", "_law_p", "_law_low", "_law_ahead", "_law_behind", "_law_found", "_law_k", "_law_tiles"]) (sc := defScope (top 18)) (by decide +kernel)) (fun _ _ _ _ _ => (pg_name (i := 6) sc.nd rfl (.inl rfl))) (fun _ _ _ _ _ => pts_nil) (fun _ _ _ _ _ => (pe_tup (pa_cons pe_str (pa_cons (pe_op o_mul pe_int (pv 6)) pa_nil))))) pa_nil)))
      (pss_cons (ps_set (i := 4) sc.nd rfl (.inr rfl) (pe_callTy (show CallR _ _ (uTup K) from c_tuple) (by rfl) T.tuple (by decide +kernel) (pa_cons (pe_lc (own := [("_law_k", 6)]) (g := gName 6) (tt := tYes) rfl sc.nd (pi_range2 (by rfl) T.range (pa_cons (pe_op (show OpR _ (binaryOp .Add) (uAdd K) from o_add) (pv 1) pe_int) (pa_cons (pv 0) pa_nil))) (blkOk_by (N := ["_law_m", "_law_p", "_law_low", "_law_ahead", "_law_behind", "_law_found", "_law_k", "_law_tiles"]) (sc := defScope (top 18)) (by decide +kernel)) (fun _ _ _ _ _ => (pg_name (i := 6) sc.nd rfl (.inl rfl))) (fun _ _ _ _ _ => pts_nil) (fun _ _ _ _ _ => (pe_tup (pa_cons pe_str (pa_cons (pe_op o_mul pe_int (pv 6)) pa_nil))))) pa_nil)))
      (pss_cons (ps_set (i := 5) sc.nd rfl (.inl rfl) (pe_lst (pa_cons (pe_tup (pa_cons (pe_tup (pa_cons pe_str (pa_cons (pv 2) pa_nil))) (pa_cons (pe_tup (pa_cons pe_str (pa_cons (pe_op (show OpR _ (binaryOp .Add) (uAdd K) from o_add) (pv 2) pe_int) pa_nil))) pa_nil))) pa_nil)))
      (pss_cons (ps_expr (pe_bm PySem.F.plainAttrs_list PySem.F.slot_list_append PySem.F.type_list_append mt_append (pv 5) (pa_cons (pe_tup (pa_cons (pe_tup (pa_cons pe_str (pa_cons (pv 2) pa_nil))) (pa_cons (pe_tup (pa_cons pe_str (pa_cons (pe_op (show OpR _ (binaryOp .Add) (uAdd K) from o_add) (pv 2) pe_int) pa_nil))) (pa_cons (pe_tup (pa_cons pe_str (pa_cons (pe_op (show OpR _ (binaryOp .Add) (uAdd K) from o_add) (pv 2) pe_int) pa_nil))) pa_nil)))) pa_nil)))
      (pss_cons (ps_expr (pe_bm PySem.F.plainAttrs_list PySem.F.slot_list_append PySem.F.type_list_append mt_append (pv 5) (pa_cons (pe_tup (pa_cons (pe_tup (pa_cons pe_str (pa_cons (pv 2) pa_nil))) (pa_cons (pe_tup (pa_cons pe_str (pa_cons (pe_op (show OpR _ (binaryOp .Add) (uAdd K) from o_add) (pv 2) pe_int) pa_nil))) (pa_cons (pe_tup (pa_cons pe_str (pa_cons (pe_op (show OpR _ (binaryOp .Add) (uAdd K) from o_add) (pv 2) pe_int) pa_nil))) pa_nil)))) pa_nil)))
      (pss_cons (ps_expr (pe_bm PySem.F.plainAttrs_list PySem.F.slot_list_append PySem.F.type_list_append mt_append (pv 5) (pa_cons (pe_tup (pa_cons (pe_tup (pa_cons pe_str (pa_cons (pv 2) pa_nil))) (pa_cons (pe_tup (pa_cons pe_str (pa_cons (pe_op (show OpR _ (binaryOp .Add) (uAdd K) from o_add) (pv 2) pe_int) pa_nil))) pa_nil))) pa_nil)))
      (pss_one (ps_ret (pe_callTy (show CallR _ _ (uTup K) from c_tuple) (by rfl) T.tuple (by decide +kernel) (pa_cons (pe_lc (own := [("_law_tiles", 7)]) (g := gName 7) (tt := tYes) rfl sc.nd (show PI _ _ _ (iSeq K _) from pi_seq (pv 5)) (blkOk_by (N := ["_law_m", "_law_p", "_law_low", "_law_ahead", "_law_behind", "_law_found", "_law_k", "_law_tiles"]) (sc := defScope (top 18)) (by decide +kernel)) (fun _ _ _ _ _ => (pg_name (i := 7) sc.nd rfl (.inl rfl))) (fun _ _ _ _ _ => pts_nil) (fun _ _ _ _ _ => (pe_op (show OpR _ (binaryOp .Add) (uAdd K) from o_add) (pe_op (show OpR _ (binaryOp .Add) (uAdd K) from o_add) (pv 3) (pv 7)) (pv 4)))) pa_nil))))))))))), fun pn => ?_⟩
  exact (cs_seq (cs_asg (ce_op ob_mul (CE.b ce_int) (CE.b (ce_var 1))) (tg_name 2))
    (cs_seq (cs_asg (ce_cb1 b_tuple (CF.b (cf_lc (ci_rg1 (ca_cons (ce_var 1) ca_nil)) (tw_name 6 (by decide)) (fw_name 6 (by decide)) ct_yes (ce_tup (ca_cons ce_str (ca_cons (ce_op ob_mul (CE.b ce_int) (CE.b (ce_var 6))) ca_nil)))))) (tg_name 3))
    (cs_seq (cs_asg (ce_cb1 b_tuple (CF.b (cf_lc (ci_rg2 (ca_cons (ce_op ob_add (CE.b (ce_var 1)) (CE.b ce_int)) (ca_cons (ce_var 0) ca_nil))) (tw_name 6 (by decide)) (fw_name 6 (by decide)) ct_yes (ce_tup (ca_cons ce_str (ca_cons (ce_op ob_mul (CE.b ce_int) (CE.b (ce_var 6))) ca_nil)))))) (tg_name 4))
    (cs_seq (cs_asgO (cf_lst (ca_cons (ce_tup (ca_cons (ce_tup (ca_cons ce_str (ca_cons (ce_var 2) ca_nil))) (ca_cons (ce_tup (ca_cons ce_str (ca_cons (ce_op ob_add (CE.b (ce_var 2)) (CE.b ce_int)) ca_nil))) ca_nil))) ca_nil)))
    (cs_seq (cs_app (ce_tup (ca_cons (ce_tup (ca_cons ce_str (ca_cons (ce_var 2) ca_nil))) (ca_cons (ce_tup (ca_cons ce_str (ca_cons (ce_op ob_add (CE.b (ce_var 2)) (CE.b ce_int)) ca_nil))) (ca_cons (ce_tup (ca_cons ce_str (ca_cons (ce_op ob_add (CE.b (ce_var 2)) (CE.b ce_int)) ca_nil))) ca_nil)))))
    (cs_seq (cs_app (ce_tup (ca_cons (ce_tup (ca_cons ce_str (ca_cons (ce_var 2) ca_nil))) (ca_cons (ce_tup (ca_cons ce_str (ca_cons (ce_op ob_add (CE.b (ce_var 2)) (CE.b ce_int)) ca_nil))) (ca_cons (ce_tup (ca_cons ce_str (ca_cons (ce_op ob_add (CE.b (ce_var 2)) (CE.b ce_int)) ca_nil))) ca_nil)))))
    (cs_seq (cs_app (ce_tup (ca_cons (ce_tup (ca_cons ce_str (ca_cons (ce_var 2) ca_nil))) (ca_cons (ce_tup (ca_cons ce_str (ca_cons (ce_op ob_add (CE.b (ce_var 2)) (CE.b ce_int)) ca_nil))) ca_nil))))
    (cs_rel 5 (cs_ret (ce_cb1 b_tuple (CF.b (cf_lc (ci_seq (ce_var 5)) (tw_name 7 (by decide)) (fw_name 7 (by decide)) ct_yes (ce_op ob_add (CE.b (ce_op ob_add (CE.b (ce_var 3)) (CE.b (ce_var 7)))) (CE.b (ce_var 4)))))))))))))))
def F__law_doubled_stages : FS := (seqS (asgS (op2 dAdd (op2 dAdd (lcG [4] (rgI rg1D (consG (slotD 1) (retG []))) (nameT 4) (retG true) (tupG (consG (retG (.str "wire")) (consG (op2 dMul (retG (.int 2)) (slotD 4)) (retG []))))) (lstG (consG (tupG (consG (retG (.str "copy")) (consG (op2 dMul (retG (.int 2)) (slotD 1)) (retG [])))) (retG [])))) (lcG [4] (rgI rg2D (consG (op2 dAdd (slotD 1) (retG (.int 1))) (consG (slotD 0) (retG [])))) (nameT 4) (retG true) (tupG (consG (retG (.str "down")) (consG (op2 dMul (retG (.int 2)) (slotD 4)) (retG [])))))) (nameT 2))
  (seqS (asgS (op2 dAdd (lcG [4] (rgI rg1D (consG (op2 dAdd (slotD 1) (retG (.int 1))) (retG []))) (nameT 4) (retG true) (tupG (consG (retG (.str "wire")) (consG (op2 dMul (retG (.int 2)) (slotD 4)) (retG []))))) (lstG (consG (tupG (consG (retG (.str "down")) (consG (op2 dAdd (op2 dMul (retG (.int 2)) (slotD 1)) (retG (.int 1))) (retG [])))) (retG [])))) (nameT 3))
  (retS (tupG (consG (op1 dTup (slotD 2)) (consG (op1 dTup (op2 dAdd (slotD 3) (lcG [4] (rgI rg2D (consG (op2 dAdd (slotD 1) (retG (.int 1))) (consG (slotD 0) (retG [])))) (nameT 4) (retG true) (tupG (consG (retG (.str "down")) (consG (op2 dAdd (op2 dMul (retG (.int 2)) (slotD 4)) (retG (.int 1))) (retG []))))))) (retG [])))))))
theorem sc__law_doubled_stages : FnScope ["_law_m", "_law_p", "_law_first", "_law_second", "_law_k"] ["_law_m", "_law_p"] (defScope (top 19)) := ⟨rfl, rfl, rfl, by decide +kernel, rfl, by decide +kernel, by decide +kernel⟩
theorem ok__law_doubled_stages {f : Addr} {fd : FuncData} (F : Fun K "_law_doubled_stages" "_law_doubled_stages" (top 19) f fd) (T : Bv mg) :
    FnOk P w K mg base CX0 1 f fd ["_law_m", "_law_p"] (spN ⟨K, XC⟩ false 2 (defF false 5 F__law_doubled_stages)) := by
  have sc := sc__law_doubled_stages
  refine fn_n (G := ⟨K, XC⟩) F sc__law_doubled_stages (by rfl) (fun cdv A outer s H E hr => ?_)
  refine ⟨_, (pss_cons (ps_set (i := 2) sc.nd rfl (.inl rfl) (pe_op (show OpR _ (binaryOp .Add) (uAdd K) from o_add) (pe_op (show OpR _ (binaryOp .Add) (uAdd K) from o_add) (pe_lc (own := [("_law_k", 4)]) (g := gName 4) (tt := tYes) rfl sc.nd (pi_range1 (by rfl) T.range (pa_cons (pv 1) pa_nil)) (blkOk_by (N := ["_law_m", "_law_p", "_law_first", "_law_second", "_law_k"]) (sc := defScope (top 19)) (by decide +kernel)) (fun _ _ _ _ _ => (pg_name (i := 4) sc.nd rfl (.inl rfl))) (fun _ _ _ _ _ => pts_nil) (fun _ _ _ _ _ => (pe_tup (pa_cons pe_str (pa_cons (pe_op o_mul pe_int (pv 4)) pa_nil))))) (pe_lst (pa_cons (pe_tup (pa_cons pe_str (pa_cons (pe_op o_mul pe_int (pv 1)) pa_nil))) pa_nil))) (pe_lc (own := [("_law_k", 4)]) (g := gName 4) (tt := tYes) rfl sc.nd (pi_range2 (by rfl) T.range (pa_cons (pe_op (show OpR _ (binaryOp .Add) (uAdd K) from o_add) (pv 1) pe_int) (pa_cons (pv 0) pa_nil))) (blkOk_by (N := ["_law_m", "_law_p", "_law_first", "_law_second", "_law_k"]) (sc := defScope (top 19)) (by decide +kernel)) (fun _ _ _ _ _ => (pg_name (i := 4) sc.nd rfl (.inl rfl))) (fun _ _ _ _ _ => pts_nil) (fun _ _ _ _ _ => (pe_tup (pa_cons pe_str (pa_cons (pe_op o_mul pe_int (pv 4)) pa_nil)))))))
      (pss_cons (ps_set (i := 3) sc.nd rfl (.inl rfl) (pe_op (show OpR _ (binaryOp .Add) (uAdd K) from o_add) (pe_lc (own := [("_law_k", 4)]) (g := gName 4) (tt := tYes) rfl sc.nd (pi_range1 (by rfl) T.range (pa_cons (pe_op (show OpR _ (binaryOp .Add) (uAdd K) from o_add) (pv 1) pe_int) pa_nil)) (blkOk_by (N := ["_law_m", "_law_p", "_law_first", "_law_second", "_law_k"]) (sc := defScope (top 19)) (by decide +kernel)) (fun _ _ _ _ _ => (pg_name (i := 4) sc.nd rfl (.inl rfl))) (fun _ _ _ _ _ => pts_nil) (fun _ _ _ _ _ => (pe_tup (pa_cons pe_str (pa_cons (pe_op o_mul pe_int (pv 4)) pa_nil))))) (pe_lst (pa_cons (pe_tup (pa_cons pe_str (pa_cons (pe_op (show OpR _ (binaryOp .Add) (uAdd K) from o_add) (pe_op o_mul pe_int (pv 1)) pe_int) pa_nil))) pa_nil))))
      (pss_one (ps_ret (pe_tup (pa_cons (pe_callTy (show CallR _ _ (uTup K) from c_tuple) (by rfl) T.tuple (by decide +kernel) (pa_cons (pv 2) pa_nil)) (pa_cons (pe_callTy (show CallR _ _ (uTup K) from c_tuple) (by rfl) T.tuple (by decide +kernel) (pa_cons (pe_op (show OpR _ (binaryOp .Add) (uAdd K) from o_add) (pv 3) (pe_lc (own := [("_law_k", 4)]) (g := gName 4) (tt := tYes) rfl sc.nd (pi_range2 (by rfl) T.range (pa_cons (pe_op (show OpR _ (binaryOp .Add) (uAdd K) from o_add) (pv 1) pe_int) (pa_cons (pv 0) pa_nil))) (blkOk_by (N := ["_law_m", "_law_p", "_law_first", "_law_second", "_law_k"]) (sc := defScope (top 19)) (by decide +kernel)) (fun _ _ _ _ _ => (pg_name (i := 4) sc.nd rfl (.inl rfl))) (fun _ _ _ _ _ => pts_nil) (fun _ _ _ _ _ => (pe_tup (pa_cons pe_str (pa_cons (pe_op (show OpR _ (binaryOp .Add) (uAdd K) from o_add) (pe_op o_mul pe_int (pv 4)) pe_int) pa_nil)))))) pa_nil)) pa_nil))))))), fun pn => ?_⟩
  exact (cs_seq (cs_asg (ce_op ob_add (CE.b (ce_op ob_add (CF.b (cf_lc (ci_rg1 (ca_cons (ce_var 1) ca_nil)) (tw_name 4 (by decide)) (fw_name 4 (by decide)) ct_yes (ce_tup (ca_cons ce_str (ca_cons (ce_op ob_mul (CE.b ce_int) (CE.b (ce_var 4))) ca_nil))))) (CF.b (cf_lst (ca_cons (ce_tup (ca_cons ce_str (ca_cons (ce_op ob_mul (CE.b ce_int) (CE.b (ce_var 1))) ca_nil))) ca_nil))))) (CF.b (cf_lc (ci_rg2 (ca_cons (ce_op ob_add (CE.b (ce_var 1)) (CE.b ce_int)) (ca_cons (ce_var 0) ca_nil))) (tw_name 4 (by decide)) (fw_name 4 (by decide)) ct_yes (ce_tup (ca_cons ce_str (ca_cons (ce_op ob_mul (CE.b ce_int) (CE.b (ce_var 4))) ca_nil)))))) (tg_name 2))
    (cs_seq (cs_asg (ce_op ob_add (CF.b (cf_lc (ci_rg1 (ca_cons (ce_op ob_add (CE.b (ce_var 1)) (CE.b ce_int)) ca_nil)) (tw_name 4 (by decide)) (fw_name 4 (by decide)) ct_yes (ce_tup (ca_cons ce_str (ca_cons (ce_op ob_mul (CE.b ce_int) (CE.b (ce_var 4))) ca_nil))))) (CF.b (cf_lst (ca_cons (ce_tup (ca_cons ce_str (ca_cons (ce_op ob_add (CE.b (ce_op ob_mul (CE.b ce_int) (CE.b (ce_var 1)))) (CE.b ce_int)) ca_nil))) ca_nil)))) (tg_name 3))
    (cs_ret (ce_tup (ca_cons (ce_cb1 b_tuple (CE.b (ce_var 2))) (ca_cons (ce_cb1 b_tuple (CE.b (ce_op ob_add (CE.b (ce_var 3)) (CF.b (cf_lc (ci_rg2 (ca_cons (ce_op ob_add (CE.b (ce_var 1)) (CE.b ce_int)) (ca_cons (ce_var 0) ca_nil))) (tw_name 4 (by decide)) (fw_name 4 (by decide)) ct_yes (ce_tup (ca_cons ce_str (ca_cons (ce_op ob_add (CE.b (ce_op ob_mul (CE.b ce_int) (CE.b (ce_var 4)))) (CE.b ce_int)) ca_nil)))))))) ca_nil))))))
def F__law_made_stages : FS := (seqS (asgS (op2 dAdd (lcG [5] (rgI rg1D (consG (op2 dAdd (slotD 1) (retG (.int 1))) (retG []))) (nameT 5) (retG true) (tupG (consG (retG (.str "wire")) (consG (op2 dMul (retG (.int 2)) (slotD 5)) (retG []))))) (lcG [5] (rgI rg2D (consG (op2 dAdd (slotD 1) (retG (.int 1))) (consG (slotD 0) (retG [])))) (nameT 5) (retG true) (tupG (consG (retG (.str "up")) (consG (op2 dMul (retG (.int 2)) (slotD 5)) (retG [])))))) (nameT 3))
  (seqS (asgS (op2 dAdd (lcG [5] (rgI rg1D (consG (slotD 1) (retG []))) (nameT 5) (retG true) (tupG (consG (retG (.str "wire")) (consG (op2 dMul (retG (.int 2)) (slotD 5)) (retG []))))) (lstG (consG (tupG (consG (slotD 2) (consG (op2 dMul (retG (.int 2)) (slotD 1)) (retG [])))) (retG [])))) (nameT 4))
  (retS (tupG (consG (op1 dTup (slotD 3)) (consG (op1 dTup (op2 dAdd (slotD 4) (lcG [5] (rgI rg2D (consG (op2 dAdd (slotD 1) (retG (.int 2))) (consG (slotD 0) (retG [])))) (nameT 5) (retG true) (tupG (consG (retG (.str "up")) (consG (op2 dSub (op2 dMul (retG (.int 2)) (slotD 5)) (retG (.int 1))) (retG []))))))) (retG [])))))))
theorem sc__law_made_stages : FnScope ["_law_m", "_law_p", "_law_kind", "_law_first", "_law_second", "_law_k"] ["_law_m", "_law_p", "_law_kind"] (defScope (top 20)) := ⟨rfl, rfl, rfl, by decide +kernel, rfl, by decide +kernel, by decide +kernel⟩
theorem ok__law_made_stages {f : Addr} {fd : FuncData} (F : Fun K "_law_made_stages" "_law_made_stages" (top 20) f fd) (T : Bv mg) :
    FnOk P w K mg base CX0 1 f fd ["_law_m", "_law_p", "_law_kind"] (spN ⟨K, XC⟩ false 3 (defF false 6 F__law_made_stages)) := by
  have sc := sc__law_made_stages
  refine fn_n (G := ⟨K, XC⟩) F sc__law_made_stages (by rfl) (fun cdv A outer s H E hr => ?_)
  refine ⟨_, (pss_cons (ps_set (i := 3) sc.nd rfl (.inl rfl) (pe_op (show OpR _ (binaryOp .Add) (uAdd K) from o_add) (pe_lc (own := [("_law_k", 5)]) (g := gName 5) (tt := tYes) rfl sc.nd (pi_range1 (by rfl) T.range (pa_cons (pe_op (show OpR _ (binaryOp .Add) (uAdd K) from o_add) (pv 1) pe_int) pa_nil)) (blkOk_by (N := ["_law_m", "_law_p", "_law_kind", "_law_first", "_law_second", "_law_k"]) (sc := defScope (top 20)) (by decide +kernel)) (fun _ _ _ _ _ => (pg_name (i := 5) sc.nd rfl (.inl rfl))) (fun _ _ _ _ _ => pts_nil) (fun _ _ _ _ _ => (pe_tup (pa_cons pe_str (pa_cons (pe_op o_mul pe_int (pv 5)) pa_nil))))) (pe_lc (own := [("_law_k", 5)]) (g := gName 5) (tt := tYes) rfl sc.nd (pi_range2 (by rfl) T.range (pa_cons (pe_op (show OpR _ (binaryOp .Add) (uAdd K) from o_add) (pv 1) pe_int) (pa_cons (pv 0) pa_nil))) (blkOk_by (N := ["_law_m", "_law_p", "_law_kind", "_law_first", "_law_second", "_law_k"]) (sc := defScope (top 20)) (by decide +kernel)) (fun _ _ _ _ _ => (pg_name (i := 5) sc.nd rfl (.inl rfl))) (fun _ _ _ _ _ => pts_nil) (fun _ _ _ _ _ => (pe_tup (pa_cons pe_str (pa_cons (pe_op o_mul pe_int (pv 5)) pa_nil)))))))
      (pss_cons (ps_set (i := 4) sc.nd rfl (.inl rfl) (pe_op (show OpR _ (binaryOp .Add) (uAdd K) from o_add) (pe_lc (own := [("_law_k", 5)]) (g := gName 5) (tt := tYes) rfl sc.nd (pi_range1 (by rfl) T.range (pa_cons (pv 1) pa_nil)) (blkOk_by (N := ["_law_m", "_law_p", "_law_kind", "_law_first", "_law_second", "_law_k"]) (sc := defScope (top 20)) (by decide +kernel)) (fun _ _ _ _ _ => (pg_name (i := 5) sc.nd rfl (.inl rfl))) (fun _ _ _ _ _ => pts_nil) (fun _ _ _ _ _ => (pe_tup (pa_cons pe_str (pa_cons (pe_op o_mul pe_int (pv 5)) pa_nil))))) (pe_lst (pa_cons (pe_tup (pa_cons (pv 2) (pa_cons (pe_op o_mul pe_int (pv 1)) pa_nil))) pa_nil))))
      (pss_one (ps_ret (pe_tup (pa_cons (pe_callTy (show CallR _ _ (uTup K) from c_tuple) (by rfl) T.tuple (by decide +kernel) (pa_cons (pv 3) pa_nil)) (pa_cons (pe_callTy (show CallR _ _ (uTup K) from c_tuple) (by rfl) T.tuple (by decide +kernel) (pa_cons (pe_op (show OpR _ (binaryOp .Add) (uAdd K) from o_add) (pv 4) (pe_lc (own := [("_law_k", 5)]) (g := gName 5) (tt := tYes) rfl sc.nd (pi_range2 (by rfl) T.range (pa_cons (pe_op (show OpR _ (binaryOp .Add) (uAdd K) from o_add) (pv 1) pe_int) (pa_cons (pv 0) pa_nil))) (blkOk_by (N := ["_law_m", "_law_p", "_law_kind", "_law_first", "_law_second", "_law_k"]) (sc := defScope (top 20)) (by decide +kernel)) (fun _ _ _ _ _ => (pg_name (i := 5) sc.nd rfl (.inl rfl))) (fun _ _ _ _ _ => pts_nil) (fun _ _ _ _ _ => (pe_tup (pa_cons pe_str (pa_cons (pe_op o_sub (pe_op o_mul pe_int (pv 5)) pe_int) pa_nil)))))) pa_nil)) pa_nil))))))), fun pn => ?_⟩
  exact (cs_seq (cs_asg (ce_op ob_add (CF.b (cf_lc (ci_rg1 (ca_cons (ce_op ob_add (CE.b (ce_var 1)) (CE.b ce_int)) ca_nil)) (tw_name 5 (by decide)) (fw_name 5 (by decide)) ct_yes (ce_tup (ca_cons ce_str (ca_cons (ce_op ob_mul (CE.b ce_int) (CE.b (ce_var 5))) ca_nil))))) (CF.b (cf_lc (ci_rg2 (ca_cons (ce_op ob_add (CE.b (ce_var 1)) (CE.b ce_int)) (ca_cons (ce_var 0) ca_nil))) (tw_name 5 (by decide)) (fw_name 5 (by decide)) ct_yes (ce_tup (ca_cons ce_str (ca_cons (ce_op ob_mul (CE.b ce_int) (CE.b (ce_var 5))) ca_nil)))))) (tg_name 3))
    (cs_seq (cs_asg (ce_op ob_add (CF.b (cf_lc (ci_rg1 (ca_cons (ce_var 1) ca_nil)) (tw_name 5 (by decide)) (fw_name 5 (by decide)) ct_yes (ce_tup (ca_cons ce_str (ca_cons (ce_op ob_mul (CE.b ce_int) (CE.b (ce_var 5))) ca_nil))))) (CF.b (cf_lst (ca_cons (ce_tup (ca_cons (ce_var 2) (ca_cons (ce_op ob_mul (CE.b ce_int) (CE.b (ce_var 1))) ca_nil))) ca_nil)))) (tg_name 4))
    (cs_ret (ce_tup (ca_cons (ce_cb1 b_tuple (CE.b (ce_var 3))) (ca_cons (ce_cb1 b_tuple (CE.b (ce_op ob_add (CE.b (ce_var 4)) (CF.b (cf_lc (ci_rg2 (ca_cons (ce_op ob_add (CE.b (ce_var 1)) (CE.b ce_int)) (ca_cons (ce_var 0) ca_nil))) (tw_name 5 (by decide)) (fw_name 5 (by decide)) ct_yes (ce_tup (ca_cons ce_str (ca_cons (ce_op ob_sub (CE.b (ce_op ob_mul (CE.b ce_int) (CE.b (ce_var 5)))) (CE.b ce_int)) ca_nil)))))))) ca_nil))))))
def F__law_led_stages : FS := (seqS (asgS (tupG (retG [])) (nameT 3))
  (seqS (forS (rgI rg1D (consG (slotD 0) (retG []))) (nameT 4) (seqS (ifS (testG (op2 dEq (slotD 1) (slotD 2))) breakS nextS)
  (seqS (asgS (op2 dAdd (slotD 3) (callN 2 (defF false 8 F__law_own_exchanged) (consG (slotD 0) (consG (ifG (testG (op2 dEq (op1 dAbs (op2 dSub (slotD 1) (slotD 2))) (retG (.int 1)))) (op1 dMin (lstG (consG (slotD 1) (consG (slotD 2) (retG []))))) (ifG (testG (op2 dLt (slotD 1) (slotD 2))) (slotD 1) (op2 dSub (slotD 1) (retG (.int 1))))) (retG []))))) (nameT 3))
  (asgS (ifG (testG (op2 dLt (slotD 1) (slotD 2))) (op2 dAdd (slotD 1) (retG (.int 1))) (op2 dSub (slotD 1) (retG (.int 1)))) (nameT 1)))))
  (retS (slotD 3))))
theorem sc__law_led_stages : FnScope ["_law_m", "_law_p", "_law_q", "_law_found", "_law_lap"] ["_law_m", "_law_p", "_law_q"] (defScope (top 21)) := ⟨rfl, rfl, rfl, by decide +kernel, rfl, by decide +kernel, by decide +kernel⟩
theorem ok__law_led_stages {f a__law_own_exchanged : Addr} {fd e__law_own_exchanged : FuncData} (F : Fun K "_law_led_stages" "_law_led_stages" (top 21) f fd) (T : Bv mg) (H__law_own_exchanged : Fn K mg P w base CX0 "_law_own_exchanged" 1 a__law_own_exchanged e__law_own_exchanged ["_law_m", "_law_p"] (spN ⟨K, XC⟩ false 2 (defF false 8 F__law_own_exchanged))) :
    FnOk P w K mg base CX0 2 f fd ["_law_m", "_law_p", "_law_q"] (spN ⟨K, XC⟩ false 3 (defF false 5 F__law_led_stages)) := by
  have sc := sc__law_led_stages
  refine fn_n (G := ⟨K, XC⟩) F sc__law_led_stages (by rfl) (fun cdv A outer s H E hr => ?_)
  refine ⟨_, (pss_cons (ps_set (i := 3) sc.nd rfl (.inl rfl) (pe_tup pa_nil))
      (pss_cons (ps_for PassesOwn.never rfl (pi_range1 (by rfl) T.range (pa_cons (pv 0) pa_nil)) (pg_name (i := 4) sc.nd rfl (.inl rfl)) (pss_cons (ps_if (pt_cmpR (show OpR _ (compareOp .Eq) (rEqD K) from o_eq hr.units) (pv 1) (pv 2) (nomark _)) (pss_one ps_break) pss_nil)
      (pss_cons (ps_set (i := 3) sc.nd rfl (.inl rfl) (pe_op (show OpR _ (binaryOp .Add) (uAdd K) from o_add) (pv 3) (pe_call H__law_own_exchanged.G (hr.mono (by decide)) (by rfl) H__law_own_exchanged.g H__law_own_exchanged.k H__law_own_exchanged.b .nil pass0 (pa_cons (pv 0) (pa_cons (pe_ifExp (pt_cmpR (show OpR _ (compareOp .Eq) (rEqD K) from o_eq hr.units) (pe_callB c_abs (by rfl) T.abs (by decide +kernel) (pa_cons (pe_op o_sub (pv 1) (pv 2)) pa_nil)) pe_int (nomark _)) (pe_callB (show CallR _ _ (rMin K) from c_min rfl) (by rfl) T.min (by decide +kernel) (pa_cons (pe_lst (pa_cons (pv 1) (pa_cons (pv 2) pa_nil))) pa_nil)) (pe_ifExp (pt_cmpR o_lt (pv 1) (pv 2) (nomark _)) (pv 1) (pe_op o_sub (pv 1) pe_int))) pa_nil)))))
      (pss_one (ps_set (i := 1) sc.nd rfl (.inl rfl) (pe_ifExp (pt_cmpR o_lt (pv 1) (pv 2) (nomark _)) (pe_op (show OpR _ (binaryOp .Add) (uAdd K) from o_add) (pv 1) pe_int) (pe_op o_sub (pv 1) pe_int)))))))
      (pss_one (ps_ret (pv 3))))), fun pn => ?_⟩
  exact (cs_seq (cs_asg (ce_tup ca_nil) (tg_name 3))
    (cs_seq (cs_for (ci_rg1 (ca_cons (ce_var 0) ca_nil)) (tg_name 4) (cs_seq (cs_if (ct_test (ce_op ob_eq (CE.b (ce_var 1)) (CE.b (ce_var 2)))) cs_break cs_next)
    (cs_seq (cs_asg (ce_op ob_add (CE.b (ce_var 3)) (CE.b (ce_callN (ca_cons (ce_var 0) (ca_cons (ce_if (ct_test (ce_op ob_eq (CE.b (ce_cb1 b_abs (CE.b (ce_op ob_sub (CE.b (ce_var 1)) (CE.b (ce_var 2)))))) (CE.b ce_int))) (ce_cb1 b_min (CF.b (cf_lst (ca_cons (ce_var 1) (ca_cons (ce_var 2) ca_nil))))) (ce_if (ct_test (ce_op ob_lt (CE.b (ce_var 1)) (CE.b (ce_var 2)))) (ce_var 1) (ce_op ob_sub (CE.b (ce_var 1)) (CE.b ce_int)))) ca_nil))))) (tg_name 3))
    (cs_asg (ce_if (ct_test (ce_op ob_lt (CE.b (ce_var 1)) (CE.b (ce_var 2)))) (ce_op ob_add (CE.b (ce_var 1)) (CE.b ce_int)) (ce_op ob_sub (CE.b (ce_var 1)) (CE.b ce_int))) (tg_name 1)))))
    (cs_ret (ce_var 3))))
def F__law_leads : FS := (retS (op2 dEq (callN 2 (defF false 3 F__law_passed) (consG (slotD 0) (consG (callN 2 (defF false 4 F__law_slot_bits) (consG (slotD 1) (consG (slotD 2) (retG [])))) (retG [])))) (callN 2 (defF false 4 F__law_slot_bits) (consG (slotD 1) (consG (slotD 3) (retG []))))))
theorem sc__law_leads : FnScope ["_law_stages", "_law_rows", "_law_ahead", "_law_behind"] ["_law_stages", "_law_rows", "_law_ahead", "_law_behind"] (defScope (top 22)) := ⟨rfl, rfl, rfl, by decide +kernel, rfl, by decide +kernel, by decide +kernel⟩
theorem ok__law_leads {f a__law_passed a__law_slot_bits : Addr} {fd e__law_passed e__law_slot_bits : FuncData} (F : Fun K "_law_leads" "_law_leads" (top 22) f fd) (T : Bv mg) (H__law_passed : Fn K mg P w base CX0 "_law_passed" 3 a__law_passed e__law_passed ["_law_stages", "_law_bits"] (spN ⟨K, XC⟩ false 2 (defF false 3 F__law_passed))) (H__law_slot_bits : Fn K mg P w base CX0 "_law_slot_bits" 1 a__law_slot_bits e__law_slot_bits ["_law_rows", "_law_bits"] (spN ⟨K, XC⟩ false 2 (defF false 4 F__law_slot_bits))) :
    FnOk P w K mg base CX0 4 f fd ["_law_stages", "_law_rows", "_law_ahead", "_law_behind"] (spN ⟨K, XC⟩ false 4 (defF false 4 F__law_leads)) := by
  have sc := sc__law_leads
  refine fn_n (G := ⟨K, XC⟩) F sc__law_leads (by rfl) (fun cdv A outer s H E hr => ?_)
  refine ⟨_, (pss_one (ps_ret (pe_cmpR (show OpR _ (compareOp .Eq) (rEqD K) from o_eq hr.units) (pe_call H__law_passed.G (hr.mono (by decide)) (by rfl) H__law_passed.g H__law_passed.k H__law_passed.b .nil pass0 (pa_cons (pv 0) (pa_cons (pe_call H__law_slot_bits.G (hr.mono (by decide)) (by rfl) H__law_slot_bits.g H__law_slot_bits.k H__law_slot_bits.b .nil pass0 (pa_cons (pv 1) (pa_cons (pv 2) pa_nil))) pa_nil))) (pe_call H__law_slot_bits.G (hr.mono (by decide)) (by rfl) H__law_slot_bits.g H__law_slot_bits.k H__law_slot_bits.b .nil pass0 (pa_cons (pv 1) (pa_cons (pv 3) pa_nil))) (nomark _)))), fun pn => ?_⟩
  exact (cs_ret (ce_op ob_eq (CE.b (ce_callN (ca_cons (ce_var 0) (ca_cons (ce_callN (ca_cons (ce_var 1) (ca_cons (ce_var 2) ca_nil))) ca_nil)))) (CE.b (ce_callN (ca_cons (ce_var 1) (ca_cons (ce_var 3) ca_nil))))))
end
end Sb

set_option linter.all false
set_option maxRecDepth 100000
set_option maxHeartbeats 4000000
namespace Sb
open PySem PySem.Spec PyProof.Rows L2 Fw
section
variable {P : Program} {w : World} {K : PySem.W.Frag} {mg : Str → Option Value} {base : Heap} {XC : Str → Option Addr}
def W2 : FS := (retS (op2 dEq (callN 2 (defF false 3 F_doubled) (consG (retG (.int 1)) (consG (retG (.int 0)) (retG [])))) (tupG (consG (tupG (consG (tupG (consG (retG (.str "copy")) (consG (retG (.int 0)) (retG [])))) (retG []))) (consG (tupG (consG (tupG (consG (retG (.str "wire")) (consG (retG (.int 0)) (retG [])))) (consG (tupG (consG (retG (.str "down")) (consG (retG (.int 1)) (retG [])))) (retG [])))) (retG []))))))
def W1_8_7 : FS := (ifS (notG (testG (callN 4 (defF false 4 F__law_leads) (consG (slotD 12) (consG (slotD 6) (consG (slotD 15) (consG (op2 dAdd (op2 dAdd (slG (slotD 15) (retG none) (partG (slotD 7))) (lstG (consG (slotD 17) (retG [])))) (slG (slotD 15) (partG (op2 dAdd (slotD 7) (retG (.int 2)))) (retG none))) (retG [])))))))) (retS (retG (.bool false))) nextS)
def W1_8_6 : FS := (asgS (callN 2 (defF false 4 F__law_gate) (consG (tupG (consG (slotD 8) (consG (retG (.int 0)) (consG (retG (.int 1)) (retG []))))) (consG (slG (slotD 15) (partG (slotD 7)) (partG (op2 dAdd (slotD 7) (retG (.int 2))))) (retG [])))) (nameT 17))
def W1_8_5 : FS := (ifS (notG (testG (callN 4 (defF false 4 F__law_leads) (consG (slotD 11) (consG (slotD 6) (consG (slotD 15) (consG (op2 dAdd (op2 dAdd (slG (slotD 16) (retG none) (partG (slotD 5))) (lstG (consG (op2 dIx (slotD 15) (slotD 4)) (retG [])))) (slG (slotD 16) (partG (slotD 5)) (retG none))) (retG [])))))))) (retS (retG (.bool false))) nextS)
def W1_8_4 : FS := (asgS (op2 dAdd (slG (slotD 15) (retG none) (partG (slotD 4))) (slG (slotD 15) (partG (op2 dAdd (slotD 4) (retG (.int 1)))) (retG none))) (nameT 16))
def W1_8_3 : FS := (ifS (notG (testG (callN 4 (defF false 4 F__law_leads) (consG (slotD 10) (consG (slotD 6) (consG (slotD 15) (consG (op2 dAdd (op2 dAdd (slG (slotD 15) (retG none) (partG (slotD 7))) (lstG (consG (op2 dIx (slotD 15) (op2 dAdd (slotD 7) (retG (.int 1)))) (consG (op2 dIx (slotD 15) (slotD 7)) (retG []))))) (slG (slotD 15) (partG (op2 dAdd (slotD 7) (retG (.int 2)))) (retG none))) (retG [])))))))) (retS (retG (.bool false))) nextS)
def W1_8_2 : FS := (ifS (notG (testG (callN 4 (defF false 4 F__law_leads) (consG (slotD 9) (consG (slotD 6) (consG (slotD 15) (consG (op2 dAdd (slG (slotD 15) (retG none) (partG (op2 dAdd (slotD 4) (retG (.int 1))))) (slG (slotD 15) (partG (slotD 4)) (retG none))) (retG [])))))))) (retS (retG (.bool false))) nextS)
def W1_8_1 : FS := (asgS (op1 dLst (slotD 14)) (nameT 15))
def W1_8_B : FS := (seqS W1_8_1
  (seqS W1_8_2
  (seqS W1_8_3
  (seqS W1_8_4
  (seqS W1_8_5
  (seqS W1_8_6
  W1_8_7))))))
def W1_8 : FS := (forS (seqI (callN 1 (defF false 5 F__law_bit_rows) (consG (slotD 3) (retG [])))) (nameT 14) W1_8_B)
def W1_7_1 : FS := (ifS (notG (testG (callN 2 (defF false 6 F__law_are_stages) (consG (slotD 13) (consG (slotD 6) (retG [])))))) (retS (retG (.bool false))) nextS)
def W1_7_B : FS := W1_7_1
def W1_7 : FS := (forS (seqI (lstG (consG (slotD 9) (consG (slotD 10) (consG (slotD 11) (consG (slotD 12) (retG []))))))) (nameT 13) W1_7_B)
def W1_6 : FS := (ifS (orG (testG (op2 dNe (slotD 11) (callN 3 (defF false 5 F__law_led_stages) (consG (slotD 3) (consG (slotD 4) (consG (slotD 5) (retG []))))))) (testG (op2 dNe (slotD 12) (callN 3 (defF false 6 F__law_made_stages) (consG (slotD 3) (consG (slotD 7) (consG (slotD 8) (retG [])))))))) (retS (retG (.bool false))) nextS)
def W1_5 : FS := (ifS (orG (testG (op2 dNe (slotD 9) (callN 2 (defF false 5 F__law_doubled_stages) (consG (slotD 3) (consG (slotD 4) (retG [])))))) (testG (op2 dNe (slotD 10) (callN 2 (defF false 8 F__law_own_exchanged) (consG (slotD 3) (consG (slotD 7) (retG []))))))) (retS (retG (.bool false))) nextS)
def W1_4 : FS := (asgV (tupG (consG (callN 2 (defF false 3 F_doubled) (consG (slotD 3) (consG (slotD 4) (retG [])))) (consG (callN 2 (defF false 5 F_exchanged) (consG (slotD 3) (consG (slotD 7) (retG [])))) (consG (callN 3 (defF false 6 F_led) (consG (slotD 3) (consG (slotD 4) (consG (slotD 5) (retG []))))) (consG (callN 3 (defF false 4 F_made_at) (consG (slotD 3) (consG (slotD 7) (consG (slotD 8) (retG []))))) (retG [])))))) (tupV 4 (consV (nameV 9) (consV (nameV 10) (consV (nameV 11) (consV (nameV 12) nilV))))))
def W1_3 : FS := (parS 7 8 (consG (callP 1 1 drawF (consG (op2 dSub (slotD 3) (retG (.int 1))) (retG []))) (consG (callP 1 1 (defF true 2 F__law_pick) (consG (lstG (consG (retG (.str "or")) (consG (retG (.str "xor")) (consG (retG (.str "but")) (retG []))))) (retG []))) (retG []))))
def W1_2 : FS := (par3S 4 5 6 (consG (callP 1 1 drawF (consG (slotD 3) (retG []))) (consG (callP 1 1 drawF (consG (slotD 3) (retG []))) (consG (op2 dAdd (op2 dMul (retG (.int 2)) (slotD 3)) (retG (.int 2))) (retG [])))))
def W1_1 : FS := (asgS (op2 dAdd (retG (.int 2)) (callP 1 1 drawF (consG (retG (.int 5)) (retG [])))) (nameT 3))
def W1_B : FS := (seqS W1_1
  (seqS W1_2
  (seqS W1_3
  (seqS W1_4
  (seqS W1_5
  (seqS W1_6
  (seqS W1_7
  W1_8)))))))
def W1 : FS := (forS (rgI rg1D (consG (retG (.int 3)) (retG []))) (nameT 2) W1_B)
def F_law : FS := (seqS W1
  W2)
theorem sc_law : FnScope ["_law_script", "_law_pen_here", "_law_lap", "_law_m", "_law_p", "_law_q", "_law_rows", "_law_low", "_law_kind", "_law_copy", "_law_change", "_law_way", "_law_gate_here", "_law_stages", "_law_row", "_law_bits", "_law_rest", "_law_word"] ["_law_script"] (defScope (top 23)) := ⟨rfl, rfl, rfl, by decide +kernel, rfl, by decide +kernel, by decide +kernel⟩
theorem ok_law {f a__law_pen a__law_draw a__law_pick a_doubled a_exchanged a_led a_made_at a__law_doubled_stages a__law_own_exchanged a__law_led_stages a__law_made_stages a__law_are_stages a__law_bit_rows a__law_leads a__law_gate : Addr} {fd e__law_pen e__law_draw e__law_pick e_doubled e_exchanged e_led e_made_at e__law_doubled_stages e__law_own_exchanged e__law_led_stages e__law_made_stages e__law_are_stages e__law_bit_rows e__law_leads e__law_gate : FuncData} (F : Fun K "law" "law" (top 23) f fd) (T : Bv mg) (H__law_pen : Fn K mg P w base CX0 "_law_pen" 1 a__law_pen e__law_pen ["_law_script"] (spPen K)) (H__law_draw : Fn K mg P w base CX0 "_law_draw" 1 a__law_draw e__law_draw ["_law_pen_here", "_law_many"] (spN ⟨K, XC⟩ true 1 drawF)) (H__law_pick : Fn K mg P w base CX0 "_law_pick" 2 a__law_pick e__law_pick ["_law_pen_here", "_law_some"] (spN ⟨K, XC⟩ true 1 (defF true 2 F__law_pick))) (H_doubled : Fn K mg P w base CX0 "doubled" 2 a_doubled e_doubled ["m", "p"] (spN ⟨K, XC⟩ false 2 (defF false 3 F_doubled))) (H_exchanged : Fn K mg P w base CX0 "exchanged" 2 a_exchanged e_exchanged ["m", "p"] (spN ⟨K, XC⟩ false 2 (defF false 5 F_exchanged))) (H_led : Fn K mg P w base CX0 "led" 3 a_led e_led ["m", "p", "q"] (spN ⟨K, XC⟩ false 3 (defF false 6 F_led))) (H_made_at : Fn K mg P w base CX0 "made_at" 2 a_made_at e_made_at ["m", "p", "kind"] (spN ⟨K, XC⟩ false 3 (defF false 4 F_made_at))) (H__law_doubled_stages : Fn K mg P w base CX0 "_law_doubled_stages" 1 a__law_doubled_stages e__law_doubled_stages ["_law_m", "_law_p"] (spN ⟨K, XC⟩ false 2 (defF false 5 F__law_doubled_stages))) (H__law_own_exchanged : Fn K mg P w base CX0 "_law_own_exchanged" 1 a__law_own_exchanged e__law_own_exchanged ["_law_m", "_law_p"] (spN ⟨K, XC⟩ false 2 (defF false 8 F__law_own_exchanged))) (H__law_led_stages : Fn K mg P w base CX0 "_law_led_stages" 2 a__law_led_stages e__law_led_stages ["_law_m", "_law_p", "_law_q"] (spN ⟨K, XC⟩ false 3 (defF false 5 F__law_led_stages))) (H__law_made_stages : Fn K mg P w base CX0 "_law_made_stages" 1 a__law_made_stages e__law_made_stages ["_law_m", "_law_p", "_law_kind"] (spN ⟨K, XC⟩ false 3 (defF false 6 F__law_made_stages))) (H__law_are_stages : Fn K mg P w base CX0 "_law_are_stages" 2 a__law_are_stages e__law_are_stages ["_law_value", "_law_rows"] (spN ⟨K, XC⟩ false 2 (defF false 6 F__law_are_stages))) (H__law_bit_rows : Fn K mg P w base CX0 "_law_bit_rows" 1 a__law_bit_rows e__law_bit_rows ["_law_many"] (spN ⟨K, XC⟩ false 1 (defF false 5 F__law_bit_rows))) (H__law_leads : Fn K mg P w base CX0 "_law_leads" 4 a__law_leads e__law_leads ["_law_stages", "_law_rows", "_law_ahead", "_law_behind"] (spN ⟨K, XC⟩ false 4 (defF false 4 F__law_leads))) (H__law_gate : Fn K mg P w base CX0 "_law_gate" 1 a__law_gate e__law_gate ["_law_gate_here", "_law_values"] (spN ⟨K, XC⟩ false 2 (defF false 4 F__law_gate)))
    (hf : ∀ pp, GoodP 0 pp → ∃ e', F_law ⟨lawSl 18, pp⟩ = some (.rt (.bool true), e')) :
    FnOk P w K mg base CX0 5 f fd ["_law_script"] (spLaw K) := by
  have sc := sc_law
  refine F.ok sc_law (fun vs H Q E h => by obtain ⟨a, ns, rfl, _⟩ := h; rfl) (fun cdv A outer s H vs Q E hr h => ?_)
  refine ⟨_, (pss_cons (ps_set (i := 1) sc.nd rfl (.inl rfl) (pe_call H__law_pen.G (hr.mono (by decide)) (by rfl) H__law_pen.g H__law_pen.k H__law_pen.b .nil pass0 (pa_cons (pv 0) pa_nil)))
      (pss_cons (ps_for PassesOwn.never rfl (pi_range1 (by rfl) T.range (pa_cons pe_int pa_nil)) (pg_name (i := 2) sc.nd rfl (.inl rfl)) (pss_cons (ps_set (i := 3) sc.nd rfl (.inl rfl) (pe_op (show OpR _ (binaryOp .Add) (uAdd K) from o_add) pe_int (pe_call H__law_draw.G (hr.mono (by decide)) (by rfl) H__law_draw.g H__law_draw.k H__law_draw.b .nil pass0 (pa_cons (pv 1) (pa_cons pe_int pa_nil)))))
      (pss_cons (ps_par3 (i := 4) (j := 5) (l := 6) (by rfl) sc.nd rfl rfl rfl (by decide) (by decide) (by decide) rfl rfl rfl (pa_cons (pe_call H__law_draw.G (hr.mono (by decide)) (by rfl) H__law_draw.g H__law_draw.k H__law_draw.b .nil pass0 (pa_cons (pv 1) (pa_cons (pv 3) pa_nil))) (pa_cons (pe_call H__law_draw.G (hr.mono (by decide)) (by rfl) H__law_draw.g H__law_draw.k H__law_draw.b .nil pass0 (pa_cons (pv 1) (pa_cons (pv 3) pa_nil))) (pa_cons (pe_op (show OpR _ (binaryOp .Add) (uAdd K) from o_add) (pe_op o_mul pe_int (pv 3)) pe_int) pa_nil))) (by rfl))
      (pss_cons (ps_par (i := 7) (j := 8) (by rfl) sc.nd rfl rfl (by decide) rfl rfl (pa_cons (pe_call H__law_draw.G (hr.mono (by decide)) (by rfl) H__law_draw.g H__law_draw.k H__law_draw.b .nil pass0 (pa_cons (pv 1) (pa_cons (pe_op o_sub (pv 3) pe_int) pa_nil))) (pa_cons (pe_call H__law_pick.G (hr.mono (by decide)) (by rfl) H__law_pick.g H__law_pick.k H__law_pick.b .nil pass0 (pa_cons (pv 1) (pa_cons (pe_lst (pa_cons pe_str (pa_cons pe_str (pa_cons pe_str pa_nil)))) pa_nil))) pa_nil)) (by rfl))
      (pss_cons (ps_asg (pe_tup (pa_cons (pe_call H_doubled.G (hr.mono (by decide)) (by rfl) H_doubled.g H_doubled.k H_doubled.b .nil pass0 (pa_cons (pv 3) (pa_cons (pv 4) pa_nil))) (pa_cons (pe_call H_exchanged.G (hr.mono (by decide)) (by rfl) H_exchanged.g H_exchanged.k H_exchanged.b .nil pass0 (pa_cons (pv 3) (pa_cons (pv 7) pa_nil))) (pa_cons (pe_call H_led.G (hr.mono (by decide)) (by rfl) H_led.g H_led.k H_led.b .nil pass0 (pa_cons (pv 3) (pa_cons (pv 4) (pa_cons (pv 5) pa_nil)))) (pa_cons (pe_call H_made_at.G (hr.mono (by decide)) (by rfl) H_made_at.g H_made_at.k H_made_at.b .nil pass0 (pa_cons (pv 3) (pa_cons (pv 7) (pa_cons (pv 8) pa_nil)))) pa_nil))))) (pg_tup (by rfl) (pgs_cons (pg_name (i := 9) sc.nd rfl (.inl rfl)) (pgs_cons (pg_name (i := 10) sc.nd rfl (.inl rfl)) (pgs_cons (pg_name (i := 11) sc.nd rfl (.inl rfl)) (pgs_cons (pg_name (i := 12) sc.nd rfl (.inl rfl)) pgs_nil))))))
      (pss_cons (ps_if (PW.pt (pw_or (pt_cmpR (show OpR _ (compareOp .NotEq) (rNeD K) from o_ne hr.units) (pv 9) (pe_call H__law_doubled_stages.G (hr.mono (by decide)) (by rfl) H__law_doubled_stages.g H__law_doubled_stages.k H__law_doubled_stages.b .nil pass0 (pa_cons (pv 3) (pa_cons (pv 4) pa_nil))) (nomark _)) (pw_or1 (pt_cmpR (show OpR _ (compareOp .NotEq) (rNeD K) from o_ne hr.units) (pv 10) (pe_call H__law_own_exchanged.G (hr.mono (by decide)) (by rfl) H__law_own_exchanged.g H__law_own_exchanged.k H__law_own_exchanged.b .nil pass0 (pa_cons (pv 3) (pa_cons (pv 7) pa_nil))) (nomark _))))) (pss_one (ps_ret pe_bl)) pss_nil)
      (pss_cons (ps_if (PW.pt (pw_or (pt_cmpR (show OpR _ (compareOp .NotEq) (rNeD K) from o_ne hr.units) (pv 11) (pe_call H__law_led_stages.G (hr.mono (by decide)) (by rfl) H__law_led_stages.g H__law_led_stages.k H__law_led_stages.b .nil pass0 (pa_cons (pv 3) (pa_cons (pv 4) (pa_cons (pv 5) pa_nil)))) (nomark _)) (pw_or1 (pt_cmpR (show OpR _ (compareOp .NotEq) (rNeD K) from o_ne hr.units) (pv 12) (pe_call H__law_made_stages.G (hr.mono (by decide)) (by rfl) H__law_made_stages.g H__law_made_stages.k H__law_made_stages.b .nil pass0 (pa_cons (pv 3) (pa_cons (pv 7) (pa_cons (pv 8) pa_nil)))) (nomark _))))) (pss_one (ps_ret pe_bl)) pss_nil)
      (pss_cons (ps_for PassesOwn.never rfl (show PI _ _ _ (iSeq K _) from pi_seq (pe_lst (pa_cons (pv 9) (pa_cons (pv 10) (pa_cons (pv 11) (pa_cons (pv 12) pa_nil)))))) (pg_name (i := 13) sc.nd rfl (.inl rfl)) (pss_one (ps_if (pt_not (pt_val (pe_call H__law_are_stages.G (hr.mono (by decide)) (by rfl) H__law_are_stages.g H__law_are_stages.k H__law_are_stages.b .nil pass0 (pa_cons (pv 13) (pa_cons (pv 6) pa_nil))))) (pss_one (ps_ret pe_bl)) pss_nil)))
      (pss_one (ps_for PassesOwn.never rfl (show PI _ _ _ (iSeq K _) from pi_seq (pe_call H__law_bit_rows.G (hr.mono (by decide)) (by rfl) H__law_bit_rows.g H__law_bit_rows.k H__law_bit_rows.b .nil pass0 (pa_cons (pv 3) pa_nil))) (pg_name (i := 14) sc.nd rfl (.inl rfl)) (pss_cons (ps_set (i := 15) sc.nd rfl (.inl rfl) (pe_callTy (show CallR _ _ (uLst K) from c_list) (by rfl) T.list (by decide +kernel) (pa_cons (pv 14) pa_nil)))
      (pss_cons (ps_if (pt_not (pt_val (pe_call H__law_leads.G (hr.mono (by decide)) (by rfl) H__law_leads.g H__law_leads.k H__law_leads.b .nil pass0 (pa_cons (pv 9) (pa_cons (pv 6) (pa_cons (pv 15) (pa_cons (pe_op (show OpR _ (binaryOp .Add) (uAdd K) from o_add) (pe_slice (show SlR _ (uSl K) from o_sl) (pv 15) po_none (po_some (pe_op (show OpR _ (binaryOp .Add) (uAdd K) from o_add) (pv 4) pe_int))) (pe_slice (show SlR _ (uSl K) from o_sl) (pv 15) (po_some (pv 4)) po_none)) pa_nil))))))) (pss_one (ps_ret pe_bl)) pss_nil)
      (pss_cons (ps_if (pt_not (pt_val (pe_call H__law_leads.G (hr.mono (by decide)) (by rfl) H__law_leads.g H__law_leads.k H__law_leads.b .nil pass0 (pa_cons (pv 10) (pa_cons (pv 6) (pa_cons (pv 15) (pa_cons (pe_op (show OpR _ (binaryOp .Add) (uAdd K) from o_add) (pe_op (show OpR _ (binaryOp .Add) (uAdd K) from o_add) (pe_slice (show SlR _ (uSl K) from o_sl) (pv 15) po_none (po_some (pv 7))) (pe_lst (pa_cons (pe_ix (show IxR _ (uIx K) from o_ix) (pv 15) (pe_op (show OpR _ (binaryOp .Add) (uAdd K) from o_add) (pv 7) pe_int) (fun _ _ => rfl)) (pa_cons (pe_ix (show IxR _ (uIx K) from o_ix) (pv 15) (pv 7) (fun _ _ => rfl)) pa_nil)))) (pe_slice (show SlR _ (uSl K) from o_sl) (pv 15) (po_some (pe_op (show OpR _ (binaryOp .Add) (uAdd K) from o_add) (pv 7) pe_int)) po_none)) pa_nil))))))) (pss_one (ps_ret pe_bl)) pss_nil)
      (pss_cons (ps_set (i := 16) sc.nd rfl (.inl rfl) (pe_op (show OpR _ (binaryOp .Add) (uAdd K) from o_add) (pe_slice (show SlR _ (uSl K) from o_sl) (pv 15) po_none (po_some (pv 4))) (pe_slice (show SlR _ (uSl K) from o_sl) (pv 15) (po_some (pe_op (show OpR _ (binaryOp .Add) (uAdd K) from o_add) (pv 4) pe_int)) po_none)))
      (pss_cons (ps_if (pt_not (pt_val (pe_call H__law_leads.G (hr.mono (by decide)) (by rfl) H__law_leads.g H__law_leads.k H__law_leads.b .nil pass0 (pa_cons (pv 11) (pa_cons (pv 6) (pa_cons (pv 15) (pa_cons (pe_op (show OpR _ (binaryOp .Add) (uAdd K) from o_add) (pe_op (show OpR _ (binaryOp .Add) (uAdd K) from o_add) (pe_slice (show SlR _ (uSl K) from o_sl) (pv 16) po_none (po_some (pv 5))) (pe_lst (pa_cons (pe_ix (show IxR _ (uIx K) from o_ix) (pv 15) (pv 4) (fun _ _ => rfl)) pa_nil))) (pe_slice (show SlR _ (uSl K) from o_sl) (pv 16) (po_some (pv 5)) po_none)) pa_nil))))))) (pss_one (ps_ret pe_bl)) pss_nil)
      (pss_cons (ps_set (i := 17) sc.nd rfl (.inl rfl) (pe_call H__law_gate.G (hr.mono (by decide)) (by rfl) H__law_gate.g H__law_gate.k H__law_gate.b .nil pass0 (pa_cons (pe_tup (pa_cons (pv 8) (pa_cons pe_int (pa_cons pe_int pa_nil)))) (pa_cons (pe_slice (show SlR _ (uSl K) from o_sl) (pv 15) (po_some (pv 7)) (po_some (pe_op (show OpR _ (binaryOp .Add) (uAdd K) from o_add) (pv 7) pe_int))) pa_nil))))
      (pss_one (ps_if (pt_not (pt_val (pe_call H__law_leads.G (hr.mono (by decide)) (by rfl) H__law_leads.g H__law_leads.k H__law_leads.b .nil pass0 (pa_cons (pv 12) (pa_cons (pv 6) (pa_cons (pv 15) (pa_cons (pe_op (show OpR _ (binaryOp .Add) (uAdd K) from o_add) (pe_op (show OpR _ (binaryOp .Add) (uAdd K) from o_add) (pe_slice (show SlR _ (uSl K) from o_sl) (pv 15) po_none (po_some (pv 7))) (pe_lst (pa_cons (pv 17) pa_nil))) (pe_slice (show SlR _ (uSl K) from o_sl) (pv 15) (po_some (pe_op (show OpR _ (binaryOp .Add) (uAdd K) from o_add) (pv 7) pe_int)) po_none)) pa_nil))))))) (pss_one (ps_ret pe_bl)) pss_nil))))))))))))))))))
      (pss_one (ps_ret (pe_cmpR (show OpR _ (compareOp .Eq) (rEqD K) from o_eq hr.units) (pe_call H_doubled.G (hr.mono (by decide)) (by rfl) H_doubled.g H_doubled.k H_doubled.b .nil pass0 (pa_cons pe_int (pa_cons pe_int pa_nil))) (pe_tup (pa_cons (pe_tup (pa_cons (pe_tup (pa_cons pe_str (pa_cons pe_int pa_nil))) pa_nil)) (pa_cons (pe_tup (pa_cons (pe_tup (pa_cons pe_str (pa_cons pe_int pa_nil))) (pa_cons (pe_tup (pa_cons pe_str (pa_cons pe_int pa_nil))) pa_nil))) pa_nil))) (nomark _)))))), ?_⟩
  refine law_run (G := ⟨K, XC⟩) (f := F_law) (fun pn => ?_) (by decide) hf h
  exact (cs_seq (cs_for (ci_rg1 (ca_cons ce_int ca_nil)) (tg_name 2) (cs_seq (cs_asg (ce_op ob_add (CE.b ce_int) (CE.b (ce_callP (ca_cons ce_int ca_nil)))) (tg_name 3))
    (cs_seq (cs_par3 (ca_cons (ce_callP (ca_cons (ce_var 3) ca_nil)) (ca_cons (ce_callP (ca_cons (ce_var 3) ca_nil)) (ca_cons (ce_op ob_add (CE.b (ce_op ob_mul (CE.b ce_int) (CE.b (ce_var 3)))) (CE.b ce_int)) ca_nil))))
    (cs_seq (cs_par (ca_cons (ce_callP (ca_cons (ce_op ob_sub (CE.b (ce_var 3)) (CE.b ce_int)) ca_nil)) (ca_cons (ce_callP (ca_cons (CF.ce (cf_lst (ca_cons ce_str (ca_cons ce_str (ca_cons ce_str ca_nil))))) ca_nil)) ca_nil)))
    (cs_seq (cs_asgV (ce_tup (ca_cons (ce_callN (ca_cons (ce_var 3) (ca_cons (ce_var 4) ca_nil))) (ca_cons (ce_callN (ca_cons (ce_var 3) (ca_cons (ce_var 7) ca_nil))) (ca_cons (ce_callN (ca_cons (ce_var 3) (ca_cons (ce_var 4) (ca_cons (ce_var 5) ca_nil)))) (ca_cons (ce_callN (ca_cons (ce_var 3) (ca_cons (ce_var 7) (ca_cons (ce_var 8) ca_nil)))) ca_nil))))) (v_tup (v_cons (v_name 9) (v_cons (v_name 10) (v_cons (v_name 11) (v_cons (v_name 12) v_nil))))))
    (cs_seq (cs_if (ct_or (ct_test (ce_op ob_ne (CE.b (ce_var 9)) (CE.b (ce_callN (ca_cons (ce_var 3) (ca_cons (ce_var 4) ca_nil)))))) (ct_test (ce_op ob_ne (CE.b (ce_var 10)) (CE.b (ce_callN (ca_cons (ce_var 3) (ca_cons (ce_var 7) ca_nil))))))) (cs_ret ce_bl) cs_next)
    (cs_seq (cs_if (ct_or (ct_test (ce_op ob_ne (CE.b (ce_var 11)) (CE.b (ce_callN (ca_cons (ce_var 3) (ca_cons (ce_var 4) (ca_cons (ce_var 5) ca_nil))))))) (ct_test (ce_op ob_ne (CE.b (ce_var 12)) (CE.b (ce_callN (ca_cons (ce_var 3) (ca_cons (ce_var 7) (ca_cons (ce_var 8) ca_nil)))))))) (cs_ret ce_bl) cs_next)
    (cs_seq (cs_for (ci_seq (CF.ce (cf_lst (ca_cons (ce_var 9) (ca_cons (ce_var 10) (ca_cons (ce_var 11) (ca_cons (ce_var 12) ca_nil))))))) (tg_name 13) (cs_if (ct_not (ct_B (ce_callN (ca_cons (ce_var 13) (ca_cons (ce_var 6) ca_nil))))) (cs_ret ce_bl) cs_next))
    (cs_for (ci_seq (ce_callN (ca_cons (ce_var 3) ca_nil))) (tg_name 14) (cs_seq (cs_asg (CF.ce (cf_cb1 f_list (CE.b (ce_var 14)))) (tg_name 15))
    (cs_seq (cs_if (ct_not (ct_B (ce_callN (ca_cons (ce_var 9) (ca_cons (ce_var 6) (ca_cons (ce_var 15) (ca_cons (ce_op ob_add (CE.b (ce_sl (CE.b (ce_var 15)) co_none (co_some (ce_op ob_add (CE.b (ce_var 4)) (CE.b ce_int))))) (CE.b (ce_sl (CE.b (ce_var 15)) (co_some (ce_var 4)) co_none))) ca_nil))))))) (cs_ret ce_bl) cs_next)
    (cs_seq (cs_if (ct_not (ct_B (ce_callN (ca_cons (ce_var 10) (ca_cons (ce_var 6) (ca_cons (ce_var 15) (ca_cons (ce_op ob_add (CE.b (ce_op ob_add (CE.b (ce_sl (CE.b (ce_var 15)) co_none (co_some (ce_var 7)))) (CF.b (cf_lst (ca_cons (ce_op ob_ix (CE.b (ce_var 15)) (CE.b (ce_op ob_add (CE.b (ce_var 7)) (CE.b ce_int)))) (ca_cons (ce_op ob_ix (CE.b (ce_var 15)) (CE.b (ce_var 7))) ca_nil)))))) (CE.b (ce_sl (CE.b (ce_var 15)) (co_some (ce_op ob_add (CE.b (ce_var 7)) (CE.b ce_int))) co_none))) ca_nil))))))) (cs_ret ce_bl) cs_next)
    (cs_seq (cs_asg (ce_op ob_add (CE.b (ce_sl (CE.b (ce_var 15)) co_none (co_some (ce_var 4)))) (CE.b (ce_sl (CE.b (ce_var 15)) (co_some (ce_op ob_add (CE.b (ce_var 4)) (CE.b ce_int))) co_none))) (tg_name 16))
    (cs_seq (cs_if (ct_not (ct_B (ce_callN (ca_cons (ce_var 11) (ca_cons (ce_var 6) (ca_cons (ce_var 15) (ca_cons (ce_op ob_add (CE.b (ce_op ob_add (CE.b (ce_sl (CE.b (ce_var 16)) co_none (co_some (ce_var 5)))) (CF.b (cf_lst (ca_cons (ce_op ob_ix (CE.b (ce_var 15)) (CE.b (ce_var 4))) ca_nil))))) (CE.b (ce_sl (CE.b (ce_var 16)) (co_some (ce_var 5)) co_none))) ca_nil))))))) (cs_ret ce_bl) cs_next)
    (cs_seq (cs_asg (ce_callN (ca_cons (ce_tup (ca_cons (ce_var 8) (ca_cons ce_int (ca_cons ce_int ca_nil)))) (ca_cons (ce_sl (CE.b (ce_var 15)) (co_some (ce_var 7)) (co_some (ce_op ob_add (CE.b (ce_var 7)) (CE.b ce_int)))) ca_nil))) (tg_name 17))
    (cs_if (ct_not (ct_B (ce_callN (ca_cons (ce_var 12) (ca_cons (ce_var 6) (ca_cons (ce_var 15) (ca_cons (ce_op ob_add (CE.b (ce_op ob_add (CE.b (ce_sl (CE.b (ce_var 15)) co_none (co_some (ce_var 7)))) (CF.b (cf_lst (ca_cons (ce_var 17) ca_nil))))) (CE.b (ce_sl (CE.b (ce_var 15)) (co_some (ce_op ob_add (CE.b (ce_var 7)) (CE.b ce_int))) co_none))) ca_nil))))))) (cs_ret ce_bl) cs_next))))))))))))))))
    (cs_ret (ce_op ob_eq (CE.b (ce_callN (ca_cons ce_int (ca_cons ce_int ca_nil)))) (CE.b (ce_tup (ca_cons (ce_tup (ca_cons (ce_tup (ca_cons ce_str (ca_cons ce_int ca_nil))) ca_nil)) (ca_cons (ce_tup (ca_cons (ce_tup (ca_cons ce_str (ca_cons ce_int ca_nil))) (ca_cons (ce_tup (ca_cons ce_str (ca_cons ce_int ca_nil))) ca_nil))) ca_nil)))))))
end
end Sb

set_option linter.all false
set_option maxRecDepth 100000
set_option maxHeartbeats 8000000
namespace Sb
open PySem PySem.Spec PyProof.Rows L2 Fw
inductive Kd where
  | wire | up | down | copy | or | xor | but
def Kd.nm : Kd → Str
  | .wire => "wire"
  | .up => "up"
  | .down => "down"
  | .copy => "copy"
  | .or => "or"
  | .xor => "xor"
  | .but => "but"
def bt (b : Bool) : D := .int (if b = true then 1 else 0)
def bts (bs : List Bool) : List D := bs.map bt
theorem bts_get {bs : List Bool} {r : Nat} {b : Bool} (h : bs[r]? = some b) : L2.atI (bts bs) (r : Int) = some (bt b) := by
  have hr : r < bs.length := (List.getElem?_eq_some_iff.mp h).1
  unfold L2.atI ixN bts
  rw [List.length_map, if_pos (by omega), if_pos (by omega)]
  show (bs.map bt)[(r : Int).toNat]? = _
  rw [List.getElem?_map, Int.toNat_natCast, h]
  rfl
theorem ix_nat {n r : Nat} (h : r < n) : ixN n (r : Int) = some r := by
  unfold ixN
  rw [if_pos (by omega), if_pos (by omega), Int.toNat_natCast]
theorem bts_len {bs : List Bool} : (bts bs).length = bs.length := List.length_map ..
theorem bts_set {bs : List Bool} {r : Nat} {b : Bool} : (bts bs).set r (bt b) = bts (bs.set r b) := by
  unfold bts
  rw [List.map_set]
theorem e_wire : ∀ k : Kd, dEq (.str k.nm) (.str "wire") = some (.bool (match k with | .wire => true | _ => false)) := by intro k; cases k <;> kernel_rfl
theorem e_up : ∀ k : Kd, dEq (.str k.nm) (.str "up") = some (.bool (match k with | .up => true | _ => false)) := by intro k; cases k <;> kernel_rfl
theorem e_down : ∀ k : Kd, dEq (.str k.nm) (.str "down") = some (.bool (match k with | .down => true | _ => false)) := by intro k; cases k <;> kernel_rfl
theorem e_copy : ∀ k : Kd, dEq (.str k.nm) (.str "copy") = some (.bool (match k with | .copy => true | _ => false)) := by intro k; cases k <;> kernel_rfl
theorem e_one : ∀ k : Kd, dEq (.str k.nm) (.str "one") = some (.bool false) := by intro k; cases k <;> kernel_rfl
theorem e_not : ∀ k : Kd, dEq (.str k.nm) (.str "not") = some (.bool false) := by intro k; cases k <;> kernel_rfl
theorem few_of {α β : Type} {l : List α} {x : β} (h : l.length ≤ 1000000) : few l x = some x := if_pos h
def gateB : Kd → Bool → Bool → Bool
  | .or, a, b => a || b
  | .xor, a, b => a != b
  | .but, a, b => a && !b
  | _, _, _ => false
def isGate : Kd → Bool
  | .or => true
  | .xor => true
  | .but => true
  | _ => false
theorem gate_end' (k : Kd) (h : isGate k = true) (a b : Bool) (r r2 : D) (x : Slot) (p : PenS) : (retS (op2 dGetK (dispG (((.inr "and"), (op2 dMul (slotD 2) (slotD 3))) :: (((.inr "or"), (op1 dMax (lstG (consG (slotD 2) (consG (slotD 3) (retG [])))))) :: (((.inr "xor"), (op1 dInt (op2 dNe (slotD 2) (slotD 3)))) :: (((.inr "but"), (op2 dMul (slotD 2) (op2 dSub (retG (.int 1)) (slotD 3)))) :: []))))) (op2 dIx (slotD 0) (retG (.int 0)))))
    ⟨[.d (.tuple [.str k.nm, r, r2]), x, .d (bt a), .d (bt b)], p⟩ = some (.rt (bt (gateB k a b)), ⟨[.d (.tuple [.str k.nm, r, r2]), x, .d (bt a), .d (bt b)], p⟩) := by
  cases k <;> first | exact absurd h (by decide) | (cases a <;> cases b <;> kernel_rfl)
theorem gate_ok {k : Kd} {r : Nat} {bs : List Bool} {a b : Bool} (h : isGate k = true) (ha : bs[r]? = some a) (hb : bs[r + 1]? = some b) (p : PenS) :
    defF false 4 F__law_gate [.tuple [.str k.nm, .int r, .int (r + 1 : Nat)], .list (bts bs)] p = some (.v (bt (gateB k a b)), p) := by
  have i0 : dIx (.tuple [.str k.nm, .int r, .int (r + 1 : Nat)]) (.int 0) = some (.str k.nm) := rfl
  have i1 : dIx (.tuple [.str k.nm, .int r, .int (r + 1 : Nat)]) (.int 1) = some (.int r) := rfl
  have i2 : dIx (.tuple [.str k.nm, .int r, .int (r + 1 : Nat)]) (.int 2) = some (.int (r + 1 : Nat)) := rfl
  have j1 : dIx (.list (bts bs)) (.int r) = some (bt a) := bts_get ha
  have j2 : dIx (.list (bts bs)) (.int (r + 1 : Nat)) = some (bt b) := bts_get hb
  have g := gate_end' k h a b (.int r) (.int (r + 1 : Nat)) (.d (.list (bts bs))) p
  unfold defF F__law_gate
  simp only [slots0, seqS, ifS, testG, op2, op1, Fw.bindG, thenS, slotD, slotB, retG, optG, boolD, List.map_cons, List.map_nil, List.nil_append, List.cons_append, List.length_cons, List.length_nil, List.getElem?_cons_zero, List.getElem?_cons_succ, Option.map_some, Option.bind_some, if_false, if_true, Bool.false_eq_true, nextS, parS, consG, List.replicate, List.set_cons_zero, List.set_cons_succ, asgV, asgS, nameT, subV, ownL, tupG, tupV, consV, nilV, consT, nilT, tupT, i0, i1, i2, j1, j2, e_one, e_not] at g ⊢
  rw [g]
  rfl
def stepB (bs found : List Bool) (k : Kd) (r : Nat) : Option (List Bool) :=
  match k with
  | .wire => (bs[r]?).bind fun x => if r < found.length then some (found.set r x) else none
  | .up => (bs[r]?).bind fun x => if 0 < r ∧ r - 1 < found.length then some (found.set (r - 1) x) else none
  | .down => (bs[r]?).bind fun x => if r + 1 < found.length then some (found.set (r + 1) x) else none
  | .copy => (bs[r]?).bind fun x => if r + 1 < found.length then some ((found.set r x).set (r + 1) x) else none
  | k => (bs[r]?).bind fun x => (bs[r + 1]?).bind fun y => if r < found.length then some (found.set r (gateB k x y)) else none
def body21 : FS := (ifS (testG (op2 dEq (slotD 3) (retG (.str "wire")))) (asgV (op2 dIx (slotD 1) (slotD 4)) (subV 2 (slotD 4))) (ifS (testG (op2 dEq (slotD 3) (retG (.str "up")))) (asgV (op2 dIx (slotD 1) (slotD 4)) (subV 2 (op2 dSub (slotD 4) (retG (.int 1))))) (ifS (testG (op2 dEq (slotD 3) (retG (.str "down")))) (asgV (op2 dIx (slotD 1) (slotD 4)) (subV 2 (op2 dAdd (slotD 4) (retG (.int 1))))) (ifS (testG (op2 dEq (slotD 3) (retG (.str "copy")))) (asgV (tupG (consG (op2 dIx (slotD 1) (slotD 4)) (consG (op2 dIx (slotD 1) (slotD 4)) (retG [])))) (tupV 2 (consV (subV 2 (slotD 4)) (consV (subV 2 (op2 dAdd (slotD 4) (retG (.int 1)))) nilV)))) (asgV (callN 2 (defF false 4 F__law_gate) (consG (tupG (consG (slotD 3) (consG (slotD 4) (consG (op2 dAdd (slotD 4) (retG (.int 1))) (retG []))))) (consG (slotD 1) (retG [])))) (subV 2 (slotD 4)))))))
def encT (t : Kd × Nat) : D := .tuple [.str t.1.nm, .int t.2]
theorem i_sub {r : Nat} (h : 0 < r) : dSub (.int r) (.int 1) = some (.int ((r - 1 : Nat) : Int)) := by
  show some (PyData.int ((r : Int) - 1)) = _
  congr 2
  omega
theorem i_add {r : Nat} : dAdd (.int r) (.int 1) = some (.int ((r + 1 : Nat) : Int)) := rfl
theorem step_ok {k : Kd} {r : Nat} {bs found found' : List Bool} (h : stepB bs found k r = some found') (x0 : Slot) (p : PenS) :
    body21 ⟨[x0, .d (.list (bts bs)), .o (.list (bts found)), .d (.str k.nm), .d (.int r)], p⟩ = some (.nx, ⟨[x0, .d (.list (bts bs)), .o (.list (bts found')), .d (.str k.nm), .d (.int r)], p⟩) := by
  unfold body21
  cases k with
  | wire =>
    obtain ⟨x, hx, h⟩ := Option.bind_eq_some_iff.mp h
    split at h
    · next hr =>
      cases h
      have j1 : dIx (.list (bts bs)) (.int r) = some (bt x) := bts_get hx
      have s1 := ix_nat hr
      simp only [slots0, seqS, ifS, testG, op2, op1, Fw.bindG, thenS, slotD, slotB, retG, optG, boolD, List.map_cons, List.map_nil, List.nil_append, List.cons_append, List.length_cons, List.length_nil, List.getElem?_cons_zero, List.getElem?_cons_succ, Option.map_some, Option.bind_some, if_false, if_true, Bool.false_eq_true, nextS, parS, consG, List.replicate, List.set_cons_zero, List.set_cons_succ, asgV, asgS, nameT, subV, ownL, tupG, tupV, consV, nilV, consT, nilT, tupT, e_wire, j1, bts_len, s1, bts_set]
    · cases h
  | up =>
    obtain ⟨x, hx, h⟩ := Option.bind_eq_some_iff.mp h
    split at h
    · next hr =>
      cases h
      have j1 : dIx (.list (bts bs)) (.int r) = some (bt x) := bts_get hx
      have s1 := ix_nat hr.2
      simp only [slots0, seqS, ifS, testG, op2, op1, Fw.bindG, thenS, slotD, slotB, retG, optG, boolD, List.map_cons, List.map_nil, List.nil_append, List.cons_append, List.length_cons, List.length_nil, List.getElem?_cons_zero, List.getElem?_cons_succ, Option.map_some, Option.bind_some, if_false, if_true, Bool.false_eq_true, nextS, parS, consG, List.replicate, List.set_cons_zero, List.set_cons_succ, asgV, asgS, nameT, subV, ownL, tupG, tupV, consV, nilV, consT, nilT, tupT, e_wire, e_up, j1, bts_len, i_sub hr.1, s1, bts_set]
    · cases h
  | down =>
    obtain ⟨x, hx, h⟩ := Option.bind_eq_some_iff.mp h
    split at h
    · next hr =>
      cases h
      have j1 : dIx (.list (bts bs)) (.int r) = some (bt x) := bts_get hx
      have s1 := ix_nat hr
      simp only [slots0, seqS, ifS, testG, op2, op1, Fw.bindG, thenS, slotD, slotB, retG, optG, boolD, List.map_cons, List.map_nil, List.nil_append, List.cons_append, List.length_cons, List.length_nil, List.getElem?_cons_zero, List.getElem?_cons_succ, Option.map_some, Option.bind_some, if_false, if_true, Bool.false_eq_true, nextS, parS, consG, List.replicate, List.set_cons_zero, List.set_cons_succ, asgV, asgS, nameT, subV, ownL, tupG, tupV, consV, nilV, consT, nilT, tupT, e_wire, e_up, e_down, j1, bts_len, i_add, s1, bts_set]
    · cases h
  | copy =>
    obtain ⟨x, hx, h⟩ := Option.bind_eq_some_iff.mp h
    split at h
    · next hr =>
      cases h
      have j1 : dIx (.list (bts bs)) (.int r) = some (bt x) := bts_get hx
      have s1 := ix_nat hr
      have s0 := ix_nat (Nat.lt_of_succ_lt hr)
      have f2 : few [bt x, bt x] (PyData.tuple [bt x, bt x]) = some (PyData.tuple [bt x, bt x]) := rfl
      simp only [slots0, seqS, ifS, testG, op2, op1, Fw.bindG, thenS, slotD, slotB, retG, optG, boolD, List.map_cons, List.map_nil, List.nil_append, List.cons_append, List.length_cons, List.length_nil, List.getElem?_cons_zero, List.getElem?_cons_succ, Option.map_some, Option.bind_some, if_false, if_true, Bool.false_eq_true, nextS, parS, consG, List.replicate, List.set_cons_zero, List.set_cons_succ, asgV, asgS, nameT, subV, ownL, tupG, tupV, consV, nilV, consT, nilT, tupT, e_wire, e_up, e_down, e_copy, j1, bts_len, i_add, s1, s0, bts_set, f2, List.length_set]
    · cases h
  | or =>
    obtain ⟨x, hx, h⟩ := Option.bind_eq_some_iff.mp h
    obtain ⟨y, hy, h⟩ := Option.bind_eq_some_iff.mp h
    split at h
    · next hr =>
      cases h
      have s0 := ix_nat hr
      have f3 : few [PyData.str Kd.or.nm, PyData.int r, PyData.int ((r + 1 : Nat) : Int)] (PyData.tuple [PyData.str Kd.or.nm, PyData.int r, PyData.int ((r + 1 : Nat) : Int)]) = some (PyData.tuple [PyData.str Kd.or.nm, PyData.int r, PyData.int ((r + 1 : Nat) : Int)]) := rfl
      have gk := gate_ok (k := .or) rfl hx hy pen0
      simp only [slots0, seqS, ifS, testG, op2, op1, Fw.bindG, thenS, slotD, slotB, retG, optG, boolD, List.map_cons, List.map_nil, List.nil_append, List.cons_append, List.length_cons, List.length_nil, List.getElem?_cons_zero, List.getElem?_cons_succ, Option.map_some, Option.bind_some, if_false, if_true, Bool.false_eq_true, nextS, parS, consG, List.replicate, List.set_cons_zero, List.set_cons_succ, asgV, asgS, nameT, subV, ownL, tupG, tupV, consV, nilV, consT, nilT, tupT, e_wire, e_up, e_down, e_copy, bts_len, i_add, s0, bts_set, callN, f3, gk]
    · cases h
  | xor =>
    obtain ⟨x, hx, h⟩ := Option.bind_eq_some_iff.mp h
    obtain ⟨y, hy, h⟩ := Option.bind_eq_some_iff.mp h
    split at h
    · next hr =>
      cases h
      have s0 := ix_nat hr
      have f3 : few [PyData.str Kd.xor.nm, PyData.int r, PyData.int ((r + 1 : Nat) : Int)] (PyData.tuple [PyData.str Kd.xor.nm, PyData.int r, PyData.int ((r + 1 : Nat) : Int)]) = some (PyData.tuple [PyData.str Kd.xor.nm, PyData.int r, PyData.int ((r + 1 : Nat) : Int)]) := rfl
      have gk := gate_ok (k := .xor) rfl hx hy pen0
      simp only [slots0, seqS, ifS, testG, op2, op1, Fw.bindG, thenS, slotD, slotB, retG, optG, boolD, List.map_cons, List.map_nil, List.nil_append, List.cons_append, List.length_cons, List.length_nil, List.getElem?_cons_zero, List.getElem?_cons_succ, Option.map_some, Option.bind_some, if_false, if_true, Bool.false_eq_true, nextS, parS, consG, List.replicate, List.set_cons_zero, List.set_cons_succ, asgV, asgS, nameT, subV, ownL, tupG, tupV, consV, nilV, consT, nilT, tupT, e_wire, e_up, e_down, e_copy, bts_len, i_add, s0, bts_set, callN, f3, gk]
    · cases h
  | but =>
    obtain ⟨x, hx, h⟩ := Option.bind_eq_some_iff.mp h
    obtain ⟨y, hy, h⟩ := Option.bind_eq_some_iff.mp h
    split at h
    · next hr =>
      cases h
      have s0 := ix_nat hr
      have f3 : few [PyData.str Kd.but.nm, PyData.int r, PyData.int ((r + 1 : Nat) : Int)] (PyData.tuple [PyData.str Kd.but.nm, PyData.int r, PyData.int ((r + 1 : Nat) : Int)]) = some (PyData.tuple [PyData.str Kd.but.nm, PyData.int r, PyData.int ((r + 1 : Nat) : Int)]) := rfl
      have gk := gate_ok (k := .but) rfl hx hy pen0
      simp only [slots0, seqS, ifS, testG, op2, op1, Fw.bindG, thenS, slotD, slotB, retG, optG, boolD, List.map_cons, List.map_nil, List.nil_append, List.cons_append, List.length_cons, List.length_nil, List.getElem?_cons_zero, List.getElem?_cons_succ, Option.map_some, Option.bind_some, if_false, if_true, Bool.false_eq_true, nextS, parS, consG, List.replicate, List.set_cons_zero, List.set_cons_succ, asgV, asgS, nameT, subV, ownL, tupG, tupV, consV, nilV, consT, nilT, tupT, e_wire, e_up, e_down, e_copy, bts_len, i_add, s0, bts_set, callN, f3, gk]
    · cases h
def stageL (bs : List Bool) : List (Kd × Nat) → List Bool → Option (List Bool)
  | [], f => some f
  | t :: ts, f => (stepB bs f t.1 t.2).bind (stageL bs ts)
theorem stepB_len {bs f f' : List Bool} {k : Kd} {r : Nat} (h : stepB bs f k r = some f') : f'.length = f.length := by
  cases k <;>
    (obtain ⟨x, hx, h⟩ := Option.bind_eq_some_iff.mp h
     first
      | (obtain ⟨y, hy, h⟩ := Option.bind_eq_some_iff.mp h
         split at h <;> cases h
         simp)
      | (split at h <;> cases h
         simp))
theorem stage_loop : ∀ (ts : List (Kd × Nat)) {bs found found' : List Bool} (x0 x3 x4 : Slot) (p : PenS), stageL bs ts found = some found' →
    ∃ y3 y4, forL (tupT 2 (consT (nameT 3) (consT (nameT 4) nilT))) body21 (ts.map encT) ⟨[x0, .d (.list (bts bs)), .o (.list (bts found)), x3, x4], p⟩ = some (.nx, ⟨[x0, .d (.list (bts bs)), .o (.list (bts found')), y3, y4], p⟩)
  | [], _, _, _, x0, x3, x4, p, h => by cases h; exact ⟨x3, x4, rfl⟩
  | t :: ts, bs, found, found', x0, x3, x4, p, h => by
    obtain ⟨f1, h1, h2⟩ := Option.bind_eq_some_iff.mp h
    obtain ⟨y3, y4, h3⟩ := stage_loop ts x0 (.d (.str t.1.nm)) (.d (.int t.2)) p h2
    refine ⟨y3, y4, ?_⟩
    have hb := step_ok h1 x0 p
    have hs : tupT 2 (consT (nameT 3) (consT (nameT 4) nilT)) (encT t) [x0, .d (.list (bts bs)), .o (.list (bts found)), x3, x4] = some [x0, .d (.list (bts bs)), .o (.list (bts found)), .d (.str t.1.nm), .d (.int t.2)] := rfl
    rw [List.map_cons]
    unfold forL
    dsimp only
    rw [hs]
    dsimp only
    rw [hb]
    exact h3
theorem rep_bts {n : Nat} : (List.replicate ((n : Int)).toNat [PyData.int 0]).flatten = bts (List.replicate n false) := by
  rw [Int.toNat_natCast]
  unfold bts
  induction n with
  | zero => rfl
  | succ n ih => rw [List.replicate_succ, List.flatten_cons, ih, List.replicate_succ, List.map_cons]; rfl
theorem stage_ok {ts : List (Kd × Nat)} {bs found' : List Bool} (p : PenS) (h : stageL bs ts (List.replicate bs.length false) = some found') (hl : bs.length ≤ 1000) :
    defF false 5 F__law_stage_behind [.tuple (ts.map encT), .list (bts bs)] p = some (.v (.list (bts found')), p) := by
  obtain ⟨y3, y4, h3⟩ := stage_loop ts (.d (.tuple (ts.map encT))) .u .u p h
  have r1 : dRep (.list [.int 0]) (.int (bs.length : Int)) = some (.list (bts (List.replicate bs.length false))) := by
    unfold dRep
    dsimp only
    rw [if_pos ⟨by omega, by simp; omega, by omega⟩, rep_bts]
  have f1 : few [PyData.int 0] (PyData.list [PyData.int 0]) = some (PyData.list [PyData.int 0]) := rfl
  have l1 : dLen (.list (bts bs)) = some (.int (bs.length : Int)) := by show some (PyData.int ((bts bs).length : Int)) = _; rw [bts_len]
  unfold defF F__law_stage_behind
  show ofFl (seqS _ (seqS (forS _ _ body21) _) _) = _
  simp only [slots0, seqS, ifS, testG, op2, op1, Fw.bindG, thenS, slotD, slotB, retG, optG, boolD, List.map_cons, List.map_nil, List.nil_append, List.cons_append, List.length_cons, List.length_nil, List.getElem?_cons_zero, List.getElem?_cons_succ, Option.map_some, Option.bind_some, if_false, if_true, Bool.false_eq_true, nextS, parS, consG, List.replicate, List.set_cons_zero, List.set_cons_succ, asgV, asgS, nameT, subV, ownL, tupG, tupV, consV, nilV, consT, nilT, tupT, asgO, forS, seqI, seqD, lstG, f1, l1, r1, h3, Fw.relS, retS, List.length_replicate, Nat.reduceAdd, Nat.reduceSub, Nat.reduceLT, Bool.false_eq_true]
  rfl
def passL : List (List (Kd × Nat)) → List Bool → Option (List Bool)
  | [], bs => some bs
  | ts :: r, bs => (stageL bs ts (List.replicate bs.length false)).bind (passL r)
theorem stageL_len : ∀ (ts : List (Kd × Nat)) {bs f f' : List Bool}, stageL bs ts f = some f' → f'.length = f.length
  | [], _, _, _, h => by cases h; rfl
  | t :: ts, _, _, _, h => by
    obtain ⟨f1, h1, h2⟩ := Option.bind_eq_some_iff.mp h
    rw [stageL_len ts h2, stepB_len h1]
def encS (ts : List (Kd × Nat)) : D := .tuple (ts.map encT)
def pbody : FS := asgS (callN 2 (defF false 5 F__law_stage_behind) (consG (slotD 2) (consG (slotD 1) (retG [])))) (nameT 1)
theorem pass_loop : ∀ (sts : List (List (Kd × Nat))) {bs out : List Bool} (x0 x2 : Slot) (p : PenS), bs.length ≤ 1000 → passL sts bs = some out →
    ∃ y2, forL (nameT 2) pbody (sts.map encS) ⟨[x0, .d (.list (bts bs)), x2], p⟩ = some (.nx, ⟨[x0, .d (.list (bts out)), y2], p⟩)
  | [], _, _, x0, x2, p, _, h => by cases h; exact ⟨x2, rfl⟩
  | ts :: r, bs, out, x0, x2, p, hl, h => by
    obtain ⟨f1, h1, h2⟩ := Option.bind_eq_some_iff.mp h
    have hlen := stageL_len ts h1
    rw [List.length_replicate] at hlen
    obtain ⟨y2, h3⟩ := pass_loop r x0 (.d (encS ts)) p (by omega) h2
    refine ⟨y2, ?_⟩
    have hst := stage_ok pen0 h1 hl
    rw [List.map_cons]
    unfold forL
    dsimp only [nameT]
    have hb : pbody ⟨[x0, .d (.list (bts bs)), .d (encS ts)], p⟩ = some (.nx, ⟨[x0, .d (.list (bts f1)), .d (encS ts)], p⟩) := by
      unfold encS pbody
      simp only [slots0, seqS, ifS, testG, op2, op1, Fw.bindG, thenS, slotD, slotB, retG, optG, boolD, List.map_cons, List.map_nil, List.nil_append, List.cons_append, List.length_cons, List.length_nil, List.getElem?_cons_zero, List.getElem?_cons_succ, Option.map_some, Option.bind_some, if_false, if_true, Bool.false_eq_true, nextS, parS, consG, List.replicate, List.set_cons_zero, List.set_cons_succ, asgV, asgS, nameT, subV, ownL, tupG, tupV, consV, nilV, consT, nilT, tupT, callN, hst]
    show (match pbody ⟨[x0, .d (.list (bts bs)), .d (encS ts)], p⟩ with
      | none => none
      | some (.nx, e') => forL (nameT 2) _ (r.map encS) e'
      | some (.ct, e') => forL (nameT 2) _ (r.map encS) e'
      | some (.bk, e') => some (.nx, e')
      | some (.rt d, e') => some (.rt d, e')
      | some (.x c ns xs, e') => some (.x c ns xs, e')) = _
    rw [hb]
    exact h3
theorem passed_ok {sts : List (List (Kd × Nat))} {bs out : List Bool} (p : PenS) (h : passL sts bs = some out) (hl : bs.length ≤ 1000) :
    defF false 3 F__law_passed [.tuple (sts.map encS), .list (bts bs)] p = some (.v (.list (bts out)), p) := by
  obtain ⟨y2, h3⟩ := pass_loop sts (.d (.tuple (sts.map encS))) .u p hl h
  have l1 : dLst (.list (bts out)) = some (.list (bts out)) := rfl
  unfold defF F__law_passed
  show ofFl (seqS (forS _ _ pbody) _ _) = _
  simp only [slots0, seqS, ifS, testG, op2, op1, Fw.bindG, thenS, slotD, slotB, retG, optG, boolD, List.map_cons, List.map_nil, List.nil_append, List.cons_append, List.length_cons, List.length_nil, List.getElem?_cons_zero, List.getElem?_cons_succ, Option.map_some, Option.bind_some, if_false, if_true, Bool.false_eq_true, nextS, parS, consG, List.replicate, List.set_cons_zero, List.set_cons_succ, asgV, asgS, nameT, subV, ownL, tupG, tupV, consV, nilV, consT, nilT, tupT, forS, seqI, seqD, retS, h3, l1, Nat.reduceAdd, Nat.reduceSub]
  rfl
def setL (bs : List Bool) : List Nat → List Bool → Option (List Bool)
  | [], f => some f
  | k :: ks, f => (bs[k]?).bind fun b => if 2 * k < f.length then setL bs ks (f.set (2 * k) b) else none
def slotsB (n : Nat) (bs : List Bool) : Option (List Bool) := setL bs (List.range bs.length) (List.replicate n false)
def sbody : FS := asgV (op2 dIx (slotD 1) (slotD 3)) (subV 2 (op2 dMul (retG (.int 2)) (slotD 3)))
theorem slot_loop : ∀ (ks : List Nat) {bs f f' : List Bool} (x0 x3 : Slot) (p : PenS), setL bs ks f = some f' →
    ∃ y3, forL (nameT 3) sbody (ks.map fun (k : Nat) => PyData.int (k : Int)) ⟨[x0, .d (.list (bts bs)), .o (.list (bts f)), x3], p⟩ = some (.nx, ⟨[x0, .d (.list (bts bs)), .o (.list (bts f')), y3], p⟩)
  | [], _, _, _, x0, x3, p, h => by cases h; exact ⟨x3, rfl⟩
  | k :: ks, bs, f, f', x0, x3, p, h => by
    obtain ⟨b, h1, h2⟩ := Option.bind_eq_some_iff.mp h
    split at h2
    · next hk =>
      obtain ⟨y3, h3⟩ := slot_loop ks x0 (.d (.int k)) p h2
      refine ⟨y3, ?_⟩
      have j1 : dIx (.list (bts bs)) (.int k) = some (bt b) := bts_get h1
      have m1 : dMul (.int 2) (.int k) = some (.int ((2 * k : Nat) : Int)) := rfl
      have s1 := ix_nat hk
      have hb : sbody ⟨[x0, .d (.list (bts bs)), .o (.list (bts f)), .d (.int k)], p⟩ = some (.nx, ⟨[x0, .d (.list (bts bs)), .o (.list (bts (f.set (2 * k) b))), .d (.int k)], p⟩) := by
        unfold sbody
        simp only [slots0, seqS, ifS, testG, op2, op1, Fw.bindG, thenS, slotD, slotB, retG, optG, boolD, List.map_cons, List.map_nil, List.nil_append, List.cons_append, List.length_cons, List.length_nil, List.getElem?_cons_zero, List.getElem?_cons_succ, Option.map_some, Option.bind_some, if_false, if_true, Bool.false_eq_true, nextS, parS, consG, List.replicate, List.set_cons_zero, List.set_cons_succ, asgV, asgS, nameT, subV, ownL, tupG, tupV, consV, nilV, consT, nilT, tupT, j1, m1, s1, bts_len, bts_set]
      show (match sbody ⟨[x0, .d (.list (bts bs)), .o (.list (bts f)), .d (.int k)], p⟩ with
        | none => none
        | some (.nx, e') => forL (nameT 3) sbody (ks.map fun (k : Nat) => PyData.int (k : Int)) e'
        | some (.ct, e') => forL (nameT 3) sbody (ks.map fun (k : Nat) => PyData.int (k : Int)) e'
        | some (.bk, e') => some (.nx, e')
        | some (.rt d, e') => some (.rt d, e')
        | some (.x c ns xs, e') => some (.x c ns xs, e')) = _
      rw [hb]
      exact h3
    · cases h2
theorem rgD_zero {n : Nat} : rgD 0 n = (List.range n).map fun (k : Nat) => PyData.int (k : Int) := by
  unfold rgD
  congr 1
  funext k
  rw [Int.zero_add]
theorem rep_btsN {n : Nat} : dRep (.list [.int 0]) (.int (n : Int)) = if n ≤ 100000 then some (.list (bts (List.replicate n false))) else none := by
  unfold dRep
  dsimp only
  by_cases h : n ≤ 100000
  · rw [if_pos ⟨by omega, by simp; omega, by omega⟩, if_pos h, rep_bts]
  · rw [if_neg (by omega), if_neg h]
theorem slots_ok {n : Nat} {bs f : List Bool} (p : PenS) (h : slotsB n bs = some f) (hn : n ≤ 1000) (hl : bs.length ≤ 1000) :
    defF false 4 F__law_slot_bits [.int (n : Int), .list (bts bs)] p = some (.v (.list (bts f)), p) := by
  obtain ⟨y3, h3⟩ := slot_loop (List.range bs.length) (.d (.int (n : Int))) .u p h
  have r1 : dRep (.list [.int 0]) (.int (n : Int)) = some (.list (bts (List.replicate n false))) := by rw [rep_btsN, if_pos (by omega)]
  have f1 : few [PyData.int 0] (PyData.list [PyData.int 0]) = some (PyData.list [PyData.int 0]) := rfl
  have l1 : dLen (.list (bts bs)) = some (.int (bs.length : Int)) := by show some (PyData.int ((bts bs).length : Int)) = _; rw [bts_len]
  have g1 : rg1D [.int (bs.length : Int)] = some ((List.range bs.length).map fun (k : Nat) => PyData.int (k : Int)) := by
    have ok : okR (bs.length : Int) = true := by unfold okR; simp; omega
    unfold rg1D
    dsimp only
    rw [if_pos ok, Int.toNat_natCast, rgD_zero]
  unfold defF F__law_slot_bits
  show ofFl (seqS _ (seqS (forS _ _ sbody) _) _) = _
  simp only [slots0, seqS, ifS, testG, op2, op1, Fw.bindG, thenS, slotD, slotB, retG, optG, boolD, List.map_cons, List.map_nil, List.nil_append, List.cons_append, List.length_cons, List.length_nil, List.getElem?_cons_zero, List.getElem?_cons_succ, Option.map_some, Option.bind_some, if_false, if_true, Bool.false_eq_true, nextS, parS, consG, List.replicate, List.set_cons_zero, List.set_cons_succ, asgV, asgS, nameT, subV, ownL, tupG, tupV, consV, nilV, consT, nilT, tupT, asgO, forS, rgI, lstG, f1, l1, r1, g1, h3, Fw.relS, retS, List.length_replicate, Nat.reduceAdd, Nat.reduceSub, Nat.reduceLT]
  rfl
theorem bts_ok : ∀ (bs : List Bool), plainA (bts bs) = true ∧ PyData.canLayAll0 (bts bs) = true ∧ PyData.depthAll (bts bs) = 0
  | [] => ⟨rfl, rfl, rfl⟩
  | b :: bs => by
    obtain ⟨h1, h2, h3⟩ := bts_ok bs
    refine ⟨?_, ?_, ?_⟩
    · show (plain (bt b) && plainA (bts bs)) = true
      rw [h1]; rfl
    · show (PyData.canLay0 (bt b) && PyData.canLayAll0 (bts bs)) = true
      rw [h2]; rfl
    · show max (PyData.depth (bt b)) (PyData.depthAll (bts bs)) = 0
      rw [h3]; rfl
theorem okD_bts {bs : List Bool} : okD (.list (bts bs)) = true := by
  obtain ⟨h1, h2, h3⟩ := bts_ok bs
  have e1 : plain (.list (bts bs)) = plainA (bts bs) := rfl
  have e2 : PyData.canLay0 (.list (bts bs)) = PyData.canLayAll0 (bts bs) := rfl
  have e3 : PyData.depth (.list (bts bs)) = PyData.depthAll (bts bs) + 1 := rfl
  unfold okD SeqAt.shaped
  rw [e1, e2, e3, h1, h2, h3]
  rfl
theorem eqv_bts : ∀ (bs : List Bool), PyData.eqvAll (bts bs) (bts bs) = true
  | [] => rfl
  | b :: bs => by
    show (PyData.eqv (bt b) (bt b) && PyData.eqvAll (bts bs) (bts bs)) = true
    rw [eqv_bts bs]
    cases b <;> rfl
theorem dEq_bts {bs : List Bool} : dEq (.list (bts bs)) (.list (bts bs)) = some (.bool true) := by
  unfold dEq
  rw [if_pos ⟨okD_bts, okD_bts⟩]
  show some (PyData.bool (PyData.eqvAll (bts bs) (bts bs))) = _
  rw [eqv_bts]
/-- stages lead these bits of the slots to those -/
theorem leads_ok {sts : List (List (Kd × Nat))} {n : Nat} {a b sa sb : List Bool} (p : PenS) (h1 : slotsB n a = some sa) (h2 : slotsB n b = some sb) (h3 : passL sts sa = some sb) (hn : n ≤ 1000) (ha : a.length ≤ 1000) (hb : b.length ≤ 1000) (hs : sa.length ≤ 1000) :
    defF false 4 F__law_leads [.tuple (sts.map encS), .int (n : Int), .list (bts a), .list (bts b)] p = some (.v (.bool true), p) := by
  have k1 := slots_ok pen0 h1 hn ha
  have k2 := slots_ok pen0 h2 hn hb
  have k3 := passed_ok pen0 h3 hs
  unfold defF F__law_leads
  simp only [slots0, seqS, ifS, testG, op2, op1, Fw.bindG, thenS, slotD, slotB, retG, optG, boolD, List.map_cons, List.map_nil, List.nil_append, List.cons_append, List.length_cons, List.length_nil, List.getElem?_cons_zero, List.getElem?_cons_succ, Option.map_some, Option.bind_some, if_false, if_true, Bool.false_eq_true, nextS, parS, consG, List.replicate, List.set_cons_zero, List.set_cons_succ, asgV, asgS, nameT, subV, ownL, tupG, tupV, consV, nilV, consT, nilT, tupT, retS, callN, k1, k2, k3, dEq_bts, Nat.reduceAdd, Nat.reduceSub]
  rfl
end Sb

set_option linter.all false
set_option maxRecDepth 100000
set_option maxHeartbeats 8000000
namespace Sb
open PySem PySem.Spec PyProof.Rows L2 Fw
abbrev Sts := List (List (Kd × Nat))
def tilesL (k : Kd) (a b : Nat) : List (Kd × Nat) := (List.range ((b + 1 - a) / 2)).map fun i => (k, a + 2 * i)
def doubledL (m p : Nat) : Sts := [tilesL .wire 0 (2 * p) ++ (.copy, 2 * p) :: tilesL .down (2 * p + 2) (2 * m), tilesL .wire 0 (2 * p + 2) ++ tilesL .down (2 * p + 1) (2 * m)]
def exchangedL (m p : Nat) : Sts := [[(.copy, 2 * p), (.copy, 2 * p + 2)], [(.wire, 2 * p), (.xor, 2 * p + 1), (.wire, 2 * p + 3)], [(.wire, 2 * p), (.copy, 2 * p + 1), (.wire, 2 * p + 3)], [(.xor, 2 * p), (.xor, 2 * p + 2)]].map fun ts =>
  tilesL .wire 0 (2 * p) ++ ts ++ tilesL .wire (2 * p + 4) (2 * m)
def ledL (m p q : Nat) : Sts := if p < q then ((List.range (q - p)).map fun i => p + i).flatMap (exchangedL m) else ((List.range (p - q)).map fun i => p - 1 - i).flatMap (exchangedL m)
def madeL (m p : Nat) (k : Kd) : Sts := [tilesL .wire 0 (2 * p + 2) ++ tilesL .up (2 * p + 2) (2 * m), tilesL .wire 0 (2 * p) ++ (k, 2 * p) :: tilesL .up (2 * p + 3) (2 * m - 1)]
def encP (s : Sts) : D := .tuple (s.map encS)
def strq (a b : Str) : Bool := a.cps.toList == b.cps.toList
def isTile : D → Kd × Nat → Bool
  | .tuple [.str a, .int r], t => strq a t.1.nm && decide (r = t.2)
  | _, _ => false
def isStage : List D → List (Kd × Nat) → Bool
  | [], [] => true
  | d :: ds, t :: ts => isTile d t && isStage ds ts
  | _, _ => false
def isSts : List D → Sts → Bool
  | [], [] => true
  | .tuple d :: ds, t :: ts => isStage d t && isSts ds ts
  | _, _ => false
def isP (o : Option (Rs D × PenS)) (s : Sts) : Bool := match o with
  | some (.v (.tuple ds), _) => isSts ds s
  | _ => false
def rowsB : Nat → List (List Bool)
  | 0 => [[]]
  | n + 1 => (rowsB n).flatMap fun r => [r ++ [false], r ++ [true]]
def isBits : List D → List Bool → Bool
  | [], [] => true
  | .int i :: ds, b :: bs => decide (i = if b = true then 1 else 0) && isBits ds bs
  | _, _ => false
def isRows : List D → List (List Bool) → Bool
  | [], [] => true
  | .tuple d :: ds, r :: rs => isBits d r && isRows ds rs
  | _, _ => false
def encR (r : List Bool) : D := .tuple (bts r)
theorem isBits_eq : ∀ {ds : List D} {bs : List Bool}, isBits ds bs = true → ds = bts bs
  | [], [], _ => rfl
  | .int i :: ds, b :: bs, h => by
    simp only [isBits, Bool.and_eq_true, decide_eq_true_eq] at h
    rw [isBits_eq h.2, h.1]
    rfl
theorem isRows_eq : ∀ {ds : List D} {bs : List (List Bool)}, isRows ds bs = true → ds = bs.map encR
  | [], [], _ => rfl
  | .tuple d :: ds, r :: rs, h => by
    simp only [isRows, Bool.and_eq_true] at h
    rw [isRows_eq h.2, isBits_eq h.1]
    rfl
theorem isTile_eq {d : D} {t : Kd × Nat} (h : isTile d t = true) : d = encT t := by
  unfold isTile at h
  split at h
  · next a r =>
    simp only [Bool.and_eq_true, decide_eq_true_eq, strq, beq_iff_eq] at h
    obtain ⟨h1, rfl⟩ := h
    have e : a = t.1.nm := by
      obtain ⟨ca⟩ := a
      generalize t.1.nm = b at h1 ⊢
      obtain ⟨cb⟩ := b
      exact congrArg Str.mk (Array.ext' h1)
    rw [e]
    rfl
  · cases h
theorem isStage_eq : ∀ {ds : List D} {ts : List (Kd × Nat)}, isStage ds ts = true → ds = ts.map encT
  | [], [], _ => rfl
  | d :: ds, t :: ts, h => by
    simp only [isStage, Bool.and_eq_true] at h
    rw [isStage_eq h.2, isTile_eq h.1]
    rfl
theorem isSts_eq : ∀ {ds : List D} {ts : Sts}, isSts ds ts = true → ds = ts.map encS
  | [], [], _ => rfl
  | .tuple d :: ds, t :: ts, h => by
    simp only [isSts, Bool.and_eq_true] at h
    rw [isSts_eq h.2, isStage_eq h.1]
    rfl
/-- a call told by its data -/
def Tells (F : FF) (ds : List D) (d : D) : Prop := ∃ q, F ds pen0 = some (.v d, q)
theorem isP_eq {F : FF} {ds : List D} {s : Sts} (h : isP (F ds pen0) s = true) : Tells F ds (encP s) := by
  unfold isP at h
  split at h
  · next es q he => exact ⟨q, by rw [he, isSts_eq h]; rfl⟩
  · cases h
def isR (o : Option (Rs D × PenS)) (s : List (List Bool)) : Bool := match o with
  | some (.v (.list ds), _) => isRows ds s
  | _ => false
theorem isR_eq {F : FF} {ds : List D} {s : List (List Bool)} (h : isR (F ds pen0) s = true) : Tells F ds (.list (s.map encR)) := by
  unfold isR at h
  split at h
  · next es q he => exact ⟨q, by rw [he, isRows_eq h]⟩
  · cases h
def isTr (o : Option (Rs D × PenS)) : Bool := match o with
  | some (.v (.bool b), _) => b
  | _ => false
theorem isTr_eq {F : FF} {ds : List D} (h : isTr (F ds pen0) = true) : Tells F ds (.bool true) := by
  unfold isTr at h
  split at h
  · next b q he => exact ⟨q, by rw [he, h]⟩
  · cases h
def cutB (xs : List Bool) (lo hi : Option Int) : List Bool := (xs.drop (HT.sIx xs.length 0 lo)).take (HT.sIx xs.length xs.length hi - HT.sIx xs.length 0 lo)
theorem cut_bts {bs : List Bool} {lo hi : Option Int} : Fw.cutD (bts bs) lo hi = bts (cutB bs lo hi) := by
  unfold Fw.cutD cutB
  rw [bts_len]
  unfold bts
  rw [List.map_take, List.map_drop]
theorem cutB_len {bs : List Bool} {lo hi : Option Int} : (cutB bs lo hi).length ≤ bs.length := by
  unfold cutB
  rw [List.length_take, List.length_drop]
  omega
def leadB (n : Nat) (sts : Sts) (a b : List Bool) : Bool := match slotsB n a, slotsB n b with
  | some sa, some sb => (passL sts sa == some sb) && decide (a.length ≤ 1000) && decide (b.length ≤ 1000) && decide (sa.length ≤ 1000)
  | _, _ => false
theorem leadB_eq {n : Nat} {sts : Sts} {a b : List Bool} (h : leadB n sts a b = true) (hn : n ≤ 1000) : Tells (defF false 4 F__law_leads) [encP sts, .int (n : Int), .list (bts a), .list (bts b)] (.bool true) := by
  unfold leadB at h
  split at h
  · next sa sb h1 h2 =>
    simp only [Bool.and_eq_true, decide_eq_true_eq, beq_iff_eq] at h
    obtain ⟨⟨⟨h3, h4⟩, h5⟩, h6⟩ := h
    exact ⟨_, leads_ok pen0 h1 h2 h3 hn h4 h5 h6⟩
  · cases h
def dueCopy (p : Nat) (bs : List Bool) : List Bool := cutB bs none (some ((p : Int) + 1)) ++ cutB bs (some (p : Int)) none
def dueChange (l : Nat) (bs : List Bool) (x y : Bool) : List Bool := cutB bs none (some (l : Int)) ++ [x, y] ++ cutB bs (some ((l : Int) + 2)) none
def restOf (p : Nat) (bs : List Bool) : List Bool := cutB bs none (some (p : Int)) ++ cutB bs (some ((p : Int) + 1)) none
def dueWay (p q : Nat) (bs : List Bool) (x : Bool) : List Bool := cutB (restOf p bs) none (some (q : Int)) ++ [x] ++ cutB (restOf p bs) (some (q : Int)) none
def dueGate (l : Nat) (bs : List Bool) (x : Bool) : List Bool := cutB bs none (some (l : Int)) ++ [x] ++ cutB bs (some ((l : Int) + 2)) none
def rightSts (m : Nat) (s : Sts) : Bool := isTr (defF false 6 F__law_are_stages [encP s, .int (2 * m + 2 : Nat)] pen0)
def chkCopy (m p : Nat) : Bool := isP (defF false 3 F_doubled [.int m, .int p] pen0) (doubledL m p) && isP (defF false 5 F__law_doubled_stages [.int m, .int p] pen0) (doubledL m p) && rightSts m (doubledL m p) &&
  (rowsB m).all fun bs => leadB (2 * m + 2) (doubledL m p) bs (dueCopy p bs)
def chkChange (m l : Nat) : Bool := isP (defF false 5 F_exchanged [.int m, .int l] pen0) (exchangedL m l) && isP (defF false 8 F__law_own_exchanged [.int m, .int l] pen0) (exchangedL m l) && rightSts m (exchangedL m l) &&
  (rowsB m).all fun bs => match bs[l + 1]?, bs[l]? with
    | some x, some y => leadB (2 * m + 2) (exchangedL m l) bs (dueChange l bs x y)
    | _, _ => false
def chkWay (m p q : Nat) : Bool := isP (defF false 6 F_led [.int m, .int p, .int q] pen0) (ledL m p q) && isP (defF false 5 F__law_led_stages [.int m, .int p, .int q] pen0) (ledL m p q) && rightSts m (ledL m p q) &&
  (rowsB m).all fun bs => match bs[p]? with
    | some x => leadB (2 * m + 2) (ledL m p q) bs (dueWay p q bs x)
    | none => false
def chkGate (m l : Nat) (k : Kd) : Bool := isP (defF false 4 F_made_at [.int m, .int l, .str k.nm] pen0) (madeL m l k) && isP (defF false 6 F__law_made_stages [.int m, .int l, .str k.nm] pen0) (madeL m l k) && rightSts m (madeL m l k) &&
  (rowsB m).all fun bs => match cutB bs (some (l : Int)) (some ((l : Int) + 2)) with
    | [x, y] => leadB (2 * m + 2) (madeL m l k) bs (dueGate l bs (gateB k x y))
    | _ => false
def chkRows (m : Nat) : Bool := isR (defF false 5 F__law_bit_rows [.int m] pen0) (rowsB m)
end Sb

set_option linter.all false
set_option maxRecDepth 100000
set_option maxHeartbeats 8000000
namespace Sb
open PySem PySem.Spec PyProof.Rows L2 Fw
theorem a_rows : ([2, 3, 4, 5, 6].all fun m => chkRows m && (rowsB m).all fun bs => decide (bs.length = m)) = true := by decide +kernel
theorem a_copy : ([2, 3, 4, 5, 6].all fun m => (List.range m).all fun p => chkCopy m p) = true := by decide +kernel
theorem a_change : ([2, 3, 4, 5, 6].all fun m => (List.range (m - 1)).all fun l => chkChange m l) = true := by decide +kernel
theorem a_gate : ([2, 3, 4, 5, 6].all fun m => (List.range (m - 1)).all fun l => [Kd.or, Kd.xor, Kd.but].all fun k => chkGate m l k) = true := by decide +kernel
end Sb

set_option linter.all false
set_option maxRecDepth 100000
set_option maxHeartbeats 8000000
namespace Sb
open PySem PySem.Spec PyProof.Rows L2 Fw
theorem a_way2 : ((List.range 2).all fun p => (List.range 2).all fun q => chkWay 2 p q) = true := by decide +kernel
theorem a_way3 : ((List.range 3).all fun p => (List.range 3).all fun q => chkWay 3 p q) = true := by decide +kernel
theorem a_way4 : ((List.range 4).all fun p => (List.range 4).all fun q => chkWay 4 p q) = true := by decide +kernel
end Sb

set_option linter.all false
set_option maxRecDepth 100000
set_option maxHeartbeats 8000000
namespace Sb
open PySem PySem.Spec PyProof.Rows L2 Fw
theorem a_way5 : ((List.range 5).all fun p => (List.range 5).all fun q => chkWay 5 p q) = true := by decide +kernel
end Sb

set_option linter.all false
set_option maxRecDepth 100000
set_option maxHeartbeats 8000000
namespace Sb
open PySem PySem.Spec PyProof.Rows L2 Fw
theorem a_way6_0 : ((List.range 6).all fun q => chkWay 6 0 q) = true := by decide +kernel
theorem a_way6_1 : ((List.range 6).all fun q => chkWay 6 1 q) = true := by decide +kernel
theorem a_way6_2 : ((List.range 6).all fun q => chkWay 6 2 q) = true := by decide +kernel
theorem a_way6_3 : ((List.range 6).all fun q => chkWay 6 3 q) = true := by decide +kernel
theorem a_way6_4 : ((List.range 6).all fun q => chkWay 6 4 q) = true := by decide +kernel
theorem a_way6_5 : ((List.range 6).all fun q => chkWay 6 5 q) = true := by decide +kernel
end Sb

set_option linter.all false
set_option maxRecDepth 100000
set_option maxHeartbeats 8000000
namespace Sb
open PySem PySem.Spec PyProof.Rows L2 Fw
theorem nm_ok (k : Kd) : okD (.str k.nm) = true := by cases k <;> kernel_rfl
theorem okA : ∀ (ts : List (Kd × Nat)), plainA (ts.map encT) = true ∧ PyData.canLayAll0 (ts.map encT) = true ∧ PyData.depthAll (ts.map encT) ≤ 1 ∧ PyData.eqvAll (ts.map encT) (ts.map encT) = true
  | [] => ⟨rfl, rfl, by decide, rfl⟩
  | t :: ts => by
    obtain ⟨h1, h2, h3, h4⟩ := okA ts
    obtain ⟨k, r⟩ := t
    obtain ⟨n1, n2⟩ := okD_eq (nm_ok k)
    have n3 : PyData.canLay0 (.str k.nm) = true := SeqAt.canLay_of_shaped n2
    refine ⟨?_, ?_, ?_, ?_⟩
    · show (plainA [.str k.nm, .int r] && plainA (ts.map encT)) = true
      rw [h1]
      show ((plain (.str k.nm) && true) && true) = true
      rw [n1]; rfl
    · show (PyData.canLayAll0 [.str k.nm, .int r] && PyData.canLayAll0 (ts.map encT)) = true
      rw [h2]
      show ((PyData.canLay0 (.str k.nm) && true) && true) = true
      rw [n3]; rfl
    · show max 1 (PyData.depthAll (ts.map encT)) ≤ 1
      omega
    · show ((PyData.eqv (.str k.nm) (.str k.nm) && (PyData.eqv (.int r) (.int r) && true)) && PyData.eqvAll (ts.map encT) (ts.map encT)) = true
      rw [h4]
      have e1 : PyData.eqv (.str k.nm) (.str k.nm) = true := by show (k.nm == k.nm) = true; simp
      have e2 : PyData.eqv (.int (r : Int)) (.int (r : Int)) = true := by show ((r : Int) == (r : Int)) = true; simp
      rw [e1, e2]; rfl
theorem okB : ∀ (s : Sts), plainA (s.map encS) = true ∧ PyData.canLayAll0 (s.map encS) = true ∧ PyData.depthAll (s.map encS) ≤ 2 ∧ PyData.eqvAll (s.map encS) (s.map encS) = true
  | [] => ⟨rfl, rfl, by decide, rfl⟩
  | t :: ts => by
    obtain ⟨h1, h2, h3, h4⟩ := okB ts
    obtain ⟨g1, g2, g3, g4⟩ := okA t
    refine ⟨?_, ?_, ?_, ?_⟩
    · show (plainA (t.map encT) && plainA (ts.map encS)) = true
      rw [h1, g1]; rfl
    · show (PyData.canLayAll0 (t.map encT) && PyData.canLayAll0 (ts.map encS)) = true
      rw [h2, g2]; rfl
    · show max (PyData.depthAll (t.map encT) + 1) (PyData.depthAll (ts.map encS)) ≤ 2
      omega
    · show (PyData.eqvAll (t.map encT) (t.map encT) && PyData.eqvAll (ts.map encS) (ts.map encS)) = true
      rw [h4, g4]; rfl
theorem dNe_enc (s : Sts) : dNe (encP s) (encP s) = some (.bool false) := by
  obtain ⟨h1, h2, h3, h4⟩ := okB s
  have ok : okD (encP s) = true := by
    unfold okD SeqAt.shaped
    have e3 : PyData.depth (encP s) = PyData.depthAll (s.map encS) + 1 := rfl
    have e2 : PyData.canLay0 (encP s) = PyData.canLayAll0 (s.map encS) := rfl
    have e1 : plain (encP s) = plainA (s.map encS) := rfl
    rw [e1, e2, e3, h1, h2]
    simp
    omega
  unfold dNe
  rw [if_pos ⟨ok, ok⟩]
  show some (PyData.bool (!PyData.eqvAll (s.map encS) (s.map encS))) = _
  rw [h4]
  rfl
theorem add_bts {a b : List Bool} (h : a.length + b.length ≤ 1000) : dAdd (.list (bts a)) (.list (bts b)) = some (.list (bts (a ++ b))) := by
  have e : bts a ++ bts b = bts (a ++ b) := by unfold bts; rw [List.map_append]
  show few (bts a ++ bts b) (PyData.list (bts a ++ bts b)) = _
  rw [e, few_of (by rw [bts_len, List.length_append]; omega)]
theorem forL_cons {ft : FT} {body : FS} {d : D} {ds : List D} {e : Ev} : forL ft body (d :: ds) e = (match ft d e.sl with
    | none => none
    | some sl => match body ⟨sl, e.pen⟩ with
      | none => none
      | some (.nx, e') => forL ft body ds e'
      | some (.ct, e') => forL ft body ds e'
      | some (.bk, e') => some (.nx, e')
      | some (.rt d, e') => some (.rt d, e')
      | some (.x c ns xs, e') => some (.x c ns xs, e')) := rfl
theorem forL_nil {ft : FT} {body : FS} {e : Ev} : forL ft body [] e = some (.nx, e) := rfl
/-- what holds of the drawn numbers -/
structure Facts (m p q l : Nat) (k : Kd) : Prop where
  c : chkCopy m p = true
  h : chkChange m l = true
  w : chkWay m p q = true
  g : chkGate m l k = true
  r : chkRows m = true
  m6 : m ≤ 6
  len : ∀ bs ∈ rowsB m, bs.length = m
theorem row_ok {m p q l : Nat} {k : Kd} (F : Facts m p q l k) (hk : isGate k = true) {bs : List Bool} (hb : bs ∈ rowsB m) (pp : PenS) (x2 x13 x15 x16 x17 : Slot) :
    ∃ y15 y16 y17, W1_8_B ⟨[.u, .p, x2, .d (.int (m : Int)), .d (.int (p : Int)), .d (.int (q : Int)), .d (.int ((2 * m + 2 : Nat) : Int)), .d (.int (l : Int)), .d (.str k.nm), .d (encP (doubledL m p)), .d (encP (exchangedL m l)), .d (encP (ledL m p q)), .d (encP (madeL m l k)), x13, .d (encR bs), x15, x16, x17], pp⟩ = some (.nx, ⟨[.u, .p, x2, .d (.int (m : Int)), .d (.int (p : Int)), .d (.int (q : Int)), .d (.int ((2 * m + 2 : Nat) : Int)), .d (.int (l : Int)), .d (.str k.nm), .d (encP (doubledL m p)), .d (encP (exchangedL m l)), .d (encP (ledL m p q)), .d (encP (madeL m l k)), x13, .d (encR bs), y15, y16, y17], pp⟩) := by
  have hlen := F.len bs hb
  have hm6 := F.m6
  have fc := F.c
  have fh := F.h
  have fw := F.w
  have fg := F.g
  simp only [chkCopy, chkChange, chkWay, chkGate, Bool.and_eq_true, List.all_eq_true] at fc fh fw fg
  have kc := fc.2 bs hb
  have kh := fh.2 bs hb
  have kw := fw.2 bs hb
  have kg := fg.2 bs hb
  have cl : ∀ lo hi, (cutB bs lo hi).length ≤ 6 := fun lo hi => Nat.le_trans cutB_len (by omega)
  obtain ⟨u0, u1, hu0, hu1, kh⟩ : ∃ u0 u1, bs[l + 1]? = some u0 ∧ bs[l]? = some u1 ∧ leadB (2 * m + 2) (exchangedL m l) bs (dueChange l bs u0 u1) = true := by
    split at kh
    · next u0 u1 h0 h1 => exact ⟨u0, u1, h0, h1, kh⟩
    · cases kh
  obtain ⟨u2, hu2, kw⟩ : ∃ u2, bs[p]? = some u2 ∧ leadB (2 * m + 2) (ledL m p q) bs (dueWay p q bs u2) = true := by
    split at kw
    · next u2 h0 => exact ⟨u2, h0, kw⟩
    · cases kw
  obtain ⟨x0, x1, hcut, kg⟩ : ∃ x0 x1, cutB bs (some (l : Int)) (some ((l : Int) + 2)) = [x0, x1] ∧ leadB (2 * m + 2) (madeL m l k) bs (dueGate l bs (gateB k x0 x1)) = true := by
    split at kg
    · next x0 x1 h0 => exact ⟨x0, x1, h0, kg⟩
    · cases kg
  obtain ⟨_, lc⟩ := leadB_eq kc (by omega)
  obtain ⟨_, lh⟩ := leadB_eq kh (by omega)
  obtain ⟨_, lw⟩ := leadB_eq kw (by omega)
  obtain ⟨_, lg⟩ := leadB_eq kg (by omega)
  have cr : (restOf p bs).length ≤ 12 := by
    unfold restOf
    rw [List.length_append]
    have := cl none (some (p : Int))
    have := cl (some ((p : Int) + 1)) none
    omega
  have cl2 : ∀ lo hi, (cutB (restOf p bs) lo hi).length ≤ 12 := fun lo hi => Nat.le_trans cutB_len cr
  have i1 : dAdd (.int (p : Int)) (.int 1) = some (.int ((p : Int) + 1)) := rfl
  have i2 : dAdd (.int (l : Int)) (.int 2) = some (.int ((l : Int) + 2)) := rfl
  have i3 : dAdd (.int (l : Int)) (.int 1) = some (.int ((l + 1 : Nat) : Int)) := rfl
  have s1 : W1_8_1 ⟨[.u, .p, x2, .d (.int (m : Int)), .d (.int (p : Int)), .d (.int (q : Int)), .d (.int ((2 * m + 2 : Nat) : Int)), .d (.int (l : Int)), .d (.str k.nm), .d (encP (doubledL m p)), .d (encP (exchangedL m l)), .d (encP (ledL m p q)), .d (encP (madeL m l k)), x13, .d (encR bs), x15, x16, x17], pp⟩ = some (.nx, ⟨[.u, .p, x2, .d (.int (m : Int)), .d (.int (p : Int)), .d (.int (q : Int)), .d (.int ((2 * m + 2 : Nat) : Int)), .d (.int (l : Int)), .d (.str k.nm), .d (encP (doubledL m p)), .d (encP (exchangedL m l)), .d (encP (ledL m p q)), .d (encP (madeL m l k)), x13, .d (encR bs), .d (.list (bts bs)), x16, x17], pp⟩) := by
    have e1 : dLst (encR bs) = some (.list (bts bs)) := rfl
    simp only [W1_8_1, slots0, seqS, ifS, testG, op2, op1, Fw.bindG, thenS, slotD, slotB, retG, optG, boolD, List.map_cons, List.map_nil, List.nil_append, List.cons_append, List.length_cons, List.length_nil, List.getElem?_cons_zero, List.getElem?_cons_succ, Option.map_some, Option.bind_some, if_false, if_true, Bool.false_eq_true, nextS, parS, consG, List.replicate, List.set_cons_zero, List.set_cons_succ, asgV, asgS, nameT, subV, ownL, tupG, tupV, consV, nilV, consT, nilT, tupT, orG, andG, notG, callN, slG, partG, partD, dSl, forS, seqI, seqD, lstG, retS, Option.bind_some, e1]
  have s2 : W1_8_2 ⟨[.u, .p, x2, .d (.int (m : Int)), .d (.int (p : Int)), .d (.int (q : Int)), .d (.int ((2 * m + 2 : Nat) : Int)), .d (.int (l : Int)), .d (.str k.nm), .d (encP (doubledL m p)), .d (encP (exchangedL m l)), .d (encP (ledL m p q)), .d (encP (madeL m l k)), x13, .d (encR bs), .d (.list (bts bs)), x16, x17], pp⟩ = some (.nx, ⟨[.u, .p, x2, .d (.int (m : Int)), .d (.int (p : Int)), .d (.int (q : Int)), .d (.int ((2 * m + 2 : Nat) : Int)), .d (.int (l : Int)), .d (.str k.nm), .d (encP (doubledL m p)), .d (encP (exchangedL m l)), .d (encP (ledL m p q)), .d (encP (madeL m l k)), x13, .d (encR bs), .d (.list (bts bs)), x16, x17], pp⟩) := by
    have a1 := add_bts (a := cutB bs none (some ((p : Int) + 1))) (b := cutB bs (some (p : Int)) none) (by have := cl none (some ((p : Int) + 1)); have := cl (some (p : Int)) none; omega)
    have lc : defF false 4 F__law_leads [encP (doubledL m p), .int ((2 * m + 2 : Nat) : Int), .list (bts bs), .list (bts (cutB bs none (some ((p : Int) + 1)) ++ cutB bs (some (p : Int)) none))] pen0 = _ := lc
    simp only [W1_8_2, slots0, seqS, ifS, testG, op2, op1, Fw.bindG, thenS, slotD, slotB, retG, optG, boolD, List.map_cons, List.map_nil, List.nil_append, List.cons_append, List.length_cons, List.length_nil, List.getElem?_cons_zero, List.getElem?_cons_succ, Option.map_some, Option.bind_some, if_false, if_true, Bool.false_eq_true, nextS, parS, consG, List.replicate, List.set_cons_zero, List.set_cons_succ, asgV, asgS, nameT, subV, ownL, tupG, tupV, consV, nilV, consT, nilT, tupT, orG, andG, notG, callN, slG, partG, partD, dSl, forS, seqI, seqD, lstG, retS, Option.bind_some, i1, cut_bts, a1, lc, Bool.not_true]
  have s3 : W1_8_3 ⟨[.u, .p, x2, .d (.int (m : Int)), .d (.int (p : Int)), .d (.int (q : Int)), .d (.int ((2 * m + 2 : Nat) : Int)), .d (.int (l : Int)), .d (.str k.nm), .d (encP (doubledL m p)), .d (encP (exchangedL m l)), .d (encP (ledL m p q)), .d (encP (madeL m l k)), x13, .d (encR bs), .d (.list (bts bs)), x16, x17], pp⟩ = some (.nx, ⟨[.u, .p, x2, .d (.int (m : Int)), .d (.int (p : Int)), .d (.int (q : Int)), .d (.int ((2 * m + 2 : Nat) : Int)), .d (.int (l : Int)), .d (.str k.nm), .d (encP (doubledL m p)), .d (encP (exchangedL m l)), .d (encP (ledL m p q)), .d (encP (madeL m l k)), x13, .d (encR bs), .d (.list (bts bs)), x16, x17], pp⟩) := by
    have j0 : dIx (.list (bts bs)) (.int ((l + 1 : Nat) : Int)) = some (bt u0) := bts_get hu0
    have j1 : dIx (.list (bts bs)) (.int (l : Int)) = some (bt u1) := bts_get hu1
    have f2 : few [bt u0, bt u1] (PyData.list [bt u0, bt u1]) = some (PyData.list (bts [u0, u1])) := rfl
    have a1 := add_bts (a := cutB bs none (some (l : Int))) (b := [u0, u1]) (by have := cl none (some (l : Int)); simp; omega)
    have a2 := add_bts (a := cutB bs none (some (l : Int)) ++ [u0, u1]) (b := cutB bs (some ((l : Int) + 2)) none) (by have := cl none (some (l : Int)); have := cl (some ((l : Int) + 2)) none; simp; omega)
    have lh : defF false 4 F__law_leads [encP (exchangedL m l), .int ((2 * m + 2 : Nat) : Int), .list (bts bs), .list (bts (cutB bs none (some (l : Int)) ++ [u0, u1] ++ cutB bs (some ((l : Int) + 2)) none))] pen0 = _ := lh
    simp only [W1_8_3, slots0, seqS, ifS, testG, op2, op1, Fw.bindG, thenS, slotD, slotB, retG, optG, boolD, List.map_cons, List.map_nil, List.nil_append, List.cons_append, List.length_cons, List.length_nil, List.getElem?_cons_zero, List.getElem?_cons_succ, Option.map_some, Option.bind_some, if_false, if_true, Bool.false_eq_true, nextS, parS, consG, List.replicate, List.set_cons_zero, List.set_cons_succ, asgV, asgS, nameT, subV, ownL, tupG, tupV, consV, nilV, consT, nilT, tupT, orG, andG, notG, callN, slG, partG, partD, dSl, forS, seqI, seqD, lstG, retS, Option.bind_some, i2, i3, cut_bts, j0, j1, f2, a1, a2, lh, Bool.not_true]
  have s4 : W1_8_4 ⟨[.u, .p, x2, .d (.int (m : Int)), .d (.int (p : Int)), .d (.int (q : Int)), .d (.int ((2 * m + 2 : Nat) : Int)), .d (.int (l : Int)), .d (.str k.nm), .d (encP (doubledL m p)), .d (encP (exchangedL m l)), .d (encP (ledL m p q)), .d (encP (madeL m l k)), x13, .d (encR bs), .d (.list (bts bs)), x16, x17], pp⟩ = some (.nx, ⟨[.u, .p, x2, .d (.int (m : Int)), .d (.int (p : Int)), .d (.int (q : Int)), .d (.int ((2 * m + 2 : Nat) : Int)), .d (.int (l : Int)), .d (.str k.nm), .d (encP (doubledL m p)), .d (encP (exchangedL m l)), .d (encP (ledL m p q)), .d (encP (madeL m l k)), x13, .d (encR bs), .d (.list (bts bs)), .d (.list (bts (restOf p bs))), x17], pp⟩) := by
    have a1 := add_bts (a := cutB bs none (some (p : Int))) (b := cutB bs (some ((p : Int) + 1)) none) (by have := cl none (some (p : Int)); have := cl (some ((p : Int) + 1)) none; omega)
    simp only [W1_8_4, slots0, seqS, ifS, testG, op2, op1, Fw.bindG, thenS, slotD, slotB, retG, optG, boolD, List.map_cons, List.map_nil, List.nil_append, List.cons_append, List.length_cons, List.length_nil, List.getElem?_cons_zero, List.getElem?_cons_succ, Option.map_some, Option.bind_some, if_false, if_true, Bool.false_eq_true, nextS, parS, consG, List.replicate, List.set_cons_zero, List.set_cons_succ, asgV, asgS, nameT, subV, ownL, tupG, tupV, consV, nilV, consT, nilT, tupT, orG, andG, notG, callN, slG, partG, partD, dSl, forS, seqI, seqD, lstG, retS, Option.bind_some, i1, cut_bts, a1]
    rfl
  have s5 : W1_8_5 ⟨[.u, .p, x2, .d (.int (m : Int)), .d (.int (p : Int)), .d (.int (q : Int)), .d (.int ((2 * m + 2 : Nat) : Int)), .d (.int (l : Int)), .d (.str k.nm), .d (encP (doubledL m p)), .d (encP (exchangedL m l)), .d (encP (ledL m p q)), .d (encP (madeL m l k)), x13, .d (encR bs), .d (.list (bts bs)), .d (.list (bts (restOf p bs))), x17], pp⟩ = some (.nx, ⟨[.u, .p, x2, .d (.int (m : Int)), .d (.int (p : Int)), .d (.int (q : Int)), .d (.int ((2 * m + 2 : Nat) : Int)), .d (.int (l : Int)), .d (.str k.nm), .d (encP (doubledL m p)), .d (encP (exchangedL m l)), .d (encP (ledL m p q)), .d (encP (madeL m l k)), x13, .d (encR bs), .d (.list (bts bs)), .d (.list (bts (restOf p bs))), x17], pp⟩) := by
    have j0 : dIx (.list (bts bs)) (.int (p : Int)) = some (bt u2) := bts_get hu2
    have f2 : few [bt u2] (PyData.list [bt u2]) = some (PyData.list (bts [u2])) := rfl
    have a1 := add_bts (a := cutB (restOf p bs) none (some (q : Int))) (b := [u2]) (by have := cl2 none (some (q : Int)); simp; omega)
    have a2 := add_bts (a := cutB (restOf p bs) none (some (q : Int)) ++ [u2]) (b := cutB (restOf p bs) (some (q : Int)) none) (by have := cl2 none (some (q : Int)); have := cl2 (some (q : Int)) none; simp; omega)
    have lw : defF false 4 F__law_leads [encP (ledL m p q), .int ((2 * m + 2 : Nat) : Int), .list (bts bs), .list (bts (cutB (restOf p bs) none (some (q : Int)) ++ [u2] ++ cutB (restOf p bs) (some (q : Int)) none))] pen0 = _ := lw
    simp only [W1_8_5, slots0, seqS, ifS, testG, op2, op1, Fw.bindG, thenS, slotD, slotB, retG, optG, boolD, List.map_cons, List.map_nil, List.nil_append, List.cons_append, List.length_cons, List.length_nil, List.getElem?_cons_zero, List.getElem?_cons_succ, Option.map_some, Option.bind_some, if_false, if_true, Bool.false_eq_true, nextS, parS, consG, List.replicate, List.set_cons_zero, List.set_cons_succ, asgV, asgS, nameT, subV, ownL, tupG, tupV, consV, nilV, consT, nilT, tupT, orG, andG, notG, callN, slG, partG, partD, dSl, forS, seqI, seqD, lstG, retS, Option.bind_some, cut_bts, j0, f2, a1, a2, lw, Bool.not_true]
  have s6 : W1_8_6 ⟨[.u, .p, x2, .d (.int (m : Int)), .d (.int (p : Int)), .d (.int (q : Int)), .d (.int ((2 * m + 2 : Nat) : Int)), .d (.int (l : Int)), .d (.str k.nm), .d (encP (doubledL m p)), .d (encP (exchangedL m l)), .d (encP (ledL m p q)), .d (encP (madeL m l k)), x13, .d (encR bs), .d (.list (bts bs)), .d (.list (bts (restOf p bs))), x17], pp⟩ = some (.nx, ⟨[.u, .p, x2, .d (.int (m : Int)), .d (.int (p : Int)), .d (.int (q : Int)), .d (.int ((2 * m + 2 : Nat) : Int)), .d (.int (l : Int)), .d (.str k.nm), .d (encP (doubledL m p)), .d (encP (exchangedL m l)), .d (encP (ledL m p q)), .d (encP (madeL m l k)), x13, .d (encR bs), .d (.list (bts bs)), .d (.list (bts (restOf p bs))), .d (bt (gateB k x0 x1))], pp⟩) := by
    have f3 : few [PyData.str k.nm, PyData.int 0, PyData.int 1] (PyData.tuple [PyData.str k.nm, PyData.int 0, PyData.int 1]) = some (PyData.tuple [PyData.str k.nm, PyData.int 0, PyData.int 1]) := rfl
    have gk : defF false 4 F__law_gate [.tuple [.str k.nm, .int 0, .int 1], .list (bts [x0, x1])] pen0 = some (.v (bt (gateB k x0 x1)), pen0) := gate_ok (r := 0) (bs := [x0, x1]) hk rfl rfl pen0
    simp only [W1_8_6, slots0, seqS, ifS, testG, op2, op1, Fw.bindG, thenS, slotD, slotB, retG, optG, boolD, List.map_cons, List.map_nil, List.nil_append, List.cons_append, List.length_cons, List.length_nil, List.getElem?_cons_zero, List.getElem?_cons_succ, Option.map_some, Option.bind_some, if_false, if_true, Bool.false_eq_true, nextS, parS, consG, List.replicate, List.set_cons_zero, List.set_cons_succ, asgV, asgS, nameT, subV, ownL, tupG, tupV, consV, nilV, consT, nilT, tupT, orG, andG, notG, callN, slG, partG, partD, dSl, forS, seqI, seqD, lstG, retS, Option.bind_some, i2, cut_bts, hcut, f3, gk]
  have s7 : W1_8_7 ⟨[.u, .p, x2, .d (.int (m : Int)), .d (.int (p : Int)), .d (.int (q : Int)), .d (.int ((2 * m + 2 : Nat) : Int)), .d (.int (l : Int)), .d (.str k.nm), .d (encP (doubledL m p)), .d (encP (exchangedL m l)), .d (encP (ledL m p q)), .d (encP (madeL m l k)), x13, .d (encR bs), .d (.list (bts bs)), .d (.list (bts (restOf p bs))), .d (bt (gateB k x0 x1))], pp⟩ = some (.nx, ⟨[.u, .p, x2, .d (.int (m : Int)), .d (.int (p : Int)), .d (.int (q : Int)), .d (.int ((2 * m + 2 : Nat) : Int)), .d (.int (l : Int)), .d (.str k.nm), .d (encP (doubledL m p)), .d (encP (exchangedL m l)), .d (encP (ledL m p q)), .d (encP (madeL m l k)), x13, .d (encR bs), .d (.list (bts bs)), .d (.list (bts (restOf p bs))), .d (bt (gateB k x0 x1))], pp⟩) := by
    have f2 : few [bt (gateB k x0 x1)] (PyData.list [bt (gateB k x0 x1)]) = some (PyData.list (bts [gateB k x0 x1])) := rfl
    have a1 := add_bts (a := cutB bs none (some (l : Int))) (b := [gateB k x0 x1]) (by have := cl none (some (l : Int)); simp; omega)
    have a2 := add_bts (a := cutB bs none (some (l : Int)) ++ [gateB k x0 x1]) (b := cutB bs (some ((l : Int) + 2)) none) (by have := cl none (some (l : Int)); have := cl (some ((l : Int) + 2)) none; simp; omega)
    have lg : defF false 4 F__law_leads [encP (madeL m l k), .int ((2 * m + 2 : Nat) : Int), .list (bts bs), .list (bts (cutB bs none (some (l : Int)) ++ [gateB k x0 x1] ++ cutB bs (some ((l : Int) + 2)) none))] pen0 = _ := lg
    simp only [W1_8_7, slots0, seqS, ifS, testG, op2, op1, Fw.bindG, thenS, slotD, slotB, retG, optG, boolD, List.map_cons, List.map_nil, List.nil_append, List.cons_append, List.length_cons, List.length_nil, List.getElem?_cons_zero, List.getElem?_cons_succ, Option.map_some, Option.bind_some, if_false, if_true, Bool.false_eq_true, nextS, parS, consG, List.replicate, List.set_cons_zero, List.set_cons_succ, asgV, asgS, nameT, subV, ownL, tupG, tupV, consV, nilV, consT, nilT, tupT, orG, andG, notG, callN, slG, partG, partD, dSl, forS, seqI, seqD, lstG, retS, Option.bind_some, i2, cut_bts, f2, a1, a2, lg, Bool.not_true]
  refine ⟨.d (.list (bts bs)), .d (.list (bts (restOf p bs))), .d (bt (gateB k x0 x1)), ?_⟩
  show seqS W1_8_1 (seqS W1_8_2 (seqS W1_8_3 (seqS W1_8_4 (seqS W1_8_5 (seqS W1_8_6 W1_8_7))))) _ = _
  simp only [seqS, s1, s2, s3, s4, s5, s6, s7]
theorem rows_ok {m p q l : Nat} {k : Kd} (F : Facts m p q l k) (hk : isGate k = true) : ∀ (rs : List (List Bool)), (∀ r ∈ rs, r ∈ rowsB m) → ∀ (pp : PenS) (x2 x13 x14 x15 x16 x17 : Slot),
    ∃ y14 y15 y16 y17, forL (nameT 14) W1_8_B (rs.map encR) ⟨[.u, .p, x2, .d (.int (m : Int)), .d (.int (p : Int)), .d (.int (q : Int)), .d (.int ((2 * m + 2 : Nat) : Int)), .d (.int (l : Int)), .d (.str k.nm), .d (encP (doubledL m p)), .d (encP (exchangedL m l)), .d (encP (ledL m p q)), .d (encP (madeL m l k)), x13, x14, x15, x16, x17], pp⟩ = some (.nx, ⟨[.u, .p, x2, .d (.int (m : Int)), .d (.int (p : Int)), .d (.int (q : Int)), .d (.int ((2 * m + 2 : Nat) : Int)), .d (.int (l : Int)), .d (.str k.nm), .d (encP (doubledL m p)), .d (encP (exchangedL m l)), .d (encP (ledL m p q)), .d (encP (madeL m l k)), x13, y14, y15, y16, y17], pp⟩)
  | [], _, pp, x2, x13, x14, x15, x16, x17 => ⟨x14, x15, x16, x17, rfl⟩
  | bs :: rs, h, pp, x2, x13, x14, x15, x16, x17 => by
    obtain ⟨y15, y16, y17, h1⟩ := row_ok F hk (h bs (.head _)) pp x2 x13 x15 x16 x17
    obtain ⟨z14, z15, z16, z17, h2⟩ := rows_ok F hk rs (fun r hr => h r (.tail _ hr)) pp x2 x13 (.d (encR bs)) y15 y16 y17
    refine ⟨z14, z15, z16, z17, ?_⟩
    rw [List.map_cons, forL_cons]
    show (match W1_8_B ⟨[.u, .p, x2, .d (.int (m : Int)), .d (.int (p : Int)), .d (.int (q : Int)), .d (.int ((2 * m + 2 : Nat) : Int)), .d (.int (l : Int)), .d (.str k.nm), .d (encP (doubledL m p)), .d (encP (exchangedL m l)), .d (encP (ledL m p q)), .d (encP (madeL m l k)), x13, .d (encR bs), x15, x16, x17], pp⟩ with
      | none => none
      | some (.nx, e') => forL (nameT 14) W1_8_B (rs.map encR) e'
      | some (.ct, e') => forL (nameT 14) W1_8_B (rs.map encR) e'
      | some (.bk, e') => some (.nx, e')
      | some (.rt d, e') => some (.rt d, e')
      | some (.x c ns xs, e') => some (.x c ns xs, e')) = _
    rw [h1]
    exact h2
end Sb

set_option linter.all false
set_option maxRecDepth 100000
set_option maxHeartbeats 8000000
namespace Sb
open PySem PySem.Spec PyProof.Rows L2 Fw
structure Cs (m p q l : Nat) (k : Kd) : Prop where
  c1 : Tells (defF false 3 F_doubled) [.int m, .int p] (encP (doubledL m p))
  c2 : Tells (defF false 5 F__law_doubled_stages) [.int m, .int p] (encP (doubledL m p))
  c3 : Tells (defF false 6 F__law_are_stages) [encP (doubledL m p), .int (2 * m + 2 : Nat)] (.bool true)
  h1 : Tells (defF false 5 F_exchanged) [.int m, .int l] (encP (exchangedL m l))
  h2 : Tells (defF false 8 F__law_own_exchanged) [.int m, .int l] (encP (exchangedL m l))
  h3 : Tells (defF false 6 F__law_are_stages) [encP (exchangedL m l), .int (2 * m + 2 : Nat)] (.bool true)
  w1 : Tells (defF false 6 F_led) [.int m, .int p, .int q] (encP (ledL m p q))
  w2 : Tells (defF false 5 F__law_led_stages) [.int m, .int p, .int q] (encP (ledL m p q))
  w3 : Tells (defF false 6 F__law_are_stages) [encP (ledL m p q), .int (2 * m + 2 : Nat)] (.bool true)
  g1 : Tells (defF false 4 F_made_at) [.int m, .int l, .str k.nm] (encP (madeL m l k))
  g2 : Tells (defF false 6 F__law_made_stages) [.int m, .int l, .str k.nm] (encP (madeL m l k))
  g3 : Tells (defF false 6 F__law_are_stages) [encP (madeL m l k), .int (2 * m + 2 : Nat)] (.bool true)
  r1 : Tells (defF false 5 F__law_bit_rows) [.int m] (.list ((rowsB m).map encR))
theorem cs_of {m p q l : Nat} {k : Kd} (F : Facts m p q l k) : Cs m p q l k := by
  have fc := F.c
  have fh := F.h
  have fw := F.w
  have fg := F.g
  unfold chkCopy at fc
  unfold chkChange at fh
  unfold chkWay at fw
  unfold chkGate at fg
  rw [Bool.and_eq_true, Bool.and_eq_true, Bool.and_eq_true] at fc fh fw fg
  exact ⟨isP_eq fc.1.1.1, isP_eq fc.1.1.2, isTr_eq fc.1.2, isP_eq fh.1.1.1, isP_eq fh.1.1.2, isTr_eq fh.1.2, isP_eq fw.1.1.1, isP_eq fw.1.1.2, isTr_eq fw.1.2, isP_eq fg.1.1.1, isP_eq fg.1.1.2, isTr_eq fg.1.2, isR_eq F.r⟩
theorem few4t (a b c d : D) : few [a, b, c, d] (PyData.tuple [a, b, c, d]) = some (PyData.tuple [a, b, c, d]) := rfl
theorem few4l (a b c d : D) : few [a, b, c, d] (PyData.list [a, b, c, d]) = some (PyData.list [a, b, c, d]) := rfl
theorem u4 (q1 q2 q3 q4 pp : PenS) (d3 d4 d5 d6 d7 d8 : D) (x2 x9 x10 x11 x12 x13 x14 x15 x16 x17 : Slot) (d9 d10 d11 d12 : D) (c1 : defF false 3 F_doubled [d3, d4] pen0 = some (.v d9, q1)) (c2 : defF false 5 F_exchanged [d3, d7] pen0 = some (.v d10, q2)) (c3 : defF false 6 F_led [d3, d4, d5] pen0 = some (.v d11, q3)) (c4 : defF false 4 F_made_at [d3, d7, d8] pen0 = some (.v d12, q4)) :
    W1_4 ⟨[.u, .p, x2, .d d3, .d d4, .d d5, .d d6, .d d7, .d d8, x9, x10, x11, x12, x13, x14, x15, x16, x17], pp⟩ = some (.nx, ⟨[.u, .p, x2, .d d3, .d d4, .d d5, .d d6, .d d7, .d d8, .d d9, .d d10, .d d11, .d d12, x13, x14, x15, x16, x17], pp⟩) := by
  unfold W1_4
  generalize defF false 3 F_doubled = fA at c1 ⊢
  generalize defF false 5 F_exchanged = fB at c2 ⊢
  generalize defF false 6 F_led = fC at c3 ⊢
  generalize defF false 4 F_made_at = fD at c4 ⊢
  simp only [slots0, seqS, ifS, testG, op2, op1, Fw.bindG, thenS, slotD, slotB, retG, optG, boolD, List.map_cons, List.map_nil, List.nil_append, List.cons_append, List.length_cons, List.length_nil, List.getElem?_cons_zero, List.getElem?_cons_succ, Option.map_some, Option.bind_some, if_false, if_true, Bool.false_eq_true, nextS, parS, consG, List.replicate, List.set_cons_zero, List.set_cons_succ, asgV, asgS, nameT, subV, ownL, tupG, tupV, consV, nilV, consT, nilT, tupT, orG, andG, notG, callN, slG, partG, partD, dSl, forS, seqI, seqD, lstG, retS, Option.bind_some, c1, c2, c3, c4, few4t, nameV]
theorem u5 (q1 q2 pp : PenS) (d3 d4 d5 d6 d7 d8 d9 d10 d11 d12 : D) (x2 x13 x14 x15 x16 x17 : Slot) (c1 : defF false 5 F__law_doubled_stages [d3, d4] pen0 = some (.v d9, q1)) (c2 : defF false 8 F__law_own_exchanged [d3, d7] pen0 = some (.v d10, q2)) (n1 : dNe d9 d9 = some (.bool false)) (n2 : dNe d10 d10 = some (.bool false)) :
    W1_5 ⟨[.u, .p, x2, .d d3, .d d4, .d d5, .d d6, .d d7, .d d8, .d d9, .d d10, .d d11, .d d12, x13, x14, x15, x16, x17], pp⟩ = some (.nx, ⟨[.u, .p, x2, .d d3, .d d4, .d d5, .d d6, .d d7, .d d8, .d d9, .d d10, .d d11, .d d12, x13, x14, x15, x16, x17], pp⟩) := by
  unfold W1_5
  generalize defF false 5 F__law_doubled_stages = fA at c1 ⊢
  generalize defF false 8 F__law_own_exchanged = fB at c2 ⊢
  simp only [slots0, seqS, ifS, testG, op2, op1, Fw.bindG, thenS, slotD, slotB, retG, optG, boolD, List.map_cons, List.map_nil, List.nil_append, List.cons_append, List.length_cons, List.length_nil, List.getElem?_cons_zero, List.getElem?_cons_succ, Option.map_some, Option.bind_some, if_false, if_true, Bool.false_eq_true, nextS, parS, consG, List.replicate, List.set_cons_zero, List.set_cons_succ, asgV, asgS, nameT, subV, ownL, tupG, tupV, consV, nilV, consT, nilT, tupT, orG, andG, notG, callN, slG, partG, partD, dSl, forS, seqI, seqD, lstG, retS, Option.bind_some, c1, c2, n1, n2]
theorem u6 (q1 q2 pp : PenS) (d3 d4 d5 d6 d7 d8 d9 d10 d11 d12 : D) (x2 x13 x14 x15 x16 x17 : Slot) (c1 : defF false 5 F__law_led_stages [d3, d4, d5] pen0 = some (.v d11, q1)) (c2 : defF false 6 F__law_made_stages [d3, d7, d8] pen0 = some (.v d12, q2)) (n1 : dNe d11 d11 = some (.bool false)) (n2 : dNe d12 d12 = some (.bool false)) :
    W1_6 ⟨[.u, .p, x2, .d d3, .d d4, .d d5, .d d6, .d d7, .d d8, .d d9, .d d10, .d d11, .d d12, x13, x14, x15, x16, x17], pp⟩ = some (.nx, ⟨[.u, .p, x2, .d d3, .d d4, .d d5, .d d6, .d d7, .d d8, .d d9, .d d10, .d d11, .d d12, x13, x14, x15, x16, x17], pp⟩) := by
  unfold W1_6
  generalize defF false 5 F__law_led_stages = fA at c1 ⊢
  generalize defF false 6 F__law_made_stages = fB at c2 ⊢
  simp only [slots0, seqS, ifS, testG, op2, op1, Fw.bindG, thenS, slotD, slotB, retG, optG, boolD, List.map_cons, List.map_nil, List.nil_append, List.cons_append, List.length_cons, List.length_nil, List.getElem?_cons_zero, List.getElem?_cons_succ, Option.map_some, Option.bind_some, if_false, if_true, Bool.false_eq_true, nextS, parS, consG, List.replicate, List.set_cons_zero, List.set_cons_succ, asgV, asgS, nameT, subV, ownL, tupG, tupV, consV, nilV, consT, nilT, tupT, orG, andG, notG, callN, slG, partG, partD, dSl, forS, seqI, seqD, lstG, retS, Option.bind_some, c1, c2, n1, n2]
theorem u7 (q1 q2 q3 q4 pp : PenS) (d3 d4 d5 d6 d7 d8 d9 d10 d11 d12 : D) (x2 x13 x14 x15 x16 x17 : Slot) (c1 : defF false 6 F__law_are_stages [d9, d6] pen0 = some (.v (.bool true), q1)) (c2 : defF false 6 F__law_are_stages [d10, d6] pen0 = some (.v (.bool true), q2)) (c3 : defF false 6 F__law_are_stages [d11, d6] pen0 = some (.v (.bool true), q3)) (c4 : defF false 6 F__law_are_stages [d12, d6] pen0 = some (.v (.bool true), q4)) :
    W1_7 ⟨[.u, .p, x2, .d d3, .d d4, .d d5, .d d6, .d d7, .d d8, .d d9, .d d10, .d d11, .d d12, x13, x14, x15, x16, x17], pp⟩ = some (.nx, ⟨[.u, .p, x2, .d d3, .d d4, .d d5, .d d6, .d d7, .d d8, .d d9, .d d10, .d d11, .d d12, .d d12, x14, x15, x16, x17], pp⟩) := by
  unfold W1_7 W1_7_B W1_7_1
  generalize defF false 6 F__law_are_stages = fA at c1 c2 c3 c4 ⊢
  simp only [slots0, seqS, ifS, testG, op2, op1, Fw.bindG, thenS, slotD, slotB, retG, optG, boolD, List.map_cons, List.map_nil, List.nil_append, List.cons_append, List.length_cons, List.length_nil, List.getElem?_cons_zero, List.getElem?_cons_succ, Option.map_some, Option.bind_some, if_false, if_true, Bool.false_eq_true, nextS, parS, consG, List.replicate, List.set_cons_zero, List.set_cons_succ, asgV, asgS, nameT, subV, ownL, tupG, tupV, consV, nilV, consT, nilT, tupT, orG, andG, notG, callN, slG, partG, partD, dSl, forS, seqI, seqD, lstG, retS, Option.bind_some, few4l, forL_cons, forL_nil, c1, c2, c3, c4, Bool.not_true]
theorem u8 (q1 pp : PenS) (d3 d4 d5 d6 d7 d8 d9 d10 d11 d12 : D) (x2 x13 x14 x15 x16 x17 : Slot) (rs : List D) (r1 : defF false 5 F__law_bit_rows [d3] pen0 = some (.v (.list rs), q1)) (e' : Ev) (h : forL (nameT 14) W1_8_B rs ⟨[.u, .p, x2, .d d3, .d d4, .d d5, .d d6, .d d7, .d d8, .d d9, .d d10, .d d11, .d d12, x13, x14, x15, x16, x17], pp⟩ = some (.nx, e')) :
    W1_8 ⟨[.u, .p, x2, .d d3, .d d4, .d d5, .d d6, .d d7, .d d8, .d d9, .d d10, .d d11, .d d12, x13, x14, x15, x16, x17], pp⟩ = some (.nx, e') := by
  have e1 : (seqI (callN 1 (defF false 5 F__law_bit_rows) (consG (slotD 3) (retG [])))) ⟨[.u, .p, x2, .d d3, .d d4, .d d5, .d d6, .d d7, .d d8, .d d9, .d d10, .d d11, .d d12, x13, x14, x15, x16, x17], pp⟩ = some (.v rs, pp) := by
    generalize defF false 5 F__law_bit_rows = fA at r1 ⊢
    simp only [slots0, seqS, ifS, testG, op2, op1, Fw.bindG, thenS, slotD, slotB, retG, optG, boolD, List.map_cons, List.map_nil, List.nil_append, List.cons_append, List.length_cons, List.length_nil, List.getElem?_cons_zero, List.getElem?_cons_succ, Option.map_some, Option.bind_some, if_false, if_true, Bool.false_eq_true, nextS, parS, consG, List.replicate, List.set_cons_zero, List.set_cons_succ, asgV, asgS, nameT, subV, ownL, tupG, tupV, consV, nilV, consT, nilT, tupT, orG, andG, notG, callN, slG, partG, partD, dSl, forS, seqI, seqD, lstG, retS, Option.bind_some, r1]
  show thenS _ _ _ = _
  unfold thenS
  rw [e1]
  exact h
theorem rest_ok {m p q l : Nat} {k : Kd} (F : Facts m p q l k) (hk : isGate k = true) (pp : PenS) (x2 x9 x10 x11 x12 x13 x14 x15 x16 x17 : Slot) :
    ∃ y9 y10 y11 y12 y13 y14 y15 y16 y17, seqS W1_4 (seqS W1_5 (seqS W1_6 (seqS W1_7 W1_8))) ⟨[.u, .p, x2, .d (.int (m : Int)), .d (.int (p : Int)), .d (.int (q : Int)), .d (.int ((2 * m + 2 : Nat) : Int)), .d (.int (l : Int)), .d (.str k.nm), x9, x10, x11, x12, x13, x14, x15, x16, x17], pp⟩ = some (.nx, ⟨[.u, .p, x2, .d (.int (m : Int)), .d (.int (p : Int)), .d (.int (q : Int)), .d (.int ((2 * m + 2 : Nat) : Int)), .d (.int (l : Int)), .d (.str k.nm), y9, y10, y11, y12, y13, y14, y15, y16, y17], pp⟩) := by
  obtain ⟨⟨_, c1⟩, ⟨_, c2⟩, ⟨_, c3⟩, ⟨_, h1⟩, ⟨_, h2⟩, ⟨_, h3⟩, ⟨_, w1⟩, ⟨_, w2⟩, ⟨_, w3⟩, ⟨_, g1⟩, ⟨_, g2⟩, ⟨_, g3⟩, ⟨_, r1⟩⟩ := cs_of F
  obtain ⟨y14, y15, y16, y17, h8⟩ := rows_ok F hk (rowsB m) (fun r h => h) pp x2 (.d (encP (madeL m l k))) x14 x15 x16 x17
  have s4 := u4 _ _ _ _ pp (.int (m : Int)) (.int (p : Int)) (.int (q : Int)) (.int ((2 * m + 2 : Nat) : Int)) (.int (l : Int)) (.str k.nm) x2 x9 x10 x11 x12 x13 x14 x15 x16 x17 _ _ _ _ c1 h1 w1 g1
  have s5 := u5 _ _ pp (.int (m : Int)) (.int (p : Int)) (.int (q : Int)) (.int ((2 * m + 2 : Nat) : Int)) (.int (l : Int)) (.str k.nm) (encP (doubledL m p)) (encP (exchangedL m l)) (encP (ledL m p q)) (encP (madeL m l k)) x2 x13 x14 x15 x16 x17 c2 h2 (dNe_enc _) (dNe_enc _)
  have s6 := u6 _ _ pp (.int (m : Int)) (.int (p : Int)) (.int (q : Int)) (.int ((2 * m + 2 : Nat) : Int)) (.int (l : Int)) (.str k.nm) (encP (doubledL m p)) (encP (exchangedL m l)) (encP (ledL m p q)) (encP (madeL m l k)) x2 x13 x14 x15 x16 x17 w2 g2 (dNe_enc _) (dNe_enc _)
  have s7 := u7 _ _ _ _ pp (.int (m : Int)) (.int (p : Int)) (.int (q : Int)) (.int ((2 * m + 2 : Nat) : Int)) (.int (l : Int)) (.str k.nm) (encP (doubledL m p)) (encP (exchangedL m l)) (encP (ledL m p q)) (encP (madeL m l k)) x2 x13 x14 x15 x16 x17 c3 h3 w3 g3
  have s8 := u8 _ pp (.int (m : Int)) (.int (p : Int)) (.int (q : Int)) (.int ((2 * m + 2 : Nat) : Int)) (.int (l : Int)) (.str k.nm) (encP (doubledL m p)) (encP (exchangedL m l)) (encP (ledL m p q)) (encP (madeL m l k)) x2 (.d (encP (madeL m l k))) x14 x15 x16 x17 _ r1 _ h8
  refine ⟨.d (encP (doubledL m p)), .d (encP (exchangedL m l)), .d (encP (ledL m p q)), .d (encP (madeL m l k)), .d (encP (madeL m l k)), y14, y15, y16, y17, ?_⟩
  unfold seqS
  rw [s4]
  dsimp only
  rw [s5]
  dsimp only
  rw [s6]
  dsimp only
  rw [s7]
  dsimp only
  rw [s8]
end Sb

set_option linter.all false
set_option maxRecDepth 100000
set_option maxHeartbeats 8000000
namespace Sb
open PySem PySem.Spec PyProof.Rows L2 Fw
theorem facts {m p q l : Nat} {k : Kd} (m2 : 2 ≤ m) (m6 : m ≤ 6) (hp : p < m) (hq : q < m) (hl : l + 1 < m) (hk : isGate k = true) : Facts m p q l k := by
  have hm : m ∈ [2, 3, 4, 5, 6] := by
    have : m = 2 ∨ m = 3 ∨ m = 4 ∨ m = 5 ∨ m = 6 := by omega
    rcases this with rfl | rfl | rfl | rfl | rfl <;> decide
  have r0 := List.all_eq_true.mp a_rows m hm
  rw [Bool.and_eq_true] at r0
  have kk : k ∈ [Kd.or, Kd.xor, Kd.but] := by cases k <;> first | exact absurd hk (by decide) | simp
  refine ⟨List.all_eq_true.mp (List.all_eq_true.mp a_copy m hm) p (List.mem_range.mpr hp), List.all_eq_true.mp (List.all_eq_true.mp a_change m hm) l (List.mem_range.mpr (by omega)), ?_,
    List.all_eq_true.mp (List.all_eq_true.mp (List.all_eq_true.mp a_gate m hm) l (List.mem_range.mpr (by omega))) k kk, r0.1, m6, fun bs hb => of_decide_eq_true (List.all_eq_true.mp r0.2 bs hb)⟩
  have : m = 2 ∨ m = 3 ∨ m = 4 ∨ m = 5 ∨ m = 6 := by omega
  rcases this with rfl | rfl | rfl | rfl | rfl
  · exact List.all_eq_true.mp (List.all_eq_true.mp a_way2 p (List.mem_range.mpr hp)) q (List.mem_range.mpr hq)
  · exact List.all_eq_true.mp (List.all_eq_true.mp a_way3 p (List.mem_range.mpr hp)) q (List.mem_range.mpr hq)
  · exact List.all_eq_true.mp (List.all_eq_true.mp a_way4 p (List.mem_range.mpr hp)) q (List.mem_range.mpr hq)
  · exact List.all_eq_true.mp (List.all_eq_true.mp a_way5 p (List.mem_range.mpr hp)) q (List.mem_range.mpr hq)
  · have : p = 0 ∨ p = 1 ∨ p = 2 ∨ p = 3 ∨ p = 4 ∨ p = 5 := by omega
    rcases this with rfl | rfl | rfl | rfl | rfl | rfl
    · exact List.all_eq_true.mp a_way6_0 q (List.mem_range.mpr hq)
    · exact List.all_eq_true.mp a_way6_1 q (List.mem_range.mpr hq)
    · exact List.all_eq_true.mp a_way6_2 q (List.mem_range.mpr hq)
    · exact List.all_eq_true.mp a_way6_3 q (List.mem_range.mpr hq)
    · exact List.all_eq_true.mp a_way6_4 q (List.mem_range.mpr hq)
    · exact List.all_eq_true.mp a_way6_5 q (List.mem_range.mpr hq)
theorem pick_spec {k : Int} {p : PenS} {ds : List D} (h : GoodP k p) (hk : k < 999999999) (h0 : 0 < ds.length) (h1 : ds.length < 1000000) :
    ∃ (i : Nat) (x : D) (p' : PenS), defF true 2 F__law_pick [.list ds] p = some (.v x, p') ∧ i < ds.length ∧ ds[i]? = some x ∧ GoodP (k + 1) p' := by
  obtain ⟨d, p', hd, d0, d1, g⟩ := draw_spec (m := (ds.length : Int)) h hk (by omega) (by omega)
  have hi : d.toNat < ds.length := by omega
  refine ⟨d.toNat, ds[d.toNat], p', ?_, hi, List.getElem?_eq_getElem hi, g⟩
  have hx : dIx (.list ds) (.int d) = some ds[d.toNat] := by
    show L2.atI ds d = _
    unfold L2.atI ixN
    rw [if_pos d0, if_pos d1]
    exact List.getElem?_eq_getElem hi
  have hl : dLen (.list ds) = some (.int (ds.length : Int)) := rfl
  unfold defF F__law_pick
  generalize drawF = fA at hd ⊢
  simp only [slots0, seqS, ifS, testG, op2, op1, Fw.bindG, thenS, slotD, slotB, retG, optG, boolD, List.map_cons, List.map_nil, List.nil_append, List.cons_append, List.length_cons, List.length_nil, List.getElem?_cons_zero, List.getElem?_cons_succ, Option.map_some, Option.bind_some, if_false, if_true, Bool.false_eq_true, nextS, parS, consG, List.replicate, List.set_cons_zero, List.set_cons_succ, asgV, asgS, nameT, subV, ownL, tupG, tupV, consV, nilV, consT, nilT, tupT, orG, andG, notG, callN, slG, partG, partD, dSl, forS, seqI, seqD, lstG, retS, Option.bind_some, callP, Fw.isP, hl, hd, hx, Nat.reduceAdd, Nat.reduceSub]
  rfl
theorem v1 (pp p1 : PenS) (d : Int) (x2 x3 x4 x5 x6 x7 x8 x9 x10 x11 x12 x13 x14 x15 x16 x17 : Slot) (h : drawF [.int 5] pp = some (.v (.int d), p1)) : W1_1 ⟨[.u, .p, x2, x3, x4, x5, x6, x7, x8, x9, x10, x11, x12, x13, x14, x15, x16, x17], pp⟩ = some (.nx, ⟨[.u, .p, x2, .d (.int (2 + d)), x4, x5, x6, x7, x8, x9, x10, x11, x12, x13, x14, x15, x16, x17], p1⟩) := by
  have a : dAdd (.int 2) (.int d) = some (.int (2 + d)) := rfl
  unfold W1_1
  generalize drawF = fA at h ⊢
  simp only [slots0, seqS, ifS, testG, op2, op1, Fw.bindG, thenS, slotD, slotB, retG, optG, boolD, List.map_cons, List.map_nil, List.nil_append, List.cons_append, List.length_cons, List.length_nil, List.getElem?_cons_zero, List.getElem?_cons_succ, Option.map_some, Option.bind_some, if_false, if_true, Bool.false_eq_true, nextS, parS, consG, List.replicate, List.set_cons_zero, List.set_cons_succ, asgV, asgS, nameT, subV, ownL, tupG, tupV, consV, nilV, consT, nilT, tupT, orG, andG, notG, callN, slG, partG, partD, dSl, forS, seqI, seqD, lstG, retS, Option.bind_some, callP, Fw.isP, h, a]
theorem v2 (pp p1 p2 : PenS) (m p q : D) (r : D) (x2 x4 x5 x6 x7 x8 x9 x10 x11 x12 x13 x14 x15 x16 x17 : Slot) (h1 : drawF [m] pp = some (.v p, p1)) (h2 : drawF [m] p1 = some (.v q, p2)) (a : (dMul (.int 2) m).bind (fun z => dAdd z (.int 2)) = some r) :
    W1_2 ⟨[.u, .p, x2, .d m, x4, x5, x6, x7, x8, x9, x10, x11, x12, x13, x14, x15, x16, x17], pp⟩ = some (.nx, ⟨[.u, .p, x2, .d m, .d p, .d q, .d r, x7, x8, x9, x10, x11, x12, x13, x14, x15, x16, x17], p2⟩) := by
  obtain ⟨z, z1, z2⟩ := Option.bind_eq_some_iff.mp a
  unfold W1_2
  generalize drawF = fA at h1 h2 ⊢
  simp only [slots0, seqS, ifS, testG, op2, op1, Fw.bindG, thenS, slotD, slotB, retG, optG, boolD, List.map_cons, List.map_nil, List.nil_append, List.cons_append, List.length_cons, List.length_nil, List.getElem?_cons_zero, List.getElem?_cons_succ, Option.map_some, Option.bind_some, if_false, if_true, Bool.false_eq_true, nextS, parS, consG, List.replicate, List.set_cons_zero, List.set_cons_succ, asgV, asgS, nameT, subV, ownL, tupG, tupV, consV, nilV, consT, nilT, tupT, orG, andG, notG, callN, slG, partG, partD, dSl, forS, seqI, seqD, lstG, retS, Option.bind_some, callP, Fw.isP, par3S, h1, h2, z1, z2]
theorem v3 (pp p1 p2 : PenS) (m m' l k : D) (x2 x4 x5 x6 x7 x8 x9 x10 x11 x12 x13 x14 x15 x16 x17 : Slot) (h1 : drawF [m'] pp = some (.v l, p1)) (h2 : defF true 2 F__law_pick [.list [.str "or", .str "xor", .str "but"]] p1 = some (.v k, p2)) (a : dSub m (.int 1) = some m') :
    W1_3 ⟨[.u, .p, x2, .d m, x4, x5, x6, x7, x8, x9, x10, x11, x12, x13, x14, x15, x16, x17], pp⟩ = some (.nx, ⟨[.u, .p, x2, .d m, x4, x5, x6, .d l, .d k, x9, x10, x11, x12, x13, x14, x15, x16, x17], p2⟩) := by
  have f3 : ∀ a b c : D, few [a, b, c] (PyData.list [a, b, c]) = some (PyData.list [a, b, c]) := fun _ _ _ => rfl
  unfold W1_3
  generalize drawF = fA at h1 ⊢
  generalize defF true 2 F__law_pick = fB at h2 ⊢
  simp only [slots0, seqS, ifS, testG, op2, op1, Fw.bindG, thenS, slotD, slotB, retG, optG, boolD, List.map_cons, List.map_nil, List.nil_append, List.cons_append, List.length_cons, List.length_nil, List.getElem?_cons_zero, List.getElem?_cons_succ, Option.map_some, Option.bind_some, if_false, if_true, Bool.false_eq_true, nextS, parS, consG, List.replicate, List.set_cons_zero, List.set_cons_succ, asgV, asgS, nameT, subV, ownL, tupG, tupV, consV, nilV, consT, nilT, tupT, orG, andG, notG, callN, slG, partG, partD, dSl, forS, seqI, seqD, lstG, retS, Option.bind_some, callP, Fw.isP, f3, a, h1, h2]
def isU : Option Slot → Bool
  | some .u => true
  | _ => false
def isPs : Option Slot → Bool
  | some .p => true
  | _ => false
def shape (n : Nat) (sl : List Slot) : Bool := decide (sl.length = n) && isU sl[0]? && isPs sl[1]?
theorem shape_inv {sl : List Slot} (h : shape 18 sl = true) : ∃ x2 x3 x4 x5 x6 x7 x8 x9 x10 x11 x12 x13 x14 x15 x16 x17, sl = [.u, .p, x2, x3, x4, x5, x6, x7, x8, x9, x10, x11, x12, x13, x14, x15, x16, x17] := by
  unfold shape at h
  simp only [Bool.and_eq_true, decide_eq_true_eq] at h
  obtain ⟨⟨h0, h1⟩, h2⟩ := h
  match sl, h0, h1, h2 with
  | [a, b, x2, x3, x4, x5, x6, x7, x8, x9, x10, x11, x12, x13, x14, x15, x16, x17], _, h1, h2 =>
    cases a <;> first | cases h1 | skip
    cases b <;> first | cases h2 | skip
    exact ⟨_, _, _, _, _, _, _, _, _, _, _, _, _, _, _, _, rfl⟩
theorem lap {k : Int} {pp : PenS} (g : GoodP k pp) (hk : k < 999999900) (x2 x3 x4 x5 x6 x7 x8 x9 x10 x11 x12 x13 x14 x15 x16 x17 : Slot) : ∃ sl p', W1_B ⟨[.u, .p, x2, x3, x4, x5, x6, x7, x8, x9, x10, x11, x12, x13, x14, x15, x16, x17], pp⟩ = some (.nx, ⟨sl, p'⟩) ∧ shape 18 sl = true ∧ GoodP (k + 5) p' := by
  obtain ⟨d, p1, h1, m0, m1, g1⟩ := draw_spec (m := 5) g (by omega) (by decide) (by decide)
  obtain ⟨m, hm⟩ : ∃ m : Nat, (m : Int) = 2 + d := ⟨(2 + d).toNat, by omega⟩
  obtain ⟨p, p2, h2, a0, a1, g2⟩ := draw_spec (m := (m : Int)) g1 (by omega) (by omega) (by omega)
  obtain ⟨q, p3, h3, b0, b1, g3⟩ := draw_spec (m := (m : Int)) g2 (by omega) (by omega) (by omega)
  obtain ⟨l, p4, h4, c0, c1, g4⟩ := draw_spec (m := (m : Int) - 1) g3 (by omega) (by omega) (by omega)
  obtain ⟨i, x, p5, h5, i1, i2, g5⟩ := pick_spec (ds := [.str "or", .str "xor", .str "but"]) g4 (by omega) (by decide) (by decide)
  obtain ⟨p, rfl⟩ : ∃ n : Nat, p = (n : Int) := ⟨p.toNat, by omega⟩
  obtain ⟨q, rfl⟩ : ∃ n : Nat, q = (n : Int) := ⟨q.toNat, by omega⟩
  obtain ⟨l, rfl⟩ : ∃ n : Nat, l = (n : Int) := ⟨l.toNat, by omega⟩
  obtain ⟨kd, hkd, hx⟩ : ∃ kd : Kd, isGate kd = true ∧ x = .str kd.nm := by
    match i, i2 with
    | 0, e => cases e; exact ⟨.or, rfl, rfl⟩
    | 1, e => cases e; exact ⟨.xor, rfl, rfl⟩
    | 2, e => cases e; exact ⟨.but, rfl, rfl⟩
    | i + 3, e => cases e
  subst hx
  have F : Facts m p q l kd := facts (by omega) (by omega) (by omega) (by omega) (by omega) hkd
  obtain ⟨y9, y10, y11, y12, y13, y14, y15, y16, y17, hr⟩ := rest_ok F hkd p5 x2 x9 x10 x11 x12 x13 x14 x15 x16 x17
  have s1 := v1 pp p1 d x2 x3 x4 x5 x6 x7 x8 x9 x10 x11 x12 x13 x14 x15 x16 x17 h1
  rw [← hm] at s1
  have s2 := v2 p1 p2 p3 (.int (m : Int)) (.int (p : Int)) (.int (q : Int)) (.int ((2 * m + 2 : Nat) : Int)) x2 x4 x5 x6 x7 x8 x9 x10 x11 x12 x13 x14 x15 x16 x17 h2 h3 rfl
  have s3 := v3 p3 p4 p5 (.int (m : Int)) (.int ((m : Int) - 1)) (.int (l : Int)) (.str kd.nm) x2 (.d (.int (p : Int))) (.d (.int (q : Int))) (.d (.int ((2 * m + 2 : Nat) : Int))) x7 x8 x9 x10 x11 x12 x13 x14 x15 x16 x17 h4 h5 rfl
  have e5 : k + 5 = k + 1 + 1 + 1 + 1 + 1 := by omega
  rw [e5]
  have W : W1_B ⟨[.u, .p, x2, x3, x4, x5, x6, x7, x8, x9, x10, x11, x12, x13, x14, x15, x16, x17], pp⟩ = some (.nx, ⟨[.u, .p, x2, .d (.int (m : Int)), .d (.int (p : Int)), .d (.int (q : Int)), .d (.int ((2 * m + 2 : Nat) : Int)), .d (.int (l : Int)), .d (.str kd.nm), y9, y10, y11, y12, y13, y14, y15, y16, y17], p5⟩) := by
    show seqS W1_1 (seqS W1_2 (seqS W1_3 (seqS W1_4 (seqS W1_5 (seqS W1_6 (seqS W1_7 W1_8)))))) _ = _
    unfold seqS
    rw [s1]
    dsimp only
    rw [s2]
    dsimp only
    rw [s3]
    exact hr
  exact ⟨_, p5, W, rfl, g5⟩
theorem laps : ∀ (ds : List D) (k : Int) (pp : PenS) (sl : List Slot), GoodP k pp → k + 5 * ds.length < 999999000 → shape 18 sl = true → ∃ sl' p', forL (nameT 2) W1_B ds ⟨sl, pp⟩ = some (.nx, ⟨sl', p'⟩) ∧ shape 18 sl' = true
  | [], k, pp, sl, g, hk, h => ⟨sl, pp, rfl, h⟩
  | d :: ds, k, pp, sl, g, hk, h => by
    obtain ⟨x2, x3, x4, x5, x6, x7, x8, x9, x10, x11, x12, x13, x14, x15, x16, x17, rfl⟩ := shape_inv h
    rw [List.length_cons] at hk
    obtain ⟨sl1, p1, h1, h2, g1⟩ := lap g (by omega) (.d d) x3 x4 x5 x6 x7 x8 x9 x10 x11 x12 x13 x14 x15 x16 x17
    obtain ⟨sl2, p2, h3, h4⟩ := laps ds (k + 5) p1 sl1 g1 (by omega) h2
    refine ⟨sl2, p2, ?_, h4⟩
    rw [forL_cons]
    show (match W1_B ⟨[.u, .p, .d d, x3, x4, x5, x6, x7, x8, x9, x10, x11, x12, x13, x14, x15, x16, x17], pp⟩ with
      | none => none
      | some (.nx, e') => forL (nameT 2) W1_B ds e'
      | some (.ct, e') => forL (nameT 2) W1_B ds e'
      | some (.bk, e') => some (.nx, e')
      | some (.rt d, e') => some (.rt d, e')
      | some (.x c ns xs, e') => some (.x c ns xs, e')) = _
    rw [h1]
    exact h3
theorem w2_a : isP (defF false 3 F_doubled [.int 1, .int 0] pen0) (doubledL 1 0) = true := by decide +kernel
def isTB : Option D → Bool
  | some (.bool b) => b
  | _ => false
theorem isTB_eq {o : Option D} (h : isTB o = true) : o = some (.bool true) := by
  unfold isTB at h
  split at h
  · subst h; rfl
  · cases h
theorem w2_b : isTB (dEq (encP (doubledL 1 0)) (.tuple [.tuple [.tuple [.str "copy", .int 0]], .tuple [.tuple [.str "wire", .int 0], .tuple [.str "down", .int 1]]]) ) = true := by decide +kernel
theorem w2_ok (sl : List Slot) (pp : PenS) : ∃ e', W2 ⟨sl, pp⟩ = some (.rt (.bool true), e') := by
  obtain ⟨_, h⟩ := isP_eq w2_a
  have g := isTB_eq w2_b
  refine ⟨⟨sl, pp⟩, ?_⟩
  unfold W2
  generalize defF false 3 F_doubled = fA at h ⊢
  generalize encP (doubledL 1 0) = d at h g
  have f1 : ∀ a : D, few [a] (PyData.tuple [a]) = some (PyData.tuple [a]) := fun _ => rfl
  have f2 : ∀ a b : D, few [a, b] (PyData.tuple [a, b]) = some (PyData.tuple [a, b]) := fun _ _ => rfl
  simp only [slots0, seqS, ifS, testG, op2, op1, Fw.bindG, thenS, slotD, slotB, retG, optG, boolD, List.map_cons, List.map_nil, List.nil_append, List.cons_append, List.length_cons, List.length_nil, List.getElem?_cons_zero, List.getElem?_cons_succ, Option.map_some, Option.bind_some, if_false, if_true, Bool.false_eq_true, nextS, parS, consG, List.replicate, List.set_cons_zero, List.set_cons_succ, asgV, asgS, nameT, subV, ownL, tupG, tupV, consV, nilV, consT, nilT, tupT, orG, andG, notG, callN, slG, partG, partD, dSl, forS, seqI, seqD, lstG, retS, Option.bind_some, h, g, f1, f2]
theorem law_holds : ∀ pp, GoodP 0 pp → ∃ e', F_law ⟨lawSl 18, pp⟩ = some (.rt (.bool true), e') := by
  intro pp g
  obtain ⟨sl, p', h, _⟩ := laps [.int 0, .int 1, .int 2] 0 pp (lawSl 18) g (by decide) rfl
  obtain ⟨e', h2⟩ := w2_ok sl p'
  refine ⟨e', ?_⟩
  show seqS W1 W2 _ = _
  unfold seqS
  have h1 : W1 ⟨lawSl 18, pp⟩ = some (.nx, ⟨sl, p'⟩) := by
    unfold W1 forS
    exact h
  rw [h1]
  exact h2
end Sb

set_option linter.all false
set_option maxRecDepth 100000
set_option maxHeartbeats 0
namespace Sb
open PySem PySem.Spec PyProof.Rows L2 Fw
theorem all_mk {l : PySem.W.OpenLaw} {w : World} {K : PySem.W.Frag} {h : Heap} {mg : Str → Option Value} {fa : Addr} (X : K.In h) (G : h.Ns mainGlobals mg) (hfa : mg "law" = some (.ref fa))
    {f__tiles f_doubled f_exchanged f_led f_made_at f__law_pen f__law_draw f__law_pick f__law_is_whole f__law_gate f__law_bit_rows f__law_rows_of f__law_stage_behind f__law_passed f__law_are_stages f__law_slot_bits f__law_own_exchanged f__law_doubled_stages f__law_made_stages f__law_led_stages f__law_leads f_law : Addr} {oc__tiles kV__tiles dc__tiles pm__tiles cd__tiles ct__tiles oc_doubled kV_doubled dc_doubled pm_doubled cd_doubled ct_doubled oc_exchanged kV_exchanged dc_exchanged pm_exchanged cd_exchanged ct_exchanged oc_led kV_led dc_led pm_led cd_led ct_led oc_made_at kV_made_at dc_made_at pm_made_at cd_made_at ct_made_at oc__law_pen kV__law_pen dc__law_pen pm__law_pen cd__law_pen ct__law_pen oc__law_draw kV__law_draw dc__law_draw pm__law_draw cd__law_draw ct__law_draw oc__law_pick kV__law_pick dc__law_pick pm__law_pick cd__law_pick ct__law_pick oc__law_is_whole kV__law_is_whole dc__law_is_whole pm__law_is_whole cd__law_is_whole ct__law_is_whole oc__law_gate kV__law_gate dc__law_gate pm__law_gate cd__law_gate ct__law_gate oc__law_bit_rows kV__law_bit_rows dc__law_bit_rows pm__law_bit_rows cd__law_bit_rows ct__law_bit_rows oc__law_rows_of kV__law_rows_of dc__law_rows_of pm__law_rows_of cd__law_rows_of ct__law_rows_of oc__law_stage_behind kV__law_stage_behind dc__law_stage_behind pm__law_stage_behind cd__law_stage_behind ct__law_stage_behind oc__law_passed kV__law_passed dc__law_passed pm__law_passed cd__law_passed ct__law_passed oc__law_are_stages kV__law_are_stages dc__law_are_stages pm__law_are_stages cd__law_are_stages ct__law_are_stages oc__law_slot_bits kV__law_slot_bits dc__law_slot_bits pm__law_slot_bits cd__law_slot_bits ct__law_slot_bits oc__law_own_exchanged kV__law_own_exchanged dc__law_own_exchanged pm__law_own_exchanged cd__law_own_exchanged ct__law_own_exchanged oc__law_doubled_stages kV__law_doubled_stages dc__law_doubled_stages pm__law_doubled_stages cd__law_doubled_stages ct__law_doubled_stages oc__law_made_stages kV__law_made_stages dc__law_made_stages pm__law_made_stages cd__law_made_stages ct__law_made_stages oc__law_led_stages kV__law_led_stages dc__law_led_stages pm__law_led_stages cd__law_led_stages ct__law_led_stages oc__law_leads kV__law_leads dc__law_leads pm__law_leads cd__law_leads ct__law_leads oc_law kV_law dc_law pm_law cd_law ct_law : Value} {od__tiles an__tiles od_doubled an_doubled od_exchanged an_exchanged od_led an_led od_made_at an_made_at od__law_pen an__law_pen od__law_draw an__law_draw od__law_pick an__law_pick od__law_is_whole an__law_is_whole od__law_gate an__law_gate od__law_bit_rows an__law_bit_rows od__law_rows_of an__law_rows_of od__law_stage_behind an__law_stage_behind od__law_passed an__law_passed od__law_are_stages an__law_are_stages od__law_slot_bits an__law_slot_bits od__law_own_exchanged an__law_own_exchanged od__law_doubled_stages an__law_doubled_stages od__law_made_stages an__law_made_stages od__law_led_stages an__law_led_stages od__law_leads an__law_leads od_law an_law : Option Addr} {sl__tiles sl_doubled sl_exchanged sl_led sl_made_at sl__law_pen sl__law_draw sl__law_pick sl__law_is_whole sl__law_gate sl__law_bit_rows sl__law_rows_of sl__law_stage_behind sl__law_passed sl__law_are_stages sl__law_slot_bits sl__law_own_exchanged sl__law_doubled_stages sl__law_made_stages sl__law_led_stages sl__law_leads sl_law : Array (Option Value)}
    (a__tiles : PySem.W.nsIn K mainGlobals "_tiles" = some (some (.ref f__tiles)))
    (l__tiles : K.lookup f__tiles = some ⟨oc__tiles, od__tiles, .func (PySem.W.fnOf "_tiles" "_tiles" (defArgs (top 1)) (defBody (top 1)) (defScope (top 1)) .none kV__tiles dc__tiles pm__tiles an__tiles cd__tiles ct__tiles), sl__tiles⟩)
    (c__tiles : PySem.W.codeIn K cd__tiles "_tiles" = true)
    (k__tiles : PySem.W.keepIn K (.ref f__tiles) = true)
    (a_doubled : PySem.W.nsIn K mainGlobals "doubled" = some (some (.ref f_doubled)))
    (l_doubled : K.lookup f_doubled = some ⟨oc_doubled, od_doubled, .func (PySem.W.fnOf "doubled" "doubled" (defArgs (top 2)) (defBody (top 2)) (defScope (top 2)) .none kV_doubled dc_doubled pm_doubled an_doubled cd_doubled ct_doubled), sl_doubled⟩)
    (c_doubled : PySem.W.codeIn K cd_doubled "doubled" = true)
    (k_doubled : PySem.W.keepIn K (.ref f_doubled) = true)
    (a_exchanged : PySem.W.nsIn K mainGlobals "exchanged" = some (some (.ref f_exchanged)))
    (l_exchanged : K.lookup f_exchanged = some ⟨oc_exchanged, od_exchanged, .func (PySem.W.fnOf "exchanged" "exchanged" (defArgs (top 3)) (defBody (top 3)) (defScope (top 3)) .none kV_exchanged dc_exchanged pm_exchanged an_exchanged cd_exchanged ct_exchanged), sl_exchanged⟩)
    (c_exchanged : PySem.W.codeIn K cd_exchanged "exchanged" = true)
    (k_exchanged : PySem.W.keepIn K (.ref f_exchanged) = true)
    (a_led : PySem.W.nsIn K mainGlobals "led" = some (some (.ref f_led)))
    (l_led : K.lookup f_led = some ⟨oc_led, od_led, .func (PySem.W.fnOf "led" "led" (defArgs (top 4)) (defBody (top 4)) (defScope (top 4)) .none kV_led dc_led pm_led an_led cd_led ct_led), sl_led⟩)
    (c_led : PySem.W.codeIn K cd_led "led" = true)
    (k_led : PySem.W.keepIn K (.ref f_led) = true)
    (a_made_at : PySem.W.nsIn K mainGlobals "made_at" = some (some (.ref f_made_at)))
    (l_made_at : K.lookup f_made_at = some ⟨oc_made_at, od_made_at, .func (PySem.W.fnOf "made_at" "made_at" (defArgs (top 5)) (defBody (top 5)) (defScope (top 5)) .none kV_made_at dc_made_at pm_made_at an_made_at cd_made_at ct_made_at), sl_made_at⟩)
    (c_made_at : PySem.W.codeIn K cd_made_at "made_at" = true)
    (k_made_at : PySem.W.keepIn K (.ref f_made_at) = true)
    (a__law_pen : PySem.W.nsIn K mainGlobals "_law_pen" = some (some (.ref f__law_pen)))
    (l__law_pen : K.lookup f__law_pen = some ⟨oc__law_pen, od__law_pen, .func (PySem.W.fnOf "_law_pen" "_law_pen" (defArgs (top 7)) (defBody (top 7)) (defScope (top 7)) .none kV__law_pen dc__law_pen pm__law_pen an__law_pen cd__law_pen ct__law_pen), sl__law_pen⟩)
    (c__law_pen : PySem.W.codeIn K cd__law_pen "_law_pen" = true)
    (k__law_pen : PySem.W.keepIn K (.ref f__law_pen) = true)
    (a__law_draw : PySem.W.nsIn K mainGlobals "_law_draw" = some (some (.ref f__law_draw)))
    (l__law_draw : K.lookup f__law_draw = some ⟨oc__law_draw, od__law_draw, .func (PySem.W.fnOf "_law_draw" "_law_draw" (defArgs (top 8)) (defBody (top 8)) (defScope (top 8)) .none kV__law_draw dc__law_draw pm__law_draw an__law_draw cd__law_draw ct__law_draw), sl__law_draw⟩)
    (c__law_draw : PySem.W.codeIn K cd__law_draw "_law_draw" = true)
    (k__law_draw : PySem.W.keepIn K (.ref f__law_draw) = true)
    (a__law_pick : PySem.W.nsIn K mainGlobals "_law_pick" = some (some (.ref f__law_pick)))
    (l__law_pick : K.lookup f__law_pick = some ⟨oc__law_pick, od__law_pick, .func (PySem.W.fnOf "_law_pick" "_law_pick" (defArgs (top 9)) (defBody (top 9)) (defScope (top 9)) .none kV__law_pick dc__law_pick pm__law_pick an__law_pick cd__law_pick ct__law_pick), sl__law_pick⟩)
    (c__law_pick : PySem.W.codeIn K cd__law_pick "_law_pick" = true)
    (k__law_pick : PySem.W.keepIn K (.ref f__law_pick) = true)
    (a__law_is_whole : PySem.W.nsIn K mainGlobals "_law_is_whole" = some (some (.ref f__law_is_whole)))
    (l__law_is_whole : K.lookup f__law_is_whole = some ⟨oc__law_is_whole, od__law_is_whole, .func (PySem.W.fnOf "_law_is_whole" "_law_is_whole" (defArgs (top 10)) (defBody (top 10)) (defScope (top 10)) .none kV__law_is_whole dc__law_is_whole pm__law_is_whole an__law_is_whole cd__law_is_whole ct__law_is_whole), sl__law_is_whole⟩)
    (c__law_is_whole : PySem.W.codeIn K cd__law_is_whole "_law_is_whole" = true)
    (k__law_is_whole : PySem.W.keepIn K (.ref f__law_is_whole) = true)
    (a__law_gate : PySem.W.nsIn K mainGlobals "_law_gate" = some (some (.ref f__law_gate)))
    (l__law_gate : K.lookup f__law_gate = some ⟨oc__law_gate, od__law_gate, .func (PySem.W.fnOf "_law_gate" "_law_gate" (defArgs (top 11)) (defBody (top 11)) (defScope (top 11)) .none kV__law_gate dc__law_gate pm__law_gate an__law_gate cd__law_gate ct__law_gate), sl__law_gate⟩)
    (c__law_gate : PySem.W.codeIn K cd__law_gate "_law_gate" = true)
    (k__law_gate : PySem.W.keepIn K (.ref f__law_gate) = true)
    (a__law_bit_rows : PySem.W.nsIn K mainGlobals "_law_bit_rows" = some (some (.ref f__law_bit_rows)))
    (l__law_bit_rows : K.lookup f__law_bit_rows = some ⟨oc__law_bit_rows, od__law_bit_rows, .func (PySem.W.fnOf "_law_bit_rows" "_law_bit_rows" (defArgs (top 12)) (defBody (top 12)) (defScope (top 12)) .none kV__law_bit_rows dc__law_bit_rows pm__law_bit_rows an__law_bit_rows cd__law_bit_rows ct__law_bit_rows), sl__law_bit_rows⟩)
    (c__law_bit_rows : PySem.W.codeIn K cd__law_bit_rows "_law_bit_rows" = true)
    (k__law_bit_rows : PySem.W.keepIn K (.ref f__law_bit_rows) = true)
    (a__law_rows_of : PySem.W.nsIn K mainGlobals "_law_rows_of" = some (some (.ref f__law_rows_of)))
    (l__law_rows_of : K.lookup f__law_rows_of = some ⟨oc__law_rows_of, od__law_rows_of, .func (PySem.W.fnOf "_law_rows_of" "_law_rows_of" (defArgs (top 13)) (defBody (top 13)) (defScope (top 13)) .none kV__law_rows_of dc__law_rows_of pm__law_rows_of an__law_rows_of cd__law_rows_of ct__law_rows_of), sl__law_rows_of⟩)
    (c__law_rows_of : PySem.W.codeIn K cd__law_rows_of "_law_rows_of" = true)
    (k__law_rows_of : PySem.W.keepIn K (.ref f__law_rows_of) = true)
    (a__law_stage_behind : PySem.W.nsIn K mainGlobals "_law_stage_behind" = some (some (.ref f__law_stage_behind)))
    (l__law_stage_behind : K.lookup f__law_stage_behind = some ⟨oc__law_stage_behind, od__law_stage_behind, .func (PySem.W.fnOf "_law_stage_behind" "_law_stage_behind" (defArgs (top 14)) (defBody (top 14)) (defScope (top 14)) .none kV__law_stage_behind dc__law_stage_behind pm__law_stage_behind an__law_stage_behind cd__law_stage_behind ct__law_stage_behind), sl__law_stage_behind⟩)
    (c__law_stage_behind : PySem.W.codeIn K cd__law_stage_behind "_law_stage_behind" = true)
    (k__law_stage_behind : PySem.W.keepIn K (.ref f__law_stage_behind) = true)
    (a__law_passed : PySem.W.nsIn K mainGlobals "_law_passed" = some (some (.ref f__law_passed)))
    (l__law_passed : K.lookup f__law_passed = some ⟨oc__law_passed, od__law_passed, .func (PySem.W.fnOf "_law_passed" "_law_passed" (defArgs (top 15)) (defBody (top 15)) (defScope (top 15)) .none kV__law_passed dc__law_passed pm__law_passed an__law_passed cd__law_passed ct__law_passed), sl__law_passed⟩)
    (c__law_passed : PySem.W.codeIn K cd__law_passed "_law_passed" = true)
    (k__law_passed : PySem.W.keepIn K (.ref f__law_passed) = true)
    (a__law_are_stages : PySem.W.nsIn K mainGlobals "_law_are_stages" = some (some (.ref f__law_are_stages)))
    (l__law_are_stages : K.lookup f__law_are_stages = some ⟨oc__law_are_stages, od__law_are_stages, .func (PySem.W.fnOf "_law_are_stages" "_law_are_stages" (defArgs (top 16)) (defBody (top 16)) (defScope (top 16)) .none kV__law_are_stages dc__law_are_stages pm__law_are_stages an__law_are_stages cd__law_are_stages ct__law_are_stages), sl__law_are_stages⟩)
    (c__law_are_stages : PySem.W.codeIn K cd__law_are_stages "_law_are_stages" = true)
    (k__law_are_stages : PySem.W.keepIn K (.ref f__law_are_stages) = true)
    (a__law_slot_bits : PySem.W.nsIn K mainGlobals "_law_slot_bits" = some (some (.ref f__law_slot_bits)))
    (l__law_slot_bits : K.lookup f__law_slot_bits = some ⟨oc__law_slot_bits, od__law_slot_bits, .func (PySem.W.fnOf "_law_slot_bits" "_law_slot_bits" (defArgs (top 17)) (defBody (top 17)) (defScope (top 17)) .none kV__law_slot_bits dc__law_slot_bits pm__law_slot_bits an__law_slot_bits cd__law_slot_bits ct__law_slot_bits), sl__law_slot_bits⟩)
    (c__law_slot_bits : PySem.W.codeIn K cd__law_slot_bits "_law_slot_bits" = true)
    (k__law_slot_bits : PySem.W.keepIn K (.ref f__law_slot_bits) = true)
    (a__law_own_exchanged : PySem.W.nsIn K mainGlobals "_law_own_exchanged" = some (some (.ref f__law_own_exchanged)))
    (l__law_own_exchanged : K.lookup f__law_own_exchanged = some ⟨oc__law_own_exchanged, od__law_own_exchanged, .func (PySem.W.fnOf "_law_own_exchanged" "_law_own_exchanged" (defArgs (top 18)) (defBody (top 18)) (defScope (top 18)) .none kV__law_own_exchanged dc__law_own_exchanged pm__law_own_exchanged an__law_own_exchanged cd__law_own_exchanged ct__law_own_exchanged), sl__law_own_exchanged⟩)
    (c__law_own_exchanged : PySem.W.codeIn K cd__law_own_exchanged "_law_own_exchanged" = true)
    (k__law_own_exchanged : PySem.W.keepIn K (.ref f__law_own_exchanged) = true)
    (a__law_doubled_stages : PySem.W.nsIn K mainGlobals "_law_doubled_stages" = some (some (.ref f__law_doubled_stages)))
    (l__law_doubled_stages : K.lookup f__law_doubled_stages = some ⟨oc__law_doubled_stages, od__law_doubled_stages, .func (PySem.W.fnOf "_law_doubled_stages" "_law_doubled_stages" (defArgs (top 19)) (defBody (top 19)) (defScope (top 19)) .none kV__law_doubled_stages dc__law_doubled_stages pm__law_doubled_stages an__law_doubled_stages cd__law_doubled_stages ct__law_doubled_stages), sl__law_doubled_stages⟩)
    (c__law_doubled_stages : PySem.W.codeIn K cd__law_doubled_stages "_law_doubled_stages" = true)
    (k__law_doubled_stages : PySem.W.keepIn K (.ref f__law_doubled_stages) = true)
    (a__law_made_stages : PySem.W.nsIn K mainGlobals "_law_made_stages" = some (some (.ref f__law_made_stages)))
    (l__law_made_stages : K.lookup f__law_made_stages = some ⟨oc__law_made_stages, od__law_made_stages, .func (PySem.W.fnOf "_law_made_stages" "_law_made_stages" (defArgs (top 20)) (defBody (top 20)) (defScope (top 20)) .none kV__law_made_stages dc__law_made_stages pm__law_made_stages an__law_made_stages cd__law_made_stages ct__law_made_stages), sl__law_made_stages⟩)
    (c__law_made_stages : PySem.W.codeIn K cd__law_made_stages "_law_made_stages" = true)
    (k__law_made_stages : PySem.W.keepIn K (.ref f__law_made_stages) = true)
    (a__law_led_stages : PySem.W.nsIn K mainGlobals "_law_led_stages" = some (some (.ref f__law_led_stages)))
    (l__law_led_stages : K.lookup f__law_led_stages = some ⟨oc__law_led_stages, od__law_led_stages, .func (PySem.W.fnOf "_law_led_stages" "_law_led_stages" (defArgs (top 21)) (defBody (top 21)) (defScope (top 21)) .none kV__law_led_stages dc__law_led_stages pm__law_led_stages an__law_led_stages cd__law_led_stages ct__law_led_stages), sl__law_led_stages⟩)
    (c__law_led_stages : PySem.W.codeIn K cd__law_led_stages "_law_led_stages" = true)
    (k__law_led_stages : PySem.W.keepIn K (.ref f__law_led_stages) = true)
    (a__law_leads : PySem.W.nsIn K mainGlobals "_law_leads" = some (some (.ref f__law_leads)))
    (l__law_leads : K.lookup f__law_leads = some ⟨oc__law_leads, od__law_leads, .func (PySem.W.fnOf "_law_leads" "_law_leads" (defArgs (top 22)) (defBody (top 22)) (defScope (top 22)) .none kV__law_leads dc__law_leads pm__law_leads an__law_leads cd__law_leads ct__law_leads), sl__law_leads⟩)
    (c__law_leads : PySem.W.codeIn K cd__law_leads "_law_leads" = true)
    (k__law_leads : PySem.W.keepIn K (.ref f__law_leads) = true)
    (a_law : PySem.W.nsIn K mainGlobals "law" = some (some (.ref f_law)))
    (l_law : K.lookup f_law = some ⟨oc_law, od_law, .func (PySem.W.fnOf "law" "law" (defArgs (top 23)) (defBody (top 23)) (defScope (top 23)) .none kV_law dc_law pm_law an_law cd_law ct_law), sl_law⟩)
    (c_law : PySem.W.codeIn K cd_law "law" = true)
    (k_law : PySem.W.keepIn K (.ref f_law) = true)
    (z_isinstance : PySem.W.nsIn K mainGlobals "isinstance" = some none)
    (z_int : PySem.W.nsIn K mainGlobals "int" = some none)
    (z_bool : PySem.W.nsIn K mainGlobals "bool" = some none)
    (z_str : PySem.W.nsIn K mainGlobals "str" = some none)
    (z_tuple : PySem.W.nsIn K mainGlobals "tuple" = some none)
    (z_list : PySem.W.nsIn K mainGlobals "list" = some none)
    (z_dict : PySem.W.nsIn K mainGlobals "dict" = some none)
    (z_set : PySem.W.nsIn K mainGlobals "set" = some none)
    (z_len : PySem.W.nsIn K mainGlobals "len" = some none)
    (z_all : PySem.W.nsIn K mainGlobals "all" = some none)
    (z_any : PySem.W.nsIn K mainGlobals "any" = some none)
    (z_enumerate : PySem.W.nsIn K mainGlobals "enumerate" = some none)
    (z_zip : PySem.W.nsIn K mainGlobals "zip" = some none)
    (z_range : PySem.W.nsIn K mainGlobals "range" = some none)
    (z_sorted : PySem.W.nsIn K mainGlobals "sorted" = some none)
    (z_max : PySem.W.nsIn K mainGlobals "max" = some none)
    (z_min : PySem.W.nsIn K mainGlobals "min" = some none)
    (z_abs : PySem.W.nsIn K mainGlobals "abs" = some none)
    (z_repr : PySem.W.nsIn K mainGlobals "repr" = some none)
    (z_reversed : PySem.W.nsIn K mainGlobals "reversed" = some none)
    : ∃ fd : FuncData, (∀ (s : Shared) (v : Value), BindsTo s fd ⟨[v], []⟩ [("_law_script", v)]) ∧ ∀ base : Heap, K.In base → base.Ns mainGlobals mg → FnOk l.prog w K mg base CX0 5 fa fd ["_law_script"] (Fw.spLaw K) := by
  have e := hfa.symm.trans (PySem.W.mg_of X G a_law)
  cases e
  have F__tiles := fun_mk (st := top 1) l__tiles c__tiles k__tiles
  have b__tiles := F__tiles.binds (ps := ["kind", "first", "end"]) fun _ _ _ _ _ _ us hl => match us, hl with | [_, _, _], _ => rfl
  have F_doubled := fun_mk (st := top 2) l_doubled c_doubled k_doubled
  have b_doubled := F_doubled.binds (ps := ["m", "p"]) fun _ _ _ _ _ _ us hl => match us, hl with | [_, _], _ => rfl
  have F_exchanged := fun_mk (st := top 3) l_exchanged c_exchanged k_exchanged
  have b_exchanged := F_exchanged.binds (ps := ["m", "p"]) fun _ _ _ _ _ _ us hl => match us, hl with | [_, _], _ => rfl
  have F_led := fun_mk (st := top 4) l_led c_led k_led
  have b_led := F_led.binds (ps := ["m", "p", "q"]) fun _ _ _ _ _ _ us hl => match us, hl with | [_, _, _], _ => rfl
  have F_made_at := fun_mk (st := top 5) l_made_at c_made_at k_made_at
  have b_made_at := F_made_at.binds (ps := ["m", "p", "kind"]) fun _ _ _ _ _ _ us hl => match us, hl with | [_, _, _], _ => rfl
  have F__law_pen := fun_mk (st := top 7) l__law_pen c__law_pen k__law_pen
  have b__law_pen := F__law_pen.binds (ps := ["_law_script"]) fun _ _ _ _ _ _ us hl => match us, hl with | [_], _ => rfl
  have F__law_draw := fun_mk (st := top 8) l__law_draw c__law_draw k__law_draw
  have b__law_draw := F__law_draw.binds (ps := ["_law_pen_here", "_law_many"]) fun _ _ _ _ _ _ us hl => match us, hl with | [_, _], _ => rfl
  have F__law_pick := fun_mk (st := top 9) l__law_pick c__law_pick k__law_pick
  have b__law_pick := F__law_pick.binds (ps := ["_law_pen_here", "_law_some"]) fun _ _ _ _ _ _ us hl => match us, hl with | [_, _], _ => rfl
  have F__law_is_whole := fun_mk (st := top 10) l__law_is_whole c__law_is_whole k__law_is_whole
  have b__law_is_whole := F__law_is_whole.binds (ps := ["_law_thing"]) fun _ _ _ _ _ _ us hl => match us, hl with | [_], _ => rfl
  have F__law_gate := fun_mk (st := top 11) l__law_gate c__law_gate k__law_gate
  have b__law_gate := F__law_gate.binds (ps := ["_law_gate_here", "_law_values"]) fun _ _ _ _ _ _ us hl => match us, hl with | [_, _], _ => rfl
  have F__law_bit_rows := fun_mk (st := top 12) l__law_bit_rows c__law_bit_rows k__law_bit_rows
  have b__law_bit_rows := F__law_bit_rows.binds (ps := ["_law_many"]) fun _ _ _ _ _ _ us hl => match us, hl with | [_], _ => rfl
  have F__law_rows_of := fun_mk (st := top 13) l__law_rows_of c__law_rows_of k__law_rows_of
  have b__law_rows_of := F__law_rows_of.binds (ps := ["_law_tile"]) fun _ _ _ _ _ _ us hl => match us, hl with | [_], _ => rfl
  have F__law_stage_behind := fun_mk (st := top 14) l__law_stage_behind c__law_stage_behind k__law_stage_behind
  have b__law_stage_behind := F__law_stage_behind.binds (ps := ["_law_tiles", "_law_bits"]) fun _ _ _ _ _ _ us hl => match us, hl with | [_, _], _ => rfl
  have F__law_passed := fun_mk (st := top 15) l__law_passed c__law_passed k__law_passed
  have b__law_passed := F__law_passed.binds (ps := ["_law_stages", "_law_bits"]) fun _ _ _ _ _ _ us hl => match us, hl with | [_, _], _ => rfl
  have F__law_are_stages := fun_mk (st := top 16) l__law_are_stages c__law_are_stages k__law_are_stages
  have b__law_are_stages := F__law_are_stages.binds (ps := ["_law_value", "_law_rows"]) fun _ _ _ _ _ _ us hl => match us, hl with | [_, _], _ => rfl
  have F__law_slot_bits := fun_mk (st := top 17) l__law_slot_bits c__law_slot_bits k__law_slot_bits
  have b__law_slot_bits := F__law_slot_bits.binds (ps := ["_law_rows", "_law_bits"]) fun _ _ _ _ _ _ us hl => match us, hl with | [_, _], _ => rfl
  have F__law_own_exchanged := fun_mk (st := top 18) l__law_own_exchanged c__law_own_exchanged k__law_own_exchanged
  have b__law_own_exchanged := F__law_own_exchanged.binds (ps := ["_law_m", "_law_p"]) fun _ _ _ _ _ _ us hl => match us, hl with | [_, _], _ => rfl
  have F__law_doubled_stages := fun_mk (st := top 19) l__law_doubled_stages c__law_doubled_stages k__law_doubled_stages
  have b__law_doubled_stages := F__law_doubled_stages.binds (ps := ["_law_m", "_law_p"]) fun _ _ _ _ _ _ us hl => match us, hl with | [_, _], _ => rfl
  have F__law_made_stages := fun_mk (st := top 20) l__law_made_stages c__law_made_stages k__law_made_stages
  have b__law_made_stages := F__law_made_stages.binds (ps := ["_law_m", "_law_p", "_law_kind"]) fun _ _ _ _ _ _ us hl => match us, hl with | [_, _, _], _ => rfl
  have F__law_led_stages := fun_mk (st := top 21) l__law_led_stages c__law_led_stages k__law_led_stages
  have b__law_led_stages := F__law_led_stages.binds (ps := ["_law_m", "_law_p", "_law_q"]) fun _ _ _ _ _ _ us hl => match us, hl with | [_, _, _], _ => rfl
  have F__law_leads := fun_mk (st := top 22) l__law_leads c__law_leads k__law_leads
  have b__law_leads := F__law_leads.binds (ps := ["_law_stages", "_law_rows", "_law_ahead", "_law_behind"]) fun _ _ _ _ _ _ us hl => match us, hl with | [_, _, _, _], _ => rfl
  have F_law := fun_mk (st := top 23) l_law c_law k_law
  have T : Bv mg := ⟨PySem.W.mg_none_of X G z_isinstance, PySem.W.mg_none_of X G z_int, PySem.W.mg_none_of X G z_bool, PySem.W.mg_none_of X G z_str, PySem.W.mg_none_of X G z_tuple, PySem.W.mg_none_of X G z_list, PySem.W.mg_none_of X G z_dict, PySem.W.mg_none_of X G z_set, PySem.W.mg_none_of X G z_len, PySem.W.mg_none_of X G z_all, PySem.W.mg_none_of X G z_any, PySem.W.mg_none_of X G z_enumerate, PySem.W.mg_none_of X G z_zip, PySem.W.mg_none_of X G z_range, PySem.W.mg_none_of X G z_sorted, PySem.W.mg_none_of X G z_max, PySem.W.mg_none_of X G z_min, PySem.W.mg_none_of X G z_abs, PySem.W.mg_none_of X G z_repr, PySem.W.mg_none_of X G z_reversed⟩
  have H__tiles : ∀ base : Heap, K.In base → base.Ns mainGlobals mg → Fn K mg l.prog w base CX0 "_tiles" 1 f__tiles _ ["kind", "first", "end"] (spN ⟨K, fun _ => none⟩ false 3 (defF false 4 Sb.F__tiles)) := fun base XB GB => ⟨PySem.W.mg_of X G a__tiles, k__tiles, b__tiles, ok__tiles F__tiles T⟩
  have H_doubled : ∀ base : Heap, K.In base → base.Ns mainGlobals mg → Fn K mg l.prog w base CX0 "doubled" 2 f_doubled _ ["m", "p"] (spN ⟨K, fun _ => none⟩ false 2 (defF false 3 Sb.F_doubled)) := fun base XB GB => ⟨PySem.W.mg_of X G a_doubled, k_doubled, b_doubled, ok_doubled F_doubled T (H__tiles base XB GB)⟩
  have H_exchanged : ∀ base : Heap, K.In base → base.Ns mainGlobals mg → Fn K mg l.prog w base CX0 "exchanged" 2 f_exchanged _ ["m", "p"] (spN ⟨K, fun _ => none⟩ false 2 (defF false 5 Sb.F_exchanged)) := fun base XB GB => ⟨PySem.W.mg_of X G a_exchanged, k_exchanged, b_exchanged, ok_exchanged F_exchanged T (H__tiles base XB GB)⟩
  have H_led : ∀ base : Heap, K.In base → base.Ns mainGlobals mg → Fn K mg l.prog w base CX0 "led" 3 f_led _ ["m", "p", "q"] (spN ⟨K, fun _ => none⟩ false 3 (defF false 6 Sb.F_led)) := fun base XB GB => ⟨PySem.W.mg_of X G a_led, k_led, b_led, ok_led F_led T (H_exchanged base XB GB)⟩
  have H_made_at : ∀ base : Heap, K.In base → base.Ns mainGlobals mg → Fn K mg l.prog w base CX0 "made_at" 2 f_made_at _ ["m", "p", "kind"] (spN ⟨K, fun _ => none⟩ false 3 (defF false 4 Sb.F_made_at)) := fun base XB GB => ⟨PySem.W.mg_of X G a_made_at, k_made_at, b_made_at, ok_made_at F_made_at T (H__tiles base XB GB)⟩
  have H__law_pen : ∀ base : Heap, K.In base → base.Ns mainGlobals mg → Fn K mg l.prog w base CX0 "_law_pen" 1 f__law_pen _ ["_law_script"] (Fw.spPen K) := fun base XB GB => ⟨PySem.W.mg_of X G a__law_pen, k__law_pen, b__law_pen, ok_pen F__law_pen T⟩
  have H__law_draw : ∀ base : Heap, K.In base → base.Ns mainGlobals mg → Fn K mg l.prog w base CX0 "_law_draw" 1 f__law_draw _ ["_law_pen_here", "_law_many"] (spN ⟨K, fun _ => none⟩ true 1 drawF) := fun base XB GB => ⟨PySem.W.mg_of X G a__law_draw, k__law_draw, b__law_draw, ok__law_draw F__law_draw T⟩
  have H__law_pick : ∀ base : Heap, K.In base → base.Ns mainGlobals mg → Fn K mg l.prog w base CX0 "_law_pick" 2 f__law_pick _ ["_law_pen_here", "_law_some"] (spN ⟨K, fun _ => none⟩ true 1 (defF true 2 Sb.F__law_pick)) := fun base XB GB => ⟨PySem.W.mg_of X G a__law_pick, k__law_pick, b__law_pick, ok__law_pick F__law_pick T (H__law_draw base XB GB)⟩
  have H__law_is_whole : ∀ base : Heap, K.In base → base.Ns mainGlobals mg → Fn K mg l.prog w base CX0 "_law_is_whole" 1 f__law_is_whole _ ["_law_thing"] (spN ⟨K, fun _ => none⟩ false 1 (defF false 1 Sb.F__law_is_whole)) := fun base XB GB => ⟨PySem.W.mg_of X G a__law_is_whole, k__law_is_whole, b__law_is_whole, ok__law_is_whole F__law_is_whole T⟩
  have H__law_gate : ∀ base : Heap, K.In base → base.Ns mainGlobals mg → Fn K mg l.prog w base CX0 "_law_gate" 1 f__law_gate _ ["_law_gate_here", "_law_values"] (spN ⟨K, fun _ => none⟩ false 2 (defF false 4 Sb.F__law_gate)) := fun base XB GB => ⟨PySem.W.mg_of X G a__law_gate, k__law_gate, b__law_gate, ok__law_gate F__law_gate T⟩
  have H__law_bit_rows : ∀ base : Heap, K.In base → base.Ns mainGlobals mg → Fn K mg l.prog w base CX0 "_law_bit_rows" 1 f__law_bit_rows _ ["_law_many"] (spN ⟨K, fun _ => none⟩ false 1 (defF false 5 Sb.F__law_bit_rows)) := fun base XB GB => ⟨PySem.W.mg_of X G a__law_bit_rows, k__law_bit_rows, b__law_bit_rows, ok__law_bit_rows F__law_bit_rows T⟩
  have H__law_rows_of : ∀ base : Heap, K.In base → base.Ns mainGlobals mg → Fn K mg l.prog w base CX0 "_law_rows_of" 1 f__law_rows_of _ ["_law_tile"] (spN ⟨K, fun _ => none⟩ false 1 (defF false 3 Sb.F__law_rows_of)) := fun base XB GB => ⟨PySem.W.mg_of X G a__law_rows_of, k__law_rows_of, b__law_rows_of, ok__law_rows_of F__law_rows_of T⟩
  have H__law_stage_behind : ∀ base : Heap, K.In base → base.Ns mainGlobals mg → Fn K mg l.prog w base CX0 "_law_stage_behind" 2 f__law_stage_behind _ ["_law_tiles", "_law_bits"] (spN ⟨K, fun _ => none⟩ false 2 (defF false 5 Sb.F__law_stage_behind)) := fun base XB GB => ⟨PySem.W.mg_of X G a__law_stage_behind, k__law_stage_behind, b__law_stage_behind, ok__law_stage_behind F__law_stage_behind T (H__law_gate base XB GB)⟩
  have H__law_passed : ∀ base : Heap, K.In base → base.Ns mainGlobals mg → Fn K mg l.prog w base CX0 "_law_passed" 3 f__law_passed _ ["_law_stages", "_law_bits"] (spN ⟨K, fun _ => none⟩ false 2 (defF false 3 Sb.F__law_passed)) := fun base XB GB => ⟨PySem.W.mg_of X G a__law_passed, k__law_passed, b__law_passed, ok__law_passed F__law_passed T (H__law_stage_behind base XB GB)⟩
  have H__law_are_stages : ∀ base : Heap, K.In base → base.Ns mainGlobals mg → Fn K mg l.prog w base CX0 "_law_are_stages" 2 f__law_are_stages _ ["_law_value", "_law_rows"] (spN ⟨K, fun _ => none⟩ false 2 (defF false 6 Sb.F__law_are_stages)) := fun base XB GB => ⟨PySem.W.mg_of X G a__law_are_stages, k__law_are_stages, b__law_are_stages, ok__law_are_stages F__law_are_stages T (H__law_is_whole base XB GB) (H__law_rows_of base XB GB)⟩
  have H__law_slot_bits : ∀ base : Heap, K.In base → base.Ns mainGlobals mg → Fn K mg l.prog w base CX0 "_law_slot_bits" 1 f__law_slot_bits _ ["_law_rows", "_law_bits"] (spN ⟨K, fun _ => none⟩ false 2 (defF false 4 Sb.F__law_slot_bits)) := fun base XB GB => ⟨PySem.W.mg_of X G a__law_slot_bits, k__law_slot_bits, b__law_slot_bits, ok__law_slot_bits F__law_slot_bits T⟩
  have H__law_own_exchanged : ∀ base : Heap, K.In base → base.Ns mainGlobals mg → Fn K mg l.prog w base CX0 "_law_own_exchanged" 1 f__law_own_exchanged _ ["_law_m", "_law_p"] (spN ⟨K, fun _ => none⟩ false 2 (defF false 8 Sb.F__law_own_exchanged)) := fun base XB GB => ⟨PySem.W.mg_of X G a__law_own_exchanged, k__law_own_exchanged, b__law_own_exchanged, ok__law_own_exchanged F__law_own_exchanged T⟩
  have H__law_doubled_stages : ∀ base : Heap, K.In base → base.Ns mainGlobals mg → Fn K mg l.prog w base CX0 "_law_doubled_stages" 1 f__law_doubled_stages _ ["_law_m", "_law_p"] (spN ⟨K, fun _ => none⟩ false 2 (defF false 5 Sb.F__law_doubled_stages)) := fun base XB GB => ⟨PySem.W.mg_of X G a__law_doubled_stages, k__law_doubled_stages, b__law_doubled_stages, ok__law_doubled_stages F__law_doubled_stages T⟩
  have H__law_made_stages : ∀ base : Heap, K.In base → base.Ns mainGlobals mg → Fn K mg l.prog w base CX0 "_law_made_stages" 1 f__law_made_stages _ ["_law_m", "_law_p", "_law_kind"] (spN ⟨K, fun _ => none⟩ false 3 (defF false 6 Sb.F__law_made_stages)) := fun base XB GB => ⟨PySem.W.mg_of X G a__law_made_stages, k__law_made_stages, b__law_made_stages, ok__law_made_stages F__law_made_stages T⟩
  have H__law_led_stages : ∀ base : Heap, K.In base → base.Ns mainGlobals mg → Fn K mg l.prog w base CX0 "_law_led_stages" 2 f__law_led_stages _ ["_law_m", "_law_p", "_law_q"] (spN ⟨K, fun _ => none⟩ false 3 (defF false 5 Sb.F__law_led_stages)) := fun base XB GB => ⟨PySem.W.mg_of X G a__law_led_stages, k__law_led_stages, b__law_led_stages, ok__law_led_stages F__law_led_stages T (H__law_own_exchanged base XB GB)⟩
  have H__law_leads : ∀ base : Heap, K.In base → base.Ns mainGlobals mg → Fn K mg l.prog w base CX0 "_law_leads" 4 f__law_leads _ ["_law_stages", "_law_rows", "_law_ahead", "_law_behind"] (spN ⟨K, fun _ => none⟩ false 4 (defF false 4 Sb.F__law_leads)) := fun base XB GB => ⟨PySem.W.mg_of X G a__law_leads, k__law_leads, b__law_leads, ok__law_leads F__law_leads T (H__law_passed base XB GB) (H__law_slot_bits base XB GB)⟩
  exact ⟨PySem.W.fnOf "law" "law" (defArgs (top 23)) (defBody (top 23)) (defScope (top 23)) .none kV_law dc_law pm_law an_law cd_law ct_law, fun s v => .of_eq rfl, fun base XB GB => ok_law (XC := fun _ => none) F_law T (H__law_pen base XB GB) (H__law_draw base XB GB) (H__law_pick base XB GB) (H_doubled base XB GB) (H_exchanged base XB GB) (H_led base XB GB) (H_made_at base XB GB) (H__law_doubled_stages base XB GB) (H__law_own_exchanged base XB GB) (H__law_led_stages base XB GB) (H__law_made_stages base XB GB) (H__law_are_stages base XB GB) (H__law_bit_rows base XB GB) (H__law_leads base XB GB) (H__law_gate base XB GB) law_holds⟩
theorem walk {l : PySem.W.OpenLaw} {q : Program} {loose : List Str} {XP : (Str → Option Value) → Heap → Prop} {YP : World → Heap → Prop} {d : DefRec} {K : Params → PySem.W.Frag} (hn : l.most = some 63) (hdf : d.params.defaults = [])
    (hY : ∀ (w : World) (h : Heap), YP w h → (K w.params).In h)
    (F : ∀ (w : World) (mg : Str → Option Value) (fa : Addr) (h : Heap), (K w.params).In h → h.Ns mainGlobals mg → mg d.name = some (.ref fa) →
      ∃ fd : FuncData, (∀ (s : Shared) (u : Value), BindsTo s fd ⟨[u], []⟩ [("_law_script", u)]) ∧ ∀ base : Heap, (K w.params).In base → base.Ns mainGlobals mg → FnOk l.prog w (K w.params) mg base CX0 5 fa fd ["_law_script"] (Fw.spLaw (K w.params))) :
    PySem.W.WalkO q loose XP YP l.row.toRowW d [] (fun f vs => PySem.call f vs) :=
  L2.walk_of (n := 63) (k := 5) (x := "_law_script") (CX := fun _ => CX0) (sp := fun w => Fw.spLaw (K w.params)) hn (by decide) hdf ⟨rfl, by decide, by decide⟩ hY F (fun _ _ a ns hl _ hS => ⟨a, ns, rfl, hS, hl, fun _ => rfl⟩) fun _ _ _ _ _ z => z
end Sb
open PySem PySem.W PyProof.Rows
set_option maxRecDepth 100000 in
set_option maxHeartbeats 0 in
theorem PySem.Challenge.cw_sparkboard_k21_whole_exchanges_and_copie_holds : PySem.Challenge.rw_sparkboard_k21_whole_exchanges_and_copie.Holds := by
  w_on; o_law; k_head; (case hw => w_witness2)
  k_fill
  refine Sb.walk (l := PySem.Challenge.rw_sparkboard_k21_whole_exchanges_and_copie) rfl rfl (fun w h Y => PySem.W.kIn_of Y) ?F
  case F =>
    intro w mg fa h KX G hmg
    refine' Sb.all_mk KX G hmg ?a__tiles ?l__tiles ?c__tiles ?k__tiles ?a_doubled ?l_doubled ?c_doubled ?k_doubled ?a_exchanged ?l_exchanged ?c_exchanged ?k_exchanged ?a_led ?l_led ?c_led ?k_led ?a_made_at ?l_made_at ?c_made_at ?k_made_at ?a__law_pen ?l__law_pen ?c__law_pen ?k__law_pen ?a__law_draw ?l__law_draw ?c__law_draw ?k__law_draw ?a__law_pick ?l__law_pick ?c__law_pick ?k__law_pick ?a__law_is_whole ?l__law_is_whole ?c__law_is_whole ?k__law_is_whole ?a__law_gate ?l__law_gate ?c__law_gate ?k__law_gate ?a__law_bit_rows ?l__law_bit_rows ?c__law_bit_rows ?k__law_bit_rows ?a__law_rows_of ?l__law_rows_of ?c__law_rows_of ?k__law_rows_of ?a__law_stage_behind ?l__law_stage_behind ?c__law_stage_behind ?k__law_stage_behind ?a__law_passed ?l__law_passed ?c__law_passed ?k__law_passed ?a__law_are_stages ?l__law_are_stages ?c__law_are_stages ?k__law_are_stages ?a__law_slot_bits ?l__law_slot_bits ?c__law_slot_bits ?k__law_slot_bits ?a__law_own_exchanged ?l__law_own_exchanged ?c__law_own_exchanged ?k__law_own_exchanged ?a__law_doubled_stages ?l__law_doubled_stages ?c__law_doubled_stages ?k__law_doubled_stages ?a__law_made_stages ?l__law_made_stages ?c__law_made_stages ?k__law_made_stages ?a__law_led_stages ?l__law_led_stages ?c__law_led_stages ?k__law_led_stages ?a__law_leads ?l__law_leads ?c__law_leads ?k__law_leads ?a_law ?l_law ?c_law ?k_law ?z_isinstance ?z_int ?z_bool ?z_str ?z_tuple ?z_list ?z_dict ?z_set ?z_len ?z_all ?z_any ?z_enumerate ?z_zip ?z_range ?z_sorted ?z_max ?z_min ?z_abs ?z_repr ?z_reversed
    (case a__tiles => k_is)
    (case l__tiles => k_is)
    (case c__tiles => k_is)
    (case k__tiles => k_is)
    (case a_doubled => k_is)
    (case l_doubled => k_is)
    (case c_doubled => k_is)
    (case k_doubled => k_is)
    (case a_exchanged => k_is)
    (case l_exchanged => k_is)
    (case c_exchanged => k_is)
    (case k_exchanged => k_is)
    (case a_led => k_is)
    (case l_led => k_is)
    (case c_led => k_is)
    (case k_led => k_is)
    (case a_made_at => k_is)
    (case l_made_at => k_is)
    (case c_made_at => k_is)
    (case k_made_at => k_is)
    (case a__law_pen => k_is)
    (case l__law_pen => k_is)
    (case c__law_pen => k_is)
    (case k__law_pen => k_is)
    (case a__law_draw => k_is)
    (case l__law_draw => k_is)
    (case c__law_draw => k_is)
    (case k__law_draw => k_is)
    (case a__law_pick => k_is)
    (case l__law_pick => k_is)
    (case c__law_pick => k_is)
    (case k__law_pick => k_is)
    (case a__law_is_whole => k_is)
    (case l__law_is_whole => k_is)
    (case c__law_is_whole => k_is)
    (case k__law_is_whole => k_is)
    (case a__law_gate => k_is)
    (case l__law_gate => k_is)
    (case c__law_gate => k_is)
    (case k__law_gate => k_is)
    (case a__law_bit_rows => k_is)
    (case l__law_bit_rows => k_is)
    (case c__law_bit_rows => k_is)
    (case k__law_bit_rows => k_is)
    (case a__law_rows_of => k_is)
    (case l__law_rows_of => k_is)
    (case c__law_rows_of => k_is)
    (case k__law_rows_of => k_is)
    (case a__law_stage_behind => k_is)
    (case l__law_stage_behind => k_is)
    (case c__law_stage_behind => k_is)
    (case k__law_stage_behind => k_is)
    (case a__law_passed => k_is)
    (case l__law_passed => k_is)
    (case c__law_passed => k_is)
    (case k__law_passed => k_is)
    (case a__law_are_stages => k_is)
    (case l__law_are_stages => k_is)
    (case c__law_are_stages => k_is)
    (case k__law_are_stages => k_is)
    (case a__law_slot_bits => k_is)
    (case l__law_slot_bits => k_is)
    (case c__law_slot_bits => k_is)
    (case k__law_slot_bits => k_is)
    (case a__law_own_exchanged => k_is)
    (case l__law_own_exchanged => k_is)
    (case c__law_own_exchanged => k_is)
    (case k__law_own_exchanged => k_is)
    (case a__law_doubled_stages => k_is)
    (case l__law_doubled_stages => k_is)
    (case c__law_doubled_stages => k_is)
    (case k__law_doubled_stages => k_is)
    (case a__law_made_stages => k_is)
    (case l__law_made_stages => k_is)
    (case c__law_made_stages => k_is)
    (case k__law_made_stages => k_is)
    (case a__law_led_stages => k_is)
    (case l__law_led_stages => k_is)
    (case c__law_led_stages => k_is)
    (case k__law_led_stages => k_is)
    (case a__law_leads => k_is)
    (case l__law_leads => k_is)
    (case c__law_leads => k_is)
    (case k__law_leads => k_is)
    (case a_law => k_is)
    (case l_law => k_is)
    (case c_law => k_is)
    (case k_law => k_is)
    (case z_isinstance => k_is)
    (case z_int => k_is)
    (case z_bool => k_is)
    (case z_str => k_is)
    (case z_tuple => k_is)
    (case z_list => k_is)
    (case z_dict => k_is)
    (case z_set => k_is)
    (case z_len => k_is)
    (case z_all => k_is)
    (case z_any => k_is)
    (case z_enumerate => k_is)
    (case z_zip => k_is)
    (case z_range => k_is)
    (case z_sorted => k_is)
    (case z_max => k_is)
    (case z_min => k_is)
    (case z_abs => k_is)
    (case z_repr => k_is)
    (case z_reversed => k_is)
