import PyProof.Rows.All
import Wide.All
import OpenK.AllK
import Wide.FinOn
import HandS.ForMost
import HandS.Codes
import HandS.IsInst
import HandS.Style
import HandS.More
import KE.GoesMore
import HandS.Defaults
import HandS.SlotsOwn
import HandS.OwnEq
import PyProof.AutoSeq1
import HandS.TupAny
import PyProof.ReprLen
import PyProof.ReprRoads
import HandS.Ends
import HandS.Words
import PySem.Challenge.RW_sparkboard_k11_whole_cycles_and_runs
set_option Elab.async false
set_option linter.all false
set_option maxRecDepth 100000
set_option maxHeartbeats 4000000
namespace Sb
open PySem PySem.Spec PyProof.Rows L2
/-! ### values as data: None, bools, ints, texts, tuples and lists of such; a dict is told as a dict alone -/
mutual
inductive Da (H : Hp) : V → PyData → Prop
  | non : Da H .non .none
  | bl (b : Bool) : Da H (.bl b) (.bool b)
  | int (i : Int) : Da H (.int i) (.int i)
  | str (x : Str) : Da H (.str x) (.str x)
  | lst {a : Addr} {xs : List V} {ds : List PyData} : H a = some (.lst xs) → Das H xs ds → Da H (.ref a) (.list ds)
  | tup {a : Addr} {xs : List V} {ds : List PyData} : H a = some (.tup xs) → Das H xs ds → Da H (.ref a) (.tuple ds)
inductive Das (H : Hp) : List V → List PyData → Prop
  | nil : Das H [] []
  | cons {v : V} {vs : List V} {d : PyData} {ds : List PyData} : Da H v d → Das H vs ds → Das H (v :: vs) (d :: ds)
end
/-- lists and tuples stand -/
structure Kp (H H' : Hp) : Prop where
  t : ∀ a xs, H a = some (.tup xs) → H' a = some (.tup xs)
  l : ∀ a xs, H a = some (.lst xs) → H' a = some (.lst xs)
theorem Kp.of {H H' : Hp} (s : Same H H') : Kp H H' := ⟨fun a xs h => s a _ h, fun a xs h => s a _ h⟩
theorem Kp.trans {H H1 H2 : Hp} (a : Kp H H1) (b : Kp H1 H2) : Kp H H2 := ⟨fun c xs h => b.t c xs (a.t c xs h), fun c xs h => b.l c xs (a.l c xs h)⟩
mutual
theorem Da.kp {H H' : Hp} (k : Kp H H') : ∀ (d : PyData) (v : V), Da H v d → Da H' v d
  | .none, _, h => by cases h; exact .non
  | .bool b, _, h => by cases h; exact .bl b
  | .int i, _, h => by cases h; exact .int i
  | .str x, _, h => by cases h; exact .str x
  | .list ds, _, h => by
    cases h with
    | lst ha hs => exact .lst (k.l _ _ ha) (Das.kp k ds _ hs)
  | .tuple ds, _, h => by
    cases h with
    | tup ha hs => exact .tup (k.t _ _ ha) (Das.kp k ds _ hs)
  | .dict _, _, h => by cases h
theorem Das.kp {H H' : Hp} (k : Kp H H') : ∀ (ds : List PyData) (vs : List V), Das H vs ds → Das H' vs ds
  | [], _, h => by cases h; exact .nil
  | d :: ds, _, h => by
    cases h with
    | cons h1 h2 => exact .cons (Da.kp k d _ h1) (Das.kp k ds _ h2)
end
theorem Da.same {H H' : Hp} (s : Same H H') {d : PyData} {v : V} (h : Da H v d) : Da H' v d := Da.kp (.of s) d v h
theorem Das.same {H H' : Hp} (s : Same H H') {d : List PyData} {v : List V} (h : Das H v d) : Das H' v d := Das.kp (.of s) d v h
theorem Das.length {H : Hp} : ∀ {vs : List V} {ds : List PyData}, Das H vs ds → vs.length = ds.length
  | _, _, .nil => rfl
  | _, _, .cons _ t => congrArg (· + 1) t.length
theorem Das.get {H : Hp} : ∀ {vs : List V} {ds : List PyData} {i : Nat} {x : V}, Das H vs ds → vs[i]? = some x → ∃ d, ds[i]? = some d ∧ Da H x d
  | _, _, 0, _, .cons h _, e => by cases e; exact ⟨_, rfl, h⟩
  | _, _, i + 1, x, .cons _ t, e => Das.get (i := i) t (by simpa using e)
  | _, _, 0, _, .nil, e => by cases e
  | _, _, i + 1, _, .nil, e => by cases e
theorem Das.at {H : Hp} : ∀ {vs : List V} {ds : List PyData} {i : Nat} {d : PyData}, Das H vs ds → ds[i]? = some d → ∃ x, vs[i]? = some x ∧ Da H x d
  | _, _, 0, _, .cons h _, e => by cases e; exact ⟨_, rfl, h⟩
  | _, _, i + 1, d, .cons _ t, e => Das.at (i := i) t (by simpa using e)
  | _, _, 0, _, .nil, e => by cases e
  | _, _, i + 1, _, .nil, e => by cases e
theorem Das.app {H : Hp} : ∀ {vs us : List V} {ds es : List PyData}, Das H vs ds → Das H us es → Das H (vs ++ us) (ds ++ es)
  | _, _, _, _, .nil, h => h
  | _, _, _, _, .cons h t, u => .cons h (t.app u)
theorem Das.one {H : Hp} {v : V} {d : PyData} (h : Da H v d) : Das H [v] [d] := .cons h .nil
theorem Das.take {H : Hp} : ∀ {vs : List V} {ds : List PyData} (n : Nat), Das H vs ds → Das H (vs.take n) (ds.take n)
  | _, _, 0, _ => .nil
  | _, _, _ + 1, .nil => .nil
  | _, _, n + 1, .cons h t => .cons h (Das.take n t)
theorem Das.drop {H : Hp} : ∀ {vs : List V} {ds : List PyData} (n : Nat), Das H vs ds → Das H (vs.drop n) (ds.drop n)
  | _, _, 0, h => h
  | _, _, _ + 1, .nil => .nil
  | _, _, n + 1, .cons _ t => Das.drop n t
/-- the same, or a dict -/
def Dx (H : Hp) (v : V) (d : PyData) : Prop := Da H v d ∨ ∃ a kvs, v = .ref a ∧ H a = some (.dK kvs) ∧ d = .dict []
theorem Dx.same {H H' : Hp} (s : Same H H') {d : PyData} {v : V} (h : Dx H v d) : Dx H' v d := by
  rcases h with h | ⟨a, kvs, e, h, e2⟩
  · exact .inl (h.same s)
  · exact .inr ⟨a, kvs, e, s _ _ h, e2⟩
def tyN : PyData → String
  | .none => "NoneType"
  | .bool _ => "bool"
  | .int _ => "int"
  | .str _ => "str"
  | .list _ => "list"
  | .tuple _ => "tuple"
  | .dict _ => "dict"
theorem Dx.ty {K : PySem.W.Frag} {H : Hp} {v : V} {d : PyData} (h : Dx H v d) : TyX K H v (.type (tyN d)) := by
  rcases h with h | ⟨a, kvs, rfl, h, rfl⟩
  · cases h with
    | non => exact .base .non
    | bl b => exact .base (.bl b)
    | int i => exact .base (.int i)
    | str x => exact .base (.str x)
    | lst h _ => exact .base (.lst h)
    | tup h _ => exact .base (.tup h)
  · exact .base (.dK h)
theorem isi_d {K : PySem.W.Frag} {H : Hp} {v : V} {d : PyData} {T : String} {b : Bool} {Q : VK} (h : Dx H v d) (e : kitB (tyN d) T = some b) (q : Q (.bl b) H) : rIsi K [v, .ty T] H Q :=
  ⟨v, .ty T, _, _, b, rfl, .ty T, h.ty, kit_ty e, q⟩
theorem isi2_d {K : PySem.W.Frag} {H : Hp} {v : V} {d : PyData} {tp : Addr} {S T : String} {a b : Bool} {Q : VK} (h : Dx H v d) (ht : H tp = some (.tup [.ty S, .ty T])) (e : kitB (tyN d) S = some a) (f : kitB (tyN d) T = some b) (q : Q (.bl (a || b)) H) : rIsiT K [v, .ref tp] H Q := by
  refine ⟨v, tp, [.ty S, .ty T], _, [.type S, .type T], a || b, rfl, ht, .cons (.ty S) (.cons (.ty T) .nil), h.ty, ?_, q⟩
  exact kitAny_cons (kit_ty e) (fun z => kitAny_cons (kit_ty f) (fun z2 => by rw [z, z2]; rfl) (fun z2 => by rw [z, z2]; rfl)) (fun z => by rw [z, Bool.true_or])
/-! ### what the program asks of data -/
def isInt : PyData → Bool
  | .int _ => true
  | _ => false
def isBelow (n : Int) : PyData → Bool
  | .int i => decide (0 ≤ i ∧ i < n)
  | _ => false
def isFrom (n : Int) : PyData → Bool
  | .int i => decide (n ≤ i)
  | _ => false
def rowOf : PyData → Option (List PyData)
  | .list xs => some xs
  | .tuple xs => some xs
  | _ => none
def isBits (n : Int) (d : PyData) : Bool := match rowOf d with
  | some xs => decide ((xs.length : Int) = n) && xs.all (isBelow 2)
  | none => false
def isBitRows (n : Int) (d : PyData) : Bool := match rowOf d with
  | some xs => xs.all (isBits n)
  | none => false
def areSignals (n : Int) (d : PyData) : Bool := match rowOf d with
  | some xs => xs.all (isBelow n)
  | none => false
end Sb
namespace Sb
open PySem PySem.Spec PyProof.Rows L2
structure Fn (K : PySem.W.Frag) (mg : Str → Option Value) (P : Program) (w : World) (base : Heap) (CX : CXT) (x : Str) (lv : Nat) (f : Addr) (fd : FuncData) (ps : List Str) (sp : Sp) : Prop where
  g : mg x = some (.ref f)
  k : PySem.W.keepIn K (.ref f) = true
  b : Binds K fd ps []
  G : FnOk P w K mg base CX lv f fd ps sp
theorem at_sig {G : L2.St → Hp → Prop} {σ σ' : L2.St} {H : Hp} (e : σ = σ') (h : G σ' H) : G σ H := e ▸ h
theorem same_upd {H : Hp} {p : Addr} {o : HO} (h : H p = none) : Same H (upd H p o) := fun b x e => by
  rw [upd_ne (ne_of_none e h)]
  exact e
theorem same_mut {H H' : Hp} {p : Addr} {o : HO} (s : Same H H') (h : H p = none) : Same H (upd H' p o) := fun b u e => by
  rw [upd_ne (ne_of_none e h)]
  exact s b u e
theorem with_new {H : Hp} {p : Addr} {o : HO} {G : Hp → Prop} (hp : H p = none) (k : ∀ H', Same H H' → H' p = some o → G H') : G (upd H p o) := k _ (same_upd hp) upd_same
end Sb
namespace Sb
open PySem PySem.Spec PyProof.Rows L2
/-! ### data without lists stands whatever is written -/
def Tp (H H' : Hp) : Prop := ∀ a xs, H a = some (.tup xs) → H' a = some (.tup xs)
theorem Tp.of {H H' : Hp} (s : Same H H') : Tp H H' := fun a xs h => s a _ h
theorem Tp.trans {H H1 H2 : Hp} (a : Tp H H1) (b : Tp H1 H2) : Tp H H2 := fun c xs h => b c xs (a c xs h)
theorem Tp.lst {H : Hp} {D : Addr} {xs ys : List V} (h : H D = some (.lst xs)) : Tp H (upd H D (.lst ys)) := fun a zs e => by
  rw [upd_ne (ne_of e h (by intro z; cases z))]
  exact e
mutual
def still : PyData → Bool
  | .list _ => false
  | .dict _ => false
  | .tuple xs => stills xs
  | _ => true
def stills : List PyData → Bool
  | [] => true
  | x :: xs => still x && stills xs
end
mutual
theorem Da.tp {H H' : Hp} (k : Tp H H') : ∀ (d : PyData) (v : V), still d = true → Da H v d → Da H' v d
  | .none, _, _, h => by cases h; exact .non
  | .bool b, _, _, h => by cases h; exact .bl b
  | .int i, _, _, h => by cases h; exact .int i
  | .str x, _, _, h => by cases h; exact .str x
  | .list ds, _, e, _ => by cases e
  | .tuple ds, _, e, h => by
    cases h with
    | tup ha hs => exact .tup (k _ _ ha) (Das.tp k ds _ e hs)
  | .dict _, _, _, h => by cases h
theorem Das.tp {H H' : Hp} (k : Tp H H') : ∀ (ds : List PyData) (vs : List V), stills ds = true → Das H vs ds → Das H' vs ds
  | [], _, _, h => by cases h; exact .nil
  | d :: ds, _, e, h => by
    have e : (still d && stills ds) = true := e
    obtain ⟨e1, e2⟩ := Bool.and_eq_true_iff.mp e
    cases h with
    | cons h1 h2 => exact .cons (Da.tp k d _ e1 h1) (Das.tp k ds _ e2 h2)
end
/-! ### a comprehension over a row, one name, no test: what each turn gives -/
section
variable {K : PySem.W.Frag} {a : Addr} {xs : List V} {tl te : TE} {j : Nat} {vs : List Nat} {σ : L2.St} {H1 : Hp} {Q : VK} {R : Nat → V → Hp → Prop}
/-- so far -/
def Cw (H1 : Hp) (R : Nat → V → Hp → Prop) (D : Addr) (k : Nat) (H : Hp) : Prop := Same H1 H ∧ ∃ ys, H D = some (.lst ys) ∧ ys.length = k ∧ ∀ i y, ys[i]? = some y → R i y H
/-- behind it -/
def Made (H1 : Hp) (R : Nat → V → Hp → Prop) (n : Nat) (Q : VK) : Prop := ∀ D H2 ys, H1 D = none → Same H1 H2 → H2 D = some (.lst ys) → ys.length = n → (∀ i y, ys[i]? = some y → R i y H2) → Q (.ref D) H2
theorem comp_turn {D : Addr} {k : Nat} {x : V} {H2 : Hp} (mono : ∀ k v H H', R k v H → Tp H H' → R k v H') (hz : k < 100000) (hD : H1 D = none)
    (hte : ∀ H2, Same H1 H2 → ∀ Q : VK, (∀ y H3, Same H2 H3 → R k y H3 → Q y H3) → te ((wipe σ vs).set j (some x)) H2 Q)
    (hw : wipe ((wipe σ vs).set j (some x)) vs = wipe σ vs) (p : Cw H1 R D k H2) :
    wipe ((wipe σ vs).set j (some x)) vs = wipe σ vs ∧ tYes ((wipe σ vs).set j (some x)) H2 fun b H3 => if b = true then te ((wipe σ vs).set j (some x)) H3 fun y H4 => ∃ acc, H4 D = some (.lst acc) ∧ acc.length < sizeLine ∧ Cw H1 R D (k + 1) (upd H4 D (.lst (acc ++ [y]))) else Cw H1 R D (k + 1) H3 := by
  obtain ⟨s2, ys, e2, el, hR⟩ := p
  refine ⟨hw, ?_⟩
  show te ((wipe σ vs).set j (some x)) H2 fun y H4 => ∃ acc, H4 D = some (.lst acc) ∧ acc.length < sizeLine ∧ Cw H1 R D (k + 1) (upd H4 D (.lst (acc ++ [y])))
  refine hte H2 s2 _ fun y H3 s3 hy => ⟨ys, s3 _ _ e2, ?_, same_mut (s2.trans s3) hD, ys ++ [y], upd_same, by rw [List.length_append, el]; rfl, fun i y' hi => ?_⟩
  · exact Nat.lt_of_lt_of_le (by omega : ys.length < 100000) (by decide)
  · have tp : Tp H3 (upd H3 D (.lst (ys ++ [y]))) := Tp.lst (s3 _ _ e2)
    by_cases c : i < ys.length
    · rw [List.getElem?_append_left c] at hi
      exact mono _ _ _ _ (mono _ _ _ _ (hR i y' hi) (Tp.of s3)) tp
    · rw [List.getElem?_append_right (by omega)] at hi
      have c2 : i - ys.length = 0 := by
        cases q : i - ys.length with
        | zero => rfl
        | succ m => rw [q] at hi; cases hi
      rw [c2] at hi
      cases hi
      have c3 : i = k := by omega
      rw [c3]
      exact mono _ _ _ _ hy tp
theorem comp_l (mono : ∀ k v H H', R k v H → Tp H H' → R k v H') (htl : ∀ Q : VK, Q (.ref a) H1 → tl σ H1 Q) (hx : SqL K H1 a xs) (hz : xs.length ≤ 100000)
    (hw : ∀ x, wipe ((wipe σ vs).set j (some x)) vs = wipe σ vs)
    (hte : ∀ k x, xs[k]? = some x → ∀ H2, Same H1 H2 → ∀ Q : VK, (∀ y H3, Same H2 H3 → R k y H3 → Q y H3) → te ((wipe σ vs).set j (some x)) H2 Q)
    (q : Made H1 R xs.length Q) : tLc (iList K tl) (gName j) tYes te vs σ H1 Q := by
  refine htl _ ⟨a, rfl, ⟨xs, hx⟩, fun D hD => lc_list (K := K) (a := a) (xs := xs) (Cw H1 R D) ⟨same_upd hD, [], upd_same, rfl, fun i y h => by cases h⟩ (fun k H2 _ hh => hh.1.seq hx) (fun k x H2 hk p => ?_) (fun H2 p => ?_)⟩
  · exact comp_turn mono (by have := (List.getElem?_eq_some_iff.mp hk).1; omega) hD (hte k x hk) (hw x) p
  · obtain ⟨s, ys, e, el, hR⟩ := p
    exact q D H2 ys hD s e el hR
theorem Same.sqt {K : PySem.W.Frag} {H H' : Hp} {a : Addr} {xs : List V} (e : Same H H') (h : SqT K H a xs) : SqT K H' a xs := by
  rcases h with (h | ⟨o, h⟩) | h
  · exact .inl (.inl (e _ _ h))
  · exact .inl (.inr ⟨o, e _ _ h⟩)
  · exact .inr h
theorem comp_t (mono : ∀ k v H H', R k v H → Tp H H' → R k v H') (htl : ∀ Q : VK, Q (.ref a) H1 → tl σ H1 Q) (hx : SqT K H1 a xs) (hz : xs.length ≤ 100000)
    (hw : ∀ x, wipe ((wipe σ vs).set j (some x)) vs = wipe σ vs)
    (hte : ∀ k x, xs[k]? = some x → ∀ H2, Same H1 H2 → ∀ Q : VK, (∀ y H3, Same H2 H3 → R k y H3 → Q y H3) → te ((wipe σ vs).set j (some x)) H2 Q)
    (q : Made H1 R xs.length Q) : tLc (iTup K tl) (gName j) tYes te vs σ H1 Q := by
  refine htl _ ⟨a, rfl, ⟨xs, hx⟩, fun D hD => lc_tup (K := K) (a := a) (xs := xs) (Cw H1 R D) ⟨same_upd hD, [], upd_same, rfl, fun i y h => by cases h⟩ (fun k H2 _ hh => Same.sqt hh.1 hx) (fun k x H2 hk p => ?_) (fun H2 p => ?_)⟩
  · exact comp_turn mono (by have := (List.getElem?_eq_some_iff.mp hk).1; omega) hD (hte k x hk) (hw x) p
  · obtain ⟨s, ys, e, el, hR⟩ := p
    exact q D H2 ys hD s e el hR
/-- turns that give what hangs on their number alone -/
theorem made_is {g : Nat → V} {n : Nat} (q : ∀ D H2, H1 D = none → Same H1 H2 → H2 D = some (.lst ((List.range n).map g)) → Q (.ref D) H2) : Made H1 (fun k v _ => v = g k) n Q := by
  intro D H2 ys hD s e el hR
  have : ys = (List.range n).map g := by
    apply List.ext_getElem?
    intro i
    by_cases c : i < n
    · rw [List.getElem?_map, List.getElem?_range c, List.getElem?_eq_getElem (by omega)]
      exact congrArg some (hR i _ (List.getElem?_eq_getElem (by omega)))
    · rw [List.getElem?_eq_none (by omega), List.getElem?_eq_none (by rw [List.length_map, List.length_range]; omega)]
  rw [this] at e
  exact q D H2 hD s e
theorem range_get {α β : Type} {ds : List α} {f : α → β} {d0 : α} : (List.range ds.length).map (fun k => f (ds.getD k d0)) = ds.map f := by
  apply List.ext_getElem?
  intro i
  by_cases c : i < ds.length
  · rw [List.getElem?_map, List.getElem?_range c, List.getElem?_map, List.getElem?_eq_getElem c]
    show some (f (ds.getD i d0)) = _
    rw [List.getD_eq_getElem?_getD, List.getElem?_eq_getElem c]
    rfl
  · rw [List.getElem?_eq_none (by rw [List.length_map, List.length_range]; omega), List.getElem?_eq_none (by rw [List.length_map]; omega)]
end
end Sb
namespace Sb
open PySem PySem.Spec PyProof.Rows L2
theorem cb1 {r : List V → Hp → VK → Prop} {ta : TE} {σ : L2.St} {H : Hp} {Q : VK} (h : ta σ H fun x H1 => r [x] H1 Q) : tCB r (tCons ta tNil) σ H Q := h
end Sb

set_option linter.all false
set_option maxRecDepth 100000
set_option maxHeartbeats 4000000
namespace Sb
open PySem PySem.Spec PyProof.Rows L2
def top (i : Nat) : Stmt := PySem.Challenge.pw_sparkboard_k11_whole_cycles_and_runs.main.body.getD i (.Pass ⟨0, 0, 0, 0⟩)
structure Bv (mg : Str → Option Value) : Prop where
  isinstance : mg "isinstance" = none
  int : mg "int" = none
  bool : mg "bool" = none
  str : mg "str" = none
  tuple : mg "tuple" = none
  list : mg "list" = none
  len : mg "len" = none
  all : mg "all" = none
  enumerate : mg "enumerate" = none
  range : mg "range" = none
  sorted : mg "sorted" = none
  max : mg "max" = none
  repr : mg "repr" = none
def spIsInt : Sp := fun vs H Q _ => ∃ v d, vs = [v] ∧ Dx H v d ∧ Q (.bl (isInt d)) H
def spFrom : Sp := fun vs H Q _ => ∃ v d n, vs = [v, .int n] ∧ Dx H v d ∧ Q (.bl (isFrom n d)) H
def spBelow : Sp := fun vs H Q _ => ∃ v d n, vs = [v, .int n] ∧ Dx H v d ∧ Q (.bl (isBelow n d)) H
def spIsRow : Sp := fun vs H Q _ => ∃ v d, vs = [v] ∧ Dx H v d ∧ ∀ H', Same H H' → Q (.bl (rowOf d).isSome) H'
section
variable {P : Program} {w : World} {K : PySem.W.Frag} {mg : Str → Option Value} {base : Heap}
theorem sc_isint : FnScope ["value"] ["value"] (defScope (top 6)) := ⟨rfl, rfl, rfl, by decide +kernel, rfl, by decide +kernel, by decide +kernel⟩
theorem ok_isint {f : Addr} {fd : FuncData} (F : Fun K "is_integer" "is_integer" (top 6) f fd) (T : Bv mg) : FnOk P w K mg base CX0 1 f fd ["value"] spIsInt := by
  refine F.ok sc_isint (fun vs H Q E h => ?_) (fun cdv A outer s H vs Q E hr h => ?_)
  · obtain ⟨v, d, rfl, _⟩ := h
    rfl
  · obtain ⟨v, d, rfl, hx, q⟩ := h
    refine ⟨_, (pss_one (ps_ret (pe_and (pe_callB call_isi (by rfl) T.isinstance (by decide +kernel) (pa_cons (pv 0) (pa_cons (pe_bltn (v := .ty "int") (by rfl) T.int (by decide +kernel) rfl) pa_nil))) (pe_one (pe_not (pe_callB call_isi (by rfl) T.isinstance (by decide +kernel) (pa_cons (pv 0) (pa_cons (pe_bltn (v := .ty "bool") (by rfl) T.bool (by decide +kernel) rfl) pa_nil)))))))), ?_⟩
    cases d with
    | int i =>
      refine ⟨_, rfl, _, .ty _, _, _, true, rfl, .ty _, hx.ty, kit_ty (show kitB "int" "int" = some true by decide +kernel), true, rfl, iteT ?_⟩
      exact ⟨_, rfl, _, .ty _, _, _, false, rfl, .ty _, hx.ty, kit_ty (show kitB "int" "bool" = some false by decide +kernel), false, rfl, q⟩
    | bool b =>
      refine ⟨_, rfl, _, .ty _, _, _, true, rfl, .ty _, hx.ty, kit_ty (show kitB "bool" "int" = some true by decide +kernel), true, rfl, iteT ?_⟩
      exact ⟨_, rfl, _, .ty _, _, _, true, rfl, .ty _, hx.ty, kit_ty (show kitB "bool" "bool" = some true by decide +kernel), true, rfl, q⟩
    | none => exact ⟨_, rfl, _, .ty _, _, _, false, rfl, .ty _, hx.ty, kit_ty (show kitB "NoneType" "int" = some false by decide +kernel), false, rfl, iteF q⟩
    | str x => exact ⟨_, rfl, _, .ty _, _, _, false, rfl, .ty _, hx.ty, kit_ty (show kitB "str" "int" = some false by decide +kernel), false, rfl, iteF q⟩
    | list x => exact ⟨_, rfl, _, .ty _, _, _, false, rfl, .ty _, hx.ty, kit_ty (show kitB "list" "int" = some false by decide +kernel), false, rfl, iteF q⟩
    | tuple x => exact ⟨_, rfl, _, .ty _, _, _, false, rfl, .ty _, hx.ty, kit_ty (show kitB "tuple" "int" = some false by decide +kernel), false, rfl, iteF q⟩
    | dict x => exact ⟨_, rfl, _, .ty _, _, _, false, rfl, .ty _, hx.ty, kit_ty (show kitB "dict" "int" = some false by decide +kernel), false, rfl, iteF q⟩
theorem Dx.int {H : Hp} {v : V} {d : PyData} (h : Dx H v d) (e : isInt d = true) : ∃ i, v = .int i ∧ d = .int i := by
  rcases h with h | ⟨a, kvs, rfl, h, rfl⟩
  · cases h with
    | int i => exact ⟨i, rfl, rfl⟩
    | _ => cases e
  · cases e
theorem below_no {d : PyData} {n : Int} (e : isInt d = false) : isBelow n d = false := by
  cases d with
  | int i => cases e
  | _ => rfl
theorem from_no {d : PyData} {n : Int} (e : isInt d = false) : isFrom n d = false := by
  cases d with
  | int i => cases e
  | _ => rfl
theorem sc_from : FnScope ["value", "low"] ["value", "low"] (defScope (top 7)) := ⟨rfl, rfl, rfl, by decide +kernel, rfl, by decide +kernel, by decide +kernel⟩
theorem ok_from {f a1 : Addr} {fd e1 : FuncData} (F : Fun K "is_from" "is_from" (top 7) f fd) (Fis_integer : Fn K mg P w base CX0 "is_integer" 1 a1 e1 ["value"] spIsInt) : FnOk P w K mg base CX0 2 f fd ["value", "low"] spFrom := by
  refine F.ok sc_from (fun vs H Q E h => ?_) (fun cdv A outer s H vs Q E hr h => ?_)
  · obtain ⟨v, d, n, rfl, _⟩ := h
    rfl
  · obtain ⟨v, d, n, rfl, hx, q⟩ := h
    refine ⟨_, (pss_one (ps_ret (pe_and (pe_call Fis_integer.G (hr.mono (by decide)) (by rfl) Fis_integer.g Fis_integer.k Fis_integer.b .nil pass0 (pa_cons (pv 0) pa_nil)) (pe_one (pe_cmpR op_ge (pv 0) (pv 1) (nomark _)))))), ?_⟩
    refine ⟨_, rfl, _, d, rfl, hx, ?_⟩
    cases e : isInt d with
    | false =>
      rw [from_no e] at q
      exact ⟨false, rfl, iteF q⟩
    | true =>
      obtain ⟨i, rfl, rfl⟩ := hx.int e
      exact ⟨true, rfl, iteT ⟨_, rfl, _, rfl, _, _, rfl, rfl, q⟩⟩
theorem sc_below : FnScope ["value", "end"] ["value", "end"] (defScope (top 8)) := ⟨rfl, rfl, rfl, by decide +kernel, rfl, by decide +kernel, by decide +kernel⟩
theorem ok_below {f a1 : Addr} {fd e1 : FuncData} (F : Fun K "is_below" "is_below" (top 8) f fd) (Fis_integer : Fn K mg P w base CX0 "is_integer" 1 a1 e1 ["value"] spIsInt) : FnOk P w K mg base CX0 2 f fd ["value", "end"] spBelow := by
  refine F.ok sc_below (fun vs H Q E h => ?_) (fun cdv A outer s H vs Q E hr h => ?_)
  · obtain ⟨v, d, n, rfl, _⟩ := h
    rfl
  · obtain ⟨v, d, n, rfl, hx, q⟩ := h
    refine ⟨_, (pss_one (ps_ret (pe_and (pe_call Fis_integer.G (hr.mono (by decide)) (by rfl) Fis_integer.g Fis_integer.k Fis_integer.b .nil pass0 (pa_cons (pv 0) pa_nil)) (pe_one (pe_chain op_le op_lt pe_int (pv 0) (pv 1)))))), ?_⟩
    refine ⟨_, rfl, _, d, rfl, hx, ?_⟩
    cases e : isInt d with
    | false =>
      rw [below_no e] at q
      exact ⟨false, rfl, iteF q⟩
    | true =>
      obtain ⟨i, rfl, rfl⟩ := hx.int e
      refine ⟨true, rfl, iteT ⟨_, rfl, _, _, rfl, rfl, _, rfl, ?_⟩⟩
      refine ite2 (fun c => ⟨_, rfl, _, _, rfl, rfl, ?_⟩) (fun c => ?_)
      · have c : 0 ≤ i := of_decide_eq_true c
        have e2 : isBelow n (.int i) = decide (i < n) := by
          show decide (0 ≤ i ∧ i < n) = decide (i < n)
          simp [c]
        rw [e2] at q
        exact q
      · have c : ¬ 0 ≤ i := fun z => c (decide_eq_true z)
        have e2 : isBelow n (.int i) = false := by
          show decide (0 ≤ i ∧ i < n) = false
          simp [c]
        rw [e2] at q
        exact q
theorem row_kit {d : PyData} : PySem.W.kitAny K (.type (tyN d)) [.type "tuple", .type "list"] = some (rowOf d).isSome := by
  have h : ∀ {T : String} {a b : Bool}, kitB T "tuple" = some a → kitB T "list" = some b → PySem.W.kitAny K (.type T) [.type "tuple", .type "list"] = some (a || b) := fun {T a b} h1 h2 =>
    kitAny_cons (kit_ty h1) (fun z => kitAny_cons (kit_ty h2) (fun z2 => by rw [z, z2]; rfl) (fun z2 => by rw [z, z2]; rfl)) (fun z => by rw [z, Bool.true_or])
  cases d with
  | none => exact h (T := "NoneType") (a := false) (b := false) (by decide +kernel) (by decide +kernel)
  | bool b => exact h (T := "bool") (a := false) (b := false) (by decide +kernel) (by decide +kernel)
  | int b => exact h (T := "int") (a := false) (b := false) (by decide +kernel) (by decide +kernel)
  | str b => exact h (T := "str") (a := false) (b := false) (by decide +kernel) (by decide +kernel)
  | list b => exact h (T := "list") (a := false) (b := true) (by decide +kernel) (by decide +kernel)
  | tuple b => exact h (T := "tuple") (a := true) (b := false) (by decide +kernel) (by decide +kernel)
  | dict b => exact h (T := "dict") (a := false) (b := false) (by decide +kernel) (by decide +kernel)
theorem sc_row : FnScope ["value"] ["value"] (defScope (top 9)) := ⟨rfl, rfl, rfl, by decide +kernel, rfl, by decide +kernel, by decide +kernel⟩
theorem ok_row {f : Addr} {fd : FuncData} (F : Fun K "is_row" "is_row" (top 9) f fd) (T : Bv mg) : FnOk P w K mg base CX0 1 f fd ["value"] spIsRow := by
  refine F.ok sc_row (fun vs H Q E h => ?_) (fun cdv A outer s H vs Q E hr h => ?_)
  · obtain ⟨v, d, rfl, _⟩ := h
    rfl
  · obtain ⟨v, d, rfl, hx, q⟩ := h
    refine ⟨_, (pss_one (ps_ret (pe_callB call_isiT (by rfl) T.isinstance (by decide +kernel) (pa_cons (pv 0) (pa_cons (pe_tup (pa_cons (pe_bltn (v := .ty "tuple") (by rfl) T.tuple (by decide +kernel) rfl) (pa_cons (pe_bltn (v := .ty "list") (by rfl) T.list (by decide +kernel) rfl) pa_nil))) pa_nil))))), ?_⟩
    exact ⟨_, rfl, (by show 2 ≤ sizeLine; decide), fun tp htp => ⟨_, tp, [.ty "tuple", .ty "list"], _, [.type "tuple", .type "list"], _, rfl, upd_same, .cons (.ty _) (.cons (.ty _) .nil), (hx.same (same_upd htp)).ty, row_kit, q _ (same_upd htp)⟩⟩
/-- what a row stands as -/
theorem Dx.row {H : Hp} {v : V} {d : PyData} {ds : List PyData} (h : Dx H v d) (e : rowOf d = some ds) : ∃ a xs, v = .ref a ∧ (H a = some (.lst xs) ∨ H a = some (.tup xs)) ∧ Das H xs ds := by
  rcases h with h | ⟨a, kvs, rfl, h, rfl⟩
  · cases h with
    | lst h hs => cases e; exact ⟨_, _, rfl, .inl h, hs⟩
    | tup h hs => cases e; exact ⟨_, _, rfl, .inr h, hs⟩
    | _ => cases e
  · cases e
def spBits : Sp := fun vs H Q _ => ∃ v d n, vs = [v, .int n] ∧ Dx H v d ∧ (∀ ds, rowOf d = some ds → ds.length ≤ 10000) ∧ ∀ H', Same H H' → Q (.bl (isBits n d)) H'
theorem all_id {f : PyData → Bool} {ds : List PyData} : (ds.map f).all id = ds.all f := by
  rw [List.all_map]
  rfl
theorem all_list {f : PyData → Bool} {ds : List PyData} : (List.range ds.length).map (fun k => V.bl (f (ds.getD k .none))) = (ds.map f).map V.bl := by
  rw [range_get (f := fun d => V.bl (f d)), List.map_map]
  rfl
theorem getD_of {ds : List PyData} {k : Nat} {d : PyData} (h : ds[k]? = some d) : ds.getD k .none = d := by
  rw [List.getD_eq_getElem?_getD, h]
  rfl
theorem sc_bits : FnScope ["value", "many", "bit"] ["value", "many"] (defScope (top 10)) := ⟨rfl, rfl, rfl, by decide +kernel, rfl, by decide +kernel, by decide +kernel⟩
theorem ok_bits {f a1 a2 : Addr} {fd e1 e2 : FuncData} (F : Fun K "is_bits" "is_bits" (top 10) f fd) (T : Bv mg) (Fis_row : Fn K mg P w base CX0 "is_row" 1 a1 e1 ["value"] spIsRow) (Fis_below : Fn K mg P w base CX0 "is_below" 2 a2 e2 ["value", "end"] spBelow) : FnOk P w K mg base CX0 3 f fd ["value", "many"] spBits := by
  have sc := sc_bits
  refine F.ok sc_bits (fun vs H Q E h => ?_) (fun cdv A outer s H vs Q E hr h => ?_)
  · obtain ⟨v, d, n, rfl, _⟩ := h
    rfl
  · obtain ⟨v, d, n, rfl, hx, hl, q⟩ := h
    cases e : rowOf d with
    | none =>
      refine ⟨_, (pss_one (ps_ret (pe_and (pe_call Fis_row.G (hr.mono (by decide)) (by rfl) Fis_row.g Fis_row.k Fis_row.b .nil pass0 (pa_cons (pv 0) pa_nil)) (pe_and (pe_cmpR op_eq (pe_callB call_len (by rfl) T.len (by decide +kernel) (pa_cons (pv 0) pa_nil)) (pv 1) (nomark _)) (pe_one (pe_callB (cr_all rfl) (by rfl) T.all (by decide +kernel) (pa_cons (pe_lc (own := [("bit", 2)]) (g := gName 2) (tt := tYes) rfl sc.nd (pi_list (pv 0)) (blkOk_by (N := ["value", "many", "bit"]) (sc := defScope (top 10)) (by decide +kernel)) (fun _ _ _ _ _ => (pg_name (i := 2) sc.nd rfl (.inl rfl))) (fun _ _ _ _ _ => pts_nil) (fun _ _ _ _ _ => (pe_call Fis_below.G (hr.mono (by decide)) (by rfl) Fis_below.g Fis_below.k Fis_below.b .nil pass0 (pa_cons (pv 2) (pa_cons pe_int pa_nil))))) pa_nil))))))), ?_⟩
      refine ⟨_, rfl, _, d, rfl, hx, fun H1 s1 => ⟨(rowOf d).isSome, rfl, ?_⟩⟩
      have eb : isBits n d = false := by unfold isBits; rw [e]
      rw [eb] at q
      rw [e]
      exact iteF (q H1 s1)
    | some ds =>
      have hds := hl ds e
      have eb : isBits n d = (decide ((ds.length : Int) = n) && ds.all (isBelow 2)) := by unfold isBits; rw [e]
      rw [eb] at q
      obtain ⟨a, xs, rfl, ha, hs⟩ := hx.row e
      have hlen := hs.length
      rcases ha with ha | ha
      · refine ⟨_, (pss_one (ps_ret (pe_and (pe_call Fis_row.G (hr.mono (by decide)) (by rfl) Fis_row.g Fis_row.k Fis_row.b .nil pass0 (pa_cons (pv 0) pa_nil)) (pe_and (pe_cmpR op_eq (pe_callB call_len (by rfl) T.len (by decide +kernel) (pa_cons (pv 0) pa_nil)) (pv 1) (nomark _)) (pe_one (pe_callB (cr_all rfl) (by rfl) T.all (by decide +kernel) (pa_cons (pe_lc (own := [("bit", 2)]) (g := gName 2) (tt := tYes) rfl sc.nd (pi_list (pv 0)) (blkOk_by (N := ["value", "many", "bit"]) (sc := defScope (top 10)) (by decide +kernel)) (fun _ _ _ _ _ => (pg_name (i := 2) sc.nd rfl (.inl rfl))) (fun _ _ _ _ _ => pts_nil) (fun _ _ _ _ _ => (pe_call Fis_below.G (hr.mono (by decide)) (by rfl) Fis_below.g Fis_below.k Fis_below.b .nil pass0 (pa_cons (pv 2) (pa_cons pe_int pa_nil))))) pa_nil))))))), ?_⟩
        refine ⟨_, rfl, _, d, rfl, hx, fun H1 s1 => ⟨(rowOf d).isSome, rfl, ?_⟩⟩
        rw [e]
        refine iteT ⟨_, rfl, _, xs.length, rfl, .inl ⟨_, SqL.of (s1 _ _ ha), rfl⟩, _, rfl, rfl, _, rfl, ?_⟩
        refine ite2 (fun c => ?_) (fun c => ?_)
        · have c : (xs.length : Int) = n := V.int.inj (of_decide_eq_true c)
          have c2 : (ds.length : Int) = n := by omega
          rw [decide_eq_true c2, Bool.true_and] at q
          refine cb1 ?_
          refine comp_l (K := K) (a := a) (xs := xs) (j := 2) (R := fun k v _ => v = .bl (isBelow 2 (ds.getD k .none))) (fun _ _ _ _ h _ => h) ?_ (SqL.of (s1 _ _ ha)) (by omega) ?_ ?_ (made_is fun D H2 hD s2 e2 => ?_)
          · exact fun Q q => ⟨_, rfl, q⟩
          · exact fun x => rfl
          · intro k x hk H2 s2 Q q2
            obtain ⟨dk, hdk, hx2⟩ := hs.get hk
            exact ⟨_, rfl, _, dk, 2, rfl, .inl ((hx2.same s1).same s2), q2 _ _ (Same.refl _) (by rw [getD_of hdk])⟩
          · rw [hlen, all_list] at e2
            refine ⟨D, ds.map (isBelow 2), rfl, SqL.of e2, ?_⟩
            rw [all_id]
            exact q H2 (s1.trans s2)
        · have c2 : ¬ (ds.length : Int) = n := fun z => c (decide_eq_true (by rw [hlen, z]))
          rw [decide_eq_false c2, Bool.false_and] at q
          exact q H1 s1
      · refine ⟨_, (pss_one (ps_ret (pe_and (pe_call Fis_row.G (hr.mono (by decide)) (by rfl) Fis_row.g Fis_row.k Fis_row.b .nil pass0 (pa_cons (pv 0) pa_nil)) (pe_and (pe_cmpR op_eq (pe_callB call_len (by rfl) T.len (by decide +kernel) (pa_cons (pv 0) pa_nil)) (pv 1) (nomark _)) (pe_one (pe_callB (cr_all rfl) (by rfl) T.all (by decide +kernel) (pa_cons (pe_lc (own := [("bit", 2)]) (g := gName 2) (tt := tYes) rfl sc.nd (pi_tup (pv 0)) (blkOk_by (N := ["value", "many", "bit"]) (sc := defScope (top 10)) (by decide +kernel)) (fun _ _ _ _ _ => (pg_name (i := 2) sc.nd rfl (.inl rfl))) (fun _ _ _ _ _ => pts_nil) (fun _ _ _ _ _ => (pe_call Fis_below.G (hr.mono (by decide)) (by rfl) Fis_below.g Fis_below.k Fis_below.b .nil pass0 (pa_cons (pv 2) (pa_cons pe_int pa_nil))))) pa_nil))))))), ?_⟩
        refine ⟨_, rfl, _, d, rfl, hx, fun H1 s1 => ⟨(rowOf d).isSome, rfl, ?_⟩⟩
        rw [e]
        refine iteT ⟨_, rfl, _, xs.length, rfl, .inr ⟨_, SqT.of (s1 _ _ ha), rfl⟩, _, rfl, rfl, _, rfl, ?_⟩
        refine ite2 (fun c => ?_) (fun c => ?_)
        · have c : (xs.length : Int) = n := V.int.inj (of_decide_eq_true c)
          have c2 : (ds.length : Int) = n := by omega
          rw [decide_eq_true c2, Bool.true_and] at q
          refine cb1 ?_
          refine comp_t (K := K) (a := a) (xs := xs) (j := 2) (R := fun k v _ => v = .bl (isBelow 2 (ds.getD k .none))) (fun _ _ _ _ h _ => h) ?_ (SqT.of (s1 _ _ ha)) (by omega) ?_ ?_ (made_is fun D H2 hD s2 e2 => ?_)
          · exact fun Q q => ⟨_, rfl, q⟩
          · exact fun x => rfl
          · intro k x hk H2 s2 Q q2
            obtain ⟨dk, hdk, hx2⟩ := hs.get hk
            exact ⟨_, rfl, _, dk, 2, rfl, .inl ((hx2.same s1).same s2), q2 _ _ (Same.refl _) (by rw [getD_of hdk])⟩
          · rw [hlen, all_list] at e2
            refine ⟨D, ds.map (isBelow 2), rfl, SqL.of e2, ?_⟩
            rw [all_id]
            exact q H2 (s1.trans s2)
        · have c2 : ¬ (ds.length : Int) = n := fun z => c (decide_eq_true (by rw [hlen, z]))
          rw [decide_eq_false c2, Bool.false_and] at q
          exact q H1 s1
end
end Sb

set_option linter.all false
set_option maxRecDepth 100000
set_option maxHeartbeats 4000000
namespace Sb
open PySem PySem.Spec PyProof.Rows L2
def short (d : PyData) : Prop := ∀ ds, rowOf d = some ds → ds.length ≤ 10000
def spBitRows : Sp := fun vs H Q _ => ∃ v d n, vs = [v, .int n] ∧ Dx H v d ∧ short d ∧ (∀ ds, rowOf d = some ds → ∀ e ∈ ds, short e) ∧ ∀ H', Same H H' → Q (.bl (isBitRows n d)) H'
def spSignals : Sp := fun vs H Q _ => ∃ v d n, vs = [v, .int n] ∧ Dx H v d ∧ short d ∧ ∀ H', Same H H' → Q (.bl (areSignals n d)) H'
section
variable {P : Program} {w : World} {K : PySem.W.Frag} {mg : Str → Option Value} {base : Heap}
theorem sc_signals : FnScope ["value", "many", "signal"] ["value", "many"] (defScope (top 14)) := ⟨rfl, rfl, rfl, by decide +kernel, rfl, by decide +kernel, by decide +kernel⟩
theorem ok_signals {f a1 a2 : Addr} {fd e1 e2 : FuncData} (F : Fun K "_are_signals" "_are_signals" (top 14) f fd) (T : Bv mg) (Fis_row : Fn K mg P w base CX0 "is_row" 1 a1 e1 ["value"] spIsRow) (Fis_below : Fn K mg P w base CX0 "is_below" 2 a2 e2 ["value", "end"] spBelow) : FnOk P w K mg base CX0 3 f fd ["value", "many"] spSignals := by
  have sc := sc_signals
  refine F.ok sc_signals (fun vs H Q E h => ?_) (fun cdv A outer s H vs Q E hr h => ?_)
  · obtain ⟨v, d, n, rfl, _⟩ := h
    rfl
  · obtain ⟨v, d, n, rfl, hx, hl, q⟩ := h
    cases e : rowOf d with
    | none =>
      refine ⟨_, (pss_one (ps_ret (pe_and (pe_call Fis_row.G (hr.mono (by decide)) (by rfl) Fis_row.g Fis_row.k Fis_row.b .nil pass0 (pa_cons (pv 0) pa_nil)) (pe_one (pe_callB (cr_all rfl) (by rfl) T.all (by decide +kernel) (pa_cons (pe_lc (own := [("signal", 2)]) (g := gName 2) (tt := tYes) rfl sc.nd (pi_list (pv 0)) (blkOk_by (N := ["value", "many", "signal"]) (sc := defScope (top 14)) (by decide +kernel)) (fun _ _ _ _ _ => (pg_name (i := 2) sc.nd rfl (.inl rfl))) (fun _ _ _ _ _ => pts_nil) (fun _ _ _ _ _ => (pe_call Fis_below.G (hr.mono (by decide)) (by rfl) Fis_below.g Fis_below.k Fis_below.b .nil pass0 (pa_cons (pv 2) (pa_cons (pv 1) pa_nil))))) pa_nil)))))), ?_⟩
      refine ⟨_, rfl, _, d, rfl, hx, fun H1 s1 => ⟨(rowOf d).isSome, rfl, ?_⟩⟩
      have eb : areSignals n d = false := by unfold areSignals; rw [e]
      rw [eb] at q
      rw [e]
      exact iteF (q H1 s1)
    | some ds =>
      have hds := hl ds e
      have eb : areSignals n d = ds.all (isBelow n) := by unfold areSignals; rw [e]
      rw [eb] at q
      obtain ⟨a, xs, rfl, ha, hs⟩ := hx.row e
      have hlen := hs.length
      rcases ha with ha | ha
      · refine ⟨_, (pss_one (ps_ret (pe_and (pe_call Fis_row.G (hr.mono (by decide)) (by rfl) Fis_row.g Fis_row.k Fis_row.b .nil pass0 (pa_cons (pv 0) pa_nil)) (pe_one (pe_callB (cr_all rfl) (by rfl) T.all (by decide +kernel) (pa_cons (pe_lc (own := [("signal", 2)]) (g := gName 2) (tt := tYes) rfl sc.nd (pi_list (pv 0)) (blkOk_by (N := ["value", "many", "signal"]) (sc := defScope (top 14)) (by decide +kernel)) (fun _ _ _ _ _ => (pg_name (i := 2) sc.nd rfl (.inl rfl))) (fun _ _ _ _ _ => pts_nil) (fun _ _ _ _ _ => (pe_call Fis_below.G (hr.mono (by decide)) (by rfl) Fis_below.g Fis_below.k Fis_below.b .nil pass0 (pa_cons (pv 2) (pa_cons (pv 1) pa_nil))))) pa_nil)))))), ?_⟩
        refine ⟨_, rfl, _, d, rfl, hx, fun H1 s1 => ⟨(rowOf d).isSome, rfl, ?_⟩⟩
        rw [e]
        refine iteT ?_
        refine cb1 ?_
        refine comp_l (K := K) (a := a) (xs := xs) (j := 2) (R := fun k v _ => v = .bl (isBelow n (ds.getD k .none))) (fun _ _ _ _ h _ => h) ?_ (SqL.of (s1 _ _ ha)) (by omega) ?_ ?_ (made_is fun D H2 hD s2 e2 => ?_)
        · exact fun Q q => ⟨_, rfl, q⟩
        · exact fun x => rfl
        · intro k x hk H2 s2 Q q2
          obtain ⟨dk, hdk, hx2⟩ := hs.get hk
          exact ⟨_, rfl, _, rfl, _, dk, n, rfl, .inl ((hx2.same s1).same s2), q2 _ _ (Same.refl _) (by rw [getD_of hdk])⟩
        · rw [hlen, all_list] at e2
          refine ⟨D, ds.map (isBelow n), rfl, SqL.of e2, ?_⟩
          rw [all_id]
          exact q H2 (s1.trans s2)
      · refine ⟨_, (pss_one (ps_ret (pe_and (pe_call Fis_row.G (hr.mono (by decide)) (by rfl) Fis_row.g Fis_row.k Fis_row.b .nil pass0 (pa_cons (pv 0) pa_nil)) (pe_one (pe_callB (cr_all rfl) (by rfl) T.all (by decide +kernel) (pa_cons (pe_lc (own := [("signal", 2)]) (g := gName 2) (tt := tYes) rfl sc.nd (pi_tup (pv 0)) (blkOk_by (N := ["value", "many", "signal"]) (sc := defScope (top 14)) (by decide +kernel)) (fun _ _ _ _ _ => (pg_name (i := 2) sc.nd rfl (.inl rfl))) (fun _ _ _ _ _ => pts_nil) (fun _ _ _ _ _ => (pe_call Fis_below.G (hr.mono (by decide)) (by rfl) Fis_below.g Fis_below.k Fis_below.b .nil pass0 (pa_cons (pv 2) (pa_cons (pv 1) pa_nil))))) pa_nil)))))), ?_⟩
        refine ⟨_, rfl, _, d, rfl, hx, fun H1 s1 => ⟨(rowOf d).isSome, rfl, ?_⟩⟩
        rw [e]
        refine iteT ?_
        refine cb1 ?_
        refine comp_t (K := K) (a := a) (xs := xs) (j := 2) (R := fun k v _ => v = .bl (isBelow n (ds.getD k .none))) (fun _ _ _ _ h _ => h) ?_ (SqT.of (s1 _ _ ha)) (by omega) ?_ ?_ (made_is fun D H2 hD s2 e2 => ?_)
        · exact fun Q q => ⟨_, rfl, q⟩
        · exact fun x => rfl
        · intro k x hk H2 s2 Q q2
          obtain ⟨dk, hdk, hx2⟩ := hs.get hk
          exact ⟨_, rfl, _, rfl, _, dk, n, rfl, .inl ((hx2.same s1).same s2), q2 _ _ (Same.refl _) (by rw [getD_of hdk])⟩
        · rw [hlen, all_list] at e2
          refine ⟨D, ds.map (isBelow n), rfl, SqL.of e2, ?_⟩
          rw [all_id]
          exact q H2 (s1.trans s2)
theorem sc_bitrows : FnScope ["value", "many", "row"] ["value", "many"] (defScope (top 11)) := ⟨rfl, rfl, rfl, by decide +kernel, rfl, by decide +kernel, by decide +kernel⟩
theorem ok_bitrows {f a1 a2 : Addr} {fd e1 e2 : FuncData} (F : Fun K "is_bit_rows" "is_bit_rows" (top 11) f fd) (T : Bv mg) (Fis_row : Fn K mg P w base CX0 "is_row" 1 a1 e1 ["value"] spIsRow) (Fis_bits : Fn K mg P w base CX0 "is_bits" 3 a2 e2 ["value", "many"] spBits) : FnOk P w K mg base CX0 4 f fd ["value", "many"] spBitRows := by
  have sc := sc_bitrows
  refine F.ok sc_bitrows (fun vs H Q E h => ?_) (fun cdv A outer s H vs Q E hr h => ?_)
  · obtain ⟨v, d, n, rfl, _⟩ := h
    rfl
  · obtain ⟨v, d, n, rfl, hx, hl, hin, q⟩ := h
    cases e : rowOf d with
    | none =>
      refine ⟨_, (pss_one (ps_ret (pe_and (pe_call Fis_row.G (hr.mono (by decide)) (by rfl) Fis_row.g Fis_row.k Fis_row.b .nil pass0 (pa_cons (pv 0) pa_nil)) (pe_one (pe_callB (cr_all rfl) (by rfl) T.all (by decide +kernel) (pa_cons (pe_lc (own := [("row", 2)]) (g := gName 2) (tt := tYes) rfl sc.nd (pi_list (pv 0)) (blkOk_by (N := ["value", "many", "row"]) (sc := defScope (top 11)) (by decide +kernel)) (fun _ _ _ _ _ => (pg_name (i := 2) sc.nd rfl (.inl rfl))) (fun _ _ _ _ _ => pts_nil) (fun _ _ _ _ _ => (pe_call Fis_bits.G (hr.mono (by decide)) (by rfl) Fis_bits.g Fis_bits.k Fis_bits.b .nil pass0 (pa_cons (pv 2) (pa_cons (pv 1) pa_nil))))) pa_nil)))))), ?_⟩
      refine ⟨_, rfl, _, d, rfl, hx, fun H1 s1 => ⟨(rowOf d).isSome, rfl, ?_⟩⟩
      have eb : isBitRows n d = false := by unfold isBitRows; rw [e]
      rw [eb] at q
      rw [e]
      exact iteF (q H1 s1)
    | some ds =>
      have hds := hl ds e
      have eb : isBitRows n d = ds.all (isBits n) := by unfold isBitRows; rw [e]
      rw [eb] at q
      obtain ⟨a, xs, rfl, ha, hs⟩ := hx.row e
      have hlen := hs.length
      rcases ha with ha | ha
      · refine ⟨_, (pss_one (ps_ret (pe_and (pe_call Fis_row.G (hr.mono (by decide)) (by rfl) Fis_row.g Fis_row.k Fis_row.b .nil pass0 (pa_cons (pv 0) pa_nil)) (pe_one (pe_callB (cr_all rfl) (by rfl) T.all (by decide +kernel) (pa_cons (pe_lc (own := [("row", 2)]) (g := gName 2) (tt := tYes) rfl sc.nd (pi_list (pv 0)) (blkOk_by (N := ["value", "many", "row"]) (sc := defScope (top 11)) (by decide +kernel)) (fun _ _ _ _ _ => (pg_name (i := 2) sc.nd rfl (.inl rfl))) (fun _ _ _ _ _ => pts_nil) (fun _ _ _ _ _ => (pe_call Fis_bits.G (hr.mono (by decide)) (by rfl) Fis_bits.g Fis_bits.k Fis_bits.b .nil pass0 (pa_cons (pv 2) (pa_cons (pv 1) pa_nil))))) pa_nil)))))), ?_⟩
        refine ⟨_, rfl, _, d, rfl, hx, fun H1 s1 => ⟨(rowOf d).isSome, rfl, ?_⟩⟩
        rw [e]
        refine iteT ?_
        refine cb1 ?_
        refine comp_l (K := K) (a := a) (xs := xs) (j := 2) (R := fun k v _ => v = .bl (isBits n (ds.getD k .none))) (fun _ _ _ _ h _ => h) ?_ (SqL.of (s1 _ _ ha)) (by omega) ?_ ?_ (made_is fun D H2 hD s2 e2 => ?_)
        · exact fun Q q => ⟨_, rfl, q⟩
        · exact fun x => rfl
        · intro k x hk H2 s2 Q q2
          obtain ⟨dk, hdk, hx2⟩ := hs.get hk
          exact ⟨_, rfl, _, rfl, _, dk, n, rfl, .inl ((hx2.same s1).same s2), hin ds e dk (List.mem_of_getElem? hdk), fun H3 s3 => q2 _ _ s3 (by rw [getD_of hdk])⟩
        · rw [hlen, all_list] at e2
          refine ⟨D, ds.map (isBits n), rfl, SqL.of e2, ?_⟩
          rw [all_id]
          exact q H2 (s1.trans s2)
      · refine ⟨_, (pss_one (ps_ret (pe_and (pe_call Fis_row.G (hr.mono (by decide)) (by rfl) Fis_row.g Fis_row.k Fis_row.b .nil pass0 (pa_cons (pv 0) pa_nil)) (pe_one (pe_callB (cr_all rfl) (by rfl) T.all (by decide +kernel) (pa_cons (pe_lc (own := [("row", 2)]) (g := gName 2) (tt := tYes) rfl sc.nd (pi_tup (pv 0)) (blkOk_by (N := ["value", "many", "row"]) (sc := defScope (top 11)) (by decide +kernel)) (fun _ _ _ _ _ => (pg_name (i := 2) sc.nd rfl (.inl rfl))) (fun _ _ _ _ _ => pts_nil) (fun _ _ _ _ _ => (pe_call Fis_bits.G (hr.mono (by decide)) (by rfl) Fis_bits.g Fis_bits.k Fis_bits.b .nil pass0 (pa_cons (pv 2) (pa_cons (pv 1) pa_nil))))) pa_nil)))))), ?_⟩
        refine ⟨_, rfl, _, d, rfl, hx, fun H1 s1 => ⟨(rowOf d).isSome, rfl, ?_⟩⟩
        rw [e]
        refine iteT ?_
        refine cb1 ?_
        refine comp_t (K := K) (a := a) (xs := xs) (j := 2) (R := fun k v _ => v = .bl (isBits n (ds.getD k .none))) (fun _ _ _ _ h _ => h) ?_ (SqT.of (s1 _ _ ha)) (by omega) ?_ ?_ (made_is fun D H2 hD s2 e2 => ?_)
        · exact fun Q q => ⟨_, rfl, q⟩
        · exact fun x => rfl
        · intro k x hk H2 s2 Q q2
          obtain ⟨dk, hdk, hx2⟩ := hs.get hk
          exact ⟨_, rfl, _, rfl, _, dk, n, rfl, .inl ((hx2.same s1).same s2), hin ds e dk (List.mem_of_getElem? hdk), fun H3 s3 => q2 _ _ s3 (by rw [getD_of hdk])⟩
        · rw [hlen, all_list] at e2
          refine ⟨D, ds.map (isBits n), rfl, SqL.of e2, ?_⟩
          rw [all_id]
          exact q H2 (s1.trans s2)
end
end Sb

set_option linter.all false
set_option maxRecDepth 100000
set_option maxHeartbeats 4000000
namespace Sb
open PySem PySem.Spec PyProof.Rows L2
def named (k : Str) : Option Nat := if k = "and" ∨ k = "or" ∨ k = "xor" ∨ k = "but" then some 2 else if k = "not" then some 1 else if k = "one" then some 0 else none
def isGate (n : Int) : PyData → Bool
  | .tuple (.str k :: xs) => match named k with
    | some m => decide (xs.length = m) && xs.all (isBelow n)
    | none => false
  | _ => false
def pairedV : List V := [.str "and", .str "or", .str "xor", .str "but"]
theorem in_paired {k : Str} : inV (.str k) pairedV = decide (k = "and" ∨ k = "or" ∨ k = "xor" ∨ k = "but") := by
  unfold inV pairedV
  simp only [List.any_cons, List.any_nil, eqV, Bool.or_false]
  have h : ∀ a b : Str, (a == b) = decide (b = a) := fun a b => by
    by_cases c : b = a
    · rw [decide_eq_true c, c]; simp
    · rw [decide_eq_false c]; simp; exact fun z => c z.symm
  rw [h, h, h, h]
  simp [Bool.decide_or]
theorem cut_tail (x : V) (xs : List V) : cutV (x :: xs) (some 1) none = xs := by
  unfold cutV
  rw [show HT.sIx (x :: xs).length 0 (some 1) = min 1 (x :: xs).length from HT.sIx_nat (x :: xs).length 0 1, HT.sIx_none]
  rw [show min 1 (x :: xs).length = 1 by rw [List.length_cons]; omega]
  show (List.take ((x :: xs).length - 1) xs) = xs
  rw [List.length_cons, Nat.add_sub_cancel]
  exact List.take_length
theorem tail_part (x : V) (xs : List V) : ¬ (HT.sIx (x :: xs).length 0 (some 1) = 0 ∧ HT.sIx (x :: xs).length (x :: xs).length none = (x :: xs).length) := by
  rw [show HT.sIx (x :: xs).length 0 (some 1) = min 1 (x :: xs).length from HT.sIx_nat (x :: xs).length 0 1, show min 1 (x :: xs).length = 1 by rw [List.length_cons]; omega]
  intro h
  cases h.1
def spGate : Sp := fun vs H Q _ => ∃ v d n, vs = [v, .int n] ∧ Dx H v d ∧ short d ∧ ∀ H', Same H H' → Q (.bl (isGate n d)) H'
section
variable {P : Program} {w : World} {K : PySem.W.Frag} {mg : Str → Option Value} {base : Heap}
theorem sc_gate : FnScope ["value", "ahead", "named"] ["value", "ahead"] (defScope (top 15)) := ⟨rfl, rfl, rfl, by decide +kernel, rfl, by decide +kernel, by decide +kernel⟩
theorem ok_gate {f a1 aP : Addr} {fd e1 : FuncData} (F : Fun K "_is_gate" "_is_gate" (top 15) f fd) (T : Bv mg) (g_P : mg "PAIRED_KINDS" = some (.ref aP)) (hP : ∀ H : Hp, SqT K H aP pairedV) (F_are_signals : Fn K mg P w base CX0 "_are_signals" 3 a1 e1 ["value", "many"] spSignals) : FnOk P w K mg base CX0 4 f fd ["value", "ahead"] spGate := by
  have sc := sc_gate
  refine F.ok sc_gate (fun vs H Q E h => ?_) (fun cdv A outer s H vs Q E hr h => ?_)
  · obtain ⟨v, d, n, rfl, _⟩ := h
    rfl
  · obtain ⟨v, d, n, rfl, hx, hl, q⟩ := h
    refine ⟨_, (pss_cons (ps_if (PW.pt (pw_or (pt_not (pt_val (pe_callB call_isi (by rfl) T.isinstance (by decide +kernel) (pa_cons (pv 0) (pa_cons (pe_bltn (v := .ty "tuple") (by rfl) T.tuple (by decide +kernel) rfl) pa_nil))))) (pw_or (pt_cmpR op_eq (pe_callB call_len (by rfl) T.len (by decide +kernel) (pa_cons (pv 0) pa_nil)) pe_int (nomark _)) (pw_or1 (pt_not (pt_val (pe_callB call_isi (by rfl) T.isinstance (by decide +kernel) (pa_cons (pe_ix ix_tup (pv 0) pe_int (fun _ _ => rfl)) (pa_cons (pe_bltn (v := .ty "str") (by rfl) T.str (by decide +kernel) rfl) pa_nil))))))))) (pss_one (ps_ret pe_bl)) pss_nil)
      (C8.pss_cut (ps_if (pt_cmpR op_in_seq (pe_ix ix_tup (pv 0) pe_int (fun _ _ => rfl)) (pe_glob (v := .ref _) rfl g_P rfl) (by rfl)) (pss_one (ps_set (i := 2) sc.nd rfl (.inl rfl) pe_int)) (pss_one (ps_if (pt_cmpR op_eq (pe_ix ix_tup (pv 0) pe_int (fun _ _ => rfl)) pe_str (nomark _)) (pss_one (ps_set (i := 2) sc.nd rfl (.inl rfl) pe_int)) (pss_one (ps_if (pt_cmpR op_eq (pe_ix ix_tup (pv 0) pe_int (fun _ _ => rfl)) pe_str (nomark _)) (pss_one (ps_set (i := 2) sc.nd rfl (.inl rfl) pe_int)) (pss_one (ps_ret pe_bl)))))))
      (pss_one (ps_ret (pe_and (pe_cmpR op_eq (pe_callB call_len (by rfl) T.len (by decide +kernel) (pa_cons (pv 0) pa_nil)) (pe_op op_add pe_int (pv 2)) (nomark _)) (pe_one (pe_call F_are_signals.G (hr.mono (by decide)) (by rfl) F_are_signals.g F_are_signals.k F_are_signals.b .nil pass0 (pa_cons (pe_slice sl_tup (pv 0) (po_some pe_int) po_none) (pa_cons (pv 1) pa_nil))))))))), ?_⟩
    cases d with
    | none => exact ⟨_, rfl, _, .ty _, _, _, false, rfl, .ty _, hx.ty, kit_ty (show kitB "NoneType" "tuple" = some false by decide +kernel), false, rfl, iteT (iteT (q _ (Same.refl _)))⟩
    | bool b => exact ⟨_, rfl, _, .ty _, _, _, false, rfl, .ty _, hx.ty, kit_ty (show kitB "bool" "tuple" = some false by decide +kernel), false, rfl, iteT (iteT (q _ (Same.refl _)))⟩
    | int i => exact ⟨_, rfl, _, .ty _, _, _, false, rfl, .ty _, hx.ty, kit_ty (show kitB "int" "tuple" = some false by decide +kernel), false, rfl, iteT (iteT (q _ (Same.refl _)))⟩
    | str x => exact ⟨_, rfl, _, .ty _, _, _, false, rfl, .ty _, hx.ty, kit_ty (show kitB "str" "tuple" = some false by decide +kernel), false, rfl, iteT (iteT (q _ (Same.refl _)))⟩
    | list x => exact ⟨_, rfl, _, .ty _, _, _, false, rfl, .ty _, hx.ty, kit_ty (show kitB "list" "tuple" = some false by decide +kernel), false, rfl, iteT (iteT (q _ (Same.refl _)))⟩
    | dict x => exact ⟨_, rfl, _, .ty _, _, _, false, rfl, .ty _, hx.ty, kit_ty (show kitB "dict" "tuple" = some false by decide +kernel), false, rfl, iteT (iteT (q _ (Same.refl _)))⟩
    | tuple ds =>
      obtain ⟨a, xs, rfl, ha, hs⟩ := hx.row rfl
      have ha : H a = some (.tup xs) := by
        rcases hx with hx | ⟨_, _, e, h, _⟩
        · cases hx with
          | tup h _ =>
            rcases ha with ha | ha
            · rw [h] at ha; cases ha
            · exact ha
        · cases e
          rcases ha with ha | ha
          · rw [h] at ha; cases ha
          · exact ha
      have hlen := hs.length
      refine ⟨_, rfl, _, .ty _, _, _, true, rfl, .ty _, hx.ty, kit_ty (show kitB "tuple" "tuple" = some true by decide +kernel), true, rfl, iteF ?_⟩
      refine ⟨_, rfl, _, xs.length, rfl, .inr ⟨_, SqT.of ha, rfl⟩, rfl, _, rfl, ?_⟩
      cases hs with
      | nil => exact ite2 (fun _ => iteT (q _ (Same.refl _))) (fun z => absurd (decide_eq_true rfl) z)
      | @cons x xs e es he hes =>
        refine ite2 (fun z => ?_) (fun _ => ?_)
        · have z := V.int.inj (of_decide_eq_true z)
          rw [List.length_cons] at z
          omega
        have hat : atI (x :: xs) 0 = some x := at_of (j := 0) rfl rfl
        have hx0 : Dx H x e := .inl he
        refine ⟨_, rfl, _, _, _, _, rfl, rfl, SqT.of ha, hat, ?_⟩
        cases e with
        | none => exact ⟨_, .ty _, _, _, false, rfl, .ty _, hx0.ty, kit_ty (show kitB "NoneType" "str" = some false by decide +kernel), false, rfl, iteT (q _ (Same.refl _))⟩
        | bool b => exact ⟨_, .ty _, _, _, false, rfl, .ty _, hx0.ty, kit_ty (show kitB "bool" "str" = some false by decide +kernel), false, rfl, iteT (q _ (Same.refl _))⟩
        | int i => exact ⟨_, .ty _, _, _, false, rfl, .ty _, hx0.ty, kit_ty (show kitB "int" "str" = some false by decide +kernel), false, rfl, iteT (q _ (Same.refl _))⟩
        | list x => exact ⟨_, .ty _, _, _, false, rfl, .ty _, hx0.ty, kit_ty (show kitB "list" "str" = some false by decide +kernel), false, rfl, iteT (q _ (Same.refl _))⟩
        | tuple x => exact ⟨_, .ty _, _, _, false, rfl, .ty _, hx0.ty, kit_ty (show kitB "tuple" "str" = some false by decide +kernel), false, rfl, iteT (q _ (Same.refl _))⟩
        | dict x => exact ⟨_, .ty _, _, _, false, rfl, .ty _, hx0.ty, kit_ty (show kitB "dict" "str" = some false by decide +kernel), false, rfl, iteT (q _ (Same.refl _))⟩
        | str k =>
          have ex : x = .str k := by cases he; rfl
          subst ex
          refine ⟨_, .ty _, _, _, true, rfl, .ty _, hx0.ty, kit_ty (show kitB "str" "str" = some true by decide +kernel), true, rfl, iteF ?_⟩
          have he2 : isGate n (.tuple (.str k :: es)) = match named k with
            | some m => decide (es.length = m) && es.all (isBelow n)
            | none => false := rfl
          refine ⟨fun σ' H' => ∃ m : Nat, named k = some m ∧ σ' = [some (.ref a), some (.int n), some (.int m)] ∧ H' = H, ?_, ?_⟩
          · refine ⟨_, rfl, _, _, _, _, rfl, rfl, SqT.of ha, hat, aP, pairedV, rfl, .inr (hP H), rfl, rfl, _, rfl, ?_⟩
            refine ite2 (fun z => ?_) (fun z => ?_)
            · have z : inV (.str k) pairedV = true := z
              rw [in_paired] at z
              exact ⟨2, by unfold named; rw [if_pos (of_decide_eq_true z)], rfl, rfl⟩
            have z1 : ¬ (k = "and" ∨ k = "or" ∨ k = "xor" ∨ k = "but") := fun y => z (by show inV (.str k) pairedV = true; rw [in_paired]; exact decide_eq_true y)
            refine ⟨_, rfl, _, _, _, _, rfl, rfl, SqT.of ha, hat, rfl, _, rfl, ?_⟩
            refine ite2 (fun z => ?_) (fun z => ?_)
            · have z : k = "not" := V.str.inj (of_decide_eq_true z)
              exact ⟨1, by unfold named; rw [if_neg z1, if_pos z], rfl, rfl⟩
            have z2 : ¬ k = "not" := fun y => z (decide_eq_true (congrArg V.str y))
            refine ⟨_, rfl, _, _, _, _, rfl, rfl, SqT.of ha, hat, rfl, _, rfl, ?_⟩
            refine ite2 (fun z => ?_) (fun z => ?_)
            · have z : k = "one" := V.str.inj (of_decide_eq_true z)
              exact ⟨0, by unfold named; rw [if_neg z1, if_neg z2, if_pos z], rfl, rfl⟩
            have z3 : ¬ k = "one" := fun y => z (decide_eq_true (congrArg V.str y))
            have e0 : named k = none := by unfold named; rw [if_neg z1, if_neg z2, if_neg z3]
            rw [he2, e0] at q
            exact q _ (Same.refl _)
          · rintro σ' H' ⟨m, hm, rfl, rfl⟩
            have q : ∀ H1, Same H' H1 → Q (.bl (decide (es.length = m) && es.all (isBelow n))) H1 := fun H1 s1 => by
              have z := q H1 s1
              rw [he2, hm] at z
              exact z
            have hlen2 : xs.length = es.length := hes.length
            refine ⟨_, rfl, _, (.str k :: xs).length, rfl, .inr ⟨_, SqT.of ha, rfl⟩, _, rfl, _, _, rfl, rfl, rfl, _, rfl, ?_⟩
            refine ite2 (fun z => ?_) (fun z => ?_)
            · have z := V.int.inj (of_decide_eq_true z)
              rw [List.length_cons] at z
              have z : es.length = m := by omega
              rw [decide_eq_true z, Bool.true_and] at q
              refine ⟨_, rfl, 1, rfl, a, _, rfl, SqT.of ha, tail_part _ _, fun p hp => ?_⟩
              rw [cut_tail]
              refine ⟨_, rfl, _, .tuple es, n, rfl, .inl (.tup upd_same (hes.same (same_upd hp))), ?_, fun H2 s2 => q H2 ((same_upd hp).trans s2)⟩
              intro ds' e'
              cases e'
              have := hl _ rfl
              rw [List.length_cons] at this
              omega
            · have z : ¬ es.length = m := fun y => z (decide_eq_true (congrArg V.int (by rw [List.length_cons]; omega)))
              rw [decide_eq_false z, Bool.false_and] at q
              exact q _ (Same.refl _)
end
end Sb

set_option linter.all false
set_option maxRecDepth 100000
set_option maxHeartbeats 4000000
namespace PySem
theorem meets_enumerate_newT (l : Addr) (items : Array Value) (n : Nat) (dct : Option Addr) (sl : Array (Option Value)) :
    Meets (Builtin.«enumerate.__new__» ⟨[.type "enumerate", .ref l], []⟩) (fun _ R s => s.heap.get? l = some { cls := .type "tuple", dict := dct, data := .seq items n, slots := sl } ∧
      R (.ok (.ret (.ref (s.heap.push { cls := .type "tuple_iterator", data := .fields #[.ref l, .int 0 0] }).objs.size)))
        { s with heap := (s.heap.push { cls := .type "tuple_iterator", data := .fields #[.ref l, .int 0 0] }).push { cls := .type "enumerate", data := .fields #[.none, .bool false, .ref s.heap.objs.size, rawInt 0, .none, .none] } }) :=
  .of_wp fun prog w A R s h => by
    obtain ⟨hp, g, d, tk, os⟩ := s
    obtain ⟨hl, h⟩ := h
    have hsub := sub_enumerate
    have hL : Heap.IsTuple (Shared.heap ⟨hp, g, d, tk, os⟩) l items := ⟨_, hl, rfl, n, rfl⟩
    wp_walk using AutoSeq1.wpAny_loadPart' hl
    refine wpAny_stack_any fun st => wpAny_pure ?_
    split
    · rename_i c _ _ _ _ _
      cases (c == Value.type "enumerate")
      · wp_walk using AutoSeq1.wpAny_loadPart' hl, wpAny_pyIter_tuple hL
        exact ⟨_, rfl, h⟩
      · wp_walk using AutoSeq1.wpAny_loadPart' hl, wpAny_pyIter_tuple hL
        exact ⟨_, rfl, h⟩
    · wp_walk using AutoSeq1.wpAny_loadPart' hl, wpAny_pyIter_tuple hL
      exact ⟨_, rfl, h⟩
/-- the fields of a new enumerate object -/
abbrev enumF (it : Addr) : Array Value := #[.none, .bool false, .ref it, rawInt 0, .none, .none]
section
variable {prog : Program} {w : World} {A : Around} {E : Value → Shared → Prop} {s : Shared}
theorem call_enumerate_tuple {l : Addr} {items : Array Value} {Q : Value → Shared → Prop} (hL : s.heap.IsTuple l items)
    (h : ∀ h', IsEnum h' (s.heap.objs.size + 1) s.heap.objs.size 0 .none → h'.IsTupleIter s.heap.objs.size l 0 → h'.objs.size = s.heap.objs.size + 2 →
      (∀ b o, s.heap.get? b = some o → h'.get? b = some o) → Q (.ref (s.heap.objs.size + 1)) { s with heap := h' }) :
    wpAny (model prog w) A (call (.type "enumerate") [.ref l]) Q E s := by
  obtain ⟨⟨c, dct, dt, sl⟩, hl, hc, n, hd⟩ := hL
  have hc : c = .type "tuple" := hc
  have hd : dt = .seq items n := hd
  subst hc hd
  refine callType_new F.called_enumerate (by decide) (F.typeCall_enumerate_1 _) (F.newCall_enumerate_1 _) (fun o9 => F.args_object_init_2 o9 _) F.entry_enumerate_new
    (meets_enumerate_newT l items n dct sl) ⟨hl, ?_⟩
  have hz : (s.heap.push { cls := .type "tuple_iterator", data := .fields #[.ref l, .int 0 0] }).objs.size = s.heap.objs.size + 1 := Heap.size_push ..
  show _ ∧ _
  rw [hz]
  have he : IsEnum ((s.heap.push { cls := .type "tuple_iterator", data := .fields #[.ref l, .int 0 0] }).push
      { cls := .type "enumerate", data := .fields (enumF s.heap.objs.size) }) (s.heap.objs.size + 1) s.heap.objs.size 0 .none := by
    have z := Heap.get?_push_size (s.heap.push { cls := .type "tuple_iterator", data := .fields #[.ref l, .int 0 0] })
      (o := { cls := .type "enumerate", data := .fields (enumF s.heap.objs.size) }) rfl
    rw [hz] at z
    exact z
  exact ⟨⟨_, he, rfl⟩, h _ he ⟨_, Heap.get?_push_of_some _ (Heap.get?_push_size _ rfl), rfl, rfl⟩ (by rw [Heap.size_push, hz]) fun b o x => Heap.get?_push_of_some _ (Heap.get?_push_of_some _ x)⟩
end
end PySem
namespace L2
open PySem PySem.Spec PyProof.Rows
/-! ### a tuple walked with held places -/
def IteT (K : PySem.W.Frag) (a : Addr) : It :=
  ⟨fun i H => ∃ (xs : List V) (x : V), SqT K H a xs ∧ xs[i]? = some x, fun i H v H' => ∃ T x, v = .ref T ∧ H T = none ∧ H' = upd H T (.tup [.int (i : Nat), x]) ∧ ∀ xs, SqT K H a xs → xs[i]? = some x, fun i H => ∃ xs : List V, SqT K H a xs ∧ xs.length ≤ i⟩
theorem turn_enumT {P : Program} {w : World} {K : PySem.W.Frag} {elts : List Expr} {kk : Nat} {tpos : Pos} (a en ti : Addr) :
    Turn P w K (.Tuple elts kk tpos) (IteT K a) [en, ti] en (fun i h => (∃ was, IsEnum h en ti ((i : Nat) : Int) was) ∧ h.IsTupleIter ti a i ∧ en ≠ ti) where
  mem := by simp
  obj := fun i h st b mb => by
    obtain ⟨⟨was, he⟩, ⟨o, ho, hc, hd⟩, _⟩ := st
    have or2 : b = en ∨ b = ti := by simpa using mb
    rcases or2 with zq | zq
    · rw [zq]; exact ⟨_, he, fun v q => nomatch q⟩
    · rw [zq]; exact ⟨o, ho, fun v q => by rw [hd] at q; cases q⟩
  keep := fun i h h' st k => let ⟨⟨was, he⟩, hi, apart⟩ := st; ⟨⟨was, k en (by simp) _ he⟩, hi.at fun o q => k ti (by simp) o q, apart⟩
  item := by
    intro X hP hw hK hc i kept0 s σ H E I hf st hg
    subst hP hw hK
    obtain ⟨⟨was, he⟩, atI, apart⟩ := st
    obtain ⟨xs, x, hq, hx⟩ := hg
    obtain ⟨held, vs2, p, zl⟩ := I.tuple hq
    obtain ⟨u, hu, ru⟩ := vs2.get hx
    have eOld : en < s.heap.objs.size := Heap.lt_size he
    have itOld : ti < s.heap.objs.size := by obtain ⟨_, q, _⟩ := atI; exact Heap.lt_size q
    have aIt : a ≠ ti := fun zq => by
      obtain ⟨o1, q1, c1, _⟩ := p
      obtain ⟨o2, q2, c2, _⟩ := atI
      rw [zq, q2] at q1
      cases q1
      rw [c2] at c1
      exact absurd (Value.type.inj c1) (by decide)
    have aEn : a ≠ en := fun zq => by
      obtain ⟨o1, q1, c1, _⟩ := p
      have he' : s.heap.get? en = some _ := he
      rw [zq, he'] at q1
      cases q1
      exact absurd (Value.type.inj c1) (by decide)
    have drw := Draws.tuple (prog := X.prog) (w := X.w) (A := X.A.in1) (show X.A.in1.handled = none from I.ok.hd hc) ti a aIt held.toArray
    have inside : i < held.toArray.size := by
      have := (List.getElem?_eq_some_iff.mp hu).1
      simpa using this
    refine wpAny_pyNext_enum_itemD drw he ⟨atI, p⟩ inside apart (by simp; exact ⟨apart, fun zq => aEn zq.symm⟩) fun u' h' tk hP ho hst newT hsz hk => ?_
    have eu : u' = u := by
      have zq : held.toArray[i]? = some u := by simpa using hu
      rw [zq] at hP
      exact (Option.some.inj hP).symm
    subst eu
    have hit' : h'.IsTupleIter ti a (i + 1) := hst.1
    refine ⟨_, rfl, wpAny_letOwnedTupleGo_enum (s := { s with heap := h', toks := tk + 1 }) ho fun h'' he' sb => ?_⟩
    have got2 : h''.get? s.heap.objs.size = some { cls := .type "tuple", data := .seq #[.int i tk, u'] } := (sb.2 _ (Nat.ne_of_gt eOld)).trans newT
    have new : ObjOk X.prog X.w (upd H s.heap.objs.size (.tup [.int (i : Nat), x])) h'' s.heap.objs.size (.tup [.int (i : Nat), x]) :=
      ⟨by show 2 ≤ sizeLine; decide, [.int i tk, u'], .cons ⟨_, rfl⟩ (.cons ru .nil), ⟨_, got2, rfl, _, rfl⟩⟩
    have I1 : Inv X kept0 σ (upd H s.heap.objs.size (.tup [.int (i : Nat), x])) { s with heap := h'', toks := tk + 1 } :=
      I.turnedNew (ch := [en, ti]) (fun b ob mb q => (sb.2 b (fun zq => mb (by simp [zq]))).trans (hk b ob (fun zq => mb (by simp [zq])) (fun zq => mb (by simp [zq])) q)) hf (Nat.le_refl _) new
    refine ⟨.ref s.heap.objs.size, _, I1, rfl, ⟨_, x, rfl, I.hok.fresh (Nat.le_refl _), rfl, fun ys hy => by rw [I.tuple_inj hy hq]; exact hx⟩, ⟨⟨u', ?_⟩, hit'.at fun o q => (sb.2 ti (Ne.symm apart)).trans q, apart⟩, fun b mb => ?_⟩
    · have e1 := Int.natCast_succ i
      rw [e1]; exact he'
    · have bs9 : b < s.heap.objs.size := by
        have or2 : b = en ∨ b = ti := by simpa using mb
        rcases or2 with zq | zq
        · rw [zq]; exact eOld
        · rw [zq]; exact itOld
      rw [upd_ne (Nat.ne_of_lt bs9)]
      exact (hf b mb).1
  done := by
    intro X hP hw hK hc i kept0 s σ H E I hf st hg
    subst hP hw hK
    obtain ⟨⟨was, he⟩, atI, apart⟩ := st
    obtain ⟨xs, hq, hx⟩ := hg
    obtain ⟨held, vs2, p, zl⟩ := I.tuple hq
    obtain ⟨f0, f1, f2, f3, f4, f5⟩ := hf ti (by simp)
    have len0 := vs2.length
    have aIt : a ≠ ti := fun zq => by
      obtain ⟨o1, q1, c1, _⟩ := p
      obtain ⟨o2, q2, c2, _⟩ := atI
      rw [zq, q2] at q1
      cases q1
      rw [c2] at c1
      exact absurd (Value.type.inj c1) (by decide)
    -- at the end or past ti: nothing is left
    have hn : held.toArray[i]? = none := by simp; omega
    have newT : s.TypeIs (.ref en) "enumerate" := ⟨_, he, rfl⟩
    unfold pyNext
    refine wpAny_bind (wpAny_attempt (wpAny_callSpecial?_slot (name := Str.ofString "__next__") newT F.slot_enumerate_next
      (wpAny_call_entry F.slot_enumerate_next newT F.entry_enumerate_next ?_ (F.args_enumerate_next_1 _))))
    show wpAny _ _ (field (.ref en) 2 >>= _) _ _ _
    refine wpAny_bind (wpAny_field he rfl (x := .ref ti) rfl ?_)
    refine wpAny_bind (wpAny_nextOf_tuple_end (show X.A.in1.handled = none from I.ok.hd hc) atI p hn fun h' x he' hx' => ?_)
    obtain ⟨o, ho, hc⟩ := hx'
    refine wpAny_bind (wpAny_isInstance (T := "StopIteration") (b := true) ⟨o, ho, hc⟩ isSubtype_stop ?_)
    exact wpAny_pure ⟨rfl, I.turned (t' := s.toks) (fun b o mb q => he' b o mb q) f0 f1 f3 f4 f5⟩
  self := fun A i s Q E st h => let ⟨⟨_, he⟩, _⟩ := st; wpAny_pyIter_enum he h
def iEnumT (K : PySem.W.Frag) (ta : TA) : TI := fun σ H R => ta σ H fun vs H1 => ∃ a xs, vs = [.ref a] ∧ SqT K H1 a xs ∧ R (IteT K a) H1
theorem pi_enumT {X : Cx} {en : Expr} {ta : TA} {p pos tpos : Pos} {elts : List Expr} {kk : Nat} (hg : Gl X "enumerate") (hm : X.mg "enumerate" = none) (ha : PA X [en] ta) (hs : starEach [en] X.env = [(false, eval en X.env)] := by rfl) :
    PI X (.Tuple elts kk tpos) (.Call (.Name "enumerate" p) [en] [] pos) (iEnumT X.K ta) := by
  refine ⟨fun kept0 s σ H R I h => ?_⟩
  refine Call_ (ld_blt I hg hm boot_enumerate (PyProof.Rows.callWith_type1 (thn (ha.run pos kept0 s σ H _ I h) fun us sh1 ⟨vs, H1, I1, r1, q1⟩ => ?_) hs rfl))
  obtain ⟨a, xs, one1, hq, q⟩ := q1
  subst one1
  cases r1 with
  | cons r rest =>
    cases rest
    cases r
    obtain ⟨held, vs2, p', zl⟩ := I1.tuple hq
    refine call_enumerate_tuple p' fun h' he atI hsz hk => wpAny_pyIter_enum he ?_
    have I2 : Inv X kept0 σ H1 { sh1 with heap := h' } := I1.kept (t' := sh1.toks) hk
    refine ⟨sh1.heap.objs.size + 1, [sh1.heap.objs.size + 1, sh1.heap.objs.size], _, _, H1, rfl, I2, turn_enumT a (sh1.heap.objs.size + 1) sh1.heap.objs.size, ⟨⟨.none, he⟩, atI, Nat.succ_ne_self _⟩, fun b mb => ?_, q⟩
    have or2 : b = sh1.heap.objs.size + 1 ∨ b = sh1.heap.objs.size := by simpa using mb
    have bNew : sh1.heap.objs.size ≤ b := by
      rcases or2 with zq | zq
      · rw [zq]; exact Nat.le_add_right _ _
      · rw [zq]; exact Nat.le_refl _
    exact I1.fpOk bNew (I1.hok.fresh bNew)
/-- for .. in enumerate(a tuple): turns by their number -/
theorem for_enumT {K : PySem.W.Frag} {a : Addr} {xs : List V} {g : TG} {tb : TS} {D : Ends} {σ : St} {H : Hp} (Pv : Nat → St → Hp → Prop) (h0 : Pv 0 σ H) (len0 : ∀ i σ H, i ≤ xs.length → Pv i σ H → SqT K H a xs)
    (hs : ∀ i x σ H T, xs[i]? = some x → Pv i σ H → H T = none → g (.ref T) σ (upd H T (.tup [.int (i : Nat), x])) fun σ2 H2 => tb { D with nx := Pv (i + 1), ct := Pv (i + 1), bk := D.nx } σ2 H2) (hd : ∀ σ H, Pv xs.length σ H → D.nx σ H) :
    ∃ W : Nat → Nat → St → Hp → Prop, (∃ n0, W 0 n0 σ H) ∧ ∀ (i m : Nat) (σ : St) (H : Hp), W i m σ H →
      ((IteT K a).stop i H ∧ D.nx σ H) ∨ ((IteT K a).go i H ∧ ∃ N : St → Hp → Prop, (∀ σ' H', N σ' H' → ∃ m', m' < m ∧ W (i + 1) m' σ' H') ∧ ∀ x H', (IteT K a).yld i H x H' → g x σ H' fun σ2 H2 => tb { D with nx := N, ct := N, bk := D.nx } σ2 H2) := by
  refine ⟨fun j left σ1 H1 => left = xs.length - j ∧ j ≤ xs.length ∧ Pv j σ1 H1, ⟨_, (Nat.sub_zero _).symm, Nat.zero_le _, h0⟩, fun i left σ1 H1 w => ?_⟩
  obtain ⟨rfl, hi, p⟩ := w
  have q := len0 i σ1 H1 hi p
  by_cases inside : i < xs.length
  · refine Or.inr ⟨⟨xs, _, q, List.getElem?_eq_getElem inside⟩, Pv (i + 1), fun σ' H' p' => ⟨_, (by omega : xs.length - (i + 1) < xs.length - i), rfl, inside, p'⟩, fun x H' y => ?_⟩
    obtain ⟨T, x, rfl, newT, rfl, y⟩ := y
    exact hs i x σ1 _ T (y xs q) p newT
  · obtain rfl : i = xs.length := Nat.le_antisymm hi (Nat.not_lt.mp inside)
    exact Or.inl ⟨⟨xs, q, Nat.le_refl _⟩, hd σ1 H1 p⟩
theorem for_enumL {K : PySem.W.Frag} {a : Addr} {xs : List V} {g : TG} {tb : TS} {D : Ends} {σ : St} {H : Hp} (Pv : Nat → St → Hp → Prop) (h0 : Pv 0 σ H) (len0 : ∀ i σ H, i ≤ xs.length → Pv i σ H → SqL K H a xs)
    (hs : ∀ i x σ H T, xs[i]? = some x → Pv i σ H → H T = none → g (.ref T) σ (upd H T (.tup [.int (i : Nat), x])) fun σ2 H2 => tb { D with nx := Pv (i + 1), ct := Pv (i + 1), bk := D.nx } σ2 H2) (hd : ∀ σ H, Pv xs.length σ H → D.nx σ H) :
    ∃ W : Nat → Nat → St → Hp → Prop, (∃ n0, W 0 n0 σ H) ∧ ∀ (i m : Nat) (σ : St) (H : Hp), W i m σ H →
      ((Ite K a).stop i H ∧ D.nx σ H) ∨ ((Ite K a).go i H ∧ ∃ N : St → Hp → Prop, (∀ σ' H', N σ' H' → ∃ m', m' < m ∧ W (i + 1) m' σ' H') ∧ ∀ x H', (Ite K a).yld i H x H' → g x σ H' fun σ2 H2 => tb { D with nx := N, ct := N, bk := D.nx } σ2 H2) := by
  refine ⟨fun j left σ1 H1 => left = xs.length - j ∧ j ≤ xs.length ∧ Pv j σ1 H1, ⟨_, (Nat.sub_zero _).symm, Nat.zero_le _, h0⟩, fun i left σ1 H1 w => ?_⟩
  obtain ⟨rfl, hi, p⟩ := w
  have q := len0 i σ1 H1 hi p
  by_cases inside : i < xs.length
  · refine Or.inr ⟨⟨xs, _, q, List.getElem?_eq_getElem inside⟩, Pv (i + 1), fun σ' H' p' => ⟨_, (by omega : xs.length - (i + 1) < xs.length - i), rfl, inside, p'⟩, fun x H' y => ?_⟩
    obtain ⟨T, x, rfl, newT, rfl, y⟩ := y
    exact hs i x σ1 _ T (y xs q) p newT
  · obtain rfl : i = xs.length := Nat.le_antisymm hi (Nat.not_lt.mp inside)
    exact Or.inl ⟨⟨xs, q, Nat.le_refl _⟩, hd σ1 H1 p⟩
end L2

set_option linter.all false
set_option maxRecDepth 100000
set_option maxHeartbeats 4000000
namespace Sb
open PySem PySem.Spec PyProof.Rows L2
theorem iteN {b : Bool} {A B : Prop} (e : b = true) (k : B) : if (!b) = true then A else B := by rw [e]; exact iteF k
/-- a circuit as data -/
structure Cd where
  m : Nat
  rs : List PyData
  gs : List PyData
  ns : List PyData
  os : List PyData
def Cd.many (c : Cd) : Nat := c.m + c.rs.length + c.gs.length
structure Cd.Ok (c : Cd) : Prop where
  rs : c.rs.all (isBelow 2) = true
  gs : ∀ (i : Nat) g, c.gs[i]? = some g → isGate ((c.m + c.rs.length + i : Nat) : Int) g = true
  gz : ∀ g ∈ c.gs, short g
  nl : c.ns.length = c.rs.length
  ns : c.ns.all (isBelow (c.many : Int)) = true
  os : c.os.all (isBelow (c.many : Int)) = true
  zr : c.rs.length ≤ 1000
  zg : c.gs.length ≤ 1000
  zo : c.os.length ≤ 1000
def RowV (H : Hp) (v : V) (ds : List PyData) : Prop := ∃ a xs, v = .ref a ∧ (H a = some (.lst xs) ∨ H a = some (.tup xs)) ∧ Das H xs ds
theorem RowV.same {H H' : Hp} {v : V} {ds : List PyData} (s : Same H H') (h : RowV H v ds) : RowV H' v ds := by
  obtain ⟨a, xs, rfl, h, hs⟩ := h
  refine ⟨a, xs, rfl, ?_, hs.same s⟩
  rcases h with h | h
  · exact .inl (s _ _ h)
  · exact .inr (s _ _ h)
theorem RowV.dx {H : Hp} {v : V} {ds : List PyData} (h : RowV H v ds) : ∃ d, Dx H v d ∧ rowOf d = some ds := by
  obtain ⟨a, xs, rfl, h, hs⟩ := h
  rcases h with h | h
  · exact ⟨.list ds, .inl (.lst h hs), rfl⟩
  · exact ⟨.tuple ds, .inl (.tup h hs), rfl⟩
theorem RowV.len {K : PySem.W.Frag} {H : Hp} {v : V} {ds : List PyData} (h : RowV H v ds) : LenV K v H ds.length := by
  obtain ⟨a, xs, rfl, h, hs⟩ := h
  rcases h with h | h
  · exact .inl ⟨xs, SqL.of h, hs.length.symm⟩
  · exact .inr ⟨xs, SqT.of h, hs.length.symm⟩
theorem short_of {d : PyData} {ds : List PyData} (e : rowOf d = some ds) (h : ds.length ≤ 1000) : short d := fun es e2 => by
  rw [e] at e2
  cases e2
  omega
def TupD (H : Hp) (a : Addr) (ds : List PyData) : Prop := ∃ xs, H a = some (.tup xs) ∧ Das H xs ds
theorem TupD.same {H H' : Hp} {a : Addr} {ds : List PyData} (s : Same H H') (h : TupD H a ds) : TupD H' a ds := by
  obtain ⟨xs, h, hs⟩ := h
  exact ⟨xs, s _ _ h, hs.same s⟩
def cfs (m : Int) (r g n o : Addr) : List (Str × V) := [("inputs", .int m), ("resets", .ref r), ("gates", .ref g), ("nexts", .ref n), ("outputs", .ref o)]
def CircAt (H : Hp) (p C : Addr) (c : Cd) : Prop := ∃ dx r g n o, H p = some (.ins C dx (cfs c.m r g n o)) ∧ TupD H r c.rs ∧ TupD H g c.gs ∧ TupD H n c.ns ∧ TupD H o c.os
structure Cc (K : PySem.W.Frag) (C : Addr) : Prop where
  cl : Cls K C
  n1 : NoAttr K C "inputs"
  n2 : NoAttr K C "resets"
  n3 : NoAttr K C "gates"
  n4 : NoAttr K C "nexts"
  n5 : NoAttr K C "outputs"
def spInit (C : Addr) : Sp := fun vs H Q _ => ∃ (p dx : Addr) (v2 v3 v4 v5 : V) (c : Cd), vs = [.ref p, .int c.m, v2, v3, v4, v5] ∧ H p = some (.ins C dx []) ∧ RowV H v2 c.rs ∧ RowV H v3 c.gs ∧ RowV H v4 c.ns ∧ RowV H v5 c.os ∧ c.Ok ∧
  ∀ H', (∀ b o, H b = some o → b ≠ p → H' b = some o) → CircAt H' p C c → Q .non H'
section
variable {P : Program} {w : World} {K : PySem.W.Frag} {mg : Str → Option Value} {base : Heap}
theorem sc_init : FnScope ["self", "inputs", "resets", "gates", "nexts", "outputs", "ahead", "index", "gate", "many"] ["self", "inputs", "resets", "gates", "nexts", "outputs"] (defScope (inClass (top 16) 0)) := ⟨rfl, rfl, rfl, by decide +kernel, rfl, by decide +kernel, by decide +kernel⟩
theorem RowV.kp {H H' : Hp} {v : V} {ds : List PyData} (k : Kp H H') (h : RowV H v ds) : RowV H' v ds := by
  obtain ⟨a, xs, rfl, h, hs⟩ := h
  refine ⟨a, xs, rfl, ?_, Das.kp k _ _ hs⟩
  rcases h with h | h
  · exact .inl (k.l _ _ h)
  · exact .inr (k.t _ _ h)
theorem TupD.kp {H H' : Hp} {a : Addr} {ds : List PyData} (k : Kp H H') (h : TupD H a ds) : TupD H' a ds := by
  obtain ⟨xs, h, hs⟩ := h
  exact ⟨xs, k.t _ _ h, Das.kp k _ _ hs⟩
/-- all but what stands at p -/
def SameB (p : Addr) (H H' : Hp) : Prop := ∀ b o, H b = some o → b ≠ p → H' b = some o
theorem SameB.trans {p : Addr} {H H1 H2 : Hp} (a : SameB p H H1) (b : SameB p H1 H2) : SameB p H H2 := fun c o h n => b c o (a c o h n) n
theorem SameB.of {p : Addr} {H H' : Hp} (s : Same H H') : SameB p H H' := fun b o h _ => s b o h
theorem SameB.upd {p : Addr} {H : Hp} {o : HO} : SameB p H (upd H p o) := fun b u h n => by rw [upd_ne n]; exact h
theorem SameB.kp {p C dx : Addr} {fs : List (Str × V)} {H H' : Hp} (s : SameB p H H') (h : H p = some (.ins C dx fs)) : Kp H H' :=
  ⟨fun a xs e => s a _ e (ne_of e h (by intro z; cases z)), fun a xs e => s a _ e (ne_of e h (by intro z; cases z))⟩
def rTupC (K : PySem.W.Frag) : List V → Hp → VK → Prop := fun xs H Q => ∃ p ys, xs = [V.ref p] ∧ ((SqL K H p ys ∧ ∀ l, H l = none → Q (.ref l) (upd H l (.tup ys))) ∨ (SqT K H p ys ∧ Q (.ref p) H))
theorem set_tup {p C dx : Addr} {fs : List (Str × V)} {f : Str} {i : Nat} {v : V} {ds : List PyData} {D : Ends} {σ : L2.St} {H : Hp} (h0 : σ[0]? = some (some (.ref p))) (hi : σ[i]? = some (some v)) (h : RowV H v ds) (hp : H p = some (.ins C dx fs)) (cl : Cls K C) (no : NoAttr K C f) (few : fs.length < 1000)
    (k : ∀ r H', SameB p H H' → TupD H' r ds → H' p = some (.ins C dx (putF f (.ref r) fs)) → D.nx σ H') : sFld K (tVar 0) (tCB (rTupC K) (tCons (tVar i) tNil)) f D σ H := by
  have fin : ∀ (r : Addr) (xs : List V) (H1 : Hp), Same H H1 → H1 r = some (.tup xs) → Das H1 xs ds → ∃ v, σ[0]? = some (some v) ∧ ∃ p C dx fs, v = V.ref p ∧ H1 p = some (.ins C dx fs) ∧ Cls K C ∧ NoAttr K C f ∧ fs.length < 1000 ∧ D.nx σ (upd H1 p (.ins C dx (putF f (.ref r) fs))) := fun r xs H1 s hr hs => by
    have hp1 := s _ _ hp
    have kk : Kp H1 (upd H1 p (.ins C dx (putF f (.ref r) fs))) := SameB.upd.kp hp1
    exact ⟨_, h0, p, C, dx, fs, rfl, hp1, cl, no, few, k r _ ((SameB.of s).trans SameB.upd) ⟨xs, kk.t _ _ hr, Das.kp kk _ _ hs⟩ upd_same⟩
  obtain ⟨a, xs, rfl, h, hs⟩ := h
  rcases h with h | h
  · exact ⟨_, hi, a, xs, rfl, .inl ⟨SqL.of h, fun l hl => fin l xs _ (same_upd hl) upd_same (hs.same (same_upd hl))⟩⟩
  · exact ⟨_, hi, a, xs, rfl, .inr ⟨SqT.of h, fin a xs _ (Same.refl H) h hs⟩⟩
theorem ok_init {f C a1 a2 a3 a4 a5 : Addr} {fd e1 e2 e3 e4 e5 : FuncData} (F : Fun K "__init__" "Circuit.__init__" (inClass (top 16) 0) f fd) (T : Bv mg) (TC : Cc K C)
    (Fis_from : Fn K mg P w base CX0 "is_from" 2 a1 e1 ["value", "low"] spFrom) (Fis_row : Fn K mg P w base CX0 "is_row" 1 a2 e2 ["value"] spIsRow) (Fis_bits : Fn K mg P w base CX0 "is_bits" 3 a3 e3 ["value", "many"] spBits)
    (F_is_gate : Fn K mg P w base CX0 "_is_gate" 4 a4 e4 ["value", "ahead"] spGate) (F_are_signals : Fn K mg P w base CX0 "_are_signals" 3 a5 e5 ["value", "many"] spSignals) : FnOk P w K mg base CX0 5 f fd ["self", "inputs", "resets", "gates", "nexts", "outputs"] (spInit C) := by
  have sc := sc_init
  refine F.ok sc_init (fun vs H Q E h => ?_) (fun cdv A outer s H vs Q E hr h => ?_)
  · obtain ⟨p, dx, v2, v3, v4, v5, c, rfl, _⟩ := h
    rfl
  · obtain ⟨p, dx, v2, v3, v4, v5, c, rfl, hp, h2, h3, h4, h5, ok, q⟩ := h
    obtain ⟨d2, x2, r2⟩ := h2.dx
    obtain ⟨d3, x3, r3⟩ := h3.dx
    obtain ⟨d4, x4, r4⟩ := h4.dx
    obtain ⟨d5, x5, r5⟩ := h5.dx
    have zg := ok.zg
    have eb2 : isBits (c.rs.length : Int) d2 = true := by unfold isBits; rw [r2]; show (decide ((c.rs.length : Int) = c.rs.length) && c.rs.all (isBelow 2)) = true; rw [ok.rs, decide_eq_true rfl]; rfl
    have es4 : areSignals (c.many : Int) d4 = true := by unfold areSignals; rw [r4]; exact ok.ns
    have es5 : areSignals (c.many : Int) d5 = true := by unfold areSignals; rw [r5]; exact ok.os
    obtain ⟨a3, xs3, ev3, ha3, hs3⟩ := id h3
    subst ev3
    have hl3 := hs3.length
    rcases ha3 with ha3 | ha3
    · refine ⟨_, (pss_cons (ps_if (pt_not (pt_val (pe_call Fis_from.G (hr.mono (by decide)) (by rfl) Fis_from.g Fis_from.k Fis_from.b .nil pass0 (pa_cons (pv 1) (pa_cons pe_int pa_nil))))) (pss_one ps_never) pss_nil)
      (pss_cons (ps_if (PW.pt (pw_or (pt_not (pt_val (pe_call Fis_row.G (hr.mono (by decide)) (by rfl) Fis_row.g Fis_row.k Fis_row.b .nil pass0 (pa_cons (pv 2) pa_nil)))) (pw_or1 (pt_not (pt_val (pe_call Fis_bits.G (hr.mono (by decide)) (by rfl) Fis_bits.g Fis_bits.k Fis_bits.b .nil pass0 (pa_cons (pv 2) (pa_cons (pe_callB call_len (by rfl) T.len (by decide +kernel) (pa_cons (pv 2) pa_nil)) pa_nil)))))))) (pss_one ps_never) pss_nil)
      (pss_cons (ps_if (pt_not (pt_val (pe_call Fis_row.G (hr.mono (by decide)) (by rfl) Fis_row.g Fis_row.k Fis_row.b .nil pass0 (pa_cons (pv 3) pa_nil)))) (pss_one ps_never) pss_nil)
      (pss_cons (ps_set (i := 6) sc.nd rfl (.inl rfl) (pe_op op_add (pv 1) (pe_callB call_len (by rfl) T.len (by decide +kernel) (pa_cons (pv 2) pa_nil))))
      (pss_cons (ps_for PassesOwn.never rfl (pi_enum (by rfl) T.enumerate (pa_cons (pv 3) pa_nil)) (pg_tup (by rfl) (pgs_cons (pg_name (i := 7) sc.nd rfl (.inl rfl)) (pgs_cons (pg_name (i := 8) sc.nd rfl (.inl rfl)) pgs_nil))) (pss_one (ps_if (pt_not (pt_val (pe_call F_is_gate.G (hr.mono (by decide)) (by rfl) F_is_gate.g F_is_gate.k F_is_gate.b .nil pass0 (pa_cons (pv 8) (pa_cons (pe_op op_add (pv 6) (pv 7)) pa_nil))))) (pss_one ps_never) pss_nil)))
      (pss_cons (ps_set (i := 9) sc.nd rfl (.inl rfl) (pe_op op_add (pv 6) (pe_callB call_len (by rfl) T.len (by decide +kernel) (pa_cons (pv 3) pa_nil))))
      (pss_cons (ps_if (PW.pt (pw_or (pt_not (pt_val (pe_call F_are_signals.G (hr.mono (by decide)) (by rfl) F_are_signals.g F_are_signals.k F_are_signals.b .nil pass0 (pa_cons (pv 4) (pa_cons (pv 9) pa_nil))))) (pw_or1 (pt_cmpR op_ne (pe_callB call_len (by rfl) T.len (by decide +kernel) (pa_cons (pv 4) pa_nil)) (pe_callB call_len (by rfl) T.len (by decide +kernel) (pa_cons (pv 2) pa_nil)) (nomark _))))) (pss_one ps_never) pss_nil)
      (pss_cons (ps_if (pt_not (pt_val (pe_call F_are_signals.G (hr.mono (by decide)) (by rfl) F_are_signals.g F_are_signals.k F_are_signals.b .nil pass0 (pa_cons (pv 5) (pa_cons (pv 9) pa_nil))))) (pss_one ps_never) pss_nil)
      (pss_cons (ps_fld (pv 0) (pv 1) rfl)
      (pss_cons (ps_fld (pv 0) (pe_callTy call_tuple_of (by rfl) T.tuple (by decide +kernel) (pa_cons (pv 2) pa_nil)) rfl)
      (pss_cons (ps_fld (pv 0) (pe_callTy call_tuple_of (by rfl) T.tuple (by decide +kernel) (pa_cons (pv 3) pa_nil)) rfl)
      (pss_cons (ps_fld (pv 0) (pe_callTy call_tuple_of (by rfl) T.tuple (by decide +kernel) (pa_cons (pv 4) pa_nil)) rfl)
      (pss_one (ps_fld (pv 0) (pe_callTy call_tuple_of (by rfl) T.tuple (by decide +kernel) (pa_cons (pv 5) pa_nil)) rfl)))))))))))))), ?_⟩
      refine ⟨_, rfl, _, .int c.m, 0, rfl, .inl (.int _), _, rfl, iteN (decide_eq_true (Int.natCast_nonneg c.m)) ?_⟩
      refine ⟨_, rfl, _, d2, rfl, x2, fun H1 s1 => ⟨_, rfl, ?_⟩⟩
      rw [r2]
      refine iteF ?_
      refine ⟨_, rfl, _, rfl, _, c.rs.length, rfl, (h2.same s1).len, _, d2, _, rfl, x2.same s1, short_of r2 ok.zr, fun H2 s2 => ⟨_, rfl, ?_⟩⟩
      rw [eb2]
      refine iteF ?_
      refine ⟨_, rfl, _, d3, rfl, (x3.same s1).same s2, fun H3 s3 => ⟨_, rfl, ?_⟩⟩
      rw [r3]
      refine iteF ?_
      have t3 := s1.trans (s2.trans s3)
      refine ⟨_, rfl, _, rfl, _, c.rs.length, rfl, (h2.same t3).len, _, _, rfl, rfl, ?_⟩
      refine at_sig (σ' := [some (.ref p), some (.int c.m), some v2, some (.ref a3), some v4, some v5, some (.int ((c.m + c.rs.length : Nat) : Int)), none, none, none]) rfl ?_
      refine ⟨_, rfl, a3, xs3, rfl, SqL.of (t3 _ _ ha3), for_enumL (K := K) (a := a3) (xs := xs3) (fun i σ' H' => ∃ u1 u2, σ' = [some (.ref p), some (.int c.m), some v2, some (.ref a3), some v4, some v5, some (.int ((c.m + c.rs.length : Nat) : Int)), u1, u2, none] ∧ Same H H') ⟨none, none, rfl, t3⟩ ?_ ?_ ?_⟩
      · rintro i σ' H' _ ⟨u1, u2, rfl, t⟩
        exact SqL.of (t _ _ ha3)
      · rintro i x σ' H' TT hi ⟨u1, u2, rfl, t⟩ hT
        obtain ⟨g, hg, hx⟩ := hs3.get hi
        have eg : isGate (((c.m + c.rs.length : Nat) : Int) + (i : Int)) g = true := by
          have z := ok.gs i g hg
          have e : (((c.m + c.rs.length : Nat) : Int) + (i : Int)) = ((c.m + c.rs.length + i : Nat) : Int) := by omega
          rw [e]
          exact z
        have t' := t.trans (same_upd hT (o := .tup [.int (i : Nat), x]))
        refine ⟨TT, _, rfl, .inl (.inl upd_same), rfl, _, _, rfl, _, _, rfl, rfl, ?_⟩
        refine ⟨_, rfl, _, rfl, _, rfl, _, _, rfl, rfl, _, g, _, rfl, .inl (hx.same t'), ok.gz g (List.mem_of_getElem? hg), fun H4 s4 => ⟨_, rfl, iteN eg ?_⟩⟩
        exact ⟨_, _, rfl, t'.trans s4⟩
      · rintro σ' H' ⟨u1, u2, rfl, t⟩
        refine ⟨_, rfl, _, rfl, _, c.gs.length, rfl, (h3.same t).len, _, _, rfl, rfl, ?_⟩
        refine at_sig (σ' := [some (.ref p), some (.int c.m), some v2, some (.ref a3), some v4, some v5, some (.int ((c.m + c.rs.length : Nat) : Int)), u1, u2, some (.int (c.many : Int))]) rfl ?_
        refine ⟨_, rfl, _, rfl, _, d4, _, rfl, x4.same t, short_of r4 (by rw [ok.nl]; exact ok.zr), fun H4 s4 => ⟨_, rfl, ?_⟩⟩
        rw [es4]
        refine iteF ?_
        have t4 := t.trans s4
        refine ⟨_, rfl, _, c.ns.length, rfl, (h4.same t4).len, _, rfl, _, c.rs.length, rfl, (h2.same t4).len, rfl, _, rfl, ?_⟩
        refine ite2 (fun z => absurd z ?_) (fun _ => ?_)
        · rw [ok.nl]
          simp
        refine ⟨_, rfl, _, rfl, _, d5, _, rfl, x5.same t4, short_of r5 ok.zo, fun H5 s5 => ⟨_, rfl, iteN es5 ?_⟩⟩
        have t5 := t4.trans s5
        refine ⟨_, rfl, _, rfl, p, C, dx, _, rfl, t5 _ _ hp, TC.cl, TC.n1, (by show 0 < 1000; decide), ?_⟩
        have t6 : SameB p H (upd H5 p (.ins C dx (putF "inputs" (.int c.m) []))) := (SameB.of t5).trans SameB.upd
        refine set_tup rfl rfl (h2.kp (t6.kp hp)) upd_same TC.cl TC.n2 (by show 1 < 1000; decide) fun r1 H6 s6 d1 p6 => ?_
        have t7 := t6.trans s6
        refine set_tup rfl rfl (h3.kp (t7.kp hp)) p6 TC.cl TC.n3 (by show 2 < 1000; decide) fun r2 H7 s7 d2 p7 => ?_
        have t8 := t7.trans s7
        refine set_tup rfl rfl (h4.kp (t8.kp hp)) p7 TC.cl TC.n4 (by show 3 < 1000; decide) fun r3 H8 s8 d3 p8 => ?_
        have t9 := t8.trans s8
        refine set_tup rfl rfl (h5.kp (t9.kp hp)) p8 TC.cl TC.n5 (by show 4 < 1000; decide) fun r4 H9 s9 d4 p9 => ?_
        refine q H9 (t9.trans s9) ⟨dx, r1, r2, r3, r4, ?_, ((d1.kp (s7.kp p6)).kp (s8.kp p7)).kp (s9.kp p8), (d2.kp (s8.kp p7)).kp (s9.kp p8), d3.kp (s9.kp p8), d4⟩
        rw [p9]
        exact congrArg (fun x => some (HO.ins C dx x)) (by kernel_rfl)
    · refine ⟨_, (pss_cons (ps_if (pt_not (pt_val (pe_call Fis_from.G (hr.mono (by decide)) (by rfl) Fis_from.g Fis_from.k Fis_from.b .nil pass0 (pa_cons (pv 1) (pa_cons pe_int pa_nil))))) (pss_one ps_never) pss_nil)
      (pss_cons (ps_if (PW.pt (pw_or (pt_not (pt_val (pe_call Fis_row.G (hr.mono (by decide)) (by rfl) Fis_row.g Fis_row.k Fis_row.b .nil pass0 (pa_cons (pv 2) pa_nil)))) (pw_or1 (pt_not (pt_val (pe_call Fis_bits.G (hr.mono (by decide)) (by rfl) Fis_bits.g Fis_bits.k Fis_bits.b .nil pass0 (pa_cons (pv 2) (pa_cons (pe_callB call_len (by rfl) T.len (by decide +kernel) (pa_cons (pv 2) pa_nil)) pa_nil)))))))) (pss_one ps_never) pss_nil)
      (pss_cons (ps_if (pt_not (pt_val (pe_call Fis_row.G (hr.mono (by decide)) (by rfl) Fis_row.g Fis_row.k Fis_row.b .nil pass0 (pa_cons (pv 3) pa_nil)))) (pss_one ps_never) pss_nil)
      (pss_cons (ps_set (i := 6) sc.nd rfl (.inl rfl) (pe_op op_add (pv 1) (pe_callB call_len (by rfl) T.len (by decide +kernel) (pa_cons (pv 2) pa_nil))))
      (pss_cons (ps_for PassesOwn.never rfl (pi_enumT (by rfl) T.enumerate (pa_cons (pv 3) pa_nil)) (pg_tup (by rfl) (pgs_cons (pg_name (i := 7) sc.nd rfl (.inl rfl)) (pgs_cons (pg_name (i := 8) sc.nd rfl (.inl rfl)) pgs_nil))) (pss_one (ps_if (pt_not (pt_val (pe_call F_is_gate.G (hr.mono (by decide)) (by rfl) F_is_gate.g F_is_gate.k F_is_gate.b .nil pass0 (pa_cons (pv 8) (pa_cons (pe_op op_add (pv 6) (pv 7)) pa_nil))))) (pss_one ps_never) pss_nil)))
      (pss_cons (ps_set (i := 9) sc.nd rfl (.inl rfl) (pe_op op_add (pv 6) (pe_callB call_len (by rfl) T.len (by decide +kernel) (pa_cons (pv 3) pa_nil))))
      (pss_cons (ps_if (PW.pt (pw_or (pt_not (pt_val (pe_call F_are_signals.G (hr.mono (by decide)) (by rfl) F_are_signals.g F_are_signals.k F_are_signals.b .nil pass0 (pa_cons (pv 4) (pa_cons (pv 9) pa_nil))))) (pw_or1 (pt_cmpR op_ne (pe_callB call_len (by rfl) T.len (by decide +kernel) (pa_cons (pv 4) pa_nil)) (pe_callB call_len (by rfl) T.len (by decide +kernel) (pa_cons (pv 2) pa_nil)) (nomark _))))) (pss_one ps_never) pss_nil)
      (pss_cons (ps_if (pt_not (pt_val (pe_call F_are_signals.G (hr.mono (by decide)) (by rfl) F_are_signals.g F_are_signals.k F_are_signals.b .nil pass0 (pa_cons (pv 5) (pa_cons (pv 9) pa_nil))))) (pss_one ps_never) pss_nil)
      (pss_cons (ps_fld (pv 0) (pv 1) rfl)
      (pss_cons (ps_fld (pv 0) (pe_callTy call_tuple_of (by rfl) T.tuple (by decide +kernel) (pa_cons (pv 2) pa_nil)) rfl)
      (pss_cons (ps_fld (pv 0) (pe_callTy call_tuple_of (by rfl) T.tuple (by decide +kernel) (pa_cons (pv 3) pa_nil)) rfl)
      (pss_cons (ps_fld (pv 0) (pe_callTy call_tuple_of (by rfl) T.tuple (by decide +kernel) (pa_cons (pv 4) pa_nil)) rfl)
      (pss_one (ps_fld (pv 0) (pe_callTy call_tuple_of (by rfl) T.tuple (by decide +kernel) (pa_cons (pv 5) pa_nil)) rfl)))))))))))))), ?_⟩
      refine ⟨_, rfl, _, .int c.m, 0, rfl, .inl (.int _), _, rfl, iteN (decide_eq_true (Int.natCast_nonneg c.m)) ?_⟩
      refine ⟨_, rfl, _, d2, rfl, x2, fun H1 s1 => ⟨_, rfl, ?_⟩⟩
      rw [r2]
      refine iteF ?_
      refine ⟨_, rfl, _, rfl, _, c.rs.length, rfl, (h2.same s1).len, _, d2, _, rfl, x2.same s1, short_of r2 ok.zr, fun H2 s2 => ⟨_, rfl, ?_⟩⟩
      rw [eb2]
      refine iteF ?_
      refine ⟨_, rfl, _, d3, rfl, (x3.same s1).same s2, fun H3 s3 => ⟨_, rfl, ?_⟩⟩
      rw [r3]
      refine iteF ?_
      have t3 := s1.trans (s2.trans s3)
      refine ⟨_, rfl, _, rfl, _, c.rs.length, rfl, (h2.same t3).len, _, _, rfl, rfl, ?_⟩
      refine at_sig (σ' := [some (.ref p), some (.int c.m), some v2, some (.ref a3), some v4, some v5, some (.int ((c.m + c.rs.length : Nat) : Int)), none, none, none]) rfl ?_
      refine ⟨_, rfl, a3, xs3, rfl, SqT.of (t3 _ _ ha3), for_enumT (K := K) (a := a3) (xs := xs3) (fun i σ' H' => ∃ u1 u2, σ' = [some (.ref p), some (.int c.m), some v2, some (.ref a3), some v4, some v5, some (.int ((c.m + c.rs.length : Nat) : Int)), u1, u2, none] ∧ Same H H') ⟨none, none, rfl, t3⟩ ?_ ?_ ?_⟩
      · rintro i σ' H' _ ⟨u1, u2, rfl, t⟩
        exact SqT.of (t _ _ ha3)
      · rintro i x σ' H' TT hi ⟨u1, u2, rfl, t⟩ hT
        obtain ⟨g, hg, hx⟩ := hs3.get hi
        have eg : isGate (((c.m + c.rs.length : Nat) : Int) + (i : Int)) g = true := by
          have z := ok.gs i g hg
          have e : (((c.m + c.rs.length : Nat) : Int) + (i : Int)) = ((c.m + c.rs.length + i : Nat) : Int) := by omega
          rw [e]
          exact z
        have t' := t.trans (same_upd hT (o := .tup [.int (i : Nat), x]))
        refine ⟨TT, _, rfl, .inl (.inl upd_same), rfl, _, _, rfl, _, _, rfl, rfl, ?_⟩
        refine ⟨_, rfl, _, rfl, _, rfl, _, _, rfl, rfl, _, g, _, rfl, .inl (hx.same t'), ok.gz g (List.mem_of_getElem? hg), fun H4 s4 => ⟨_, rfl, iteN eg ?_⟩⟩
        exact ⟨_, _, rfl, t'.trans s4⟩
      · rintro σ' H' ⟨u1, u2, rfl, t⟩
        refine ⟨_, rfl, _, rfl, _, c.gs.length, rfl, (h3.same t).len, _, _, rfl, rfl, ?_⟩
        refine at_sig (σ' := [some (.ref p), some (.int c.m), some v2, some (.ref a3), some v4, some v5, some (.int ((c.m + c.rs.length : Nat) : Int)), u1, u2, some (.int (c.many : Int))]) rfl ?_
        refine ⟨_, rfl, _, rfl, _, d4, _, rfl, x4.same t, short_of r4 (by rw [ok.nl]; exact ok.zr), fun H4 s4 => ⟨_, rfl, ?_⟩⟩
        rw [es4]
        refine iteF ?_
        have t4 := t.trans s4
        refine ⟨_, rfl, _, c.ns.length, rfl, (h4.same t4).len, _, rfl, _, c.rs.length, rfl, (h2.same t4).len, rfl, _, rfl, ?_⟩
        refine ite2 (fun z => absurd z ?_) (fun _ => ?_)
        · rw [ok.nl]
          simp
        refine ⟨_, rfl, _, rfl, _, d5, _, rfl, x5.same t4, short_of r5 ok.zo, fun H5 s5 => ⟨_, rfl, iteN es5 ?_⟩⟩
        have t5 := t4.trans s5
        refine ⟨_, rfl, _, rfl, p, C, dx, _, rfl, t5 _ _ hp, TC.cl, TC.n1, (by show 0 < 1000; decide), ?_⟩
        have t6 : SameB p H (upd H5 p (.ins C dx (putF "inputs" (.int c.m) []))) := (SameB.of t5).trans SameB.upd
        refine set_tup rfl rfl (h2.kp (t6.kp hp)) upd_same TC.cl TC.n2 (by show 1 < 1000; decide) fun r1 H6 s6 d1 p6 => ?_
        have t7 := t6.trans s6
        refine set_tup rfl rfl (h3.kp (t7.kp hp)) p6 TC.cl TC.n3 (by show 2 < 1000; decide) fun r2 H7 s7 d2 p7 => ?_
        have t8 := t7.trans s7
        refine set_tup rfl rfl (h4.kp (t8.kp hp)) p7 TC.cl TC.n4 (by show 3 < 1000; decide) fun r3 H8 s8 d3 p8 => ?_
        have t9 := t8.trans s8
        refine set_tup rfl rfl (h5.kp (t9.kp hp)) p8 TC.cl TC.n5 (by show 4 < 1000; decide) fun r4 H9 s9 d4 p9 => ?_
        refine q H9 (t9.trans s9) ⟨dx, r1, r2, r3, r4, ?_, ((d1.kp (s7.kp p6)).kp (s8.kp p7)).kp (s9.kp p8), (d2.kp (s8.kp p7)).kp (s9.kp p8), d3.kp (s9.kp p8), d4⟩
        rw [p9]
        exact congrArg (fun x => some (HO.ins C dx x)) (by kernel_rfl)
end
end Sb

set_option linter.all false
set_option maxRecDepth 100000
set_option maxHeartbeats 4000000
namespace Sb
open PySem PySem.Spec PyProof.Rows L2
/-! ### circuits that mean something -/
inductive Kd where
  | and | or | xor | but
  deriving DecidableEq
def Kd.nm : Kd → Str
  | .and => "and"
  | .or => "or"
  | .xor => "xor"
  | .but => "but"
def Kd.val : Kd → Bool → Bool → Bool
  | .and, a, b => a && b
  | .or, a, b => a || b
  | .xor, a, b => a != b
  | .but, a, b => a && !b
inductive Gt where
  | one | not (i : Nat) | two (k : Kd) (i j : Nat)
  deriving DecidableEq
def Gt.enc : Gt → PyData
  | .one => .tuple [.str "one"]
  | .not i => .tuple [.str "not", .int i]
  | .two k i j => .tuple [.str k.nm, .int i, .int j]
def Gt.lt (n : Nat) : Gt → Prop
  | .one => True
  | .not i => i < n
  | .two _ i j => i < n ∧ j < n
def Gt.val (vs : List Bool) : Gt → Bool
  | .one => true
  | .not i => !(vs.getD i false)
  | .two k i j => k.val (vs.getD i false) (vs.getD j false)
def bi : Bool → Int
  | true => 1
  | false => 0
def bv (b : Bool) : V := .int (bi b)
def bd (b : Bool) : PyData := .int (bi b)
def nd (n : Nat) : PyData := .int n
theorem getb {vs : List Bool} {i : Nat} (h : i < vs.length) : (vs.map bv)[i]? = some (.int (bi (vs.getD i false))) := by
  rw [List.getElem?_map, List.getElem?_eq_getElem h, List.getD_eq_getElem?_getD, List.getElem?_eq_getElem h]
  rfl
def spBit (K : PySem.W.Frag) : Sp := fun vs H Q _ => ∃ (v : V) (l : Addr) (g : Gt) (bs : List Bool), vs = [v, .ref l, .int 1] ∧ Da H v g.enc ∧ SqL K H l (bs.map bv) ∧ g.lt bs.length ∧ Q (.int (bi (g.val bs))) H
theorem Da.tup_inv {H : Hp} {v : V} {ds : List PyData} (h : Da H v (.tuple ds)) : ∃ a xs, v = .ref a ∧ H a = some (.tup xs) ∧ Das H xs ds := by
  cases h with
  | tup h hs => exact ⟨_, _, rfl, h, hs⟩
theorem Da.int_inv {H : Hp} {v : V} {i : Int} (h : Da H v (.int i)) : v = .int i := by cases h; rfl
theorem Da.str_inv {H : Hp} {v : V} {i : Str} (h : Da H v (.str i)) : v = .str i := by cases h; rfl
section
variable {P : Program} {w : World} {K : PySem.W.Frag} {mg : Str → Option Value} {base : Heap}
theorem neS {a b : Str} (h : a ≠ b) : decide (V.str a = V.str b) ≠ true := fun z => h (V.str.inj (of_decide_eq_true z))
theorem sc_bit : FnScope ["gate", "values", "ones", "kind", "one", "other"] ["gate", "values", "ones"] (defScope (top 17)) := ⟨rfl, rfl, rfl, by decide +kernel, rfl, by decide +kernel, by decide +kernel⟩
theorem ok_bit {f : Addr} {fd : FuncData} (F : Fun K "_word_of_gate" "_word_of_gate" (top 17) f fd) : FnOk P w K mg base CX0 1 f fd ["gate", "values", "ones"] (spBit K) := by
  have sc := sc_bit
  refine F.ok sc_bit (fun vs H Q E h => ?_) (fun cdv A outer s H vs Q E hr h => ?_)
  · obtain ⟨v, l, g, bs, rfl, _⟩ := h
    rfl
  · obtain ⟨v, l, g, bs, rfl, hg, hl, hlt, q⟩ := h
    refine ⟨_, (pss_cons (ps_set (i := 3) sc.nd rfl (.inl rfl) (pe_ix ix_tup (pv 0) pe_int (fun _ _ => rfl)))
      (pss_cons (ps_if (pt_cmpR op_eq (pv 3) pe_str (nomark _)) (pss_one (ps_ret (pv 2))) pss_nil)
      (pss_cons (ps_set (i := 4) sc.nd rfl (.inl rfl) (pe_ix ix_list (pv 1) (pe_ix ix_tup (pv 0) pe_int (fun _ _ => rfl)) (fun _ _ => rfl)))
      (pss_cons (ps_if (pt_cmpR op_eq (pv 3) pe_str (nomark _)) (pss_one (ps_ret (pe_op op_xor (pv 2) (pv 4)))) pss_nil)
      (pss_cons (ps_set (i := 5) sc.nd rfl (.inl rfl) (pe_ix ix_list (pv 1) (pe_ix ix_tup (pv 0) pe_int (fun _ _ => rfl)) (fun _ _ => rfl)))
      (pss_cons (ps_if (pt_cmpR op_eq (pv 3) pe_str (nomark _)) (pss_one (ps_ret (pe_op op_and (pv 4) (pv 5)))) pss_nil)
      (pss_cons (ps_if (pt_cmpR op_eq (pv 3) pe_str (nomark _)) (pss_one (ps_ret (pe_op op_or (pv 4) (pv 5)))) pss_nil)
      (pss_cons (ps_if (pt_cmpR op_eq (pv 3) pe_str (nomark _)) (pss_one (ps_ret (pe_op op_xor (pv 4) (pv 5)))) pss_nil)
      (pss_one (ps_ret (pe_op op_and (pv 4) (pe_op op_xor (pv 2) (pv 5))))))))))))), ?_⟩
    cases g with
    | one =>
      obtain ⟨a, xs, rfl, ha, hs⟩ := hg.tup_inv
      cases hs with
      | cons h1 t =>
        cases h1.str_inv
        refine ⟨_, rfl, a, _, 0, _, rfl, rfl, SqT.of ha, at_of (j := 0) rfl rfl, ?_⟩
        exact ⟨_, rfl, rfl, _, rfl, ite2 (fun _ => ⟨_, rfl, q⟩) (fun z => absurd (decide_eq_true rfl) z)⟩
    | not i =>
      obtain ⟨a, xs, rfl, ha, hs⟩ := hg.tup_inv
      cases hs with
      | cons h1 t =>
        cases t with
        | cons h2 t2 =>
          cases h1.str_inv
          cases h2.int_inv
          refine ⟨_, rfl, a, _, 0, _, rfl, rfl, SqT.of ha, at_of (j := 0) rfl rfl, ?_⟩
          refine ⟨_, rfl, rfl, _, rfl, ite2 (fun z => absurd z (neS (by decide +kernel))) (fun _ => ?_)⟩
          refine ⟨_, rfl, _, rfl, a, _, 1, _, rfl, rfl, SqT.of ha, at_of (j := 1) rfl rfl, l, _, _, _, rfl, rfl, hl, at_of rfl (getb hlt), ?_⟩
          refine ⟨_, rfl, rfl, _, rfl, ite2 (fun _ => ?_) (fun z => absurd (decide_eq_true rfl) z)⟩
          have q : Q (.int (bi (!(bs.getD i false)))) H := q
          revert q
          cases bs.getD i false <;> intro q <;> exact ⟨_, rfl, _, rfl, _, _, rfl, rfl, q⟩
    | two k i j =>
      obtain ⟨a, xs, rfl, ha, hs⟩ := hg.tup_inv
      cases hs with
      | cons h1 t =>
        cases t with
        | cons h2 t2 =>
          cases t2 with
          | cons h3 t3 =>
            cases h1.str_inv
            cases h2.int_inv
            cases h3.int_inv
            have q : Q (.int (bi (k.val (bs.getD i false) (bs.getD j false)))) H := q
            refine ⟨_, rfl, a, _, 0, _, rfl, rfl, SqT.of ha, at_of (j := 0) rfl rfl, ?_⟩
            refine ⟨_, rfl, rfl, _, rfl, ite2 (fun z => absurd z (neS (by cases k <;> decide +kernel))) (fun _ => ?_)⟩
            refine ⟨_, rfl, _, rfl, a, _, 1, _, rfl, rfl, SqT.of ha, at_of (j := 1) rfl rfl, l, _, _, _, rfl, rfl, hl, at_of rfl (getb hlt.1), ?_⟩
            refine ⟨_, rfl, rfl, _, rfl, ite2 (fun z => absurd z (neS (by cases k <;> decide +kernel))) (fun _ => ?_)⟩
            refine ⟨_, rfl, _, rfl, a, _, 2, _, rfl, rfl, SqT.of ha, at_of (j := 2) rfl rfl, l, _, _, _, rfl, rfl, hl, at_of rfl (getb hlt.2), ?_⟩
            revert q
            cases bs.getD i false <;> cases bs.getD j false <;> cases k <;> intro q
            all_goals first
              | exact ⟨_, rfl, rfl, _, rfl, ite2 (fun _ => ⟨_, rfl, _, rfl, _, _, rfl, rfl, q⟩) (fun z => absurd (decide_eq_true rfl) z)⟩
              | exact ⟨_, rfl, rfl, _, rfl, ite2 (fun z => absurd z (neS (by decide +kernel))) (fun _ => ⟨_, rfl, rfl, _, rfl, ite2 (fun _ => ⟨_, rfl, _, rfl, _, _, rfl, rfl, q⟩) (fun z => absurd (decide_eq_true rfl) z)⟩)⟩
              | exact ⟨_, rfl, rfl, _, rfl, ite2 (fun z => absurd z (neS (by decide +kernel))) (fun _ => ⟨_, rfl, rfl, _, rfl, ite2 (fun z => absurd z (neS (by decide +kernel))) (fun _ => ⟨_, rfl, rfl, _, rfl, ite2 (fun _ => ⟨_, rfl, _, rfl, _, _, rfl, rfl, q⟩) (fun z => absurd (decide_eq_true rfl) z)⟩)⟩)⟩
              | exact ⟨_, rfl, rfl, _, rfl, ite2 (fun z => absurd z (neS (by decide +kernel))) (fun _ => ⟨_, rfl, rfl, _, rfl, ite2 (fun z => absurd z (neS (by decide +kernel))) (fun _ => ⟨_, rfl, rfl, _, rfl, ite2 (fun z => absurd z (neS (by decide +kernel))) (fun _ => ⟨_, rfl, _, rfl, _, rfl, _, _, rfl, rfl, _, _, rfl, rfl, q⟩)⟩)⟩)⟩
end
end Sb

set_option linter.all false
set_option maxRecDepth 100000
set_option maxHeartbeats 4000000
namespace Sb
open PySem PySem.Spec PyProof.Rows L2
structure Ci where
  m : Nat
  rs : List Bool
  gs : List Gt
  ns : List Nat
  os : List Nat
  deriving DecidableEq
def Ci.cd (c : Ci) : Cd := ⟨c.m, c.rs.map bd, c.gs.map Gt.enc, c.ns.map nd, c.os.map nd⟩
def Ci.many (c : Ci) : Nat := c.m + c.rs.length + c.gs.length
structure Ci.Ok (c : Ci) : Prop where
  gs : ∀ (i : Nat) (g : Gt), c.gs[i]? = some g → g.lt (c.m + c.rs.length + i)
  nl : c.ns.length = c.rs.length
  ns : ∀ n ∈ c.ns, n < c.many
  os : ∀ n ∈ c.os, n < c.many
  zm : c.m ≤ 1000
  zr : c.rs.length ≤ 1000
  zg : c.gs.length ≤ 1000
  zo : c.os.length ≤ 1000
def more (gs : List Gt) (vs : List Bool) : List Bool := gs.foldl (fun vs g => vs ++ [g.val vs]) vs
def Ci.vals (c : Ci) (st bs : List Bool) : List Bool := more c.gs (bs ++ st)
def pick (vs : List Bool) (ss : List Nat) : List Bool := ss.map fun n => vs.getD n false
def Ci.outs (c : Ci) (st bs : List Bool) : List Bool := pick (c.vals st bs) c.os
def Ci.nxt (c : Ci) (st bs : List Bool) : List Bool := pick (c.vals st bs) c.ns
theorem more_len : ∀ (gs : List Gt) (vs : List Bool), (more gs vs).length = vs.length + gs.length
  | [], vs => rfl
  | g :: gs, vs => by
    show (more gs (vs ++ [g.val vs])).length = _
    rw [more_len gs, List.length_append]
    show vs.length + 1 + gs.length = vs.length + (gs.length + 1)
    omega
theorem more_take {gs : List Gt} {vs : List Bool} {i : Nat} {g : Gt} (h : gs[i]? = some g) : more (gs.take (i + 1)) vs = more (gs.take i) vs ++ [g.val (more (gs.take i) vs)] := by
  unfold more
  rw [List.take_add_one, h, List.foldl_append]
  rfl
theorem das_bits {H : Hp} : ∀ {bs : List Bool} {xs : List V}, Das H xs (bs.map bd) → xs = bs.map bv
  | [], xs, h => by cases h; rfl
  | b :: bs, xs, h => by
    cases h with
    | cons h t =>
      cases h.int_inv
      rw [das_bits t]
      rfl
theorem das_of_bits {H : Hp} : ∀ (bs : List Bool), Das H (bs.map bv) (bs.map bd)
  | [] => .nil
  | b :: bs => .cons (.int _) (das_of_bits bs)
theorem RowV.lsq {K : PySem.W.Frag} {H : Hp} {v : V} {bs : List Bool} (h : RowV H v (bs.map bd)) : ∃ a, v = .ref a ∧ (SqL K H a (bs.map bv) ∨ SqT K H a (bs.map bv)) := by
  obtain ⟨a, xs, rfl, h, hs⟩ := h
  have e := das_bits hs
  subst e
  rcases h with h | h
  · exact ⟨a, rfl, .inl (SqL.of h)⟩
  · exact ⟨a, rfl, .inr (SqT.of h)⟩
theorem CircAt.same {H H' : Hp} {p C : Addr} {c : Cd} (s : Same H H') (h : CircAt H p C c) : CircAt H' p C c := by
  obtain ⟨dx, r, g, n, o, hp, h1, h2, h3, h4⟩ := h
  exact ⟨dx, r, g, n, o, s _ _ hp, h1.same s, h2.same s, h3.same s, h4.same s⟩
theorem cf_in {m : Int} {r g n o : Addr} : (cfs m r g n o).lookup ("inputs" : Str) = some (.int m) := by kernel_rfl
theorem cf_re {m : Int} {r g n o : Addr} : (cfs m r g n o).lookup ("resets" : Str) = some (.ref r) := by kernel_rfl
theorem cf_ga {m : Int} {r g n o : Addr} : (cfs m r g n o).lookup ("gates" : Str) = some (.ref g) := by kernel_rfl
theorem cf_ne {m : Int} {r g n o : Addr} : (cfs m r g n o).lookup ("nexts" : Str) = some (.ref n) := by kernel_rfl
theorem cf_ou {m : Int} {r g n o : Addr} : (cfs m r g n o).lookup ("outputs" : Str) = some (.ref o) := by kernel_rfl
/-- what a cycle asks -/
structure CycPre (H : Hp) (p C : Addr) (c : Ci) (v2 v3 : V) (st bs : List Bool) : Prop where
  at_ : CircAt H p C c.cd
  ok : c.Ok
  v2 : RowV H v2 (st.map bd)
  v3 : RowV H v3 (bs.map bd)
  l2 : st.length = c.rs.length
  l3 : bs.length = c.m
theorem CycPre.same {H H' : Hp} {p C : Addr} {c : Ci} {v2 v3 : V} {st bs : List Bool} (s : Same H H') (h : CycPre H p C c v2 v3 st bs) : CycPre H' p C c v2 v3 st bs :=
  ⟨h.at_.same s, h.ok, h.v2.same s, h.v3.same s, h.l2, h.l3⟩
theorem vals_len {c : Ci} {st bs : List Bool} (h2 : st.length = c.rs.length) (h3 : bs.length = c.m) : (c.vals st bs).length = c.many := by
  unfold Ci.vals Ci.many
  rw [more_len, List.length_append]
  omega
def spValues (C : Addr) : Sp := fun vs H Q _ => ∃ (p : Addr) (v2 v3 : V) (c : Ci) (st bs : List Bool), vs = [.ref p, v2, v3, .int 1] ∧ CycPre H p C c v2 v3 st bs ∧ ∀ l H', H l = none → Same H H' → H' l = some (.lst ((c.vals st bs).map bv)) → Q (.ref l) H'
def spPicked (K : PySem.W.Frag) : Sp := fun vs H Q _ => ∃ (l s : Addr) (xs : List V) (ss : List Nat), vs = [.ref l, .ref s] ∧ SqL K H l xs ∧ TupD H s (ss.map nd) ∧ (∀ n ∈ ss, n < xs.length) ∧ ss.length ≤ 10000 ∧
  ∀ r H', Same H H' → H' r = some (.tup (ss.map fun n => xs.getD n .non)) → Q (.ref r) H'
def spAnswer (C : Addr) : Sp := fun vs H Q _ => ∃ (p : Addr) (v2 v3 : V) (c : Ci) (st bs : List Bool), vs = [.ref p, v2, v3, .int 1] ∧ CycPre H p C c v2 v3 st bs ∧
  ∀ t o n H', Same H H' → H' t = some (.tup [.ref o, .ref n]) → H' o = some (.tup ((c.outs st bs).map bv)) → H' n = some (.tup ((c.nxt st bs).map bv)) → Q (.ref t) H'
theorem das_nat {H : Hp} : ∀ {ss : List Nat} {xs : List V}, Das H xs (ss.map nd) → xs = ss.map fun n => .int (n : Nat)
  | [], xs, h => by cases h; rfl
  | b :: bs, xs, h => by
    cases h with
    | cons h t =>
      cases h.int_inv
      rw [das_nat t]
      rfl
theorem pick_bits {vs : List Bool} {ss : List Nat} (h : ∀ n ∈ ss, n < vs.length) : (ss.map fun n => (vs.map bv).getD n .non) = (pick vs ss).map bv := by
  unfold pick
  rw [List.map_map]
  apply List.map_congr_left
  intro n hn
  show (vs.map bv).getD n .non = bv (vs.getD n false)
  rw [List.getD_eq_getElem?_getD, getb (h n hn)]
  rfl
section
variable {P : Program} {w : World} {K : PySem.W.Frag} {mg : Str → Option Value} {base : Heap}
theorem sc_values : FnScope ["circuit", "state", "bits", "ones", "values", "gate"] ["circuit", "state", "bits", "ones"] (defScope (top 18)) := ⟨rfl, rfl, rfl, by decide +kernel, rfl, by decide +kernel, by decide +kernel⟩
theorem ok_values {f a1 C : Addr} {fd e1 : FuncData} (F : Fun K "_values" "_values" (top 18) f fd) (T : Bv mg) (TC : Cc K C) (F_word_of_gate : Fn K mg P w base CX0 "_word_of_gate" 1 a1 e1 ["gate", "values", "ones"] (spBit K)) : FnOk P w K mg base CX0 2 f fd ["circuit", "state", "bits", "ones"] (spValues C) := by
  have sc := sc_values
  refine F.ok sc_values (fun vs H Q E h => ?_) (fun cdv A outer s H vs Q E hr h => ?_)
  · obtain ⟨p, v2, v3, c, st, bs, rfl, _⟩ := h
    rfl
  · obtain ⟨p, v2, v3, c, st, bs, rfl, pre, q⟩ := h
    refine ⟨_, (pss_cons (ps_set (i := 4) sc.nd rfl (.inl rfl) (pe_op op_cat (pe_callTy call_list_of (by rfl) T.list (by decide +kernel) (pa_cons (pv 2) pa_nil)) (pe_callTy call_list_of (by rfl) T.list (by decide +kernel) (pa_cons (pv 1) pa_nil))))
      (pss_cons (ps_for PassesOwn.never rfl (pi_tup (pe_fld (pv 0) rfl)) (pg_name (i := 5) sc.nd rfl (.inl rfl)) (pss_one (ps_expr (pe_bm PySem.F.plainAttrs_list PySem.F.slot_list_append PySem.F.type_list_append mt_append (pv 4) (pa_cons (pe_call F_word_of_gate.G (hr.mono (by decide)) (by rfl) F_word_of_gate.g F_word_of_gate.k F_word_of_gate.b .nil pass0 (pa_cons (pv 5) (pa_cons (pv 4) (pa_cons (pv 3) pa_nil)))) pa_nil)))))
      (pss_one (ps_ret (pv 4))))), ?_⟩
    obtain ⟨a3, rfl, h3⟩ := pre.v3.lsq (K := K)
    refine ⟨_, rfl, a3, _, rfl, h3, fun l1 n1 => ?_⟩
    have s1 := same_upd n1 (o := .lst (bs.map bv))
    obtain ⟨a2, rfl, h2⟩ := (pre.v2.same s1).lsq (K := K)
    refine ⟨_, rfl, a2, _, rfl, h2, fun l2 n2 => ?_⟩
    have s2 := same_upd n2 (o := .lst (st.map bv))
    have z1 : bs.length ≤ 1000 := by rw [pre.l3]; exact pre.ok.zm
    have z2 : st.length ≤ 1000 := by rw [pre.l2]; exact pre.ok.zr
    refine ⟨l1, l2, _, _, rfl, rfl, s2 _ _ upd_same, upd_same, ?_, fun l n3 => with_new n3 fun H3 s3 e3 => ?_⟩
    · rw [List.length_map, List.length_map]
      exact Nat.le_trans (by omega : bs.length + st.length ≤ 2000) (by decide)
    have t3 := s1.trans (s2.trans s3)
    have nl : H l = none := (s1.trans s2).free n3
    refine at_sig (σ' := [some (.ref p), some (.ref a2), some (.ref a3), some (.int 1), some (.ref l), none]) rfl ?_
    obtain ⟨dx, r, g, n, o, hp, hr', ⟨xg, hg, hgs⟩, hn', ho'⟩ := pre.at_
    have hgl : xg.length = c.gs.length := by rw [hgs.length]; exact List.length_map ..
    refine ⟨_, rfl, p, C, dx, _, _, rfl, t3 _ _ hp, TC.cl, TC.n3, cf_ga, g, rfl, ⟨_, SqT.of (t3 _ _ hg)⟩, for_tup (K := K) (a := g) (xs := xg) (fun i σ H' => ∃ u, σ = [some (.ref p), some (.ref a2), some (.ref a3), some (.int 1), some (.ref l), u] ∧ Same H H' ∧ H' l = some (.lst ((more (c.gs.take i) (bs ++ st)).map bv))) ⟨none, rfl, t3, ?_⟩ ?_ ?_ ?_⟩
    · rw [e3, ← List.map_append]
      rfl
    · rintro i σ H' _ ⟨u, rfl, t, _⟩
      exact SqT.of (t _ _ hg)
    · rintro i x σ H' hi ⟨u, rfl, t, el⟩
      obtain ⟨d, hd, hx⟩ := hgs.get hi
      obtain ⟨gt, hgt, rfl⟩ : ∃ gt, c.gs[i]? = some gt ∧ gt.enc = d := by
        have hd : (c.gs.map Gt.enc)[i]? = some d := hd
        rw [List.getElem?_map] at hd
        cases e : c.gs[i]? with
        | none => rw [e] at hd; cases hd
        | some y => rw [e] at hd; exact ⟨y, rfl, Option.some.inj hd⟩
      have hi2 : i < c.gs.length := (List.getElem?_eq_some_iff.mp hgt).1
      have hlt : gt.lt (more (c.gs.take i) (bs ++ st)).length := by
        have z := pre.ok.gs i gt hgt
        rw [more_len, List.length_append, List.length_take, pre.l3, pre.l2, Nat.min_eq_left (Nat.le_of_lt hi2)]
        exact z
      have zg := pre.ok.zg
      refine ⟨_, rfl, .inl ⟨rfl, _, SqL.of el⟩, _, rfl, _, rfl, _, rfl, _, l, gt, _, rfl, hx.same t, SqL.of el, hlt, l, _, _, rfl, rfl, el, ?_, ?_⟩
      · rw [List.length_map, more_len, List.length_append, List.length_take, pre.l3, pre.l2]
        have := pre.ok.zm
        have := pre.ok.zr
        exact Nat.lt_of_lt_of_le (by omega : c.m + c.rs.length + min i c.gs.length < 10000) (by decide)
      · refine ⟨_, rfl, same_mut t nl, ?_⟩
        rw [upd_same, more_take hgt, List.map_append]
        rfl
    · rintro σ H' ⟨u, rfl, t, el⟩
      rw [hgl, List.take_length] at el
      exact ⟨_, rfl, q l H' nl t el⟩
theorem sc_picked : FnScope ["values", "signals", "signal"] ["values", "signals"] (defScope (top 19)) := ⟨rfl, rfl, rfl, by decide +kernel, rfl, by decide +kernel, by decide +kernel⟩
theorem ok_picked {f : Addr} {fd : FuncData} (F : Fun K "_picked" "_picked" (top 19) f fd) (T : Bv mg) : FnOk P w K mg base CX0 1 f fd ["values", "signals"] (spPicked K) := by
  have sc := sc_picked
  refine F.ok sc_picked (fun vs H Q E h => ?_) (fun cdv A outer s H vs Q E hr h => ?_)
  · obtain ⟨l, s, xs, ss, rfl, _⟩ := h
    rfl
  · obtain ⟨l, s, xs, ss, rfl, hl, ⟨ys, hs, hd⟩, hlt, hz, q⟩ := h
    refine ⟨_, (pss_one (ps_ret (pe_callTy call_tuple_of (by rfl) T.tuple (by decide +kernel) (pa_cons (pe_lc (own := [("signal", 2)]) (g := gName 2) (tt := tYes) rfl sc.nd (pi_tup (pv 1)) (blkOk_by (N := ["values", "signals", "signal"]) (sc := defScope (top 19)) (by decide +kernel)) (fun _ _ _ _ _ => (pg_name (i := 2) sc.nd rfl (.inl rfl))) (fun _ _ _ _ _ => pts_nil) (fun _ _ _ _ _ => (pe_ix (show IxR _ (rIxL K) from ix_list) (pv 0) (pv 2) (fun _ _ => rfl)))) pa_nil)))), ?_⟩
    have ey := das_nat hd
    subst ey
    refine cb1 ?_
    refine comp_t (K := K) (a := s) (xs := ss.map fun n => .int (n : Nat)) (j := 2) (R := fun k v _ => v = xs.getD (ss.getD k 0) .non) (fun _ _ _ _ h _ => h) ?_ (SqT.of hs) (by rw [List.length_map]; omega) ?_ ?_ (made_is fun D H2 hD s2 e2 => ?_)
    · exact fun Q q => ⟨_, rfl, q⟩
    · exact fun x => rfl
    · intro k x hk H2 s2 Q q2
      rw [List.getElem?_map] at hk
      cases e : ss[k]? with
      | none => rw [e] at hk; cases hk
      | some n =>
        rw [e] at hk
        cases hk
        have hn := hlt n (List.mem_of_getElem? e)
        refine ⟨_, rfl, _, rfl, l, xs, _, _, rfl, rfl, s2.seq hl, at_of (j := n) rfl (List.getElem?_eq_getElem hn), q2 _ _ (Same.refl _) ?_⟩
        have e1 : ss.getD k 0 = n := by rw [List.getD_eq_getElem?_getD, e]; rfl
        rw [e1, List.getD_eq_getElem?_getD, List.getElem?_eq_getElem hn]
        rfl
    · rw [List.length_map, range_get (f := fun n => xs.getD n .non)] at e2
      exact ⟨D, _, rfl, .inl ⟨SqL.of e2, fun r hr => q r _ (s2.trans (same_upd hr)) upd_same⟩⟩
theorem sc_answer : FnScope ["circuit", "state", "bits", "ones", "values"] ["circuit", "state", "bits", "ones"] (defScope (top 20)) := ⟨rfl, rfl, rfl, by decide +kernel, rfl, by decide +kernel, by decide +kernel⟩
theorem ok_answer {f a1 a2 C : Addr} {fd e1 e2 : FuncData} (F : FunD K "cycle_of" "cycle_of" (defArgs (top 20)) (defBody (top 20)) (defScope (top 20)) [.int 1] [] f fd) (T : Bv mg) (TC : Cc K C) (F_values : Fn K mg P w base CX0 "_values" 2 a1 e1 ["circuit", "state", "bits", "ones"] (spValues C)) (F_picked : Fn K mg P w base CX0 "_picked" 1 a2 e2 ["values", "signals"] (spPicked K)) : FnOk P w K mg base CX0 3 f fd ["circuit", "state", "bits", "ones"] (spAnswer C) := by
  have sc := sc_answer
  refine F.ok sc_answer (fun vs H Q E h => ?_) (fun cdv A outer s H vs Q E hr h => ?_)
  · obtain ⟨p, v2, v3, c, st, bs, rfl, _⟩ := h
    rfl
  · obtain ⟨p, v2, v3, c, st, bs, rfl, pre, q⟩ := h
    refine ⟨_, (pss_cons (ps_set (i := 4) sc.nd rfl (.inl rfl) (pe_call F_values.G (hr.mono (by decide)) (by rfl) F_values.g F_values.k F_values.b .nil pass0 (pa_cons (pv 0) (pa_cons (pv 1) (pa_cons (pv 2) (pa_cons (pv 3) pa_nil))))))
      (pss_one (ps_ret (pe_tup (pa_cons (pe_call F_picked.G (hr.mono (by decide)) (by rfl) F_picked.g F_picked.k F_picked.b .nil pass0 (pa_cons (pv 4) (pa_cons (pe_fld (pv 0) rfl) pa_nil))) (pa_cons (pe_call F_picked.G (hr.mono (by decide)) (by rfl) F_picked.g F_picked.k F_picked.b .nil pass0 (pa_cons (pv 4) (pa_cons (pe_fld (pv 0) rfl) pa_nil))) pa_nil)))))), ?_⟩
    have hvl := vals_len pre.l2 pre.l3
    refine ⟨_, rfl, _, rfl, _, rfl, _, rfl, p, v2, v3, c, st, bs, rfl, pre, fun l H1 nl s1 el => ?_⟩
    obtain ⟨dx, r, g, n, o, hp, hr', hg', hn', ho'⟩ := pre.at_
    have hos : ∀ n ∈ c.os, n < ((c.vals st bs).map bv).length := fun n hn => by rw [List.length_map, hvl]; exact pre.ok.os n hn
    have hns : ∀ n ∈ c.ns, n < ((c.vals st bs).map bv).length := fun n hn => by rw [List.length_map, hvl]; exact pre.ok.ns n hn
    have zn := pre.ok.nl
    have zr := pre.ok.zr
    have zo := pre.ok.zo
    refine ⟨_, rfl, _, rfl, p, C, dx, _, _, rfl, s1 _ _ hp, TC.cl, TC.n5, cf_ou, l, o, _, c.os, rfl, SqL.of el, ho'.same s1, hos, by omega, fun r1 H2 s2 e2 => ?_⟩
    refine ⟨_, rfl, _, rfl, p, C, dx, _, _, rfl, s2 _ _ (s1 _ _ hp), TC.cl, TC.n4, cf_ne, l, n, _, c.ns, rfl, SqL.of (s2 _ _ el), (hn'.same s1).same s2, hns, by omega, fun r2 H3 s3 e3 => ?_⟩
    refine ⟨(by show 2 ≤ sizeLine; decide), fun t nt => q t r1 r2 _ (s1.trans (s2.trans (s3.trans (same_upd nt)))) upd_same ?_ ?_⟩
    · rw [pick_bits (fun n hn => by rw [hvl]; exact pre.ok.os n hn)] at e2
      exact same_upd nt _ _ (s3 _ _ e2)
    · rw [pick_bits (fun n hn => by rw [hvl]; exact pre.ok.ns n hn)] at e3
      exact same_upd nt _ _ e3
end
end Sb

set_option linter.all false
set_option maxRecDepth 100000
set_option maxHeartbeats 4000000
namespace Sb
open PySem PySem.Spec PyProof.Rows L2
/-- rows of bits, each a list or a tuple, told as a list or a tuple -/
def RowsV (H : Hp) (v : V) (rows : List (List Bool)) : Prop := ∃ ds, RowV H v ds ∧ ds.map rowOf = rows.map fun bs => some (bs.map bd)
theorem RowsV.same {H H' : Hp} {v : V} {rows : List (List Bool)} (s : Same H H') (h : RowsV H v rows) : RowsV H' v rows := by
  obtain ⟨ds, h, e⟩ := h
  exact ⟨ds, h.same s, e⟩
theorem Da.rowV {H : Hp} {v : V} {d : PyData} {ds : List PyData} (h : Da H v d) (e : rowOf d = some ds) : RowV H v ds := by
  obtain ⟨a, xs, rfl, h, hs⟩ := (show Dx H v d from .inl h).row e
  exact ⟨a, xs, rfl, h, hs⟩
theorem bits_below : ∀ bs : List Bool, (bs.map bd).all (isBelow 2) = true
  | [] => rfl
  | b :: bs => by
    show (isBelow 2 (bd b) && (bs.map bd).all (isBelow 2)) = true
    rw [bits_below bs]
    cases b <;> rfl
theorem is_bits {d : PyData} {bs : List Bool} {n : Int} (e : rowOf d = some (bs.map bd)) (l : (bs.length : Int) = n) : isBits n d = true := by
  unfold isBits
  rw [e]
  show (decide (((bs.map bd).length : Int) = n) && (bs.map bd).all (isBelow 2)) = true
  rw [bits_below, List.length_map, decide_eq_true l]
  rfl
theorem row_at {ds : List PyData} {rows : List (List Bool)} (h : ds.map rowOf = rows.map fun bs => some (bs.map bd)) {i : Nat} {d : PyData} (e : ds[i]? = some d) : ∃ bs, rows[i]? = some bs ∧ rowOf d = some (bs.map bd) := by
  have z := congrArg (·[i]?) h
  simp only [List.getElem?_map, e] at z
  cases er : rows[i]? with
  | none => rw [er] at z; cases z
  | some bs => rw [er] at z; exact ⟨bs, rfl, Option.some.inj z⟩
theorem row_mem {ds : List PyData} {rows : List (List Bool)} (h : ds.map rowOf = rows.map fun bs => some (bs.map bd)) {d : PyData} (e : d ∈ ds) : ∃ bs ∈ rows, rowOf d = some (bs.map bd) := by
  obtain ⟨i, hi⟩ := List.mem_iff_getElem?.mp e
  obtain ⟨bs, h1, h2⟩ := row_at h hi
  exact ⟨bs, List.mem_of_getElem? h1, h2⟩
theorem rows_len {ds : List PyData} {rows : List (List Bool)} (h : ds.map rowOf = rows.map fun bs => some (bs.map bd)) : ds.length = rows.length := by
  have z := congrArg List.length h
  simpa using z
def spCheckState (C : Addr) : Sp := fun vs H Q _ => ∃ (p : Addr) (v2 : V) (c : Ci) (st : List Bool), vs = [.ref p, v2] ∧ CircAt H p C c.cd ∧ c.Ok ∧ RowV H v2 (st.map bd) ∧ st.length = c.rs.length ∧ ∀ H', Same H H' → Q .non H'
def spCheckRows (C : Addr) : Sp := fun vs H Q _ => ∃ (p : Addr) (v2 : V) (c : Ci) (rows : List (List Bool)), vs = [.ref p, v2] ∧ CircAt H p C c.cd ∧ c.Ok ∧ RowsV H v2 rows ∧ (∀ bs ∈ rows, bs.length = c.m) ∧ rows.length ≤ 1000 ∧ ∀ H', Same H H' → Q .non H'
def spCycle (C : Addr) : Sp := fun vs H Q _ => ∃ (p : Addr) (v2 v3 : V) (c : Ci) (st bs : List Bool), vs = [.ref p, v2, v3] ∧ CycPre H p C c v2 v3 st bs ∧
  ∀ t o n H', Same H H' → H' t = some (.tup [.ref o, .ref n]) → H' o = some (.tup ((c.vals st bs).map bv)) → H' n = some (.tup ((c.nxt st bs).map bv)) → Q (.ref t) H'
/-- the outputs told and the state, row after row -/
def Ci.play (c : Ci) (z : List (List Bool) × List Bool) (rows : List (List Bool)) : List (List Bool) × List Bool := rows.foldl (fun z bs => (z.1 ++ [c.outs z.2 bs], c.nxt z.2 bs)) z
theorem play_take {c : Ci} {z : List (List Bool) × List Bool} {rows : List (List Bool)} {i : Nat} {bs : List Bool} (h : rows[i]? = some bs) : c.play z (rows.take (i + 1)) = ((c.play z (rows.take i)).1 ++ [c.outs (c.play z (rows.take i)).2 bs], c.nxt (c.play z (rows.take i)).2 bs) := by
  unfold Ci.play
  rw [List.take_add_one, h, List.foldl_append]
  rfl
theorem nxt_len {c : Ci} {st bs : List Bool} : (c.nxt st bs).length = c.ns.length := by
  unfold Ci.nxt pick
  exact List.length_map ..
theorem play_len {c : Ci} : ∀ (rows : List (List Bool)) (z : List (List Bool) × List Bool), (c.play z rows).1.length = z.1.length + rows.length
  | [], z => rfl
  | bs :: rows, z => by
    show (c.play (z.1 ++ [c.outs z.2 bs], c.nxt z.2 bs) rows).1.length = _
    rw [play_len rows]
    simp only [List.length_append, List.length_cons, List.length_nil]
    omega
theorem play_st {c : Ci} (ok : c.Ok) : ∀ (rows : List (List Bool)) (z : List (List Bool) × List Bool), z.2.length = c.rs.length → (c.play z rows).2.length = c.rs.length
  | [], z, h => h
  | bs :: rows, z, h => play_st ok rows (z.1 ++ [c.outs z.2 bs], c.nxt z.2 bs) (by rw [← ok.nl]; exact nxt_len)
theorem play_app {c : Ci} {z : List (List Bool) × List Bool} {r1 r2 : List (List Bool)} : c.play z (r1 ++ r2) = c.play (c.play z r1) r2 := by
  unfold Ci.play
  rw [List.foldl_append]
theorem play_acc {c : Ci} : ∀ (rows : List (List Bool)) (z : List (List Bool) × List Bool), c.play z rows = (z.1 ++ (c.play ([], z.2) rows).1, (c.play ([], z.2) rows).2)
  | [], z => by
    show z = (z.1 ++ [], z.2)
    rw [List.append_nil]
  | bs :: rows, z => by
    show c.play (z.1 ++ [c.outs z.2 bs], c.nxt z.2 bs) rows = (z.1 ++ (c.play ([] ++ [c.outs z.2 bs], c.nxt z.2 bs) rows).1, (c.play ([] ++ [c.outs z.2 bs], c.nxt z.2 bs) rows).2)
    rw [play_acc rows (z.1 ++ _, _), play_acc rows ([] ++ _, _), List.append_assoc]
    rfl
def tbd (bs : List Bool) : PyData := .tuple (bs.map bd)
theorem stills_bits : ∀ bs : List Bool, stills (bs.map bd) = true
  | [] => rfl
  | b :: bs => by
    show (still (bd b) && stills (bs.map bd)) = true
    rw [stills_bits bs]
    rfl
theorem stills_tbd : ∀ os : List (List Bool), stills (os.map tbd) = true
  | [] => rfl
  | o :: os => by
    show (stills (o.map bd) && stills (os.map tbd)) = true
    rw [stills_tbd os, stills_bits]
    rfl
def spPlayed (C : Addr) : Sp := fun vs H Q _ => ∃ (p : Addr) (v2 v3 : V) (c : Ci) (st : List Bool) (rows : List (List Bool)), vs = [.ref p, v2, v3] ∧ CircAt H p C c.cd ∧ c.Ok ∧ RowV H v2 (st.map bd) ∧ st.length = c.rs.length ∧ RowsV H v3 rows ∧ (∀ bs ∈ rows, bs.length = c.m) ∧ rows.length ≤ 1000 ∧
  ∀ t o n H', Same H H' → H' t = some (.tup [.ref o, .ref n]) → TupD H' o ((c.play ([], st) rows).1.map tbd) → TupD H' n ((c.play ([], st) rows).2.map bd) → Q (.ref t) H'
def spRunFrom (C : Addr) : Sp := fun vs H Q _ => ∃ (p : Addr) (v2 v3 : V) (c : Ci) (st : List Bool) (rows : List (List Bool)), vs = [.ref p, v2, v3] ∧ CircAt H p C c.cd ∧ c.Ok ∧ RowV H v2 (st.map bd) ∧ st.length = c.rs.length ∧ RowsV H v3 rows ∧ (∀ bs ∈ rows, bs.length = c.m) ∧ rows.length ≤ 1000 ∧
  ∀ o H', Same H H' → TupD H' o ((c.play ([], st) rows).1.map tbd) → Q (.ref o) H'
def spBehind (C : Addr) : Sp := fun vs H Q _ => ∃ (p : Addr) (v2 v3 : V) (c : Ci) (st : List Bool) (rows : List (List Bool)), vs = [.ref p, v2, v3] ∧ CircAt H p C c.cd ∧ c.Ok ∧ RowV H v2 (st.map bd) ∧ st.length = c.rs.length ∧ RowsV H v3 rows ∧ (∀ bs ∈ rows, bs.length = c.m) ∧ rows.length ≤ 1000 ∧
  ∀ n H', Same H H' → TupD H' n ((c.play ([], st) rows).2.map bd) → Q (.ref n) H'
def spRun (C : Addr) : Sp := fun vs H Q _ => ∃ (p : Addr) (v3 : V) (c : Ci) (rows : List (List Bool)), vs = [.ref p, v3] ∧ CircAt H p C c.cd ∧ c.Ok ∧ RowsV H v3 rows ∧ (∀ bs ∈ rows, bs.length = c.m) ∧ rows.length ≤ 1000 ∧
  ∀ o H', Same H H' → TupD H' o ((c.play ([], c.rs) rows).1.map tbd) → Q (.ref o) H'
theorem TupD.rowV {H : Hp} {a : Addr} {ds : List PyData} (h : TupD H a ds) : RowV H (.ref a) ds := by
  obtain ⟨xs, h, hs⟩ := h
  exact ⟨a, xs, rfl, .inr h, hs⟩
/-- tuple(..) of a row -/
theorem tup_of {K : PySem.W.Frag} {H : Hp} {v : V} {ds : List PyData} {Q : VK} (h : RowV H v ds) (q : ∀ r H', Same H H' → TupD H' r ds → Q (.ref r) H') : rTupC K [v] H Q := by
  obtain ⟨a, xs, rfl, h, hs⟩ := h
  rcases h with h | h
  · exact ⟨a, xs, rfl, .inl ⟨SqL.of h, fun l hl => q l _ (same_upd hl) ⟨xs, upd_same, hs.same (same_upd hl)⟩⟩⟩
  · exact ⟨a, xs, rfl, .inr ⟨SqT.of h, q a H (Same.refl _) ⟨xs, h, hs⟩⟩⟩
theorem tup_cb {K : PySem.W.Frag} {H : Hp} {v : V} {ds : List PyData} {σ : L2.St} {i : Nat} {Q : VK} (hi : σ[i]? = some (some v)) (h : RowV H v ds) (q : ∀ r H', Same H H' → TupD H' r ds → Q (.ref r) H') : tCB (rTupC K) (tCons (tVar i) tNil) σ H Q := ⟨v, hi, tup_of (K := K) h q⟩
theorem asg_tup {K : PySem.W.Frag} {H : Hp} {v : V} {ds : List PyData} {σ : L2.St} {i j : Nat} {D : Ends} (hi : σ[i]? = some (some v)) (h : RowV H v ds) (q : ∀ r H', Same H H' → TupD H' r ds → D.nx (σ.set j (some (.ref r))) H') : tAsg (tCB (rTupC K) (tCons (tVar i) tNil)) (gName j) D σ H := by
  refine ⟨v, hi, ?_⟩
  exact tup_of (K := K) (Q := fun x H1 => D.nx (σ.set j (some x)) H1) h q
theorem das_tbits {H : Hp} {o : Addr} {bs : List Bool} (h : H o = some (.tup (bs.map bv))) : TupD H o (bs.map bd) := ⟨_, h, das_of_bits bs⟩
section
variable {P : Program} {w : World} {K : PySem.W.Frag} {mg : Str → Option Value} {base : Heap}
theorem sc_cstate : FnScope ["circuit", "state"] ["circuit", "state"] (defScope (top 21)) := ⟨rfl, rfl, rfl, by decide +kernel, rfl, by decide +kernel, by decide +kernel⟩
theorem ok_cstate {f a1 C : Addr} {fd e1 : FuncData} (F : Fun K "_check_state" "_check_state" (top 21) f fd) (T : Bv mg) (TC : Cc K C) (Fis_bits : Fn K mg P w base CX0 "is_bits" 3 a1 e1 ["value", "many"] spBits) : FnOk P w K mg base CX0 4 f fd ["circuit", "state"] (spCheckState C) := by
  have sc := sc_cstate
  refine F.ok sc_cstate (fun vs H Q E h => ?_) (fun cdv A outer s H vs Q E hr h => ?_)
  · obtain ⟨p, v2, c, st, rfl, _⟩ := h
    rfl
  · obtain ⟨p, v2, c, st, rfl, at_, ok, h2, l2, q⟩ := h
    refine ⟨_, (pss_one (ps_if (pt_not (pt_val (pe_call Fis_bits.G (hr.mono (by decide)) (by rfl) Fis_bits.g Fis_bits.k Fis_bits.b .nil pass0 (pa_cons (pv 1) (pa_cons (pe_callB call_len (by rfl) T.len (by decide +kernel) (pa_cons (pe_fld (pv 0) rfl) pa_nil)) pa_nil))))) (pss_one ps_never) pss_nil)), ?_⟩
    obtain ⟨d2, x2, r2⟩ := h2.dx
    obtain ⟨dx, r, g, n, o, hp, hr', hg', hn', ho'⟩ := at_
    have zr := ok.zr
    refine ⟨_, rfl, _, rfl, p, C, dx, _, _, rfl, hp, TC.cl, TC.n2, cf_re, _, c.rs.length, rfl, ?_, _, d2, _, rfl, x2, ?_, fun H1 s1 => ⟨_, rfl, iteN (is_bits r2 (by omega)) (q H1 s1)⟩⟩
    · have z := hr'.rowV.len (K := K)
      have e : c.cd.rs.length = c.rs.length := List.length_map ..
      rw [e] at z
      exact z
    · exact short_of r2 (by rw [List.length_map]; omega)
theorem sc_crows : FnScope ["circuit", "rows"] ["circuit", "rows"] (defScope (top 22)) := ⟨rfl, rfl, rfl, by decide +kernel, rfl, by decide +kernel, by decide +kernel⟩
theorem ok_crows {f a1 C : Addr} {fd e1 : FuncData} (F : Fun K "_check_rows" "_check_rows" (top 22) f fd) (T : Bv mg) (TC : Cc K C) (Fis_bit_rows : Fn K mg P w base CX0 "is_bit_rows" 4 a1 e1 ["value", "many"] spBitRows) : FnOk P w K mg base CX0 5 f fd ["circuit", "rows"] (spCheckRows C) := by
  have sc := sc_crows
  refine F.ok sc_crows (fun vs H Q E h => ?_) (fun cdv A outer s H vs Q E hr h => ?_)
  · obtain ⟨p, v2, c, rows, rfl, _⟩ := h
    rfl
  · obtain ⟨p, v2, c, rows, rfl, at_, ok, ⟨ds, h2, er⟩, hl, zl, q⟩ := h
    refine ⟨_, (pss_one (ps_if (pt_not (pt_val (pe_call Fis_bit_rows.G (hr.mono (by decide)) (by rfl) Fis_bit_rows.g Fis_bit_rows.k Fis_bit_rows.b .nil pass0 (pa_cons (pv 1) (pa_cons (pe_fld (pv 0) rfl) pa_nil))))) (pss_one ps_never) pss_nil)), ?_⟩
    obtain ⟨d2, x2, r2⟩ := h2.dx
    obtain ⟨dx, r, g, n, o, hp, hr', hg', hn', ho'⟩ := at_
    have zm := ok.zm
    have z1 := rows_len er
    refine ⟨_, rfl, _, rfl, p, C, dx, _, _, rfl, hp, TC.cl, TC.n1, cf_in, _, d2, _, rfl, x2, short_of r2 (by omega), ?_, fun H1 s1 => ⟨_, rfl, iteN ?_ (q H1 s1)⟩⟩
    · intro es e2 d hd
      rw [r2] at e2
      cases e2
      obtain ⟨bs, hb, e⟩ := row_mem er hd
      exact short_of e (by rw [List.length_map, hl bs hb]; exact zm)
    · unfold isBitRows
      rw [r2]
      show ds.all (isBits _) = true
      rw [List.all_eq_true]
      intro d hd
      obtain ⟨bs, hb, e⟩ := row_mem er hd
      exact is_bits e (by rw [hl bs hb]; rfl)
theorem sc_cycle : FnScope ["circuit", "state", "bits", "values"] ["circuit", "state", "bits"] (defScope (top 23)) := ⟨rfl, rfl, rfl, by decide +kernel, rfl, by decide +kernel, by decide +kernel⟩
theorem ok_cycle {f a1 a2 a3 a4 C : Addr} {fd e1 e2 e3 e4 : FuncData} (F : Fun K "cycle" "cycle" (top 23) f fd) (T : Bv mg) (TC : Cc K C) (Fis_bits : Fn K mg P w base CX0 "is_bits" 3 a1 e1 ["value", "many"] spBits) (F_check_state : Fn K mg P w base CX0 "_check_state" 4 a2 e2 ["circuit", "state"] (spCheckState C))
    (F_values : Fn K mg P w base CX0 "_values" 2 a3 e3 ["circuit", "state", "bits", "ones"] (spValues C)) (F_picked : Fn K mg P w base CX0 "_picked" 1 a4 e4 ["values", "signals"] (spPicked K)) : FnOk P w K mg base CX0 5 f fd ["circuit", "state", "bits"] (spCycle C) := by
  have sc := sc_cycle
  refine F.ok sc_cycle (fun vs H Q E h => ?_) (fun cdv A outer s H vs Q E hr h => ?_)
  · obtain ⟨p, v2, v3, c, st, bs, rfl, _⟩ := h
    rfl
  · obtain ⟨p, v2, v3, c, st, bs, rfl, pre, q⟩ := h
    refine ⟨_, (pss_cons (ps_expr (pe_call F_check_state.G (hr.mono (by decide)) (by rfl) F_check_state.g F_check_state.k F_check_state.b .nil pass0 (pa_cons (pv 0) (pa_cons (pv 1) pa_nil))))
      (pss_cons (ps_if (pt_not (pt_val (pe_call Fis_bits.G (hr.mono (by decide)) (by rfl) Fis_bits.g Fis_bits.k Fis_bits.b .nil pass0 (pa_cons (pv 2) (pa_cons (pe_fld (pv 0) rfl) pa_nil))))) (pss_one ps_never) pss_nil)
      (pss_cons (ps_set (i := 3) sc.nd rfl (.inl rfl) (pe_call F_values.G (hr.mono (by decide)) (by rfl) F_values.g F_values.k F_values.b .nil pass0 (pa_cons (pv 0) (pa_cons (pv 1) (pa_cons (pv 2) (pa_cons pe_int pa_nil))))))
      (pss_one (ps_ret (pe_tup (pa_cons (pe_callTy call_tuple_of (by rfl) T.tuple (by decide +kernel) (pa_cons (pv 3) pa_nil)) (pa_cons (pe_call F_picked.G (hr.mono (by decide)) (by rfl) F_picked.g F_picked.k F_picked.b .nil pass0 (pa_cons (pv 3) (pa_cons (pe_fld (pv 0) rfl) pa_nil))) pa_nil)))))))), ?_⟩
    have hvl := vals_len pre.l2 pre.l3
    have ok := pre.ok
    have zm := ok.zm
    have zn := ok.nl
    have zr := ok.zr
    have l3 := pre.l3
    refine ⟨_, rfl, _, rfl, p, v2, c, st, rfl, pre.at_, ok, pre.v2, pre.l2, fun H1 s1 => ?_⟩
    obtain ⟨d3, x3, r3⟩ := (pre.v3.same s1).dx
    obtain ⟨dx, r, g, n, o, hp, hr', hg', hn', ho'⟩ := pre.at_
    refine ⟨_, rfl, _, rfl, p, C, dx, _, _, rfl, s1 _ _ hp, TC.cl, TC.n1, cf_in, _, d3, _, rfl, x3, short_of r3 (by rw [List.length_map]; omega), fun H2 s2 => ⟨_, rfl, iteN (is_bits r3 (by rw [l3]; rfl)) ?_⟩⟩
    have t2 := s1.trans s2
    refine ⟨_, rfl, _, rfl, _, rfl, p, v2, v3, c, st, bs, rfl, pre.same t2, fun l H3 nl s3 el => ?_⟩
    have t3 := t2.trans s3
    have hns : ∀ n ∈ c.ns, n < ((c.vals st bs).map bv).length := fun n hn => by rw [List.length_map, hvl]; exact ok.ns n hn
    refine ⟨_, rfl, l, _, rfl, .inl ⟨SqL.of el, fun r1 n1 => ?_⟩⟩
    have s4 := same_upd n1 (o := .tup ((c.vals st bs).map bv))
    have t4 := t3.trans s4
    refine ⟨_, rfl, _, rfl, p, C, dx, _, _, rfl, t4 _ _ hp, TC.cl, TC.n4, cf_ne, l, n, _, c.ns, rfl, SqL.of (s4 _ _ el), hn'.same t4, hns, by omega, fun r2 H5 s5 e5 => ?_⟩
    refine ⟨(by show 2 ≤ sizeLine; decide), fun t nt => q t r1 r2 _ (t4.trans (s5.trans (same_upd nt))) upd_same (same_upd nt _ _ (s5 _ _ upd_same)) ?_⟩
    rw [pick_bits (fun n hn => by rw [hvl]; exact ok.ns n hn)] at e5
    exact same_upd nt _ _ e5
/-- a def with a default, called without it -/
structure Fnd (K : PySem.W.Frag) (mg : Str → Option Value) (P : Program) (w : World) (base : Heap) (CX : CXT) (x : Str) (k : Nat) (f : Addr) (fd : FuncData) (ps : List Str) (dvs : List V) (sp : Sp) : Prop where
  g : mg x = some (.ref f)
  kp : PySem.W.keepIn K (.ref f) = true
  b : ∃ ds, Binds K fd ps ds ∧ Vals dvs ds
  G : FnOk P w K mg base CX k f fd ps sp
theorem pe_callDf {X : Cx} {CX : CXT} {k : Nat} {f : Addr} {fd : FuncData} {ps : List Str} {sp : Sp} {dvs : List V} {E : XK} {x : Str} {p pos : Pos} {e : Expr} {es : List Expr} {t : TA} (F : Fnd X.K X.mg X.prog X.w X.base CX x k f fd ps dvs sp) (hr : Room k X.A) (hg : Gl X x) (hx : Passes CX X E)
    (ha : PA X (e :: es) t) (hdb : (x == ("__debug__" : Str)) = false := by decide) (he : starEach (e :: es) X.env = (false, eval e X.env) :: starEach es X.env := by rfl) (hpl : (backTo pos (starEach es X.env)).any (·.1) = false := by rfl) :
    PE X (.Call (.Name x p) (e :: es) [] pos) (tCall sp dvs E t) := by
  obtain ⟨ds, hb, hd⟩ := F.b
  exact L2.pe_call F.G hr hg F.g F.kp hb hd hx ha hdb he hpl
theorem sc_played : FnScope ["circuit", "state", "rows", "told", "now", "bits", "outputs"] ["circuit", "state", "rows"] (defScope (top 24)) := ⟨rfl, rfl, rfl, by decide +kernel, rfl, by decide +kernel, by decide +kernel⟩
theorem ok_played {f a1 C : Addr} {fd e1 : FuncData} (F : Fun K "_played" "_played" (top 24) f fd) (T : Bv mg) (TC : Cc K C) (Fcycle_of : Fnd K mg P w base CX0 "cycle_of" 3 a1 e1 ["circuit", "state", "bits", "ones"] [.int 1] (spAnswer C)) : FnOk P w K mg base CX0 4 f fd ["circuit", "state", "rows"] (spPlayed C) := by
  have sc := sc_played
  refine F.ok sc_played (fun vs H Q E h => ?_) (fun cdv A outer s H vs Q E hr h => ?_)
  · obtain ⟨p, v2, v3, c, st, rows, rfl, _⟩ := h
    rfl
  · obtain ⟨p, v2, v3, c, st, rows, rfl, at_, ok, h2, l2, ⟨ds3, h3, er3⟩, hl, zl, q⟩ := h
    obtain ⟨a3, xs3, rfl, ha3, hs3⟩ := h3
    rcases ha3 with ha3 | ha3
    · refine ⟨_, (pss_cons (ps_set (i := 3) sc.nd rfl (.inl rfl) (pe_lst pa_nil))
      (pss_cons (ps_set (i := 4) sc.nd rfl (.inl rfl) (pe_callTy call_tuple_of (by rfl) T.tuple (by decide +kernel) (pa_cons (pv 1) pa_nil)))
      (pss_cons (ps_for PassesOwn.never rfl (pi_list (pv 2)) (pg_name (i := 5) sc.nd rfl (.inl rfl)) (pss_cons (ps_asg (pe_callDf Fcycle_of (hr.mono (by decide)) (by rfl) pass0 (pa_cons (pv 0) (pa_cons (pv 4) (pa_cons (pv 5) pa_nil)))) (pg_tup (by rfl) (pgs_cons (pg_name (i := 6) sc.nd rfl (.inl rfl)) (pgs_cons (pg_name (i := 4) sc.nd rfl (.inl rfl)) pgs_nil))))
      (pss_one (ps_expr (pe_bm PySem.F.plainAttrs_list PySem.F.slot_list_append PySem.F.type_list_append mt_append (pv 3) (pa_cons (pv 6) pa_nil))))))
      (pss_one (ps_ret (pe_tup (pa_cons (pe_callTy call_tuple_of (by rfl) T.tuple (by decide +kernel) (pa_cons (pv 3) pa_nil)) (pa_cons (pv 4) pa_nil)))))))), ?_⟩
      refine ⟨(by show 0 ≤ sizeLine; decide), fun lt nlt => with_new nlt fun H1 s1 e1 => ?_⟩
      refine at_sig (σ' := [some (.ref p), some v2, some (.ref a3), some (.ref lt), none, none, none]) rfl ?_
      show tAsg (tCB (rTupC K) (tCons (tVar 1) tNil)) (gName 4) _ _ _
      refine asg_tup (K := K) rfl (h2.same s1) fun nw H2 s2 dn => ?_
      have t2 := s1.trans s2
      refine ⟨_, rfl, a3, rfl, ⟨xs3, SqL.of (t2 _ _ ha3)⟩, for_list (K := K) (a := a3) (xs := xs3) (fun i σ H' => ∃ nw u1 u2 ys, σ = [some (.ref p), some v2, some (.ref a3), some (.ref lt), some (.ref nw), u1, u2] ∧ Same H H' ∧ H' lt = some (.lst ys) ∧ Das H' ys ((c.play ([], st) (rows.take i)).1.map tbd) ∧ TupD H' nw ((c.play ([], st) (rows.take i)).2.map bd)) ⟨nw, none, none, [], rfl, t2, s2 _ _ e1, .nil, dn⟩ ?_ ?_ ?_⟩
      · rintro i σ H' _ ⟨nw, u1, u2, ys, rfl, t, _⟩
        exact SqL.of (t _ _ ha3)
      · rintro i x σ H' hi ⟨nw, u1, u2, ys, rfl, t, el, hy, dn⟩
        obtain ⟨d, hd, hx⟩ := hs3.get hi
        obtain ⟨bs, hbs, er⟩ := row_at er3 hd
        have hb := (hx.same t).rowV er
        have zl := play_len (c := c) (rows.take i) ([], st)
        have zy := hy.length
        have zi := (List.getElem?_eq_some_iff.mp hbs).1
        rw [List.length_map, zl, List.length_take, Nat.min_eq_left (Nat.le_of_lt zi)] at zy
        have zy : ys.length = 0 + i := zy
        refine ⟨_, rfl, _, rfl, _, rfl, p, .ref nw, x, c, _, bs, rfl, ⟨at_.same t, ok, dn.rowV, hb, play_st ok _ _ l2, hl bs (List.mem_of_getElem? hbs)⟩, fun tt o n H4 s4 et eo en => ?_⟩
        refine ⟨tt, _, rfl, SqT.of et, rfl, .ref o, _, rfl, .ref n, _, rfl, rfl, ?_⟩
        refine ⟨_, rfl, .inl ⟨rfl, _, SqL.of (s4 _ _ el)⟩, _, rfl, lt, _, _, rfl, rfl, s4 _ _ el, ?_, ?_⟩
        · exact Nat.lt_of_lt_of_le (by omega : ys.length < 10000) (by decide)
        · have tp : Tp H4 (upd H4 lt (.lst (ys ++ [V.ref o]))) := Tp.lst (s4 _ _ el)
          refine ⟨n, _, _, ys ++ [.ref o], rfl, same_mut (t.trans s4) nlt, upd_same, ?_, ?_⟩
          · rw [play_take hbs, List.map_append]
            exact (Das.tp tp _ _ (stills_tbd _) (hy.same s4)).app (Das.one (.tup (tp _ _ eo) (das_of_bits _)))
          · rw [play_take hbs]
            exact das_tbits (tp _ _ en)
      · rintro σ H' ⟨nw, u1, u2, ys, rfl, t, el, hy, dn⟩
        have zl := rows_len er3
        have z2 := hs3.length
        rw [show xs3.length = rows.length by omega, List.take_length] at hy dn
        refine ⟨_, rfl, lt, ys, rfl, .inl ⟨SqL.of el, fun r nr => ?_⟩⟩
        have s5 := same_upd nr (o := .tup ys)
        refine ⟨_, rfl, (by show 2 ≤ sizeLine; decide), fun tt nt => q tt r nw _ (t.trans (s5.trans (same_upd nt))) upd_same ?_ ((dn.same s5).same (same_upd nt))⟩
        exact ⟨ys, same_upd nt _ _ upd_same, (hy.same s5).same (same_upd nt)⟩
    · refine ⟨_, (pss_cons (ps_set (i := 3) sc.nd rfl (.inl rfl) (pe_lst pa_nil))
      (pss_cons (ps_set (i := 4) sc.nd rfl (.inl rfl) (pe_callTy call_tuple_of (by rfl) T.tuple (by decide +kernel) (pa_cons (pv 1) pa_nil)))
      (pss_cons (ps_for PassesOwn.never rfl (pi_tup (pv 2)) (pg_name (i := 5) sc.nd rfl (.inl rfl)) (pss_cons (ps_asg (pe_callDf Fcycle_of (hr.mono (by decide)) (by rfl) pass0 (pa_cons (pv 0) (pa_cons (pv 4) (pa_cons (pv 5) pa_nil)))) (pg_tup (by rfl) (pgs_cons (pg_name (i := 6) sc.nd rfl (.inl rfl)) (pgs_cons (pg_name (i := 4) sc.nd rfl (.inl rfl)) pgs_nil))))
      (pss_one (ps_expr (pe_bm PySem.F.plainAttrs_list PySem.F.slot_list_append PySem.F.type_list_append mt_append (pv 3) (pa_cons (pv 6) pa_nil))))))
      (pss_one (ps_ret (pe_tup (pa_cons (pe_callTy call_tuple_of (by rfl) T.tuple (by decide +kernel) (pa_cons (pv 3) pa_nil)) (pa_cons (pv 4) pa_nil)))))))), ?_⟩
      refine ⟨(by show 0 ≤ sizeLine; decide), fun lt nlt => with_new nlt fun H1 s1 e1 => ?_⟩
      refine at_sig (σ' := [some (.ref p), some v2, some (.ref a3), some (.ref lt), none, none, none]) rfl ?_
      show tAsg (tCB (rTupC K) (tCons (tVar 1) tNil)) (gName 4) _ _ _
      refine asg_tup (K := K) rfl (h2.same s1) fun nw H2 s2 dn => ?_
      have t2 := s1.trans s2
      refine ⟨_, rfl, a3, rfl, ⟨xs3, SqT.of (t2 _ _ ha3)⟩, for_tup (K := K) (a := a3) (xs := xs3) (fun i σ H' => ∃ nw u1 u2 ys, σ = [some (.ref p), some v2, some (.ref a3), some (.ref lt), some (.ref nw), u1, u2] ∧ Same H H' ∧ H' lt = some (.lst ys) ∧ Das H' ys ((c.play ([], st) (rows.take i)).1.map tbd) ∧ TupD H' nw ((c.play ([], st) (rows.take i)).2.map bd)) ⟨nw, none, none, [], rfl, t2, s2 _ _ e1, .nil, dn⟩ ?_ ?_ ?_⟩
      · rintro i σ H' _ ⟨nw, u1, u2, ys, rfl, t, _⟩
        exact SqT.of (t _ _ ha3)
      · rintro i x σ H' hi ⟨nw, u1, u2, ys, rfl, t, el, hy, dn⟩
        obtain ⟨d, hd, hx⟩ := hs3.get hi
        obtain ⟨bs, hbs, er⟩ := row_at er3 hd
        have hb := (hx.same t).rowV er
        have zl := play_len (c := c) (rows.take i) ([], st)
        have zy := hy.length
        have zi := (List.getElem?_eq_some_iff.mp hbs).1
        rw [List.length_map, zl, List.length_take, Nat.min_eq_left (Nat.le_of_lt zi)] at zy
        have zy : ys.length = 0 + i := zy
        refine ⟨_, rfl, _, rfl, _, rfl, p, .ref nw, x, c, _, bs, rfl, ⟨at_.same t, ok, dn.rowV, hb, play_st ok _ _ l2, hl bs (List.mem_of_getElem? hbs)⟩, fun tt o n H4 s4 et eo en => ?_⟩
        refine ⟨tt, _, rfl, SqT.of et, rfl, .ref o, _, rfl, .ref n, _, rfl, rfl, ?_⟩
        refine ⟨_, rfl, .inl ⟨rfl, _, SqL.of (s4 _ _ el)⟩, _, rfl, lt, _, _, rfl, rfl, s4 _ _ el, ?_, ?_⟩
        · exact Nat.lt_of_lt_of_le (by omega : ys.length < 10000) (by decide)
        · have tp : Tp H4 (upd H4 lt (.lst (ys ++ [V.ref o]))) := Tp.lst (s4 _ _ el)
          refine ⟨n, _, _, ys ++ [.ref o], rfl, same_mut (t.trans s4) nlt, upd_same, ?_, ?_⟩
          · rw [play_take hbs, List.map_append]
            exact (Das.tp tp _ _ (stills_tbd _) (hy.same s4)).app (Das.one (.tup (tp _ _ eo) (das_of_bits _)))
          · rw [play_take hbs]
            exact das_tbits (tp _ _ en)
      · rintro σ H' ⟨nw, u1, u2, ys, rfl, t, el, hy, dn⟩
        have zl := rows_len er3
        have z2 := hs3.length
        rw [show xs3.length = rows.length by omega, List.take_length] at hy dn
        refine ⟨_, rfl, lt, ys, rfl, .inl ⟨SqL.of el, fun r nr => ?_⟩⟩
        have s5 := same_upd nr (o := .tup ys)
        refine ⟨_, rfl, (by show 2 ≤ sizeLine; decide), fun tt nt => q tt r nw _ (t.trans (s5.trans (same_upd nt))) upd_same ?_ ((dn.same s5).same (same_upd nt))⟩
        exact ⟨ys, same_upd nt _ _ upd_same, (hy.same s5).same (same_upd nt)⟩
theorem sc_runfrom : FnScope ["circuit", "state", "rows", "told", "_"] ["circuit", "state", "rows"] (defScope (top 25)) := ⟨rfl, rfl, rfl, by decide +kernel, rfl, by decide +kernel, by decide +kernel⟩
theorem ok_runfrom {f a1 a2 a3 C : Addr} {fd e1 e2 e3 : FuncData} (F : Fun K "run_from" "run_from" (top 25) f fd) (T : Bv mg) (TC : Cc K C) (F_check_state : Fn K mg P w base CX0 "_check_state" 4 a1 e1 ["circuit", "state"] (spCheckState C)) (F_check_rows : Fn K mg P w base CX0 "_check_rows" 5 a2 e2 ["circuit", "rows"] (spCheckRows C)) (F_played : Fn K mg P w base CX0 "_played" 4 a3 e3 ["circuit", "state", "rows"] (spPlayed C)) : FnOk P w K mg base CX0 6 f fd ["circuit", "state", "rows"] (spRunFrom C) := by
  have sc := sc_runfrom
  refine F.ok sc_runfrom (fun vs H Q E h => ?_) (fun cdv A outer s H vs Q E hr h => ?_)
  · obtain ⟨p, v2, v3, c, st, rows, rfl, _⟩ := h
    rfl
  · obtain ⟨p, v2, v3, c, st, rows, rfl, at_, ok, h2, l2, h3, hl, zl, q⟩ := h
    refine ⟨_, (pss_cons (ps_expr (pe_call F_check_state.G (hr.mono (by decide)) (by rfl) F_check_state.g F_check_state.k F_check_state.b .nil pass0 (pa_cons (pv 0) (pa_cons (pv 1) pa_nil))))
      (pss_cons (ps_expr (pe_call F_check_rows.G (hr.mono (by decide)) (by rfl) F_check_rows.g F_check_rows.k F_check_rows.b .nil pass0 (pa_cons (pv 0) (pa_cons (pv 2) pa_nil))))
      (pss_cons (ps_asg (pe_call F_played.G (hr.mono (by decide)) (by rfl) F_played.g F_played.k F_played.b .nil pass0 (pa_cons (pv 0) (pa_cons (pv 1) (pa_cons (pv 2) pa_nil)))) (pg_tup (by rfl) (pgs_cons (pg_name (i := 3) sc.nd rfl (.inl rfl)) (pgs_cons (pg_name (i := 4) sc.nd rfl (.inl rfl)) pgs_nil))))
      (pss_one (ps_ret (pv 3)))))), ?_⟩
    refine ⟨_, rfl, _, rfl, p, v2, c, st, rfl, at_, ok, h2, l2, fun H1 s1 => ?_⟩
    refine ⟨_, rfl, _, rfl, p, v3, c, rows, rfl, at_.same s1, ok, h3.same s1, hl, zl, fun H2 s2 => ?_⟩
    have t2 := s1.trans s2
    refine ⟨_, rfl, _, rfl, _, rfl, p, v2, v3, c, st, rows, rfl, at_.same t2, ok, h2.same t2, l2, h3.same t2, hl, zl, fun t o n H3 s3 et eo en => ?_⟩
    refine ⟨t, _, rfl, SqT.of et, rfl, .ref o, _, rfl, .ref n, _, rfl, rfl, ?_⟩
    exact ⟨_, rfl, q o H3 (t2.trans s3) eo⟩
theorem sc_behind : FnScope ["circuit", "state", "rows", "_", "now"] ["circuit", "state", "rows"] (defScope (top 26)) := ⟨rfl, rfl, rfl, by decide +kernel, rfl, by decide +kernel, by decide +kernel⟩
theorem ok_behind {f a1 a2 a3 C : Addr} {fd e1 e2 e3 : FuncData} (F : Fun K "state_behind" "state_behind" (top 26) f fd) (T : Bv mg) (TC : Cc K C) (F_check_state : Fn K mg P w base CX0 "_check_state" 4 a1 e1 ["circuit", "state"] (spCheckState C)) (F_check_rows : Fn K mg P w base CX0 "_check_rows" 5 a2 e2 ["circuit", "rows"] (spCheckRows C)) (F_played : Fn K mg P w base CX0 "_played" 4 a3 e3 ["circuit", "state", "rows"] (spPlayed C)) : FnOk P w K mg base CX0 6 f fd ["circuit", "state", "rows"] (spBehind C) := by
  have sc := sc_behind
  refine F.ok sc_behind (fun vs H Q E h => ?_) (fun cdv A outer s H vs Q E hr h => ?_)
  · obtain ⟨p, v2, v3, c, st, rows, rfl, _⟩ := h
    rfl
  · obtain ⟨p, v2, v3, c, st, rows, rfl, at_, ok, h2, l2, h3, hl, zl, q⟩ := h
    refine ⟨_, (pss_cons (ps_expr (pe_call F_check_state.G (hr.mono (by decide)) (by rfl) F_check_state.g F_check_state.k F_check_state.b .nil pass0 (pa_cons (pv 0) (pa_cons (pv 1) pa_nil))))
      (pss_cons (ps_expr (pe_call F_check_rows.G (hr.mono (by decide)) (by rfl) F_check_rows.g F_check_rows.k F_check_rows.b .nil pass0 (pa_cons (pv 0) (pa_cons (pv 2) pa_nil))))
      (pss_cons (ps_asg (pe_call F_played.G (hr.mono (by decide)) (by rfl) F_played.g F_played.k F_played.b .nil pass0 (pa_cons (pv 0) (pa_cons (pv 1) (pa_cons (pv 2) pa_nil)))) (pg_tup (by rfl) (pgs_cons (pg_name (i := 3) sc.nd rfl (.inl rfl)) (pgs_cons (pg_name (i := 4) sc.nd rfl (.inl rfl)) pgs_nil))))
      (pss_one (ps_ret (pv 4)))))), ?_⟩
    refine ⟨_, rfl, _, rfl, p, v2, c, st, rfl, at_, ok, h2, l2, fun H1 s1 => ?_⟩
    refine ⟨_, rfl, _, rfl, p, v3, c, rows, rfl, at_.same s1, ok, h3.same s1, hl, zl, fun H2 s2 => ?_⟩
    have t2 := s1.trans s2
    refine ⟨_, rfl, _, rfl, _, rfl, p, v2, v3, c, st, rows, rfl, at_.same t2, ok, h2.same t2, l2, h3.same t2, hl, zl, fun t o n H3 s3 et eo en => ?_⟩
    refine ⟨t, _, rfl, SqT.of et, rfl, .ref o, _, rfl, .ref n, _, rfl, rfl, ?_⟩
    exact ⟨_, rfl, q n H3 (t2.trans s3) en⟩
theorem sc_run : FnScope ["circuit", "rows"] ["circuit", "rows"] (defScope (top 27)) := ⟨rfl, rfl, rfl, by decide +kernel, rfl, by decide +kernel, by decide +kernel⟩
theorem ok_run {f a1 C : Addr} {fd e1 : FuncData} (F : Fun K "run" "run" (top 27) f fd) (T : Bv mg) (TC : Cc K C) (Frun_from : Fn K mg P w base CX0 "run_from" 6 a1 e1 ["circuit", "state", "rows"] (spRunFrom C)) : FnOk P w K mg base CX0 7 f fd ["circuit", "rows"] (spRun C) := by
  have sc := sc_run
  refine F.ok sc_run (fun vs H Q E h => ?_) (fun cdv A outer s H vs Q E hr h => ?_)
  · obtain ⟨p, v3, c, rows, rfl, _⟩ := h
    rfl
  · obtain ⟨p, v3, c, rows, rfl, at_, ok, h3, hl, zl, q⟩ := h
    refine ⟨_, (pss_one (ps_ret (pe_call Frun_from.G (hr.mono (by decide)) (by rfl) Frun_from.g Frun_from.k Frun_from.b .nil pass0 (pa_cons (pv 0) (pa_cons (pe_fld (pv 0) rfl) (pa_cons (pv 1) pa_nil)))))), ?_⟩
    obtain ⟨dx, r, g, n, o, hp, hr', hg', hn', ho'⟩ := id at_
    exact ⟨_, rfl, _, rfl, p, C, dx, _, _, rfl, hp, TC.cl, TC.n2, cf_re, _, rfl, p, .ref r, v3, c, c.rs, rows, rfl, at_, ok, hr'.rowV, rfl, h3, hl, zl, q⟩
end
end Sb

set_option linter.all false
set_option maxRecDepth 100000
set_option maxHeartbeats 4000000
namespace Sb
open PySem PySem.Spec PyProof.Rows L2
/-! ### ints, texts and tuples of such: two are equal where their data is the same -/
def fine : Nat → PyData → Bool
  | _, .int _ => true
  | _, .str x => PyData.strOk x
  | n + 1, .tuple xs => xs.all (fine n)
  | _, _ => false
theorem fine_lay : ∀ (n : Nat) (d : PyData), fine n d = true → d.canLay0 = true ∧ d.depth ≤ n
  | n, .int i, _ => ⟨by simp [PyData.canLay0], by simp [PyData.depth]⟩
  | n, .str x, h => ⟨by cases n <;> (simp only [PyData.canLay0]; exact h), by simp [PyData.depth]⟩
  | n + 1, .tuple xs, h => by
    have h : xs.all (fine n) = true := h
    have k : ∀ xs : List PyData, xs.all (fine n) = true → PyData.canLayAll0 xs = true ∧ PyData.depthAll xs ≤ n := by
      intro xs
      induction xs with
      | nil => exact fun _ => ⟨by simp [PyData.canLayAll0], by simp [PyData.depthAll]⟩
      | cons x xs ih =>
        intro h
        rw [List.all_cons, Bool.and_eq_true_iff] at h
        have a := fine_lay n x h.1
        have b := ih h.2
        refine ⟨by simp [PyData.canLayAll0, a.1, b.1], ?_⟩
        simp only [PyData.depthAll]
        omega
    have z := k xs h
    exact ⟨by simp only [PyData.canLay0]; exact z.1, by simp only [PyData.depth]; omega⟩
  | 0, .tuple xs, h => by cases h
  | 0, .none, h => by cases h
  | n + 1, .none, h => by cases h
  | 0, .bool _, h => by cases h
  | n + 1, .bool _, h => by cases h
  | 0, .list _, h => by cases h
  | n + 1, .list _, h => by cases h
  | 0, .dict _, h => by cases h
  | n + 1, .dict _, h => by cases h
theorem fine_shaped {n : Nat} {d : PyData} (hn : n ≤ 64) (h : fine n d = true) : SeqAt.shaped d = true := by
  have z := fine_lay n d h
  unfold SeqAt.shaped
  rw [z.1, decide_eq_true (Nat.le_trans z.2 hn)]
  rfl
theorem eqv_is (n : Nat) : ∀ (d e : PyData), fine n d = true → fine n e = true → (PyData.eqv d e = true ↔ d = e) := by
  induction n with
  | zero =>
    intro d e hd he
    cases d <;> first | cases hd | skip
    all_goals cases e <;> first | cases he | skip
    all_goals simp [PyData.eqv]
  | succ n ih =>
    have k : ∀ xs ys : List PyData, xs.all (fine n) = true → ys.all (fine n) = true → (PyData.eqvAll xs ys = true ↔ xs = ys) := by
      intro xs
      induction xs with
      | nil =>
        intro ys _ _
        cases ys <;> simp [PyData.eqvAll]
      | cons x xs ih2 =>
        intro ys h1 h2
        cases ys with
        | nil => simp [PyData.eqvAll]
        | cons y ys =>
          rw [List.all_cons, Bool.and_eq_true_iff] at h1 h2
          simp only [PyData.eqvAll, Bool.and_eq_true_iff, ih x y h1.1 h2.1, ih2 ys h1.2 h2.2, List.cons.injEq]
    intro d e hd he
    cases d <;> first | cases hd | skip
    all_goals cases e <;> first | cases he | skip
    all_goals simp only [PyData.eqv, PyData.int.injEq, PyData.str.injEq, PyData.tuple.injEq, beq_iff_eq, reduceCtorEq, Bool.false_eq_true]
    exact k _ _ hd he
theorem eqv_dec {n : Nat} {d e : PyData} (hd : fine n d = true) (he : fine n e = true) [Decidable (d = e)] : PyData.eqv d e = decide (d = e) := by
  have z := eqv_is n d e hd he
  by_cases c : d = e
  · rw [decide_eq_true c]
    exact z.mpr c
  · rw [decide_eq_false c]
    exact Bool.eq_false_iff.mpr fun q => c (z.mp q)
mutual
theorem Da.dp {K : PySem.W.Frag} {H : Hp} : ∀ (d : PyData) (v : V), Da H v d → Dp K H v d
  | .none, _, h => by cases h; exact .non
  | .bool b, _, h => by cases h; exact .bl b
  | .int i, _, h => by cases h; exact .int i
  | .str x, _, h => by cases h; exact .str x
  | .list ds, _, h => by
    cases h with
    | lst ha hs => exact .lst (SqL.of ha) (Das.dp ds _ hs)
  | .tuple ds, _, h => by
    cases h with
    | tup ha hs => exact .tup (SqT.of ha) (Das.dp ds _ hs)
  | .dict _, _, h => by cases h
theorem Das.dp {K : PySem.W.Frag} {H : Hp} : ∀ (ds : List PyData) (vs : List V), Das H vs ds → DpAll K H vs ds
  | [], _, h => by cases h; exact .nil
  | d :: ds, _, h => by
    cases h with
    | cons h1 h2 => exact .cons (Da.dp d _ h1) (Das.dp ds _ h2)
end
theorem eqD_of {K : PySem.W.Frag} {H : Hp} {x y : V} {d e : PyData} {Q : VK} {n : Nat} {b : Bool} (hx : Da H x d) (hy : Da H y e) (hn : n ≤ 64) (fd : fine n d = true) (fe : fine n e = true) (hb : b = true ↔ d = e) (q : Q (.bl b) H) : rEqD K x y H Q := by
  refine ⟨d, e, hx.dp, hy.dp, fine_shaped hn fd, fine_shaped hn fe, ?_⟩
  have z : PyData.eqv d e = b := by
    cases b with
    | true => exact (eqv_is n d e fd fe).mpr (hb.mp rfl)
    | false => exact Bool.eq_false_iff.mpr fun c => Bool.false_ne_true (hb.mpr ((eqv_is n d e fd fe).mp c))
  rw [z]
  exact q
theorem neD_of {K : PySem.W.Frag} {H : Hp} {x y : V} {d e : PyData} {Q : VK} {n : Nat} {b : Bool} (hx : Da H x d) (hy : Da H y e) (hn : n ≤ 64) (fd : fine n d = true) (fe : fine n e = true) (hb : b = true ↔ d = e) (q : Q (.bl (!b)) H) : rNeD K x y H Q := by
  refine ⟨d, e, hx.dp, hy.dp, fine_shaped hn fd, fine_shaped hn fe, ?_⟩
  have z : PyData.eqv d e = b := by
    cases b with
    | true => exact (eqv_is n d e fd fe).mpr (hb.mp rfl)
    | false => exact Bool.eq_false_iff.mpr fun c => Bool.false_ne_true (hb.mpr ((eqv_is n d e fd fe).mp c))
  rw [z]
  exact q
/-! ### x == y by the __eq__ of the class of x, whatever y is and whatever is answered -/
def rOwnE (K : PySem.W.Frag) (C : Addr) (sp : Sp) (E : XK) : R2 := fun x y H Q => ∃ a dx fs t, x = .ref a ∧ H a = some (.ins C dx fs) ∧ TyX K H y t ∧ PySem.W.notFirst K C t = true ∧ sp [x, y] H Q E
theorem op_ownE {X : Cx} {CX : CXT} {C f : Addr} {fd : FuncData} {ps : List Str} {sp : Sp} {E : XK} {n : Nat} (hs : PySem.W.findIn X.K (.ref C) "__eq__" = some (some (.ref f))) (hf : PySem.W.isFn X.K (.ref f) = true) (F : FnOk X.prog X.w X.K X.mg X.base CX n f fd ps sp)
    (hb : Binds X.K fd ps []) (hr : Room n X.A) (hx : Passes CX X E) : OpR X (compareOp .Eq) (rOwnE X.K C sp E) := by
  intro pins s σ H x y v u Q I rx ry h
  obtain ⟨a, dx, fs, t, rfl, ha, ty, hn, q⟩ := h
  cases (show v = Value.ref a from rx)
  obtain ⟨mA, J, _⟩ := ins_get I.hok ha
  obtain ⟨od, J, _⟩ := J.look
  obtain ⟨m, hF⟩ := I.fr
  obtain ⟨P, kx, hP, _⟩ := kit_of I ry ty
  show wpAny (model X.prog X.w) X.A (richCompare .Eq (.ref a) u) (EP X pins σ Q) X.xe s
  refine PySem.W.cmp_K (op := .Eq) (tb := t) hr.units0 hF I.ok.mod.kin J (kx.ty _ _ I.kIn hP) hn hs hf ?_
  refine wpAny_mono (run_fn (us := [.ref a, u]) (vs := [.ref a, y]) (ds := []) (dvs := []) F hr hb .nil hx I (.cons rfl (.cons ry .nil)) q) (fun w s' z => ?_) fun _ _ x => x
  obtain ⟨z', H', I', rz, qz⟩ := z
  exact SlX.cmpback rz ⟨z', H', I', rz, qz⟩
end Sb

set_option linter.all false
set_option maxRecDepth 100000
set_option maxHeartbeats 4000000
namespace Sb
open PySem PySem.Spec PyProof.Rows L2
open PySem.AutoSeq1 in
theorem extend_tup (l : Addr) (items : Array Value) (n : Nat) (b : Addr) (items2 : Array Value) (n2 : Nat) (dd : Option Addr) (sl : Array (Option Value)) (hs0 : ¬(!items.isEmpty && Builtin.List.listTooLong (items.size + items2.size)) = true) (hs1 : items.size ≤ sizeLine) (hs2 : items.size + items2.size ≤ sizeLine + 1) :
    Meets (Builtin.«list.extend» ⟨[.ref l, .ref b], []⟩) (fun _ R s => s.heap.get? l = some { cls := .type "list", dict := none, data := .seq items n, slots := #[] } ∧ s.heap.get? b = some { cls := .type "tuple", dict := dd, data := .seq items2 n2, slots := sl } ∧ R (.ok (.ret Value.none)) { s with heap := s.heap.update l (Obj.mapSeq fun x => x ++ items2), toks := s.toks }) :=
  .of_wp fun prog w A R s h => by
    obtain ⟨hp, g, d, tk, os⟩ := s; obtain ⟨hl, hb, h⟩ := h; have f1 := AutoSeq1.idx_int; have f2 := AutoSeq1.sub_tuple_tuple; have f3 := AutoSeq1.sub_list_list; have f4 := AutoSeq1.sub_tuple_list; have f5 := AutoSeq1.sub_list_tuple;
    have hz' : (items ++ items2).size ≤ sizeLine + 1 := by rw [Array.size_append]; exact hs2
    wp_walk using (wpAny_updateSeq hl rfl (hz := hs1) (_hz' := hz')), wpAny_loadPart' hl, wpAny_loadPart' hb; exact ⟨_, rfl, h⟩
/-- l.extend(t), t a tuple -/
def rExtT (K : PySem.W.Frag) : V → List V → Hp → VK → Prop := fun x vs H Q => ∃ l b xs zs, x = .ref l ∧ vs = [.ref b] ∧ H l = some (.lst xs) ∧ SqT K H b zs ∧ xs.length + zs.length ≤ sizeLine ∧ Q .non (upd H l (.lst (xs ++ zs)))
theorem mt_extT {X : Cx} : MtM X "list.extend" (rExtT X.K) := by
  intro pins s σ H x vs v us Q I rx rv h
  obtain ⟨l, b, xs, zs, rfl, rfl, hH, hB, hz, q⟩ := h
  cases rx
  obtain ⟨u, rfl, ru⟩ := rv.one
  cases ru
  obtain ⟨z, its, n, r, hl, e⟩ := I.lstM hH
  obtain ⟨its2, r2, ⟨⟨cls, dd, data, sl⟩, e2, hc, n2, hd⟩, z2⟩ := I.tuple hB
  simp only at hc hd
  subst hc hd
  have hl2 := r2.length
  have hsz : its.toArray.size + its2.toArray.size ≤ sizeLine := by rw [List.size_toArray, List.size_toArray]; omega
  have hlong : ¬ (!its.toArray.isEmpty && Builtin.List.listTooLong (its.toArray.size + its2.toArray.size)) = true := by
    rw [notLongL hsz, Bool.and_false]
    exact Bool.false_ne_true
  refine call_meets F.slot_list_extend ⟨_, e, rfl⟩ F.entry_list_extend (F.args_list_extend_2 _ _)
    (extend_tup l its.toArray n b its2.toArray n2 dd sl hlong (by rw [List.size_toArray]; omega) (by omega)) ⟨e, e2, ?_⟩
  refine ⟨.non, _, I.lset (its' := its ++ its2) hH e (by simp) (r.append r2) ?_, rfl, q⟩
  rw [List.length_append]
  omega
end Sb

set_option linter.all false
set_option maxRecDepth 100000
set_option maxHeartbeats 4000000
namespace Sb
open PySem PySem.Spec PyProof.Rows L2
open PySem.W (sortI eq_sortI)
def Gt.args : Gt → List Nat
  | .one => []
  | .not i => [i]
  | .two _ i j => [i, j]
def Ci.names (c : Ci) (s : Nat) : List Nat := if s < c.m then [] else if s < c.m + c.rs.length then [c.ns.getD (s - c.m) 0] else match c.gs[s - (c.m + c.rs.length)]? with
  | some g => g.args
  | none => []
def Ci.need (c : Ci) : Nat → List Nat → List Nat → List Nat
  | 0, f, _ => f
  | k + 1, f, w => match w.getLast? with
    | none => f
    | some s => if s ∈ f then Ci.need c k f w.dropLast else Ci.need c k (f ++ [s]) (w.dropLast ++ c.names s)
def iv (n : Nat) : V := .int (n : Int)
def spNamed (C : Addr) : Sp := fun vs H Q _ => ∃ (p : Addr) (c : Ci) (s : Nat), vs = [.ref p, iv s] ∧ CircAt H p C c.cd ∧ c.Ok ∧ s < c.many ∧ ∀ t H', Same H H' → H' t = some (.tup ((c.names s).map iv)) → Q (.ref t) H'
def spNeeded (C : Addr) : Sp := fun vs H Q _ => ∃ (p : Addr) (c : Ci), vs = [.ref p] ∧ CircAt H p C c.cd ∧ c.Ok ∧ c.many < 64 ∧ c.os.length ≤ 500 ∧
  ∀ t H', Same H H' → H' t = some (.tup ((sortI ((c.need 1000 [] c.os).map Int.ofNat)).map V.int)) → Q (.ref t) H'
theorem args_lt {g : Gt} {n : Nat} (h : g.lt n) : ∀ s ∈ g.args, s < n := by
  intro s hs
  cases g with
  | one => cases hs
  | not i => cases hs with
    | head => exact h
    | tail _ z => cases z
  | two k i j => cases hs with
    | head => exact h.1
    | tail _ z => cases z with
      | head => exact h.2
      | tail _ z => cases z
theorem names_two {c : Ci} {s : Nat} : (c.names s).length ≤ 2 := by
  unfold Ci.names
  split
  · exact Nat.zero_le _
  · split
    · exact Nat.le_succ_of_le (Nat.le_refl 1)
    · split
      · rename_i g _
        cases g
        · exact Nat.zero_le _
        · exact Nat.le_succ_of_le (Nat.le_refl 1)
        · exact Nat.le_refl 2
      · exact Nat.zero_le _
theorem names_lt {c : Ci} (ok : c.Ok) {s : Nat} : ∀ n ∈ c.names s, n < c.many := by
  intro n hn
  unfold Ci.names at hn
  split at hn
  · cases hn
  · split at hn
    · rename_i h1 h2
      cases hn with
      | tail _ z => cases z
      | head =>
        have z : s - c.m < c.ns.length := by rw [ok.nl]; omega
        rw [List.getD_eq_getElem?_getD, List.getElem?_eq_getElem z]
        exact ok.ns _ (List.getElem_mem z)
    · split at hn
      · rename_i g hg
        have z := (List.getElem?_eq_some_iff.mp hg).1
        have k := args_lt (ok.gs _ g hg) n hn
        unfold Ci.many
        omega
      · cases hn
theorem enc_tup {H : Hp} {v : V} {g : Gt} (h : Da H v g.enc) : ∃ a x xs, v = .ref a ∧ H a = some (.tup (x :: xs)) ∧ xs = g.args.map iv := by
  cases g with
  | one =>
    obtain ⟨a, xs, rfl, ha, hs⟩ := h.tup_inv
    cases hs with
    | cons h1 t => cases t; exact ⟨a, _, _, rfl, ha, rfl⟩
  | not i =>
    obtain ⟨a, xs, rfl, ha, hs⟩ := h.tup_inv
    cases hs with
    | cons h1 t => cases t with
      | cons h2 t => cases t; cases h2.int_inv; exact ⟨a, _, _, rfl, ha, rfl⟩
  | two k i j =>
    obtain ⟨a, xs, rfl, ha, hs⟩ := h.tup_inv
    cases hs with
    | cons h1 t => cases t with
      | cons h2 t => cases t with
        | cons h3 t => cases t; cases h2.int_inv; cases h3.int_inv; exact ⟨a, _, _, rfl, ha, rfl⟩
theorem cut1 {y : V} {ys : List V} : cutV (y :: ys) (some 1) none = ys := by
  unfold cutV
  have e : HT.sIx (y :: ys).length 0 (some 1) = 1 := by
    have z := HT.sIx_nat (y :: ys).length 0 1
    rw [show ((1 : Nat) : Int) = 1 from rfl] at z
    rw [z]
    show min 1 (ys.length + 1) = 1
    omega
  rw [e, HT.sIx_none]
  show ys.take (ys.length + 1 - 1) = ys
  rw [Nat.add_sub_cancel, List.take_length]
section
variable {P : Program} {w : World} {K : PySem.W.Frag} {mg : Str → Option Value} {base : Heap}
theorem sc_named : FnScope ["circuit", "signal", "at", "gate"] ["circuit", "signal"] (defScope (top 28)) := ⟨rfl, rfl, rfl, by decide +kernel, rfl, by decide +kernel, by decide +kernel⟩
theorem ok_named {f C : Addr} {fd : FuncData} (F : Fun K "_named_by" "_named_by" (top 28) f fd) (T : Bv mg) (TC : Cc K C) : FnOk P w K mg base CX0 1 f fd ["circuit", "signal"] (spNamed C) := by
  have sc := sc_named
  refine F.ok sc_named (fun vs H Q E h => ?_) (fun cdv A outer s H vs Q E hr h => ?_)
  · obtain ⟨p, c, s, rfl, _⟩ := h
    rfl
  · obtain ⟨p, c, s, rfl, at_, ok, hs, q⟩ := h
    refine ⟨_, (pss_cons (ps_set (i := 2) sc.nd rfl (.inl rfl) (pe_op op_sub (pv 1) (pe_fld (pv 0) rfl)))
      (pss_cons (ps_if (pt_cmpR op_lt (pv 2) pe_int (nomark _)) (pss_one (ps_ret (pe_tup pa_nil))) pss_nil)
      (pss_cons (ps_if (pt_cmpR op_lt (pv 2) (pe_callB call_len (by rfl) T.len (by decide +kernel) (pa_cons (pe_fld (pv 0) rfl) pa_nil)) (nomark _)) (pss_one (ps_ret (pe_tup (pa_cons (pe_ix ix_tup (pe_fld (pv 0) rfl) (pv 2) (fun _ _ => rfl)) pa_nil)))) pss_nil)
      (pss_cons (ps_set (i := 3) sc.nd rfl (.inl rfl) (pe_ix ix_tup (pe_fld (pv 0) rfl) (pe_op op_sub (pv 2) (pe_callB call_len (by rfl) T.len (by decide +kernel) (pa_cons (pe_fld (pv 0) rfl) pa_nil))) (fun _ _ => rfl)))
      (pss_one (ps_ret (pe_slice sl_tup (pv 3) (po_some pe_int) po_none))))))), ?_⟩
    obtain ⟨dx, r, g, n, o, hp, hr', ⟨xg, hg, hgs⟩, ⟨xn, hn, hns⟩, ho'⟩ := at_
    have exn := das_nat hns
    subst exn
    have erl : c.cd.rs.length = c.rs.length := List.length_map ..
    refine ⟨_, rfl, _, rfl, p, C, dx, _, _, rfl, hp, TC.cl, TC.n1, cf_in, _, _, rfl, rfl, ?_⟩
    refine at_sig (σ' := [some (.ref p), some (iv s), some (.int ((s : Int) - (c.m : Int))), none]) rfl ?_
    refine ⟨_, rfl, _, _, rfl, rfl, _, rfl, ?_⟩
    refine ite2 (fun e => ?_) (fun e => ?_)
    · have e : (s : Int) - (c.m : Int) < 0 := of_decide_eq_true e
      refine ⟨(by show 0 ≤ sizeLine; decide), fun t nt => q t _ (same_upd nt) ?_⟩
      rw [upd_same]
      unfold Ci.names
      rw [if_pos (by omega)]
      rfl
    · have e : ¬ (s : Int) - (c.m : Int) < 0 := fun z => e (decide_eq_true z)
      have zl := hr'.rowV.len (K := K)
      rw [erl] at zl
      refine ⟨_, rfl, _, rfl, p, C, dx, _, _, rfl, hp, TC.cl, TC.n2, cf_re, _, c.rs.length, rfl, zl, _, _, rfl, rfl, _, rfl, ?_⟩
      refine ite2 (fun e2 => ?_) (fun e2 => ?_)
      · have e2 : (s : Int) - (c.m : Int) < (c.rs.length : Int) := of_decide_eq_true e2
        have z : s - c.m < c.ns.length := by rw [ok.nl]; omega
        refine ⟨_, rfl, p, C, dx, _, _, rfl, hp, TC.cl, TC.n4, cf_ne, _, rfl, n, _, _, _, rfl, rfl, SqT.of hn, at_of (j := s - c.m) (by omega) (by rw [List.getElem?_map, List.getElem?_eq_getElem z]; rfl), ?_⟩
        refine ⟨(by show 1 ≤ sizeLine; decide), fun t nt => q t _ (same_upd nt) ?_⟩
        rw [upd_same]
        unfold Ci.names
        rw [if_neg (by omega), if_pos (by omega), List.getD_eq_getElem?_getD, List.getElem?_eq_getElem z]
        rfl
      · have e2 : ¬ (s : Int) - (c.m : Int) < (c.rs.length : Int) := fun z => e2 (decide_eq_true z)
        have hs2 : s - (c.m + c.rs.length) < c.gs.length := by unfold Ci.many at hs; omega
        have hgt := List.getElem?_eq_getElem hs2
        obtain ⟨x, hx, dx2⟩ := hgs.at (i := s - (c.m + c.rs.length)) (d := (c.gs[s - (c.m + c.rs.length)]).enc) (by show (c.gs.map Gt.enc)[_]? = _; rw [List.getElem?_map, hgt]; rfl)
        refine ⟨_, rfl, p, C, dx, _, _, rfl, hp, TC.cl, TC.n3, cf_ga, _, rfl, _, rfl, p, C, dx, _, _, rfl, hp, TC.cl, TC.n2, cf_re, _, c.rs.length, rfl, zl, _, _, rfl, rfl, g, _, _, _, rfl, rfl, SqT.of hg, at_of (j := s - (c.m + c.rs.length)) (by omega) hx, ?_⟩
        obtain ⟨a, y, ys, rfl, ha, ey⟩ := enc_tup dx2
        refine ⟨_, rfl, 1, rfl, a, _, rfl, SqT.of ha, ?_, fun t nt => q t _ (same_upd nt) ?_⟩
        · rintro ⟨z, _⟩
          have e := HT.sIx_nat (y :: ys).length 0 1
          rw [show ((1 : Nat) : Int) = 1 from rfl, z] at e
          have e : 0 = min 1 (ys.length + 1) := e
          omega
        · rw [upd_same, cut1, ey]
          unfold Ci.names
          rw [if_neg (by omega), if_neg (by omega), hgt]
end
end Sb

set_option linter.all false
set_option maxRecDepth 100000
set_option maxHeartbeats 4000000
namespace Sb
open PySem PySem.Spec PyProof.Rows L2
open PySem.W (sortI eq_sortI)
/-! ### the signals needed -/
def fkv (f : List Nat) : List (Key × V) := f.map fun (n : Nat) => ((.inl (n : Int) : Key), V.bl true)
theorem fkv_val {s : Nat} : ∀ f : List Nat, valV (fkv f) (.inl (s : Int) : Key) = if s ∈ f then some (.bl true) else none
  | [] => rfl
  | n :: f => by
    by_cases c : n = s
    · subst c
      rw [if_pos (List.mem_cons_self ..)]
      exact valV_pos rfl
    · have c2 : ¬ ((Sum.inl (n : Int) : Key) = Sum.inl (s : Int)) := fun z => c (by have := Sum.inl.inj z; omega)
      show valV (((.inl (n : Int) : Key), V.bl true) :: fkv f) _ = _
      rw [valV_neg c2, fkv_val f]
      have e : (s ∈ n :: f) ↔ s ∈ f := by
        rw [List.mem_cons]
        exact ⟨fun z => z.elim (fun z => absurd z.symm c) id, .inr⟩
      simp only [e]
theorem fkv_put {s : Nat} {f : List Nat} (h : ¬ s ∈ f) : putK (fkv f) (.inl (s : Int) : Key) (.bl true) = fkv (f ++ [s]) := by
  unfold putK
  rw [valV_any, fkv_val, if_neg h]
  show (if (none : Option V).isSome = true then _ else _) = _
  rw [if_neg (by simp)]
  unfold fkv
  rw [List.map_append]
  rfl
theorem need_end {c : Ci} {f : List Nat} : ∀ k, c.need k f [] = f
  | 0 => rfl
  | k + 1 => rfl
theorem last_of {w : List Nat} {n : Nat} (h : w.length = n + 1) : ∃ s, w[w.length - 1]? = some s ∧ w.getLast? = some s := by
  have z : w.length - 1 < w.length := by omega
  exact ⟨w[w.length - 1], List.getElem?_eq_getElem z, by rw [List.getLast?_eq_getElem?, List.getElem?_eq_getElem z]⟩
theorem need_old {c : Ci} {k : Nat} {f w : List Nat} {s : Nat} (h : w.getLast? = some s) (m : s ∈ f) : c.need (k + 1) f w = c.need k f w.dropLast := by
  show (match w.getLast? with | none => f | some s => if s ∈ f then Ci.need c k f w.dropLast else Ci.need c k (f ++ [s]) (w.dropLast ++ c.names s)) = _
  rw [h]
  exact if_pos m
theorem need_new {c : Ci} {k : Nat} {f w : List Nat} {s : Nat} (h : w.getLast? = some s) (m : ¬ s ∈ f) : c.need (k + 1) f w = c.need k (f ++ [s]) (w.dropLast ++ c.names s) := by
  show (match w.getLast? with | none => f | some s => if s ∈ f then Ci.need c k f w.dropLast else Ci.need c k (f ++ [s]) (w.dropLast ++ c.names s)) = _
  rw [h]
  exact if_neg m
/-- found and waiting, k turns left at most -/
structure NeedI (c : Ci) (f w : List Nat) (k : Nat) : Prop where
  nd : f.Nodup
  fl : ∀ n ∈ f, n < c.many
  wl : ∀ n ∈ w, n < c.many
  le : w.length + 2 * (c.many - f.length) ≤ k
  k1 : k ≤ 1000
  is : c.need k f w = c.need 1000 [] c.os
theorem few {m : Nat} {f : List Nat} (nd : f.Nodup) (fl : ∀ n ∈ f, n < m) : f.length ≤ m := by
  have z := nd.length_le_of_subset (l₂ := List.range m) fun n hn => List.mem_range.mpr (fl n hn)
  rwa [List.length_range] at z
theorem NeedI.turn {c : Ci} (ok : c.Ok) {f w : List Nat} {k s : Nat} (I : NeedI c f w k) (h : w.getLast? = some s) (hw : w ≠ []) : ∃ k', k = k' + 1 ∧ s < c.many ∧ (s ∈ f → NeedI c f w.dropLast k') ∧ (¬ s ∈ f → NeedI c (f ++ [s]) (w.dropLast ++ c.names s) k') := by
  have hl : 0 < w.length := by
    cases w with
    | nil => exact absurd rfl hw
    | cons _ _ => exact Nat.succ_pos _
  have hs : s < c.many := I.wl s (List.mem_of_getLast? h)
  have le := I.le
  obtain ⟨k', rfl⟩ : ∃ k', k = k' + 1 := ⟨k - 1, by omega⟩
  have dl : w.dropLast.length = w.length - 1 := List.length_dropLast ..
  refine ⟨k', rfl, hs, fun m => ⟨I.nd, I.fl, fun n hn => I.wl n ((List.dropLast_sublist w).subset hn), by rw [dl]; omega, by have := I.k1; omega, by rw [← need_old h m]; exact I.is⟩, fun m => ?_⟩
  have nd : (f ++ [s]).Nodup := by
    rw [List.nodup_append]
    exact ⟨I.nd, by simp, fun a ha b hb => by
      cases hb with
      | head => exact fun e => m (e ▸ ha)
      | tail _ z => cases z⟩
  have fl : ∀ n ∈ f ++ [s], n < c.many := fun n hn => by
    rcases List.mem_append.mp hn with hn | hn
    · exact I.fl n hn
    · cases hn with
      | head => exact hs
      | tail _ z => cases z
  have z := few nd fl
  have n2 := names_two (c := c) (s := s)
  rw [List.length_append] at z
  have z : f.length + 1 ≤ c.many := z
  refine ⟨nd, fl, fun n hn => ?_, ?_, by have := I.k1; omega, by rw [← need_new h m]; exact I.is⟩
  · rcases List.mem_append.mp hn with hn | hn
    · exact I.wl n ((List.dropLast_sublist w).subset hn)
    · exact names_lt ok n hn
  · rw [List.length_append, List.length_append, dl]
    show w.length - 1 + (c.names s).length + 2 * (c.many - (f.length + 1)) ≤ k'
    omega
section
variable {P : Program} {w : World} {K : PySem.W.Frag} {mg : Str → Option Value} {base : Heap}
theorem sc_needed : FnScope ["circuit", "found", "waiting", "signal"] ["circuit"] (defScope (top 29)) := ⟨rfl, rfl, rfl, by decide +kernel, rfl, by decide +kernel, by decide +kernel⟩
theorem ok_needed {f a1 C : Addr} {fd e1 : FuncData} (F : Fun K "needed" "needed" (top 29) f fd) (T : Bv mg) (TC : Cc K C) (F_named_by : Fn K mg P w base CX0 "_named_by" 1 a1 e1 ["circuit", "signal"] (spNamed C)) : FnOk P w K mg base CX0 2 f fd ["circuit"] (spNeeded C) := by
  have sc := sc_needed
  refine F.ok sc_needed (fun vs H Q E h => ?_) (fun cdv A outer s H vs Q E hr h => ?_)
  · obtain ⟨p, c, rfl, _⟩ := h
    rfl
  · obtain ⟨p, c, rfl, at_, ok, hm, zo, q⟩ := h
    have hu := hu_of hr
    refine ⟨_, (pss_cons (ps_set (i := 1) sc.nd rfl (.inl rfl) pe_dnewK)
      (pss_cons (ps_set (i := 2) sc.nd rfl (.inl rfl) (pe_callTy call_list_of (by rfl) T.list (by decide +kernel) (pa_cons (pe_fld (pv 0) rfl) pa_nil)))
      (pss_cons (ps_while PassesOwn.never (pt_truth (pv 2) (by intro _; rfl)) (pss_cons (ps_set (i := 3) sc.nd rfl (.inl rfl) (pe_bm0 PySem.F.plainAttrs_list PySem.F.slot_list_pop PySem.F.type_list_pop mt_pop (pv 2)))
      (pss_one (ps_if (pt_cmp (pc_dnotin hu (pv 3) (pv 1)) (by rfl)) (pss_cons (ps_dput hu (pv 1) (pv 3) pe_bl rfl)
      (pss_one (ps_expr (pe_bm PySem.F.plainAttrs_list PySem.F.slot_list_extend PySem.F.type_list_extend mt_extT (pv 2) (pa_cons (pe_call F_named_by.G (hr.mono (by decide)) (by rfl) F_named_by.g F_named_by.k F_named_by.b .nil pass0 (pa_cons (pv 0) (pa_cons (pv 3) pa_nil))) pa_nil))))) pss_nil))))
      (pss_one (ps_ret (pe_callTy call_tuple_of (by rfl) T.tuple (by decide +kernel) (pa_cons (pe_callB cr_sorted (by rfl) T.sorted (by decide +kernel) (pa_cons (pe_callTy (call_listD (by rfl)) (by rfl) T.list (by decide +kernel) (pa_cons (pv 1) pa_nil)) pa_nil)) pa_nil))))))), ?_⟩
    obtain ⟨dx, r, g, n, o, hp, hr', hg', hn', ⟨xo, ho, hos⟩⟩ := id at_
    have exo := das_nat hos
    subst exo
    refine fun fd nf => with_new nf fun H1 s1 e1 => ?_
    refine ⟨_, rfl, p, C, dx, _, _, rfl, s1 _ _ hp, TC.cl, TC.n5, cf_ou, _, _, rfl, .inr (SqT.of (s1 _ _ ho)), fun wt nw => with_new nw fun H2 s2 e2 => ?_⟩
    have nw0 : H wt = none := s1.free nw
    have nfw : fd ≠ wt := ne_of_none e1 nw
    refine at_sig (σ' := [some (.ref p), some (.ref fd), some (.ref wt), none]) rfl ?_
    refine ⟨fun m σ' H' => ∃ f w u, σ' = [some (.ref p), some (.ref fd), some (.ref wt), u] ∧ Same H H' ∧ H' fd = some (.dK (fkv f)) ∧ H' wt = some (.lst (w.map iv)) ∧ NeedI c f w m, ⟨1000, [], c.os, none, rfl, s1.trans s2, s2 _ _ e1, e2, .nil, (fun n hn => by cases hn), ok.os, (by show c.os.length + 2 * (c.many - 0) ≤ 1000; omega), Nat.le_refl _, rfl⟩, ?_⟩
    rintro m σ' H' ⟨f, w, u, rfl, t, ef, ew, I⟩
    refine ⟨_, rfl, _, .inl ⟨_, SqL.of ew, rfl⟩, ?_⟩
    refine ite2 (fun cw => ?_) (fun cw => ?_)
    · have hw : w ≠ [] := fun z => by subst z; cases cw
      obtain ⟨n0, hn0⟩ : ∃ n, w.length = n + 1 := by
        cases w with
        | nil => exact absurd rfl hw
        | cons _ r => exact ⟨r.length, rfl⟩
      obtain ⟨sg, hs1, hs2⟩ := last_of hn0
      obtain ⟨k', rfl, hsm, old, new⟩ := I.turn ok hs2 hw
      refine ⟨fun σ2 H2 => ∃ f w u, σ2 = [some (.ref p), some (.ref fd), some (.ref wt), u] ∧ Same H H2 ∧ H2 fd = some (.dK (fkv f)) ∧ H2 wt = some (.lst (w.map iv)) ∧ NeedI c f w k', fun σ2 H2 h => ⟨k', Nat.lt_succ_self _, h⟩, ?_⟩
      refine ⟨_, rfl, .inl ⟨rfl, _, SqL.of ew⟩, wt, _, iv sg, rfl, rfl, ew, ?_, ?_⟩
      · rw [List.length_map, List.getElem?_map, hs1]
        rfl
      rw [← List.map_dropLast]
      have ef2 : (upd H' wt (.lst (w.dropLast.map iv))) fd = some (.dK (fkv f)) := by rw [upd_ne nfw]; exact ef
      have eg : DGet (upd H' wt (.lst (w.dropLast.map iv))) fd (iv sg) (if sg ∈ f then some (.bl true) else none) := fkv_val (s := sg) f ▸ DGet.k (k := Sum.inl (sg : Int)) ef2
      have lf : f.length < sizeLine := by
        have z := few I.nd I.fl
        exact Nat.lt_of_lt_of_le (by omega : f.length < 64) (by decide)
      refine ⟨_, rfl, _, rfl, fd, _, rfl, eg, _, rfl, ?_⟩
      by_cases mem : sg ∈ f
      · rw [if_pos mem]
        exact iteF ⟨f, w.dropLast, some (iv sg), rfl, same_mut t nw0, ef2, upd_same, old mem⟩
      · rw [if_neg mem]
        refine iteT ?_
        have ep : DPut (upd H' wt (.lst (w.dropLast.map iv))) fd (iv sg) (.bl true) (upd (upd H' wt (.lst (w.dropLast.map iv))) fd (.dK (fkv (f ++ [sg])))) := fkv_put mem ▸ DPut.k (k := Sum.inl (sg : Int)) ef2 (by unfold fkv; rw [List.length_map]; exact lf)
        refine ⟨_, rfl, _, rfl, fd, _, rfl, ep, ?_⟩
        have t3 : Same H (upd (upd H' wt (.lst (w.dropLast.map iv))) fd (.dK (fkv (f ++ [sg])))) := same_mut (same_mut t nw0) nf
        have ew3 : (upd (upd H' wt (.lst (w.dropLast.map iv))) fd (.dK (fkv (f ++ [sg])))) wt = some (.lst (w.dropLast.map iv)) := by rw [upd_ne (Ne.symm nfw)]; exact upd_same
        refine ⟨_, rfl, .inl ⟨rfl, _, SqL.of ew3⟩, _, rfl, _, rfl, p, c, sg, rfl, at_.same t3, ok, hsm, fun tt H5 s5 e5 => ?_⟩
        refine ⟨wt, tt, _, _, rfl, rfl, s5 _ _ ew3, SqT.of e5, ?_, ?_⟩
        · have z := new mem
          have zle := z.le
          rw [List.length_append] at zle
          rw [List.length_map, List.length_map]
          have k1 := z.k1
          exact Nat.le_trans (by omega : w.dropLast.length + (c.names sg).length ≤ 1000) (by decide)
        · refine ⟨f ++ [sg], w.dropLast ++ c.names sg, some (iv sg), rfl, same_mut (t3.trans s5) nw0, ?_, ?_, new mem⟩
          · rw [upd_ne nfw]
            exact s5 _ _ upd_same
          · rw [upd_same, List.map_append]
    · have hw : w = [] := by
        cases w with
        | nil => rfl
        | cons _ _ => exact absurd rfl cw
      subst hw
      have is := I.is
      rw [need_end] at is
      subst is
      have z := few I.nd I.fl
      refine ⟨_, rfl, fd, _, rfl, .inl ef, fun l1 n1 => ?_⟩
      have s6 := same_upd n1 (o := .lst ((fkv (c.need 1000 [] c.os)).map fun kv => kV kv.1))
      have e6 : ((fkv (c.need 1000 [] c.os)).map fun kv => kV kv.1) = ((c.need 1000 [] c.os).map Int.ofNat).map V.int := by
        unfold fkv
        rw [List.map_map, List.map_map]
        rfl
      refine ⟨l1, (c.need 1000 [] c.os).map Int.ofNat, rfl, SqL.of (by rw [upd_same, e6]), by rw [List.length_map]; omega, fun ns l2 hp' hs' n2 => ?_⟩
      have s7 := same_upd n2 (o := .lst (ns.map V.int))
      refine ⟨l2, _, rfl, .inl ⟨SqL.of upd_same, fun l3 n3 => ?_⟩⟩
      rw [eq_sortI hp' hs'] at *
      exact q l3 _ (t.trans (s6.trans (s7.trans (same_upd n3)))) upd_same
end
end Sb

set_option linter.all false
set_option maxRecDepth 100000
set_option maxHeartbeats 4000000
namespace Sb
open PySem PySem.Spec PyProof.Rows L2
/-! ### == of circuits -/
structure Cq (K : PySem.W.Frag) (C : Addr) : Prop where
  ha : PySem.W.findIn K (.ref C) "__class__" = some (some (.builtin "object.__class__"))
  hn : PySem.W.specialIn K (.builtin "object.__class__") "__get__" = some (some (.builtin "getset_descriptor.__get__"))
  htk : PySem.W.takesIn K (.builtin "object.__class__") = some true
  hm : PySem.W.mroIn K C (.type "object") = some true
  own : PySem.W.kitOne K (.ref C) (.ref C) = some true
  tup : PySem.W.kitOne K (.type "tuple") (.ref C) = some false
structure Cd.Fine (c : Cd) : Prop where
  rs : c.rs.all (fine 2) = true
  gs : c.gs.all (fine 2) = true
  ns : c.ns.all (fine 2) = true
  os : c.os.all (fine 2) = true
theorem TupD.da {H : Hp} {a : Addr} {ds : List PyData} (h : TupD H a ds) : Da H (.ref a) (.tuple ds) := by
  obtain ⟨xs, h, hs⟩ := h
  exact .tup h hs
def spEqC (C : Addr) : Sp := fun vs H Q _ => ∃ (p : Addr) (v : V) (c : Cd), vs = [.ref p, v] ∧ CircAt H p C c ∧ c.Fine ∧
  ((∃ q c2 b, v = .ref q ∧ CircAt H q C c2 ∧ c2.Fine ∧ (b = true ↔ c = c2) ∧ Q (.bl b) H) ∨ ∃ a xs, v = .ref a ∧ H a = some (.tup xs) ∧ Q (.bl false) H)
theorem CircAt.ty {K : PySem.W.Frag} {H : Hp} {p C : Addr} {c : Cd} (TC : Cc K C) (Tq : Cq K C) (h : CircAt H p C c) : TyX K H (.ref p) (.ref C) := by
  obtain ⟨dx, r, g, n, o, hp, _⟩ := h
  exact .base (.ins hp TC.cl Tq.ha Tq.hn Tq.htk Tq.hm)
theorem tuple_fine {ds : List PyData} (h : ds.all (fine 2) = true) : fine 3 (.tuple ds) = true := h
section
variable {P : Program} {w : World} {K : PySem.W.Frag} {mg : Str → Option Value} {base : Heap}
theorem sc_eqc : FnScope ["self", "other"] ["self", "other"] (defScope (inClass (top 16) 1)) := ⟨rfl, rfl, rfl, by decide +kernel, rfl, by decide +kernel, by decide +kernel⟩
theorem ok_eqc {f C : Addr} {fd : FuncData} (F : Fun K "__eq__" "Circuit.__eq__" (inClass (top 16) 1) f fd) (T : Bv mg) (TC : Cc K C) (Tq : Cq K C) (g_C : mg "Circuit" = some (.ref C)) : FnOk P w K mg base CX0 1 f fd ["self", "other"] (spEqC C) := by
  have sc := sc_eqc
  refine F.ok sc_eqc (fun vs H Q E h => ?_) (fun cdv A outer s H vs Q E hr h => ?_)
  · obtain ⟨p, v, c, rfl, _⟩ := h
    rfl
  · obtain ⟨p, v, c, rfl, at_, fc, h⟩ := h
    refine ⟨_, (pss_one (ps_ret (pe_and (pe_callB call_isi (by rfl) T.isinstance (by decide +kernel) (pa_cons (pv 1) (pa_cons (pe_glob (v := .ref _) rfl g_C rfl) pa_nil))) (pe_and (pe_cmpR op_eq (pe_fld (pv 0) rfl) (pe_fld (pv 1) rfl) (nomark _)) (pe_and (pe_cmpR (op_eqD hr.units) (pe_fld (pv 0) rfl) (pe_fld (pv 1) rfl) (nomark _)) (pe_and (pe_cmpR (op_eqD hr.units) (pe_fld (pv 0) rfl) (pe_fld (pv 1) rfl) (nomark _)) (pe_and (pe_cmpR (op_eqD hr.units) (pe_fld (pv 0) rfl) (pe_fld (pv 1) rfl) (nomark _)) (pe_one (pe_cmpR (op_eqD hr.units) (pe_fld (pv 0) rfl) (pe_fld (pv 1) rfl) (nomark _)))))))))), ?_⟩
    rcases h with ⟨q, c2, b, rfl, at2, fc2, hb, qq⟩ | ⟨a, xs, rfl, ha, qq⟩
    · obtain ⟨dx, r, g, n, o, hp, hr', hg', hn', ho'⟩ := id at_
      obtain ⟨dx2, r2, g2, n2, o2, hp2, hr2, hg2, hn2, ho2⟩ := id at2
      refine ⟨_, rfl, _, .ref C, _, _, true, rfl, .own C, at2.ty TC Tq, Tq.own, true, rfl, iteT ?_⟩
      refine ⟨_, rfl, p, C, dx, _, _, rfl, hp, TC.cl, TC.n1, cf_in, _, rfl, q, C, dx2, _, _, rfl, hp2, TC.cl, TC.n1, cf_in, rfl, _, rfl, ?_⟩
      have no : ¬ c = c2 → Q (.bl false) H := fun z => by
        have e : b = false := Bool.eq_false_iff.mpr fun y => z (hb.mp y)
        rw [e] at qq
        exact qq
      refine ite2 (fun e1 => ?_) (fun e1 => ?_)
      rotate_left
      · exact no fun z => e1 (by rw [z]; exact decide_eq_true rfl)
      have e1 : c.m = c2.m := by have z := V.int.inj (of_decide_eq_true e1); omega
      have drs : Decidable (c.rs = c2.rs) := Classical.propDecidable _
      refine ⟨_, rfl, p, C, dx, _, _, rfl, hp, TC.cl, TC.n2, cf_re, _, rfl, q, C, dx2, _, _, rfl, hp2, TC.cl, TC.n2, cf_re, eqD_of (n := 3) (b := decide (c.rs = c2.rs)) hr'.da hr2.da (by decide) (tuple_fine fc.rs) (tuple_fine fc2.rs) (by rw [decide_eq_true_iff]; exact ⟨fun z => congrArg _ z, fun z => PyData.tuple.inj z⟩) ?_⟩
      refine ⟨_, rfl, ?_⟩
      by_cases e2 : c.rs = c2.rs
      rotate_left
      · rw [decide_eq_false e2]
        exact iteF (no fun z => e2 (by rw [z]))
      rw [decide_eq_true e2]
      refine iteT ?_
      have dgs : Decidable (c.gs = c2.gs) := Classical.propDecidable _
      refine ⟨_, rfl, p, C, dx, _, _, rfl, hp, TC.cl, TC.n3, cf_ga, _, rfl, q, C, dx2, _, _, rfl, hp2, TC.cl, TC.n3, cf_ga, eqD_of (n := 3) (b := decide (c.gs = c2.gs)) hg'.da hg2.da (by decide) (tuple_fine fc.gs) (tuple_fine fc2.gs) (by rw [decide_eq_true_iff]; exact ⟨fun z => congrArg _ z, fun z => PyData.tuple.inj z⟩) ?_⟩
      refine ⟨_, rfl, ?_⟩
      by_cases e3 : c.gs = c2.gs
      rotate_left
      · rw [decide_eq_false e3]
        exact iteF (no fun z => e3 (by rw [z]))
      rw [decide_eq_true e3]
      refine iteT ?_
      have dns : Decidable (c.ns = c2.ns) := Classical.propDecidable _
      refine ⟨_, rfl, p, C, dx, _, _, rfl, hp, TC.cl, TC.n4, cf_ne, _, rfl, q, C, dx2, _, _, rfl, hp2, TC.cl, TC.n4, cf_ne, eqD_of (n := 3) (b := decide (c.ns = c2.ns)) hn'.da hn2.da (by decide) (tuple_fine fc.ns) (tuple_fine fc2.ns) (by rw [decide_eq_true_iff]; exact ⟨fun z => congrArg _ z, fun z => PyData.tuple.inj z⟩) ?_⟩
      refine ⟨_, rfl, ?_⟩
      by_cases e4 : c.ns = c2.ns
      rotate_left
      · rw [decide_eq_false e4]
        exact iteF (no fun z => e4 (by rw [z]))
      rw [decide_eq_true e4]
      refine iteT ?_
      have dos : Decidable (c.os = c2.os) := Classical.propDecidable _
      refine ⟨_, rfl, p, C, dx, _, _, rfl, hp, TC.cl, TC.n5, cf_ou, _, rfl, q, C, dx2, _, _, rfl, hp2, TC.cl, TC.n5, cf_ou, eqD_of (n := 3) (b := decide (c.os = c2.os)) ho'.da ho2.da (by decide) (tuple_fine fc.os) (tuple_fine fc2.os) (by rw [decide_eq_true_iff]; exact ⟨fun z => congrArg _ z, fun z => PyData.tuple.inj z⟩) ?_⟩
      by_cases e5 : c.os = c2.os
      rotate_left
      · rw [decide_eq_false e5]
        exact no fun z => e5 (by rw [z])
      rw [decide_eq_true e5]
      have e : c = c2 := by
        obtain ⟨_, _, _, _, _⟩ := c
        obtain ⟨_, _, _, _, _⟩ := c2
        simp only [Cd.mk.injEq]
        exact ⟨e1, e2, e3, e4, e5⟩
      rw [hb.mpr e] at qq
      exact qq
    · exact ⟨_, rfl, _, .ref C, _, _, false, rfl, .own C, .base (.tup ha), Tq.tup, false, rfl, iteF qq⟩
end
end Sb

set_option linter.all false
set_option maxRecDepth 100000
set_option maxHeartbeats 4000000
namespace Sb
open PySem PySem.Spec PyProof.Rows L2
/-! ### the pen -/
def penD (c : Addr) (a d n f : Int) : List (Key × V) := [(.inr "cells", .ref c), (.inr "at", .int a), (.inr "digits", .int d), (.inr "count", .int n), (.inr "fold", .int f)]
theorem pen_cells {c : Addr} {a d n f : Int} : valV (penD c a d n f) (.inr "cells") = some (.ref c) := by kernel_rfl
theorem pen_at {c : Addr} {a d n f : Int} : valV (penD c a d n f) (.inr "at") = some (.int a) := by kernel_rfl
theorem pen_digits {c : Addr} {a d n f : Int} : valV (penD c a d n f) (.inr "digits") = some (.int d) := by kernel_rfl
theorem pen_count {c : Addr} {a d n f : Int} : valV (penD c a d n f) (.inr "count") = some (.int n) := by kernel_rfl
theorem pen_fold {c : Addr} {a d n f : Int} : valV (penD c a d n f) (.inr "fold") = some (.int f) := by kernel_rfl
theorem put_at {c : Addr} {a d n f v : Int} : putK (penD c a d n f) (.inr "at") (.int v) = penD c v d n f := by kernel_rfl
theorem put_digits {c : Addr} {a d n f v : Int} : putK (penD c a d n f) (.inr "digits") (.int v) = penD c a v n f := by kernel_rfl
theorem put_count {c : Addr} {a d n f v : Int} : putK (penD c a d n f) (.inr "count") (.int v) = penD c a d v f := by kernel_rfl
theorem put_fold {c : Addr} {a d n f v : Int} : putK (penD c a d n f) (.inr "fold") (.int v) = penD c a d n v := by kernel_rfl

section
variable {H : Hp} {p c : Addr} {a d n f v : Int}
theorem dg_cells (h : H p = some (.dK (penD c a d n f))) : DGet H p (.str "cells") (some (.ref c)) := pen_cells (a := a) (d := d) (n := n) (f := f) ▸ DGet.k (k := Sum.inr "cells") h
theorem dg_at (h : H p = some (.dK (penD c a d n f))) : DGet H p (.str "at") (some (.int a)) := pen_at (c := c) (d := d) (n := n) (f := f) ▸ DGet.k (k := Sum.inr "at") h
theorem dg_digits (h : H p = some (.dK (penD c a d n f))) : DGet H p (.str "digits") (some (.int d)) := pen_digits (a := a) (c := c) (n := n) (f := f) ▸ DGet.k (k := Sum.inr "digits") h
theorem dg_count (h : H p = some (.dK (penD c a d n f))) : DGet H p (.str "count") (some (.int n)) := pen_count (a := a) (d := d) (c := c) (f := f) ▸ DGet.k (k := Sum.inr "count") h
theorem dg_fold (h : H p = some (.dK (penD c a d n f))) : DGet H p (.str "fold") (some (.int f)) := pen_fold (a := a) (d := d) (n := n) (c := c) ▸ DGet.k (k := Sum.inr "fold") h
theorem len_pen : (penD c a d n f).length < sizeLine := by show 5 < sizeLine; decide
theorem dp_at (h : H p = some (.dK (penD c a d n f))) : DPut H p (.str "at") (.int v) (upd H p (.dK (penD c v d n f))) := put_at ▸ DPut.k (k := Sum.inr "at") h len_pen
theorem dp_digits (h : H p = some (.dK (penD c a d n f))) : DPut H p (.str "digits") (.int v) (upd H p (.dK (penD c a v n f))) := put_digits ▸ DPut.k (k := Sum.inr "digits") h len_pen
theorem dp_count (h : H p = some (.dK (penD c a d n f))) : DPut H p (.str "count") (.int v) (upd H p (.dK (penD c a d v f))) := put_count ▸ DPut.k (k := Sum.inr "count") h len_pen
theorem dp_fold (h : H p = some (.dK (penD c a d n f))) : DPut H p (.str "fold") (.int v) (upd H p (.dK (penD c a d n v))) := put_fold ▸ DPut.k (k := Sum.inr "fold") h len_pen
end
structure TB (mg : Str → Option Value) : Prop where
  int : mg "int" = none
  list : mg "list" = none
  len : mg "len" = none
def Pen (H : Hp) (p c : Addr) (k : Nat) : Prop := ∃ (ns : List Int) (a d n f : Int), H p = some (.dK (penD c a d n f)) ∧ H c = some (.lst (ns.map V.int)) ∧ ns.length ≤ 63 ∧ 0 ≤ a ∧ 0 ≤ d ∧ 0 ≤ n ∧ n ≤ k ∧ 0 ≤ f ∧ f < 2147483587
def spPen (K : PySem.W.Frag) : Sp := fun vs H Q _ => ∃ (a : Addr) (ns : List Int), vs = [.ref a] ∧ SqL K H a (ns.map V.int) ∧ ns.length ≤ 63 ∧ ∀ p c H', H p = none → H c = none → Same H H' → Pen H' p c 0 → Q (.ref p) H'
def spDraw : Sp := fun vs H Q _ => ∃ (p c : Addr) (k : Nat) (m : Int), vs = [.ref p, .int m] ∧ Pen H p c k ∧ k < 1000000000 ∧ 0 < m ∧ m < 1000000 ∧ ∀ d H', 0 ≤ d → d < m → Pen H' p c (k + 1) → (∀ q, q ≠ p → H' q = H q) → Q (.int d) H'
section
variable {P : Program} {w : World} {K : PySem.W.Frag} {mg : Str → Option Value} {base : Heap}
theorem sc_pen : FnScope ["_law_script", "_law_fold", "_law_cell"] ["_law_script"] (defScope (top 31)) := ⟨rfl, rfl, rfl, by decide +kernel, rfl, by decide +kernel, by decide +kernel⟩
theorem ok_pen {f : Addr} {fd : FuncData} (F : Fun K "_law_pen" "_law_pen" (top 31) f fd) (T : TB mg) : FnOk P w K mg base CX0 1 f fd ["_law_script"] (spPen K) := by
  have sc := sc_pen
  refine F.ok sc_pen (fun vs H Q E h => ?_) (fun cdv A outer s H vs Q E hr h => ?_)
  · obtain ⟨a, ns, rfl, _⟩ := h
    rfl
  · obtain ⟨a, ns, rfl, hS, hlen, q⟩ := h
    refine ⟨_, (pss_cons (ps_set (i := 1) sc.nd rfl (.inl rfl) pe_int)
      (pss_cons (ps_for PassesOwn.never rfl (pi_list (pv 0)) (pg_name (i := 2) sc.nd rfl (.inl rfl)) (pss_one (ps_set (i := 1) sc.nd rfl (.inl rfl) (pe_op op_modN (pe_callTy call_int1 (by rfl) T.int (by decide +kernel) (pa_cons (pe_op op_add (pe_op op_mul (pv 1) pe_int) (pv 2)) pa_nil)) pe_int))))
      (pss_one (ps_ret (pe_disp (pps_cons pe_str (pe_callTy call_list_of (by rfl) T.list (by decide +kernel) (pa_cons (pv 0) pa_nil)) (pps_cons pe_str pe_int (pps_cons pe_str pe_int (pps_cons pe_str pe_int (pps_cons pe_str (pv 1) pps_nil))))) (by rfl) (by rfl) (fun z => by cases z) (by decide)))))), ?_⟩
    refine ⟨_, rfl, a, rfl, ⟨_, hS⟩, for_list (K := K) (a := a) (xs := ns.map V.int) (fun i σ H' => ∃ f v, σ = [some (.ref a), some (.int f), v] ∧ H' = H ∧ 0 ≤ f ∧ f < 1000000007) ⟨0, none, rfl, rfl, by decide, by decide⟩ (fun i σ H' _ hh => ?_) ?_ ?_⟩
    · obtain ⟨f, v, rfl, rfl, _⟩ := hh
      exact hS
    · rintro i y σ H' hi ⟨f, v, rfl, rfl, h1, h2⟩
      obtain ⟨z, hz, rfl⟩ : ∃ z, ns[i]? = some z ∧ y = V.int z := by
        rw [List.getElem?_map] at hi
        cases e : ns[i]? with
        | none => rw [e] at hi; cases hi
        | some z => rw [e] at hi; exact ⟨z, rfl, (Option.some.inj hi).symm⟩
      refine ⟨_, rfl, _, _, rfl, rfl, .inl ⟨by omega, by omega⟩, _, rfl, _, _, rfl, rfl, .inl ⟨_, rfl, _, _, rfl, rfl, (by show (1000000007 : Int) ≠ 0; decide), _, _, rfl, rfl, ?_, ?_⟩⟩
      · exact Int.fmod_nonneg_of_pos _ (by decide)
      · exact Int.fmod_lt_of_pos _ (by decide)
    · rintro σ H' ⟨f, v, rfl, rfl, h1, h2⟩
      intro p hp
      refine ⟨_, rfl, a, _, rfl, .inl ((same_upd hp).seq hS), fun l hl => ⟨_, rfl, ?_, [(.inr "cells", .ref l), (.inr "at", .int 0), (.inr "digits", .int 0), (.inr "count", .int 0), (.inr "fold", .int f)], rfl, (by show 5 ≤ 15; decide), ?_⟩⟩
      · have e : p ≠ l := fun e => by rw [← e, upd_same] at hl; cases hl
        rw [upd_ne e, upd_same]
      · have e : l ≠ p := fun e => by rw [e, upd_same] at hl; cases hl
        have hl0 : H' l = none := by rw [upd_ne e] at hl; exact hl
        refine q p l _ hp hl0 (fun b o z => ?_) ⟨ns, 0, 0, 0, f, ?_, ?_, hlen, by decide, by decide, by decide, by decide, h1, by omega⟩
        · rw [upd_ne (ne_of_none z hp), upd_ne (ne_of_none z hl0), upd_ne (ne_of_none z hp)]
          exact z
        · rw [upd_same]
          exact congrArg (fun x => some (HO.dK x)) (by kernel_rfl)
        · rw [upd_ne e, upd_same]
theorem sc_draw : FnScope ["_law_pen_here", "_law_many", "_law_cell", "_law_digit", "_law_blend"] ["_law_pen_here", "_law_many"] (defScope (top 32)) := ⟨rfl, rfl, rfl, by decide +kernel, rfl, by decide +kernel, by decide +kernel⟩
theorem ok_draw {f : Addr} {fd : FuncData} (F : Fun K "_law_draw" "_law_draw" (top 32) f fd) (T : TB mg) : FnOk P w K mg base CX0 1 f fd ["_law_pen_here", "_law_many"] spDraw := by
  have sc := sc_draw
  refine F.ok sc_draw (fun vs H Q E h => ?_) (fun cdv A outer s H vs Q E hr h => ?_)
  · obtain ⟨p, c, k, m, rfl, _⟩ := h
    rfl
  · obtain ⟨p, c, k, m, rfl, ⟨ns, a, d, n, f, hp, hc, hln, ha, hd, hn, hnk, hf, hf2⟩, hk, hm, hm2, q⟩ := h
    have hu := hu_of hr
    have npc : c ≠ p := ne_of hc hp (by intro z; cases z)
    refine ⟨_, (pss_cons (ps_dput hu (pv 0) pe_str (pe_op op_add (pe_dget hu (pv 0) pe_str (fun _ _ => rfl)) pe_int) rfl)
      (C8.pss_cut (ps_if (PW.pt (pw_and (pt_cmpR op_eq (pe_dget hu (pv 0) pe_str (fun _ _ => rfl)) pe_int (nomark _)) (pw_and1 (pt_cmpR op_lt (pe_dget hu (pv 0) pe_str (fun _ _ => rfl)) (pe_callB call_len (by rfl) T.len (by decide +kernel) (pa_cons (pe_dget hu (pv 0) pe_str (fun _ _ => rfl)) pa_nil)) (nomark _))))) (pss_cons (ps_set (i := 2) sc.nd rfl (.inl rfl) (pe_ix ix_list (pe_dget hu (pv 0) pe_str (fun _ _ => rfl)) (pe_dget hu (pv 0) pe_str (fun _ _ => rfl)) (fun _ _ => rfl)))
      (pss_cons (ps_dput hu (pv 0) pe_str (pe_op op_add (pe_dget hu (pv 0) pe_str (fun _ _ => rfl)) pe_int) rfl)
      (pss_one (ps_if (pt_cmpR op_ge (pv 2) (pe_op op_pow pe_int pe_int) (nomark _)) (pss_one (ps_dput hu (pv 0) pe_str (pe_op op_sub (pv 2) (pe_op op_pow pe_int pe_int)) rfl)) (pss_one (ps_dput hu (pv 0) pe_str (pe_op op_modN (pe_callTy call_int1 (by rfl) T.int (by decide +kernel) (pa_cons (pe_op op_add (pe_op op_mul (pe_dget hu (pv 0) pe_str (fun _ _ => rfl)) pe_int) (pv 2)) pa_nil)) pe_int) rfl)))))) pss_nil)
      (pss_cons (ps_if (pt_cmpR op_gt (pe_dget hu (pv 0) pe_str (fun _ _ => rfl)) pe_int (nomark _)) (pss_cons (ps_set (i := 3) sc.nd rfl (.inl rfl) (pe_op op_modN (pe_callTy call_int1 (by rfl) T.int (by decide +kernel) (pa_cons (pe_dget hu (pv 0) pe_str (fun _ _ => rfl)) pa_nil)) (pv 1)))
      (pss_cons (ps_dput hu (pv 0) pe_str (pe_op op_fdivN (pe_dget hu (pv 0) pe_str (fun _ _ => rfl)) (pv 1)) rfl)
      (pss_one (ps_ret (pv 3))))) pss_nil)
      (pss_cons (ps_set (i := 4) sc.nd rfl (.inl rfl) (pe_op op_add (pe_op op_add (pe_dget hu (pv 0) pe_str (fun _ _ => rfl)) (pe_op op_mul (pe_dget hu (pv 0) pe_str (fun _ _ => rfl)) pe_int)) pe_int))
      (pss_one (ps_ret (pe_op op_modN (pe_op op_fdivN (pe_callTy call_int1 (by rfl) T.int (by decide +kernel) (pa_cons (pe_op op_modN (pe_op op_pow (pv 4) pe_int) pe_int) pa_nil)) pe_int) (pv 1)))))))), ?_⟩
    -- count
    refine ⟨_, rfl, p, _, rfl, dg_count hp, _, _, rfl, rfl, _, rfl, p, _, rfl, dp_count hp, ?_⟩
    refine ⟨fun σ' H' => ∃ (v2 : Option V) (a d f : Int), σ' = [some (.ref p), some (.int m), v2, none, none] ∧ H' = upd H p (.dK (penD c a d (n + 1) f)) ∧ 0 ≤ a ∧ 0 ≤ d ∧ 0 ≤ f ∧ f < 2147483587, ?_, ?_⟩
    · -- the next cell, perhaps
      refine ⟨_, rfl, p, _, rfl, dg_digits upd_same, rfl, _, rfl, ?_⟩
      have skip : ∃ (v2 : Option V) (a' d' f' : Int), [some (V.ref p), some (V.int m), none, none, none] = [some (V.ref p), some (V.int m), v2, none, none] ∧ upd H p (.dK (penD c a d (n + 1) f)) = upd H p (.dK (penD c a' d' (n + 1) f')) ∧ 0 ≤ a' ∧ 0 ≤ d' ∧ 0 ≤ f' ∧ f' < 2147483587 := ⟨none, a, d, f, rfl, rfl, ha, hd, hf, hf2⟩
      refine ite2 (fun _ => ?_) (fun _ => skip)
      refine ⟨_, rfl, p, _, rfl, dg_at upd_same, _, rfl, p, _, rfl, dg_cells upd_same, _, ns.length, rfl, .inl ⟨_, SqL.of (by rw [upd_ne npc]; exact hc), by rw [List.length_map]⟩, _, _, rfl, rfl, _, rfl, ?_⟩
      refine ite2 (fun e => ?_) (fun _ => skip)
      have hlt : a < (ns.length : Int) := of_decide_eq_true e
      have han : a.toNat < ns.length := by omega
      have hx : (ns.map V.int)[a.toNat]? = some (.int ns[a.toNat]) := by
        rw [List.getElem?_map, List.getElem?_eq_getElem han]
        rfl
      refine ⟨_, rfl, p, _, rfl, dg_cells upd_same, _, rfl, p, _, rfl, dg_at upd_same, c, ns.map V.int, a, .int ns[a.toNat], rfl, rfl, SqL.of (by rw [upd_ne npc]; exact hc), at_of (by omega) hx, ?_⟩
      refine ⟨_, rfl, p, _, rfl, dg_at upd_same, _, _, rfl, rfl, _, rfl, p, _, rfl, dp_at upd_same, ?_⟩
      rw [upd_upd]
      refine ⟨_, rfl, _, _, rfl, rfl, ⟨by decide, by decide, by decide⟩, _, _, rfl, rfl, _, rfl, ?_⟩
      refine ite2 (fun e => ?_) (fun _ => ?_)
      · have hge : (10 : Int) ^ (18 : Int).toNat ≤ ns[a.toNat] := of_decide_eq_true e
        refine ⟨_, rfl, _, _, rfl, rfl, ⟨by decide, by decide, by decide⟩, _, _, rfl, rfl, _, rfl, p, _, rfl, dp_digits upd_same, ?_⟩
        rw [upd_upd]
        exact ⟨_, _, _, _, rfl, rfl, by omega, by omega, hf, hf2⟩
      · refine ⟨_, rfl, p, _, rfl, dg_fold upd_same, _, _, rfl, rfl, .inl ⟨by omega, by omega⟩, _, rfl, _, _, rfl, rfl, .inl ⟨_, rfl, _, _, rfl, rfl, (by show (2147483587 : Int) ≠ 0; decide), _, rfl, p, _, rfl, dp_fold upd_same, ?_⟩⟩
        rw [upd_upd]
        exact ⟨_, _, _, _, rfl, rfl, by omega, hd, Int.fmod_nonneg_of_pos _ (by decide), Int.fmod_lt_of_pos _ (by decide)⟩
    · rintro σ' H' ⟨v2, a, d, f, rfl, rfl, ha, hd, hf, hf2⟩
      have keep : ∀ (x : HO) (b : Addr), b ≠ p → upd H p x b = H b := fun x b hb => upd_ne hb
      have pen : ∀ d' : Int, 0 ≤ d' → Pen (upd H p (.dK (penD c a d' (n + 1) f))) p c (k + 1) := fun d' h =>
        ⟨ns, a, d', n + 1, f, upd_same, by rw [upd_ne npc]; exact hc, hln, ha, h, by omega, by omega, hf, hf2⟩
      refine ⟨_, rfl, p, _, rfl, dg_digits upd_same, _, _, rfl, rfl, _, rfl, ?_⟩
      refine ite2 (fun e => ?_) (fun _ => ?_)
      · have hgt : 0 < d := of_decide_eq_true e
        refine ⟨_, rfl, p, _, rfl, dg_digits upd_same, .inl ⟨_, rfl, _, rfl, _, _, rfl, rfl, (by show m ≠ 0; omega), ?_⟩⟩
        refine ⟨_, rfl, p, _, rfl, dg_digits upd_same, _, rfl, _, _, rfl, rfl, ⟨by omega, by omega⟩, _, rfl, p, _, rfl, dp_digits upd_same, ?_⟩
        rw [upd_upd]
        exact ⟨_, rfl, q _ _ (Int.fmod_nonneg_of_pos _ hm) (Int.fmod_lt_of_pos _ hm) (pen _ (Int.fdiv_nonneg hd (by omega))) (fun b hb => upd_ne hb)⟩
      · refine ⟨_, rfl, p, _, rfl, dg_fold upd_same, _, rfl, p, _, rfl, dg_count upd_same, _, _, rfl, rfl, .inl ⟨by omega, by omega⟩, _, _, rfl, rfl, _, _, rfl, rfl, ?_⟩
        refine ⟨_, rfl, _, _, rfl, rfl, ⟨by decide, by decide, by omega⟩, _, _, rfl, rfl, (by show (2305843009213693951 : Int) ≠ 0; decide), .inl ⟨_, rfl, _, _, rfl, rfl, ⟨by decide, by decide⟩, _, rfl, _, _, rfl, rfl, (by show m ≠ 0; omega), ?_⟩⟩
        exact q _ _ (Int.fmod_nonneg_of_pos _ hm) (Int.fmod_lt_of_pos _ hm) (pen d hd) (fun b hb => upd_ne hb)

/-! ### what a draw leaves: all but the pen -/
def But (p : Addr) (H H' : Hp) : Prop := ∀ q, q ≠ p → H' q = H q
theorem But.refl {p : Addr} {H : Hp} : But p H H := fun _ _ => rfl
theorem But.trans {p : Addr} {H H1 H2 : Hp} (a : But p H H1) (b : But p H1 H2) : But p H H2 := fun q h => (b q h).trans (a q h)
theorem But.sq {p c : Addr} {k : Nat} {H H' : Hp} {a : Addr} {xs : List V} (b : But p H H') (g : Pen H p c k) (h : SqL K H a xs) : SqL K H' a xs := by
  obtain ⟨_, _, _, _, _, hp, _⟩ := g
  rcases h with (h | ⟨o, h⟩) | h
  · exact .inl (.inl ((b a (ne_of h hp (by intro z; cases z))).trans h))
  · exact .inl (.inr ⟨o, (b a (ne_of h hp (by intro z; cases z))).trans h⟩)
  · exact .inr h
def spPick (K : PySem.W.Frag) : Sp := fun vs H Q _ => ∃ (p c l : Addr) (k : Nat) (xs : List V), vs = [.ref p, .ref l] ∧ Pen H p c k ∧ k < 1000000000 ∧ SqL K H l xs ∧ 0 < xs.length ∧ xs.length < 1000000 ∧ ∀ (i : Nat) x H', xs[i]? = some x → Pen H' p c (k + 1) → But p H H' → Q x H'
structure TD (mg : Str → Option Value) (K : PySem.W.Frag) (fD : Addr) : Prop where
  g : mg "_law_draw" = some (.ref fD)
theorem sc_pick : FnScope ["_law_pen_here", "_law_some"] ["_law_pen_here", "_law_some"] (defScope (top 33)) := ⟨rfl, rfl, rfl, by decide +kernel, rfl, by decide +kernel, by decide +kernel⟩
theorem ok_pick {f fD : Addr} {fd fdD : FuncData} (F : Fun K "_law_pick" "_law_pick" (top 33) f fd) (T : TB mg) (gD : mg "_law_draw" = some (.ref fD)) (GD : FnOk P w K mg base CX0 1 fD fdD ["_law_pen_here", "_law_many"] spDraw) (kD : PySem.W.keepIn K (.ref fD) = true) (bD : Binds K fdD ["_law_pen_here", "_law_many"] []) :
    FnOk P w K mg base CX0 2 f fd ["_law_pen_here", "_law_some"] (spPick K) := by
  have sc := sc_pick
  refine F.ok sc_pick (fun vs H Q E h => ?_) (fun cdv A outer s H vs Q E hr h => ?_)
  · obtain ⟨p, c, l, k, xs, rfl, _⟩ := h
    rfl
  · obtain ⟨p, c, l, k, xs, rfl, hp, hk, hl, h1, h2, q⟩ := h
    refine ⟨_, (pss_one (ps_ret (pe_ix ix_list (pv 1) (pe_call GD (hr.mono (by decide)) (by rfl) gD kD bD .nil pass0 (pa_cons (pv 0) (pa_cons (pe_callB call_len (by rfl) T.len (by decide +kernel) (pa_cons (pv 1) pa_nil)) pa_nil))) (fun _ _ => rfl)))), ?_⟩
    refine ⟨_, rfl, _, rfl, _, rfl, _, xs.length, rfl, .inl ⟨_, hl, rfl⟩, p, c, k, _, rfl, hp, hk, by omega, by omega, fun d H' h3 h4 hp' hb => ?_⟩
    have hd : d.toNat < xs.length := by omega
    exact ⟨l, xs, d, xs[d.toNat], rfl, rfl, But.sq hb hp hl, at_of (by omega) (List.getElem?_eq_getElem hd), q _ _ _ (List.getElem?_eq_getElem hd) hp' hb⟩
end
end Sb

set_option linter.all false
set_option maxRecDepth 100000
set_option maxHeartbeats 4000000
namespace Sb
open PySem PySem.Spec PyProof.Rows L2
/-- the law's own circuit: a tuple of five -/
def OwnAt (H : Hp) (a : Addr) (c : Cd) : Prop := ∃ r g n o, H a = some (.tup [.int (c.m : Int), .ref r, .ref g, .ref n, .ref o]) ∧ TupD H r c.rs ∧ TupD H g c.gs ∧ TupD H n c.ns ∧ TupD H o c.os
theorem OwnAt.kp {H H' : Hp} {a : Addr} {c : Cd} (k : Kp H H') (h : OwnAt H a c) : OwnAt H' a c := by
  obtain ⟨r, g, n, o, ha, h1, h2, h3, h4⟩ := h
  exact ⟨r, g, n, o, k.t _ _ ha, h1.kp k, h2.kp k, h3.kp k, h4.kp k⟩
theorem OwnAt.same {H H' : Hp} {a : Addr} {c : Cd} (s : Same H H') (h : OwnAt H a c) : OwnAt H' a c := h.kp (.of s)
def spLGate (K : PySem.W.Frag) : Sp := fun vs H Q _ => ∃ (v : V) (l : Addr) (g : Gt) (bs : List Bool), vs = [v, .ref l] ∧ Da H v g.enc ∧ SqL K H l (bs.map bv) ∧ g.lt bs.length ∧ ∀ H', Same H H' → Q (.int (bi (g.val bs))) H'
section
variable {P : Program} {w : World} {K : PySem.W.Frag} {mg : Str → Option Value} {base : Heap}
theorem sc_lgate : FnScope ["_law_gate_here", "_law_values", "_law_one", "_law_two"] ["_law_gate_here", "_law_values"] (defScope (top 35)) := ⟨rfl, rfl, rfl, by decide +kernel, rfl, by decide +kernel, by decide +kernel⟩
theorem ok_lgate {f : Addr} {fd : FuncData} (F : Fun K "_law_gate" "_law_gate" (top 35) f fd) (T : Bv mg) : FnOk P w K mg base CX0 1 f fd ["_law_gate_here", "_law_values"] (spLGate K) := by
  have sc := sc_lgate
  refine F.ok sc_lgate (fun vs H Q E h => ?_) (fun cdv A outer s H vs Q E hr h => ?_)
  · obtain ⟨v, l, g, bs, rfl, _⟩ := h
    rfl
  · obtain ⟨v, l, g, bs, rfl, hg, hl, hlt, q⟩ := h
    have hu := hu_of hr
    refine ⟨_, (pss_cons (ps_if (pt_cmpR op_eq (pe_ix ix_tup (pv 0) pe_int (fun _ _ => rfl)) pe_str (nomark _)) (pss_one (ps_ret pe_int)) pss_nil)
      (pss_cons (ps_if (pt_cmpR op_eq (pe_ix ix_tup (pv 0) pe_int (fun _ _ => rfl)) pe_str (nomark _)) (pss_one (ps_ret (pe_op op_sub pe_int (pe_ix ix_list (pv 1) (pe_ix ix_tup (pv 0) pe_int (fun _ _ => rfl)) (fun _ _ => rfl))))) pss_nil)
      (pss_cons (ps_par (i := 2) (j := 3) (by rfl) sc.nd rfl rfl (by decide) rfl rfl (pa_cons (pe_ix ix_list (pv 1) (pe_ix ix_tup (pv 0) pe_int (fun _ _ => rfl)) (fun _ _ => rfl)) (pa_cons (pe_ix ix_list (pv 1) (pe_ix ix_tup (pv 0) pe_int (fun _ _ => rfl)) (fun _ _ => rfl)) pa_nil)) (by rfl))
      (pss_one (ps_ret (pe_dget hu (pe_disp (pps_cons pe_str (pe_op op_mul (pv 2) (pv 3)) (pps_cons pe_str (pe_callB (cr_max rfl) (by rfl) T.max (by decide +kernel) (pa_cons (pe_lst (pa_cons (pv 2) (pa_cons (pv 3) pa_nil))) pa_nil)) (pps_cons pe_str (pe_callTy call_int1 (by rfl) T.int (by decide +kernel) (pa_cons (pe_cmpR op_ne (pv 2) (pv 3) (nomark _)) pa_nil)) (pps_cons pe_str (pe_op op_mul (pv 2) (pe_op op_sub pe_int (pv 3))) pps_nil)))) (by rfl) (by rfl) (fun z => by cases z) (by decide)) (pe_ix ix_tup (pv 0) pe_int (fun _ _ => rfl)) (fun _ _ => rfl))))))), ?_⟩
    cases g with
    | one =>
      obtain ⟨a, xs, rfl, ha, hs⟩ := hg.tup_inv
      cases hs with
      | cons h1 t =>
        cases h1.str_inv
        refine ⟨_, rfl, a, _, 0, _, rfl, rfl, SqT.of ha, at_of (j := 0) rfl rfl, ?_⟩
        exact ⟨rfl, _, rfl, ite2 (fun _ => q H (Same.refl _)) (fun z => absurd (decide_eq_true rfl) z)⟩
    | not i =>
      obtain ⟨a, xs, rfl, ha, hs⟩ := hg.tup_inv
      cases hs with
      | cons h1 t =>
        cases t with
        | cons h2 t2 =>
          cases h1.str_inv
          cases h2.int_inv
          refine ⟨_, rfl, a, _, 0, _, rfl, rfl, SqT.of ha, at_of (j := 0) rfl rfl, ?_⟩
          refine ⟨rfl, _, rfl, ite2 (fun z => absurd z (neS (by decide +kernel))) (fun _ => ?_)⟩
          refine ⟨_, rfl, a, _, 0, _, rfl, rfl, SqT.of ha, at_of (j := 0) rfl rfl, ?_⟩
          refine ⟨rfl, _, rfl, ite2 (fun _ => ?_) (fun z => absurd (decide_eq_true rfl) z)⟩
          refine ⟨_, rfl, _, rfl, a, _, 1, _, rfl, rfl, SqT.of ha, at_of (j := 1) rfl rfl, l, _, _, _, rfl, rfl, hl, at_of rfl (getb hlt), ?_⟩
          refine ⟨_, _, rfl, rfl, ?_⟩
          have e : (1 : Int) - bi (bs.getD i false) = bi (!(bs.getD i false)) := by cases bs.getD i false <;> rfl
          have q : Q (.int (bi (!(bs.getD i false)))) H := q H (Same.refl _)
          rw [← e] at q
          exact q
    | two k i j =>
      obtain ⟨a, xs, rfl, ha, hs⟩ := hg.tup_inv
      cases hs with
      | cons h1 t =>
        cases t with
        | cons h2 t2 =>
          cases t2 with
          | cons h3 t3 =>
            cases h1.str_inv
            cases h2.int_inv
            cases h3.int_inv
            have q : ∀ H', Same H H' → Q (.int (bi (k.val (bs.getD i false) (bs.getD j false)))) H' := q
            refine ⟨_, rfl, a, _, 0, _, rfl, rfl, SqT.of ha, at_of (j := 0) rfl rfl, ?_⟩
            refine ⟨rfl, _, rfl, ite2 (fun z => absurd z (neS (by cases k <;> decide +kernel))) (fun _ => ?_)⟩
            refine ⟨_, rfl, a, _, 0, _, rfl, rfl, SqT.of ha, at_of (j := 0) rfl rfl, ?_⟩
            refine ⟨rfl, _, rfl, ite2 (fun z => absurd z (neS (by cases k <;> decide +kernel))) (fun _ => ?_)⟩
            refine ⟨_, rfl, _, rfl, a, _, 1, _, rfl, rfl, SqT.of ha, at_of (j := 1) rfl rfl, l, _, _, _, rfl, rfl, hl, at_of rfl (getb hlt.1), ?_⟩
            refine ⟨_, rfl, _, rfl, a, _, 2, _, rfl, rfl, SqT.of ha, at_of (j := 2) rfl rfl, l, _, _, _, rfl, rfl, hl, at_of rfl (getb hlt.2), ?_⟩
            refine ⟨_, _, rfl, ?_⟩
            intro pd npd
            revert q
            generalize bs.getD i false = x
            generalize bs.getD j false = y
            intro q
            have cm : CMul (bi x) (bi y) := .inl (by cases x <;> exact ⟨by decide, by decide⟩)
            have cm2 : CMul (bi x) (1 - bi y) := .inl (by cases x <;> exact ⟨by decide, by decide⟩)
            refine ⟨_, rfl, _, rfl, _, _, rfl, rfl, cm, ?_⟩
            refine ⟨_, rfl, _, rfl, (by show 2 ≤ sizeLine; decide), fun pl npl => ⟨pl, [bi x, bi y], rfl, SqL.of upd_same, (by show 0 < 2; decide), fun m hm hx => ?_⟩⟩
            have em : m = bi (x || y) := by
              have h1 := hx (bi x) (.head _)
              have h2 := hx (bi y) (.tail _ (.head _))
              have h3 : m = bi x ∨ m = bi y := by
                rcases hm with _ | ⟨_, _ | ⟨_, z⟩⟩
                · exact .inl rfl
                · exact .inr rfl
                · cases z
              revert h1 h2 h3
              cases x <;> cases y <;> (intro h1 h2 h3; simp only [bi, Bool.or_false, Bool.or_true, Bool.or_self] at *; omega)
            refine ⟨_, rfl, _, rfl, rfl, .inr ⟨_, rfl, ?_⟩⟩
            refine ⟨_, rfl, _, rfl, _, _, rfl, rfl, _, _, rfl, rfl, cm2, ?_⟩
            have sp := same_upd npl (o := .lst [V.int (bi x), V.int (bi y)])
            have s3 : Same H (upd (upd (upd H pd (.dK [])) pl (.lst [V.int (bi x), V.int (bi y)])) pd (.dK (mergeK [] [(.inr "and", .int (bi x * bi y)), (.inr "or", .int m), (.inr "xor", .int (if (!decide (V.int (bi x) = V.int (bi y))) = true then 1 else 0)), (.inr "but", .int (bi x * (1 - bi y)))]))) := same_mut ((same_upd npd).trans sp) npd
            refine ⟨sp _ _ upd_same, [(.inr "and", .int (bi x * bi y)), (.inr "or", .int m), (.inr "xor", .int (if (!decide (V.int (bi x) = V.int (bi y))) = true then 1 else 0)), (.inr "but", .int (bi x * (1 - bi y)))], rfl, (by show 4 ≤ 15; decide), ?_⟩
            have dv : valV (mergeK [] [((.inr "and" : Key), V.int (bi x * bi y)), (.inr "or", .int m), (.inr "xor", .int (if (!decide (V.int (bi x) = V.int (bi y))) = true then 1 else 0)), (.inr "but", .int (bi x * (1 - bi y)))]) (.inr k.nm) = some (.int (bi (k.val x y))) := by
              subst em
              cases x <;> cases y <;> cases k <;> kernel_rfl
            exact ⟨_, rfl, a, _, 0, _, rfl, rfl, SqT.of (s3 _ _ ha), at_of (j := 0) rfl rfl, pd, _, rfl, dv ▸ DGet.k (k := Sum.inr k.nm) upd_same, q _ s3⟩
end
end Sb

set_option linter.all false
set_option maxRecDepth 100000
set_option maxHeartbeats 4000000
namespace Sb
open PySem PySem.Spec PyProof.Rows L2
structure LcPre (H : Hp) (a : Addr) (c : Ci) (v2 v3 : V) (st bs : List Bool) : Prop where
  at_ : OwnAt H a c.cd
  ok : c.Ok
  v2 : RowV H v2 (st.map bd)
  v3 : RowV H v3 (bs.map bd)
  l2 : st.length = c.rs.length
  l3 : bs.length = c.m
theorem LcPre.same {H H' : Hp} {a : Addr} {c : Ci} {v2 v3 : V} {st bs : List Bool} (s : Same H H') (h : LcPre H a c v2 v3 st bs) : LcPre H' a c v2 v3 st bs :=
  ⟨h.at_.same s, h.ok, h.v2.same s, h.v3.same s, h.l2, h.l3⟩
def spLCycle : Sp := fun vs H Q _ => ∃ (a : Addr) (v2 v3 : V) (c : Ci) (st bs : List Bool), vs = [.ref a, v2, v3] ∧ LcPre H a c v2 v3 st bs ∧
  ∀ t l n H', H l = none → Same H H' → H' t = some (.tup [.ref l, .ref n]) → H' l = some (.lst ((c.vals st bs).map bv)) → H' n = some (.tup ((c.nxt st bs).map bv)) → Q (.ref t) H'
def spLOut : Sp := fun vs H Q _ => ∃ (a : Addr) (v2 v3 : V) (c : Ci) (st bs : List Bool), vs = [.ref a, v2, v3] ∧ LcPre H a c v2 v3 st bs ∧
  ∀ t o n H', Same H H' → H' t = some (.tup [.ref o, .ref n]) → H' o = some (.tup ((c.outs st bs).map bv)) → H' n = some (.tup ((c.nxt st bs).map bv)) → Q (.ref t) H'
def spLRun : Sp := fun vs H Q _ => ∃ (a : Addr) (v : V) (c : Ci) (rows : List (List Bool)), vs = [.ref a, v] ∧ OwnAt H a c.cd ∧ c.Ok ∧ (∃ ds r, v = .ref r ∧ TupD H r ds ∧ ds.map rowOf = rows.map fun bs => some (bs.map bd)) ∧ (∀ bs ∈ rows, bs.length = c.m) ∧ rows.length ≤ 1000 ∧
  ∀ o H', Same H H' → TupD H' o ((c.play ([], c.rs) rows).1.map tbd) → Q (.ref o) H'
/-- the picked bits of a list, told as a tuple -/
theorem pick_tup {K : PySem.W.Frag} {H1 : Hp} {l s : Addr} {xs : List V} {ss : List Nat} {tl te : TE} {j : Nat} {vs : List Nat} {σ : L2.St} {Q : VK}
    (htl : ∀ Q : VK, Q (.ref s) H1 → tl σ H1 Q) (hl : SqL K H1 l xs) (hs : TupD H1 s (ss.map nd)) (hlt : ∀ n ∈ ss, n < xs.length) (hz : ss.length ≤ 10000)
    (hw : ∀ x, wipe ((wipe σ vs).set j (some x)) vs = wipe σ vs)
    (hte : ∀ (n : Nat) (x : V) (H2 : Hp) (Q : VK), xs[n]? = some x → SqL K H2 l xs → Q x H2 → te ((wipe σ vs).set j (some (.int (n : Int)))) H2 Q)
    (q : ∀ r H', Same H1 H' → H' r = some (.tup (ss.map fun n => xs.getD n .non)) → Q (.ref r) H') :
    tCB (rTupC K) (tCons (tLc (iTup K tl) (gName j) tYes te vs) tNil) σ H1 Q := by
  obtain ⟨ys, hs, hd⟩ := hs
  have ey := das_nat hd
  subst ey
  refine cb1 ?_
  refine comp_t (K := K) (a := s) (xs := ss.map fun n => .int (n : Nat)) (j := j) (R := fun k v _ => v = xs.getD (ss.getD k 0) .non) (fun _ _ _ _ h _ => h) htl (SqT.of hs) (by rw [List.length_map]; omega) hw ?_ (made_is fun D H2 hD s2 e2 => ?_)
  · intro k x hk H2 s2 Q q2
    rw [List.getElem?_map] at hk
    cases e : ss[k]? with
    | none => rw [e] at hk; cases hk
    | some n =>
      rw [e] at hk
      cases hk
      have hn := hlt n (List.mem_of_getElem? e)
      refine hte n _ H2 Q (List.getElem?_eq_getElem hn) (s2.seq hl) (q2 _ _ (Same.refl _) ?_)
      have e1 : ss.getD k 0 = n := by rw [List.getD_eq_getElem?_getD, e]; rfl
      rw [e1, List.getD_eq_getElem?_getD, List.getElem?_eq_getElem hn]
      rfl
  · rw [List.length_map, range_get (f := fun n => xs.getD n .non)] at e2
    exact ⟨D, _, rfl, .inl ⟨SqL.of e2, fun r hr => q r _ (s2.trans (same_upd hr)) upd_same⟩⟩
theorem ret_tup2 {ta tb : TE} {D : Ends} {σ : L2.St} {H : Hp} (h : ta σ H fun x H1 => tb σ H1 fun y H2 => 2 ≤ sizeLine ∧ ∀ t, H2 t = none → D.rt (.ref t) (upd H2 t (.tup [x, y]))) : tRet (tTup (tCons ta (tCons tb tNil))) D σ H := h
section
variable {P : Program} {w : World} {K : PySem.W.Frag} {mg : Str → Option Value} {base : Heap}
theorem sc_lcycle : FnScope ["_law_circuit", "_law_state", "_law_bits", "_law_values", "_law_gate_here", "_law_signal"] ["_law_circuit", "_law_state", "_law_bits"] (defScope (top 36)) := ⟨rfl, rfl, rfl, by decide +kernel, rfl, by decide +kernel, by decide +kernel⟩
theorem ok_lcycle {f a1 : Addr} {fd e1 : FuncData} (F : Fun K "_law_circuit_cycle" "_law_circuit_cycle" (top 36) f fd) (T : Bv mg) (F_law_gate : Fn K mg P w base CX0 "_law_gate" 1 a1 e1 ["_law_gate_here", "_law_values"] (spLGate K)) : FnOk P w K mg base CX0 2 f fd ["_law_circuit", "_law_state", "_law_bits"] spLCycle := by
  have sc := sc_lcycle
  refine F.ok sc_lcycle (fun vs H Q E h => ?_) (fun cdv A outer s H vs Q E hr h => ?_)
  · obtain ⟨p, v2, v3, c, st, bs, rfl, _⟩ := h
    rfl
  · obtain ⟨p, v2, v3, c, st, bs, rfl, pre, q⟩ := h
    refine ⟨_, (pss_cons (ps_set (i := 3) sc.nd rfl (.inr rfl) (pe_op op_cat (pe_callTy call_list_of (by rfl) T.list (by decide +kernel) (pa_cons (pv 2) pa_nil)) (pe_callTy call_list_of (by rfl) T.list (by decide +kernel) (pa_cons (pv 1) pa_nil))))
      (pss_cons (ps_for PassesOwn.never rfl (pi_tup (pe_ix ix_tup (pv 0) pe_int (fun _ _ => rfl))) (pg_name (i := 4) sc.nd rfl (.inl rfl)) (pss_one (ps_expr (pe_bm PySem.F.plainAttrs_list PySem.F.slot_list_append PySem.F.type_list_append mt_append (pv 3) (pa_cons (pe_call F_law_gate.G (hr.mono (by decide)) (by rfl) F_law_gate.g F_law_gate.k F_law_gate.b .nil pass0 (pa_cons (pv 4) (pa_cons (pv 3) pa_nil))) pa_nil)))))
      (pss_one (ps_ret (pe_tup (pa_cons (pv 3) (pa_cons (pe_callTy call_tuple_of (by rfl) T.tuple (by decide +kernel) (pa_cons (pe_lc (own := [("_law_signal", 5)]) (g := gName 5) (tt := tYes) rfl sc.nd (pi_tup (pe_ix (show IxR _ (rIxT K) from ix_tup) (pv 0) pe_int (fun _ _ => rfl))) (blkOk_by (N := ["_law_circuit", "_law_state", "_law_bits", "_law_values", "_law_gate_here", "_law_signal"]) (sc := defScope (top 36)) (by decide +kernel)) (fun _ _ _ _ _ => (pg_name (i := 5) sc.nd rfl (.inl rfl))) (fun _ _ _ _ _ => pts_nil) (fun _ _ _ _ _ => (pe_ix (show IxR _ (rIxL K) from ix_list) (pv 3) (pv 5) (fun _ _ => rfl)))) pa_nil)) pa_nil))))))), ?_⟩
    obtain ⟨a3, rfl, h3⟩ := pre.v3.lsq (K := K)
    refine ⟨_, rfl, a3, _, rfl, h3, fun l1 n1 => ?_⟩
    have s1 := same_upd n1 (o := .lst (bs.map bv))
    obtain ⟨a2, rfl, h2⟩ := (pre.v2.same s1).lsq (K := K)
    refine ⟨_, rfl, a2, _, rfl, h2, fun l2 n2 => ?_⟩
    have s2 := same_upd n2 (o := .lst (st.map bv))
    have z1 : bs.length ≤ 1000 := by rw [pre.l3]; exact pre.ok.zm
    have z2 : st.length ≤ 1000 := by rw [pre.l2]; exact pre.ok.zr
    refine ⟨l1, l2, _, _, rfl, rfl, s2 _ _ upd_same, upd_same, ?_, fun l n3 => with_new n3 fun H3 s3 e3 => ?_⟩
    · rw [List.length_map, List.length_map]
      exact Nat.le_trans (by omega : bs.length + st.length ≤ 2000) (by decide)
    have t3 := s1.trans (s2.trans s3)
    have nl : H l = none := (s1.trans s2).free n3
    refine at_sig (σ' := [some (.ref p), some (.ref a2), some (.ref a3), some (.ref l), none, none]) rfl ?_
    obtain ⟨r, g, n, o, hp, hr', ⟨xg, hg, hgs⟩, hn', ho'⟩ := pre.at_
    have hgl : xg.length = c.gs.length := by rw [hgs.length]; exact List.length_map ..
    refine ⟨_, rfl, p, _, 2, _, rfl, rfl, SqT.of (t3 _ _ hp), at_of (j := 2) rfl rfl, g, rfl, ⟨_, SqT.of (t3 _ _ hg)⟩, for_tup (K := K) (a := g) (xs := xg) (fun i σ H' => ∃ u, σ = [some (.ref p), some (.ref a2), some (.ref a3), some (.ref l), u, none] ∧ Same H H' ∧ H' l = some (.lst ((more (c.gs.take i) (bs ++ st)).map bv))) ⟨none, rfl, t3, ?_⟩ ?_ ?_ ?_⟩
    · rw [e3, ← List.map_append]
      rfl
    · rintro i σ H' _ ⟨u, rfl, t, _⟩
      exact SqT.of (t _ _ hg)
    · rintro i x σ H' hi ⟨u, rfl, t, el⟩
      obtain ⟨d, hd, hx⟩ := hgs.get hi
      obtain ⟨gt, hgt, rfl⟩ : ∃ gt, c.gs[i]? = some gt ∧ gt.enc = d := by
        have hd : (c.gs.map Gt.enc)[i]? = some d := hd
        rw [List.getElem?_map] at hd
        cases e : c.gs[i]? with
        | none => rw [e] at hd; cases hd
        | some y => rw [e] at hd; exact ⟨y, rfl, Option.some.inj hd⟩
      have hi2 : i < c.gs.length := (List.getElem?_eq_some_iff.mp hgt).1
      have hlt : gt.lt (more (c.gs.take i) (bs ++ st)).length := by
        have z := pre.ok.gs i gt hgt
        rw [more_len, List.length_append, List.length_take, pre.l3, pre.l2, Nat.min_eq_left (Nat.le_of_lt hi2)]
        exact z
      have zg := pre.ok.zg
      refine ⟨_, rfl, .inl ⟨rfl, _, SqL.of el⟩, _, rfl, _, rfl, _, l, gt, _, rfl, hx.same t, SqL.of el, hlt, fun H5 s5 => ?_⟩
      refine ⟨l, _, _, rfl, rfl, s5 _ _ el, ?_, ?_⟩
      · rw [List.length_map, more_len, List.length_append, List.length_take, pre.l3, pre.l2]
        have := pre.ok.zm
        have := pre.ok.zr
        exact Nat.lt_of_lt_of_le (by omega : c.m + c.rs.length + min i c.gs.length < 10000) (by decide)
      · refine ⟨_, rfl, same_mut (t.trans s5) nl, ?_⟩
        rw [upd_same, more_take hgt, List.map_append]
        rfl
    · rintro σ H' ⟨u, rfl, t, el⟩
      rw [hgl, List.take_length] at el
      have el : H' l = some (.lst ((c.vals st bs).map bv)) := el
      have hvl := vals_len pre.l2 pre.l3
      have zn := pre.ok.nl
      have zr := pre.ok.zr
      have hns : ∀ n ∈ c.ns, n < ((c.vals st bs).map bv).length := fun n hn => by rw [List.length_map, hvl]; exact pre.ok.ns n hn
      refine ⟨_, rfl, ?_⟩
      refine pick_tup (K := K) (l := l) (s := n) (xs := (c.vals st bs).map bv) (ss := c.ns) ?_ (SqL.of el) (hn'.same t) hns (by omega) ?_ ?_ fun r H5 s5 e5 => ?_
      · exact fun Q q => ⟨_, rfl, p, _, 3, _, rfl, rfl, SqT.of (t _ _ hp), at_of (j := 3) rfl rfl, q⟩
      · exact fun x => rfl
      · exact fun n x H2 Q hx hl q => ⟨_, rfl, _, rfl, l, _, _, _, rfl, rfl, hl, at_of (j := n) rfl hx, q⟩
      · rw [pick_bits (fun n hn => by rw [hvl]; exact pre.ok.ns n hn)] at e5
        refine ⟨(by show 2 ≤ sizeLine; decide), fun tt nt => ?_⟩
        have s6 := same_upd nt (o := .tup [V.ref l, V.ref r])
        exact q tt l r _ nl (t.trans (s5.trans s6)) upd_same (s6 _ _ (s5 _ _ el)) (s6 _ _ e5)
theorem sc_lout : FnScope ["_law_circuit", "_law_state", "_law_bits", "_law_values", "_law_behind", "_law_signal"] ["_law_circuit", "_law_state", "_law_bits"] (defScope (top 43)) := ⟨rfl, rfl, rfl, by decide +kernel, rfl, by decide +kernel, by decide +kernel⟩
theorem ok_lout {f a1 : Addr} {fd e1 : FuncData} (F : Fun K "_law_outputs" "_law_outputs" (top 43) f fd) (T : Bv mg) (F_law_circuit_cycle : Fn K mg P w base CX0 "_law_circuit_cycle" 2 a1 e1 ["_law_circuit", "_law_state", "_law_bits"] spLCycle) : FnOk P w K mg base CX0 3 f fd ["_law_circuit", "_law_state", "_law_bits"] spLOut := by
  have sc := sc_lout
  refine F.ok sc_lout (fun vs H Q E h => ?_) (fun cdv A outer s H vs Q E hr h => ?_)
  · obtain ⟨p, v2, v3, c, st, bs, rfl, _⟩ := h
    rfl
  · obtain ⟨p, v2, v3, c, st, bs, rfl, pre, q⟩ := h
    refine ⟨_, (pss_cons (ps_asg (pe_call F_law_circuit_cycle.G (hr.mono (by decide)) (by rfl) F_law_circuit_cycle.g F_law_circuit_cycle.k F_law_circuit_cycle.b .nil pass0 (pa_cons (pv 0) (pa_cons (pv 1) (pa_cons (pv 2) pa_nil)))) (pg_tup (by rfl) (pgs_cons (pg_name (i := 3) sc.nd rfl (.inr rfl)) (pgs_cons (pg_name (i := 4) sc.nd rfl (.inl rfl)) pgs_nil))))
      (pss_one (ps_ret (pe_tup (pa_cons (pe_callTy call_tuple_of (by rfl) T.tuple (by decide +kernel) (pa_cons (pe_lc (own := [("_law_signal", 5)]) (g := gName 5) (tt := tYes) rfl sc.nd (pi_tup (pe_ix ix_tup (pv 0) pe_int (fun _ _ => rfl))) (blkOk_by (N := ["_law_circuit", "_law_state", "_law_bits", "_law_values", "_law_behind", "_law_signal"]) (sc := defScope (top 43)) (by decide +kernel)) (fun _ _ _ _ _ => (pg_name (i := 5) sc.nd rfl (.inl rfl))) (fun _ _ _ _ _ => pts_nil) (fun _ _ _ _ _ => (pe_ix (show IxR _ (rIxL K) from ix_list) (pv 3) (pv 5) (fun _ _ => rfl)))) pa_nil)) (pa_cons (pv 4) pa_nil)))))), ?_⟩
    have hvl := vals_len pre.l2 pre.l3
    refine ⟨_, rfl, _, rfl, _, rfl, p, v2, v3, c, st, bs, rfl, pre, fun t l n H1 nl s1 et el en => ?_⟩
    refine ⟨t, _, rfl, SqT.of et, rfl, .ref l, _, rfl, .ref n, _, rfl, rfl, ?_⟩
    obtain ⟨r, g, nn, o, hp, hr', hg', hn', ho'⟩ := pre.at_
    have hos : ∀ n ∈ c.os, n < ((c.vals st bs).map bv).length := fun n hn => by rw [List.length_map, hvl]; exact pre.ok.os n hn
    have zo := pre.ok.zo
    refine at_sig (σ' := [some (.ref p), some v2, some v3, some (.ref l), some (.ref n), none]) rfl ?_
    dsimp only
    refine ret_tup2 ?_
    refine pick_tup (K := K) (l := l) (s := o) (xs := (c.vals st bs).map bv) (ss := c.os) ?_ (SqL.of el) (ho'.same s1) hos (by omega) ?_ ?_ fun r H5 s5 e5 => ?_
    · exact fun Q q => ⟨_, rfl, p, _, 4, _, rfl, rfl, SqT.of (s1 _ _ hp), at_of (j := 4) rfl rfl, q⟩
    · exact fun x => rfl
    · exact fun n x H2 Q hx hl q => ⟨_, rfl, _, rfl, l, _, _, _, rfl, rfl, hl, at_of (j := n) rfl hx, q⟩
    · rw [pick_bits (fun n hn => by rw [hvl]; exact pre.ok.os n hn)] at e5
      refine ⟨_, rfl, (by show 2 ≤ sizeLine; decide), fun tt nt => ?_⟩
      have s6 := same_upd nt (o := .tup [V.ref r, V.ref n])
      exact q tt r n _ (s1.trans (s5.trans s6)) upd_same (s6 _ _ e5) (s6 _ _ (s5 _ _ en))
theorem sc_lrun : FnScope ["_law_circuit", "_law_rows", "_law_state", "_law_found", "_law_bits", "_law_values", "_law_signal"] ["_law_circuit", "_law_rows"] (defScope (top 37)) := ⟨rfl, rfl, rfl, by decide +kernel, rfl, by decide +kernel, by decide +kernel⟩
theorem ok_lrun {f a1 : Addr} {fd e1 : FuncData} (F : Fun K "_law_circuit_run" "_law_circuit_run" (top 37) f fd) (T : Bv mg) (F_law_circuit_cycle : Fn K mg P w base CX0 "_law_circuit_cycle" 2 a1 e1 ["_law_circuit", "_law_state", "_law_bits"] spLCycle) : FnOk P w K mg base CX0 3 f fd ["_law_circuit", "_law_rows"] spLRun := by
  have sc := sc_lrun
  refine F.ok sc_lrun (fun vs H Q E h => ?_) (fun cdv A outer s H vs Q E hr h => ?_)
  · obtain ⟨a, v, c, rows, rfl, _⟩ := h
    rfl
  · obtain ⟨a, v, c, rows, rfl, at_, ok, ⟨ds3, a3, rfl, ⟨xs3, ha3, hs3⟩, er3⟩, hl, zl, q⟩ := h
    refine ⟨_, (pss_cons (ps_par (i := 2) (j := 3) (by rfl) sc.nd rfl rfl (by decide) rfl rfl (pa_cons (pe_ix ix_tup (pv 0) pe_int (fun _ _ => rfl)) (pa_cons (pe_lst pa_nil) pa_nil)) (by rfl))
      (pss_cons (ps_for PassesOwn.never rfl (pi_tup (pv 1)) (pg_name (i := 4) sc.nd rfl (.inl rfl)) (pss_cons (ps_asg (pe_call F_law_circuit_cycle.G (hr.mono (by decide)) (by rfl) F_law_circuit_cycle.g F_law_circuit_cycle.k F_law_circuit_cycle.b .nil pass0 (pa_cons (pv 0) (pa_cons (pv 2) (pa_cons (pv 4) pa_nil)))) (pg_tup (by rfl) (pgs_cons (pg_name (i := 5) sc.nd rfl (.inr rfl)) (pgs_cons (pg_name (i := 2) sc.nd rfl (.inl rfl)) pgs_nil))))
      (pss_one (ps_expr (pe_bm PySem.F.plainAttrs_list PySem.F.slot_list_append PySem.F.type_list_append mt_append (pv 3) (pa_cons (pe_callTy call_tuple_of (by rfl) T.tuple (by decide +kernel) (pa_cons (pe_lc (own := [("_law_signal", 6)]) (g := gName 6) (tt := tYes) rfl sc.nd (pi_tup (pe_ix ix_tup (pv 0) pe_int (fun _ _ => rfl))) (blkOk_by (N := ["_law_circuit", "_law_rows", "_law_state", "_law_found", "_law_bits", "_law_values", "_law_signal"]) (sc := defScope (top 37)) (by decide +kernel)) (fun _ _ _ _ _ => (pg_name (i := 6) sc.nd rfl (.inl rfl))) (fun _ _ _ _ _ => pts_nil) (fun _ _ _ _ _ => (pe_ix (show IxR _ (rIxL K) from ix_list) (pv 5) (pv 6) (fun _ _ => rfl)))) pa_nil)) pa_nil))))))
      (pss_one (ps_ret (pe_callTy call_tuple_of (by rfl) T.tuple (by decide +kernel) (pa_cons (pv 3) pa_nil)))))), ?_⟩
    obtain ⟨r, g, nn, o, hp, hr', hg', hn', ho'⟩ := id at_
    refine ⟨_, rfl, a, _, 1, _, rfl, rfl, SqT.of hp, at_of (j := 1) rfl rfl, ?_⟩
    refine ⟨(by show 0 ≤ sizeLine; decide), fun lt nlt => with_new nlt fun H1 s1 e1 => ?_⟩
    refine ⟨_, _, rfl, at_sig (σ' := [some (.ref a), some (.ref a3), some (.ref r), some (.ref lt), none, none, none]) rfl ?_⟩
    refine ⟨_, rfl, a3, rfl, ⟨xs3, SqT.of (s1 _ _ ha3)⟩, for_tup (K := K) (a := a3) (xs := xs3) (fun i σ H' => ∃ nw u1 u2 ys, σ = [some (.ref a), some (.ref a3), some (.ref nw), some (.ref lt), u1, u2, none] ∧ Same H H' ∧ H' lt = some (.lst ys) ∧ Das H' ys ((c.play ([], c.rs) (rows.take i)).1.map tbd) ∧ TupD H' nw ((c.play ([], c.rs) (rows.take i)).2.map bd)) ⟨r, none, none, [], rfl, s1, e1, .nil, hr'.same s1⟩ ?_ ?_ ?_⟩
    · rintro i σ H' _ ⟨nw, u1, u2, ys, rfl, t, _⟩
      exact SqT.of (t _ _ ha3)
    · rintro i x σ H' hi ⟨nw, u1, u2, ys, rfl, t, el, hy, dn⟩
      obtain ⟨d, hd, hx⟩ := hs3.get hi
      obtain ⟨bs, hbs, er⟩ := row_at er3 hd
      have hb := (hx.same t).rowV er
      have zp := play_len (c := c) (rows.take i) ([], c.rs)
      have zy := hy.length
      have zi := (List.getElem?_eq_some_iff.mp hbs).1
      rw [List.length_map, zp, List.length_take, Nat.min_eq_left (Nat.le_of_lt zi)] at zy
      have zy : ys.length = 0 + i := zy
      have l2 := play_st ok (rows.take i) ([], c.rs) rfl
      have l3 := hl bs (List.mem_of_getElem? hbs)
      have hvl := vals_len l2 l3
      refine ⟨_, rfl, _, rfl, _, rfl, a, .ref nw, x, c, _, bs, rfl, ⟨at_.same t, ok, dn.rowV, hb, l2, l3⟩, fun tt l n H4 nl s4 et el4 en => ?_⟩
      refine ⟨tt, _, rfl, SqT.of et, rfl, .ref l, _, rfl, .ref n, _, rfl, rfl, ?_⟩
      have hos : ∀ n ∈ c.os, n < ((c.vals (c.play ([], c.rs) (rows.take i)).2 bs).map bv).length := fun n hn => by rw [List.length_map, hvl]; exact ok.os n hn
      have zo := ok.zo
      refine ⟨_, rfl, .inl ⟨rfl, _, SqL.of (s4 _ _ el)⟩, ?_⟩
      dsimp only
      refine pick_tup (K := K) (l := l) (s := o) (xs := (c.vals (c.play ([], c.rs) (rows.take i)).2 bs).map bv) (ss := c.os) ?_ (SqL.of el4) ((ho'.same t).same s4) hos (by omega) ?_ ?_ fun ro H5 s5 e5 => ?_
      · exact fun Q q => ⟨_, rfl, a, _, 4, _, rfl, rfl, SqT.of (s4 _ _ (t _ _ hp)), at_of (j := 4) rfl rfl, q⟩
      · exact fun x => rfl
      · exact fun n x H2 Q hx hl q => ⟨_, rfl, _, rfl, l, _, _, _, rfl, rfl, hl, at_of (j := n) rfl hx, q⟩
      rw [pick_bits (fun n hn => by rw [hvl]; exact ok.os n hn)] at e5
      refine ⟨lt, _, _, rfl, rfl, s5 _ _ (s4 _ _ el), ?_, ?_⟩
      · exact Nat.lt_of_lt_of_le (by omega : ys.length < 10000) (by decide)
      · have tp : Tp H5 (upd H5 lt (.lst (ys ++ [V.ref ro]))) := Tp.lst (s5 _ _ (s4 _ _ el))
        refine ⟨n, _, _, ys ++ [.ref ro], rfl, same_mut (t.trans (s4.trans s5)) nlt, upd_same, ?_, ?_⟩
        · rw [play_take hbs, List.map_append]
          exact (Das.tp tp _ _ (stills_tbd _) ((hy.same s4).same s5)).app (Das.one (.tup (tp _ _ e5) (das_of_bits _)))
        · rw [play_take hbs]
          exact das_tbits (tp _ _ (s5 _ _ en))
    · rintro σ H' ⟨nw, u1, u2, ys, rfl, t, el, hy, dn⟩
      have zr := rows_len er3
      have z2 := hs3.length
      rw [show xs3.length = rows.length by omega, List.take_length] at hy
      refine ⟨_, rfl, lt, ys, rfl, .inl ⟨SqL.of el, fun rr nr => ?_⟩⟩
      have s5 := same_upd nr (o := .tup ys)
      exact q rr _ (t.trans s5) ⟨ys, upd_same, hy.same s5⟩
end
end Sb

set_option linter.all false
set_option maxRecDepth 100000
set_option maxHeartbeats 4000000
namespace Sb
open PySem PySem.Spec PyProof.Rows L2
theorem catA_of {K : PySem.W.Frag} {H : Hp} {a b : Addr} {xs ys : List V} {Q : VK} (ha : H a = some (.tup xs)) (hb : H b = some (.tup ys)) (hz : xs.length + ys.length ≤ 100000) (q : ∀ r H', Same H H' → H' r = some (.tup (xs ++ ys)) → Q (.ref r) H') : rCatA K (.ref a) (.ref b) H Q := by
  refine ⟨a, b, xs, ys, rfl, rfl, SqT.of ha, SqT.of hb, Nat.le_trans hz (by decide), fun e => ?_, fun _ e => ?_, fun _ _ p hp => q p _ (fun c o h => by rw [upd_ne (ne_of_none h hp)]; exact h) upd_same⟩
  · subst e
    exact q b H (Same.refl _) hb
  · subst e
    exact q a H (Same.refl _) (by rw [List.append_nil]; exact ha)
theorem slA_of {K : PySem.W.Frag} {H : Hp} {a : Addr} {xs : List V} {lo hi : Option Int} {Q : VK} (ha : H a = some (.tup xs)) (q : ∀ r H', Same H H' → H' r = some (.tup (cutV xs lo hi)) → Q (.ref r) H') : rSlA K (.ref a) lo hi H Q := by
  refine ⟨a, xs, rfl, SqT.of ha, fun e => q a H (Same.refl _) ?_, fun _ p hp => q p _ (fun c o h => by rw [upd_ne (ne_of_none h hp)]; exact h) upd_same⟩
  unfold cutV
  rw [e.1, e.2, List.drop_zero, Nat.sub_zero, List.take_length]
  exact ha
theorem cut_to {xs : List V} {k : Nat} : cutV xs none (some (k : Int)) = xs.take k := by
  unfold cutV
  rw [HT.sIx_none, HT.sIx_nat, List.drop_zero, Nat.sub_zero]
  by_cases c : k ≤ xs.length
  · rw [Nat.min_eq_left c]
  · rw [Nat.min_eq_right (by omega), List.take_length, List.take_of_length_le (by omega)]
theorem cut_from {xs : List V} {k : Nat} : cutV xs (some (k : Int)) none = xs.drop k := by
  unfold cutV
  rw [HT.sIx_none, HT.sIx_nat]
  by_cases c : k ≤ xs.length
  · rw [Nat.min_eq_left c, List.take_of_length_le (by rw [List.length_drop]; omega)]
  · rw [Nat.min_eq_right (by omega), List.drop_of_length_le (Nat.le_refl _), List.drop_of_length_le (by omega)]
    simp
end Sb

set_option linter.all false
set_option maxRecDepth 100000
set_option maxHeartbeats 4000000
namespace Sb
open PySem PySem.Spec PyProof.Rows L2
/-- rows of k bits each -/
def BitsAt (H : Hp) (k : Nat) (x : V) : Prop := ∃ (r : Addr) (bs : List Bool), x = .ref r ∧ H r = some (.tup (bs.map bv)) ∧ bs.length = k
theorem BitsAt.same {H H' : Hp} {k : Nat} {x : V} (s : Same H H') (h : BitsAt H k x) : BitsAt H' k x := by
  obtain ⟨r, bs, e, h, l⟩ := h
  exact ⟨r, bs, e, s _ _ h, l⟩
theorem BitsAt.kp {H H' : Hp} {k : Nat} {x : V} (s : Kp H H') (h : BitsAt H k x) : BitsAt H' k x := by
  obtain ⟨r, bs, e, h, l⟩ := h
  exact ⟨r, bs, e, s.t _ _ h, l⟩
def spBitAll : Sp := fun vs H Q _ => ∃ k : Nat, vs = [.int k] ∧ k ≤ 4 ∧ ∀ l xs H', Same H H' → H' l = some (.lst xs) → 0 < xs.length → xs.length ≤ 16 → (∀ x ∈ xs, BitsAt H' k x) → Q (.ref l) H'
section
variable {P : Program} {w : World} {K : PySem.W.Frag} {mg : Str → Option Value} {base : Heap}
theorem sc_bitall : FnScope ["_law_many", "_law_rows", "_law_lap", "_law_longer", "_law_row"] ["_law_many"] (defScope (top 38)) := ⟨rfl, rfl, rfl, by decide +kernel, rfl, by decide +kernel, by decide +kernel⟩
theorem ok_bitall {f : Addr} {fd : FuncData} (F : Fun K "_law_bit_rows" "_law_bit_rows" (top 38) f fd) (T : Bv mg) : FnOk P w K mg base CX0 1 f fd ["_law_many"] spBitAll := by
  have sc := sc_bitall
  refine F.ok sc_bitall (fun vs H Q E h => ?_) (fun cdv A outer s H vs Q E hr h => ?_)
  · obtain ⟨k, rfl, _⟩ := h
    rfl
  · obtain ⟨k, rfl, hk, q⟩ := h
    refine ⟨_, (pss_cons (ps_set (i := 1) sc.nd rfl (.inl rfl) (pe_lst (pa_cons (pe_tup pa_nil) pa_nil)))
      (pss_cons (ps_for PassesOwn.never rfl (pi_range1 (by rfl) T.range (pa_cons (pv 0) pa_nil)) (pg_name (i := 2) sc.nd rfl (.inl rfl)) (pss_cons (ps_set (i := 3) sc.nd rfl (.inl rfl) (pe_lst pa_nil))
      (pss_cons (ps_for PassesOwn.never rfl (pi_list (pv 1)) (pg_name (i := 4) sc.nd rfl (.inl rfl)) (pss_one (ps_set (i := 3) sc.nd rfl (.inl rfl) (pe_op op_cat (pv 3) (pe_lst (pa_cons (pe_op op_catA (pv 4) (pe_tup (pa_cons pe_int pa_nil))) (pa_cons (pe_op op_catA (pv 4) (pe_tup (pa_cons pe_int pa_nil))) pa_nil)))))))
      (pss_one (ps_set (i := 1) sc.nd rfl (.inl rfl) (pv 3))))))
      (pss_one (ps_ret (pv 1))))), ?_⟩
    refine ⟨(by show 0 ≤ sizeLine; decide), fun e0 ne => ⟨(by show 1 ≤ sizeLine; decide), fun l0 nl => ?_⟩⟩
    have s1 := same_upd ne (o := .tup [])
    have s2 := same_upd nl (o := .lst [V.ref e0])
    refine ⟨_, rfl, (k : Int), rfl, by omega, by omega, for_range (lo := 0) (n := k) (fun i σ H' => ∃ l xs u2 u3 u4, σ = [some (.int (k : Int)), some (.ref l), u2, u3, u4] ∧ Same H H' ∧ H' l = some (.lst xs) ∧ xs.length = 2 ^ i ∧ ∀ x ∈ xs, BitsAt H' i x) ⟨l0, _, none, none, none, rfl, s1.trans s2, upd_same, rfl, ?_⟩ ?_ ?_⟩
    · intro x hx
      cases hx with
      | tail _ z => cases z
      | head => exact ⟨e0, [], rfl, s2 _ _ upd_same, rfl⟩
    · rintro i σ H' hi ⟨l, xs, u2, u3, u4, rfl, t, el, zl, hx⟩
      have z16 : 2 ^ i ≤ 16 := Nat.pow_le_pow_right (n := 2) (by decide) (by omega : i ≤ 4)
      refine ⟨(by show 0 ≤ sizeLine; decide), fun g0 ng => with_new ng fun H1 s3 e3 => ?_⟩
      refine at_sig (σ' := [some (.int (k : Int)), some (.ref l), some (.int (0 + (i : Int))), some (.ref g0), u4]) rfl ?_
      refine ⟨_, rfl, l, rfl, ⟨_, SqL.of (s3 _ _ el)⟩, for_list (K := K) (a := l) (xs := xs) (fun j σ H2 => ∃ g ys u4, σ = [some (.int (k : Int)), some (.ref l), some (.int (0 + (i : Int))), some (.ref g), u4] ∧ Same H H2 ∧ Same H' H2 ∧ H2 g = some (.lst ys) ∧ ys.length = 2 * j ∧ ∀ x ∈ ys, BitsAt H2 (i + 1) x) ⟨g0, [], u4, rfl, t.trans s3, s3, e3, rfl, fun x hx => by cases hx⟩ ?_ ?_ ?_⟩
      · rintro j σ H2 _ ⟨g, ys, u4, rfl, t1, t2, _⟩
        exact SqL.of (t2 _ _ el)
      · rintro j x σ H2 hj ⟨g, ys, u4, rfl, t1, t2, eg, zg, hy⟩
        have hjl := (List.getElem?_eq_some_iff.mp hj).1
        obtain ⟨r, bs, rfl, hr', lb⟩ := (hx x (List.mem_of_getElem? hj)).same t2
        have grow : ∀ (b : Bool) (o : Addr) (H3 : Hp) (Q : VK), Same H2 H3 → H3 o = some (.tup [bv b]) → (∀ r' H4, Same H3 H4 → BitsAt H4 (i + 1) (.ref r') → Q (.ref r') H4) → rCatA K (.ref r) (.ref o) H3 Q := fun b o H3 Q s3 ho q3 =>
          catA_of (K := K) (s3 _ _ hr') ho (by rw [List.length_map, lb]; show i + 1 ≤ 100000; omega) fun r' H4 s4 e4 => q3 r' H4 s4 ⟨r', bs ++ [b], rfl, by rw [List.map_append]; exact e4, by rw [List.length_append, lb]; rfl⟩
        refine ⟨_, rfl, _, rfl, (by show 1 ≤ sizeLine; decide), fun o1 n1 => ?_⟩
        have u1 := same_upd n1 (o := .tup [V.int 0])
        dsimp only
        refine grow false o1 _ _ u1 upd_same fun r1 H4 u2 b1 => ?_
        refine ⟨_, rfl, (by show 1 ≤ sizeLine; decide), fun o2 n2 => ?_⟩
        have u3 := same_upd n2 (o := .tup [V.int 1])
        dsimp only
        refine grow true o2 _ _ (u1.trans (u2.trans u3)) upd_same fun r2 H5 u4' b2 => ?_
        refine ⟨(by show 2 ≤ sizeLine; decide), fun l2 nl2 => ?_⟩
        have u5 := same_upd nl2 (o := .lst [V.ref r1, V.ref r2])
        have v5 := u1.trans (u2.trans (u3.trans (u4'.trans u5)))
        refine ⟨g, l2, _, _, rfl, rfl, v5 _ _ eg, upd_same, ?_, fun g2 ng2 => ?_⟩
        · show ys.length + 2 ≤ sizeLine
          exact Nat.le_trans (by omega : ys.length + 2 ≤ 1000) (by decide)
        · have u6 := same_upd ng2 (o := .lst (ys ++ [V.ref r1, V.ref r2]))
          refine ⟨g2, ys ++ [V.ref r1, V.ref r2], _, rfl, t1.trans (v5.trans u6), t2.trans (v5.trans u6), upd_same, by rw [List.length_append, zg]; show 2 * j + 2 = 2 * (j + 1); omega, fun x hx => ?_⟩
          rcases List.mem_append.mp hx with hx | hx
          · exact ((hy x hx).same v5).same u6
          · cases hx with
            | head => exact (((b1.same u3).same u4').same u5).same u6
            | tail _ hx => cases hx with
              | head => exact (b2.same u5).same u6
              | tail _ z => cases z
      · rintro σ H2 ⟨g, ys, u4, rfl, t1, t2, eg, zg, hy⟩
        exact ⟨_, rfl, g, ys, _, _, _, rfl, t1, eg, by rw [zg, zl, Nat.pow_succ]; omega, hy⟩
    · rintro σ H' ⟨l, xs, u2, u3, u4, rfl, t, el, zl, hx⟩
      have z16 : 2 ^ k ≤ 16 := Nat.pow_le_pow_right (n := 2) (by decide) (by omega : k ≤ 4)
      have z0 : 0 < 2 ^ k := Nat.pow_pos (by decide)
      exact ⟨_, rfl, q l xs H' t el (by omega) (by omega) hx⟩
end
end Sb

set_option linter.all false
set_option maxRecDepth 100000
set_option maxHeartbeats 4000000
namespace Sb
open PySem PySem.Spec PyProof.Rows L2
/-! ### what is drawn -/
theorem Pen.more {H : Hp} {p c : Addr} {k k' : Nat} (h : Pen H p c k) (e : k ≤ k') : Pen H p c k' := by
  obtain ⟨ns, a, d, n, f, h1, h2, h3, h4, h5, h6, h7, h8, h9⟩ := h
  exact ⟨ns, a, d, n, f, h1, h2, h3, h4, h5, h6, by omega, h8, h9⟩
theorem But.sb {p : Addr} {H H' : Hp} (b : But p H H') : SameB p H H' := fun a o h n => by rw [b a n]; exact h
theorem Pen.kp {p c : Addr} {k : Nat} {H H' : Hp} (g : Pen H p c k) (s : SameB p H H') : Kp H H' := by
  obtain ⟨_, _, _, _, _, hp, _⟩ := g
  exact ⟨fun a xs h => s a _ h (ne_of h hp (by intro z; cases z)), fun a xs h => s a _ h (ne_of h hp (by intro z; cases z))⟩
theorem SameB.mut {p l : Addr} {H H' : Hp} {o : HO} (s : SameB p H H') (h : H l = none) : SameB p H (L2.upd H' l o) := fun b u e n => by
  rw [upd_ne (ne_of_none e h)]
  exact s b u e n
theorem SameB.refl {p : Addr} {H : Hp} : SameB p H H := fun _ _ h _ => h
/-- the pen's own objects stand where nothing is written -/
theorem Pen.same {p c : Addr} {k : Nat} {H H' : Hp} (g : Pen H p c k) (s : Same H H') : Pen H' p c k := by
  obtain ⟨ns, a, d, n, f, h1, h2, h3⟩ := g
  exact ⟨ns, a, d, n, f, s _ _ h1, s _ _ h2, h3⟩
theorem Pen.mut {p c l : Addr} {k : Nat} {H : Hp} {o : HO} (g : Pen H p c k) (h1 : l ≠ p) (h2 : l ≠ c) : Pen (upd H l o) p c k := by
  obtain ⟨ns, a, d, n, f, e1, e2, h3⟩ := g
  exact ⟨ns, a, d, n, f, by rw [upd_ne (Ne.symm h1)]; exact e1, by rw [upd_ne (Ne.symm h2)]; exact e2, h3⟩
theorem Pen.off {p c l : Addr} {k : Nat} {H : Hp} (g : Pen H p c k) (h : H l = none) : l ≠ p ∧ l ≠ c := by
  obtain ⟨ns, a, d, n, f, e1, e2, h3⟩ := g
  exact ⟨fun z => (by rw [z, e1] at h; cases h), fun z => (by rw [z, e2] at h; cases h)⟩
def DrawnI (H1 : Hp) (p c D : Addr) (k : Nat) (m : Nat) (i : Nat) (H : Hp) : Prop := SameB p H1 H ∧ Pen H p c (k + i) ∧ ∃ ns : List Nat, H D = some (.lst (ns.map iv)) ∧ ns.length = i ∧ ∀ n ∈ ns, n < m
theorem DrawnI.start {H1 : Hp} {p c D : Addr} {k m : Nat} (g : Pen H1 p c k) (h : H1 D = none) : DrawnI H1 p c D k m 0 (upd H1 D (.lst [])) :=
  ⟨SameB.of (same_upd h), g.same (same_upd h), [], upd_same, rfl, fun n hn => by cases hn⟩
theorem DrawnI.step {H1 H2 H3 : Hp} {p c D : Addr} {k m i : Nat} {d : Int} (g0 : Pen H1 p c k) (h : H1 D = none) (I : DrawnI H1 p c D k m i H2) (hi : i < 1000) (h0 : 0 ≤ d) (h1 : d < (m : Int)) (g : Pen H3 p c (k + i + 1)) (b : But p H2 H3) :
    ∃ acc, H3 D = some (.lst acc) ∧ acc.length < sizeLine ∧ DrawnI H1 p c D k m (i + 1) (upd H3 D (.lst (acc ++ [.int d]))) := by
  obtain ⟨s, g2, ns, e, l, lt⟩ := I
  have off := g0.off h
  refine ⟨ns.map iv, by rw [b D off.1]; exact e, by rw [List.length_map, l]; exact Nat.lt_of_lt_of_le hi (by decide), (s.trans b.sb).mut h, g.mut off.1 off.2, ns ++ [d.toNat], ?_, by rw [List.length_append, l]; rfl, fun n hn => ?_⟩
  · rw [upd_same, List.map_append]
    have e : iv d.toNat = .int d := congrArg V.int (by omega)
    show some (HO.lst (ns.map iv ++ [V.int d])) = some (HO.lst (ns.map iv ++ [iv d.toNat]))
    rw [e]
  · rcases List.mem_append.mp hn with hn | hn
    · exact lt n hn
    · cases hn with
      | head => omega
      | tail _ z => cases z
theorem bit_nat : ∀ {ns : List Nat}, (∀ n ∈ ns, n < 2) → ∃ bs : List Bool, ns.map iv = bs.map bv ∧ bs.length = ns.length
  | [], _ => ⟨[], rfl, rfl⟩
  | n :: ns, h => by
    obtain ⟨bs, e, l⟩ := bit_nat (ns := ns) fun x hx => h x (.tail _ hx)
    have hn := h n (.head _)
    refine ⟨(n == 1) :: bs, ?_, by show _ + 1 = _ + 1; rw [l]⟩
    have e2 : iv n = bv (n == 1) := by
      rcases (by omega : n = 0 ∨ n = 1) with rfl | rfl <;> rfl
    show iv n :: ns.map iv = bv (n == 1) :: bs.map bv
    rw [e, e2]
def spLRows : Sp := fun vs H Q _ => ∃ (p c : Addr) (k wd most : Nat), vs = [.ref p, .int wd, .int most] ∧ Pen H p c k ∧ k < 100000000 ∧ wd ≤ 4 ∧ most ≤ 9 ∧
  ∀ (r : Addr) (rows : List (List Bool)) (H' : Hp), SameB p H H' → Pen H' p c (k + 100) → TupD H' r (rows.map tbd) → (∀ bs ∈ rows, bs.length = wd) → rows.length ≤ 9 → Q (.ref r) H'
section
variable {P : Program} {w : World} {K : PySem.W.Frag} {mg : Str → Option Value} {base : Heap}
theorem sc_lrows : FnScope ["_law_pen_here", "_law_width", "_law_most", "_law_found", "_law_turn", "_law_lap"] ["_law_pen_here", "_law_width", "_law_most"] (defScope (top 39)) := ⟨rfl, rfl, rfl, by decide +kernel, rfl, by decide +kernel, by decide +kernel⟩
theorem ok_lrows {f a1 : Addr} {fd e1 : FuncData} (F : Fun K "_law_drawn_rows" "_law_drawn_rows" (top 39) f fd) (T : Bv mg) (F_law_draw : Fn K mg P w base CX0 "_law_draw" 1 a1 e1 ["_law_pen_here", "_law_many"] spDraw) : FnOk P w K mg base CX0 2 f fd ["_law_pen_here", "_law_width", "_law_most"] spLRows := by
  have sc := sc_lrows
  refine F.ok sc_lrows (fun vs H Q E h => ?_) (fun cdv A outer s H vs Q E hr h => ?_)
  · obtain ⟨p, c, k, wd, most, rfl, _⟩ := h
    rfl
  · obtain ⟨p, c, k, wd, most, rfl, g, hk, hw, hm, q⟩ := h
    refine ⟨_, (pss_cons (ps_set (i := 3) sc.nd rfl (.inl rfl) (pe_lst pa_nil))
      (pss_cons (ps_for PassesOwn.never rfl (pi_range1 (by rfl) T.range (pa_cons (pe_call F_law_draw.G (hr.mono (by decide)) (by rfl) F_law_draw.g F_law_draw.k F_law_draw.b .nil pass0 (pa_cons (pv 0) (pa_cons (pe_op op_add (pv 2) pe_int) pa_nil))) pa_nil)) (pg_name (i := 4) sc.nd rfl (.inl rfl)) (pss_one (ps_expr (pe_bm PySem.F.plainAttrs_list PySem.F.slot_list_append PySem.F.type_list_append mt_append (pv 3) (pa_cons (pe_callTy call_tuple_of (by rfl) T.tuple (by decide +kernel) (pa_cons (pe_lc (own := [("_law_lap", 5)]) (g := gName 5) (tt := tYes) rfl sc.nd (pi_range1 (by rfl) T.range (pa_cons (pv 1) pa_nil)) (blkOk_by (N := ["_law_pen_here", "_law_width", "_law_most", "_law_found", "_law_turn", "_law_lap"]) (sc := defScope (top 39)) (by decide +kernel)) (fun _ _ _ _ _ => (pg_name (i := 5) sc.nd rfl (.inl rfl))) (fun _ _ _ _ _ => pts_nil) (fun _ _ _ _ _ => (pe_call F_law_draw.G (hr.mono (by decide)) (by rfl) F_law_draw.g F_law_draw.k F_law_draw.b .nil pass0 (pa_cons (pv 0) (pa_cons pe_int pa_nil))))) pa_nil)) pa_nil)))))
      (pss_one (ps_ret (pe_callTy call_tuple_of (by rfl) T.tuple (by decide +kernel) (pa_cons (pv 3) pa_nil)))))), ?_⟩
    refine ⟨(by show 0 ≤ sizeLine; decide), fun lf nf => with_new nf fun H1 s1 e1 => ?_⟩
    refine at_sig (σ' := [some (.ref p), some (.int (wd : Int)), some (.int (most : Int)), some (.ref lf), none, none]) rfl ?_
    have off := g.off nf
    refine ⟨_, rfl, _, rfl, _, _, rfl, rfl, p, c, k, _, rfl, g.same s1, by omega, by omega, by omega, fun d H2 h0 h1 g2 b2 => ?_⟩
    refine ⟨d, rfl, by omega, by omega, for_range (lo := 0) (n := d.toNat) (fun i σ H' => ∃ (u : Option V) (ys : List V) (rows : List (List Bool)), σ = [some (.ref p), some (.int (wd : Int)), some (.int (most : Int)), some (.ref lf), u, none] ∧ SameB p H H' ∧ Pen H' p c (k + 1 + i * 4) ∧ H' lf = some (.lst ys) ∧ Das H' ys (rows.map tbd) ∧ rows.length = i ∧ ∀ bs ∈ rows, bs.length = wd) ⟨none, [], [], rfl, (SameB.of s1).trans (But.sb b2), g2, by rw [b2 lf off.1]; exact e1, .nil, rfl, fun bs h => by cases h⟩ ?_ ?_⟩
    · rintro i σ H' hi ⟨u, ys, rows, rfl, sb, g3, el, hy, zl, hb⟩
      have zy := hy.length
      rw [List.length_map, zl] at zy
      refine ⟨_, rfl, .inl ⟨rfl, _, SqL.of el⟩, ?_⟩
      refine ⟨_, rfl, (wd : Int), rfl, by omega, by omega, fun D hD => ?_⟩
      refine lc_range (lo := 0) (n := wd) (DrawnI H' p c D (k + 1 + i * 4) 2) (DrawnI.start g3 hD) ?_ ?_
      · intro i2 H2 hi2 DI
        refine ⟨rfl, iteT (B := DrawnI H' p c D (k + 1 + i * 4) 2 (i2 + 1) H2) ?_⟩
        have gi := DI.2.1
        exact ⟨_, rfl, p, c, _, 2, rfl, gi, by omega, by decide, by decide, fun d H3 h0 h1 g5 b5 => DrawnI.step g3 hD DI (by omega) h0 h1 g5 b5⟩
      · rintro H2 ⟨sb2, g4, ns, eD, zD, hlt⟩
        obtain ⟨bs, ebs, lbs⟩ := bit_nat hlt
        refine ⟨D, _, rfl, .inl ⟨SqL.of eD, fun r nr => ?_⟩⟩
        have s5 := same_upd nr (o := .tup (ns.map iv))
        have el5 := s5 _ _ (sb2 _ _ el off.1)
        refine ⟨lf, ys, _, rfl, rfl, el5, Nat.lt_of_lt_of_le (by omega : ys.length < 10000) (by decide), ?_⟩
        have tp : Tp (upd H2 r (.tup (ns.map iv))) (upd (upd H2 r (.tup (ns.map iv))) lf (.lst (ys ++ [V.ref r]))) := Tp.lst el5
        have hy5 := Das.same s5 (Das.kp (g3.kp sb2) _ _ hy)
        refine ⟨_, ys ++ [.ref r], rows ++ [bs], rfl, ((sb.trans sb2).trans (SameB.of s5)).mut nf, ((g4.same s5).mut off.1 off.2).more (by omega), upd_same, ?_, by rw [List.length_append, zl]; rfl, fun b hb2 => ?_⟩
        · rw [List.map_append]
          refine (Das.tp tp _ _ (stills_tbd _) hy5).app (Das.one (.tup (tp _ _ upd_same) ?_))
          rw [ebs]
          exact das_of_bits _
        · rcases List.mem_append.mp hb2 with hb2 | hb2
          · exact hb b hb2
          · cases hb2 with
            | head => rw [lbs]; exact zD
            | tail _ z => cases z
    · rintro σ H' ⟨u, ys, rows, rfl, sb, g3, el, hy, zl, hb⟩
      refine ⟨_, rfl, lf, ys, rfl, .inl ⟨SqL.of el, fun rr nr => ?_⟩⟩
      have s5 := same_upd nr (o := .tup ys)
      exact q rr rows _ (sb.trans (SameB.of s5)) ((g3.same s5).more (by omega)) ⟨ys, upd_same, hy.same s5⟩ hb (by omega)
end
end Sb

set_option linter.all false
set_option maxRecDepth 100000
set_option maxHeartbeats 4000000
namespace Sb
open PySem PySem.Spec PyProof.Rows L2
structure Small (c : Ci) : Prop where
  m : c.m ≤ 4
  r : c.rs.length ≤ 4
  g : c.gs.length ≤ 10
  o : c.os.length ≤ 4
theorem Small.many {c : Ci} (s : Small c) : c.many ≤ 18 := by
  have := s.m
  have := s.r
  have := s.g
  unfold Ci.many
  omega
def spLCirc : Sp := fun vs H Q _ => ∃ (p c : Addr) (k M R G : Nat), vs = [.ref p, .int M, .int R, .int G] ∧ Pen H p c k ∧ k < 100000000 ∧ M ≤ 4 ∧ R ≤ 4 ∧ G ≤ 10 ∧
  ∀ (a : Addr) (cc : Ci) (H' : Hp), SameB p H H' → Pen H' p c (k + 100) → OwnAt H' a cc.cd → cc.Ok → Small cc → 0 < cc.many → Q (.ref a) H'
def kinds : List V := [.str "and", .str "or", .str "xor", .str "but", .str "not", .str "one", .str "xor", .str "or"]
theorem kind_of {x : V} (h : x ∈ kinds) : x = .str "one" ∨ x = .str "not" ∨ ∃ k : Kd, x = .str k.nm := by
  unfold kinds at h
  simp only [List.mem_cons, List.not_mem_nil, or_false] at h
  rcases h with h | h | h | h | h | h | h | h
  · exact .inr (.inr ⟨.and, h⟩)
  · exact .inr (.inr ⟨.or, h⟩)
  · exact .inr (.inr ⟨.xor, h⟩)
  · exact .inr (.inr ⟨.but, h⟩)
  · exact .inr (.inl h)
  · exact .inl h
  · exact .inr (.inr ⟨.xor, h⟩)
  · exact .inr (.inr ⟨.or, h⟩)
/-- the gates so far -/
structure GatesI (H : Hp) (l : Addr) (n : Nat) (gs : List Gt) : Prop where
  at_ : ∃ ys, H l = some (.lst ys) ∧ Das H ys (gs.map Gt.enc)
  lt : ∀ (i : Nat) (g : Gt), gs[i]? = some g → g.lt (n + i)
theorem still_gt (g : Gt) : still g.enc = true := by
  cases g <;> rfl
theorem stills_gt : ∀ gs : List Gt, stills (gs.map Gt.enc) = true
  | [] => rfl
  | g :: gs => by
    show (still g.enc && stills (gs.map Gt.enc)) = true
    rw [stills_gt gs, still_gt]
    rfl
theorem GatesI.len {H : Hp} {l : Addr} {n : Nat} {gs : List Gt} {ys : List V} (h : GatesI H l n gs) (e : H l = some (.lst ys)) : ys.length = gs.length ∧ Das H ys (gs.map Gt.enc) := by
  obtain ⟨zs, e2, hz⟩ := h.at_
  rw [e2] at e
  cases e
  exact ⟨by rw [hz.length, List.length_map], hz⟩
theorem GatesI.push {H H2 : Hp} {l t : Addr} {n : Nat} {gs : List Gt} {g : Gt} {xs ys : List V} (h : GatesI H l n gs) (e : H l = some (.lst ys)) (k : Kp H H2) (et : H2 t = some (.tup xs)) (hg : Da H2 (.ref t) g.enc) (hl : g.lt (n + gs.length)) : GatesI (upd H2 l (.lst (ys ++ [.ref t]))) l n (gs ++ [g]) := by
  obtain ⟨_, hz⟩ := h.len e
  have tp : Tp H2 (upd H2 l (.lst (ys ++ [V.ref t]))) := Tp.lst (k.l _ _ e)
  refine ⟨⟨_, upd_same, ?_⟩, fun i g' hi => ?_⟩
  · rw [List.map_append]
    exact (Das.tp tp _ _ (stills_gt _) (Das.kp k _ _ hz)).app (Das.one (Da.tp tp _ _ (still_gt _) hg))
  · by_cases c : i < gs.length
    · rw [List.getElem?_append_left c] at hi
      exact h.lt i g' hi
    · rw [List.getElem?_append_right (by omega)] at hi
      have c2 : i - gs.length = 0 := by
        cases q : i - gs.length with
        | zero => rfl
        | succ m => rw [q] at hi; cases hi
      rw [c2] at hi
      cases hi
      have c3 : i = gs.length := by omega
      rw [c3]
      exact hl
theorem das_of_nats {H : Hp} : ∀ ns : List Nat, Das H (ns.map iv) (ns.map nd)
  | [] => .nil
  | n :: ns => .cons (.int _) (das_of_nats ns)
section
variable {P : Program} {w : World} {K : PySem.W.Frag} {mg : Str → Option Value} {base : Heap}
theorem sc_lcirc : FnScope ["_law_pen_here", "_law_inputs", "_law_registers", "_law_gates", "_law_many", "_law_resets", "_law_lap", "_law_told", "_law_rows", "_law_kind", "_law_nexts", "_law_outputs_here", "_law_reset"] ["_law_pen_here", "_law_inputs", "_law_registers", "_law_gates"] (defScope (top 34)) := ⟨rfl, rfl, rfl, by decide +kernel, rfl, by decide +kernel, by decide +kernel⟩
theorem ok_lcirc {f a1 a2 : Addr} {fd e1 e2 : FuncData} (F : Fun K "_law_drawn_circuit" "_law_drawn_circuit" (top 34) f fd) (T : Bv mg) (F_law_draw : Fn K mg P w base CX0 "_law_draw" 1 a1 e1 ["_law_pen_here", "_law_many"] spDraw) (F_law_pick : Fn K mg P w base CX0 "_law_pick" 2 a2 e2 ["_law_pen_here", "_law_some"] (spPick K)) : FnOk P w K mg base CX0 3 f fd ["_law_pen_here", "_law_inputs", "_law_registers", "_law_gates"] spLCirc := by
  have sc := sc_lcirc
  refine F.ok sc_lcirc (fun vs H Q E h => ?_) (fun cdv A outer s H vs Q E hr h => ?_)
  · obtain ⟨p, c, k, M, R, G, rfl, _⟩ := h
    rfl
  · obtain ⟨p, c, k, M, R, G, rfl, g, hk, hM, hR, hG, q⟩ := h
    refine ⟨_, (pss_cons (ps_par (i := 4) (j := 5) (by rfl) sc.nd rfl rfl (by decide) rfl rfl (pa_cons (pe_call F_law_draw.G (hr.mono (by decide)) (by rfl) F_law_draw.g F_law_draw.k F_law_draw.b .nil pass0 (pa_cons (pv 0) (pa_cons (pe_op op_add (pv 1) pe_int) pa_nil))) (pa_cons (pe_lst pa_nil) pa_nil)) (by rfl))
      (pss_cons (ps_for PassesOwn.never rfl (pi_range1 (by rfl) T.range (pa_cons (pe_call F_law_draw.G (hr.mono (by decide)) (by rfl) F_law_draw.g F_law_draw.k F_law_draw.b .nil pass0 (pa_cons (pv 0) (pa_cons (pe_op op_add (pv 2) pe_int) pa_nil))) pa_nil)) (pg_name (i := 6) sc.nd rfl (.inl rfl)) (pss_one (ps_expr (pe_bm PySem.F.plainAttrs_list PySem.F.slot_list_append PySem.F.type_list_append mt_append (pv 5) (pa_cons (pe_call F_law_draw.G (hr.mono (by decide)) (by rfl) F_law_draw.g F_law_draw.k F_law_draw.b .nil pass0 (pa_cons (pv 0) (pa_cons pe_int pa_nil))) pa_nil)))))
      (pss_cons (ps_asg (pe_tup (pa_cons (pe_op op_add (pv 4) (pe_callB call_len (by rfl) T.len (by decide +kernel) (pa_cons (pv 5) pa_nil))) (pa_cons (pe_lst pa_nil) pa_nil))) (pg_tup (by rfl) (pgs_cons (pg_name (i := 7) sc.nd rfl (.inr rfl)) (pgs_cons (pg_name (i := 8) sc.nd rfl (.inl rfl)) pgs_nil))))
      (pss_cons (ps_for PassesOwn.never rfl (pi_range1 (by rfl) T.range (pa_cons (pe_call F_law_draw.G (hr.mono (by decide)) (by rfl) F_law_draw.g F_law_draw.k F_law_draw.b .nil pass0 (pa_cons (pv 0) (pa_cons (pe_op op_add (pv 3) pe_int) pa_nil))) pa_nil)) (pg_name (i := 6) sc.nd rfl (.inl rfl)) (pss_cons (ps_set (i := 9) sc.nd rfl (.inl rfl) (pe_call F_law_pick.G (hr.mono (by decide)) (by rfl) F_law_pick.g F_law_pick.k F_law_pick.b .nil pass0 (pa_cons (pv 0) (pa_cons (pe_lst (pa_cons pe_str (pa_cons pe_str (pa_cons pe_str (pa_cons pe_str (pa_cons pe_str (pa_cons pe_str (pa_cons pe_str (pa_cons pe_str pa_nil))))))))) pa_nil))))
      (C8.pss_cut (ps_if (PW.pt (pw_or (pt_cmpR op_eq (pv 9) pe_str (nomark _)) (pw_or1 (pt_cmpR op_eq (pv 7) pe_int (nomark _))))) (pss_one (ps_expr (pe_bm PySem.F.plainAttrs_list PySem.F.slot_list_append PySem.F.type_list_append mt_append (pv 8) (pa_cons (pe_tup (pa_cons pe_str pa_nil)) pa_nil)))) (pss_one (ps_if (pt_cmpR op_eq (pv 9) pe_str (nomark _)) (pss_one (ps_expr (pe_bm PySem.F.plainAttrs_list PySem.F.slot_list_append PySem.F.type_list_append mt_append (pv 8) (pa_cons (pe_tup (pa_cons pe_str (pa_cons (pe_call F_law_draw.G (hr.mono (by decide)) (by rfl) F_law_draw.g F_law_draw.k F_law_draw.b .nil pass0 (pa_cons (pv 0) (pa_cons (pv 7) pa_nil))) pa_nil))) pa_nil)))) (pss_one (ps_expr (pe_bm PySem.F.plainAttrs_list PySem.F.slot_list_append PySem.F.type_list_append mt_append (pv 8) (pa_cons (pe_tup (pa_cons (pv 9) (pa_cons (pe_call F_law_draw.G (hr.mono (by decide)) (by rfl) F_law_draw.g F_law_draw.k F_law_draw.b .nil pass0 (pa_cons (pv 0) (pa_cons (pv 7) pa_nil))) (pa_cons (pe_call F_law_draw.G (hr.mono (by decide)) (by rfl) F_law_draw.g F_law_draw.k F_law_draw.b .nil pass0 (pa_cons (pv 0) (pa_cons (pv 7) pa_nil))) pa_nil)))) pa_nil)))))))
      (pss_one (ps_set (i := 7) sc.nd rfl (.inr rfl) (pe_op op_add (pv 7) pe_int))))))
      (C8.pss_cut (ps_if (pt_cmpR op_eq (pv 7) pe_int (nomark _)) (pss_one (ps_asg (pe_tup (pa_cons (pe_lst (pa_cons (pe_tup (pa_cons pe_str pa_nil)) pa_nil)) (pa_cons pe_int pa_nil))) (pg_tup (by rfl) (pgs_cons (pg_name (i := 8) sc.nd rfl (.inl rfl)) (pgs_cons (pg_name (i := 7) sc.nd rfl (.inr rfl)) pgs_nil))))) pss_nil)
      (pss_cons (ps_setLc (i := 10) (own := [("_law_reset", 12)]) (g := gName 12) (tt := tYes) rfl sc.nd rfl rfl (sw_true rfl rfl rfl (by decide +kernel)) (pi_list (pv 5)) (blkOk_by (N := ["_law_pen_here", "_law_inputs", "_law_registers", "_law_gates", "_law_many", "_law_resets", "_law_lap", "_law_told", "_law_rows", "_law_kind", "_law_nexts", "_law_outputs_here", "_law_reset"]) (sc := defScope (top 34)) (by decide +kernel)) (fun _ _ _ _ _ => (pg_name (i := 12) sc.nd rfl (.inl rfl))) (fun _ _ _ _ _ => pts_nil) (fun _ _ _ _ _ => (pe_call F_law_draw.G (hr.mono (by decide)) (by rfl) F_law_draw.g F_law_draw.k F_law_draw.b .nil pass0 (pa_cons (pv 0) (pa_cons (pv 7) pa_nil)))))
      (pss_cons (ps_setLc (i := 11) (own := [("_law_lap", 6)]) (g := gName 6) (tt := tYes) rfl sc.nd rfl rfl (sw_true rfl rfl rfl (by decide +kernel)) (pi_range1 (by rfl) T.range (pa_cons (pe_op op_add pe_int (pe_call F_law_draw.G (hr.mono (by decide)) (by rfl) F_law_draw.g F_law_draw.k F_law_draw.b .nil pass0 (pa_cons (pv 0) (pa_cons pe_int pa_nil)))) pa_nil)) (blkOk_by (N := ["_law_pen_here", "_law_inputs", "_law_registers", "_law_gates", "_law_many", "_law_resets", "_law_lap", "_law_told", "_law_rows", "_law_kind", "_law_nexts", "_law_outputs_here", "_law_reset"]) (sc := defScope (top 34)) (by decide +kernel)) (fun _ _ _ _ _ => (pg_name (i := 6) sc.nd rfl (.inl rfl))) (fun _ _ _ _ _ => pts_nil) (fun _ _ _ _ _ => (pe_call F_law_draw.G (hr.mono (by decide)) (by rfl) F_law_draw.g F_law_draw.k F_law_draw.b .nil pass0 (pa_cons (pv 0) (pa_cons (pv 7) pa_nil)))))
      (pss_one (ps_ret (pe_tup (pa_cons (pv 4) (pa_cons (pe_callTy call_tuple_of (by rfl) T.tuple (by decide +kernel) (pa_cons (pv 5) pa_nil)) (pa_cons (pe_callTy call_tuple_of (by rfl) T.tuple (by decide +kernel) (pa_cons (pv 8) pa_nil)) (pa_cons (pe_callTy call_tuple_of (by rfl) T.tuple (by decide +kernel) (pa_cons (pv 10) pa_nil)) (pa_cons (pe_callTy call_tuple_of (by rfl) T.tuple (by decide +kernel) (pa_cons (pv 11) pa_nil)) pa_nil))))))))))))))), ?_⟩
    refine ⟨_, rfl, _, rfl, _, _, rfl, rfl, p, c, k, _, rfl, g, by omega, by omega, by omega, fun d1 H1 h0 h1 g1 b1 => ?_⟩
    obtain ⟨m, rfl⟩ : ∃ m : Nat, d1 = (m : Int) := ⟨d1.toNat, by omega⟩
    refine ⟨(by show 0 ≤ sizeLine; decide), fun lr nr => with_new nr fun H2 s2 e2 => ?_⟩
    refine ⟨_, _, rfl, at_sig (σ' := [some (.ref p), some (.int (M : Int)), some (.int (R : Int)), some (.int (G : Int)), some (iv m), some (.ref lr), none, none, none, none, none, none, none]) rfl ?_⟩
    have B1 := But.sb b1
    have nrH : H lr = none := by
      cases e : H lr with
      | none => rfl
      | some o =>
        have z := B1 lr o e (g1.off nr).1
        rw [z] at nr
        cases nr
    have offr := g1.off nr
    have t2 := B1.trans (SameB.of s2)
    have g2 := g1.same s2
    refine ⟨_, rfl, _, rfl, _, _, rfl, rfl, p, c, _, _, rfl, g2, by omega, by omega, by omega, fun d2 H3 h02 h12 g3 b3 => ?_⟩
    refine ⟨d2, rfl, by omega, by omega, for_range (lo := 0) (n := d2.toNat) (fun i σ H' => ∃ (u : Option V) (bs : List Bool), σ = [some (.ref p), some (.int (M : Int)), some (.int (R : Int)), some (.int (G : Int)), some (iv m), some (.ref lr), u, none, none, none, none, none, none] ∧ SameB p H H' ∧ Pen H' p c (k + 2 + i) ∧ H' lr = some (.lst (bs.map bv)) ∧ bs.length = i) ⟨none, [], rfl, t2.trans (But.sb b3), g3, by rw [b3 lr offr.1]; exact e2, rfl⟩ ?_ ?_⟩
    · rintro i σ H' hi ⟨u, bs, rfl, sb, gi, el, zb⟩
      refine ⟨_, rfl, .inl ⟨rfl, _, SqL.of el⟩, _, rfl, p, c, _, 2, rfl, gi, by omega, by decide, by decide, fun d H4 h0 h1 g4 b4 => ?_⟩
      have el4 : H4 lr = some (.lst (bs.map bv)) := by rw [b4 lr offr.1]; exact el
      have ed : V.int d = bv (d == 1) := by
        rcases (by omega : d = 0 ∨ d = 1) with rfl | rfl <;> rfl
      refine ⟨lr, _, _, rfl, rfl, el4, by rw [List.length_map]; exact Nat.lt_of_lt_of_le (by omega : bs.length < 10000) (by decide), _, bs ++ [d == 1], rfl, (sb.trans (But.sb b4)).mut nrH, (g4.mut offr.1 offr.2).more (by omega), ?_, by rw [List.length_append, zb]; rfl⟩
      rw [upd_same, List.map_append, ed]
      rfl
    · rintro σ H4 ⟨u, bs, rfl, sb4, g4, el4, zb⟩
      have zb4 : bs.length ≤ 4 := by omega
      refine ⟨_, rfl, _, rfl, _, bs.length, rfl, .inl ⟨_, SqL.of el4, by rw [List.length_map]⟩, _, _, rfl, rfl, ?_⟩
      refine ⟨(by show 0 ≤ sizeLine; decide), fun lg ng => with_new ng fun H5 s5 e5 => ?_⟩
      refine ⟨(by show 2 ≤ sizeLine; decide), fun tt nt => ?_⟩
      have s6 := same_upd nt (o := .tup [V.int ((m : Int) + (bs.length : Int)), V.ref lg])
      have e6 : (upd H5 tt (.tup [V.int ((m : Int) + (bs.length : Int)), V.ref lg])) tt = _ := upd_same
      dsimp only
      generalize upd H5 tt (.tup [V.int ((m : Int) + (bs.length : Int)), V.ref lg]) = H6 at *
      refine ⟨tt, _, rfl, SqT.of e6, rfl, _, _, rfl, .ref lg, _, rfl, rfl, ?_⟩
      refine at_sig (σ' := [some (.ref p), some (.int (M : Int)), some (.int (R : Int)), some (.int (G : Int)), some (iv m), some (.ref lr), u, some (iv (m + bs.length)), some (.ref lg), none, none, none, none]) rfl ?_
      have off4 := g4.off ng
      have ngH : H lg = none := by
        cases e : H lg with
        | none => rfl
        | some o =>
          have z := sb4 lg o e off4.1
          rw [z] at ng
          cases ng
      have t6 := sb4.trans (SameB.of (s5.trans s6))
      have g6 := g4.same (s5.trans s6)
      have el6 := s6 _ _ (s5 _ _ el4)
      have eg6 := s6 _ _ e5
      have nlg : lr ≠ lg := ne_of_none el4 ng
      refine ⟨_, rfl, _, rfl, _, _, rfl, rfl, p, c, _, _, rfl, g6, by omega, by omega, by omega, fun d3 H7 h03 h13 g7 b7 => ?_⟩
      refine ⟨d3, rfl, by omega, by omega, for_range (lo := 0) (n := d3.toNat) (fun i σ H' => ∃ (u v : Option V) (gs : List Gt), σ = [some (.ref p), some (.int (M : Int)), some (.int (R : Int)), some (.int (G : Int)), some (iv m), some (.ref lr), u, some (iv (m + bs.length + i)), some (.ref lg), v, none, none, none] ∧ SameB p H H' ∧ Pen H' p c (k + 2 + d2.toNat + 1 + i * 3) ∧ H' lr = some (.lst (bs.map bv)) ∧ GatesI H' lg (m + bs.length) gs ∧ gs.length = i) ⟨u, none, [], rfl, t6.trans (But.sb b7), g7, by rw [b7 lr offr.1]; exact el6, ⟨⟨[], by rw [b7 lg off4.1]; exact eg6, .nil⟩, fun i g h => by cases h⟩, rfl⟩ ?_ ?_⟩
      · rintro i σ H' hi ⟨u, v, gs, rfl, sb, gi, el, GI, zg⟩
        obtain ⟨ys, eg, hys⟩ := GI.at_
        refine ⟨_, rfl, (by show 8 ≤ sizeLine; decide), fun lk nk => ?_⟩
        have s1 := same_upd nk (o := .lst kinds)
        refine ⟨p, c, lk, _, kinds, rfl, gi.same s1, by omega, SqL.of upd_same, by decide, by decide, fun ix x H2 hx g2 b2 => ?_⟩
        have sb2 : SameB p H' H2 := (SameB.of s1).trans (But.sb b2)
        have mx := kind_of (List.mem_of_getElem? hx)
        refine ⟨fun σ' Hm => ∃ gs', σ' = [some (.ref p), some (.int (M : Int)), some (.int (R : Int)), some (.int (G : Int)), some (iv m), some (.ref lr), some (.int (0 + (i : Int))), some (iv (m + bs.length + i)), some (.ref lg), some x, none, none, none] ∧ SameB p H Hm ∧ Pen Hm p c (k + 2 + d2.toNat + 1 + (i + 1) * 3) ∧ Hm lr = some (.lst (bs.map bv)) ∧ GatesI Hm lg (m + bs.length) gs' ∧ gs'.length = i + 1, ?_, ?_⟩
        · have fin : ∀ (H3 : Hp) (g : Gt) (t : Addr) (xs : List V) (k3 : Nat), SameB p H' H3 → Pen H3 p c k3 → k3 ≤ k + 2 + d2.toNat + 1 + (i + 1) * 3 → H3 t = some (.tup xs) → Da H3 (.ref t) g.enc → g.lt (m + bs.length + i) →
              rAppend (.ref lg) [.ref t] H3 fun _ Hm => ∃ gs', [some (.ref p), some (.int (M : Int)), some (.int (R : Int)), some (.int (G : Int)), some (iv m), some (.ref lr), some (.int (0 + (i : Int))), some (iv (m + bs.length + i)), some (.ref lg), some x, none, none, none] = [some (.ref p), some (.int (M : Int)), some (.int (R : Int)), some (.int (G : Int)), some (iv m), some (.ref lr), some (.int (0 + (i : Int))), some (iv (m + bs.length + i)), some (.ref lg), some x, none, none, none] ∧ SameB p H Hm ∧ Pen Hm p c (k + 2 + d2.toNat + 1 + (i + 1) * 3) ∧ Hm lr = some (.lst (bs.map bv)) ∧ GatesI Hm lg (m + bs.length) gs' ∧ gs'.length = i + 1 := by
            intro H3 g t xs k3 sb3 g3 hk3 et hg hl
            have eg3 := sb3 _ _ eg off4.1
            have zy := (GI.len eg).1
            refine ⟨lg, ys, .ref t, rfl, rfl, eg3, Nat.lt_of_lt_of_le (by omega : ys.length < 10000) (by decide), gs ++ [g], rfl, (sb.trans sb3).mut ngH, (g3.mut off4.1 off4.2).more hk3, ?_, GI.push eg (gi.kp sb3) et hg (by rw [zg]; exact hl), by rw [List.length_append, zg]; rfl⟩
            rw [upd_ne nlg]
            exact sb3 _ _ el offr.1
          have two : ∀ (H3 : Hp) (o : HO) (t : Addr), SameB p H' H3 → H3 t = none → SameB p H' (upd H3 t o) := fun H3 o t sb3 nt => sb3.trans (SameB.of (same_upd nt))
          have one : ∀ t, H2 t = none → rAppend (.ref lg) [.ref t] (upd H2 t (.tup [.str "one"])) fun _ Hm => ∃ gs', [some (.ref p), some (.int (M : Int)), some (.int (R : Int)), some (.int (G : Int)), some (iv m), some (.ref lr), some (.int (0 + (i : Int))), some (iv (m + bs.length + i)), some (.ref lg), some x, none, none, none] = [some (.ref p), some (.int (M : Int)), some (.int (R : Int)), some (.int (G : Int)), some (iv m), some (.ref lr), some (.int (0 + (i : Int))), some (iv (m + bs.length + i)), some (.ref lg), some x, none, none, none] ∧ SameB p H Hm ∧ Pen Hm p c (k + 2 + d2.toNat + 1 + (i + 1) * 3) ∧ Hm lr = some (.lst (bs.map bv)) ∧ GatesI Hm lg (m + bs.length) gs' ∧ gs'.length = i + 1 := fun t nt =>
            fin _ .one t _ _ (two H2 _ t sb2 nt) (Pen.same g2 (same_upd nt)) (by omega) upd_same (.tup upd_same (.cons (.str _) .nil)) trivial
          have eg2 : H2 lg = some (.lst ys) := sb2 _ _ eg off4.1
          have hsc : ∀ y, scal x (.str y) = true := fun y => by
            rcases mx with rfl | rfl | ⟨_, rfl⟩ <;> rfl
          refine ⟨_, rfl, hsc _, _, rfl, ?_⟩
          by_cases c1 : x = .str "one"
          · rw [decide_eq_true c1]
            refine iteT ?_
            refine ⟨_, rfl, .inl ⟨rfl, _, SqL.of eg2⟩, (by show 1 ≤ sizeLine; decide), fun t nt => ?_⟩
            exact one t nt
          · rw [decide_eq_false c1]
            refine iteF ?_
            refine ⟨_, rfl, rfl, _, rfl, ?_⟩
            by_cases c2 : m + bs.length + i = 0
            · refine ite2 (fun _ => ?_) (fun z => absurd (decide_eq_true (congrArg V.int (by omega))) z)
              refine ⟨_, rfl, .inl ⟨rfl, _, SqL.of eg2⟩, (by show 1 ≤ sizeLine; decide), fun t nt => ?_⟩
              exact one t nt
            · refine ite2 (fun z => absurd (V.int.inj (of_decide_eq_true z)) (by omega)) (fun _ => ?_)
              refine ⟨_, rfl, hsc _, _, rfl, ?_⟩
              by_cases c3 : x = .str "not"
              · rw [decide_eq_true c3]
                refine iteT ?_
                refine ⟨_, rfl, .inl ⟨rfl, _, SqL.of eg2⟩, ?_⟩
                refine ⟨_, rfl, _, rfl, p, c, _, _, rfl, g2, by omega, by omega, by omega, fun d H3 h0 h1 g3 b3 => ?_⟩
                refine ⟨(by show 2 ≤ sizeLine; decide), fun t nt => ?_⟩
                obtain ⟨n, rfl⟩ : ∃ n : Nat, d = (n : Int) := ⟨d.toNat, by omega⟩
                exact fin _ (.not n) t _ _ (two H3 _ t (sb2.trans (But.sb b3)) nt) (Pen.same g3 (same_upd nt)) (by omega) upd_same (.tup upd_same (.cons (.str _) (.cons (.int _) .nil))) (by show n < m + bs.length + i; omega)
              · rw [decide_eq_false c3]
                refine iteF ?_
                obtain ⟨kd, rfl⟩ : ∃ kd : Kd, x = .str kd.nm := by
                  rcases mx with z | z | z
                  · exact absurd z c1
                  · exact absurd z c3
                  · exact z
                refine ⟨_, rfl, .inl ⟨rfl, _, SqL.of eg2⟩, _, rfl, ?_⟩
                refine ⟨_, rfl, _, rfl, p, c, _, _, rfl, g2, by omega, by omega, by omega, fun d H3 h0 h1 g3 b3 => ?_⟩
                refine ⟨_, rfl, _, rfl, p, c, _, _, rfl, g3, by omega, by omega, by omega, fun e H4 h2 h3 g5 b5 => ?_⟩
                refine ⟨(by show 3 ≤ sizeLine; decide), fun t nt => ?_⟩
                obtain ⟨n, rfl⟩ : ∃ n : Nat, d = (n : Int) := ⟨d.toNat, by omega⟩
                obtain ⟨n2, rfl⟩ : ∃ n : Nat, e = (n : Int) := ⟨e.toNat, by omega⟩
                exact fin _ (.two kd n n2) t _ _ (two H4 _ t ((sb2.trans (But.sb b3)).trans (But.sb b5)) nt) (Pen.same g5 (same_upd nt)) (by omega) upd_same (.tup upd_same (.cons (.str _) (.cons (.int _) (.cons (.int _) .nil)))) ⟨by omega, by omega⟩
        · rintro σ' Hm ⟨gs', rfl, sbm, gm, elm, GIm, zm⟩
          refine ⟨_, rfl, _, _, rfl, rfl, ?_⟩
          exact ⟨_, _, gs', rfl, sbm, gm, elm, GIm, zm⟩
      · rintro σ H' ⟨u, v, gs, rfl, sb, gi, el, GI, zg⟩
        refine ⟨fun σ' Hm => ∃ lg' gs', σ' = [some (.ref p), some (.int (M : Int)), some (.int (R : Int)), some (.int (G : Int)), some (iv m), some (.ref lr), u, some (iv (m + bs.length + gs'.length)), some (.ref lg'), v, none, none, none] ∧ 0 < m + bs.length + gs'.length ∧ gs'.length ≤ 10 ∧ SameB p H Hm ∧ Pen Hm p c (k + 50) ∧ Hm lr = some (.lst (bs.map bv)) ∧ GatesI Hm lg' (m + bs.length) gs', ?_, ?_⟩
        · refine ⟨_, rfl, rfl, _, rfl, ?_⟩
          by_cases c0 : m + bs.length + d3.toNat = 0
          · refine ite2 (fun _ => ?_) (fun z => absurd (decide_eq_true (congrArg V.int (by omega))) z)
            refine ⟨(by show 1 ≤ sizeLine; decide), fun t1 n1 => ⟨(by show 1 ≤ sizeLine; decide), fun l2 n2 => ⟨(by show 2 ≤ sizeLine; decide), fun tt nt => ⟨tt, _, rfl, SqT.of upd_same, rfl, .ref l2, _, rfl, iv 1, _, rfl, rfl, ?_⟩⟩⟩⟩
            have s1 := same_upd n1 (o := .tup [.str "one"])
            have s2 := same_upd n2 (o := .lst [.ref t1])
            have s3 := same_upd nt (o := .tup [.ref l2, iv 1])
            have t3 := s1.trans (s2.trans s3)
            refine ⟨l2, [.one], ?_, by show 0 < m + bs.length + 1; omega, by show 1 ≤ 10; decide, sb.trans (SameB.of t3), (gi.same t3).more (by omega), t3 _ _ el, ⟨⟨[.ref t1], s3 _ _ upd_same, .cons (.tup (s3 _ _ (s2 _ _ upd_same)) (.cons (.str _) .nil)) .nil⟩, fun i g h => ?_⟩⟩
            · have e : m + bs.length + [Gt.one].length = 1 := by show m + bs.length + 1 = 1; omega
              rw [e]
              rfl
            · cases i with
              | zero => cases h; trivial
              | succ i => cases h
          · refine ite2 (fun z => absurd (V.int.inj (of_decide_eq_true z)) (by omega)) (fun _ => ?_)
            refine ⟨lg, gs, ?_, by omega, by omega, sb, gi.more (by omega), el, GI⟩
            rw [zg]
        · rintro σ' Hm ⟨lg', gs', rfl, hpos, zg', sbm, gm, elm, GIm⟩
          have lenb : (bs.map bv).length = bs.length := List.length_map ..
          refine ⟨_, rfl, lr, rfl, ⟨_, SqL.of elm⟩, fun D1 hD1 => lc_list (K := K) (a := lr) (xs := bs.map bv) (DrawnI Hm p c D1 (k + 50) (m + bs.length + gs'.length)) (DrawnI.start gm hD1) ?_ ?_ ?_⟩
          · intro i Hx _ DI
            exact SqL.of (DI.1 _ _ elm offr.1)
          · intro i x H2 hx DI
            have hi := (List.getElem?_eq_some_iff.mp hx).1
            refine ⟨rfl, iteT (B := DrawnI Hm p c D1 (k + 50) (m + bs.length + gs'.length) (i + 1) H2) ?_⟩
            exact ⟨_, rfl, _, rfl, p, c, _, _, rfl, DI.2.1, by omega, by omega, by omega, fun d H3 h0 h1 g5 b5 => DrawnI.step gm hD1 DI (by omega) h0 h1 g5 b5⟩
          · rintro H7 ⟨sb7, g7, ns, eD, zD, hlt⟩
            have zs : ns.length = bs.length := by rw [zD]; exact lenb
            refine ⟨_, rfl, p, c, _, 2, rfl, g7, by omega, by decide, by decide, fun d5 H8 h05 h15 g8 b8 => ⟨_, _, rfl, rfl, ?_⟩⟩
            refine ⟨_, rfl, by omega, by omega, fun D2 hD2 => lc_range (lo := 0) (n := (1 + d5).toNat) (DrawnI H8 p c D2 (k + 50 + (bs.map bv).length + 1) (m + bs.length + gs'.length)) (DrawnI.start g8 hD2) ?_ ?_⟩
            · intro i H2 hi DI
              refine ⟨rfl, iteT (B := DrawnI H8 p c D2 (k + 50 + (bs.map bv).length + 1) (m + bs.length + gs'.length) (i + 1) H2) ?_⟩
              exact ⟨_, rfl, _, rfl, p, c, _, _, rfl, DI.2.1, by omega, by omega, by omega, fun d H3 h0 h1 g5 b5 => DrawnI.step g8 hD2 DI (by omega) h0 h1 g5 b5⟩
            · rintro H9 ⟨sb9, g9, os, eO, zO, hlto⟩
              obtain ⟨ys, eg, hys⟩ := GIm.at_
              have nl : ∀ {l : Addr} {xs : List V}, Hm l = some (.lst xs) → l ≠ p := fun {l xs} e => by
                obtain ⟨_, _, _, _, _, hp, _⟩ := gm
                exact ne_of e hp (by intro z; cases z)
              have nD : D1 ≠ p := by
                obtain ⟨_, _, _, _, _, hp, _⟩ := gm
                exact (fun z => by rw [z, hp] at hD1; cases hD1)
              have sA : SameB p Hm H9 := (sb7.trans (But.sb b8)).trans sb9
              have kA : Kp Hm H9 := gm.kp sA
              have er9 := sA _ _ elm offr.1
              have eg9 := sA _ _ eg (nl eg)
              have en9 : H9 D1 = some (.lst (ns.map iv)) := sb9 _ _ ((But.sb b8) _ _ eD nD) nD
              refine ⟨_, rfl, _, rfl, lr, _, rfl, .inl ⟨SqL.of er9, fun r1 n1 => ?_⟩⟩
              have u1 := same_upd n1 (o := .tup (bs.map bv))
              refine ⟨_, rfl, lg', _, rfl, .inl ⟨SqL.of (u1 _ _ eg9), fun r2 n2 => ?_⟩⟩
              have u2 := same_upd n2 (o := .tup ys)
              refine ⟨_, rfl, D1, _, rfl, .inl ⟨SqL.of (u2 _ _ (u1 _ _ en9)), fun r3 n3 => ?_⟩⟩
              have u3 := same_upd n3 (o := .tup (ns.map iv))
              refine ⟨_, rfl, D2, _, rfl, .inl ⟨SqL.of (u3 _ _ (u2 _ _ (u1 _ _ eO))), fun r4 n4 => ?_⟩⟩
              have u4 := same_upd n4 (o := .tup (os.map iv))
              refine ⟨(by show 5 ≤ sizeLine; decide), fun a na => ?_⟩
              have u5 := same_upd na (o := .tup [iv m, .ref r1, .ref r2, .ref r3, .ref r4])
              have uA := u1.trans (u2.trans (u3.trans (u4.trans u5)))
              have zO2 : os.length ≤ 4 := by omega
              refine q a ⟨m, bs, gs', ns, os⟩ _ ((sbm.trans sA).trans (SameB.of uA)) ((g9.same uA).more (by omega)) ⟨r1, r2, r3, r4, upd_same, ?_, ?_, ?_, ?_⟩ ?_ ⟨by show m ≤ 4; omega, by show bs.length ≤ 4; omega, zg', zO2⟩ (by show 0 < m + bs.length + gs'.length; omega)
              · exact ⟨_, u5 _ _ (u4 _ _ (u3 _ _ (u2 _ _ upd_same))), das_of_bits _⟩
              · exact ⟨_, u5 _ _ (u4 _ _ (u3 _ _ upd_same)), (Das.kp kA _ _ hys).same uA⟩
              · exact ⟨_, u5 _ _ (u4 _ _ upd_same), das_of_nats _⟩
              · exact ⟨_, u5 _ _ upd_same, das_of_nats _⟩
              · exact ⟨GIm.lt, zs, fun n hn => by have := hlt n hn; exact this, fun n hn => by have := hlto n hn; exact this, by show m ≤ 1000; omega, by show bs.length ≤ 1000; omega, by show gs'.length ≤ 1000; omega, by show os.length ≤ 1000; omega⟩
end
end Sb

set_option linter.all false
set_option maxRecDepth 100000
set_option maxHeartbeats 4000000
namespace Sb
open PySem PySem.Spec PyProof.Rows L2
def spLWide : Sp := fun vs H Q _ => ∃ (p c : Addr) (k : Nat), vs = [.ref p, .int 4, .int 4, .int 10] ∧ Pen H p c k ∧ k < 10000000 ∧
  ∀ (a : Addr) (cc : Ci) (H' : Hp), SameB p H H' → Pen H' p c (k + 200) → OwnAt H' a cc.cd → cc.Ok → Small cc → Q (.ref a) H'
theorem TupD.length {K : PySem.W.Frag} {H : Hp} {a : Addr} {ds : List PyData} (h : TupD H a ds) : LenV K (.ref a) H ds.length := h.rowV.len
section
variable {P : Program} {w : World} {K : PySem.W.Frag} {mg : Str → Option Value} {base : Heap}
theorem sc_lwide : FnScope ["_law_pen_here", "_law_inputs", "_law_registers", "_law_gates", "_law_own", "_law_way", "_law_told", "_law_k"] ["_law_pen_here", "_law_inputs", "_law_registers", "_law_gates"] (defScope (top 40)) := ⟨rfl, rfl, rfl, by decide +kernel, rfl, by decide +kernel, by decide +kernel⟩
theorem ok_lwide {f a1 a2 : Addr} {fd e1 e2 : FuncData} (F : Fun K "_law_wide_circuit" "_law_wide_circuit" (top 40) f fd) (T : Bv mg) (F_law_draw : Fn K mg P w base CX0 "_law_draw" 1 a1 e1 ["_law_pen_here", "_law_many"] spDraw) (F_law_drawn_circuit : Fn K mg P w base CX0 "_law_drawn_circuit" 3 a2 e2 ["_law_pen_here", "_law_inputs", "_law_registers", "_law_gates"] spLCirc) : FnOk P w K mg base CX0 4 f fd ["_law_pen_here", "_law_inputs", "_law_registers", "_law_gates"] spLWide := by
  have sc := sc_lwide
  refine F.ok sc_lwide (fun vs H Q E h => ?_) (fun cdv A outer s H vs Q E hr h => ?_)
  · obtain ⟨p, c, k, rfl, _⟩ := h
    rfl
  · obtain ⟨p, c, k, rfl, g, hk, q⟩ := h
    refine ⟨_, (pss_cons (ps_if (pt_cmpR op_eq (pe_call F_law_draw.G (hr.mono (by decide)) (by rfl) F_law_draw.g F_law_draw.k F_law_draw.b .nil pass0 (pa_cons (pv 0) (pa_cons pe_int pa_nil))) pe_int (nomark _)) (pss_one (ps_ret (pe_tup (pa_cons pe_int (pa_cons (pe_tup pa_nil) (pa_cons (pe_tup pa_nil) (pa_cons (pe_tup pa_nil) (pa_cons (pe_tup pa_nil) pa_nil)))))))) pss_nil)
      (pss_cons (ps_set (i := 4) sc.nd rfl (.inl rfl) (pe_call F_law_drawn_circuit.G (hr.mono (by decide)) (by rfl) F_law_drawn_circuit.g F_law_drawn_circuit.k F_law_drawn_circuit.b .nil pass0 (pa_cons (pv 0) (pa_cons (pv 1) (pa_cons (pv 2) (pa_cons (pv 3) pa_nil))))))
      (pss_cons (ps_asg (pe_tup (pa_cons (pe_call F_law_draw.G (hr.mono (by decide)) (by rfl) F_law_draw.g F_law_draw.k F_law_draw.b .nil pass0 (pa_cons (pv 0) (pa_cons pe_int pa_nil))) (pa_cons (pe_op op_add (pe_op op_add (pe_ix ix_tup (pv 4) pe_int (fun _ _ => rfl)) (pe_callB call_len (by rfl) T.len (by decide +kernel) (pa_cons (pe_ix ix_tup (pv 4) pe_int (fun _ _ => rfl)) pa_nil))) (pe_callB call_len (by rfl) T.len (by decide +kernel) (pa_cons (pe_ix ix_tup (pv 4) pe_int (fun _ _ => rfl)) pa_nil))) pa_nil))) (pg_tup (by rfl) (pgs_cons (pg_name (i := 5) sc.nd rfl (.inl rfl)) (pgs_cons (pg_name (i := 6) sc.nd rfl (.inr rfl)) pgs_nil))))
      (pss_cons (ps_if (pt_cmpR op_eq (pv 5) pe_int (nomark _)) (pss_one (ps_ret (pe_op op_catA (pe_slice sl_tupA (pv 4) po_none (po_some pe_int)) (pe_tup (pa_cons (pe_tup pa_nil) pa_nil))))) pss_nil)
      (pss_one (ps_ret (pe_ifExp (pt_cmpR op_gt (pv 5) pe_int (nomark _)) (pv 4) (pe_op op_catA (pe_slice sl_tupA (pv 4) po_none (po_some pe_int)) (pe_tup (pa_cons (pe_callTy call_tuple_of (by rfl) T.tuple (by decide +kernel) (pa_cons (pe_lc (own := [("_law_k", 7)]) (g := gName 7) (tt := tYes) rfl sc.nd (pi_range1 (by rfl) T.range (pa_cons pe_int pa_nil)) (blkOk_by (N := ["_law_pen_here", "_law_inputs", "_law_registers", "_law_gates", "_law_own", "_law_way", "_law_told", "_law_k"]) (sc := defScope (top 40)) (by decide +kernel)) (fun _ _ _ _ _ => (pg_name (i := 7) sc.nd rfl (.inl rfl))) (fun _ _ _ _ _ => pts_nil) (fun _ _ _ _ _ => (pe_call F_law_draw.G (hr.mono (by decide)) (by rfl) F_law_draw.g F_law_draw.k F_law_draw.b .nil pass0 (pa_cons (pv 0) (pa_cons (pv 6) pa_nil))))) pa_nil)) pa_nil)))))))))), ?_⟩
    refine ⟨_, rfl, p, c, k, 12, rfl, g, by omega, by decide, by decide, fun d1 H1 h0 h1 g1 b1 => ?_⟩
    have B1 := But.sb b1
    refine ⟨rfl, _, rfl, ?_⟩
    refine ite2 (fun _ => ?_) (fun _ => ?_)
    · refine ⟨(by show 0 ≤ sizeLine; decide), fun r1 n1 => ⟨(by show 0 ≤ sizeLine; decide), fun r2 n2 => ⟨(by show 0 ≤ sizeLine; decide), fun r3 n3 => ⟨(by show 0 ≤ sizeLine; decide), fun r4 n4 => ⟨(by show 5 ≤ sizeLine; decide), fun a na => ?_⟩⟩⟩⟩⟩
      have u1 := same_upd n1 (o := .tup [])
      have u2 := same_upd n2 (o := .tup [])
      have u3 := same_upd n3 (o := .tup [])
      have u4 := same_upd n4 (o := .tup [])
      have u5 := same_upd na (o := .tup [.int 0, .ref r1, .ref r2, .ref r3, .ref r4])
      have uA := u1.trans (u2.trans (u3.trans (u4.trans u5)))
      refine q a ⟨0, [], [], [], []⟩ _ (B1.trans (SameB.of uA)) ((g1.same uA).more (by omega)) ⟨r1, r2, r3, r4, upd_same, ?_, ?_, ?_, ?_⟩ ⟨fun i g h => (by cases h), rfl, fun n h => (by cases h), fun n h => (by cases h), by decide, by decide, by decide, by decide⟩ ⟨by decide, by decide, by decide, by decide⟩
      · exact ⟨_, u5 _ _ (u4 _ _ (u3 _ _ (u2 _ _ upd_same))), .nil⟩
      · exact ⟨_, u5 _ _ (u4 _ _ (u3 _ _ upd_same)), .nil⟩
      · exact ⟨_, u5 _ _ (u4 _ _ upd_same), .nil⟩
      · exact ⟨_, u5 _ _ upd_same, .nil⟩
    · refine ⟨_, rfl, _, rfl, _, rfl, _, rfl, p, c, _, 4, 4, 10, rfl, g1, by omega, by decide, by decide, by decide, fun a cc H2 sb2 g2 at2 ok sm hpos => ?_⟩
      have t2 := B1.trans sb2
      refine ⟨_, rfl, p, c, _, 8, rfl, g2, by omega, by decide, by decide, fun d3 H3 h03 h13 g3 b3 => ?_⟩
      have B3 := But.sb b3
      have at3 := at2.kp (g2.kp B3)
      obtain ⟨r, gg, n, o, ha, hr', hg', hn', ho'⟩ := id at3
      have ha : H3 a = some (.tup [.int (cc.m : Int), .ref r, .ref gg, .ref n, .ref o]) := ha
      have zr : cc.cd.rs.length = cc.rs.length := List.length_map ..
      have zg : cc.cd.gs.length = cc.gs.length := List.length_map ..
      have lr' : LenV K (.ref r) H3 cc.rs.length := by
        have z := TupD.length (K := K) hr'
        rw [zr] at z
        exact z
      have lg' : LenV K (.ref gg) H3 cc.gs.length := by
        have z := TupD.length (K := K) hg'
        rw [zg] at z
        exact z
      refine ⟨_, rfl, a, _, 0, _, rfl, rfl, SqT.of ha, at_of (j := 0) rfl rfl, ?_⟩
      refine ⟨_, rfl, a, _, 1, _, rfl, rfl, SqT.of ha, at_of (j := 1) rfl rfl, _, cc.rs.length, rfl, lr', _, _, rfl, rfl, ?_⟩
      refine ⟨_, rfl, a, _, 2, _, rfl, rfl, SqT.of ha, at_of (j := 2) rfl rfl, _, cc.gs.length, rfl, lg', _, _, rfl, rfl, ?_⟩
      refine ⟨(by show 2 ≤ sizeLine; decide), fun tt nt => ?_⟩
      have s4 := same_upd nt (o := .tup [V.int d3, V.int ((cc.m : Int) + (cc.rs.length : Int) + (cc.gs.length : Int))])
      have e4 : (upd H3 tt (.tup [V.int d3, V.int ((cc.m : Int) + (cc.rs.length : Int) + (cc.gs.length : Int))])) tt = _ := upd_same
      dsimp only
      have t4 := (t2.trans B3).trans (SameB.of s4)
      have g4 := g3.same s4
      have at4 := at3.same s4
      have ha4 := s4 _ _ ha
      generalize upd H3 tt (.tup [V.int d3, V.int ((cc.m : Int) + (cc.rs.length : Int) + (cc.gs.length : Int))]) = H4 at *
      refine ⟨tt, _, rfl, SqT.of e4, rfl, _, _, rfl, _, _, rfl, rfl, ?_⟩
      refine at_sig (σ' := [some (.ref p), some (.int 4), some (.int 4), some (.int 10), some (.ref a), some (.int d3), some (iv cc.many), none]) rfl ?_
      have mk : ∀ (os : List Nat) (ro a2 : Addr) (H5 : Hp), SameB p H4 H5 → Pen H5 p c (k + 200) → H5 a2 = some (.tup [.int cc.m, .ref r, .ref gg, .ref n, .ref ro]) → TupD H5 ro (os.map nd) → (∀ n ∈ os, n < cc.many) → os.length ≤ 4 → Q (.ref a2) H5 := fun os ro a2 H5 sb g5 h5 ho hlt hz => by
        have k5 := g4.kp sb
        obtain ⟨r', g', n', o', ha', h1, h2, h3, h4⟩ := at4
        rw [ha4] at ha'
        cases ha'
        exact q a2 ⟨cc.m, cc.rs, cc.gs, cc.ns, os⟩ H5 (t4.trans sb) g5 ⟨r, gg, n, ro, h5, h1.kp k5, h2.kp k5, h3.kp k5, ho⟩ ⟨ok.gs, ok.nl, ok.ns, hlt, ok.zm, ok.zr, ok.zg, by show os.length ≤ 1000; omega⟩ ⟨sm.m, sm.r, sm.g, hz⟩
      refine ⟨_, rfl, rfl, _, rfl, ?_⟩
      refine ite2 (fun _ => ?_) (fun _ => ?_)
      · refine ⟨_, rfl, 4, rfl, ?_⟩
        dsimp only
        refine slA_of (K := K) ha4 fun r5 H5 s5 e5 => ?_
        rw [show cutV _ none (some 4) = _ from cut_to (k := 4)] at e5
        refine ⟨(by show 0 ≤ sizeLine; decide), fun t1 n1 => ⟨(by show 1 ≤ sizeLine; decide), fun t2 n2 => ?_⟩⟩
        have u1 := same_upd n1 (o := .tup [])
        have u2 := same_upd n2 (o := .tup [.ref t1])
        dsimp only
        refine catA_of (K := K) (u2 _ _ (u1 _ _ e5)) upd_same (by show 4 + 1 ≤ 100000; decide) fun r6 H6 s6 e6 => ?_
        have uA := s5.trans (u1.trans (u2.trans s6))
        exact mk [] t1 r6 H6 (SameB.of uA) ((g4.same uA).more (by omega)) e6 ⟨[], s6 _ _ (u2 _ _ upd_same), .nil⟩ (fun n h => by cases h) (by decide)
      · refine ⟨_, rfl, _, _, rfl, rfl, _, rfl, ?_⟩
        refine ite2 (fun _ => ⟨_, rfl, q a cc H4 t4 (g4.more (by omega)) at4 ok sm⟩) (fun _ => ?_)
        refine ⟨_, rfl, 4, rfl, ?_⟩
        dsimp only
        refine slA_of (K := K) ha4 fun r5 H5 s5 e5 => ?_
        rw [show cutV _ none (some 4) = _ from cut_to (k := 4)] at e5
        have g5 := g4.same s5
        refine ⟨4, rfl, by decide, by decide, fun D hD => lc_range (lo := 0) (n := 4) (DrawnI H5 p c D (k + 1 + 100 + 1) cc.many) (DrawnI.start g5 hD) ?_ ?_⟩
        · intro i H2 hi DI
          refine ⟨rfl, iteT (B := DrawnI H5 p c D (k + 1 + 100 + 1) cc.many (i + 1) H2) ?_⟩
          have hmany := sm.many
          exact ⟨_, rfl, _, rfl, p, c, _, _, rfl, DI.2.1, by omega, by omega, by omega, fun d H3 h0 h1 g7 b7 => DrawnI.step g5 hD DI (by omega) h0 h1 g7 b7⟩
        · rintro H6 ⟨sb6, g6, os, eO, zO, hlto⟩
          refine ⟨D, _, rfl, .inl ⟨SqL.of eO, fun r7 n7 => ?_⟩⟩
          have u7 := same_upd n7 (o := .tup (os.map iv))
          refine ⟨(by show 1 ≤ sizeLine; decide), fun t2 n2 => ?_⟩
          have u2 := same_upd n2 (o := .tup [.ref r7])
          dsimp only
          have np : r5 ≠ p := by
            obtain ⟨_, _, _, _, _, hp, _⟩ := g5
            exact ne_of e5 hp (by intro z; cases z)
          refine catA_of (K := K) (u2 _ _ (u7 _ _ (sb6 _ _ e5 np))) upd_same (by show 4 + 1 ≤ 100000; decide) fun r8 H8 s8 e8 => ?_
          have uA := u7.trans (u2.trans s8)
          exact mk os r7 r8 H8 (((SameB.of s5).trans sb6).trans (SameB.of uA)) ((g6.same uA).more (by omega)) e8 ⟨_, s8 _ _ (u2 _ _ upd_same), das_of_nats _⟩ hlto (by omega)
end
end Sb

set_option linter.all false
set_option maxRecDepth 100000
set_option maxHeartbeats 4000000
namespace Sb
open PySem PySem.Spec PyProof.Rows L2
theorem below_nat {n m : Nat} (h : n < m) : isBelow (m : Int) (nd n) = true := by
  show decide (0 ≤ (n : Int) ∧ (n : Int) < m) = true
  exact decide_eq_true ⟨by omega, by omega⟩
theorem gate_ok {g : Gt} {n : Nat} (h : g.lt n) : isGate (n : Int) g.enc = true := by
  cases g with
  | one => rfl
  | not i =>
    have z := below_nat h
    show (decide ((1 : Nat) + 1 = 1 + 1) && (isBelow (n : Int) (nd i) && true)) = true
    rw [z]
    rfl
  | two k i j =>
    have z := below_nat h.1
    have z2 := below_nat h.2
    cases k <;>
    · show (decide ((2 : Nat) + 1 = 1 + 2) && (isBelow (n : Int) (nd i) && (isBelow (n : Int) (nd j) && true))) = true
      rw [z, z2]
      rfl
theorem all_below {m : Nat} : ∀ {ns : List Nat}, (∀ n ∈ ns, n < m) → (ns.map nd).all (isBelow (m : Int)) = true
  | [], _ => rfl
  | n :: ns, h => by
    show (isBelow (m : Int) (nd n) && (ns.map nd).all (isBelow (m : Int))) = true
    rw [below_nat (h n (.head _)), all_below fun x hx => h x (.tail _ hx)]
    rfl
theorem enc_short (g : Gt) : short g.enc := by
  intro ds e
  cases g with
  | one =>
    cases e
    show 1 ≤ 10000
    decide
  | not i =>
    cases e
    show 2 ≤ 10000
    decide
  | two k i j =>
    cases e
    show 3 ≤ 10000
    decide
theorem Ci.cd_many (c : Ci) : c.cd.many = c.many := by
  show c.m + (c.rs.map bd).length + (c.gs.map Gt.enc).length = c.m + c.rs.length + c.gs.length
  rw [List.length_map, List.length_map]
theorem Ci.Ok.cd {c : Ci} (ok : c.Ok) : c.cd.Ok := by
  have e := c.cd_many
  refine ⟨bits_below _, fun i g hg => ?_, fun g hg => ?_, by show (c.ns.map nd).length = (c.rs.map bd).length; rw [List.length_map, List.length_map]; exact ok.nl, by rw [e]; exact all_below ok.ns, by rw [e]; exact all_below ok.os, by show (c.rs.map bd).length ≤ 1000; rw [List.length_map]; exact ok.zr, by show (c.gs.map Gt.enc).length ≤ 1000; rw [List.length_map]; exact ok.zg, by show (c.os.map nd).length ≤ 1000; rw [List.length_map]; exact ok.zo⟩
  · have hg : (c.gs.map Gt.enc)[i]? = some g := hg
    rw [List.getElem?_map] at hg
    cases e2 : c.gs[i]? with
    | none => rw [e2] at hg; cases hg
    | some y =>
      rw [e2] at hg
      cases hg
      have z := gate_ok (ok.gs i y e2)
      have l : c.cd.rs.length = c.rs.length := List.length_map ..
      rw [l]
      exact z
  · obtain ⟨y, _, rfl⟩ := List.mem_map.mp hg
    exact enc_short y
/-- a row told as a list or a tuple, not the list at D -/
def RowD (H : Hp) (D : Addr) (y : V) (ds : List PyData) : Prop := ∃ a xs, y = .ref a ∧ a ≠ D ∧ (H a = some (.lst xs) ∨ H a = some (.tup xs)) ∧ Das H xs ds
theorem RowD.kp {H H' : Hp} {D : Addr} {y : V} {ds : List PyData} (k : Kp H H') (h : RowD H D y ds) : RowD H' D y ds := by
  obtain ⟨a, xs, e, n, h, hs⟩ := h
  refine ⟨a, xs, e, n, ?_, Das.kp k _ _ hs⟩
  rcases h with h | h
  · exact .inl (k.l _ _ h)
  · exact .inr (k.t _ _ h)
theorem RowD.upd {H : Hp} {D : Addr} {y : V} {ds : List PyData} {xs ys : List V} (st : stills ds = true) (e : H D = some (.lst xs)) (h : RowD H D y ds) : RowD (L2.upd H D (.lst ys)) D y ds := by
  obtain ⟨a, zs, e2, n, h, hs⟩ := h
  refine ⟨a, zs, e2, n, ?_, Das.tp (Tp.lst e) _ _ st hs⟩
  rw [upd_ne n]
  exact h
theorem RowD.rowV {H : Hp} {D : Addr} {y : V} {ds : List PyData} (h : RowD H D y ds) : RowV H y ds := by
  obtain ⟨a, xs, e, n, h, hs⟩ := h
  exact ⟨a, xs, e, h, hs⟩
def MadeI (H1 : Hp) (p c D : Addr) (k : Nat) (dss : List (List PyData)) (i : Nat) (H : Hp) : Prop := SameB p H1 H ∧ Pen H p c (k + i) ∧ ∃ ys, H D = some (.lst ys) ∧ ys.length = i ∧ ∀ (j : Nat) (y : V), ys[j]? = some y → ∃ ds, dss[j]? = some ds ∧ RowD H D y ds
theorem MadeI.start {H1 : Hp} {p c D : Addr} {k : Nat} {dss : List (List PyData)} (g : Pen H1 p c k) (h : H1 D = none) : MadeI H1 p c D k dss 0 (upd H1 D (.lst [])) :=
  ⟨SameB.of (same_upd h), g.same (same_upd h), [], upd_same, rfl, fun n y hn => by cases hn⟩
theorem MadeI.step {H1 H2 H3 : Hp} {p c D : Addr} {k i : Nat} {dss : List (List PyData)} {y : V} {ds : List PyData} (g0 : Pen H1 p c k) (h : H1 D = none) (st : ∀ ds ∈ dss, stills ds = true) (I : MadeI H1 p c D k dss i H2) (hi : i < 1000) (g : Pen H3 p c (k + i + 1)) (b : SameB p H2 H3) (hd : dss[i]? = some ds) (hy : RowD H3 D y ds) :
    ∃ acc, H3 D = some (.lst acc) ∧ acc.length < sizeLine ∧ MadeI H1 p c D k dss (i + 1) (upd H3 D (.lst (acc ++ [y]))) := by
  obtain ⟨s, g2, ys, e, l, hr⟩ := I
  have off := g0.off h
  have e3 := b _ _ e off.1
  refine ⟨ys, e3, by rw [l]; exact Nat.lt_of_lt_of_le hi (by decide), (s.trans b).mut h, g.mut off.1 off.2, ys ++ [y], upd_same, by rw [List.length_append, l]; rfl, fun j z hz => ?_⟩
  by_cases c1 : j < ys.length
  · rw [List.getElem?_append_left c1] at hz
    obtain ⟨ds', h1, h2⟩ := hr j z hz
    exact ⟨ds', h1, (h2.kp (g2.kp b)).upd (st _ (List.mem_of_getElem? h1)) e3⟩
  · rw [List.getElem?_append_right (by omega)] at hz
    have c2 : j - ys.length = 0 := by
      cases q : j - ys.length with
      | zero => rfl
      | succ m => rw [q] at hz; cases hz
    rw [c2] at hz
    cases hz
    have c3 : j = i := by omega
    rw [c3]
    exact ⟨ds, hd, hy.upd (st _ (List.mem_of_getElem? hd)) e3⟩
def rListC (K : PySem.W.Frag) : List V → Hp → VK → Prop := fun xs H Q => ∃ p ys, xs = [V.ref p] ∧ (SqL K H p ys ∨ SqT K H p ys) ∧ ∀ l, H l = none → Q (.ref l) (upd H l (.lst ys))
structure Mkc (K : PySem.W.Frag) (mg : Str → Option Value) (P : Program) (w : World) (base : Heap) (C : Addr) (f : Addr) (fd : FuncData) : Prop where
  M : Mk K C f
  G : FnOk P w K mg base CX0 5 f fd ["self", "inputs", "resets", "gates", "nexts", "outputs"] (spInit C)
  b : Binds K fd ["self", "inputs", "resets", "gates", "nexts", "outputs"] []
  g : mg "Circuit" = some (.ref C)
theorem stills_nd : ∀ ns : List Nat, stills (ns.map nd) = true
  | [] => rfl
  | n :: ns => by
    show (still (nd n) && stills (ns.map nd)) = true
    rw [stills_nd ns]
    rfl
/-- Circuit(..) -/
theorem make_of {C : Addr} {H : Hp} {c : Cd} {v2 v3 v4 v5 : V} {Q : VK} (ok : c.Ok) (h2 : RowV H v2 c.rs) (h3 : RowV H v3 c.gs) (h4 : RowV H v4 c.ns) (h5 : RowV H v5 c.os)
    (q : ∀ x H', Same H H' → CircAt H' x C c → Q (.ref x) H') {E : XK} : ∀ x dx, H x = none → H dx = none → dx ≠ x → spInit C (.ref x :: ([.int (c.m : Int), v2, v3, v4, v5] ++ [])) (upd (upd H dx (.own x)) x (.ins C dx [])) (fun v H2 => v = .non ∧ Q (.ref x) H2) E := by
  intro x dx nx nd n
  have s1 : Same H (upd (upd H dx (.own x)) x (.ins C dx [])) := same_mut (same_upd nd) nx
  exact ⟨x, dx, v2, v3, v4, v5, c, rfl, upd_same, h2.same s1, h3.same s1, h4.same s1, h5.same s1, ok, fun H' hb at_ => ⟨rfl, q x H' (fun b o e => hb b o (s1 b o e) (ne_of_none e nx)) at_⟩⟩
def spLMade (C : Addr) : Sp := fun vs H Q _ => ∃ (p c a : Addr) (k : Nat) (cc : Ci), vs = [.ref p, .ref a] ∧ Pen H p c k ∧ k < 100000000 ∧ OwnAt H a cc.cd ∧ cc.Ok ∧
  ∀ (x : Addr) (H' : Hp), SameB p H H' → Pen H' p c (k + 10) → CircAt H' x C cc.cd → Q (.ref x) H'
section
variable {P : Program} {w : World} {K : PySem.W.Frag} {mg : Str → Option Value} {base : Heap}
theorem sc_lmade : FnScope ["_law_pen_here", "_law_circuit", "_law_many", "_law_resets", "_law_gates", "_law_nexts", "_law_outputs_here", "_law_rows", "_law_row"] ["_law_pen_here", "_law_circuit"] (defScope (top 41)) := ⟨rfl, rfl, rfl, by decide +kernel, rfl, by decide +kernel, by decide +kernel⟩
theorem ok_lmade {f a1 a2 C : Addr} {fd e1 e2 : FuncData} (F : Fun K "_law_made_circuit" "_law_made_circuit" (top 41) f fd) (T : Bv mg) (F_law_pick : Fn K mg P w base CX0 "_law_pick" 2 a1 e1 ["_law_pen_here", "_law_some"] (spPick K)) (CM : Mkc K mg P w base C a2 e2) : FnOk P w K mg base CX0 7 f fd ["_law_pen_here", "_law_circuit"] (spLMade C) := by
  have sc := sc_lmade
  refine F.ok sc_lmade (fun vs H Q E h => ?_) (fun cdv A outer s H vs Q E hr h => ?_)
  · obtain ⟨p, c, a, k, cc, rfl, _⟩ := h
    rfl
  · obtain ⟨p, c, a, k, cc, rfl, g, hk, at_, ok, q⟩ := h
    refine ⟨_, (pss_cons (ps_asg (pv 1) (pg_tup (by rfl) (pgs_cons (pg_name (i := 2) sc.nd rfl (.inl rfl)) (pgs_cons (pg_name (i := 3) sc.nd rfl (.inl rfl)) (pgs_cons (pg_name (i := 4) sc.nd rfl (.inl rfl)) (pgs_cons (pg_name (i := 5) sc.nd rfl (.inl rfl)) (pgs_cons (pg_name (i := 6) sc.nd rfl (.inl rfl)) pgs_nil)))))))
      (pss_cons (ps_setLc (i := 7) (own := [("_law_row", 8)]) (g := gName 8) (tt := tYes) rfl sc.nd rfl rfl (sw_true rfl rfl rfl (by decide +kernel)) (pi_list (pe_lst (pa_cons (pv 3) (pa_cons (pv 4) (pa_cons (pv 5) (pa_cons (pv 6) pa_nil)))))) (blkOk_by (N := ["_law_pen_here", "_law_circuit", "_law_many", "_law_resets", "_law_gates", "_law_nexts", "_law_outputs_here", "_law_rows", "_law_row"]) (sc := defScope (top 41)) (by decide +kernel)) (fun _ _ _ _ _ => (pg_name (i := 8) sc.nd rfl (.inl rfl))) (fun _ _ _ _ _ => pts_nil) (fun _ _ _ _ _ => (pe_call F_law_pick.G (hr.mono (by decide)) (by rfl) F_law_pick.g F_law_pick.k F_law_pick.b .nil pass0 (pa_cons (pv 0) (pa_cons (pe_lst (pa_cons (pe_callTy (T := "list") (show CallR _ (.type "list") (rListC K) from call_list_of) (by rfl) T.list (by decide +kernel) (pa_cons (pv 8) pa_nil)) (pa_cons (pv 8) pa_nil))) pa_nil)))))
      (pss_one (ps_ret (pe_make CM.M CM.G (hr.mono (by decide)) (by rfl) CM.g CM.b .nil pass0 (pa_cons (pv 2) (pa_cons (pe_ix ix_list (pv 7) pe_int (fun _ _ => rfl)) (pa_cons (pe_ix ix_list (pv 7) pe_int (fun _ _ => rfl)) (pa_cons (pe_ix ix_list (pv 7) pe_int (fun _ _ => rfl)) (pa_cons (pe_ix ix_list (pv 7) pe_int (fun _ _ => rfl)) pa_nil)))))))))), ?_⟩
    obtain ⟨r, gg, n, o, ha, hr', hg', hn', ho'⟩ := id at_
    refine ⟨_, rfl, a, _, rfl, SqT.of ha, rfl, _, _, rfl, _, _, rfl, _, _, rfl, _, _, rfl, _, _, rfl, rfl, ?_⟩
    refine at_sig (σ' := [some (.ref p), some (.ref a), some (.int (cc.m : Int)), some (.ref r), some (.ref gg), some (.ref n), some (.ref o), none, none]) rfl ?_
    refine ⟨_, rfl, _, rfl, _, rfl, _, rfl, (by show 4 ≤ sizeLine; decide), fun l4 n4 => ?_⟩
    have s4 := same_upd n4 (o := .lst [.ref r, .ref gg, .ref n, .ref o])
    have e4 : (upd H l4 (.lst [.ref r, .ref gg, .ref n, .ref o])) l4 = _ := upd_same
    dsimp only
    have g4 := g.same s4
    generalize upd H l4 (.lst [.ref r, .ref gg, .ref n, .ref o]) = H4 at *
    refine ⟨l4, rfl, ⟨_, SqL.of e4⟩, fun D hD => lc_list (K := K) (a := l4) (xs := [.ref r, .ref gg, .ref n, .ref o]) (MadeI H4 p c D k [cc.cd.rs, cc.cd.gs, cc.cd.ns, cc.cd.os]) (MadeI.start g4 hD) ?_ ?_ ?_⟩
    · intro i Hx _ MI
      exact SqL.of (MI.1 _ _ e4 (g.off n4).1)
    · intro i x H2 hx MI
      obtain ⟨b, ds, rfl, hds, hb⟩ : ∃ b ds, x = .ref b ∧ ([cc.cd.rs, cc.cd.gs, cc.cd.ns, cc.cd.os] : List (List PyData))[i]? = some ds ∧ TupD H4 b ds := by
        match i, hx with
        | 0, hx => cases hx; exact ⟨r, _, rfl, rfl, hr'.same s4⟩
        | 1, hx => cases hx; exact ⟨gg, _, rfl, rfl, hg'.same s4⟩
        | 2, hx => cases hx; exact ⟨n, _, rfl, rfl, hn'.same s4⟩
        | 3, hx => cases hx; exact ⟨o, _, rfl, rfl, ho'.same s4⟩
        | i + 4, hx => cases hx
      have hi : i < 4 := (List.getElem?_eq_some_iff.mp hx).1
      have g2 := MI.2.1
      obtain ⟨xs, hbx, hbs⟩ := hb.kp (g4.kp MI.1)
      obtain ⟨ys0, eD, _⟩ := MI.2.2
      refine ⟨rfl, iteT (B := MadeI H4 p c D k [cc.cd.rs, cc.cd.gs, cc.cd.ns, cc.cd.os] (i + 1) H2) ?_⟩
      refine ⟨_, rfl, _, rfl, b, xs, rfl, .inr (SqT.of hbx), fun l nl => ?_⟩
      have u1 := same_upd nl (o := .lst xs)
      refine ⟨_, rfl, (by show 2 ≤ sizeLine; decide), fun lp np => ?_⟩
      have u2 := same_upd np (o := .lst [.ref l, .ref b])
      refine ⟨p, c, lp, _, [.ref l, .ref b], rfl, (g2.same u1).same u2, by omega, SqL.of upd_same, (by show 0 < 2; decide), (by show 2 < 1000000; decide), fun ix z H5 hz g5 b5 => ?_⟩
      have off2 := g2.off nl
      have bp : b ≠ p := by
        obtain ⟨_, _, _, _, _, hp, _⟩ := g2
        exact ne_of hbx hp (by intro z; cases z)
      have sb : SameB p H2 H5 := ((SameB.of u1).trans (SameB.of u2)).trans (But.sb b5)
      have d5 := Das.kp (g2.kp sb) _ _ hbs
      have hz2 : RowD H5 D z ds := by
        match ix, hz with
        | 0, hz =>
          cases hz
          exact ⟨l, xs, rfl, (fun z => by rw [z, eD] at nl; cases nl), .inl (But.sb b5 _ _ (u2 _ _ upd_same) off2.1), d5⟩
        | 1, hz =>
          cases hz
          exact ⟨b, xs, rfl, ne_of hbx eD (by intro z; cases z), .inr (sb _ _ hbx bp), d5⟩
        | ix + 2, hz => cases hz
      refine MadeI.step g4 hD ?_ MI (by omega) g5 sb hds hz2
      intro ds hds
      simp only [List.mem_cons, List.not_mem_nil, or_false] at hds
      rcases hds with rfl | rfl | rfl | rfl
      · exact stills_bits _
      · exact stills_gt _
      · exact stills_nd _
      · exact stills_nd _
    · rintro H5 ⟨sb5, g5, ys, eD, zD, hrow⟩
      obtain ⟨y0, y1, y2, y3, rfl⟩ : ∃ y0 y1 y2 y3, ys = [y0, y1, y2, y3] := by
        match ys, zD with
        | [y0, y1, y2, y3], _ => exact ⟨_, _, _, _, rfl⟩
      obtain ⟨d0, h0, r0⟩ := hrow 0 y0 rfl
      obtain ⟨d1, h1, r1⟩ := hrow 1 y1 rfl
      obtain ⟨d2, h2, r2⟩ := hrow 2 y2 rfl
      obtain ⟨d3, h3, r3⟩ := hrow 3 y3 rfl
      cases h0
      cases h1
      cases h2
      cases h3
      refine ⟨_, rfl, _, rfl, D, _, 0, _, rfl, rfl, SqL.of eD, at_of (j := 0) rfl rfl, _, rfl, D, _, 1, _, rfl, rfl, SqL.of eD, at_of (j := 1) rfl rfl, _, rfl, D, _, 2, _, rfl, rfl, SqL.of eD, at_of (j := 2) rfl rfl, _, rfl, D, _, 3, _, rfl, rfl, SqL.of eD, at_of (j := 3) rfl rfl, ?_⟩
      have t5 := (SameB.of s4).trans sb5
      exact make_of ok.cd r0.rowV r1.rowV r2.rowV r3.rowV fun x H6 s6 c6 => q x H6 (t5.trans (SameB.of s6)) ((g5.same s6).more (by show k + 4 ≤ k + 10; omega)) c6
end
end Sb

set_option linter.all false
set_option maxRecDepth 100000
set_option maxHeartbeats 4000000
namespace Sb
open PySem PySem.Spec PyProof.Rows L2
open PySem.W (sortI eq_sortI)
def spLParts (C : Addr) : Sp := fun vs H Q _ => ∃ (x : Addr) (c : Cd), vs = [.ref x] ∧ CircAt H x C c ∧ ∀ t H', Same H H' → OwnAt H' t c → Q (.ref t) H'
def spLNeed : Sp := fun vs H Q _ => ∃ (a : Addr) (c : Ci), vs = [.ref a] ∧ OwnAt H a c.cd ∧ c.Ok ∧ c.many < 64 ∧ c.os.length ≤ 500 ∧
  ∀ t H', Same H H' → H' t = some (.tup ((sortI ((c.need 1000 [] c.os).map Int.ofNat)).map V.int)) → Q (.ref t) H'
theorem inV_nat {s : Nat} : ∀ f : List Nat, inV (iv s) (f.map iv) = decide (s ∈ f)
  | [] => rfl
  | n :: f => by
    show (((n : Int) == (s : Int)) || inV (iv s) (f.map iv)) = _
    rw [inV_nat f]
    by_cases c : n = s
    · subst c
      simp
    · have e : ((n : Int) == (s : Int)) = false := by
        apply Bool.eq_false_iff.mpr
        intro z
        have := beq_iff_eq.mp z
        omega
      rw [e]
      have e2 : (s ∈ n :: f) ↔ s ∈ f := by
        rw [List.mem_cons]
        exact ⟨fun z => z.elim (fun z => absurd z.symm c) id, .inr⟩
      simp only [e2, Bool.false_or]
theorem flat_nat : ∀ f : List Nat, (f.map iv).all flatV = true
  | [] => rfl
  | _ :: f => flat_nat f
theorem lay_nd : ∀ ns : List Nat, PyData.canLayAll0 (ns.map nd) = true ∧ PyData.depthAll (ns.map nd) ≤ 0
  | [] => ⟨by simp [PyData.canLayAll0], by simp [PyData.depthAll]⟩
  | n :: ns => by
    have z := lay_nd ns
    refine ⟨?_, ?_⟩
    · show PyData.canLayAll0 (nd n :: ns.map nd) = true
      simp only [PyData.canLayAll0, nd, PyData.canLay0, z.1, Bool.and_self]
    · show PyData.depthAll (nd n :: ns.map nd) ≤ 0
      simp only [PyData.depthAll, nd, PyData.depth]
      have := z.2
      omega
theorem shaped_nd (ns : List Nat) : SeqAt.shaped (.list (ns.map nd)) = true := by
  have z := lay_nd ns
  unfold SeqAt.shaped
  simp only [PyData.canLay0, z.1, PyData.depth, Bool.true_and]
  exact decide_eq_true (by omega)
theorem eqv_nil {w : List Nat} : PyData.eqv (.list (w.map nd)) (.list []) = true ↔ w = [] := by
  cases w with
  | nil => simp [PyData.eqv, PyData.eqvAll]
  | cons x r => simp [PyData.eqv, PyData.eqvAll]
theorem ge_dec {a b : Nat} : (decide ((b : Int) ≤ (a : Int)) = true) ↔ b ≤ a := by
  rw [decide_eq_true_iff]
  omega
theorem ne_of_none' {H : Hp} {a b : Addr} {o : HO} (h : H a = none) (e : H b = some o) : a ≠ b := fun z => by rw [z, e] at h; cases h
section
variable {P : Program} {w : World} {K : PySem.W.Frag} {mg : Str → Option Value} {base : Heap}
theorem sc_lparts : FnScope ["_law_circuit"] ["_law_circuit"] (defScope (top 42)) := ⟨rfl, rfl, rfl, by decide +kernel, rfl, by decide +kernel, by decide +kernel⟩
theorem ok_lparts {f C : Addr} {fd : FuncData} (F : Fun K "_law_parts" "_law_parts" (top 42) f fd) (T : Bv mg) (TC : Cc K C) (Tq : Cq K C) (g_C : mg "Circuit" = some (.ref C)) : FnOk P w K mg base CX0 1 f fd ["_law_circuit"] (spLParts C) := by
  have sc := sc_lparts
  refine F.ok sc_lparts (fun vs H Q E h => ?_) (fun cdv A outer s H vs Q E hr h => ?_)
  · obtain ⟨x, c, rfl, _⟩ := h
    rfl
  · obtain ⟨x, c, rfl, at_, q⟩ := h
    refine ⟨_, (pss_cons (ps_if (pt_not (pt_val (pe_callB call_isi (by rfl) T.isinstance (by decide +kernel) (pa_cons (pv 0) (pa_cons (pe_glob (v := .ref _) rfl g_C rfl) pa_nil))))) (pss_one (ps_ret pe_non)) pss_nil)
      (pss_one (ps_ret (pe_tup (pa_cons (pe_fld (pv 0) rfl) (pa_cons (pe_fld (pv 0) rfl) (pa_cons (pe_fld (pv 0) rfl) (pa_cons (pe_fld (pv 0) rfl) (pa_cons (pe_fld (pv 0) rfl) pa_nil))))))))), ?_⟩
    obtain ⟨dx, r, g, n, o, hp, hr', hg', hn', ho'⟩ := id at_
    refine ⟨_, rfl, _, .ref C, _, _, true, rfl, .own C, at_.ty TC Tq, Tq.own, true, rfl, iteF ?_⟩
    refine ⟨_, rfl, x, C, dx, _, _, rfl, hp, TC.cl, TC.n1, cf_in, _, rfl, x, C, dx, _, _, rfl, hp, TC.cl, TC.n2, cf_re, _, rfl, x, C, dx, _, _, rfl, hp, TC.cl, TC.n3, cf_ga, _, rfl, x, C, dx, _, _, rfl, hp, TC.cl, TC.n4, cf_ne, _, rfl, x, C, dx, _, _, rfl, hp, TC.cl, TC.n5, cf_ou, ?_⟩
    refine ⟨(by show 5 ≤ sizeLine; decide), fun t nt => ?_⟩
    have s1 := same_upd nt (o := .tup [.int (c.m : Int), .ref r, .ref g, .ref n, .ref o])
    exact q t _ s1 ⟨r, g, n, o, upd_same, hr'.same s1, hg'.same s1, hn'.same s1, ho'.same s1⟩
theorem sc_lneed : FnScope ["_law_circuit", "_law_first", "_law_found", "_law_waiting", "_law_lap", "_law_signal"] ["_law_circuit"] (defScope (top 44)) := ⟨rfl, rfl, rfl, by decide +kernel, rfl, by decide +kernel, by decide +kernel⟩
theorem ok_lneed {f : Addr} {fd : FuncData} (F : Fun K "_law_needed" "_law_needed" (top 44) f fd) (T : Bv mg) : FnOk P w K mg base CX0 1 f fd ["_law_circuit"] spLNeed := by
  have sc := sc_lneed
  refine F.ok sc_lneed (fun vs H Q E h => ?_) (fun cdv A outer s H vs Q E hr h => ?_)
  · obtain ⟨x, c, rfl, _⟩ := h
    rfl
  · obtain ⟨a, c, rfl, at_, ok, hm, zo, q⟩ := h
    refine ⟨_, (pss_cons (ps_par3 (i := 1) (j := 2) (l := 3) (by rfl) sc.nd rfl rfl rfl (by decide) (by decide) (by decide) rfl rfl rfl (pa_cons (pe_op op_add (pe_ix ix_tup (pv 0) pe_int (fun _ _ => rfl)) (pe_callB call_len (by rfl) T.len (by decide +kernel) (pa_cons (pe_ix ix_tup (pv 0) pe_int (fun _ _ => rfl)) pa_nil))) (pa_cons (pe_lst pa_nil) (pa_cons (pe_callTy call_list_of (by rfl) T.list (by decide +kernel) (pa_cons (pe_ix ix_tup (pv 0) pe_int (fun _ _ => rfl)) pa_nil)) pa_nil))) (by rfl))
      (pss_cons (ps_for PassesOwn.never rfl (pi_range1 (by rfl) T.range (pa_cons pe_int pa_nil)) (pg_name (i := 4) sc.nd rfl (.inl rfl)) (pss_cons (ps_if (pt_cmpR (op_eqD hr.units) (pv 3) (pe_lst pa_nil) (nomark _)) (pss_one ps_break) pss_nil)
      (pss_cons (ps_set (i := 5) sc.nd rfl (.inl rfl) (pe_bm0 PySem.F.plainAttrs_list PySem.F.slot_list_pop PySem.F.type_list_pop mt_pop (pv 3)))
      (pss_one (ps_if (pt_cmpR op_notIn_seq (pv 5) (pv 2) (by rfl)) (pss_cons (ps_expr (pe_bm PySem.F.plainAttrs_list PySem.F.slot_list_append PySem.F.type_list_append mt_append (pv 2) (pa_cons (pv 5) pa_nil)))
      (pss_one (ps_if (pt_cmpR op_ge (pv 5) (pv 1) (nomark _)) (pss_one (ps_set (i := 3) sc.nd rfl (.inl rfl) (pe_op op_cat (pv 3) (pe_callTy call_list_of (by rfl) T.list (by decide +kernel) (pa_cons (pe_slice sl_tup (pe_ix ix_tup (pe_ix ix_tup (pv 0) pe_int (fun _ _ => rfl)) (pe_op op_sub (pv 5) (pv 1)) (fun _ _ => rfl)) (po_some pe_int) po_none) pa_nil))))) (pss_one (ps_if (pt_cmpR op_ge (pv 5) (pe_ix ix_tup (pv 0) pe_int (fun _ _ => rfl)) (nomark _)) (pss_one (ps_expr (pe_bm PySem.F.plainAttrs_list PySem.F.slot_list_append PySem.F.type_list_append mt_append (pv 3) (pa_cons (pe_ix ix_tup (pe_ix ix_tup (pv 0) pe_int (fun _ _ => rfl)) (pe_op op_sub (pv 5) (pe_ix ix_tup (pv 0) pe_int (fun _ _ => rfl))) (fun _ _ => rfl)) pa_nil)))) pss_nil))))) pss_nil)))))
      (pss_one (ps_ret (pe_callTy call_tuple_of (by rfl) T.tuple (by decide +kernel) (pa_cons (pe_callB cr_sorted (by rfl) T.sorted (by decide +kernel) (pa_cons (pv 2) pa_nil)) pa_nil)))))), ?_⟩
    obtain ⟨r, g, n, o, ha, hr', ⟨xg, hg, hgs⟩, ⟨xn, hn, hns⟩, ⟨xo, ho, hos⟩⟩ := id at_
    have exn := das_nat hns
    subst exn
    have exo := das_nat hos
    subst exo
    have ha : H a = some (.tup [.int (c.m : Int), .ref r, .ref g, .ref n, .ref o]) := ha
    have erl : c.cd.rs.length = c.rs.length := List.length_map ..
    have zl := TupD.length (K := K) hr'
    rw [erl] at zl
    refine ⟨_, rfl, a, _, 0, _, rfl, rfl, SqT.of ha, at_of (j := 0) rfl rfl, _, rfl, a, _, 1, _, rfl, rfl, SqT.of ha, at_of (j := 1) rfl rfl, _, c.rs.length, rfl, zl, _, _, rfl, rfl, ?_⟩
    refine ⟨(by show 0 ≤ sizeLine; decide), fun lf nf => ?_⟩
    have s1 := same_upd nf (o := .lst [])
    refine ⟨_, rfl, a, _, 4, _, rfl, rfl, SqT.of (s1 _ _ ha), at_of (j := 4) rfl rfl, o, _, rfl, .inr (SqT.of (s1 _ _ ho)), fun lw nw => ?_⟩
    have s2 := same_upd nw (o := .lst (c.os.map iv))
    have e1 := s2 _ _ (upd_same (H := H) (a := lf) (o := .lst []))
    have e2 : (upd (upd H lf (.lst [])) lw (.lst (c.os.map iv))) lw = _ := upd_same
    have nwf : lw ≠ lf := fun z => by rw [z, upd_same] at nw; cases nw
    have nw0 := s1.free nw
    refine ⟨_, _, _, rfl, ?_⟩
    refine at_sig (σ' := [some (.ref a), some (iv (c.m + c.rs.length)), some (.ref lf), some (.ref lw), none, none]) rfl ?_
    have fin : ∀ (D : Ends) (lw : Addr) (u4 u5 : Option V) (f : List Nat) (H' : Hp), D.rt = Q → Same H H' → H' lf = some (.lst (f.map iv)) → f = c.need 1000 [] c.os → f.length < 64 → (tRet (tCB (rTupC K) (tCons (tCB (rSorted K) (tCons (tVar 2) tNil)) tNil))) D [some (.ref a), some (iv (c.m + c.rs.length)), some (.ref lf), some (.ref lw), u4, u5] H' := by
      intro D lw u4 u5 f H' hD t ef ei z
      subst ei
      refine ⟨_, rfl, lf, (c.need 1000 [] c.os).map Int.ofNat, rfl, SqL.of (by rw [ef, List.map_map]; rfl), by rw [List.length_map]; exact z, fun ns l2 hp' hs' n2 => ?_⟩
      have s7 := same_upd n2 (o := .lst (ns.map V.int))
      refine ⟨l2, _, rfl, .inl ⟨SqL.of upd_same, fun l3 n3 => ?_⟩⟩
      rw [hD]
      rw [eq_sortI hp' hs'] at *
      exact q l3 _ (t.trans (s7.trans (same_upd n3))) upd_same
    refine ⟨1000, rfl, by decide, by decide, for_range (lo := 0) (n := 1000) (fun i σ H' => ∃ (lw : Addr) (f w : List Nat) (u4 u5 : Option V), σ = [some (.ref a), some (iv (c.m + c.rs.length)), some (.ref lf), some (.ref lw), u4, u5] ∧ Same H H' ∧ H lw = none ∧ lw ≠ lf ∧ H' lf = some (.lst (f.map iv)) ∧ H' lw = some (.lst (w.map iv)) ∧ NeedI c f w (1000 - i)) ⟨lw, [], c.os, none, none, rfl, s1.trans s2, nw0, nwf, e1, e2, .nil, (fun n hn => by cases hn), ok.os, (by show c.os.length + 2 * (c.many - 0) ≤ 1000; omega), Nat.le_refl _, rfl⟩ ?_ ?_⟩
    · rintro i σ H' hi ⟨lw, f, w, u4, u5, rfl, t, nw0, nwf, ef, ew, I⟩
      refine ⟨_, rfl, (by show 0 ≤ sizeLine; decide), fun le nle => ?_⟩
      have s3 := same_upd nle (o := .lst [])
      have ew3 := s3 _ _ ew
      have ef3 := s3 _ _ ef
      refine ⟨.list (w.map nd), .list [], Da.dp _ _ (.lst ew3 (das_of_nats w)), Da.dp _ _ (.lst upd_same .nil), shaped_nd w, shaped_nd [], _, rfl, ?_⟩
      have t3 := t.trans s3
      refine ite2 (fun e => ?_) (fun e => ?_)
      · have hw := eqv_nil.mp e
        have is := I.is
        rw [hw, need_end] at is
        have z := few I.nd I.fl
        exact fin _ lw _ u5 f _ rfl t3 ef3 is (by omega)
      · have hw : w ≠ [] := fun z => e (eqv_nil.mpr z)
        obtain ⟨n0, hn0⟩ : ∃ n, w.length = n + 1 := by
          cases w with
          | nil => exact absurd rfl hw
          | cons _ r => exact ⟨r.length, rfl⟩
        obtain ⟨sg, hs1, hs2⟩ := last_of hn0
        obtain ⟨k', hk', hsm, old, new⟩ := I.turn ok hs2 hw
        have hk : k' = 1000 - (i + 1) := by omega
        subst hk
        refine ⟨_, rfl, .inl ⟨rfl, _, SqL.of ew3⟩, lw, _, iv sg, rfl, rfl, ew3, ?_, ?_⟩
        · rw [List.length_map, List.getElem?_map, hs1]
          rfl
        rw [← List.map_dropLast]
        dsimp only
        have t4 := same_mut t3 nw0 (o := .lst (w.dropLast.map iv))
        have ew4 : (upd (upd H' le (.lst [])) lw (.lst (w.dropLast.map iv))) lw = some (.lst (w.dropLast.map iv)) := upd_same
        have ef4 : (upd (upd H' le (.lst [])) lw (.lst (w.dropLast.map iv))) lf = some (.lst (f.map iv)) := by rw [upd_ne (Ne.symm nwf)]; exact ef3
        generalize upd (upd H' le (.lst [])) lw (.lst (w.dropLast.map iv)) = H4 at *
        refine ⟨_, rfl, _, rfl, lf, f.map iv, rfl, .inl (SqL.of ef4), rfl, flat_nat f, _, rfl, ?_⟩
        rw [inV_nat]
        by_cases mem : sg ∈ f
        · rw [decide_eq_true mem]
          exact iteF ⟨lw, f, w.dropLast, _, _, rfl, t4, nw0, nwf, ef4, ew4, old mem⟩
        · rw [decide_eq_false mem]
          refine iteT ?_
          have NI := new mem
          have nfl := few NI.nd NI.fl
          rw [List.length_append] at nfl
          have nfl : f.length + 1 ≤ c.many := nfl
          have zle := NI.le
          rw [List.length_append] at zle
          refine ⟨_, rfl, .inl ⟨rfl, _, SqL.of ef4⟩, _, rfl, lf, _, _, rfl, rfl, ef4, by rw [List.length_map]; exact Nat.lt_of_lt_of_le (by omega : f.length < 1000) (by decide), ?_⟩
          have t5 := same_mut t4 nf (o := .lst (f.map iv ++ [iv sg]))
          have ef5 : (upd H4 lf (.lst (f.map iv ++ [iv sg]))) lf = some (.lst ((f ++ [sg]).map iv)) := by rw [upd_same, List.map_append]; rfl
          have ew5 : (upd H4 lf (.lst (f.map iv ++ [iv sg]))) lw = some (.lst (w.dropLast.map iv)) := by rw [upd_ne nwf]; exact ew4
          dsimp only
          generalize upd H4 lf (.lst (f.map iv ++ [iv sg])) = H5 at *
          have zw : w.dropLast.length + (c.names sg).length ≤ 1000 := by omega
          refine ⟨_, rfl, _, rfl, _, _, rfl, rfl, _, rfl, ?_⟩
          refine ite2 (fun e1 => ?_) (fun e1 => ?_)
          · have e1 := ge_dec.mp e1
            have hs2' : sg - (c.m + c.rs.length) < c.gs.length := by unfold Ci.many at hsm; omega
            have hgt := List.getElem?_eq_getElem hs2'
            obtain ⟨x, hx, dx2⟩ := hgs.at (i := sg - (c.m + c.rs.length)) (d := (c.gs[sg - (c.m + c.rs.length)]).enc) (by show (c.gs.map Gt.enc)[_]? = _; rw [List.getElem?_map, hgt]; rfl)
            obtain ⟨ga, y, ys, rfl, hga, ey⟩ := enc_tup (dx2.same t5)
            have en : c.names sg = (c.gs[sg - (c.m + c.rs.length)]).args := by
              unfold Ci.names
              rw [if_neg (by omega), if_neg (by omega), hgt]
            rw [← en] at ey
            refine ⟨_, rfl, _, rfl, a, _, 2, _, rfl, rfl, SqT.of (t5 _ _ ha), at_of (j := 2) rfl rfl, _, rfl, _, rfl, _, _, rfl, rfl, g, _, _, _, rfl, rfl, SqT.of (t5 _ _ hg), at_of (j := sg - (c.m + c.rs.length)) (by omega) hx, ?_⟩
            refine ⟨1, rfl, ga, _, rfl, SqT.of hga, tail_part y ys, fun t1 n1 => ?_⟩
            have u1 := same_upd n1 (o := .tup (cutV (y :: ys) (some 1) none))
            refine ⟨t1, _, rfl, .inr (SqT.of upd_same), fun l2 n2 => ?_⟩
            have u2 := same_upd n2 (o := .lst (cutV (y :: ys) (some 1) none))
            refine ⟨lw, l2, _, _, rfl, rfl, u2 _ _ (u1 _ _ ew5), upd_same, ?_, fun l3 n3 => ?_⟩
            · rw [cut1, ey, List.length_map, List.length_map]
              exact Nat.le_trans zw (by decide)
            · have u3 := same_upd n3 (o := .lst (w.dropLast.map iv ++ cutV (y :: ys) (some 1) none))
              have t6 := t5.trans (u1.trans (u2.trans u3))
              have ef6 := u3 _ _ (u2 _ _ (u1 _ _ ef5))
              refine ⟨l3, f ++ [sg], w.dropLast ++ c.names sg, _, _, rfl, t6, (t5.trans (u1.trans u2)).free n3, ne_of_none' n3 (u2 _ _ (u1 _ _ ef5)), ef6, ?_, NI⟩
              rw [upd_same, cut1, ey, List.map_append]
          · have e1 : ¬ c.m + c.rs.length ≤ sg := fun z => e1 (ge_dec.mpr z)
            refine ⟨_, rfl, _, rfl, a, _, 0, _, rfl, rfl, SqT.of (t5 _ _ ha), at_of (j := 0) rfl rfl, _, _, rfl, rfl, _, rfl, ?_⟩
            refine ite2 (fun e2 => ?_) (fun e2 => ?_)
            · have e2 := ge_dec.mp e2
              have z : sg - c.m < c.ns.length := by rw [ok.nl]; omega
              have en : c.names sg = [c.ns[sg - c.m]] := by
                unfold Ci.names
                rw [if_neg (by omega), if_pos (by omega), List.getD_eq_getElem?_getD, List.getElem?_eq_getElem z]
                rfl
              refine ⟨_, rfl, .inl ⟨rfl, _, SqL.of ew5⟩, _, rfl, a, _, 3, _, rfl, rfl, SqT.of (t5 _ _ ha), at_of (j := 3) rfl rfl, _, rfl, _, rfl, a, _, 0, _, rfl, rfl, SqT.of (t5 _ _ ha), at_of (j := 0) rfl rfl, _, _, rfl, rfl, n, _, _, _, rfl, rfl, SqT.of (t5 _ _ hn), at_of (j := sg - c.m) (by omega) (by rw [List.getElem?_map, List.getElem?_eq_getElem z]; rfl), ?_⟩
              refine ⟨lw, _, _, rfl, rfl, ew5, by rw [List.length_map]; exact Nat.lt_of_le_of_lt (by omega : w.dropLast.length ≤ 1000) (by decide), ?_⟩
              refine ⟨lw, f ++ [sg], w.dropLast ++ c.names sg, _, _, rfl, same_mut t5 nw0, nw0, nwf, by rw [upd_ne (Ne.symm nwf)]; exact ef5, ?_, NI⟩
              rw [upd_same, en, List.map_append]
              rfl
            · have e2 : ¬ c.m ≤ sg := fun z => e2 (ge_dec.mpr z)
              have en : c.names sg = [] := by
                unfold Ci.names
                rw [if_pos (by omega)]
              refine ⟨lw, f ++ [sg], w.dropLast ++ c.names sg, _, _, rfl, t5, nw0, nwf, ef5, ?_, NI⟩
              rw [en, List.append_nil]
              exact ew5
    · rintro σ H' ⟨lw, f, w, u4, u5, rfl, t, _, _, ef, ew, I⟩
      have le := I.le
      have hw : w = [] := by
        cases w with
        | nil => rfl
        | cons _ r =>
          have le : r.length + 1 + 2 * (c.many - f.length) ≤ 0 := le
          omega
      have is := I.is
      rw [hw, need_end] at is
      have z := few I.nd I.fl
      exact fin _ lw u4 u5 f H' rfl t ef is (by omega)
end
end Sb

set_option linter.all false
set_option maxRecDepth 100000
set_option maxHeartbeats 4000000
namespace Sb
open PySem PySem.Spec PyProof.Rows L2
structure Eqo (K : PySem.W.Frag) (mg : Str → Option Value) (P : Program) (w : World) (base : Heap) (C : Addr) (f : Addr) (fd : FuncData) : Prop where
  hs : PySem.W.findIn K (.ref C) "__eq__" = some (some (.ref f))
  hf : PySem.W.isFn K (.ref f) = true
  G : FnOk P w K mg base CX0 1 f fd ["self", "other"] (spEqC C)
  b : Binds K fd ["self", "other"] []
  own : PySem.W.notFirst K C (.ref C) = true
  tup : PySem.W.notFirst K C (.type "tuple") = true
theorem fine_bits : ∀ bs : List Bool, (bs.map bd).all (fine 2) = true
  | [] => rfl
  | b :: bs => fine_bits bs
theorem fine_nats : ∀ bs : List Nat, (bs.map nd).all (fine 2) = true
  | [] => rfl
  | b :: bs => fine_nats bs
theorem fine_gates : ∀ gs : List Gt, (gs.map Gt.enc).all (fine 2) = true
  | [] => rfl
  | g :: gs => by
    show (fine 2 g.enc && (gs.map Gt.enc).all (fine 2)) = true
    rw [fine_gates gs, Bool.and_true]
    cases g with
    | one => decide +kernel
    | not i => show (PyData.strOk "not" && true) = true; decide +kernel
    | two k i j => cases k <;> (show (PyData.strOk _ && true) = true; decide +kernel)
theorem Ci.fine (c : Ci) : c.cd.Fine := ⟨fine_bits _, fine_gates _, fine_nats _, fine_nats _⟩
theorem TupD.tp {H H' : Hp} {a : Addr} {ds : List PyData} (st : stills ds = true) (k : Tp H H') (h : TupD H a ds) : TupD H' a ds := by
  obtain ⟨xs, h, hs⟩ := h
  exact ⟨xs, k _ _ h, Das.tp k _ _ st hs⟩
theorem OwnAt.tp {H H' : Hp} {a : Addr} {c : Ci} (k : Tp H H') (h : OwnAt H a c.cd) : OwnAt H' a c.cd := by
  obtain ⟨r, g, n, o, ha, h1, h2, h3, h4⟩ := h
  exact ⟨r, g, n, o, k _ _ ha, h1.tp (stills_bits _) k, h2.tp (stills_gt _) k, h3.tp (stills_nd _) k, h4.tp (stills_nd _) k⟩
/-- another circuit -/
def Oth (cc : Ci) (H : Hp) (v : V) : Prop := ∃ a c', v = .ref a ∧ OwnAt H a (Ci.cd c') ∧ c'.Ok ∧ ¬ cc.cd = c'.cd
theorem Oth.kp {cc : Ci} {H H' : Hp} {v : V} (k : Kp H H') (h : Oth cc H v) : Oth cc H' v := by
  obtain ⟨a, c', e, h1, h2, h3⟩ := h
  exact ⟨a, c', e, h1.kp k, h2, h3⟩
theorem Oth.tp {cc : Ci} {H H' : Hp} {v : V} (k : Tp H H') (h : Oth cc H v) : Oth cc H' v := by
  obtain ⟨a, c', e, h1, h2, h3⟩ := h
  exact ⟨a, c', e, OwnAt.tp k h1, h2, h3⟩
def OthI (cc : Ci) (H : Hp) (l : Addr) (n : Nat) : Prop := ∃ ys, H l = some (.lst ys) ∧ ys.length ≤ n ∧ ∀ y ∈ ys, Oth cc H y
theorem OthI.push {cc : Ci} {H H3 : Hp} {l : Addr} {n : Nat} {v : V} {Q : VK} (hn : n ≤ 1000) (h : OthI cc H l n) (s : Same H H3) (hv : Oth cc H3 v) (q : ∀ ys : List V, OthI cc (upd H3 l (.lst ys)) l (n + 1) → Q .non (upd H3 l (.lst ys))) : rAppend (.ref l) [v] H3 Q := by
  obtain ⟨ys, e, z, hy⟩ := h
  have e3 := s _ _ e
  have tp : Tp H3 (upd H3 l (.lst (ys ++ [v]))) := Tp.lst e3
  refine ⟨l, ys, v, rfl, rfl, e3, Nat.lt_of_le_of_lt (by omega : ys.length ≤ 1000) (by decide), q _ ⟨_, upd_same, by rw [List.length_append]; show ys.length + 1 ≤ n + 1; omega, fun y hy2 => ?_⟩⟩
  rcases List.mem_append.mp hy2 with hy2 | hy2
  · exact Oth.tp tp (Oth.kp (Kp.of s) (hy y hy2))
  · cases hy2 with
    | head => exact Oth.tp tp hv
    | tail _ z => cases z
theorem CircAt.sb {H H' : Hp} {p c q C : Addr} {k : Nat} {cc : Cd} (g : Pen H p c k) (s : SameB p H H') (h : CircAt H q C cc) : CircAt H' q C cc := by
  have kp := g.kp s
  obtain ⟨_, _, _, _, _, hp, _⟩ := g
  obtain ⟨dx, r, gg, n, o, hq, h1, h2, h3, h4⟩ := h
  exact ⟨dx, r, gg, n, o, s _ _ hq (ne_of hq hp (by intro z; cases z)), h1.kp kp, h2.kp kp, h3.kp kp, h4.kp kp⟩
theorem TupD.bits {H : Hp} {a : Addr} {bs : List Bool} (h : TupD H a (bs.map bd)) : H a = some (.tup (bs.map bv)) := by
  obtain ⟨xs, h, hs⟩ := h
  rw [das_bits hs] at h
  exact h
theorem TupD.nats {H : Hp} {a : Addr} {ns : List Nat} (h : TupD H a (ns.map nd)) : H a = some (.tup (ns.map iv)) := by
  obtain ⟨xs, h, hs⟩ := h
  rw [das_nat hs] at h
  exact h
theorem lt_more {g : Gt} {n m : Nat} (h : g.lt n) (e : n ≤ m) : g.lt m := by
  cases g with
  | one => trivial
  | not i => exact Nat.lt_of_lt_of_le h e
  | two k i j => exact ⟨Nat.lt_of_lt_of_le h.1 e, Nat.lt_of_lt_of_le h.2 e⟩
def spLUnlike (C : Addr) : Sp := fun vs H Q _ => ∃ (p c a x : Addr) (k : Nat) (cc : Ci), vs = [.ref p, .ref a, .ref x] ∧ Pen H p c k ∧ k < 100000000 ∧ OwnAt H a cc.cd ∧ cc.Ok ∧ Small cc ∧ CircAt H x C cc.cd ∧
  ∀ (H' : Hp), SameB p H H' → Pen H' p c (k + 10) → Q (.bl true) H'
theorem npart {σ : L2.St} {H : Hp} {Q : Option Int → Hp → Prop} (h : Q none H) : tNoPart σ H Q := h
theorem make_at {C : Addr} {H : Hp} {c : Cd} {v2 v3 v4 v5 : V} {R : Hp → Prop} (ok : c.Ok) (h2 : RowV H v2 c.rs) (h3 : RowV H v3 c.gs) (h4 : RowV H v4 c.ns) (h5 : RowV H v5 c.os) {x dx : Addr} {E : XK} (nx : H x = none) (nd : H dx = none) (n : dx ≠ x)
    (q : ∀ H', Same H H' → CircAt H' x C c → R H') : spInit C (.ref x :: ([.int (c.m : Int), v2, v3, v4, v5] ++ [])) (upd (upd H dx (.own x)) x (.ins C dx [])) (fun v H2 => v = .non ∧ R H2) E := by
  have s1 : Same H (upd (upd H dx (.own x)) x (.ins C dx [])) := same_mut (same_upd nd) nx
  exact ⟨x, dx, v2, v3, v4, v5, c, rfl, upd_same, h2.same s1, h3.same s1, h4.same s1, h5.same s1, ok, fun H' hb at_ => ⟨rfl, q H' (fun b o e => hb b o (s1 b o e) (ne_of_none e nx)) at_⟩⟩
theorem gname {i : Nat} {v : V} {σ : L2.St} {H : Hp} {Q : L2.St → Hp → Prop} (h : Q (σ.set i (some v)) H) : gName i v σ H Q := h
theorem nil1 {σ : L2.St} {H : Hp} {Q : List V → Hp → Prop} (h : Q [] H) : tNil σ H Q := h
section
variable {P : Program} {w : World} {K : PySem.W.Frag} {mg : Str → Option Value} {base : Heap}
theorem sc_lunl : FnScope ["_law_pen_here", "_law_own", "_law_made", "_law_told", "_law_others", "_law_k", "_law_new", "_law_other"] ["_law_pen_here", "_law_own", "_law_made"] (defScope (top 45)) := ⟨rfl, rfl, rfl, by decide +kernel, rfl, by decide +kernel, by decide +kernel⟩
theorem ok_lunl {f a1 a2 a3 C : Addr} {fd e1 e2 e3 : FuncData} (F : Fun K "_law_unlike_right" "_law_unlike_right" (top 45) f fd) (T : Bv mg) (TC : Cc K C) (Tq : Cq K C) (F_law_draw : Fn K mg P w base CX0 "_law_draw" 1 a1 e1 ["_law_pen_here", "_law_many"] spDraw) (CM : Mkc K mg P w base C a2 e2) (EQ : Eqo K mg P w base C a3 e3) : FnOk P w K mg base CX0 7 f fd ["_law_pen_here", "_law_own", "_law_made"] (spLUnlike C) := by
  have sc := sc_lunl
  refine F.ok sc_lunl (fun vs H Q E h => ?_) (fun cdv A outer s H vs Q E hr h => ?_)
  · obtain ⟨p, c, a, x, k, cc, rfl, _⟩ := h
    rfl
  · obtain ⟨p, c, a, x, k, cc, rfl, g, hk, at_, ok, sm, ci, q⟩ := h
    have hu := hu_of hr
    refine ⟨_, (pss_cons (ps_set (i := 3) sc.nd rfl (.inl rfl) (pe_op op_add (pe_op op_add (pe_ix ix_tup (pv 1) pe_int (fun _ _ => rfl)) (pe_callB call_len (by rfl) T.len (by decide +kernel) (pa_cons (pe_ix ix_tup (pv 1) pe_int (fun _ _ => rfl)) pa_nil))) (pe_callB call_len (by rfl) T.len (by decide +kernel) (pa_cons (pe_ix ix_tup (pv 1) pe_int (fun _ _ => rfl)) pa_nil))))
      (pss_cons (ps_set (i := 4) sc.nd rfl (.inl rfl) (pe_lst (pa_cons (pe_op op_catA (pe_tup (pa_cons (pe_op op_add (pe_ix ix_tup (pv 1) pe_int (fun _ _ => rfl)) pe_int) pa_nil)) (pe_slice sl_tupA (pv 1) (po_some pe_int) po_none)) (pa_cons (pe_op op_catA (pe_op op_catA (pe_slice sl_tupA (pv 1) po_none (po_some pe_int)) (pe_tup (pa_cons (pe_op op_catA (pe_ix ix_tup (pv 1) pe_int (fun _ _ => rfl)) (pe_tup (pa_cons (pe_tup (pa_cons pe_str pa_nil)) pa_nil))) pa_nil))) (pe_slice sl_tupA (pv 1) (po_some pe_int) po_none)) pa_nil))))
      (C8.pss_cut (ps_if (pt_cmpR op_gt (pv 3) pe_int (nomark _)) (pss_one (ps_expr (pe_bm PySem.F.plainAttrs_list PySem.F.slot_list_append PySem.F.type_list_append mt_append (pv 4) (pa_cons (pe_op op_catA (pe_slice sl_tupA (pv 1) po_none (po_some pe_int)) (pe_tup (pa_cons (pe_op op_catA (pe_ix ix_tup (pv 1) pe_int (fun _ _ => rfl)) (pe_tup (pa_cons (pe_op op_sub (pv 3) pe_int) pa_nil))) pa_nil))) pa_nil)))) pss_nil)
      (C8.pss_cut (ps_if (pt_cmpR (op_neD hr.units) (pe_ix ix_tup (pv 1) pe_int (fun _ _ => rfl)) (pe_tup pa_nil) (nomark _)) (pss_cons (ps_set (i := 5) sc.nd rfl (.inl rfl) (pe_call F_law_draw.G (hr.mono (by decide)) (by rfl) F_law_draw.g F_law_draw.k F_law_draw.b .nil pass0 (pa_cons (pv 0) (pa_cons (pe_callB call_len (by rfl) T.len (by decide +kernel) (pa_cons (pe_ix ix_tup (pv 1) pe_int (fun _ _ => rfl)) pa_nil)) pa_nil))))
      (pss_cons (ps_expr (pe_bm PySem.F.plainAttrs_list PySem.F.slot_list_append PySem.F.type_list_append mt_append (pv 4) (pa_cons (pe_op op_catA (pe_tup (pa_cons (pe_ix ix_tup (pv 1) pe_int (fun _ _ => rfl)) (pa_cons (pe_op op_catA (pe_op op_catA (pe_slice sl_tupA (pe_ix ix_tup (pv 1) pe_int (fun _ _ => rfl)) po_none (po_some (pv 5))) (pe_tup (pa_cons (pe_op op_sub pe_int (pe_ix ix_tup (pe_ix ix_tup (pv 1) pe_int (fun _ _ => rfl)) (pv 5) (fun _ _ => rfl))) pa_nil))) (pe_slice sl_tupA (pe_ix ix_tup (pv 1) pe_int (fun _ _ => rfl)) (po_some (pe_op op_add (pv 5) pe_int)) po_none)) pa_nil))) (pe_slice sl_tupA (pv 1) (po_some pe_int) po_none)) pa_nil)))
      (pss_cons (ps_set (i := 6) sc.nd rfl (.inl rfl) (pe_op op_modN (pe_callTy call_int1 (by rfl) T.int (by decide +kernel) (pa_cons (pe_op op_add (pe_ix ix_tup (pe_ix ix_tup (pv 1) pe_int (fun _ _ => rfl)) (pv 5) (fun _ _ => rfl)) pe_int) pa_nil)) (pv 3)))
      (pss_one (ps_if (pt_cmpR op_ne (pv 6) (pe_ix ix_tup (pe_ix ix_tup (pv 1) pe_int (fun _ _ => rfl)) (pv 5) (fun _ _ => rfl)) (nomark _)) (pss_one (ps_expr (pe_bm PySem.F.plainAttrs_list PySem.F.slot_list_append PySem.F.type_list_append mt_append (pv 4) (pa_cons (pe_op op_catA (pe_op op_catA (pe_slice sl_tupA (pv 1) po_none (po_some pe_int)) (pe_tup (pa_cons (pe_op op_catA (pe_op op_catA (pe_slice sl_tupA (pe_ix ix_tup (pv 1) pe_int (fun _ _ => rfl)) po_none (po_some (pv 5))) (pe_tup (pa_cons (pv 6) pa_nil))) (pe_slice sl_tupA (pe_ix ix_tup (pv 1) pe_int (fun _ _ => rfl)) (po_some (pe_op op_add (pv 5) pe_int)) po_none)) pa_nil))) (pe_slice sl_tupA (pv 1) (po_some pe_int) po_none)) pa_nil)))) pss_nil))))) pss_nil)
      (pss_cons (ps_for PassesOwn.never rfl (pi_list (pv 4)) (pg_name (i := 7) sc.nd rfl (.inl rfl)) (pss_one (ps_if (pt_cmpR (op_ownE EQ.hs EQ.hf EQ.G EQ.b (hr.mono (by decide)) pass0) (pv 2) (pe_make CM.M CM.G (hr.mono (by decide)) (by rfl) CM.g CM.b .nil pass0 (pa_cons (pe_ix ix_tup (pv 7) pe_int (fun _ _ => rfl)) (pa_cons (pe_ix ix_tup (pv 7) pe_int (fun _ _ => rfl)) (pa_cons (pe_ix ix_tup (pv 7) pe_int (fun _ _ => rfl)) (pa_cons (pe_ix ix_tup (pv 7) pe_int (fun _ _ => rfl)) (pa_cons (pe_ix ix_tup (pv 7) pe_int (fun _ _ => rfl)) pa_nil)))))) (nomark _)) (pss_one (ps_ret pe_bl)) pss_nil)))
      (pss_one (ps_ret pe_bl))))))), ?_⟩
    obtain ⟨r, gg, n, o, ha, hr', hg', hn', ho'⟩ := id at_
    have ha : H a = some (.tup [.int (cc.m : Int), .ref r, .ref gg, .ref n, .ref o]) := ha
    have zr := TupD.length (K := K) hr'
    rw [show cc.cd.rs.length = cc.rs.length from List.length_map ..] at zr
    have zg := TupD.length (K := K) hg'
    rw [show cc.cd.gs.length = cc.gs.length from List.length_map ..] at zg
    refine ⟨_, rfl, a, _, 0, _, rfl, rfl, SqT.of ha, at_of (j := 0) rfl rfl, _, rfl, a, _, 1, _, rfl, rfl, SqT.of ha, at_of (j := 1) rfl rfl, _, cc.rs.length, rfl, zr, _, _, rfl, rfl, _, rfl, a, _, 2, _, rfl, rfl, SqT.of ha, at_of (j := 2) rfl rfl, _, cc.gs.length, rfl, zg, _, _, rfl, rfl, ?_⟩
    refine at_sig (σ' := [some (.ref p), some (.ref a), some (.ref x), some (iv cc.many), none, none, none, none]) rfl ?_
    -- one more input
    refine ⟨_, rfl, a, _, 0, _, rfl, rfl, SqT.of ha, at_of (j := 0) rfl rfl, _, _, rfl, rfl, (by show 1 ≤ sizeLine; decide), fun t1 n1 => ?_⟩
    have s1 := same_upd n1 (o := .tup [.int ((cc.m : Int) + 1)])
    refine ⟨_, rfl, 1, rfl, npart ?_⟩
    try dsimp only
    refine slA_of (K := K) (s1 _ _ ha) fun t2 H2 s2 e2 => ?_
    rw [show cutV _ (some 1) none = _ from cut_from (k := 1)] at e2
    try dsimp only
    refine catA_of (K := K) (s2 _ _ upd_same) e2 (by show 1 + 4 ≤ 100000; decide) fun t3 H3 s3 e3 => ?_
    have u3 := s1.trans (s2.trans s3)
    -- one more gate
    refine ⟨_, rfl, 2, rfl, ?_⟩
    try dsimp only
    refine slA_of (K := K) (u3 _ _ ha) fun t4 H4 s4 e4 => ?_
    rw [show cutV _ none (some 2) = _ from cut_to (k := 2)] at e4
    have u4 := u3.trans s4
    refine ⟨_, rfl, a, _, 2, _, rfl, rfl, SqT.of (u4 _ _ ha), at_of (j := 2) rfl rfl, (by show 1 ≤ sizeLine; decide), fun t5 n5 => ⟨(by show 1 ≤ sizeLine; decide), fun t6 n6 => ?_⟩⟩
    have s5 := same_upd n5 (o := .tup [.str "one"])
    have s6 := same_upd n6 (o := .tup [.ref t5])
    try dsimp only
    obtain ⟨xg, hg, hgs⟩ := id hg'
    have lgs := hgs.length
    rw [show cc.cd.gs.length = cc.gs.length from List.length_map ..] at lgs
    have smg := sm.g
    refine catA_of (K := K) (s6 _ _ (s5 _ _ (u4 _ _ hg))) upd_same (by show xg.length + 1 ≤ 100000; omega) fun t7 H7 s7 e7 => ?_
    refine ⟨(by show 1 ≤ sizeLine; decide), fun t8 n8 => ?_⟩
    have s8 := same_upd n8 (o := .tup [.ref t7])
    try dsimp only
    have v8 := s5.trans (s6.trans (s7.trans s8))
    refine catA_of (K := K) (v8 _ _ e4) upd_same (by show 2 + 1 ≤ 100000; decide) fun t9 H9 s9 e9 => ?_
    have u9 := u4.trans (v8.trans s9)
    refine ⟨_, rfl, 3, rfl, npart ?_⟩
    try dsimp only
    refine slA_of (K := K) (u9 _ _ ha) fun t10 H10 s10 e10 => ?_
    rw [show cutV _ (some 3) none = _ from cut_from (k := 3)] at e10
    try dsimp only
    refine catA_of (K := K) (s10 _ _ e9) e10 (by show 3 + 2 ≤ 100000; decide) fun t11 H11 s11 e11 => ?_
    refine ⟨(by show 2 ≤ sizeLine; decide), fun lo nlo => with_new nlo fun H12 s12 e12 => ?_⟩
    have v4 := s4.trans (v8.trans (s9.trans (s10.trans (s11.trans s12))))
    have uA : Same H H12 := u3.trans v4
    have o1 : Oth cc H12 (.ref t3) := by
      refine ⟨t3, ⟨cc.m + 1, cc.rs, cc.gs, cc.ns, cc.os⟩, rfl, ⟨r, gg, n, o, v4 _ _ e3, hr'.same uA, hg'.same uA, hn'.same uA, ho'.same uA⟩, ⟨fun i g h => lt_more (ok.gs i g h) (by show cc.m + cc.rs.length + i ≤ cc.m + 1 + cc.rs.length + i; omega), ok.nl, fun n h => Nat.lt_of_lt_of_le (ok.ns n h) (by show cc.m + cc.rs.length + cc.gs.length ≤ cc.m + 1 + cc.rs.length + cc.gs.length; omega), fun n h => Nat.lt_of_lt_of_le (ok.os n h) (by show cc.m + cc.rs.length + cc.gs.length ≤ cc.m + 1 + cc.rs.length + cc.gs.length; omega), by have := sm.m; show cc.m + 1 ≤ 1000; omega, ok.zr, ok.zg, ok.zo⟩, fun e => ?_⟩
      have e : cc.m = cc.m + 1 := congrArg Cd.m e
      omega
    have o2 : Oth cc H12 (.ref t11) := by
      refine ⟨t11, ⟨cc.m, cc.rs, cc.gs ++ [.one], cc.ns, cc.os⟩, rfl, ⟨r, t7, n, o, s12 _ _ e11, hr'.same uA, ⟨_, s12 _ _ (s11 _ _ (s10 _ _ (s9 _ _ (s8 _ _ e7)))), ?_⟩, hn'.same uA, ho'.same uA⟩, ⟨fun i g h => ?_, ok.nl, fun n h => Nat.lt_of_lt_of_le (ok.ns n h) (by show cc.m + cc.rs.length + cc.gs.length ≤ cc.m + cc.rs.length + (cc.gs ++ [Gt.one]).length; rw [List.length_append]; omega), fun n h => Nat.lt_of_lt_of_le (ok.os n h) (by show cc.m + cc.rs.length + cc.gs.length ≤ cc.m + cc.rs.length + (cc.gs ++ [Gt.one]).length; rw [List.length_append]; omega), ok.zm, ok.zr, by show (cc.gs ++ [Gt.one]).length ≤ 1000; rw [List.length_append]; show cc.gs.length + 1 ≤ 1000; omega, ok.zo⟩, fun e => ?_⟩
      · show Das H12 _ ((cc.gs ++ [Gt.one]).map Gt.enc)
        rw [List.map_append]
        refine (hgs.same uA).app (Das.one ?_)
        have w5 := s6.trans (s7.trans (s8.trans (s9.trans (s10.trans (s11.trans s12)))))
        exact .tup (w5 _ _ upd_same) (.cons (.str _) .nil)
      · by_cases c1 : i < cc.gs.length
        · have h : (cc.gs ++ [Gt.one])[i]? = some g := h
          rw [List.getElem?_append_left c1] at h
          exact ok.gs i g h
        · have h : (cc.gs ++ [Gt.one])[i]? = some g := h
          rw [List.getElem?_append_right (by omega)] at h
          have c2 : i - cc.gs.length = 0 := by
            cases q : i - cc.gs.length with
            | zero => rfl
            | succ m => rw [q] at h; cases h
          rw [c2] at h
          cases h
          trivial
      · have e : cc.gs.map Gt.enc = (cc.gs ++ [Gt.one]).map Gt.enc := congrArg Cd.gs e
        have e := congrArg List.length e
        rw [List.length_map, List.length_map, List.length_append] at e
        have e : cc.gs.length = cc.gs.length + 1 := e
        omega
    have nloH : H lo = none := by
      have z := u9.trans (s10.trans s11)
      exact z.free nlo
    have off := g.off nloH
    have I2 : OthI cc H12 lo 2 := ⟨_, e12, by show 2 ≤ 2; decide, fun y hy => by
      cases hy with
      | head => exact o1
      | tail _ hy => cases hy with
        | head => exact o2
        | tail _ z => cases z⟩
    have g12 := g.same uA
    clear o1 o2 e12
    refine at_sig (σ' := [some (.ref p), some (.ref a), some (.ref x), some (iv cc.many), some (.ref lo), none, none, none]) rfl ?_
    refine ⟨fun σ' Hm => σ' = [some (.ref p), some (.ref a), some (.ref x), some (iv cc.many), some (.ref lo), none, none, none] ∧ Same H Hm ∧ OthI cc Hm lo 3 ∧ Pen Hm p c k, ?_, ?_⟩
    · refine ⟨_, rfl, _, _, rfl, rfl, _, rfl, ?_⟩
      refine ite2 (fun e => ?_) (fun _ => ?_)
      · have hpos : 0 < cc.many := by
          have z : (0 : Int) < (cc.many : Int) := of_decide_eq_true e
          omega
        have ho2 := ho'.nats
        refine ⟨_, rfl, .inl ⟨rfl, _, SqL.of I2.choose_spec.1⟩, _, rfl, 4, rfl, ?_⟩
        try dsimp only
        refine slA_of (K := K) (uA _ _ ha) fun q4 G4 w4 f4 => ?_
        rw [show cutV _ none (some 4) = _ from cut_to (k := 4)] at f4
        have x4 := uA.trans w4
        refine ⟨_, rfl, a, _, 4, _, rfl, rfl, SqT.of (x4 _ _ ha), at_of (j := 4) rfl rfl, _, rfl, _, _, rfl, rfl, (by show 1 ≤ sizeLine; decide), fun q5 m5 => ?_⟩
        have w5 := same_upd m5 (o := .tup [.int ((cc.many : Int) - 1)])
        try dsimp only
        have smo := sm.o
        refine catA_of (K := K) (w5 _ _ (x4 _ _ ho2)) upd_same (by rw [List.length_map]; show cc.os.length + 1 ≤ 100000; omega) fun q6 G6 w6 f6 => ?_
        refine ⟨(by show 1 ≤ sizeLine; decide), fun q7 m7 => ?_⟩
        have w7 := same_upd m7 (o := .tup [.ref q6])
        try dsimp only
        refine catA_of (K := K) (w7 _ _ (w6 _ _ (w5 _ _ f4))) upd_same (by show 4 + 1 ≤ 100000; decide) fun q8 G8 w8 f8 => ?_
        have y8 := w4.trans (w5.trans (w6.trans (w7.trans w8)))
        have x8 := uA.trans y8
        have em : V.int ((cc.many : Int) - 1) = iv (cc.many - 1) := congrArg V.int (by omega)
        refine nil1 ?_
        try dsimp only
        refine I2.push (by decide) y8 ⟨q8, ⟨cc.m, cc.rs, cc.gs, cc.ns, cc.os ++ [cc.many - 1]⟩, rfl, ⟨r, gg, n, q6, f8, hr'.same x8, hg'.same x8, hn'.same x8, ⟨_, w8 _ _ (w7 _ _ f6), ?_⟩⟩, ⟨ok.gs, ok.nl, ok.ns, fun j hj => ?_, ok.zm, ok.zr, ok.zg, by show (cc.os ++ [cc.many - 1]).length ≤ 1000; rw [List.length_append]; show cc.os.length + 1 ≤ 1000; omega⟩, fun e => ?_⟩ fun zs I3 => ⟨rfl, same_mut x8 nloH, I3, (g.same x8).mut off.1 off.2⟩
        · rw [em, show cc.os.map iv ++ [iv (cc.many - 1)] = (cc.os ++ [cc.many - 1]).map iv by rw [List.map_append]; rfl]
          exact das_of_nats _
        · rcases List.mem_append.mp hj with hj | hj
          · exact ok.os j hj
          · cases hj with
            | head => show cc.many - 1 < cc.many; omega
            | tail _ z => cases z
        · have e : cc.os.map nd = (cc.os ++ [cc.many - 1]).map nd := congrArg Cd.os e
          have e := congrArg List.length e
          rw [List.length_map, List.length_map, List.length_append] at e
          have e : cc.os.length = cc.os.length + 1 := e
          omega
      · obtain ⟨ys, e, z, hy⟩ := I2
        exact ⟨rfl, uA, ⟨ys, e, by omega, hy⟩, g12⟩
    · rintro σ' Hm ⟨rfl, um, I3, gm⟩
      refine ⟨fun σ' Hm => ∃ u5 u6, σ' = [some (.ref p), some (.ref a), some (.ref x), some (iv cc.many), some (.ref lo), u5, u6, none] ∧ SameB p H Hm ∧ OthI cc Hm lo 5 ∧ Pen Hm p c (k + 1), ?_, ?_⟩
      · refine ⟨_, rfl, a, _, 1, _, rfl, rfl, SqT.of (um _ _ ha), at_of (j := 1) rfl rfl, (by show 0 ≤ sizeLine; decide), fun te nte => ?_⟩
        have se := same_upd nte (o := .tup [])
        have fe : (upd Hm te (.tup [])) te = some (.tup []) := upd_same
        try dsimp only
        have I3' : OthI cc (upd Hm te (.tup [])) lo 3 := by
          obtain ⟨ys, e, z, hy⟩ := I3
          exact ⟨ys, se _ _ e, z, fun y h => Oth.kp (Kp.of se) (hy y h)⟩
        have ue := um.trans se
        have ge := gm.same se
        generalize upd Hm te (.tup []) = He at *
        refine neD_of (n := 3) (b := decide (cc.rs = [])) (hr'.same ue).da (.tup fe .nil) (by decide) (tuple_fine (fine_bits cc.rs)) (by decide) ?_ ?_
        · rw [decide_eq_true_iff]
          refine ⟨fun z => ?_, fun z => ?_⟩
          · show PyData.tuple (cc.rs.map bd) = _
            rw [z]
            rfl
          · have z : cc.rs.map bd = [] := PyData.tuple.inj z
            exact List.map_eq_nil_iff.mp z
        refine ⟨_, rfl, ?_⟩
        refine ite2 (fun e => ?_) (fun _ => ?_)
        · have hne : cc.rs ≠ [] := fun z => by rw [decide_eq_true z] at e; cases e
          have hlen : 0 < cc.rs.length := List.length_pos_iff.mpr hne
          have smr := sm.r
          have zr2 : LenV K (.ref r) He cc.rs.length := by
            have z := TupD.length (K := K) (hr'.same ue)
            rw [show cc.cd.rs.length = cc.rs.length from List.length_map ..] at z
            exact z
          refine ⟨_, rfl, _, rfl, a, _, 1, _, rfl, rfl, SqT.of (ue _ _ ha), at_of (j := 1) rfl rfl, _, cc.rs.length, rfl, zr2, p, c, k, _, rfl, ge, by omega, by omega, by omega, fun d G1 h0 h1 g1 b1 => ?_⟩
          obtain ⟨j, rfl⟩ : ∃ j : Nat, d = (j : Int) := ⟨d.toNat, by omega⟩
          have hj : j < cc.rs.length := by omega
          have hjn : j < cc.ns.length := by rw [ok.nl]; exact hj
          have k1 : Kp H G1 := (Kp.of ue).trans (ge.kp (But.sb b1))
          have sb1 : SameB p H G1 := (SameB.of ue).trans (But.sb b1)
          have hr1 := (hr'.kp k1).bits
          have hn1 := (hn'.kp k1).nats
          have ha1 := k1.t _ _ ha
          have I1 : OthI cc G1 lo 3 := by
            obtain ⟨ys, e, z, hy⟩ := I3'
            exact ⟨ys, But.sb b1 _ _ e off.1, z, fun y h => Oth.kp (ge.kp (But.sb b1)) (hy y h)⟩
          have hbj : (cc.rs.map bv)[j]? = some (bv cc.rs[j]) := by rw [List.getElem?_map, List.getElem?_eq_getElem hj]; rfl
          have hnj : (cc.ns.map iv)[j]? = some (iv cc.ns[j]) := by rw [List.getElem?_map, List.getElem?_eq_getElem hjn]; rfl
          refine ⟨_, rfl, .inl ⟨rfl, _, SqL.of I1.choose_spec.1⟩, _, rfl, a, _, 0, _, rfl, rfl, SqT.of ha1, at_of (j := 0) rfl rfl, ?_⟩
          refine ⟨_, rfl, a, _, 1, _, rfl, rfl, SqT.of ha1, at_of (j := 1) rfl rfl, _, rfl, (j : Int), rfl, ?_⟩
          try dsimp only
          refine slA_of (K := K) hr1 fun q2 G2 w2 f2 => ?_
          rw [cut_to (k := j)] at f2
          refine ⟨_, rfl, a, _, 1, _, rfl, rfl, SqT.of (w2 _ _ ha1), at_of (j := 1) rfl rfl, _, rfl, r, _, _, _, rfl, rfl, SqT.of (w2 _ _ hr1), at_of (j := j) rfl hbj, _, _, rfl, rfl, (by show 1 ≤ sizeLine; decide), fun q3 m3 => ?_⟩
          have w3 := same_upd m3 (o := .tup [.int (1 - bi cc.rs[j])])
          try dsimp only
          refine catA_of (K := K) (w3 _ _ f2) upd_same (by rw [List.length_take, List.length_map]; show min j cc.rs.length + 1 ≤ 100000; omega) fun q4 G4 w4 f4 => ?_
          have x4 := w2.trans (w3.trans w4)
          refine ⟨_, rfl, a, _, 1, _, rfl, rfl, SqT.of (x4 _ _ ha1), at_of (j := 1) rfl rfl, _, rfl, _, _, rfl, rfl, _, rfl, npart ?_⟩
          try dsimp only
          refine slA_of (K := K) (x4 _ _ hr1) fun q5 G5 w5 f5 => ?_
          rw [show cutV _ (some ((j : Int) + 1)) none = _ from cut_from (k := j + 1)] at f5
          try dsimp only
          refine catA_of (K := K) (w5 _ _ f4) f5 (by rw [List.length_append, List.length_take, List.length_drop, List.length_map]; show min j cc.rs.length + 1 + (cc.rs.length - (j + 1)) ≤ 100000; omega) fun q6 G6 w6 f6 => ?_
          refine ⟨(by show 2 ≤ sizeLine; decide), fun q7 m7 => ?_⟩
          have w7 := same_upd m7 (o := .tup [.int (cc.m : Int), .ref q6])
          have x7 := x4.trans (w5.trans (w6.trans w7))
          refine ⟨_, rfl, 2, rfl, npart ?_⟩
          try dsimp only
          refine slA_of (K := K) (x7 _ _ ha1) fun q8 G8 w8 f8 => ?_
          rw [show cutV _ (some 2) none = _ from cut_from (k := 2)] at f8
          try dsimp only
          refine catA_of (K := K) (w8 _ _ upd_same) f8 (by show 2 + 3 ≤ 100000; decide) fun q9 G9 w9 f9 => ?_
          have x9 := x7.trans (w8.trans w9)
          have k9 := k1.trans (Kp.of x9)
          have erow : (cc.rs.map bv).take j ++ [V.int (1 - bi cc.rs[j])] ++ (cc.rs.map bv).drop (j + 1) = (cc.rs.take j ++ [!cc.rs[j]] ++ cc.rs.drop (j + 1)).map bv := by
            rw [List.map_append, List.map_append, List.map_take, List.map_drop]
            have e : V.int (1 - bi cc.rs[j]) = bv (!cc.rs[j]) := by cases cc.rs[j] <;> rfl
            rw [e]
            rfl
          have elen : (cc.rs.take j ++ [!cc.rs[j]] ++ cc.rs.drop (j + 1)).length = cc.rs.length := by
            rw [List.length_append, List.length_append, List.length_take, List.length_drop]
            show min j cc.rs.length + 1 + (cc.rs.length - (j + 1)) = cc.rs.length
            omega
          have f9 : G9 q9 = some (.tup [.int (cc.m : Int), .ref q6, .ref gg, .ref n, .ref o]) := f9
          refine nil1 ?_
          try dsimp only
          refine I1.push (by decide) x9 ⟨q9, ⟨cc.m, cc.rs.take j ++ [!cc.rs[j]] ++ cc.rs.drop (j + 1), cc.gs, cc.ns, cc.os⟩, rfl, ⟨q6, gg, n, o, f9, ⟨_, w9 _ _ (w8 _ _ (w7 _ _ f6)), ?_⟩, hg'.kp k9, hn'.kp k9, ho'.kp k9⟩, ⟨fun i g h => ?_, by rw [elen]; exact ok.nl, fun i h => ?_, fun i h => ?_, ok.zm, by rw [elen]; exact ok.zr, ok.zg, ok.zo⟩, fun e => ?_⟩ fun zs I4 => ?_
          · rw [erow]
            exact das_of_bits _
          · show g.lt (cc.m + (cc.rs.take j ++ [!cc.rs[j]] ++ cc.rs.drop (j + 1)).length + i)
            rw [elen]
            exact ok.gs i g h
          · show i < cc.m + (cc.rs.take j ++ [!cc.rs[j]] ++ cc.rs.drop (j + 1)).length + cc.gs.length
            rw [elen]
            exact ok.ns i h
          · show i < cc.m + (cc.rs.take j ++ [!cc.rs[j]] ++ cc.rs.drop (j + 1)).length + cc.gs.length
            rw [elen]
            exact ok.os i h
          · have e : cc.rs.map bd = (cc.rs.take j ++ [!cc.rs[j]] ++ cc.rs.drop (j + 1)).map bd := congrArg Cd.rs e
            have e := congrArg (fun l : List PyData => l[j]?) e
            simp only [List.getElem?_map, List.getElem?_eq_getElem hj] at e
            rw [List.append_assoc, List.getElem?_append_right (by rw [List.length_take]; omega), List.length_take, Nat.min_eq_left (by omega), Nat.sub_self] at e
            have e : some (bd cc.rs[j]) = some (bd (!cc.rs[j])) := e
            revert e
            cases cc.rs[j] <;> (intro e; cases e)
          · have elo : G9 lo = some (.lst I1.choose) := x9 _ _ I1.choose_spec.1
            have tpA : Tp H (upd G9 lo (.lst zs)) := fun b xs h => (Tp.lst elo) b xs (k9.t _ _ h)
            have sbA : SameB p H (upd G9 lo (.lst zs)) := (sb1.trans (SameB.of x9)).mut nloH
            have gA : Pen (upd G9 lo (.lst zs)) p c (k + 1) := (g1.same x9).mut off.1 off.2
            clear elo
            try dsimp only
            generalize upd G9 lo (.lst zs) = HA at *
            have haA := tpA _ _ ha
            have hnA := tpA _ _ hn'.nats
            have hmany : 0 < cc.many := by unfold Ci.many; omega
            have smany := sm.many
            refine ⟨_, rfl, a, _, 3, _, rfl, rfl, SqT.of haA, at_of (j := 3) rfl rfl, _, rfl, n, _, _, _, rfl, rfl, SqT.of hnA, at_of (j := j) rfl hnj, _, _, rfl, rfl, .inl ⟨_, rfl, ?_⟩⟩
            refine ⟨_, rfl, _, _, rfl, rfl, (by show (cc.many : Int) ≠ 0; omega), ?_⟩
            have v0 : 0 ≤ Int.fmod ((cc.ns[j] : Int) + 1) (cc.many : Int) := Int.fmod_nonneg_of_pos _ (by omega)
            have v1 : Int.fmod ((cc.ns[j] : Int) + 1) (cc.many : Int) < (cc.many : Int) := Int.fmod_lt_of_pos _ (by omega)
            obtain ⟨v, hv⟩ : ∃ v : Nat, Int.fmod ((cc.ns[j] : Int) + 1) (cc.many : Int) = (v : Int) := ⟨_, (Int.toNat_of_nonneg v0).symm⟩
            rw [hv] at v1
            try dsimp only
            rw [hv]
            refine gname ?_
            refine at_sig (σ' := [some (.ref p), some (.ref a), some (.ref x), some (iv cc.many), some (.ref lo), some (iv j), some (iv v), none]) rfl ?_
            refine ⟨_, rfl, _, rfl, a, _, 3, _, rfl, rfl, SqT.of haA, at_of (j := 3) rfl rfl, _, rfl, n, _, _, _, rfl, rfl, SqT.of hnA, at_of (j := j) rfl hnj, rfl, _, rfl, ?_⟩
            refine ite2 (fun en => ?_) (fun _ => ?_)
            · have en : v ≠ cc.ns[j] := fun z => by
                rw [z, decide_eq_true rfl] at en
                cases en
              refine ⟨_, rfl, .inl ⟨rfl, _, SqL.of I4.choose_spec.1⟩, _, rfl, 3, rfl, ?_⟩
              try dsimp only
              refine slA_of (K := K) haA fun z1 B1 y1 l1 => ?_
              rw [show cutV _ none (some 3) = _ from cut_to (k := 3)] at l1
              refine ⟨_, rfl, a, _, 3, _, rfl, rfl, SqT.of (y1 _ _ haA), at_of (j := 3) rfl rfl, _, rfl, (j : Int), rfl, ?_⟩
              try dsimp only
              refine slA_of (K := K) (y1 _ _ hnA) fun z2 B2 y2 l2 => ?_
              rw [cut_to (k := j)] at l2
              refine ⟨_, rfl, (by show 1 ≤ sizeLine; decide), fun z3 o3 => ?_⟩
              have y3 := same_upd o3 (o := .tup [iv v])
              try dsimp only
              refine catA_of (K := K) (y3 _ _ l2) upd_same (by rw [List.length_take, List.length_map]; show min j cc.ns.length + 1 ≤ 100000; omega) fun z4 B4 y4 l4 => ?_
              have r4 := y1.trans (y2.trans (y3.trans y4))
              refine ⟨_, rfl, a, _, 3, _, rfl, rfl, SqT.of (r4 _ _ haA), at_of (j := 3) rfl rfl, _, rfl, _, _, rfl, rfl, _, rfl, npart ?_⟩
              try dsimp only
              refine slA_of (K := K) (r4 _ _ hnA) fun z5 B5 y5 l5 => ?_
              rw [show cutV _ (some ((j : Int) + 1)) none = _ from cut_from (k := j + 1)] at l5
              try dsimp only
              have znl := ok.nl
              refine catA_of (K := K) (y5 _ _ l4) l5 (by rw [List.length_append, List.length_take, List.length_drop, List.length_map]; show min j cc.ns.length + 1 + (cc.ns.length - (j + 1)) ≤ 100000; omega) fun z6 B6 y6 l6 => ?_
              refine ⟨(by show 1 ≤ sizeLine; decide), fun z7 o7 => ?_⟩
              have y7 := same_upd o7 (o := .tup [.ref z6])
              have q7' := y2.trans (y3.trans (y4.trans (y5.trans (y6.trans y7))))
              try dsimp only
              refine catA_of (K := K) (q7' _ _ l1) upd_same (by show 3 + 1 ≤ 100000; decide) fun z8 B8 y8 l8 => ?_
              have r8 := y1.trans (q7'.trans y8)
              refine ⟨_, rfl, 4, rfl, npart ?_⟩
              try dsimp only
              refine slA_of (K := K) (r8 _ _ haA) fun z9 B9 y9 l9 => ?_
              rw [show cutV _ (some 4) none = _ from cut_from (k := 4)] at l9
              try dsimp only
              refine catA_of (K := K) (y9 _ _ l8) l9 (by show 4 + 1 ≤ 100000; decide) fun z10 B10 y10 l10 => ?_
              have r10 := r8.trans (y9.trans y10)
              have tpB : Tp H B10 := tpA.trans (Tp.of r10)
              have erow2 : (cc.ns.map iv).take j ++ [iv v] ++ (cc.ns.map iv).drop (j + 1) = (cc.ns.take j ++ [v] ++ cc.ns.drop (j + 1)).map iv := by
                rw [List.map_append, List.map_append, List.map_take, List.map_drop]
                rfl
              have elen2 : (cc.ns.take j ++ [v] ++ cc.ns.drop (j + 1)).length = cc.ns.length := by
                rw [List.length_append, List.length_append, List.length_take, List.length_drop]
                show min j cc.ns.length + 1 + (cc.ns.length - (j + 1)) = cc.ns.length
                omega
              have l10 : B10 z10 = some (.tup [.int (cc.m : Int), .ref r, .ref gg, .ref z6, .ref o]) := l10
              refine nil1 ?_
              try dsimp only
              refine I4.push (by decide) r10 ⟨z10, ⟨cc.m, cc.rs, cc.gs, cc.ns.take j ++ [v] ++ cc.ns.drop (j + 1), cc.os⟩, rfl, ⟨r, gg, z6, o, l10, hr'.tp (stills_bits _) tpB, hg'.tp (stills_gt _) tpB, ⟨_, y10 _ _ (y9 _ _ (y8 _ _ (y7 _ _ l6))), ?_⟩, ho'.tp (stills_nd _) tpB⟩, ⟨ok.gs, by rw [elen2]; exact ok.nl, fun i h => ?_, ok.os, ok.zm, ok.zr, ok.zg, ok.zo⟩, fun e => ?_⟩ fun zs I5 => ?_
              · rw [erow2]
                exact das_of_nats _
              · show i < cc.many
                rcases List.mem_append.mp h with h | h
                · rcases List.mem_append.mp h with h | h
                  · exact ok.ns i ((List.take_sublist _ _).subset h)
                  · cases h with
                    | head => omega
                    | tail _ z => cases z
                · exact ok.ns i ((List.drop_sublist _ _).subset h)
              · have e : cc.ns.map nd = (cc.ns.take j ++ [v] ++ cc.ns.drop (j + 1)).map nd := congrArg Cd.ns e
                have e := congrArg (fun l : List PyData => l[j]?) e
                simp only [List.getElem?_map, List.getElem?_eq_getElem hjn] at e
                rw [List.append_assoc, List.getElem?_append_right (by rw [List.length_take]; omega), List.length_take, Nat.min_eq_left (by omega), Nat.sub_self] at e
                have e : some (nd cc.ns[j]) = some (nd v) := e
                have e := PyData.int.inj (Option.some.inj e)
                exact en (by omega)
              · exact ⟨_, _, rfl, (sbA.trans (SameB.of r10)).mut nloH, I5, (gA.same r10).mut off.1 off.2⟩
            · obtain ⟨ys, e, z, hy⟩ := I4
              exact ⟨_, _, rfl, sbA, ⟨ys, e, by omega, hy⟩, gA⟩
        · obtain ⟨ys, e, z, hy⟩ := I3'
          exact ⟨none, none, rfl, SameB.of ue, ⟨ys, e, by omega, hy⟩, ge.more (by omega)⟩
      · rintro σ' H5 ⟨u5, u6, rfl, sb5, ⟨ys, el, zl, hy⟩, g5⟩
        have np : lo ≠ p := off.1
        refine ⟨_, rfl, lo, rfl, ⟨_, SqL.of el⟩, for_list (K := K) (a := lo) (xs := ys) (fun i σ H' => ∃ u7, σ = [some (.ref p), some (.ref a), some (.ref x), some (iv cc.many), some (.ref lo), u5, u6, u7] ∧ Same H5 H') ⟨none, rfl, Same.refl _⟩ ?_ ?_ ?_⟩
        · rintro i σ H' _ ⟨u7, rfl, t⟩
          exact SqL.of (t _ _ el)
        · rintro i y σ H' hi ⟨u7, rfl, t⟩
          obtain ⟨ao, c', rfl, ato, oko, ne⟩ := Oth.kp (Kp.of t) (hy y (List.mem_of_getElem? hi))
          obtain ⟨r', g', n', o', ha', h1, h2, h3, h4⟩ := id ato
          refine ⟨_, rfl, _, rfl, ao, _, 0, _, rfl, rfl, SqT.of ha', at_of (j := 0) rfl rfl, _, rfl, ao, _, 1, _, rfl, rfl, SqT.of ha', at_of (j := 1) rfl rfl, _, rfl, ao, _, 2, _, rfl, rfl, SqT.of ha', at_of (j := 2) rfl rfl, _, rfl, ao, _, 3, _, rfl, rfl, SqT.of ha', at_of (j := 3) rfl rfl, _, rfl, ao, _, 4, _, rfl, rfl, SqT.of ha', at_of (j := 4) rfl rfl, ?_⟩
          intro xx dxx nx nd' nn
          try dsimp only
          refine make_at (C := C) oko.cd h1.rowV h2.rowV h3.rowV h4.rowV nx nd' nn fun H6 s6 c6 => ?_
          have cix := ((ci.sb g sb5).same t).same s6
          obtain ⟨dx, _, _, _, _, hx, _⟩ := id cix
          refine ⟨x, dx, _, .ref C, rfl, hx, c6.ty TC Tq, EQ.own, x, .ref xx, cc.cd, rfl, cix, cc.fine, .inl ⟨xx, c'.cd, false, rfl, c6, c'.fine, ⟨fun z => (by cases z), fun z => absurd z ne⟩, false, rfl, iteF ?_⟩⟩
          exact ⟨_, rfl, t.trans s6⟩
        · rintro σ H' ⟨u7, rfl, t⟩
          exact q H' (sb5.trans (SameB.of t)) ((g5.same t).more (by omega))
end
end Sb

set_option linter.all false
set_option maxRecDepth 100000
set_option maxHeartbeats 4000000
namespace Sb
open PySem PySem.Spec PyProof.Rows L2
/-! ### repr of ints, texts and tuples of such -/
structure Fit (L : Nat) (d : PyData) : Prop where
  sh : d.showable = true
  hd : d.hasDict = false
  ln : d.shown.length ≤ L
theorem Fit.more {L M : Nat} {d : PyData} (h : Fit L d) (e : L ≤ M) : Fit M d := ⟨h.sh, h.hd, Nat.le_trans h.ln e⟩
theorem fit_all {L : Nat} : ∀ xs : List PyData, (∀ x ∈ xs, Fit L x) → PyData.showableAll xs = true ∧ PyData.hasDictAll xs = false ∧ ((PyData.shownAll xs).map (·.length)).sum ≤ L * xs.length ∧ (PyData.shownAll xs).length = xs.length
  | [], _ => ⟨by simp [PyData.showableAll], by simp [PyData.hasDictAll], by simp [PyData.shownAll], by simp [PyData.shownAll]⟩
  | x :: xs, h => by
    obtain ⟨h1, h2, h3, h4⟩ := fit_all xs fun y hy => h y (.tail _ hy)
    have hx := h x (.head _)
    refine ⟨by simp [PyData.showableAll, hx.sh, h1], by simp [PyData.hasDictAll, hx.hd, h2], ?_, by simp [PyData.shownAll, h4]⟩
    simp only [PyData.shownAll, List.map_cons, List.sum_cons, List.length_cons, Nat.mul_succ]
    have := hx.ln
    omega
theorem Fit.tup {L : Nat} {xs : List PyData} (h : ∀ x ∈ xs, Fit L x) : Fit (L * xs.length + 2 * xs.length + 3) (.tuple xs) := by
  obtain ⟨h1, h2, h3, h4⟩ := fit_all xs h
  refine ⟨by simp only [PyData.showable]; exact h1, by simp only [PyData.hasDict]; exact h2, ?_⟩
  simp only [PyData.shown]
  have z := tupleText_len_le (PyData.shownAll xs)
  rw [h4] at z
  omega
theorem fit_nat : ∀ n : Nat, n < 64 → Fit 2 (.int (n : Int)) := by
  intro n hn
  have h : ∀ m : Fin 64, (toString ((m.val : Nat) : Int) : Str).length ≤ 2 ∧ decide ((((m.val : Nat) : Int)).natAbs.log2 < 1920) = true := by decide +kernel
  have z := h ⟨n, hn⟩
  exact ⟨by simp only [PyData.showable]; exact z.2, by simp only [PyData.hasDict], by simp only [PyData.shown]; exact z.1⟩
theorem fit_str {x : Str} {L : Nat} (h : (reprText x).length ≤ L) : Fit L (.str x) := ⟨by simp only [PyData.showable], by simp only [PyData.hasDict], by simp only [PyData.shown]; exact h⟩
@[irreducible] def shw (d : PyData) : Str := d.shown
theorem shw_eq {d : PyData} : d.shown = shw d := by unfold shw; rfl
def rReprD : List V → Hp → VK → Prop := fun xs H Q => ∃ a d, xs = [V.ref a] ∧ Da H (.ref a) d ∧ fine 8 d = true ∧ Fit 100000 d ∧ Q (.str (shw d)) H
theorem call_reprD {X : Cx} (hg : X.A.guards = some []) (hu : X.A.units + 64 < cLine) : CallR X (.builtin "repr") rReprD := by
  intro pins s σ H xs us Q I r h
  obtain ⟨a, d, rfl, hd, hf, ft, q⟩ := h
  obtain ⟨u, rfl, ru⟩ := r.one
  cases (show u = Value.ref a from ru)
  obtain ⟨as, rd⟩ := Dp.reads I d (.ref a) (.ref a) hd.dp rfl
  have dep := (fine_lay 8 d hf).2
  exact repr_of_reads' rd ft.sh (fun z => by rw [ft.hd] at z; cases z) hg (by omega) (fun b o e => e) (fun h' u tk hk => ⟨.str (shw d), H, I.kept hk, ⟨u, by rw [shw_eq]⟩, q⟩) (Nat.le_trans ft.ln (by decide))
end Sb

set_option linter.all false
set_option maxRecDepth 100000
set_option maxHeartbeats 4000000
namespace Sb
open PySem PySem.Spec PyProof.Rows L2
def Ci.tup (c : Ci) : PyData := .tuple [nd c.m, .tuple (c.rs.map bd), .tuple (c.gs.map Gt.enc), .tuple (c.ns.map nd), .tuple (c.os.map nd)]
theorem OwnAt.da {H : Hp} {a : Addr} {c : Ci} (h : OwnAt H a c.cd) : Da H (.ref a) c.tup := by
  obtain ⟨r, g, n, o, ha, h1, h2, h3, h4⟩ := h
  exact .tup ha (.cons (.int _) (.cons h1.da (.cons h2.da (.cons h3.da (.cons h4.da .nil)))))
theorem fine_more : ∀ {n m : Nat} {d : PyData}, n ≤ m → fine n d = true → fine m d = true
  | n, m, .int i, _, _ => by cases m <;> rfl
  | n, m, .str x, _, h => by cases m <;> cases n <;> exact h
  | n + 1, m + 1, .tuple xs, e, h => by
    have h : xs.all (fine n) = true := h
    show xs.all (fine m) = true
    rw [List.all_eq_true] at h ⊢
    exact fun x hx => fine_more (Nat.le_of_succ_le_succ e) (h x hx)
  | n + 1, 0, .tuple xs, e, h => absurd e (by omega)
  | 0, m, .tuple xs, _, h => by cases h
  | 0, m, .none, _, h => by cases h
  | n + 1, m, .none, _, h => by cases h
  | 0, m, .bool _, _, h => by cases h
  | n + 1, m, .bool _, _, h => by cases h
  | 0, m, .list _, _, h => by cases h
  | n + 1, m, .list _, _, h => by cases h
  | 0, m, .dict _, _, h => by cases h
  | n + 1, m, .dict _, _, h => by cases h
theorem fine_tup_bits (bs : List Bool) : fine 3 (.tuple (bs.map bd)) = true := tuple_fine (fine_bits bs)
theorem fine_own (c : Ci) : fine 8 c.tup = true := by
  refine fine_more (n := 4) (by decide) ?_
  have h1 := tuple_fine (fine_bits c.rs)
  have h2 := tuple_fine (fine_gates c.gs)
  have h3 := tuple_fine (fine_nats c.ns)
  have h4 := tuple_fine (fine_nats c.os)
  show (fine 3 (nd c.m) && (fine 3 (.tuple (c.rs.map bd)) && (fine 3 (.tuple (c.gs.map Gt.enc)) && (fine 3 (.tuple (c.ns.map nd)) && (fine 3 (.tuple (c.os.map nd)) && true))))) = true
  rw [h1, h2, h3, h4]
  rfl
theorem fit_bit (b : Bool) : Fit 2 (bd b) := by
  cases b
  · exact fit_nat 0 (by decide)
  · exact fit_nat 1 (by decide)
theorem fit_bits {bs : List Bool} {n : Nat} (h : bs.length ≤ n) : Fit (4 * n + 3) (.tuple (bs.map bd)) := by
  have z := Fit.tup (L := 2) (xs := bs.map bd) fun x hx => by
    obtain ⟨b, _, rfl⟩ := List.mem_map.mp hx
    exact fit_bit b
  rw [List.length_map] at z
  exact z.more (by omega)
theorem fit_nats {ns : List Nat} {n : Nat} (h : ns.length ≤ n) (hl : ∀ m ∈ ns, m < 64) : Fit (4 * n + 3) (.tuple (ns.map nd)) := by
  have z := Fit.tup (L := 2) (xs := ns.map nd) fun x hx => by
    obtain ⟨b, hb, rfl⟩ := List.mem_map.mp hx
    exact fit_nat b (hl b hb)
  rw [List.length_map] at z
  exact z.more (by omega)
theorem fit_kd (k : Kd) : Fit 10 (.str k.nm) := fit_str (by cases k <;> decide +kernel)
theorem fit_gate {g : Gt} (h : g.lt 64) : Fit 40 g.enc := by
  cases g with
  | one =>
    refine (Fit.tup (L := 10) (xs := [.str "one"]) fun x hx => ?_).more (by decide)
    cases hx with
    | head => exact fit_str (by decide +kernel)
    | tail _ z => cases z
  | not i =>
    refine (Fit.tup (L := 10) (xs := [.str "not", .int i]) fun x hx => ?_).more (by show 10 * 2 + 2 * 2 + 3 ≤ 40; decide)
    cases hx with
    | head => exact fit_str (by decide +kernel)
    | tail _ hx => cases hx with
      | head => exact (fit_nat i h).more (by decide)
      | tail _ z => cases z
  | two k i j =>
    refine (Fit.tup (L := 10) (xs := [.str k.nm, .int i, .int j]) fun x hx => ?_).more (by show 10 * 3 + 2 * 3 + 3 ≤ 40; decide)
    cases hx with
    | head => exact fit_kd k
    | tail _ hx => cases hx with
      | head => exact (fit_nat i h.1).more (by decide)
      | tail _ hx => cases hx with
        | head => exact (fit_nat j h.2).more (by decide)
        | tail _ z => cases z
theorem fit_own {c : Ci} (ok : c.Ok) (sm : Small c) : Fit 100000 c.tup := by
  have hm := sm.many
  have h0 : Fit 1000 (nd c.m) := (fit_nat c.m (by have := sm.m; omega)).more (by decide)
  have h1 : Fit 1000 (.tuple (c.rs.map bd)) := (fit_bits sm.r).more (by decide)
  have h2 : Fit 1000 (.tuple (c.gs.map Gt.enc)) := by
    have z := Fit.tup (L := 40) (xs := c.gs.map Gt.enc) fun x hx => by
      obtain ⟨g, hg, rfl⟩ := List.mem_map.mp hx
      obtain ⟨i, hi⟩ := List.mem_iff_getElem?.mp hg
      have hil := (List.getElem?_eq_some_iff.mp hi).1
      exact fit_gate (lt_more (ok.gs i g hi) (by unfold Ci.many at hm; omega))
    rw [List.length_map] at z
    have := sm.g
    exact z.more (by omega)
  have h3 : Fit 1000 (.tuple (c.ns.map nd)) := (fit_nats (n := 4) (by rw [ok.nl]; exact sm.r) fun m h => by have := ok.ns m h; omega).more (by decide)
  have h4 : Fit 1000 (.tuple (c.os.map nd)) := (fit_nats (n := 4) sm.o fun m h => by have := ok.os m h; omega).more (by decide)
  refine (Fit.tup (L := 1000) (xs := [nd c.m, .tuple (c.rs.map bd), .tuple (c.gs.map Gt.enc), .tuple (c.ns.map nd), .tuple (c.os.map nd)]) fun x hx => ?_).more (by show 1000 * 5 + 2 * 5 + 3 ≤ 100000; decide)
  simp only [List.mem_cons, List.not_mem_nil, or_false] at hx
  rcases hx with rfl | rfl | rfl | rfl | rfl
  · exact h0
  · exact h1
  · exact h2
  · exact h3
  · exact h4
theorem fine_rows (os : List (List Bool)) : fine 8 (.tuple (os.map tbd)) = true := by
  refine fine_more (n := 4) (by decide) ?_
  show (os.map tbd).all (fine 3) = true
  rw [List.all_eq_true]
  intro x hx
  obtain ⟨b, _, rfl⟩ := List.mem_map.mp hx
  exact fine_tup_bits b
theorem fit_rows {os : List (List Bool)} (h : os.length ≤ 9) (hb : ∀ b ∈ os, b.length ≤ 4) : Fit 100000 (.tuple (os.map tbd)) := by
  have z := Fit.tup (L := 19) (xs := os.map tbd) fun x hx => by
    obtain ⟨b, hb2, rfl⟩ := List.mem_map.mp hx
    exact fit_bits (hb b hb2)
  rw [List.length_map] at z
  exact z.more (by omega)
def twoBits (v n : List Bool) : PyData := .tuple [.tuple (v.map bd), .tuple (n.map bd)]
theorem fine_two (v n : List Bool) : fine 8 (twoBits v n) = true := by
  refine fine_more (n := 4) (by decide) ?_
  show (fine 3 (.tuple (v.map bd)) && (fine 3 (.tuple (n.map bd)) && true)) = true
  rw [fine_tup_bits, fine_tup_bits]
  rfl
theorem fit_two {v n : List Bool} (hv : v.length ≤ 18) (hn : n.length ≤ 4) : Fit 100000 (twoBits v n) := by
  refine (Fit.tup (L := 75) (xs := [.tuple (v.map bd), .tuple (n.map bd)]) fun x hx => ?_).more (by show 75 * 2 + 2 * 2 + 3 ≤ 100000; decide)
  simp only [List.mem_cons, List.not_mem_nil, or_false] at hx
  rcases hx with rfl | rfl
  · exact fit_bits hv
  · exact (fit_bits hn).more (by decide)
theorem da_bits {H : Hp} {o : Addr} {bs : List Bool} (h : H o = some (.tup (bs.map bv))) : Da H (.ref o) (.tuple (bs.map bd)) := .tup h (das_of_bits _)
theorem play_small {c : Ci} (hz : c.os.length ≤ 4) : ∀ (rows : List (List Bool)) (z : List (List Bool) × List Bool), (∀ b ∈ z.1, b.length ≤ 4) → ∀ b ∈ (c.play z rows).1, b.length ≤ 4
  | [], z, h => h
  | bs :: rows, z, h => play_small hz rows (z.1 ++ [c.outs z.2 bs], c.nxt z.2 bs) fun b hb => by
    rcases List.mem_append.mp hb with hb | hb
    · exact h b hb
    · cases hb with
      | head =>
        show (pick _ c.os).length ≤ 4
        unfold pick
        rw [List.length_map]
        exact hz
      | tail _ z => cases z
theorem ne_false {x : Str} : (!decide (V.str x = V.str x)) = false := by simp
end Sb

set_option linter.all false
set_option maxRecDepth 100000
set_option maxHeartbeats 4000000
namespace Sb
open PySem PySem.Spec PyProof.Rows L2
/-! ### a law's def, called from outside: nothing is being shown there, so that its body may ask for repr -/
def LawOk (P : Program) (w : World) (K : PySem.W.Frag) (mg : Str → Option Value) (base : Heap) (f : Addr) (fd : FuncData) (x : Str) (sp : Sp) : Prop :=
  ∀ (s : Shared) (H : Hp) (u : Value) (v : V) (Q : VK), Env0 P w K mg base callerA [] s H → BindsTo s fd ⟨[u], []⟩ [(x, u)] → RelV v u → sp [v] H Q (fun _ _ _ => False) → codeAny (model P w) callerA (.call (.ref f) ⟨[u], []⟩) (CR CX0 [] P w H s Q fun _ _ _ => False) s
theorem law_body {P : Program} {w : World} {K : PySem.W.Frag} {mg : Str → Option Value} {base : Heap} {x qual y : Str} {st : Stmt} {f : Addr} {fd : FuncData} {N : List Str} {k : Nat} {sp : Sp} (F : Fun K y qual st f fd) (S : FnScope N [x] (defScope st)) (room : Room (k + 1) callerA)
    (bd : ∀ (cdv : Value) (A : Around) (s : Shared) (H : Hp) (v : V) (Q : VK), A.guards = some [] → Room k (A.deeper (envOfC qual (defScope st) s.heap.objs.size f cdv)) → (A.deeper (envOfC qual (defScope st) s.heap.objs.size f cdv)).guards = some [] → sp [v] H Q (fun _ _ _ => False) →
      ∃ t, PSs (cxOf CX0 P w K mg base N qual (defScope st) f cdv A [] s H fun _ _ _ => False).nox (defBody st) t ∧ t { nx := fun _ H' => Q .non H', rt := Q } (L2.start N [v]) H) : LawOk P w K mg base f fd x sp := by
  intro s H u v Q e0 bi rv pre
  obtain ⟨_, _, _, _, _, _, cdv, _, _, rfl, look, code⟩ := F.ex
  have inK : K.In s.heap := e0.mod.kin.keeps fun b o e => And.left (e0.bs b o e)
  have kinds : ∀ z ∈ [x].zip [u], (defScope st).names.lookup z.1 = some .local ∨ ((defScope st).names.lookup z.1 = some .cell ∧ ((cellsFrom (s.heap.objs.size + 1) (defScope st).names []).lookup z.1).isSome = true) := by
    rintro ⟨n, m⟩ hz
    exact (S.par n (List.of_mem_zip hz).1).imp id fun c => ⟨c, PySem.W.cellsFrom_some _ _ _ (Or.inl c)⟩
  refine codeAny_call_function room.depth (inK _ _ look) rfl S.co S.gen rfl (PySem.W.codeRec_of inK code) (bi _ _ _ _ (wpAny_newFunctionEnv_cells S.kind kinds ?_))
  rintro env rfl s1 born
  refine ⟨(e0.mod.nolimit.keeps fun b o e => And.left (e0.bs b o e)).keeps born.toInCall.keep, codeAny_func ?_⟩
  obtain ⟨t, run, post⟩ := bd cdv callerA s H v Q rfl (room.deeper _) rfl pre
  have I := (inv_start (CX := CX0) (E := fun _ _ _ => False) S room.hd e0 (vs := [v]) rfl (.cons rv .nil) born).wish (fun _ _ => False)
  have out : ∀ (z : V) (y : Value) (σ : L2.St) (H' : Hp) (s' : Shared), Inv (cxOf CX0 P w K mg base N qual (defScope st) f cdv callerA [] s H fun _ _ _ => False).nox [] σ H' s' → RelV z y → Q z H' → CE [] P w H s Q y s' := fun z y σ H' s' J r q => ⟨z, H', J.os, J.bare, J.base, J.hok, r, q⟩
  refine wpAny_mono (run.run [] s1 (L2.start N [v]) H _ I post) (fun fl s' e => ?_) fun _ _ e => False.elim e
  match fl, e with
  | .ret y, ⟨z, σ, H', J, r, q⟩ => exact out z y σ H' s' J r q
  | .next, ⟨σ, H', J, q⟩ => exact out .non .none σ H' s' J rfl q
  | .brk, ⟨_, _, _, q⟩ => exact q.elim
  | .cont, ⟨_, _, _, q⟩ => exact q.elim
/-- the script alone is known, where it is not an object of the text -/
def scr (K : PySem.W.Frag) (a : Addr) (vs : List Value) (ns : List Int) : Hp := fun b => if b = a ∧ K.lookup a = none then some (.frz { cls := .type "list", data := .seq vs.toArray } (.lst (ns.map V.int))) else none
theorem scr_no {K : PySem.W.Frag} {a b : Addr} {vs : List Value} {ns : List Int} (h : ¬ (b = a ∧ K.lookup a = none)) : scr K a vs ns b = none := if_neg h
theorem scr_at {K : PySem.W.Frag} {a : Addr} {vs : List Value} {ns : List Int} (h : K.lookup a = none) : scr K a vs ns a = some (.frz { cls := .type "list", data := .seq vs.toArray } (.lst (ns.map V.int))) := if_pos ⟨rfl, h⟩
theorem scr_is {K : PySem.W.Frag} {a b : Addr} {vs : List Value} {ns : List Int} {o : HO} (h : scr K a vs ns b = some o) : b = a ∧ K.lookup a = none ∧ o = .frz { cls := .type "list", data := .seq vs.toArray } (.lst (ns.map V.int)) := by
  by_cases c : b = a ∧ K.lookup a = none
  · exact ⟨c.1, c.2, Option.some.inj (h.symm.trans (if_pos c))⟩
  · rw [scr_no c] at h
    cases h
theorem law_at {P : Program} {w : World} {K : PySem.W.Frag} {mg mb : Str → Option Value} {fa a : Addr} {fd : FuncData} {x : Str} {sp : Sp} {s : Shared} {vs : List Value} {ns : List Int} (inK : K.In s.heap) (main : s.heap.Ns mainGlobals mg) (blt : s.heap.Ns builtinsNs mb) (boot : ∀ x : Str, x ≠ "__name__" → mb x = bootBuiltins x) (lim : s.heap.NoLimit) (gens : s.gens = #[])
    (obj : s.heap.get? a = some { cls := .type "list", data := .seq vs.toArray }) (allI : IntsAre vs ns) (small : ns.length ≤ sizeLine) (F : ∀ base : Heap, K.In base → base.Ns mainGlobals mg → LawOk P w K mg base fa fd x sp) (bi : ∀ (s : Shared) (u : Value), BindsTo s fd ⟨[u], []⟩ [(x, u)])
    (pre : ∀ H : Hp, Only H → SqL K H a (ns.map V.int) → sp [.ref a] H (fun v _ => v = .bl true) fun _ _ _ => False) : codeAny (model P w) callerA (.call (.ref fa) ⟨[.ref a], []⟩) (fun r s' => r = .ok (.ret (.bool true)) ∧ OldK s.heap s'.heap ∧ s'.os = s.os ∧ AllBare s'.gens) s := by
  have vals := vals_ints allI
  -- what is not the script stands in the hidden heap
  have hid : ∀ {b : Addr} {o : Obj}, s.heap.get? b = some o → ¬ (b = a ∧ K.lookup a = none) → (hidT s.heap (scr K a vs ns)).get? b = some o := fun e h => hidT_get e (scr_no h)
  have spaces : ∀ {b : Addr} {m : Str → Option Value}, s.heap.Ns b m → (hidT s.heap (scr K a vs ns)).Ns b m := by
    rintro b m ⟨o, es, ep, e, d, r⟩
    refine ⟨o, es, ep, hid e ?_, d, r⟩
    rintro ⟨rfl, _⟩
    rw [obj] at e
    cases e
    cases (show Data.seq vs.toArray _ = Data.dict es ep from d)
  have kept : K.In (hidT s.heap (scr K a vs ns)) := fun b o e => hid (inK b o e) (by rintro ⟨rfl, n⟩; rw [n] at e; cases e)
  have heapOk : HOk P w (scr K a vs ns) s.heap := by
    intro b u e
    obtain ⟨rfl, _, rfl⟩ := scr_is e
    exact ⟨obj, by rw [List.length_map]; exact small, vs, _, vals, obj⟩
  have sole : Only (scr K a vs ns) := fun b => by
    by_cases c : b = a ∧ K.lookup a = none
    · exact Or.inr ⟨_, _, if_pos c⟩
    · exact Or.inl (if_neg c)
  have seen : SqL K (scr K a vs ns) a (ns.map V.int) := by
    cases k : K.lookup a with
    | none => exact Or.inl (Or.inr ⟨_, scr_at k⟩)
    | some o =>
      have same := (inK a o k).symm.trans obj
      cases same
      exact Or.inr ⟨_, vs.toArray, _, k, rfl, rfl, rfl, by rw [List.size_toArray, allI.length]; exact small, by simpa using vals⟩
  have env : Env0 P w K mg (hidT s.heap (scr K a vs ns)) callerA [] s (scr K a vs ns) :=
    { frames := rfl, mod := ⟨kept, spaces main, ⟨mb, spaces blt, boot⟩, lim.elim fun mc h => ⟨mc, spaces h.1, h.2⟩⟩, bs := fun b o e => of_hidT e, bsz := Nat.le_of_eq (hidT_size _ _), funs := trivial, frf := fun b h => (nomatch (show b ∈ ([] : List Addr) from h)), hok := heapOk, bare := .of_eq gens }
  refine codeAny_mono (F _ kept (spaces main) s _ (.ref a) (.ref a) _ env (bi s (.ref a)) rfl (pre _ sole seen)) ?_
  intro r s' h
  match r, h with
  | .error _, h => exact False.elim h
  | .ok .next, h => exact False.elim h
  | .ok .brk, h => exact False.elim h
  | .ok .cont, h => exact False.elim h
  | .ok (.ret y), ⟨z, H', os, bare, un, ok', rel, q⟩ =>
    subst q
    cases rel
    refine ⟨rfl, OldK.of_keep fun b o e => ?_, os, bare⟩
    by_cases c : b = a ∧ K.lookup a = none
    · obtain ⟨rfl, n⟩ := c
      have old := (heapOk b _ (scr_at n)).1
      have new := (ok' b _ (un.frzs b _ _ (scr_at n))).1
      exact new.trans (old.symm.trans e)
    · exact un.keep b o e (scr_no c) (fun m => nomatch (show b ∈ ([] : List Addr) from m)) (fun m => nomatch m)
theorem walk_ofG {l : PySem.W.OpenLaw} {n : Nat} {q : Program} {loose : List Str} {XP : (Str → Option Value) → Heap → Prop} {YP : World → Heap → Prop} {d : DefRec} {K : Params → PySem.W.Frag} {sp : World → Sp} {x : Str} (most : l.most = some n) (small : n ≤ sizeLine) (none_ : d.params.defaults = []) (kept : ∀ (w : World) (h : Heap), YP w h → (K w.params).In h)
    (F : ∀ (w : World) (mg : Str → Option Value) (fa : Addr) (h : Heap), (K w.params).In h → h.Ns mainGlobals mg → mg d.name = some (.ref fa) → ∃ fd : FuncData, (∀ (s : Shared) (u : Value), BindsTo s fd ⟨[u], []⟩ [(x, u)]) ∧ ∀ base : Heap, (K w.params).In base → base.Ns mainGlobals mg → LawOk l.prog w (K w.params) mg base fa fd x (sp w))
    (pre : ∀ (w : World) (H : Hp) (a : Addr) (ns : List Int), ns.length ≤ n → Only H → SqL (K w.params) H a (ns.map V.int) → sp w [.ref a] H (fun v _ => v = .bl true) fun _ _ _ => False) : PySem.W.WalkO q loose XP YP l.row.toRowW d [] (fun f vs => PySem.call f vs) :=
  Att.attach_call most none_ fun w _ _ mg _ fa _ _ _ _ a _ ns G Y _ _ _ gl obj isI len gens => by
    obtain ⟨fd, bi, run⟩ := F w mg fa _ (kept w _ Y) G.T.g gl
    exact law_at (kept w _ Y) G.T.g G.T.b G.T.builtins G.T.nolimit gens obj isI (Nat.le_trans len small) run bi fun H o sq => pre w H a ns len o sq
end Sb

set_option linter.all false
set_option maxRecDepth 100000
set_option maxHeartbeats 4000000
namespace Sb
open PySem PySem.Spec PyProof.Rows L2
def lbd (bs : List Bool) : PyData := .list (bs.map bd)
theorem rowsV_tup {H : Hp} {a : Addr} {rows : List (List Bool)} (h : TupD H a (rows.map tbd)) : RowsV H (.ref a) rows := ⟨_, h.rowV, by rw [List.map_map]; rfl⟩
theorem rowsV_lst {H : Hp} {a : Addr} {rows : List (List Bool)} (h : Da H (.ref a) (.list (rows.map lbd))) : RowsV H (.ref a) rows := by
  cases h with
  | lst h hs => exact ⟨_, ⟨a, _, rfl, .inl h, hs⟩, by rw [List.map_map]; rfl⟩
theorem TupD.take {H H' : Hp} {a r : Addr} {ys : List V} {rows : List (List Bool)} {k : Nat} (e : H a = some (.tup ys)) (h : TupD H a (rows.map tbd)) (s : Same H H') (e2 : H' r = some (.tup (ys.take k))) : TupD H' r ((rows.take k).map tbd) := by
  obtain ⟨zs, hz, hs⟩ := h
  rw [e] at hz
  cases hz
  exact ⟨_, e2, by rw [List.map_take]; exact (hs.same s).take k⟩
theorem TupD.drop {H H' : Hp} {a r : Addr} {ys : List V} {rows : List (List Bool)} {k : Nat} (e : H a = some (.tup ys)) (h : TupD H a (rows.map tbd)) (s : Same H H') (e2 : H' r = some (.tup (ys.drop k))) : TupD H' r ((rows.drop k).map tbd) := by
  obtain ⟨zs, hz, hs⟩ := h
  rw [e] at hz
  cases hz
  exact ⟨_, e2, by rw [List.map_drop]; exact (hs.same s).drop k⟩
theorem play_cut {c : Ci} {st : List Bool} {rows : List (List Bool)} (k : Nat) : (c.play ([], st) rows).1 = (c.play ([], st) (rows.take k)).1 ++ (c.play ([], (c.play ([], st) (rows.take k)).2) (rows.drop k)).1 := by
  have e : c.play ([], st) rows = c.play (c.play ([], st) (rows.take k)) (rows.drop k) := by
    rw [← play_app, List.take_append_drop]
  rw [e, play_acc]
theorem lay_bits : ∀ bs : List Bool, PyData.canLayAll0 (bs.map bd) = true ∧ PyData.depthAll (bs.map bd) ≤ 0
  | [] => ⟨by simp [PyData.canLayAll0], by simp [PyData.depthAll]⟩
  | b :: bs => by
    have z := lay_bits bs
    refine ⟨?_, ?_⟩
    · show PyData.canLayAll0 (bd b :: bs.map bd) = true
      simp only [PyData.canLayAll0, bd, PyData.canLay0, z.1, Bool.and_self]
    · show PyData.depthAll (bd b :: bs.map bd) ≤ 0
      simp only [PyData.depthAll, bd, PyData.depth]
      have := z.2
      omega
theorem lay_rows : ∀ rows : List (List Bool), PyData.canLayAll0 (rows.map lbd) = true ∧ PyData.depthAll (rows.map lbd) ≤ 1
  | [] => ⟨by simp [PyData.canLayAll0], by simp [PyData.depthAll]⟩
  | b :: bs => by
    have z := lay_rows bs
    have y := lay_bits b
    refine ⟨?_, ?_⟩
    · show PyData.canLayAll0 (lbd b :: bs.map lbd) = true
      simp only [PyData.canLayAll0, lbd, PyData.canLay0, y.1, z.1, Bool.and_self]
    · show PyData.depthAll (lbd b :: bs.map lbd) ≤ 1
      simp only [PyData.depthAll, lbd, PyData.depth]
      have := z.2
      have := y.2
      omega
theorem shaped_rows (rows : List (List Bool)) : SeqAt.shaped (.list (rows.map lbd)) = true := by
  have z := lay_rows rows
  unfold SeqAt.shaped
  simp only [PyData.canLay0, z.1, PyData.depth, Bool.true_and]
  exact decide_eq_true (by omega)
theorem eqv_rows (rows : List (List Bool)) : PyData.eqv (.list (rows.map lbd)) (.list (rows.map lbd)) = true := PySem.SeqAt.eqv_refl _ (by
  have z := lay_rows rows
  simp only [PyData.canLay0, z.1])
theorem neD_rows {K : PySem.W.Frag} {H : Hp} {x y : V} {rows : List (List Bool)} {Q : VK} (hx : Da H x (.list (rows.map lbd))) (hy : Da H y (.list (rows.map lbd))) (q : Q (.bl false) H) : rNeD K x y H Q := by
  refine ⟨_, _, hx.dp, hy.dp, shaped_rows _, shaped_rows _, ?_⟩
  rw [eqv_rows]
  exact q
/-- [list(row) for row in rows] -/
theorem given_of {K : PySem.W.Frag} {H1 : Hp} {a : Addr} {rows : List (List Bool)} {tl te : TE} {j : Nat} {vs : List Nat} {σ : L2.St} {Q : VK}
    (htl : ∀ Q : VK, Q (.ref a) H1 → tl σ H1 Q) (ha : TupD H1 a (rows.map tbd)) (hz : rows.length ≤ 1000)
    (hw : ∀ x, wipe ((wipe σ vs).set j (some x)) vs = wipe σ vs)
    (hte : ∀ (b : Addr) (bs : List Bool) (H2 : Hp) (Q : VK), H2 b = some (.tup (bs.map bv)) → (∀ l, H2 l = none → Q (.ref l) (upd H2 l (.lst (bs.map bv)))) → te ((wipe σ vs).set j (some (.ref b))) H2 Q)
    (q : ∀ D H2, Same H1 H2 → Da H2 (.ref D) (.list (rows.map lbd)) → Q (.ref D) H2) : tLc (iTup K tl) (gName j) tYes te vs σ H1 Q := by
  obtain ⟨xs, ha, hs⟩ := ha
  have hxl : xs.length = rows.length := by rw [hs.length, List.length_map]
  refine htl _ ⟨a, rfl, ⟨xs, SqT.of ha⟩, fun D hD => lc_tup (K := K) (a := a) (xs := xs) (fun k H => Same H1 H ∧ ∃ ys, H D = some (.lst ys) ∧ ys.length = k ∧ ∀ (i : Nat) (y : V), ys[i]? = some y → ∃ (l : Addr) (bs : List Bool), y = .ref l ∧ l ≠ D ∧ rows[i]? = some bs ∧ H l = some (.lst (bs.map bv)))
    ⟨same_upd hD, [], upd_same, rfl, fun i y h => by cases h⟩ (fun k H2 _ hh => SqT.of (hh.1 _ _ ha)) (fun k x H2 hk hh => ?_) (fun H2 hh => ?_)⟩
  · obtain ⟨s2, ys, e2, el, hy⟩ := hh
    obtain ⟨d, hd, hx⟩ := hs.get hk
    obtain ⟨bs, hbs, rfl⟩ : ∃ bs, rows[k]? = some bs ∧ tbd bs = d := by
      rw [List.getElem?_map] at hd
      cases e : rows[k]? with
      | none => rw [e] at hd; cases hd
      | some y => rw [e] at hd; exact ⟨y, rfl, Option.some.inj hd⟩
    obtain ⟨b, zs, rfl, hb, hzs⟩ := hx.tup_inv
    rw [das_bits hzs] at hb
    refine ⟨hw _, ?_⟩
    show te ((wipe σ vs).set j (some (.ref b))) H2 _
    refine hte b bs H2 _ (s2 _ _ hb) fun l nl => ?_
    have sl := same_upd nl (o := .lst (bs.map bv))
    have hk2 := (List.getElem?_eq_some_iff.mp hbs).1
    refine ⟨ys, sl _ _ e2, Nat.lt_of_lt_of_le (by omega : ys.length < 10000) (by decide), same_mut (s2.trans sl) hD, ys ++ [.ref l], upd_same, by rw [List.length_append, el]; rfl, fun i y hi => ?_⟩
    by_cases c : i < ys.length
    · rw [List.getElem?_append_left c] at hi
      obtain ⟨l', bs', e1, n1, h1, h2⟩ := hy i y hi
      exact ⟨l', bs', e1, n1, h1, by rw [upd_ne n1]; exact sl _ _ h2⟩
    · rw [List.getElem?_append_right (by omega)] at hi
      have c2 : i - ys.length = 0 := by
        cases q : i - ys.length with
        | zero => rfl
        | succ m => rw [q] at hi; cases hi
      rw [c2] at hi
      cases hi
      have c3 : i = k := by omega
      have nD : l ≠ D := fun z => by rw [z, e2] at nl; cases nl
      exact ⟨l, bs, rfl, nD, by rw [c3]; exact hbs, by rw [upd_ne nD]; exact upd_same⟩
  · obtain ⟨s2, ys, e2, el, hy⟩ := hh
    refine q D H2 s2 (.lst e2 ?_)
    have gen : ∀ (rows : List (List Bool)) (ys : List V), ys.length = rows.length → (∀ (i : Nat) (y : V), ys[i]? = some y → ∃ (l : Addr) (bs : List Bool), y = .ref l ∧ l ≠ D ∧ rows[i]? = some bs ∧ H2 l = some (.lst (bs.map bv))) → Das H2 ys (rows.map lbd) := by
      intro rows
      induction rows with
      | nil =>
        intro ys hl _
        cases ys with
        | nil => exact .nil
        | cons _ _ => cases hl
      | cons r rows ih =>
        intro ys hl hy
        cases ys with
        | nil => cases hl
        | cons y ys =>
          obtain ⟨l, bs, e1, _, h1, h2⟩ := hy 0 y rfl
          cases h1
          subst e1
          exact .cons (.lst h2 (das_of_bits _)) (ih ys (by simpa using hl) fun i y hi => hy (i + 1) y (by simpa using hi))
    exact gen rows ys (by rw [el, hxl]) hy
end Sb

set_option linter.all false
set_option maxRecDepth 100000
set_option maxHeartbeats 4000000
namespace Sb
open PySem PySem.Spec PyProof.Rows L2
open PySem.W (sortI eq_sortI)
def spLaw (K : PySem.W.Frag) : Sp := fun vs H Q _ => ∃ (a : Addr) (ns : List Int), vs = [.ref a] ∧ SqL K H a (ns.map V.int) ∧ ns.length ≤ 63 ∧ ∀ H', Q (.bl true) H'
theorem fine_sorted (ns : List Int) : fine 8 (.tuple (ns.map PyData.int)) = true := by
  show (ns.map PyData.int).all (fine 7) = true
  rw [List.all_eq_true]
  intro x hx
  obtain ⟨b, _, rfl⟩ := List.mem_map.mp hx
  rfl
theorem das_ints {H : Hp} : ∀ ns : List Int, Das H (ns.map V.int) (ns.map PyData.int)
  | [] => .nil
  | n :: ns => .cons (.int _) (das_ints ns)
theorem asg_of {te : TE} {g : TG} {D : Ends} {σ : L2.St} {H : Hp} (h : te σ H fun x H1 => g x σ H1 D.nx) : tAsg te g D σ H := h
section
variable {P : Program} {w : World} {K : PySem.W.Frag} {mg : Str → Option Value} {base : Heap}
theorem sc_law : FnScope ["_law_script", "_law_pen_here", "_law_lap", "_law_own", "_law_made", "_law_states", "_law_rows", "_law_turn", "_law_state", "_law_bits", "_law_values", "_law_behind", "_law_told", "_law_lines", "_law_given", "_law_at", "_law_here", "_law_found", "_law_shown", "_law_half"] ["_law_script"] (defScope (top 46)) := ⟨rfl, rfl, rfl, by decide +kernel, rfl, by decide +kernel, by decide +kernel⟩
theorem ok_law {f C aq a0 a1 a2 a3 a4 a5 a6 a7 a8 a9 a10 a11 a12 a13 a14 a15 a16 a17 : Addr} {fd eq e0 e1 e2 e3 e4 e5 e6 e7 e8 e9 e10 e11 e12 e13 e14 e15 e16 e17 : FuncData} (F : Fun K "law" "law" (top 46) f fd) (T : Bv mg) (TC : Cc K C) (Tq : Cq K C) (EQ : Eqo K mg P w base C aq eq)
    (F_law_pen : Fn K mg P w base CX0 "_law_pen" 1 a0 e0 ["_law_script"] (spPen K))
    (F_law_draw : Fn K mg P w base CX0 "_law_draw" 1 a1 e1 ["_law_pen_here", "_law_many"] spDraw)
    (F_law_pick : Fn K mg P w base CX0 "_law_pick" 2 a2 e2 ["_law_pen_here", "_law_some"] (spPick K))
    (F_law_wide_circuit : Fn K mg P w base CX0 "_law_wide_circuit" 4 a3 e3 ["_law_pen_here", "_law_inputs", "_law_registers", "_law_gates"] spLWide)
    (F_law_made_circuit : Fn K mg P w base CX0 "_law_made_circuit" 7 a4 e4 ["_law_pen_here", "_law_circuit"] (spLMade C))
    (F_law_parts : Fn K mg P w base CX0 "_law_parts" 1 a5 e5 ["_law_circuit"] (spLParts C))
    (Fneeded : Fn K mg P w base CX0 "needed" 2 a6 e6 ["circuit"] (spNeeded C))
    (F_law_needed : Fn K mg P w base CX0 "_law_needed" 1 a7 e7 ["_law_circuit"] spLNeed)
    (F_law_unlike_right : Fn K mg P w base CX0 "_law_unlike_right" 7 a8 e8 ["_law_pen_here", "_law_own", "_law_made"] (spLUnlike C))
    (F_law_bit_rows : Fn K mg P w base CX0 "_law_bit_rows" 1 a9 e9 ["_law_many"] spBitAll)
    (F_law_circuit_cycle : Fn K mg P w base CX0 "_law_circuit_cycle" 2 a10 e10 ["_law_circuit", "_law_state", "_law_bits"] spLCycle)
    (Fcycle : Fn K mg P w base CX0 "cycle" 5 a11 e11 ["circuit", "state", "bits"] (spCycle C))
    (F_law_drawn_rows : Fn K mg P w base CX0 "_law_drawn_rows" 2 a12 e12 ["_law_pen_here", "_law_width", "_law_most"] spLRows)
    (Frun : Fn K mg P w base CX0 "run" 7 a13 e13 ["circuit", "rows"] (spRun C))
    (F_law_circuit_run : Fn K mg P w base CX0 "_law_circuit_run" 3 a14 e14 ["_law_circuit", "_law_rows"] spLRun)
    (F_law_outputs : Fn K mg P w base CX0 "_law_outputs" 3 a15 e15 ["_law_circuit", "_law_state", "_law_bits"] spLOut)
    (Frun_from : Fn K mg P w base CX0 "run_from" 6 a16 e16 ["circuit", "state", "rows"] (spRunFrom C))
    (Fstate_behind : Fn K mg P w base CX0 "state_behind" 6 a17 e17 ["circuit", "state", "rows"] (spBehind C)) : LawOk P w K mg base f fd "_law_script" (spLaw K) := by
  have sc := sc_law
  refine law_body (k := 7) F sc_law ⟨rfl, by decide, by decide⟩ fun cdv A s H v Q hgA hr hgd h => ?_
  obtain ⟨a, ns, ea, hS, hlen, q⟩ := h
  cases ea
  refine ⟨_, (pss_cons (ps_set (i := 1) sc.nd rfl (.inl rfl) (pe_call F_law_pen.G (hr.mono (by decide)) (by rfl) F_law_pen.g F_law_pen.k F_law_pen.b .nil pass0 (pa_cons (pv 0) pa_nil)))
      (pss_cons (ps_for PassesOwn.never rfl (pi_range1 (by rfl) T.range (pa_cons pe_int pa_nil)) (pg_name (i := 2) sc.nd rfl (.inl rfl)) (pss_cons (ps_set (i := 3) sc.nd rfl (.inl rfl) (pe_call F_law_wide_circuit.G (hr.mono (by decide)) (by rfl) F_law_wide_circuit.g F_law_wide_circuit.k F_law_wide_circuit.b .nil pass0 (pa_cons (pv 1) (pa_cons pe_int (pa_cons pe_int (pa_cons pe_int pa_nil))))))
      (pss_cons (ps_set (i := 4) sc.nd rfl (.inl rfl) (pe_call F_law_made_circuit.G (hr.mono (by decide)) (by rfl) F_law_made_circuit.g F_law_made_circuit.k F_law_made_circuit.b .nil pass0 (pa_cons (pv 1) (pa_cons (pv 3) pa_nil))))
      (pss_cons (ps_if (PW.pt (pw_or (pt_cmpR op_ne (pe_callB (call_reprD hgd hr.units) (by rfl) T.repr (by decide +kernel) (pa_cons (pe_call F_law_parts.G (hr.mono (by decide)) (by rfl) F_law_parts.g F_law_parts.k F_law_parts.b .nil pass0 (pa_cons (pv 4) pa_nil)) pa_nil)) (pe_callB (call_reprD hgd hr.units) (by rfl) T.repr (by decide +kernel) (pa_cons (pv 3) pa_nil)) (nomark _)) (pw_or (pt_not (pt_cmpR (op_ownE EQ.hs EQ.hf EQ.G EQ.b (hr.mono (by decide)) pass0) (pv 4) (pe_call F_law_made_circuit.G (hr.mono (by decide)) (by rfl) F_law_made_circuit.g F_law_made_circuit.k F_law_made_circuit.b .nil pass0 (pa_cons (pv 1) (pa_cons (pv 3) pa_nil))) (nomark _))) (pw_or1 (pt_cmpR (op_ownE EQ.hs EQ.hf EQ.G EQ.b (hr.mono (by decide)) pass0) (pv 4) (pv 3) (nomark _)))))) (pss_one (ps_ret pe_bl)) pss_nil)
      (pss_cons (ps_if (PW.pt (pw_or (pt_cmpR (op_neD hr.units) (pe_call Fneeded.G (hr.mono (by decide)) (by rfl) Fneeded.g Fneeded.k Fneeded.b .nil pass0 (pa_cons (pv 4) pa_nil)) (pe_call F_law_needed.G (hr.mono (by decide)) (by rfl) F_law_needed.g F_law_needed.k F_law_needed.b .nil pass0 (pa_cons (pv 3) pa_nil)) (nomark _)) (pw_or1 (pt_not (pt_val (pe_call F_law_unlike_right.G (hr.mono (by decide)) (by rfl) F_law_unlike_right.g F_law_unlike_right.k F_law_unlike_right.b .nil pass0 (pa_cons (pv 1) (pa_cons (pv 3) (pa_cons (pv 4) pa_nil))))))))) (pss_one (ps_ret pe_bl)) pss_nil)
      (pss_cons (ps_par (i := 5) (j := 6) (by rfl) sc.nd rfl rfl (by decide) rfl rfl (pa_cons (pe_call F_law_bit_rows.G (hr.mono (by decide)) (by rfl) F_law_bit_rows.g F_law_bit_rows.k F_law_bit_rows.b .nil pass0 (pa_cons (pe_callB call_len (by rfl) T.len (by decide +kernel) (pa_cons (pe_ix ix_tup (pv 3) pe_int (fun _ _ => rfl)) pa_nil)) pa_nil)) (pa_cons (pe_call F_law_bit_rows.G (hr.mono (by decide)) (by rfl) F_law_bit_rows.g F_law_bit_rows.k F_law_bit_rows.b .nil pass0 (pa_cons (pe_ix ix_tup (pv 3) pe_int (fun _ _ => rfl)) pa_nil)) pa_nil)) (by rfl))
      (pss_cons (ps_for PassesOwn.never rfl (pi_range1 (by rfl) T.range (pa_cons pe_int pa_nil)) (pg_name (i := 7) sc.nd rfl (.inl rfl)) (pss_cons (ps_par (i := 8) (j := 9) (by rfl) sc.nd rfl rfl (by decide) rfl rfl (pa_cons (pe_call F_law_pick.G (hr.mono (by decide)) (by rfl) F_law_pick.g F_law_pick.k F_law_pick.b .nil pass0 (pa_cons (pv 1) (pa_cons (pv 5) pa_nil))) (pa_cons (pe_call F_law_pick.G (hr.mono (by decide)) (by rfl) F_law_pick.g F_law_pick.k F_law_pick.b .nil pass0 (pa_cons (pv 1) (pa_cons (pv 6) pa_nil))) pa_nil)) (by rfl))
      (pss_cons (ps_asg (pe_call F_law_circuit_cycle.G (hr.mono (by decide)) (by rfl) F_law_circuit_cycle.g F_law_circuit_cycle.k F_law_circuit_cycle.b .nil pass0 (pa_cons (pv 3) (pa_cons (pv 8) (pa_cons (pv 9) pa_nil)))) (pg_tup (by rfl) (pgs_cons (pg_name (i := 10) sc.nd rfl (.inl rfl)) (pgs_cons (pg_name (i := 11) sc.nd rfl (.inl rfl)) pgs_nil))))
      (pss_cons (ps_set (i := 12) sc.nd rfl (.inl rfl) (pe_call Fcycle.G (hr.mono (by decide)) (by rfl) Fcycle.g Fcycle.k Fcycle.b .nil pass0 (pa_cons (pv 4) (pa_cons (pe_call F_law_pick.G (hr.mono (by decide)) (by rfl) F_law_pick.g F_law_pick.k F_law_pick.b .nil pass0 (pa_cons (pv 1) (pa_cons (pe_lst (pa_cons (pv 8) (pa_cons (pe_callTy call_list_of (by rfl) T.list (by decide +kernel) (pa_cons (pv 8) pa_nil)) pa_nil))) pa_nil))) (pa_cons (pe_call F_law_pick.G (hr.mono (by decide)) (by rfl) F_law_pick.g F_law_pick.k F_law_pick.b .nil pass0 (pa_cons (pv 1) (pa_cons (pe_lst (pa_cons (pv 9) (pa_cons (pe_callTy call_list_of (by rfl) T.list (by decide +kernel) (pa_cons (pv 9) pa_nil)) pa_nil))) pa_nil))) pa_nil)))))
      (pss_one (ps_if (pt_cmpR op_ne (pe_callB (call_reprD hgd hr.units) (by rfl) T.repr (by decide +kernel) (pa_cons (pv 12) pa_nil)) (pe_callB (call_reprD hgd hr.units) (by rfl) T.repr (by decide +kernel) (pa_cons (pe_tup (pa_cons (pe_callTy call_tuple_of (by rfl) T.tuple (by decide +kernel) (pa_cons (pv 10) pa_nil)) (pa_cons (pv 11) pa_nil))) pa_nil)) (nomark _)) (pss_one (ps_ret pe_bl)) pss_nil))))))
      (pss_cons (ps_set (i := 13) sc.nd rfl (.inl rfl) (pe_call F_law_drawn_rows.G (hr.mono (by decide)) (by rfl) F_law_drawn_rows.g F_law_drawn_rows.k F_law_drawn_rows.b .nil pass0 (pa_cons (pv 1) (pa_cons (pe_ix ix_tup (pv 3) pe_int (fun _ _ => rfl)) (pa_cons pe_int pa_nil)))))
      (pss_cons (ps_setLc (i := 14) (own := [("_law_bits", 9)]) (g := gName 9) (tt := tYes) rfl sc.nd rfl rfl (sw_true rfl rfl rfl (by decide +kernel)) (pi_tup (pv 13)) (blkOk_by (N := ["_law_script", "_law_pen_here", "_law_lap", "_law_own", "_law_made", "_law_states", "_law_rows", "_law_turn", "_law_state", "_law_bits", "_law_values", "_law_behind", "_law_told", "_law_lines", "_law_given", "_law_at", "_law_here", "_law_found", "_law_shown", "_law_half"]) (sc := defScope (top 46)) (by decide +kernel)) (fun _ _ _ _ _ => (pg_name (i := 9) sc.nd rfl (.inl rfl))) (fun _ _ _ _ _ => pts_nil) (fun _ _ _ _ _ => (pe_callTy (T := "list") (show CallR _ (.type "list") (rListC K) from call_list_of) (by rfl) T.list (by decide +kernel) (pa_cons (pv 9) pa_nil))))
      (pss_cons (ps_par (i := 15) (j := 8) (by rfl) sc.nd rfl rfl (by decide) rfl rfl (pa_cons (pe_call F_law_draw.G (hr.mono (by decide)) (by rfl) F_law_draw.g F_law_draw.k F_law_draw.b .nil pass0 (pa_cons (pv 1) (pa_cons (pe_op op_add (pe_callB call_len (by rfl) T.len (by decide +kernel) (pa_cons (pv 13) pa_nil)) pe_int) pa_nil))) (pa_cons (pe_call F_law_pick.G (hr.mono (by decide)) (by rfl) F_law_pick.g F_law_pick.k F_law_pick.b .nil pass0 (pa_cons (pv 1) (pa_cons (pv 5) pa_nil))) pa_nil)) (by rfl))
      (pss_cons (ps_if (PW.pt (pw_or (pt_cmpR op_ne (pe_callB (call_reprD hgd hr.units) (by rfl) T.repr (by decide +kernel) (pa_cons (pe_call Frun.G (hr.mono (by decide)) (by rfl) Frun.g Frun.k Frun.b .nil pass0 (pa_cons (pv 4) (pa_cons (pv 14) pa_nil))) pa_nil)) (pe_callB (call_reprD hgd hr.units) (by rfl) T.repr (by decide +kernel) (pa_cons (pe_call F_law_circuit_run.G (hr.mono (by decide)) (by rfl) F_law_circuit_run.g F_law_circuit_run.k F_law_circuit_run.b .nil pass0 (pa_cons (pv 3) (pa_cons (pv 13) pa_nil))) pa_nil)) (nomark _)) (pw_or1 (pt_cmpR (op_neD hr.units) (pv 14) (pe_lc (own := [("_law_bits", 9)]) (g := gName 9) (tt := tYes) rfl sc.nd (pi_tup (pv 13)) (blkOk_by (N := ["_law_script", "_law_pen_here", "_law_lap", "_law_own", "_law_made", "_law_states", "_law_rows", "_law_turn", "_law_state", "_law_bits", "_law_values", "_law_behind", "_law_told", "_law_lines", "_law_given", "_law_at", "_law_here", "_law_found", "_law_shown", "_law_half"]) (sc := defScope (top 46)) (by decide +kernel)) (fun _ _ _ _ _ => (pg_name (i := 9) sc.nd rfl (.inl rfl))) (fun _ _ _ _ _ => pts_nil) (fun _ _ _ _ _ => (pe_callTy (T := "list") (show CallR _ (.type "list") (rListC K) from call_list_of) (by rfl) T.list (by decide +kernel) (pa_cons (pv 9) pa_nil)))) (nomark _))))) (pss_one (ps_ret pe_bl)) pss_nil)
      (pss_cons (ps_par (i := 16) (j := 17) (by rfl) sc.nd rfl rfl (by decide) rfl rfl (pa_cons (pv 8) (pa_cons (pe_lst pa_nil) pa_nil)) (by rfl))
      (pss_cons (ps_for PassesOwn.never rfl (pi_tup (pv 13)) (pg_name (i := 9) sc.nd rfl (.inl rfl)) (pss_cons (ps_asg (pe_call F_law_outputs.G (hr.mono (by decide)) (by rfl) F_law_outputs.g F_law_outputs.k F_law_outputs.b .nil pass0 (pa_cons (pv 3) (pa_cons (pv 16) (pa_cons (pv 9) pa_nil)))) (pg_tup (by rfl) (pgs_cons (pg_name (i := 18) sc.nd rfl (.inl rfl)) (pgs_cons (pg_name (i := 16) sc.nd rfl (.inl rfl)) pgs_nil))))
      (pss_one (ps_expr (pe_bm PySem.F.plainAttrs_list PySem.F.slot_list_append PySem.F.type_list_append mt_append (pv 17) (pa_cons (pv 18) pa_nil))))))
      (pss_cons (ps_if (PW.pt (pw_or (pt_cmpR op_ne (pe_callB (call_reprD hgd hr.units) (by rfl) T.repr (by decide +kernel) (pa_cons (pe_call Frun_from.G (hr.mono (by decide)) (by rfl) Frun_from.g Frun_from.k Frun_from.b .nil pass0 (pa_cons (pv 4) (pa_cons (pv 8) (pa_cons (pv 13) pa_nil)))) pa_nil)) (pe_callB (call_reprD hgd hr.units) (by rfl) T.repr (by decide +kernel) (pa_cons (pe_callTy call_tuple_of (by rfl) T.tuple (by decide +kernel) (pa_cons (pv 17) pa_nil)) pa_nil)) (nomark _)) (pw_or1 (pt_cmpR (op_neD hr.units) (pe_call Fstate_behind.G (hr.mono (by decide)) (by rfl) Fstate_behind.g Fstate_behind.k Fstate_behind.b .nil pass0 (pa_cons (pv 4) (pa_cons (pv 8) (pa_cons (pv 13) pa_nil)))) (pv 16) (nomark _))))) (pss_one (ps_ret pe_bl)) pss_nil)
      (pss_cons (ps_set (i := 19) sc.nd rfl (.inl rfl) (pe_call Fstate_behind.G (hr.mono (by decide)) (by rfl) Fstate_behind.g Fstate_behind.k Fstate_behind.b .nil pass0 (pa_cons (pv 4) (pa_cons (pv 8) (pa_cons (pe_slice sl_tupA (pv 13) po_none (po_some (pv 15))) pa_nil)))))
      (pss_cons (ps_if (pt_cmpR (op_neD hr.units) (pe_op op_catA (pe_call Frun_from.G (hr.mono (by decide)) (by rfl) Frun_from.g Frun_from.k Frun_from.b .nil pass0 (pa_cons (pv 4) (pa_cons (pv 8) (pa_cons (pe_slice sl_tupA (pv 13) po_none (po_some (pv 15))) pa_nil)))) (pe_call Frun_from.G (hr.mono (by decide)) (by rfl) Frun_from.g Frun_from.k Frun_from.b .nil pass0 (pa_cons (pv 4) (pa_cons (pv 19) (pa_cons (pe_slice sl_tupA (pv 13) (po_some (pv 15)) po_none) pa_nil))))) (pe_callTy call_tuple_of (by rfl) T.tuple (by decide +kernel) (pa_cons (pv 17) pa_nil)) (nomark _)) (pss_one (ps_ret pe_bl)) pss_nil)
      (pss_one (ps_if (PW.pt (pw_or (pt_cmpR (op_neD hr.units) (pe_call Fstate_behind.G (hr.mono (by decide)) (by rfl) Fstate_behind.g Fstate_behind.k Fstate_behind.b .nil pass0 (pa_cons (pv 4) (pa_cons (pe_callTy call_list_of (by rfl) T.list (by decide +kernel) (pa_cons (pv 8) pa_nil)) (pa_cons (pe_tup pa_nil) pa_nil)))) (pv 8) (nomark _)) (pw_or1 (pt_cmpR (op_neD hr.units) (pe_call Frun.G (hr.mono (by decide)) (by rfl) Frun.g Frun.k Frun.b .nil pass0 (pa_cons (pv 4) (pa_cons (pe_tup pa_nil) pa_nil))) (pe_tup pa_nil) (nomark _))))) (pss_one (ps_ret pe_bl)) pss_nil))))))))))))))))))
      (pss_one (ps_ret pe_bl)))), ?_⟩
  refine ⟨_, rfl, a, ns, rfl, hS, hlen, fun p c H1 np nc s1 g1 => ?_⟩
  refine ⟨3, rfl, by decide, by decide, for_range (lo := 0) (n := 3) (fun i σ H' => ∃ u2 u3 u4 u5 u6 u7 u8 u9 u10 u11 u12 u13 u14 u15 u16 u17 u18 u19, σ = [some (.ref a), some (.ref p), u2, u3, u4, u5, u6, u7, u8, u9, u10, u11, u12, u13, u14, u15, u16, u17, u18, u19] ∧ Pen H' p c (i * 1000)) ⟨none, none, none, none, none, none, none, none, none, none, none, none, none, none, none, none, none, none, rfl, g1⟩ ?_ ?_⟩
  · rintro i σ H0 hi ⟨u2, u3, u4, u5, u6', u7, u8, u9', u10, u11, u12, u13, u14, u15, u16, u17, u18, u19, rfl, g0⟩
    refine ⟨_, rfl, p, c, _, rfl, g0, by omega, fun own cc H1 sb1 g1 ao1 ok sm => ?_⟩
    refine ⟨_, rfl, _, rfl, p, c, own, _, cc, rfl, g1, by omega, ao1, ok, fun x H2 sb2 g2 ci2 => ?_⟩
    refine at_sig (σ' := [some (.ref a), some (.ref p), some (.int (0 + (i : Int))), some (.ref own), some (.ref x), u5, u6', u7, u8, u9', u10, u11, u12, u13, u14, u15, u16, u17, u18, u19]) rfl ?_
    have ao2 := ao1.kp (g1.kp sb2)
    -- the parts, shown
    refine ⟨_, rfl, x, cc.cd, rfl, ci2, fun t3 H3 s3 at3 => ?_⟩
    refine ⟨t3, cc.tup, rfl, at3.da, fine_own cc, fit_own ok sm, ?_⟩
    refine ⟨_, rfl, own, cc.tup, rfl, (ao2.same s3).da, fine_own cc, fit_own ok sm, rfl, _, rfl, ?_⟩
    refine ite2 (fun z => absurd z (by simp)) (fun _ => ?_)
    -- == to another made so
    refine ⟨_, rfl, _, rfl, _, rfl, p, c, own, _, cc, rfl, g2.same s3, by omega, ao2.same s3, ok, fun y H4 sb4 g4 ci4 => ?_⟩
    have g3 := g2.same s3
    have cx4 := (ci2.same s3).sb g3 sb4
    obtain ⟨dx, _, _, _, _, hx, _⟩ := id cx4
    refine ⟨x, dx, _, .ref C, rfl, hx, ci4.ty TC Tq, EQ.own, x, .ref y, cc.cd, rfl, cx4, cc.fine, .inl ⟨y, cc.cd, true, rfl, ci4, cc.fine, ⟨fun _ => rfl, fun _ => rfl⟩, _, rfl, ?_⟩⟩
    refine ite2 (fun z => absurd z (by decide)) (fun _ => ?_)
    have k4 := g3.kp sb4
    have ao4 := (ao2.same s3).kp k4
    obtain ⟨r4, gg4, n4, o4, hown, _⟩ := id ao4
    refine ⟨_, rfl, _, rfl, x, dx, _, .type "tuple", rfl, hx, .base (.tup hown), EQ.tup, x, .ref own, cc.cd, rfl, cx4, cc.fine, .inr ⟨own, _, rfl, hown, _, rfl, ?_⟩⟩
    refine ite2 (fun z => absurd z (by decide)) (fun _ => ?_)
    -- what is needed
    have smany := sm.many
    have smo := sm.o
    refine ⟨_, rfl, x, cc, rfl, cx4, ok, by omega, by omega, fun t5 H5 s5 e5 => ?_⟩
    refine ⟨_, rfl, own, cc, rfl, ao4.same s5, ok, by omega, by omega, fun t6 H6 s6 e6 => ?_⟩
    refine neD_of (n := 8) (b := true) (.tup (s6 _ _ e5) (das_ints _)) (.tup e6 (das_ints _)) (by decide) (fine_sorted _) (fine_sorted _) ⟨fun _ => rfl, fun _ => rfl⟩ ?_
    refine ⟨_, rfl, ?_⟩
    refine ite2 (fun z => absurd z (by decide)) (fun _ => ?_)
    have u6 := s5.trans s6
    have g6 := g4.same u6
    have ao6 := ao4.same u6
    have cx6 := cx4.same u6
    refine ⟨_, rfl, _, rfl, _, rfl, p, c, own, x, _, cc, rfl, g6, by omega, ao6, ok, sm, cx6, fun H7 sb7 g7 => ⟨_, rfl, ?_⟩⟩
    refine ite2 (fun z => absurd z (by decide)) (fun _ => ?_)
    have ao7 := ao6.kp (g6.kp sb7)
    have cx7 := cx6.sb g6 sb7
    -- all states and all rows
    obtain ⟨r7, gg7, n7, o7, hown7, hr7, _⟩ := id ao7
    have zr7 : LenV K (.ref r7) H7 cc.rs.length := by
      have z := TupD.length (K := K) hr7
      rw [show cc.cd.rs.length = cc.rs.length from List.length_map ..] at z
      exact z
    refine ⟨_, rfl, own, _, 1, _, rfl, rfl, SqT.of hown7, at_of (j := 1) rfl rfl, _, cc.rs.length, rfl, zr7, cc.rs.length, rfl, sm.r, fun ls xss H8 s8 e8 z8 zz8 b8 => ?_⟩
    refine ⟨_, rfl, own, _, 0, _, rfl, rfl, SqT.of (s8 _ _ hown7), at_of (j := 0) rfl rfl, cc.m, rfl, sm.m, fun lr xsr H9 s9 e9 z9 zz9 b9 => ⟨_, _, rfl, ?_⟩⟩
    have u9 := s8.trans s9
    have g9 := g7.same u9
    have ao9 := ao7.same u9
    have cx9 := cx7.same u9
    have els9 := s9 _ _ e8
    have b8' := fun x hx => (b8 x hx).same s9
    have np : ∀ {l : Addr} {xs : List V}, H9 l = some (.lst xs) → l ≠ p := fun {l xs} e => by
      obtain ⟨_, _, _, _, _, hp, _⟩ := g9
      exact ne_of e hp (by intro z; cases z)
    refine at_sig (σ' := [some (.ref a), some (.ref p), some (.int (0 + (i : Int))), some (.ref own), some (.ref x), some (.ref ls), some (.ref lr), u7, u8, u9', u10, u11, u12, u13, u14, u15, u16, u17, u18, u19]) rfl ?_
    refine ⟨12, rfl, by decide, by decide, for_range (lo := 0) (n := 12) (fun j σ H' => ∃ u7 u8 u9 u10 u11 u12, σ = [some (.ref a), some (.ref p), some (.int (0 + (i : Int))), some (.ref own), some (.ref x), some (.ref ls), some (.ref lr), u7, u8, u9, u10, u11, u12, u13, u14, u15, u16, u17, u18, u19] ∧ SameB p H9 H' ∧ Pen H' p c (i * 1000 + 200 + 10 + 10 + 10 + j * 4)) ⟨u7, u8, u9', u10, u11, u12, rfl, SameB.refl, g9⟩ ?_ ?_⟩
    · rintro j σ H10 hj ⟨v7, v8, v9, v10, v11, v12, rfl, sb10, g10⟩
      have els10 := sb10 _ _ els9 (np els9)
      have elr10 := sb10 _ _ e9 (np e9)
      refine ⟨_, rfl, _, rfl, p, c, ls, _, xss, rfl, g10, by omega, SqL.of els10, z8, by omega, fun is vs H11 hst g11 b11 => ?_⟩
      have sb11 := But.sb b11
      refine ⟨_, rfl, _, rfl, p, c, lr, _, xsr, rfl, g11, by omega, SqL.of (sb11 _ _ elr10 (np e9)), z9, by omega, fun ib vb H12 hbt g12 b12 => ⟨_, _, rfl, ?_⟩⟩
      have sb12 : SameB p H9 H12 := (sb10.trans sb11).trans (But.sb b12)
      have k12 := g9.kp sb12
      obtain ⟨ra, st, rfl, est, lst⟩ := (b8' _ (List.mem_of_getElem? hst)).kp k12
      obtain ⟨rb, bt, rfl, ebt, lbt⟩ := (b9 _ (List.mem_of_getElem? hbt)).kp k12
      have vst : RowV H12 (.ref ra) (st.map bd) := ⟨ra, _, rfl, .inr est, das_of_bits _⟩
      have vbt : RowV H12 (.ref rb) (bt.map bd) := ⟨rb, _, rfl, .inr ebt, das_of_bits _⟩
      have ao12 := ao9.kp k12
      have cx12 := cx9.sb g9 sb12
      refine ⟨_, rfl, _, rfl, _, rfl, own, .ref ra, .ref rb, cc, st, bt, rfl, ⟨ao12, ok, vst, vbt, lst, lbt⟩, fun t l n H13 nl s13 et el en => ?_⟩
      refine ⟨t, _, rfl, SqT.of et, rfl, .ref l, _, rfl, .ref n, _, rfl, rfl, ?_⟩
      have g13 := g12.same s13
      refine ⟨_, rfl, _, rfl, _, rfl, _, rfl, ra, _, rfl, .inr (SqT.of (s13 _ _ est)), fun l1 n1 => ?_⟩
      have w1 := same_upd n1 (o := .lst (st.map bv))
      refine ⟨(by show 2 ≤ sizeLine; decide), fun l2 n2 => ?_⟩
      have w2 := same_upd n2 (o := .lst [.ref ra, .ref l1])
      refine ⟨p, c, l2, _, [.ref ra, .ref l1], rfl, (g13.same w1).same w2, by omega, SqL.of upd_same, (by show 0 < 2; decide), (by show 2 < 1000000; decide), fun i1 va H14 hva g14 b14 => ?_⟩
      have nl1 : l1 ≠ p := (g13.off n1).1
      have va14 : RowV H14 va (st.map bd) := by
        match i1, hva with
        | 0, hva => cases hva; exact ((vst.same s13).same (w1.trans w2)).kp (((g13.same w1).same w2).kp (But.sb b14))
        | 1, hva => cases hva; exact ⟨l1, _, rfl, .inl (But.sb b14 _ _ (w2 _ _ upd_same) nl1), das_of_bits _⟩
        | i1 + 2, hva => cases hva
      have sb14 : SameB p H12 H14 := (SameB.of (s13.trans (w1.trans w2))).trans (But.sb b14)
      have k14 := g12.kp sb14
      refine ⟨_, rfl, _, rfl, _, rfl, rb, _, rfl, .inr (SqT.of (k14.t _ _ ebt)), fun l3 n3 => ?_⟩
      have w3 := same_upd n3 (o := .lst (bt.map bv))
      refine ⟨(by show 2 ≤ sizeLine; decide), fun l4 n4 => ?_⟩
      have w4 := same_upd n4 (o := .lst [.ref rb, .ref l3])
      refine ⟨p, c, l4, _, [.ref rb, .ref l3], rfl, (g14.same w3).same w4, by omega, SqL.of upd_same, (by show 0 < 2; decide), (by show 2 < 1000000; decide), fun i2 vc H15 hvc g15 b15 => ?_⟩
      have nl3 : l3 ≠ p := (g14.off n3).1
      have sb15 : SameB p H14 H15 := (SameB.of (w3.trans w4)).trans (But.sb b15)
      have k15 := g14.kp sb15
      have vc15 : RowV H15 vc (bt.map bd) := by
        match i2, hvc with
        | 0, hvc => cases hvc; exact (vbt.kp k14).kp k15
        | 1, hvc => cases hvc; exact ⟨l3, _, rfl, .inl (But.sb b15 _ _ (w4 _ _ upd_same) nl3), das_of_bits _⟩
        | i2 + 2, hvc => cases hvc
      have cx15 := (cx12.sb g12 sb14).sb g14 sb15
      refine ⟨x, va, vc, cc, st, bt, rfl, ⟨cx15, ok, va14.kp k15, vc15, lst, lbt⟩, fun t' o' n' H16 s16 et' eo' en' => ?_⟩
      have hvl := vals_len lst lbt
      have hnl : (cc.nxt st bt).length ≤ 4 := by rw [nxt_len, ok.nl]; exact sm.r
      refine ⟨_, rfl, t', twoBits (cc.vals st bt) (cc.nxt st bt), rfl, .tup et' (.cons (da_bits eo') (.cons (da_bits en') .nil)), fine_two _ _, fit_two (by rw [hvl]; exact smany) hnl, ?_⟩
      have npl : l ≠ p := fun z => by
        obtain ⟨_, _, _, _, _, hp, _⟩ := g12
        rw [z, hp] at nl
        cases nl
      have el16 := s16 _ _ (sb15 _ _ ((((SameB.of (w1.trans w2)).trans (But.sb b14)) _ _ el npl)) npl)
      have en16 := s16 _ _ (k15.t _ _ ((g13.kp ((SameB.of (w1.trans w2)).trans (But.sb b14))).t _ _ en))
      refine ⟨_, rfl, l, _, rfl, .inl ⟨SqL.of el16, fun r2 m2 => ?_⟩⟩
      have w5 := same_upd m2 (o := .tup ((cc.vals st bt).map bv))
      refine ⟨_, rfl, (by show 2 ≤ sizeLine; decide), fun t2 m3 => ?_⟩
      have w6 := same_upd m3 (o := .tup [.ref r2, .ref n])
      refine ⟨t2, twoBits (cc.vals st bt) (cc.nxt st bt), rfl, .tup upd_same (.cons (da_bits (w6 _ _ upd_same)) (.cons (da_bits (w6 _ _ (w5 _ _ en16))) .nil)), fine_two _ _, fit_two (by rw [hvl]; exact smany) hnl, rfl, _, rfl, ?_⟩
      refine ite2 (fun z => absurd z (by simp)) (fun _ => ?_)
      refine ⟨_, _, _, _, _, _, rfl, ((sb12.trans sb14).trans sb15).trans (SameB.of (s16.trans (w5.trans w6))), (g15.same (s16.trans (w5.trans w6))).more (by omega)⟩
    · rintro σ H10 ⟨v7, v8, v9, v10, v11, v12, rfl, sb10, g10⟩
      have k10 := g9.kp sb10
      have ao10 := ao9.kp k10
      have cx10 := cx9.sb g9 sb10
      have els10 := sb10 _ _ els9 (np els9)
      have b10 := fun y hy => (b8' y hy).kp k10
      clear sb10 k10 np els9 e9 b9 b8' b8 ao9 cx9 g9
      obtain ⟨r7, gg7, n7, o7, hown7, hr7, _⟩ := id ao10
      have npl : ls ≠ p := by
        obtain ⟨_, _, _, _, _, hp, _⟩ := g10
        exact ne_of els10 hp (by intro z; cases z)
      refine ⟨_, rfl, _, rfl, own, _, 0, _, rfl, rfl, SqT.of hown7, at_of (j := 0) rfl rfl, p, c, _, cc.m, 9, rfl, g10, by omega, sm.m, by decide, fun ln rows H11 sb11 g11 dl hb hz => ?_⟩
      have k11 := g10.kp sb11
      have ao11 := ao10.kp k11
      have cx11 := cx10.sb g10 sb11
      have els11 := sb11 _ _ els10 npl
      have b11 := fun y hy => (b10 y hy).kp k11
      clear hown7 hr7 b10 els10 ao10 cx10 k11 sb11
      try dsimp only
      refine gname ?_
      try dsimp only
      refine at_sig (σ' := [some (.ref a), some (.ref p), some (.int (0 + (i : Int))), some (.ref own), some (.ref x), some (.ref ls), some (.ref lr), v7, v8, v9, v10, v11, v12, some (.ref ln), u14, u15, u16, u17, u18, u19]) rfl ?_
      refine asg_of ?_
      refine given_of (K := K) (a := ln) (rows := rows) (fun Q q => ⟨_, rfl, q⟩) dl (by omega) (fun _ => rfl) (fun b bs H2 Q hb' q => ⟨_, rfl, b, _, rfl, .inr (SqT.of hb'), q⟩) fun lg H12 s12 dg => ?_
      have g12 := g11.same s12
      have dl12 := dl.same s12
      have zl12 : LenV K (.ref ln) H12 rows.length := by
        have z := TupD.length (K := K) dl12
        rw [List.length_map] at z
        exact z
      refine ⟨_, rfl, _, rfl, _, rows.length, rfl, zl12, _, _, rfl, rfl, p, c, _, _, rfl, g12, by omega, by omega, by omega, fun d H13 h0 h1 g13 b13 => ?_⟩
      obtain ⟨at', rfl⟩ : ∃ at' : Nat, d = (at' : Int) := ⟨d.toNat, by omega⟩
      have sb13 := But.sb b13
      refine ⟨_, rfl, _, rfl, p, c, ls, _, xss, rfl, g13, by omega, SqL.of (sb13 _ _ (s12 _ _ els11) npl), z8, by omega, fun is vs H14 hst g14 b14 => ⟨_, _, rfl, ?_⟩⟩
      have sb14 : SameB p H11 H14 := ((SameB.of s12).trans sb13).trans (But.sb b14)
      have k14 := g11.kp sb14
      have k14b := g12.kp (sb13.trans (But.sb b14))
      obtain ⟨ra, st, rfl, est, lst⟩ := (b11 _ (List.mem_of_getElem? hst)).kp k14
      have dg14 := Da.kp k14b _ _ dg
      have dl14 := dl.kp k14
      have ao14 := ao11.kp k14
      have cx14 := cx11.sb g11 sb14
      have vst : RowV H14 (.ref ra) (st.map bd) := ⟨ra, _, rfl, .inr est, das_of_bits _⟩
      clear dg dl dl12 ao11 cx11 els11 b11 zl12 k14 k14b sb14 sb13 s12 g11 g12 g13 hst b13 b14 h1
      refine at_sig (σ' := [some (.ref a), some (.ref p), some (.int (0 + (i : Int))), some (.ref own), some (.ref x), some (.ref ls), some (.ref lr), v7, some (.ref ra), v9, v10, v11, v12, some (.ref ln), some (.ref lg), some (iv at'), u16, u17, u18, u19]) rfl ?_
      -- runs from the resets
      refine ⟨_, rfl, _, rfl, x, .ref lg, cc, rows, rfl, cx14, ok, rowsV_lst dg14, hb, by omega, fun o1 H15 s15 d15 => ?_⟩
      have outsR : ∀ (sx : List Bool) (rw' : List (List Bool)), rw'.length ≤ 9 → Fit 100000 (.tuple ((cc.play ([], sx) rw').1.map tbd)) := fun sx rw' hr => fit_rows (by rw [play_len]; show 0 + rw'.length ≤ 9; omega) (play_small smo _ _ fun b h => by cases h)
      refine ⟨o1, _, rfl, d15.da, fine_rows _, outsR _ _ hz, ?_⟩
      refine ⟨_, rfl, _, rfl, own, .ref ln, cc, rows, rfl, ao14.same s15, ok, ⟨_, ln, rfl, dl14.same s15, by rw [List.map_map]; rfl⟩, hb, by omega, fun o2 H16 s16 d16 => ?_⟩
      refine ⟨o2, _, rfl, d16.da, fine_rows _, outsR _ _ hz, rfl, _, rfl, ?_⟩
      refine ite2 (fun z => absurd z (by simp)) (fun _ => ?_)
      have s16' := s15.trans s16
      refine ⟨_, rfl, ?_⟩
      try dsimp only
      refine given_of (K := K) (a := ln) (rows := rows) (fun Q q => ⟨_, rfl, q⟩) (dl14.same s16') (by omega) (fun _ => rfl) (fun b bs H2 Q hb' q => ⟨_, rfl, b, _, rfl, .inr (SqT.of hb'), q⟩) fun lg2 H17 s17 dg2 => ?_
      have s17' := s16'.trans s17
      refine neD_rows (dg14.same s17') dg2 ?_
      refine ⟨_, rfl, ?_⟩
      refine ite2 (fun z => absurd z (by decide)) (fun _ => ?_)
      have g17 := g14.same s17'
      have dl17 := dl14.same s17'
      have ao17 := ao14.same s17'
      have cx17 := cx14.same s17'
      have vst17 := vst.same s17'
      have est17 := s17' _ _ est
      clear d15 d16 dg2 dg14 dl14 ao14 cx14 vst est s15 s16 s16' s17 s17' g14
      refine ⟨_, rfl, (by show 0 ≤ sizeLine; decide), fun lf nf => with_new nf fun H18 s18 e18 => ⟨_, _, rfl, ?_⟩⟩
      refine at_sig (σ' := [some (.ref a), some (.ref p), some (.int (0 + (i : Int))), some (.ref own), some (.ref x), some (.ref ls), some (.ref lr), v7, some (.ref ra), v9, v10, v11, v12, some (.ref ln), some (.ref lg), some (iv at'), some (.ref ra), some (.ref lf), u18, u19]) rfl ?_
      obtain ⟨xl, eln, hln⟩ := id dl17
      have zxl : xl.length = rows.length := by rw [hln.length, List.length_map]
      have er3 : (rows.map tbd).map rowOf = rows.map fun bs => some (bs.map bd) := by rw [List.map_map]; rfl
      refine ⟨_, rfl, ln, rfl, ⟨_, SqT.of (s18 _ _ eln)⟩, for_tup (K := K) (a := ln) (xs := xl) (fun j σ H' => ∃ (nw : Addr) (w9 w18 : Option V) (ys : List V), σ = [some (.ref a), some (.ref p), some (.int (0 + (i : Int))), some (.ref own), some (.ref x), some (.ref ls), some (.ref lr), v7, some (.ref ra), w9, v10, v11, v12, some (.ref ln), some (.ref lg), some (iv at'), some (.ref nw), some (.ref lf), w18, u19] ∧ Same H17 H' ∧ H' lf = some (.lst ys) ∧ Das H' ys ((cc.play ([], st) (rows.take j)).1.map tbd) ∧ TupD H' nw ((cc.play ([], st) (rows.take j)).2.map bd)) ⟨ra, _, _, [], rfl, s18, e18, .nil, ⟨_, s18 _ _ est17, das_of_bits _⟩⟩ ?_ ?_ ?_⟩
      · rintro j σ H' _ ⟨nw, w9, w18, ys, rfl, t, _⟩
        exact SqT.of (t _ _ eln)
      · rintro j xx σ H' hj ⟨nw, w9, w18, ys, rfl, t, el, hy, dn⟩
        obtain ⟨d, hd, hx⟩ := hln.get hj
        obtain ⟨bs, hbs, er⟩ := row_at er3 hd
        have hb' := (hx.same t).rowV er
        have zp := play_len (c := cc) (rows.take j) ([], st)
        have zy := hy.length
        have zi := (List.getElem?_eq_some_iff.mp hbs).1
        rw [List.length_map, zp, List.length_take, Nat.min_eq_left (Nat.le_of_lt zi)] at zy
        have zy : ys.length = 0 + j := zy
        have l2 := play_st ok (rows.take j) ([], st) lst
        have l3 := hb bs (List.mem_of_getElem? hbs)
        refine ⟨_, rfl, _, rfl, _, rfl, own, .ref nw, xx, cc, _, bs, rfl, ⟨ao17.same t, ok, dn.rowV, hb', l2, l3⟩, fun tt o n H4 s4 et eo en => ?_⟩
        refine ⟨tt, _, rfl, SqT.of et, rfl, .ref o, _, rfl, .ref n, _, rfl, rfl, ?_⟩
        refine ⟨_, rfl, .inl ⟨rfl, _, SqL.of (s4 _ _ el)⟩, _, rfl, lf, _, _, rfl, rfl, s4 _ _ el, ?_, ?_⟩
        · exact Nat.lt_of_lt_of_le (by omega : ys.length < 10000) (by decide)
        · have tp : Tp H4 (upd H4 lf (.lst (ys ++ [V.ref o]))) := Tp.lst (s4 _ _ el)
          refine ⟨n, _, _, ys ++ [.ref o], rfl, same_mut (t.trans s4) nf, upd_same, ?_, ?_⟩
          · rw [play_take hbs, List.map_append]
            exact (Das.tp tp _ _ (stills_tbd _) (hy.same s4)).app (Das.one (.tup (tp _ _ eo) (das_of_bits _)))
          · rw [play_take hbs]
            exact das_tbits (tp _ _ en)
      · rintro σ H19 ⟨nw, w9, w18, ys, rfl, t19, el, hy, dn⟩
        rw [zxl, List.take_length] at hy dn
        have est19 := t19 _ _ est17
        clear est17 e18 s18 nf hln
        have g19 := g17.same t19
        have dl19 := dl17.same t19
        have ao19 := ao17.same t19
        have cx19 := cx17.same t19
        have vst19 := vst17.same t19
        have eln19 := t19 _ _ eln
        clear g17 dl17 ao17 cx17 vst17 eln t19
        -- runs from a state
        refine ⟨_, rfl, _, rfl, _, rfl, x, .ref ra, .ref ln, cc, st, rows, rfl, cx19, ok, vst19, lst, rowsV_tup dl19, hb, by omega, fun o1 H20 s20 d20 => ?_⟩
        refine ⟨o1, _, rfl, d20.da, fine_rows _, outsR _ _ hz, ?_⟩
        refine ⟨_, rfl, lf, ys, rfl, .inl ⟨SqL.of (s20 _ _ el), fun r2 n2 => ?_⟩⟩
        have w2 := same_upd n2 (o := .tup ys)
        have y2 := s20.trans w2
        refine ⟨r2, _, rfl, .tup upd_same (hy.same y2), fine_rows _, outsR _ _ hz, rfl, _, rfl, ?_⟩
        refine ite2 (fun z => absurd z (by simp)) (fun _ => ?_)
        refine ⟨_, rfl, _, rfl, _, rfl, x, .ref ra, .ref ln, cc, st, rows, rfl, cx19.same y2, ok, vst19.same y2, lst, rowsV_tup (dl19.same y2), hb, by omega, fun n1 H21 s21 d21 => ?_⟩
        have y3 := y2.trans s21
        refine ⟨_, rfl, ?_⟩
        try dsimp only
        refine neD_of (n := 8) (b := true) d21.da (dn.same y3).da (by decide) (fine_more (n := 3) (by decide) (fine_tup_bits _)) (fine_more (n := 3) (by decide) (fine_tup_bits _)) ⟨fun _ => rfl, fun _ => rfl⟩ ?_
        refine ⟨_, rfl, ?_⟩
        refine ite2 (fun z => absurd z (by decide)) (fun _ => ?_)
        clear d20 d21 w2 s20 s21 y2
        -- in two
        refine ⟨_, rfl, _, rfl, _, rfl, _, rfl, (at' : Int), rfl, ?_⟩
        try dsimp only
        refine slA_of (K := K) (y3 _ _ eln19) fun q1 H22 s22 e22 => ?_
        rw [cut_to (k := at')] at e22
        have y4 := y3.trans s22
        have dt22 := TupD.take (k := at') eln19 dl19 y4 e22
        have hbt : ∀ b ∈ rows.take at', b.length = cc.m := fun b h => hb b ((List.take_sublist _ _).subset h)
        have hbd : ∀ b ∈ rows.drop at', b.length = cc.m := fun b h => hb b ((List.drop_sublist _ _).subset h)
        have zt : (rows.take at').length ≤ 9 := by rw [List.length_take]; omega
        have zd : (rows.drop at').length ≤ 9 := by rw [List.length_drop]; omega
        refine nil1 ?_
        try dsimp only
        refine ⟨x, .ref ra, .ref q1, cc, st, rows.take at', rfl, cx19.same y4, ok, vst19.same y4, lst, rowsV_tup dt22, hbt, by omega, fun nh H23 s23 d23 => ?_⟩
        have y5 := y4.trans s23
        try dsimp only
        refine gname ?_
        refine at_sig (σ' := [some (.ref a), some (.ref p), some (.int (0 + (i : Int))), some (.ref own), some (.ref x), some (.ref ls), some (.ref lr), v7, some (.ref ra), w9, v10, v11, v12, some (.ref ln), some (.ref lg), some (iv at'), some (.ref nw), some (.ref lf), w18, some (.ref nh)]) rfl ?_
        refine ⟨_, rfl, _, rfl, _, rfl, _, rfl, (at' : Int), rfl, ?_⟩
        try dsimp only
        refine slA_of (K := K) (y5 _ _ eln19) fun q2 H24 s24 e24 => ?_
        rw [cut_to (k := at')] at e24
        have y6 := y5.trans s24
        have dt24 := TupD.take (k := at') eln19 dl19 y6 e24
        refine nil1 ?_
        try dsimp only
        refine ⟨x, .ref ra, .ref q2, cc, st, rows.take at', rfl, cx19.same y6, ok, vst19.same y6, lst, rowsV_tup dt24, hbt, by omega, fun o3 H25 s25 d25 => ?_⟩
        have y7 := y6.trans s25
        refine ⟨_, rfl, _, rfl, _, rfl, _, rfl, (at' : Int), rfl, npart ?_⟩
        try dsimp only
        refine slA_of (K := K) (y7 _ _ eln19) fun q3 H26 s26 e26 => ?_
        rw [cut_from (k := at')] at e26
        have y8 := y7.trans s26
        have dd26 := TupD.drop (k := at') eln19 dl19 y8 e26
        refine nil1 ?_
        try dsimp only
        refine ⟨x, .ref nh, .ref q3, cc, (cc.play ([], st) (rows.take at')).2, rows.drop at', rfl, cx19.same y8, ok, ((d23.same s24).same s25 |>.same s26).rowV, play_st ok _ _ lst, rowsV_tup dd26, hbd, by omega, fun o4 H27 s27 d27 => ?_⟩
        have y9 := y8.trans s27
        obtain ⟨ys1, f1, h1⟩ := d25
        obtain ⟨ys2, f2, h2⟩ := d27
        have zy1 := h1.length
        have zy2 := h2.length
        rw [List.length_map, play_len] at zy1 zy2
        have zy1 : ys1.length = 0 + (rows.take at').length := zy1
        have zy2 : ys2.length = 0 + (rows.drop at').length := zy2
        try dsimp only
        refine catA_of (K := K) ((s26.trans s27) _ _ f1) f2 (by omega) fun r3 H28 s28 e28 => ?_
        have y10 := y9.trans s28
        refine ⟨_, rfl, lf, ys, rfl, .inl ⟨SqL.of (y10 _ _ el), fun r4 n4 => ?_⟩⟩
        have w4 := same_upd n4 (o := .tup ys)
        have y11 := y10.trans w4
        have ecut : (cc.play ([], st) rows).1.map tbd = (cc.play ([], st) (rows.take at')).1.map tbd ++ (cc.play ([], (cc.play ([], st) (rows.take at')).2) (rows.drop at')).1.map tbd := by
          rw [play_cut at', List.map_append]
        have hcat := ((h1.same (s26.trans s27)).app h2).same (s28.trans w4)
        rw [← ecut] at hcat
        try dsimp only
        refine neD_of (n := 8) (b := true) (.tup (w4 _ _ e28) hcat) (.tup upd_same (hy.same y11)) (by decide) (fine_rows _) (fine_rows _) ⟨fun _ => rfl, fun _ => rfl⟩ ?_
        refine ⟨_, rfl, ?_⟩
        refine ite2 (fun z => absurd z (by decide)) (fun _ => ?_)
        have cx11 := cx19.same y11
        have est11 := y11 _ _ est19
        have g11 := g19.same y11
        clear hcat ecut h1 h2 f1 f2 zy1 zy2 e28 dd26 e26 dt24 e24 d23 dt22 e22 hy dn el dl19 vst19 eln19
        -- nothing played
        refine ⟨_, rfl, _, rfl, ra, _, rfl, .inr (SqT.of est11), fun l1 m1 => ?_⟩
        have z1 := same_upd m1 (o := .lst (st.map bv))
        refine ⟨(by show 0 ≤ sizeLine; decide), fun e1 m2 => ?_⟩
        have z2 := same_upd m2 (o := .tup [])
        have x2 := z1.trans z2
        refine ⟨x, .ref l1, .ref e1, cc, st, [], rfl, cx11.same x2, ok, ⟨l1, _, rfl, .inl (z2 _ _ upd_same), das_of_bits _⟩, lst, ⟨[], ⟨e1, [], rfl, .inr upd_same, .nil⟩, rfl⟩, (fun b h => by cases h), (by decide), fun n5 H29 s29 d29 => ?_⟩
        have x3 := x2.trans s29
        refine ⟨_, rfl, ?_⟩
        try dsimp only
        refine neD_of (n := 8) (b := true) d29.da (da_bits (x3 _ _ est11)) (by decide) (fine_more (n := 3) (by decide) (fine_tup_bits _)) (fine_more (n := 3) (by decide) (fine_tup_bits _)) ⟨fun _ => rfl, fun _ => rfl⟩ ?_
        refine ⟨_, rfl, ?_⟩
        refine ite2 (fun z => absurd z (by decide)) (fun _ => ?_)
        refine ⟨_, rfl, (by show 0 ≤ sizeLine; decide), fun e2 m3 => ?_⟩
        have z3 := same_upd m3 (o := .tup [])
        have x4 := x3.trans z3
        refine ⟨x, .ref e2, cc, [], rfl, cx11.same x4, ok, ⟨[], ⟨e2, [], rfl, .inr upd_same, .nil⟩, rfl⟩, (fun b h => by cases h), (by decide), fun o5 H30 s30 d30 => ?_⟩
        refine ⟨(by show 0 ≤ sizeLine; decide), fun e3 m4 => ?_⟩
        have z4 := same_upd m4 (o := .tup [])
        try dsimp only
        refine neD_of (n := 8) (b := true) (d30.same z4).da (.tup upd_same .nil) (by decide) rfl rfl ⟨fun _ => rfl, fun _ => rfl⟩ ?_
        refine ⟨_, rfl, ?_⟩
        refine ite2 (fun z => absurd z (by decide)) (fun _ => ?_)
        exact ⟨_, _, _, _, _, _, _, _, _, _, _, _, _, _, _, _, _, _, rfl, (g11.same (x4.trans (s30.trans z4))).more (by omega)⟩
  · rintro σ H' ⟨u2, u3, u4, u5, u6, u7, u8, u9, u10, u11, u12, u13, u14, u15, u16, u17, u18, u19, rfl, _⟩
    exact q H'
end
end Sb

set_option linter.all false
set_option maxRecDepth 100000
set_option maxHeartbeats 8000000
namespace Sb
open PySem PySem.Spec PyProof.Rows L2
theorem all_mk {l : PySem.W.OpenLaw} {w : World} {K : PySem.W.Frag} {h : Heap} {mg : Str → Option Value} {fa : Addr} (X : K.In h) (G : h.Ns mainGlobals mg) (hfa : mg "law" = some (.ref fa))
    {C aP f_ini f_eq f_is_integer f_is_from f_is_below f_is_row f_is_bits f_is_bit_rows f__are_signals f__is_gate f__word_of_gate f__values f__picked f_cycle_of DT_cycle_of f__check_state f__check_rows f_cycle f__played f_run_from f_state_behind f_run f__named_by f_needed f__law_pen f__law_draw f__law_pick f__law_drawn_circuit f__law_gate f__law_circuit_cycle f__law_circuit_run f__law_bit_rows f__law_drawn_rows f__law_wide_circuit f__law_made_circuit f__law_parts f__law_outputs f__law_needed f__law_unlike_right f_law : Addr} {oP DO_cycle_of : Obj} {oc_ini kV_ini dc_ini pm_ini cd_ini ct_ini oc_eq kV_eq dc_eq pm_eq cd_eq ct_eq oc_is_integer kV_is_integer dc_is_integer pm_is_integer cd_is_integer ct_is_integer oc_is_from kV_is_from dc_is_from pm_is_from cd_is_from ct_is_from oc_is_below kV_is_below dc_is_below pm_is_below cd_is_below ct_is_below oc_is_row kV_is_row dc_is_row pm_is_row cd_is_row ct_is_row oc_is_bits kV_is_bits dc_is_bits pm_is_bits cd_is_bits ct_is_bits oc_is_bit_rows kV_is_bit_rows dc_is_bit_rows pm_is_bit_rows cd_is_bit_rows ct_is_bit_rows oc__are_signals kV__are_signals dc__are_signals pm__are_signals cd__are_signals ct__are_signals oc__is_gate kV__is_gate dc__is_gate pm__is_gate cd__is_gate ct__is_gate oc__word_of_gate kV__word_of_gate dc__word_of_gate pm__word_of_gate cd__word_of_gate ct__word_of_gate oc__values kV__values dc__values pm__values cd__values ct__values oc__picked kV__picked dc__picked pm__picked cd__picked ct__picked oc_cycle_of kV_cycle_of dc_cycle_of pm_cycle_of cd_cycle_of ct_cycle_of oc__check_state kV__check_state dc__check_state pm__check_state cd__check_state ct__check_state oc__check_rows kV__check_rows dc__check_rows pm__check_rows cd__check_rows ct__check_rows oc_cycle kV_cycle dc_cycle pm_cycle cd_cycle ct_cycle oc__played kV__played dc__played pm__played cd__played ct__played oc_run_from kV_run_from dc_run_from pm_run_from cd_run_from ct_run_from oc_state_behind kV_state_behind dc_state_behind pm_state_behind cd_state_behind ct_state_behind oc_run kV_run dc_run pm_run cd_run ct_run oc__named_by kV__named_by dc__named_by pm__named_by cd__named_by ct__named_by oc_needed kV_needed dc_needed pm_needed cd_needed ct_needed oc__law_pen kV__law_pen dc__law_pen pm__law_pen cd__law_pen ct__law_pen oc__law_draw kV__law_draw dc__law_draw pm__law_draw cd__law_draw ct__law_draw oc__law_pick kV__law_pick dc__law_pick pm__law_pick cd__law_pick ct__law_pick oc__law_drawn_circuit kV__law_drawn_circuit dc__law_drawn_circuit pm__law_drawn_circuit cd__law_drawn_circuit ct__law_drawn_circuit oc__law_gate kV__law_gate dc__law_gate pm__law_gate cd__law_gate ct__law_gate oc__law_circuit_cycle kV__law_circuit_cycle dc__law_circuit_cycle pm__law_circuit_cycle cd__law_circuit_cycle ct__law_circuit_cycle oc__law_circuit_run kV__law_circuit_run dc__law_circuit_run pm__law_circuit_run cd__law_circuit_run ct__law_circuit_run oc__law_bit_rows kV__law_bit_rows dc__law_bit_rows pm__law_bit_rows cd__law_bit_rows ct__law_bit_rows oc__law_drawn_rows kV__law_drawn_rows dc__law_drawn_rows pm__law_drawn_rows cd__law_drawn_rows ct__law_drawn_rows oc__law_wide_circuit kV__law_wide_circuit dc__law_wide_circuit pm__law_wide_circuit cd__law_wide_circuit ct__law_wide_circuit oc__law_made_circuit kV__law_made_circuit dc__law_made_circuit pm__law_made_circuit cd__law_made_circuit ct__law_made_circuit oc__law_parts kV__law_parts dc__law_parts pm__law_parts cd__law_parts ct__law_parts oc__law_outputs kV__law_outputs dc__law_outputs pm__law_outputs cd__law_outputs ct__law_outputs oc__law_needed kV__law_needed dc__law_needed pm__law_needed cd__law_needed ct__law_needed oc__law_unlike_right kV__law_unlike_right dc__law_unlike_right pm__law_unlike_right cd__law_unlike_right ct__law_unlike_right oc_law kV_law dc_law pm_law cd_law ct_law : Value} {od_ini an_ini od_eq an_eq od_is_integer an_is_integer od_is_from an_is_from od_is_below an_is_below od_is_row an_is_row od_is_bits an_is_bits od_is_bit_rows an_is_bit_rows od__are_signals an__are_signals od__is_gate an__is_gate od__word_of_gate an__word_of_gate od__values an__values od__picked an__picked od_cycle_of an_cycle_of od__check_state an__check_state od__check_rows an__check_rows od_cycle an_cycle od__played an__played od_run_from an_run_from od_state_behind an_state_behind od_run an_run od__named_by an__named_by od_needed an_needed od__law_pen an__law_pen od__law_draw an__law_draw od__law_pick an__law_pick od__law_drawn_circuit an__law_drawn_circuit od__law_gate an__law_gate od__law_circuit_cycle an__law_circuit_cycle od__law_circuit_run an__law_circuit_run od__law_bit_rows an__law_bit_rows od__law_drawn_rows an__law_drawn_rows od__law_wide_circuit an__law_wide_circuit od__law_made_circuit an__law_made_circuit od__law_parts an__law_parts od__law_outputs an__law_outputs od__law_needed an__law_needed od__law_unlike_right an__law_unlike_right od_law an_law : Option Addr} {sl_ini sl_eq sl_is_integer sl_is_from sl_is_below sl_is_row sl_is_bits sl_is_bit_rows sl__are_signals sl__is_gate sl__word_of_gate sl__values sl__picked sl_cycle_of sl__check_state sl__check_rows sl_cycle sl__played sl_run_from sl_state_behind sl_run sl__named_by sl_needed sl__law_pen sl__law_draw sl__law_pick sl__law_drawn_circuit sl__law_gate sl__law_circuit_cycle sl__law_circuit_run sl__law_bit_rows sl__law_drawn_rows sl__law_wide_circuit sl__law_made_circuit sl__law_parts sl__law_outputs sl__law_needed sl__law_unlike_right sl_law : Array (Option Value)}
    (hn : PySem.W.specialIn K (.builtin "object.__class__") "__get__" = some (some (.builtin "getset_descriptor.__get__")))
    (ht : PySem.W.takesIn K (.builtin "object.__class__") = some true)
    (gC : PySem.W.nsIn K mainGlobals "Circuit" = some (some (.ref C)))
    (cpg : PySem.W.plainGet K C Str.empty = true)
    (chd : PySem.W.hasDictIn K C = true)
    (cpo : PySem.W.plainOver K C = true)
    (csa : PySem.W.findIn K (.ref C) "__setattr__" = some (some (.builtin "object.__setattr__")))
    (cn1 : PySem.W.findIn K (.ref C) "inputs" = some none)
    (cn2 : PySem.W.findIn K (.ref C) "resets" = some none)
    (cn3 : PySem.W.findIn K (.ref C) "gates" = some none)
    (cn4 : PySem.W.findIn K (.ref C) "nexts" = some none)
    (cn5 : PySem.W.findIn K (.ref C) "outputs" = some none)
    (cha : PySem.W.findIn K (.ref C) "__class__" = some (some (.builtin "object.__class__")))
    (chm : PySem.W.mroIn K C (.type "object") = some true)
    (kown : PySem.W.kitOne K (.ref C) (.ref C) = some true)
    (ktup : PySem.W.kitOne K (.type "tuple") (.ref C) = some false)
    (cmk : PySem.W.makesIn K C = true)
    (ckp : PySem.W.keepIn K (.ref C) = true)
    (nfo : PySem.W.notFirst K C (.ref C) = true)
    (nft : PySem.W.notFirst K C (.type "tuple") = true)
    (gP : PySem.W.nsIn K mainGlobals "PAIRED_KINDS" = some (some (.ref aP)))
    (lP : K.lookup aP = some oP)
    (dP : oP.cls = .type "tuple" ∧ ∃ (its : Array Value) (n : Nat), oP.data = .seq its n ∧ its.size ≤ sizeLine ∧ Vals pairedV its.toList)
    (a_ini : PySem.W.findIn K (.ref C) "__init__" = some (some (.ref f_ini)))
    (l_ini : K.lookup f_ini = some ⟨oc_ini, od_ini, .func (PySem.W.fnOf "__init__" "Circuit.__init__" (defArgs (inClass (top 16) 0)) (defBody (inClass (top 16) 0)) (defScope (inClass (top 16) 0)) .none kV_ini dc_ini pm_ini an_ini cd_ini ct_ini), sl_ini⟩)
    (c_ini : PySem.W.codeIn K cd_ini "Circuit.__init__" = true)
    (k_ini : PySem.W.keepIn K (.ref f_ini) = true)
    (fini : PySem.W.isFn K (.ref f_ini) = true)
    (a_eq : PySem.W.findIn K (.ref C) "__eq__" = some (some (.ref f_eq)))
    (l_eq : K.lookup f_eq = some ⟨oc_eq, od_eq, .func (PySem.W.fnOf "__eq__" "Circuit.__eq__" (defArgs (inClass (top 16) 1)) (defBody (inClass (top 16) 1)) (defScope (inClass (top 16) 1)) .none kV_eq dc_eq pm_eq an_eq cd_eq ct_eq), sl_eq⟩)
    (c_eq : PySem.W.codeIn K cd_eq "Circuit.__eq__" = true)
    (k_eq : PySem.W.keepIn K (.ref f_eq) = true)
    (feq : PySem.W.isFn K (.ref f_eq) = true)
    (a_is_integer : PySem.W.nsIn K mainGlobals "is_integer" = some (some (.ref f_is_integer)))
    (l_is_integer : K.lookup f_is_integer = some ⟨oc_is_integer, od_is_integer, .func (PySem.W.fnOf "is_integer" "is_integer" (defArgs (top 6)) (defBody (top 6)) (defScope (top 6)) .none kV_is_integer dc_is_integer pm_is_integer an_is_integer cd_is_integer ct_is_integer), sl_is_integer⟩)
    (c_is_integer : PySem.W.codeIn K cd_is_integer "is_integer" = true)
    (k_is_integer : PySem.W.keepIn K (.ref f_is_integer) = true)
    (a_is_from : PySem.W.nsIn K mainGlobals "is_from" = some (some (.ref f_is_from)))
    (l_is_from : K.lookup f_is_from = some ⟨oc_is_from, od_is_from, .func (PySem.W.fnOf "is_from" "is_from" (defArgs (top 7)) (defBody (top 7)) (defScope (top 7)) .none kV_is_from dc_is_from pm_is_from an_is_from cd_is_from ct_is_from), sl_is_from⟩)
    (c_is_from : PySem.W.codeIn K cd_is_from "is_from" = true)
    (k_is_from : PySem.W.keepIn K (.ref f_is_from) = true)
    (a_is_below : PySem.W.nsIn K mainGlobals "is_below" = some (some (.ref f_is_below)))
    (l_is_below : K.lookup f_is_below = some ⟨oc_is_below, od_is_below, .func (PySem.W.fnOf "is_below" "is_below" (defArgs (top 8)) (defBody (top 8)) (defScope (top 8)) .none kV_is_below dc_is_below pm_is_below an_is_below cd_is_below ct_is_below), sl_is_below⟩)
    (c_is_below : PySem.W.codeIn K cd_is_below "is_below" = true)
    (k_is_below : PySem.W.keepIn K (.ref f_is_below) = true)
    (a_is_row : PySem.W.nsIn K mainGlobals "is_row" = some (some (.ref f_is_row)))
    (l_is_row : K.lookup f_is_row = some ⟨oc_is_row, od_is_row, .func (PySem.W.fnOf "is_row" "is_row" (defArgs (top 9)) (defBody (top 9)) (defScope (top 9)) .none kV_is_row dc_is_row pm_is_row an_is_row cd_is_row ct_is_row), sl_is_row⟩)
    (c_is_row : PySem.W.codeIn K cd_is_row "is_row" = true)
    (k_is_row : PySem.W.keepIn K (.ref f_is_row) = true)
    (a_is_bits : PySem.W.nsIn K mainGlobals "is_bits" = some (some (.ref f_is_bits)))
    (l_is_bits : K.lookup f_is_bits = some ⟨oc_is_bits, od_is_bits, .func (PySem.W.fnOf "is_bits" "is_bits" (defArgs (top 10)) (defBody (top 10)) (defScope (top 10)) .none kV_is_bits dc_is_bits pm_is_bits an_is_bits cd_is_bits ct_is_bits), sl_is_bits⟩)
    (c_is_bits : PySem.W.codeIn K cd_is_bits "is_bits" = true)
    (k_is_bits : PySem.W.keepIn K (.ref f_is_bits) = true)
    (a_is_bit_rows : PySem.W.nsIn K mainGlobals "is_bit_rows" = some (some (.ref f_is_bit_rows)))
    (l_is_bit_rows : K.lookup f_is_bit_rows = some ⟨oc_is_bit_rows, od_is_bit_rows, .func (PySem.W.fnOf "is_bit_rows" "is_bit_rows" (defArgs (top 11)) (defBody (top 11)) (defScope (top 11)) .none kV_is_bit_rows dc_is_bit_rows pm_is_bit_rows an_is_bit_rows cd_is_bit_rows ct_is_bit_rows), sl_is_bit_rows⟩)
    (c_is_bit_rows : PySem.W.codeIn K cd_is_bit_rows "is_bit_rows" = true)
    (k_is_bit_rows : PySem.W.keepIn K (.ref f_is_bit_rows) = true)
    (a__are_signals : PySem.W.nsIn K mainGlobals "_are_signals" = some (some (.ref f__are_signals)))
    (l__are_signals : K.lookup f__are_signals = some ⟨oc__are_signals, od__are_signals, .func (PySem.W.fnOf "_are_signals" "_are_signals" (defArgs (top 14)) (defBody (top 14)) (defScope (top 14)) .none kV__are_signals dc__are_signals pm__are_signals an__are_signals cd__are_signals ct__are_signals), sl__are_signals⟩)
    (c__are_signals : PySem.W.codeIn K cd__are_signals "_are_signals" = true)
    (k__are_signals : PySem.W.keepIn K (.ref f__are_signals) = true)
    (a__is_gate : PySem.W.nsIn K mainGlobals "_is_gate" = some (some (.ref f__is_gate)))
    (l__is_gate : K.lookup f__is_gate = some ⟨oc__is_gate, od__is_gate, .func (PySem.W.fnOf "_is_gate" "_is_gate" (defArgs (top 15)) (defBody (top 15)) (defScope (top 15)) .none kV__is_gate dc__is_gate pm__is_gate an__is_gate cd__is_gate ct__is_gate), sl__is_gate⟩)
    (c__is_gate : PySem.W.codeIn K cd__is_gate "_is_gate" = true)
    (k__is_gate : PySem.W.keepIn K (.ref f__is_gate) = true)
    (a__word_of_gate : PySem.W.nsIn K mainGlobals "_word_of_gate" = some (some (.ref f__word_of_gate)))
    (l__word_of_gate : K.lookup f__word_of_gate = some ⟨oc__word_of_gate, od__word_of_gate, .func (PySem.W.fnOf "_word_of_gate" "_word_of_gate" (defArgs (top 17)) (defBody (top 17)) (defScope (top 17)) .none kV__word_of_gate dc__word_of_gate pm__word_of_gate an__word_of_gate cd__word_of_gate ct__word_of_gate), sl__word_of_gate⟩)
    (c__word_of_gate : PySem.W.codeIn K cd__word_of_gate "_word_of_gate" = true)
    (k__word_of_gate : PySem.W.keepIn K (.ref f__word_of_gate) = true)
    (a__values : PySem.W.nsIn K mainGlobals "_values" = some (some (.ref f__values)))
    (l__values : K.lookup f__values = some ⟨oc__values, od__values, .func (PySem.W.fnOf "_values" "_values" (defArgs (top 18)) (defBody (top 18)) (defScope (top 18)) .none kV__values dc__values pm__values an__values cd__values ct__values), sl__values⟩)
    (c__values : PySem.W.codeIn K cd__values "_values" = true)
    (k__values : PySem.W.keepIn K (.ref f__values) = true)
    (a__picked : PySem.W.nsIn K mainGlobals "_picked" = some (some (.ref f__picked)))
    (l__picked : K.lookup f__picked = some ⟨oc__picked, od__picked, .func (PySem.W.fnOf "_picked" "_picked" (defArgs (top 19)) (defBody (top 19)) (defScope (top 19)) .none kV__picked dc__picked pm__picked an__picked cd__picked ct__picked), sl__picked⟩)
    (c__picked : PySem.W.codeIn K cd__picked "_picked" = true)
    (k__picked : PySem.W.keepIn K (.ref f__picked) = true)
    (a_cycle_of : PySem.W.nsIn K mainGlobals "cycle_of" = some (some (.ref f_cycle_of)))
    (l_cycle_of : K.lookup f_cycle_of = some ⟨oc_cycle_of, od_cycle_of, .func (PySem.W.fnOf "cycle_of" "cycle_of" (defArgs (top 20)) (defBody (top 20)) (defScope (top 20)) (.ref DT_cycle_of) kV_cycle_of dc_cycle_of pm_cycle_of an_cycle_of cd_cycle_of ct_cycle_of), sl_cycle_of⟩)
    (c_cycle_of : PySem.W.codeIn K cd_cycle_of "cycle_of" = true)
    (k_cycle_of : PySem.W.keepIn K (.ref f_cycle_of) = true)
    (dl_cycle_of : K.lookup DT_cycle_of = some DO_cycle_of)
    (dv_cycle_of : ∃ (its : List Value) (n : Nat), DO_cycle_of.data = .seq its.toArray n ∧ Vals [.int 1] its)
    (a__check_state : PySem.W.nsIn K mainGlobals "_check_state" = some (some (.ref f__check_state)))
    (l__check_state : K.lookup f__check_state = some ⟨oc__check_state, od__check_state, .func (PySem.W.fnOf "_check_state" "_check_state" (defArgs (top 21)) (defBody (top 21)) (defScope (top 21)) .none kV__check_state dc__check_state pm__check_state an__check_state cd__check_state ct__check_state), sl__check_state⟩)
    (c__check_state : PySem.W.codeIn K cd__check_state "_check_state" = true)
    (k__check_state : PySem.W.keepIn K (.ref f__check_state) = true)
    (a__check_rows : PySem.W.nsIn K mainGlobals "_check_rows" = some (some (.ref f__check_rows)))
    (l__check_rows : K.lookup f__check_rows = some ⟨oc__check_rows, od__check_rows, .func (PySem.W.fnOf "_check_rows" "_check_rows" (defArgs (top 22)) (defBody (top 22)) (defScope (top 22)) .none kV__check_rows dc__check_rows pm__check_rows an__check_rows cd__check_rows ct__check_rows), sl__check_rows⟩)
    (c__check_rows : PySem.W.codeIn K cd__check_rows "_check_rows" = true)
    (k__check_rows : PySem.W.keepIn K (.ref f__check_rows) = true)
    (a_cycle : PySem.W.nsIn K mainGlobals "cycle" = some (some (.ref f_cycle)))
    (l_cycle : K.lookup f_cycle = some ⟨oc_cycle, od_cycle, .func (PySem.W.fnOf "cycle" "cycle" (defArgs (top 23)) (defBody (top 23)) (defScope (top 23)) .none kV_cycle dc_cycle pm_cycle an_cycle cd_cycle ct_cycle), sl_cycle⟩)
    (c_cycle : PySem.W.codeIn K cd_cycle "cycle" = true)
    (k_cycle : PySem.W.keepIn K (.ref f_cycle) = true)
    (a__played : PySem.W.nsIn K mainGlobals "_played" = some (some (.ref f__played)))
    (l__played : K.lookup f__played = some ⟨oc__played, od__played, .func (PySem.W.fnOf "_played" "_played" (defArgs (top 24)) (defBody (top 24)) (defScope (top 24)) .none kV__played dc__played pm__played an__played cd__played ct__played), sl__played⟩)
    (c__played : PySem.W.codeIn K cd__played "_played" = true)
    (k__played : PySem.W.keepIn K (.ref f__played) = true)
    (a_run_from : PySem.W.nsIn K mainGlobals "run_from" = some (some (.ref f_run_from)))
    (l_run_from : K.lookup f_run_from = some ⟨oc_run_from, od_run_from, .func (PySem.W.fnOf "run_from" "run_from" (defArgs (top 25)) (defBody (top 25)) (defScope (top 25)) .none kV_run_from dc_run_from pm_run_from an_run_from cd_run_from ct_run_from), sl_run_from⟩)
    (c_run_from : PySem.W.codeIn K cd_run_from "run_from" = true)
    (k_run_from : PySem.W.keepIn K (.ref f_run_from) = true)
    (a_state_behind : PySem.W.nsIn K mainGlobals "state_behind" = some (some (.ref f_state_behind)))
    (l_state_behind : K.lookup f_state_behind = some ⟨oc_state_behind, od_state_behind, .func (PySem.W.fnOf "state_behind" "state_behind" (defArgs (top 26)) (defBody (top 26)) (defScope (top 26)) .none kV_state_behind dc_state_behind pm_state_behind an_state_behind cd_state_behind ct_state_behind), sl_state_behind⟩)
    (c_state_behind : PySem.W.codeIn K cd_state_behind "state_behind" = true)
    (k_state_behind : PySem.W.keepIn K (.ref f_state_behind) = true)
    (a_run : PySem.W.nsIn K mainGlobals "run" = some (some (.ref f_run)))
    (l_run : K.lookup f_run = some ⟨oc_run, od_run, .func (PySem.W.fnOf "run" "run" (defArgs (top 27)) (defBody (top 27)) (defScope (top 27)) .none kV_run dc_run pm_run an_run cd_run ct_run), sl_run⟩)
    (c_run : PySem.W.codeIn K cd_run "run" = true)
    (k_run : PySem.W.keepIn K (.ref f_run) = true)
    (a__named_by : PySem.W.nsIn K mainGlobals "_named_by" = some (some (.ref f__named_by)))
    (l__named_by : K.lookup f__named_by = some ⟨oc__named_by, od__named_by, .func (PySem.W.fnOf "_named_by" "_named_by" (defArgs (top 28)) (defBody (top 28)) (defScope (top 28)) .none kV__named_by dc__named_by pm__named_by an__named_by cd__named_by ct__named_by), sl__named_by⟩)
    (c__named_by : PySem.W.codeIn K cd__named_by "_named_by" = true)
    (k__named_by : PySem.W.keepIn K (.ref f__named_by) = true)
    (a_needed : PySem.W.nsIn K mainGlobals "needed" = some (some (.ref f_needed)))
    (l_needed : K.lookup f_needed = some ⟨oc_needed, od_needed, .func (PySem.W.fnOf "needed" "needed" (defArgs (top 29)) (defBody (top 29)) (defScope (top 29)) .none kV_needed dc_needed pm_needed an_needed cd_needed ct_needed), sl_needed⟩)
    (c_needed : PySem.W.codeIn K cd_needed "needed" = true)
    (k_needed : PySem.W.keepIn K (.ref f_needed) = true)
    (a__law_pen : PySem.W.nsIn K mainGlobals "_law_pen" = some (some (.ref f__law_pen)))
    (l__law_pen : K.lookup f__law_pen = some ⟨oc__law_pen, od__law_pen, .func (PySem.W.fnOf "_law_pen" "_law_pen" (defArgs (top 31)) (defBody (top 31)) (defScope (top 31)) .none kV__law_pen dc__law_pen pm__law_pen an__law_pen cd__law_pen ct__law_pen), sl__law_pen⟩)
    (c__law_pen : PySem.W.codeIn K cd__law_pen "_law_pen" = true)
    (k__law_pen : PySem.W.keepIn K (.ref f__law_pen) = true)
    (a__law_draw : PySem.W.nsIn K mainGlobals "_law_draw" = some (some (.ref f__law_draw)))
    (l__law_draw : K.lookup f__law_draw = some ⟨oc__law_draw, od__law_draw, .func (PySem.W.fnOf "_law_draw" "_law_draw" (defArgs (top 32)) (defBody (top 32)) (defScope (top 32)) .none kV__law_draw dc__law_draw pm__law_draw an__law_draw cd__law_draw ct__law_draw), sl__law_draw⟩)
    (c__law_draw : PySem.W.codeIn K cd__law_draw "_law_draw" = true)
    (k__law_draw : PySem.W.keepIn K (.ref f__law_draw) = true)
    (a__law_pick : PySem.W.nsIn K mainGlobals "_law_pick" = some (some (.ref f__law_pick)))
    (l__law_pick : K.lookup f__law_pick = some ⟨oc__law_pick, od__law_pick, .func (PySem.W.fnOf "_law_pick" "_law_pick" (defArgs (top 33)) (defBody (top 33)) (defScope (top 33)) .none kV__law_pick dc__law_pick pm__law_pick an__law_pick cd__law_pick ct__law_pick), sl__law_pick⟩)
    (c__law_pick : PySem.W.codeIn K cd__law_pick "_law_pick" = true)
    (k__law_pick : PySem.W.keepIn K (.ref f__law_pick) = true)
    (a__law_drawn_circuit : PySem.W.nsIn K mainGlobals "_law_drawn_circuit" = some (some (.ref f__law_drawn_circuit)))
    (l__law_drawn_circuit : K.lookup f__law_drawn_circuit = some ⟨oc__law_drawn_circuit, od__law_drawn_circuit, .func (PySem.W.fnOf "_law_drawn_circuit" "_law_drawn_circuit" (defArgs (top 34)) (defBody (top 34)) (defScope (top 34)) .none kV__law_drawn_circuit dc__law_drawn_circuit pm__law_drawn_circuit an__law_drawn_circuit cd__law_drawn_circuit ct__law_drawn_circuit), sl__law_drawn_circuit⟩)
    (c__law_drawn_circuit : PySem.W.codeIn K cd__law_drawn_circuit "_law_drawn_circuit" = true)
    (k__law_drawn_circuit : PySem.W.keepIn K (.ref f__law_drawn_circuit) = true)
    (a__law_gate : PySem.W.nsIn K mainGlobals "_law_gate" = some (some (.ref f__law_gate)))
    (l__law_gate : K.lookup f__law_gate = some ⟨oc__law_gate, od__law_gate, .func (PySem.W.fnOf "_law_gate" "_law_gate" (defArgs (top 35)) (defBody (top 35)) (defScope (top 35)) .none kV__law_gate dc__law_gate pm__law_gate an__law_gate cd__law_gate ct__law_gate), sl__law_gate⟩)
    (c__law_gate : PySem.W.codeIn K cd__law_gate "_law_gate" = true)
    (k__law_gate : PySem.W.keepIn K (.ref f__law_gate) = true)
    (a__law_circuit_cycle : PySem.W.nsIn K mainGlobals "_law_circuit_cycle" = some (some (.ref f__law_circuit_cycle)))
    (l__law_circuit_cycle : K.lookup f__law_circuit_cycle = some ⟨oc__law_circuit_cycle, od__law_circuit_cycle, .func (PySem.W.fnOf "_law_circuit_cycle" "_law_circuit_cycle" (defArgs (top 36)) (defBody (top 36)) (defScope (top 36)) .none kV__law_circuit_cycle dc__law_circuit_cycle pm__law_circuit_cycle an__law_circuit_cycle cd__law_circuit_cycle ct__law_circuit_cycle), sl__law_circuit_cycle⟩)
    (c__law_circuit_cycle : PySem.W.codeIn K cd__law_circuit_cycle "_law_circuit_cycle" = true)
    (k__law_circuit_cycle : PySem.W.keepIn K (.ref f__law_circuit_cycle) = true)
    (a__law_circuit_run : PySem.W.nsIn K mainGlobals "_law_circuit_run" = some (some (.ref f__law_circuit_run)))
    (l__law_circuit_run : K.lookup f__law_circuit_run = some ⟨oc__law_circuit_run, od__law_circuit_run, .func (PySem.W.fnOf "_law_circuit_run" "_law_circuit_run" (defArgs (top 37)) (defBody (top 37)) (defScope (top 37)) .none kV__law_circuit_run dc__law_circuit_run pm__law_circuit_run an__law_circuit_run cd__law_circuit_run ct__law_circuit_run), sl__law_circuit_run⟩)
    (c__law_circuit_run : PySem.W.codeIn K cd__law_circuit_run "_law_circuit_run" = true)
    (k__law_circuit_run : PySem.W.keepIn K (.ref f__law_circuit_run) = true)
    (a__law_bit_rows : PySem.W.nsIn K mainGlobals "_law_bit_rows" = some (some (.ref f__law_bit_rows)))
    (l__law_bit_rows : K.lookup f__law_bit_rows = some ⟨oc__law_bit_rows, od__law_bit_rows, .func (PySem.W.fnOf "_law_bit_rows" "_law_bit_rows" (defArgs (top 38)) (defBody (top 38)) (defScope (top 38)) .none kV__law_bit_rows dc__law_bit_rows pm__law_bit_rows an__law_bit_rows cd__law_bit_rows ct__law_bit_rows), sl__law_bit_rows⟩)
    (c__law_bit_rows : PySem.W.codeIn K cd__law_bit_rows "_law_bit_rows" = true)
    (k__law_bit_rows : PySem.W.keepIn K (.ref f__law_bit_rows) = true)
    (a__law_drawn_rows : PySem.W.nsIn K mainGlobals "_law_drawn_rows" = some (some (.ref f__law_drawn_rows)))
    (l__law_drawn_rows : K.lookup f__law_drawn_rows = some ⟨oc__law_drawn_rows, od__law_drawn_rows, .func (PySem.W.fnOf "_law_drawn_rows" "_law_drawn_rows" (defArgs (top 39)) (defBody (top 39)) (defScope (top 39)) .none kV__law_drawn_rows dc__law_drawn_rows pm__law_drawn_rows an__law_drawn_rows cd__law_drawn_rows ct__law_drawn_rows), sl__law_drawn_rows⟩)
    (c__law_drawn_rows : PySem.W.codeIn K cd__law_drawn_rows "_law_drawn_rows" = true)
    (k__law_drawn_rows : PySem.W.keepIn K (.ref f__law_drawn_rows) = true)
    (a__law_wide_circuit : PySem.W.nsIn K mainGlobals "_law_wide_circuit" = some (some (.ref f__law_wide_circuit)))
    (l__law_wide_circuit : K.lookup f__law_wide_circuit = some ⟨oc__law_wide_circuit, od__law_wide_circuit, .func (PySem.W.fnOf "_law_wide_circuit" "_law_wide_circuit" (defArgs (top 40)) (defBody (top 40)) (defScope (top 40)) .none kV__law_wide_circuit dc__law_wide_circuit pm__law_wide_circuit an__law_wide_circuit cd__law_wide_circuit ct__law_wide_circuit), sl__law_wide_circuit⟩)
    (c__law_wide_circuit : PySem.W.codeIn K cd__law_wide_circuit "_law_wide_circuit" = true)
    (k__law_wide_circuit : PySem.W.keepIn K (.ref f__law_wide_circuit) = true)
    (a__law_made_circuit : PySem.W.nsIn K mainGlobals "_law_made_circuit" = some (some (.ref f__law_made_circuit)))
    (l__law_made_circuit : K.lookup f__law_made_circuit = some ⟨oc__law_made_circuit, od__law_made_circuit, .func (PySem.W.fnOf "_law_made_circuit" "_law_made_circuit" (defArgs (top 41)) (defBody (top 41)) (defScope (top 41)) .none kV__law_made_circuit dc__law_made_circuit pm__law_made_circuit an__law_made_circuit cd__law_made_circuit ct__law_made_circuit), sl__law_made_circuit⟩)
    (c__law_made_circuit : PySem.W.codeIn K cd__law_made_circuit "_law_made_circuit" = true)
    (k__law_made_circuit : PySem.W.keepIn K (.ref f__law_made_circuit) = true)
    (a__law_parts : PySem.W.nsIn K mainGlobals "_law_parts" = some (some (.ref f__law_parts)))
    (l__law_parts : K.lookup f__law_parts = some ⟨oc__law_parts, od__law_parts, .func (PySem.W.fnOf "_law_parts" "_law_parts" (defArgs (top 42)) (defBody (top 42)) (defScope (top 42)) .none kV__law_parts dc__law_parts pm__law_parts an__law_parts cd__law_parts ct__law_parts), sl__law_parts⟩)
    (c__law_parts : PySem.W.codeIn K cd__law_parts "_law_parts" = true)
    (k__law_parts : PySem.W.keepIn K (.ref f__law_parts) = true)
    (a__law_outputs : PySem.W.nsIn K mainGlobals "_law_outputs" = some (some (.ref f__law_outputs)))
    (l__law_outputs : K.lookup f__law_outputs = some ⟨oc__law_outputs, od__law_outputs, .func (PySem.W.fnOf "_law_outputs" "_law_outputs" (defArgs (top 43)) (defBody (top 43)) (defScope (top 43)) .none kV__law_outputs dc__law_outputs pm__law_outputs an__law_outputs cd__law_outputs ct__law_outputs), sl__law_outputs⟩)
    (c__law_outputs : PySem.W.codeIn K cd__law_outputs "_law_outputs" = true)
    (k__law_outputs : PySem.W.keepIn K (.ref f__law_outputs) = true)
    (a__law_needed : PySem.W.nsIn K mainGlobals "_law_needed" = some (some (.ref f__law_needed)))
    (l__law_needed : K.lookup f__law_needed = some ⟨oc__law_needed, od__law_needed, .func (PySem.W.fnOf "_law_needed" "_law_needed" (defArgs (top 44)) (defBody (top 44)) (defScope (top 44)) .none kV__law_needed dc__law_needed pm__law_needed an__law_needed cd__law_needed ct__law_needed), sl__law_needed⟩)
    (c__law_needed : PySem.W.codeIn K cd__law_needed "_law_needed" = true)
    (k__law_needed : PySem.W.keepIn K (.ref f__law_needed) = true)
    (a__law_unlike_right : PySem.W.nsIn K mainGlobals "_law_unlike_right" = some (some (.ref f__law_unlike_right)))
    (l__law_unlike_right : K.lookup f__law_unlike_right = some ⟨oc__law_unlike_right, od__law_unlike_right, .func (PySem.W.fnOf "_law_unlike_right" "_law_unlike_right" (defArgs (top 45)) (defBody (top 45)) (defScope (top 45)) .none kV__law_unlike_right dc__law_unlike_right pm__law_unlike_right an__law_unlike_right cd__law_unlike_right ct__law_unlike_right), sl__law_unlike_right⟩)
    (c__law_unlike_right : PySem.W.codeIn K cd__law_unlike_right "_law_unlike_right" = true)
    (k__law_unlike_right : PySem.W.keepIn K (.ref f__law_unlike_right) = true)
    (a_law : PySem.W.nsIn K mainGlobals "law" = some (some (.ref f_law)))
    (l_law : K.lookup f_law = some ⟨oc_law, od_law, .func (PySem.W.fnOf "law" "law" (defArgs (top 46)) (defBody (top 46)) (defScope (top 46)) .none kV_law dc_law pm_law an_law cd_law ct_law), sl_law⟩)
    (c_law : PySem.W.codeIn K cd_law "law" = true)
    (k_law : PySem.W.keepIn K (.ref f_law) = true)
    (z_isinstance : PySem.W.nsIn K mainGlobals "isinstance" = some none)
    (z_int : PySem.W.nsIn K mainGlobals "int" = some none)
    (z_bool : PySem.W.nsIn K mainGlobals "bool" = some none)
    (z_str : PySem.W.nsIn K mainGlobals "str" = some none)
    (z_tuple : PySem.W.nsIn K mainGlobals "tuple" = some none)
    (z_list : PySem.W.nsIn K mainGlobals "list" = some none)
    (z_len : PySem.W.nsIn K mainGlobals "len" = some none)
    (z_all : PySem.W.nsIn K mainGlobals "all" = some none)
    (z_enumerate : PySem.W.nsIn K mainGlobals "enumerate" = some none)
    (z_range : PySem.W.nsIn K mainGlobals "range" = some none)
    (z_sorted : PySem.W.nsIn K mainGlobals "sorted" = some none)
    (z_max : PySem.W.nsIn K mainGlobals "max" = some none)
    (z_repr : PySem.W.nsIn K mainGlobals "repr" = some none)
    : ∃ fd : FuncData, (∀ (s : Shared) (v : Value), BindsTo s fd ⟨[v], []⟩ [("_law_script", v)]) ∧ ∀ base : Heap, K.In base → base.Ns mainGlobals mg → LawOk l.prog w K mg base fa fd "_law_script" (spLaw K) := by
  have e := hfa.symm.trans (PySem.W.mg_of X G a_law)
  cases e
  have F_ini := fun_mk (st := inClass (top 16) 0) l_ini c_ini k_ini
  have b_ini := F_ini.binds (ps := ["self", "inputs", "resets", "gates", "nexts", "outputs"]) fun _ _ _ _ _ _ us hl => match us, hl with | [_, _, _, _, _, _], _ => rfl
  have F_eq := fun_mk (st := inClass (top 16) 1) l_eq c_eq k_eq
  have b_eq := F_eq.binds (ps := ["self", "other"]) fun _ _ _ _ _ _ us hl => match us, hl with | [_, _], _ => rfl
  have F_is_integer := fun_mk (st := top 6) l_is_integer c_is_integer k_is_integer
  have b_is_integer := F_is_integer.binds (ps := ["value"]) fun _ _ _ _ _ _ us hl => match us, hl with | [_], _ => rfl
  have F_is_from := fun_mk (st := top 7) l_is_from c_is_from k_is_from
  have b_is_from := F_is_from.binds (ps := ["value", "low"]) fun _ _ _ _ _ _ us hl => match us, hl with | [_, _], _ => rfl
  have F_is_below := fun_mk (st := top 8) l_is_below c_is_below k_is_below
  have b_is_below := F_is_below.binds (ps := ["value", "end"]) fun _ _ _ _ _ _ us hl => match us, hl with | [_, _], _ => rfl
  have F_is_row := fun_mk (st := top 9) l_is_row c_is_row k_is_row
  have b_is_row := F_is_row.binds (ps := ["value"]) fun _ _ _ _ _ _ us hl => match us, hl with | [_], _ => rfl
  have F_is_bits := fun_mk (st := top 10) l_is_bits c_is_bits k_is_bits
  have b_is_bits := F_is_bits.binds (ps := ["value", "many"]) fun _ _ _ _ _ _ us hl => match us, hl with | [_, _], _ => rfl
  have F_is_bit_rows := fun_mk (st := top 11) l_is_bit_rows c_is_bit_rows k_is_bit_rows
  have b_is_bit_rows := F_is_bit_rows.binds (ps := ["value", "many"]) fun _ _ _ _ _ _ us hl => match us, hl with | [_, _], _ => rfl
  have F__are_signals := fun_mk (st := top 14) l__are_signals c__are_signals k__are_signals
  have b__are_signals := F__are_signals.binds (ps := ["value", "many"]) fun _ _ _ _ _ _ us hl => match us, hl with | [_, _], _ => rfl
  have F__is_gate := fun_mk (st := top 15) l__is_gate c__is_gate k__is_gate
  have b__is_gate := F__is_gate.binds (ps := ["value", "ahead"]) fun _ _ _ _ _ _ us hl => match us, hl with | [_, _], _ => rfl
  have F__word_of_gate := fun_mk (st := top 17) l__word_of_gate c__word_of_gate k__word_of_gate
  have b__word_of_gate := F__word_of_gate.binds (ps := ["gate", "values", "ones"]) fun _ _ _ _ _ _ us hl => match us, hl with | [_, _, _], _ => rfl
  have F__values := fun_mk (st := top 18) l__values c__values k__values
  have b__values := F__values.binds (ps := ["circuit", "state", "bits", "ones"]) fun _ _ _ _ _ _ us hl => match us, hl with | [_, _, _, _], _ => rfl
  have F__picked := fun_mk (st := top 19) l__picked c__picked k__picked
  have b__picked := F__picked.binds (ps := ["values", "signals"]) fun _ _ _ _ _ _ us hl => match us, hl with | [_, _], _ => rfl
  have F_cycle_of : FunD K "cycle_of" "cycle_of" (defArgs (top 20)) (defBody (top 20)) (defScope (top 20)) [.int 1] [] f_cycle_of (PySem.W.fnOf "cycle_of" "cycle_of" (defArgs (top 20)) (defBody (top 20)) (defScope (top 20)) (.ref DT_cycle_of) kV_cycle_of dc_cycle_of pm_cycle_of an_cycle_of cd_cycle_of ct_cycle_of) := by
    obtain ⟨its, n, h1, h2⟩ := dv_cycle_of
    exact ⟨⟨_, _, _, _, _, _, _, _, _, _, rfl, l_cycle_of, c_cycle_of, .inr ⟨by simp, _, _, _, _, rfl, dl_cycle_of, h1, h2⟩, .inl rfl⟩, k_cycle_of⟩
  have D_cycle_of := (F_cycle_of.binds1 (ps := ["circuit", "state", "bits", "ones"]) 3 0 (by simp) rfl fun T kV doc pm an cdv ct us its h1 h2 => match us, its, h1, h2 with | [_, _, _], [_], _, _ => ⟨_, rfl, rfl⟩).imp fun _ h => And.intro h.2 h.1
  have F__check_state := fun_mk (st := top 21) l__check_state c__check_state k__check_state
  have b__check_state := F__check_state.binds (ps := ["circuit", "state"]) fun _ _ _ _ _ _ us hl => match us, hl with | [_, _], _ => rfl
  have F__check_rows := fun_mk (st := top 22) l__check_rows c__check_rows k__check_rows
  have b__check_rows := F__check_rows.binds (ps := ["circuit", "rows"]) fun _ _ _ _ _ _ us hl => match us, hl with | [_, _], _ => rfl
  have F_cycle := fun_mk (st := top 23) l_cycle c_cycle k_cycle
  have b_cycle := F_cycle.binds (ps := ["circuit", "state", "bits"]) fun _ _ _ _ _ _ us hl => match us, hl with | [_, _, _], _ => rfl
  have F__played := fun_mk (st := top 24) l__played c__played k__played
  have b__played := F__played.binds (ps := ["circuit", "state", "rows"]) fun _ _ _ _ _ _ us hl => match us, hl with | [_, _, _], _ => rfl
  have F_run_from := fun_mk (st := top 25) l_run_from c_run_from k_run_from
  have b_run_from := F_run_from.binds (ps := ["circuit", "state", "rows"]) fun _ _ _ _ _ _ us hl => match us, hl with | [_, _, _], _ => rfl
  have F_state_behind := fun_mk (st := top 26) l_state_behind c_state_behind k_state_behind
  have b_state_behind := F_state_behind.binds (ps := ["circuit", "state", "rows"]) fun _ _ _ _ _ _ us hl => match us, hl with | [_, _, _], _ => rfl
  have F_run := fun_mk (st := top 27) l_run c_run k_run
  have b_run := F_run.binds (ps := ["circuit", "rows"]) fun _ _ _ _ _ _ us hl => match us, hl with | [_, _], _ => rfl
  have F__named_by := fun_mk (st := top 28) l__named_by c__named_by k__named_by
  have b__named_by := F__named_by.binds (ps := ["circuit", "signal"]) fun _ _ _ _ _ _ us hl => match us, hl with | [_, _], _ => rfl
  have F_needed := fun_mk (st := top 29) l_needed c_needed k_needed
  have b_needed := F_needed.binds (ps := ["circuit"]) fun _ _ _ _ _ _ us hl => match us, hl with | [_], _ => rfl
  have F__law_pen := fun_mk (st := top 31) l__law_pen c__law_pen k__law_pen
  have b__law_pen := F__law_pen.binds (ps := ["_law_script"]) fun _ _ _ _ _ _ us hl => match us, hl with | [_], _ => rfl
  have F__law_draw := fun_mk (st := top 32) l__law_draw c__law_draw k__law_draw
  have b__law_draw := F__law_draw.binds (ps := ["_law_pen_here", "_law_many"]) fun _ _ _ _ _ _ us hl => match us, hl with | [_, _], _ => rfl
  have F__law_pick := fun_mk (st := top 33) l__law_pick c__law_pick k__law_pick
  have b__law_pick := F__law_pick.binds (ps := ["_law_pen_here", "_law_some"]) fun _ _ _ _ _ _ us hl => match us, hl with | [_, _], _ => rfl
  have F__law_drawn_circuit := fun_mk (st := top 34) l__law_drawn_circuit c__law_drawn_circuit k__law_drawn_circuit
  have b__law_drawn_circuit := F__law_drawn_circuit.binds (ps := ["_law_pen_here", "_law_inputs", "_law_registers", "_law_gates"]) fun _ _ _ _ _ _ us hl => match us, hl with | [_, _, _, _], _ => rfl
  have F__law_gate := fun_mk (st := top 35) l__law_gate c__law_gate k__law_gate
  have b__law_gate := F__law_gate.binds (ps := ["_law_gate_here", "_law_values"]) fun _ _ _ _ _ _ us hl => match us, hl with | [_, _], _ => rfl
  have F__law_circuit_cycle := fun_mk (st := top 36) l__law_circuit_cycle c__law_circuit_cycle k__law_circuit_cycle
  have b__law_circuit_cycle := F__law_circuit_cycle.binds (ps := ["_law_circuit", "_law_state", "_law_bits"]) fun _ _ _ _ _ _ us hl => match us, hl with | [_, _, _], _ => rfl
  have F__law_circuit_run := fun_mk (st := top 37) l__law_circuit_run c__law_circuit_run k__law_circuit_run
  have b__law_circuit_run := F__law_circuit_run.binds (ps := ["_law_circuit", "_law_rows"]) fun _ _ _ _ _ _ us hl => match us, hl with | [_, _], _ => rfl
  have F__law_bit_rows := fun_mk (st := top 38) l__law_bit_rows c__law_bit_rows k__law_bit_rows
  have b__law_bit_rows := F__law_bit_rows.binds (ps := ["_law_many"]) fun _ _ _ _ _ _ us hl => match us, hl with | [_], _ => rfl
  have F__law_drawn_rows := fun_mk (st := top 39) l__law_drawn_rows c__law_drawn_rows k__law_drawn_rows
  have b__law_drawn_rows := F__law_drawn_rows.binds (ps := ["_law_pen_here", "_law_width", "_law_most"]) fun _ _ _ _ _ _ us hl => match us, hl with | [_, _, _], _ => rfl
  have F__law_wide_circuit := fun_mk (st := top 40) l__law_wide_circuit c__law_wide_circuit k__law_wide_circuit
  have b__law_wide_circuit := F__law_wide_circuit.binds (ps := ["_law_pen_here", "_law_inputs", "_law_registers", "_law_gates"]) fun _ _ _ _ _ _ us hl => match us, hl with | [_, _, _, _], _ => rfl
  have F__law_made_circuit := fun_mk (st := top 41) l__law_made_circuit c__law_made_circuit k__law_made_circuit
  have b__law_made_circuit := F__law_made_circuit.binds (ps := ["_law_pen_here", "_law_circuit"]) fun _ _ _ _ _ _ us hl => match us, hl with | [_, _], _ => rfl
  have F__law_parts := fun_mk (st := top 42) l__law_parts c__law_parts k__law_parts
  have b__law_parts := F__law_parts.binds (ps := ["_law_circuit"]) fun _ _ _ _ _ _ us hl => match us, hl with | [_], _ => rfl
  have F__law_outputs := fun_mk (st := top 43) l__law_outputs c__law_outputs k__law_outputs
  have b__law_outputs := F__law_outputs.binds (ps := ["_law_circuit", "_law_state", "_law_bits"]) fun _ _ _ _ _ _ us hl => match us, hl with | [_, _, _], _ => rfl
  have F__law_needed := fun_mk (st := top 44) l__law_needed c__law_needed k__law_needed
  have b__law_needed := F__law_needed.binds (ps := ["_law_circuit"]) fun _ _ _ _ _ _ us hl => match us, hl with | [_], _ => rfl
  have F__law_unlike_right := fun_mk (st := top 45) l__law_unlike_right c__law_unlike_right k__law_unlike_right
  have b__law_unlike_right := F__law_unlike_right.binds (ps := ["_law_pen_here", "_law_own", "_law_made"]) fun _ _ _ _ _ _ us hl => match us, hl with | [_, _, _], _ => rfl
  have F_law := fun_mk (st := top 46) l_law c_law k_law
  have T : Bv mg := ⟨PySem.W.mg_none_of X G z_isinstance, PySem.W.mg_none_of X G z_int, PySem.W.mg_none_of X G z_bool, PySem.W.mg_none_of X G z_str, PySem.W.mg_none_of X G z_tuple, PySem.W.mg_none_of X G z_list, PySem.W.mg_none_of X G z_len, PySem.W.mg_none_of X G z_all, PySem.W.mg_none_of X G z_enumerate, PySem.W.mg_none_of X G z_range, PySem.W.mg_none_of X G z_sorted, PySem.W.mg_none_of X G z_max, PySem.W.mg_none_of X G z_repr⟩
  have TT : TB mg := ⟨T.int, T.list, T.len⟩
  have TC : Cc K C := ⟨⟨cpg, chd, cpo, csa⟩, cn1, cn2, cn3, cn4, cn5⟩
  have Tq : Cq K C := ⟨cha, hn, ht, chm, kown, ktup⟩
  have mC := PySem.W.mg_of X G gC
  have mP := PySem.W.mg_of X G gP
  have hP : ∀ H : Hp, SqT K H aP pairedV := fun H => by
    obtain ⟨h1, its, n, h2, h3, h4⟩ := dP
    exact .inr ⟨oP, its, n, lP, h1, h2, h3, h4⟩
  refine ⟨PySem.W.fnOf "law" "law" (defArgs (top 46)) (defBody (top 46)) (defScope (top 46)) .none kV_law dc_law pm_law an_law cd_law ct_law, fun s v => .of_eq rfl, fun base _ _ => ?_⟩
  have H_is_integer : Fn K mg l.prog w base CX0 "is_integer" 1 f_is_integer _ ["value"] spIsInt := ⟨PySem.W.mg_of X G a_is_integer, k_is_integer, b_is_integer, ok_isint F_is_integer T⟩
  have H_is_from : Fn K mg l.prog w base CX0 "is_from" 2 f_is_from _ ["value", "low"] spFrom := ⟨PySem.W.mg_of X G a_is_from, k_is_from, b_is_from, ok_from F_is_from H_is_integer⟩
  have H_is_below : Fn K mg l.prog w base CX0 "is_below" 2 f_is_below _ ["value", "end"] spBelow := ⟨PySem.W.mg_of X G a_is_below, k_is_below, b_is_below, ok_below F_is_below H_is_integer⟩
  have H_is_row : Fn K mg l.prog w base CX0 "is_row" 1 f_is_row _ ["value"] spIsRow := ⟨PySem.W.mg_of X G a_is_row, k_is_row, b_is_row, ok_row F_is_row T⟩
  have H_is_bits : Fn K mg l.prog w base CX0 "is_bits" 3 f_is_bits _ ["value", "many"] spBits := ⟨PySem.W.mg_of X G a_is_bits, k_is_bits, b_is_bits, ok_bits F_is_bits T H_is_row H_is_below⟩
  have H_is_bit_rows : Fn K mg l.prog w base CX0 "is_bit_rows" 4 f_is_bit_rows _ ["value", "many"] spBitRows := ⟨PySem.W.mg_of X G a_is_bit_rows, k_is_bit_rows, b_is_bit_rows, ok_bitrows F_is_bit_rows T H_is_row H_is_bits⟩
  have H__are_signals : Fn K mg l.prog w base CX0 "_are_signals" 3 f__are_signals _ ["value", "many"] spSignals := ⟨PySem.W.mg_of X G a__are_signals, k__are_signals, b__are_signals, ok_signals F__are_signals T H_is_row H_is_below⟩
  have H__is_gate : Fn K mg l.prog w base CX0 "_is_gate" 4 f__is_gate _ ["value", "ahead"] spGate := ⟨PySem.W.mg_of X G a__is_gate, k__is_gate, b__is_gate, ok_gate F__is_gate T mP hP H__are_signals⟩
  have H__word_of_gate : Fn K mg l.prog w base CX0 "_word_of_gate" 1 f__word_of_gate _ ["gate", "values", "ones"] (spBit K) := ⟨PySem.W.mg_of X G a__word_of_gate, k__word_of_gate, b__word_of_gate, ok_bit F__word_of_gate ⟩
  have H__values : Fn K mg l.prog w base CX0 "_values" 2 f__values _ ["circuit", "state", "bits", "ones"] (spValues C) := ⟨PySem.W.mg_of X G a__values, k__values, b__values, ok_values F__values T TC H__word_of_gate⟩
  have H__picked : Fn K mg l.prog w base CX0 "_picked" 1 f__picked _ ["values", "signals"] (spPicked K) := ⟨PySem.W.mg_of X G a__picked, k__picked, b__picked, ok_picked F__picked T⟩
  have H_cycle_of : Fnd K mg l.prog w base CX0 "cycle_of" 3 f_cycle_of _ ["circuit", "state", "bits", "ones"] [.int 1] (spAnswer C) := ⟨PySem.W.mg_of X G a_cycle_of, k_cycle_of, D_cycle_of, ok_answer F_cycle_of T TC H__values H__picked⟩
  have H__check_state : Fn K mg l.prog w base CX0 "_check_state" 4 f__check_state _ ["circuit", "state"] (spCheckState C) := ⟨PySem.W.mg_of X G a__check_state, k__check_state, b__check_state, ok_cstate F__check_state T TC H_is_bits⟩
  have H__check_rows : Fn K mg l.prog w base CX0 "_check_rows" 5 f__check_rows _ ["circuit", "rows"] (spCheckRows C) := ⟨PySem.W.mg_of X G a__check_rows, k__check_rows, b__check_rows, ok_crows F__check_rows T TC H_is_bit_rows⟩
  have H_cycle : Fn K mg l.prog w base CX0 "cycle" 5 f_cycle _ ["circuit", "state", "bits"] (spCycle C) := ⟨PySem.W.mg_of X G a_cycle, k_cycle, b_cycle, ok_cycle F_cycle T TC H_is_bits H__check_state H__values H__picked⟩
  have H__played : Fn K mg l.prog w base CX0 "_played" 4 f__played _ ["circuit", "state", "rows"] (spPlayed C) := ⟨PySem.W.mg_of X G a__played, k__played, b__played, ok_played F__played T TC H_cycle_of⟩
  have H_run_from : Fn K mg l.prog w base CX0 "run_from" 6 f_run_from _ ["circuit", "state", "rows"] (spRunFrom C) := ⟨PySem.W.mg_of X G a_run_from, k_run_from, b_run_from, ok_runfrom F_run_from T TC H__check_state H__check_rows H__played⟩
  have H_state_behind : Fn K mg l.prog w base CX0 "state_behind" 6 f_state_behind _ ["circuit", "state", "rows"] (spBehind C) := ⟨PySem.W.mg_of X G a_state_behind, k_state_behind, b_state_behind, ok_behind F_state_behind T TC H__check_state H__check_rows H__played⟩
  have H_run : Fn K mg l.prog w base CX0 "run" 7 f_run _ ["circuit", "rows"] (spRun C) := ⟨PySem.W.mg_of X G a_run, k_run, b_run, ok_run F_run T TC H_run_from⟩
  have H__named_by : Fn K mg l.prog w base CX0 "_named_by" 1 f__named_by _ ["circuit", "signal"] (spNamed C) := ⟨PySem.W.mg_of X G a__named_by, k__named_by, b__named_by, ok_named F__named_by T TC⟩
  have H_needed : Fn K mg l.prog w base CX0 "needed" 2 f_needed _ ["circuit"] (spNeeded C) := ⟨PySem.W.mg_of X G a_needed, k_needed, b_needed, ok_needed F_needed T TC H__named_by⟩
  have CM : Mkc K mg l.prog w base C f_ini _ := ⟨⟨cmk, a_ini, fini, ckp⟩, ok_init F_ini T TC H_is_from H_is_row H_is_bits H__is_gate H__are_signals, b_ini, mC⟩
  have EQ : Eqo K mg l.prog w base C f_eq _ := ⟨a_eq, feq, ok_eqc F_eq T TC Tq mC, b_eq, nfo, nft⟩
  have H__law_pen : Fn K mg l.prog w base CX0 "_law_pen" 1 f__law_pen _ ["_law_script"] (spPen K) := ⟨PySem.W.mg_of X G a__law_pen, k__law_pen, b__law_pen, ok_pen F__law_pen TT⟩
  have H__law_draw : Fn K mg l.prog w base CX0 "_law_draw" 1 f__law_draw _ ["_law_pen_here", "_law_many"] spDraw := ⟨PySem.W.mg_of X G a__law_draw, k__law_draw, b__law_draw, ok_draw F__law_draw TT⟩
  have H__law_pick : Fn K mg l.prog w base CX0 "_law_pick" 2 f__law_pick _ ["_law_pen_here", "_law_some"] (spPick K) := ⟨PySem.W.mg_of X G a__law_pick, k__law_pick, b__law_pick, ok_pick F__law_pick TT (PySem.W.mg_of X G a__law_draw) (ok_draw F__law_draw TT) k__law_draw b__law_draw⟩
  have H__law_drawn_circuit : Fn K mg l.prog w base CX0 "_law_drawn_circuit" 3 f__law_drawn_circuit _ ["_law_pen_here", "_law_inputs", "_law_registers", "_law_gates"] spLCirc := ⟨PySem.W.mg_of X G a__law_drawn_circuit, k__law_drawn_circuit, b__law_drawn_circuit, ok_lcirc F__law_drawn_circuit T H__law_draw H__law_pick⟩
  have H__law_gate : Fn K mg l.prog w base CX0 "_law_gate" 1 f__law_gate _ ["_law_gate_here", "_law_values"] (spLGate K) := ⟨PySem.W.mg_of X G a__law_gate, k__law_gate, b__law_gate, ok_lgate F__law_gate T⟩
  have H__law_circuit_cycle : Fn K mg l.prog w base CX0 "_law_circuit_cycle" 2 f__law_circuit_cycle _ ["_law_circuit", "_law_state", "_law_bits"] spLCycle := ⟨PySem.W.mg_of X G a__law_circuit_cycle, k__law_circuit_cycle, b__law_circuit_cycle, ok_lcycle F__law_circuit_cycle T H__law_gate⟩
  have H__law_circuit_run : Fn K mg l.prog w base CX0 "_law_circuit_run" 3 f__law_circuit_run _ ["_law_circuit", "_law_rows"] spLRun := ⟨PySem.W.mg_of X G a__law_circuit_run, k__law_circuit_run, b__law_circuit_run, ok_lrun F__law_circuit_run T H__law_circuit_cycle⟩
  have H__law_bit_rows : Fn K mg l.prog w base CX0 "_law_bit_rows" 1 f__law_bit_rows _ ["_law_many"] spBitAll := ⟨PySem.W.mg_of X G a__law_bit_rows, k__law_bit_rows, b__law_bit_rows, ok_bitall F__law_bit_rows T⟩
  have H__law_drawn_rows : Fn K mg l.prog w base CX0 "_law_drawn_rows" 2 f__law_drawn_rows _ ["_law_pen_here", "_law_width", "_law_most"] spLRows := ⟨PySem.W.mg_of X G a__law_drawn_rows, k__law_drawn_rows, b__law_drawn_rows, ok_lrows F__law_drawn_rows T H__law_draw⟩
  have H__law_wide_circuit : Fn K mg l.prog w base CX0 "_law_wide_circuit" 4 f__law_wide_circuit _ ["_law_pen_here", "_law_inputs", "_law_registers", "_law_gates"] spLWide := ⟨PySem.W.mg_of X G a__law_wide_circuit, k__law_wide_circuit, b__law_wide_circuit, ok_lwide F__law_wide_circuit T H__law_draw H__law_drawn_circuit⟩
  have H__law_made_circuit : Fn K mg l.prog w base CX0 "_law_made_circuit" 7 f__law_made_circuit _ ["_law_pen_here", "_law_circuit"] (spLMade C) := ⟨PySem.W.mg_of X G a__law_made_circuit, k__law_made_circuit, b__law_made_circuit, ok_lmade F__law_made_circuit T H__law_pick CM⟩
  have H__law_parts : Fn K mg l.prog w base CX0 "_law_parts" 1 f__law_parts _ ["_law_circuit"] (spLParts C) := ⟨PySem.W.mg_of X G a__law_parts, k__law_parts, b__law_parts, ok_lparts F__law_parts T TC Tq mC⟩
  have H__law_outputs : Fn K mg l.prog w base CX0 "_law_outputs" 3 f__law_outputs _ ["_law_circuit", "_law_state", "_law_bits"] spLOut := ⟨PySem.W.mg_of X G a__law_outputs, k__law_outputs, b__law_outputs, ok_lout F__law_outputs T H__law_circuit_cycle⟩
  have H__law_needed : Fn K mg l.prog w base CX0 "_law_needed" 1 f__law_needed _ ["_law_circuit"] spLNeed := ⟨PySem.W.mg_of X G a__law_needed, k__law_needed, b__law_needed, ok_lneed F__law_needed T⟩
  have H__law_unlike_right : Fn K mg l.prog w base CX0 "_law_unlike_right" 7 f__law_unlike_right _ ["_law_pen_here", "_law_own", "_law_made"] (spLUnlike C) := ⟨PySem.W.mg_of X G a__law_unlike_right, k__law_unlike_right, b__law_unlike_right, ok_lunl F__law_unlike_right T TC Tq H__law_draw CM EQ⟩
  exact ok_law F_law T TC Tq EQ H__law_pen H__law_draw H__law_pick H__law_wide_circuit H__law_made_circuit H__law_parts H_needed H__law_needed H__law_unlike_right H__law_bit_rows H__law_circuit_cycle H_cycle H__law_drawn_rows H_run H__law_circuit_run H__law_outputs H_run_from H_state_behind
theorem walk {l : PySem.W.OpenLaw} {q : Program} {loose : List Str} {XP : (Str → Option Value) → Heap → Prop} {YP : World → Heap → Prop} {d : DefRec} {K : Params → PySem.W.Frag} (hn : l.most = some 63) (hdf : d.params.defaults = [])
    (hY : ∀ (w : World) (h : Heap), YP w h → (K w.params).In h)
    (F : ∀ (w : World) (mg : Str → Option Value) (fa : Addr) (h : Heap), (K w.params).In h → h.Ns mainGlobals mg → mg d.name = some (.ref fa) →
      ∃ fd : FuncData, (∀ (s : Shared) (u : Value), BindsTo s fd ⟨[u], []⟩ [("_law_script", u)]) ∧ ∀ base : Heap, (K w.params).In base → base.Ns mainGlobals mg → LawOk l.prog w (K w.params) mg base fa fd "_law_script" (spLaw (K w.params))) :
    PySem.W.WalkO q loose XP YP l.row.toRowW d [] (fun f vs => PySem.call f vs) :=
  walk_ofG (n := 63) (x := "_law_script") (sp := fun w => spLaw (K w.params)) hn (by decide) hdf hY F (fun _ _ a ns hl _ hS => ⟨a, ns, rfl, hS, hl, fun _ => rfl⟩)
end Sb
open PySem PySem.W PyProof.Rows
set_option maxRecDepth 100000 in
set_option maxHeartbeats 0 in
theorem PySem.Challenge.cw_sparkboard_k11_whole_cycles_and_runs_holds : PySem.Challenge.rw_sparkboard_k11_whole_cycles_and_runs.Holds := by
  w_on; o_law; k_head; (case hw => w_witness2)
  k_fill
  refine Sb.walk (l := PySem.Challenge.rw_sparkboard_k11_whole_cycles_and_runs) rfl rfl (fun w h Y => PySem.W.kIn_of Y) ?F
  case F =>
    intro w mg fa h KX G hmg
    refine' Sb.all_mk KX G hmg ?hn ?ht ?gC ?cpg ?chd ?cpo ?csa ?cn1 ?cn2 ?cn3 ?cn4 ?cn5 ?cha ?chm ?kown ?ktup ?cmk ?ckp ?nfo ?nft ?gP ?lP ?dP ?a_ini ?l_ini ?c_ini ?k_ini ?fini ?a_eq ?l_eq ?c_eq ?k_eq ?feq ?a_is_integer ?l_is_integer ?c_is_integer ?k_is_integer ?a_is_from ?l_is_from ?c_is_from ?k_is_from ?a_is_below ?l_is_below ?c_is_below ?k_is_below ?a_is_row ?l_is_row ?c_is_row ?k_is_row ?a_is_bits ?l_is_bits ?c_is_bits ?k_is_bits ?a_is_bit_rows ?l_is_bit_rows ?c_is_bit_rows ?k_is_bit_rows ?a__are_signals ?l__are_signals ?c__are_signals ?k__are_signals ?a__is_gate ?l__is_gate ?c__is_gate ?k__is_gate ?a__word_of_gate ?l__word_of_gate ?c__word_of_gate ?k__word_of_gate ?a__values ?l__values ?c__values ?k__values ?a__picked ?l__picked ?c__picked ?k__picked ?a_cycle_of ?l_cycle_of ?c_cycle_of ?k_cycle_of ?dl_cycle_of ?dv_cycle_of ?a__check_state ?l__check_state ?c__check_state ?k__check_state ?a__check_rows ?l__check_rows ?c__check_rows ?k__check_rows ?a_cycle ?l_cycle ?c_cycle ?k_cycle ?a__played ?l__played ?c__played ?k__played ?a_run_from ?l_run_from ?c_run_from ?k_run_from ?a_state_behind ?l_state_behind ?c_state_behind ?k_state_behind ?a_run ?l_run ?c_run ?k_run ?a__named_by ?l__named_by ?c__named_by ?k__named_by ?a_needed ?l_needed ?c_needed ?k_needed ?a__law_pen ?l__law_pen ?c__law_pen ?k__law_pen ?a__law_draw ?l__law_draw ?c__law_draw ?k__law_draw ?a__law_pick ?l__law_pick ?c__law_pick ?k__law_pick ?a__law_drawn_circuit ?l__law_drawn_circuit ?c__law_drawn_circuit ?k__law_drawn_circuit ?a__law_gate ?l__law_gate ?c__law_gate ?k__law_gate ?a__law_circuit_cycle ?l__law_circuit_cycle ?c__law_circuit_cycle ?k__law_circuit_cycle ?a__law_circuit_run ?l__law_circuit_run ?c__law_circuit_run ?k__law_circuit_run ?a__law_bit_rows ?l__law_bit_rows ?c__law_bit_rows ?k__law_bit_rows ?a__law_drawn_rows ?l__law_drawn_rows ?c__law_drawn_rows ?k__law_drawn_rows ?a__law_wide_circuit ?l__law_wide_circuit ?c__law_wide_circuit ?k__law_wide_circuit ?a__law_made_circuit ?l__law_made_circuit ?c__law_made_circuit ?k__law_made_circuit ?a__law_parts ?l__law_parts ?c__law_parts ?k__law_parts ?a__law_outputs ?l__law_outputs ?c__law_outputs ?k__law_outputs ?a__law_needed ?l__law_needed ?c__law_needed ?k__law_needed ?a__law_unlike_right ?l__law_unlike_right ?c__law_unlike_right ?k__law_unlike_right ?a_law ?l_law ?c_law ?k_law ?z_isinstance ?z_int ?z_bool ?z_str ?z_tuple ?z_list ?z_len ?z_all ?z_enumerate ?z_range ?z_sorted ?z_max ?z_repr
    (case hn => k_is)
    (case ht => k_is)
    (case gC => k_is)
    (case cpg => k_is)
    (case chd => k_is)
    (case cpo => k_is)
    (case csa => k_is)
    (case cn1 => k_is)
    (case cn2 => k_is)
    (case cn3 => k_is)
    (case cn4 => k_is)
    (case cn5 => k_is)
    (case cha => k_is)
    (case chm => k_is)
    (case kown => kit_is)
    (case ktup => kit_is)
    (case cmk => k_is)
    (case ckp => k_is)
    (case nfo => k_is)
    (case nft => k_is)
    (case gP => k_is)
    (case lP => k_is)
    (case dP => exact ⟨rfl, _, _, rfl, (by show 4 ≤ sizeLine; decide), .cons ⟨_, rfl⟩ (.cons ⟨_, rfl⟩ (.cons ⟨_, rfl⟩ (.cons ⟨_, rfl⟩ .nil)))⟩)
    (case a_ini => k_is)
    (case l_ini => k_is)
    (case c_ini => k_is)
    (case k_ini => k_is)
    (case fini => k_is)
    (case a_eq => k_is)
    (case l_eq => k_is)
    (case c_eq => k_is)
    (case k_eq => k_is)
    (case feq => k_is)
    (case a_is_integer => k_is)
    (case l_is_integer => k_is)
    (case c_is_integer => k_is)
    (case k_is_integer => k_is)
    (case a_is_from => k_is)
    (case l_is_from => k_is)
    (case c_is_from => k_is)
    (case k_is_from => k_is)
    (case a_is_below => k_is)
    (case l_is_below => k_is)
    (case c_is_below => k_is)
    (case k_is_below => k_is)
    (case a_is_row => k_is)
    (case l_is_row => k_is)
    (case c_is_row => k_is)
    (case k_is_row => k_is)
    (case a_is_bits => k_is)
    (case l_is_bits => k_is)
    (case c_is_bits => k_is)
    (case k_is_bits => k_is)
    (case a_is_bit_rows => k_is)
    (case l_is_bit_rows => k_is)
    (case c_is_bit_rows => k_is)
    (case k_is_bit_rows => k_is)
    (case a__are_signals => k_is)
    (case l__are_signals => k_is)
    (case c__are_signals => k_is)
    (case k__are_signals => k_is)
    (case a__is_gate => k_is)
    (case l__is_gate => k_is)
    (case c__is_gate => k_is)
    (case k__is_gate => k_is)
    (case a__word_of_gate => k_is)
    (case l__word_of_gate => k_is)
    (case c__word_of_gate => k_is)
    (case k__word_of_gate => k_is)
    (case a__values => k_is)
    (case l__values => k_is)
    (case c__values => k_is)
    (case k__values => k_is)
    (case a__picked => k_is)
    (case l__picked => k_is)
    (case c__picked => k_is)
    (case k__picked => k_is)
    (case a_cycle_of => k_is)
    (case l_cycle_of => k_is)
    (case c_cycle_of => k_is)
    (case k_cycle_of => k_is)
    (case dl_cycle_of => k_is)
    (case dv_cycle_of => exact ⟨[_], _, rfl, .cons ⟨_, rfl⟩ .nil⟩)
    (case a__check_state => k_is)
    (case l__check_state => k_is)
    (case c__check_state => k_is)
    (case k__check_state => k_is)
    (case a__check_rows => k_is)
    (case l__check_rows => k_is)
    (case c__check_rows => k_is)
    (case k__check_rows => k_is)
    (case a_cycle => k_is)
    (case l_cycle => k_is)
    (case c_cycle => k_is)
    (case k_cycle => k_is)
    (case a__played => k_is)
    (case l__played => k_is)
    (case c__played => k_is)
    (case k__played => k_is)
    (case a_run_from => k_is)
    (case l_run_from => k_is)
    (case c_run_from => k_is)
    (case k_run_from => k_is)
    (case a_state_behind => k_is)
    (case l_state_behind => k_is)
    (case c_state_behind => k_is)
    (case k_state_behind => k_is)
    (case a_run => k_is)
    (case l_run => k_is)
    (case c_run => k_is)
    (case k_run => k_is)
    (case a__named_by => k_is)
    (case l__named_by => k_is)
    (case c__named_by => k_is)
    (case k__named_by => k_is)
    (case a_needed => k_is)
    (case l_needed => k_is)
    (case c_needed => k_is)
    (case k_needed => k_is)
    (case a__law_pen => k_is)
    (case l__law_pen => k_is)
    (case c__law_pen => k_is)
    (case k__law_pen => k_is)
    (case a__law_draw => k_is)
    (case l__law_draw => k_is)
    (case c__law_draw => k_is)
    (case k__law_draw => k_is)
    (case a__law_pick => k_is)
    (case l__law_pick => k_is)
    (case c__law_pick => k_is)
    (case k__law_pick => k_is)
    (case a__law_drawn_circuit => k_is)
    (case l__law_drawn_circuit => k_is)
    (case c__law_drawn_circuit => k_is)
    (case k__law_drawn_circuit => k_is)
    (case a__law_gate => k_is)
    (case l__law_gate => k_is)
    (case c__law_gate => k_is)
    (case k__law_gate => k_is)
    (case a__law_circuit_cycle => k_is)
    (case l__law_circuit_cycle => k_is)
    (case c__law_circuit_cycle => k_is)
    (case k__law_circuit_cycle => k_is)
    (case a__law_circuit_run => k_is)
    (case l__law_circuit_run => k_is)
    (case c__law_circuit_run => k_is)
    (case k__law_circuit_run => k_is)
    (case a__law_bit_rows => k_is)
    (case l__law_bit_rows => k_is)
    (case c__law_bit_rows => k_is)
    (case k__law_bit_rows => k_is)
    (case a__law_drawn_rows => k_is)
    (case l__law_drawn_rows => k_is)
    (case c__law_drawn_rows => k_is)
    (case k__law_drawn_rows => k_is)
    (case a__law_wide_circuit => k_is)
    (case l__law_wide_circuit => k_is)
    (case c__law_wide_circuit => k_is)
    (case k__law_wide_circuit => k_is)
    (case a__law_made_circuit => k_is)
    (case l__law_made_circuit => k_is)
    (case c__law_made_circuit => k_is)
    (case k__law_made_circuit => k_is)
    (case a__law_parts => k_is)
    (case l__law_parts => k_is)
    (case c__law_parts => k_is)
    (case k__law_parts => k_is)
    (case a__law_outputs => k_is)
    (case l__law_outputs => k_is)
    (case c__law_outputs => k_is)
    (case k__law_outputs => k_is)
    (case a__law_needed => k_is)
    (case l__law_needed => k_is)
    (case c__law_needed => k_is)
    (case k__law_needed => k_is)
    (case a__law_unlike_right => k_is)
    (case l__law_unlike_right => k_is)
    (case c__law_unlike_right => k_is)
    (case k__law_unlike_right => k_is)
    (case a_law => k_is)
    (case l_law => k_is)
    (case c_law => k_is)
    (case k_law => k_is)
    (case z_isinstance => k_is)
    (case z_int => k_is)
    (case z_bool => k_is)
    (case z_str => k_is)
    (case z_tuple => k_is)
    (case z_list => k_is)
    (case z_len => k_is)
    (case z_all => k_is)
    (case z_enumerate => k_is)
    (case z_range => k_is)
    (case z_sorted => k_is)
    (case z_max => k_is)
    (case z_repr => k_is)
