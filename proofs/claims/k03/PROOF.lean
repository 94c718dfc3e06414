import PyProof.Rows.All
import Wide.All
import OpenK.AllK
import Wide.FinOn
import HandS.ForMost
import HandS.DictComp
import HandS.RevRange
import HandS.Deep
import HandS.NoneIn
import HandS.IsInst
import HandS.Star
import HandS.Conv
import HandS.Flow
import HandS.SortInts
import HandS.TupAny
import HandS.Defaults
import HandS.WordsExc
import HandS.Head0
import HandS.Head1
import HandS.Head2
import HandS.HeadEnd
import HandS.HeadHook1
import HandS.HeadHook2
import KE.KStateDown
import HandS.Zip
import PyProof.TypeEq
import PySem.Challenge.RW_whichbroke_k03_a_work_run
set_option Elab.async false
set_option linter.all false
set_option maxRecDepth 100000
set_option maxHeartbeats 8000000
/-! A layer of data over HandS: values that stand for plain data (ints, texts, tuples, lists, dicts), defs that only make new things. -/
namespace DL
open PySem PySem.Spec PyProof.Rows L2

abbrev PD := PyData
def kD : L2.Key → PD
  | .inl i => .int i
  | .inr x => .str x
/-- the law's script, as data -/
def scr (ns : List Int) : PD := .dict [(.none, .list (ns.map .int))]

mutual
inductive Rp (K : PySem.W.Frag) (H : Hp) : V → PD → Prop
  | non : Rp K H .non .none
  | bl (b : Bool) : Rp K H (.bl b) (.bool b)
  | int (i : Int) : Rp K H (.int i) (.int i)
  | str (x : Str) : Rp K H (.str x) (.str x)
  | lst {a : Addr} {xs : List V} {ds : List PD} : H a = some (.lst xs) → RpA K H xs ds → Rp K H (.ref a) (.list ds)
  | tup {a : Addr} {xs : List V} {ds : List PD} : SqT K H a xs → RpA K H xs ds → Rp K H (.ref a) (.tuple ds)
  | dct {a : Addr} {kvs : List (L2.Key × V)} {ds : List (PD × PD)} : H a = some (.dK kvs) → RpK K H kvs ds → Rp K H (.ref a) (.dict ds)
  | scr {a : Addr} {ns : List Int} : SqL K H a (ns.map V.int) → Rp K H (.ref a) (scr ns)
inductive RpA (K : PySem.W.Frag) (H : Hp) : List V → List PD → Prop
  | nil : RpA K H [] []
  | cons {v : V} {vs : List V} {d : PD} {ds : List PD} : Rp K H v d → RpA K H vs ds → RpA K H (v :: vs) (d :: ds)
inductive RpK (K : PySem.W.Frag) (H : Hp) : List (L2.Key × V) → List (PD × PD) → Prop
  | nil : RpK K H [] []
  | cons {k : L2.Key} {v : V} {kvs : List (L2.Key × V)} {d : PD} {ds : List (PD × PD)} : Rp K H v d → RpK K H kvs ds → RpK K H ((k, v) :: kvs) ((kD k, d) :: ds)
end

theorem same_rd {H H' : Hp} {a : Addr} {u : HO} (e : Same H H') (h : Rd H a u) : Rd H' a u := by
  rcases h with h | ⟨o, h⟩
  · exact .inl (e a _ h)
  · exact .inr ⟨o, e a _ h⟩
theorem same_sqt {K : PySem.W.Frag} {H H' : Hp} {a : Addr} {xs : List V} (e : Same H H') (h : SqT K H a xs) : SqT K H' a xs := by
  rcases h with h | h
  · exact .inl (same_rd e h)
  · exact .inr h

mutual
theorem Rp.mono {K : PySem.W.Frag} {H H' : Hp} (e : Same H H') : ∀ {v : V} {d : PD}, Rp K H v d → Rp K H' v d
  | _, _, .non => .non
  | _, _, .bl b => .bl b
  | _, _, .int i => .int i
  | _, _, .str x => .str x
  | _, _, .lst h r => .lst (e _ _ h) (RpA.mono e r)
  | _, _, .tup h r => .tup (same_sqt e h) (RpA.mono e r)
  | _, _, .dct h r => .dct (e _ _ h) (RpK.mono e r)
  | _, _, .scr h => .scr (e.seq h)
theorem RpA.mono {K : PySem.W.Frag} {H H' : Hp} (e : Same H H') : ∀ {v : List V} {d : List PD}, RpA K H v d → RpA K H' v d
  | _, _, .nil => .nil
  | _, _, .cons h r => .cons (Rp.mono e h) (RpA.mono e r)
theorem RpK.mono {K : PySem.W.Frag} {H H' : Hp} (e : Same H H') : ∀ {v : List (L2.Key × V)} {d : List (PD × PD)}, RpK K H v d → RpK K H' v d
  | _, _, .nil => .nil
  | _, _, .cons h r => .cons (Rp.mono e h) (RpK.mono e r)
end
section
variable {K : PySem.W.Frag} {H : Hp}
theorem RpA.len : ∀ {vs : List V} {ds : List PD}, RpA K H vs ds → vs.length = ds.length
  | _, _, .nil => rfl
  | _, _, .cons _ r => by rw [List.length_cons, List.length_cons, RpA.len r]
theorem RpA.get : ∀ {vs : List V} {ds : List PD} {i : Nat} {d : PD}, RpA K H vs ds → ds[i]? = some d → ∃ v, vs[i]? = some v ∧ Rp K H v d
  | _, _, _, _, .nil, e => by simp at e
  | _, _, 0, _, .cons h _, e => by simp at e; subst e; exact ⟨_, rfl, h⟩
  | _, _, i + 1, d, .cons _ r, e => by
    obtain ⟨v, h1, h2⟩ := RpA.get (i := i) (d := d) r (by simpa using e)
    exact ⟨v, by simpa using h1, h2⟩
theorem RpA.app : ∀ {vs ws : List V} {ds es : List PD}, RpA K H vs ds → RpA K H ws es → RpA K H (vs ++ ws) (ds ++ es)
  | _, _, _, _, .nil, s => s
  | _, _, _, _, .cons h r, s => .cons h (RpA.app r s)
theorem RpA.take : ∀ {vs : List V} {ds : List PD} (n : Nat), RpA K H vs ds → RpA K H (vs.take n) (ds.take n)
  | _, _, 0, _ => .nil
  | _, _, _ + 1, .nil => .nil
  | _, _, n + 1, .cons h r => .cons h (RpA.take n r)
theorem RpA.drop : ∀ {vs : List V} {ds : List PD} (n : Nat), RpA K H vs ds → RpA K H (vs.drop n) (ds.drop n)
  | _, _, 0, r => r
  | _, _, _ + 1, .nil => .nil
  | _, _, n + 1, .cons _ r => RpA.drop n r
theorem RpA.one {v : V} {d : PD} (h : Rp K H v d) : RpA K H [v] [d] := .cons h .nil
theorem RpA.ints : ∀ (ns : List Int), RpA K H (ns.map V.int) (ns.map .int)
  | [] => .nil
  | n :: ns => .cons (.int n) (RpA.ints ns)
theorem RpA.ints_inv : ∀ {vs : List V} {ns : List Int}, RpA K H vs (ns.map .int) → vs = ns.map V.int
  | _, [], .nil => rfl
  | _, n :: ns, .cons h r => by
    cases h
    rw [List.map_cons, RpA.ints_inv r]
theorem Rp.int_inv {v : V} {i : Int} (h : Rp K H v (.int i)) : v = .int i := by cases h; rfl
theorem Rp.bool_inv {v : V} {i : Bool} (h : Rp K H v (.bool i)) : v = .bl i := by cases h; rfl
theorem Rp.str_inv {v : V} {i : Str} (h : Rp K H v (.str i)) : v = .str i := by cases h; rfl
theorem Rp.none_inv {v : V} (h : Rp K H v .none) : v = .non := by cases h; rfl
theorem Rp.lst_inv {v : V} {ds : List PD} (h : Rp K H v (.list ds)) : ∃ a xs, v = .ref a ∧ H a = some (.lst xs) ∧ RpA K H xs ds := by
  cases h with | lst h r => exact ⟨_, _, rfl, h, r⟩
theorem Rp.tup_inv {v : V} {ds : List PD} (h : Rp K H v (.tuple ds)) : ∃ a xs, v = .ref a ∧ SqT K H a xs ∧ RpA K H xs ds := by
  cases h with | tup h r => exact ⟨_, _, rfl, h, r⟩
theorem Rp.scr_inv {v : V} {ns : List Int} (h : Rp K H v (DL.scr ns)) : ∃ a, v = .ref a ∧ SqL K H a (ns.map V.int) := by
  unfold DL.scr at h
  generalize e : (PyData.dict [(.none, .list (ns.map .int))]) = d at h
  cases h with
  | dct h r =>
    cases e
    generalize e2 : ([(.none, .list (ns.map .int))] : List (PD × PD)) = ds at r
    cases r with
    | nil => cases e2
    | cons h2 r2 =>
      rename_i k _ _ _ _
      have e3 := (Prod.mk.inj (List.cons.inj e2).1).1
      cases k <;> cases e3
  | scr h =>
    rename_i a ms
    unfold DL.scr at e
    have e2 : ns.map PyData.int = ms.map PyData.int := by
      have e3 := (Prod.mk.inj (List.cons.inj (PyData.dict.inj e)).1).2
      exact PyData.list.inj e3
    have e4 : ns = ms := (List.map_inj_right (fun x y h => PyData.int.inj h)).mp e2
    subst e4
    exact ⟨_, rfl, h⟩
  | _ => cases e
end
end DL

namespace DL
open PySem PySem.Spec PyProof.Rows L2

/-! ### what grows -/
/-- Ho: the part of the heap H that stays as it is; both grow -/
structure Gr (Ho H Ho' H' : Hp) : Prop where
  h : Same H H'
  o : Same Ho Ho'
  s : Same Ho' H'
  fr : ∀ a, H a ≠ none → Ho' a = Ho a
theorem Gr.refl {Ho H : Hp} (s : Same Ho H) : Gr Ho H Ho H := ⟨.refl _, .refl _, s, fun _ _ => rfl⟩
theorem ne_none {H H' : Hp} (e : Same H H') {a : Addr} (h : H a ≠ none) : H' a ≠ none := by
  cases q : H a with
  | none => exact absurd q h
  | some o => rw [e a o q]; intro z; cases z
theorem Gr.trans {Ho H H1o H1 H2o H2 : Hp} (g : Gr Ho H H1o H1) (k : Gr H1o H1 H2o H2) : Gr Ho H H2o H2 :=
  ⟨g.h.trans k.h, g.o.trans k.o, k.s, fun a h => (k.fr a (ne_none g.h h)).trans (g.fr a h)⟩
theorem same_new {H : Hp} {p : Addr} {o : HO} (h : H p = none) : Same H (upd H p o) := fun b x e => by
  rw [upd_ne (ne_of_none e h)]; exact e
theorem same_upd2 {Ho H : Hp} {p : Addr} {o : HO} (s : Same Ho H) : Same (upd Ho p o) (upd H p o) := fun b x e => by
  by_cases hb : b = p
  · subst hb; rw [upd_same] at e ⊢; exact e
  · rw [upd_ne hb] at e ⊢; exact s _ _ e
/-- a new thing that is nothing yet to others -/
theorem Gr.tmp {Ho H : Hp} {p : Addr} {o : HO} (s : Same Ho H) (h : H p = none) : Gr Ho H Ho (upd H p o) :=
  ⟨same_new h, .refl _, s.trans (same_new h), fun _ _ => rfl⟩
/-- a new thing that stays -/
theorem Gr.new {Ho H : Hp} {p : Addr} {o : HO} (s : Same Ho H) (h : H p = none) : Gr Ho H (upd Ho p o) (upd H p o) :=
  ⟨same_new h, same_new (s.free h), same_upd2 s, fun a ha => upd_ne (fun e => ha (by rw [e]; exact h))⟩
/-- what stands new in the heap is taken into the part that stays -/
theorem Gr.keep {Ho H Ho' H' : Hp} {p : Addr} {o : HO} (g : Gr Ho H Ho' H') (h : H p = none) (ho : Ho' p = none) (e : H' p = some o) : Gr Ho H (upd Ho' p o) H' :=
  ⟨g.h, g.o.trans (same_new ho), fun b x eb => by
    by_cases hb : b = p
    · subst hb; rw [upd_same] at eb; rw [e]; exact eb
    · rw [upd_ne hb] at eb; exact g.s _ _ eb,
   fun a ha => (upd_ne (fun e => ha (by rw [e]; exact h))).trans (g.fr a ha)⟩

/-! ### kinds of what an expression gives: c stays, e its items stay, t for now, o new and nobody else's -/
inductive Kd | c | e | t | o
  deriving DecidableEq

/-- an object of one's own -/
def Own (K : PySem.W.Frag) (Ho H : Hp) (p : Addr) : PD → Prop
  | .list ds => ∃ vs, H p = some (.lst vs) ∧ RpA K Ho vs ds
  | .tuple ds => ∃ vs, H p = some (.tup vs) ∧ RpA K Ho vs ds
  | .dict ds => ∃ kvs, H p = some (.dK kvs) ∧ RpK K Ho kvs ds
  | _ => False
/-- a container whose items stay -/
def RpE (K : PySem.W.Frag) (Ho H : Hp) (v : V) : PD → Prop
  | .list ds => ∃ p xs, v = .ref p ∧ H p = some (.lst xs) ∧ RpA K Ho xs ds
  | .tuple ds => ∃ p xs, v = .ref p ∧ SqT K H p xs ∧ RpA K Ho xs ds
  | .dict ds => (∃ p kvs, v = .ref p ∧ H p = some (.dK kvs) ∧ RpK K Ho kvs ds) ∨ Rp K Ho v (.dict ds)
  | d => Rp K Ho v d
def Rs (K : PySem.W.Frag) (k : Kd) (H Ho' H' : Hp) (v : V) (d : PD) : Prop := match k with
  | .c => Rp K Ho' v d
  | .e => RpE K Ho' H' v d
  | .t => Rp K H' v d
  | .o => ∃ p, v = .ref p ∧ H p = none ∧ Ho' p = none ∧ Own K Ho' H' p d
section
variable {K : PySem.W.Frag} {Ho H Ho' H' : Hp} {v : V} {d : PD}
theorem Own.ex {p : Addr} (h : Own K Ho H p d) : ∃ o, H p = some o := by
  cases d with
  | list ds => obtain ⟨vs, e, _⟩ := h; exact ⟨_, e⟩
  | tuple ds => obtain ⟨vs, e, _⟩ := h; exact ⟨_, e⟩
  | dict ds => obtain ⟨vs, e, _⟩ := h; exact ⟨_, e⟩
  | _ => exact h.elim
theorem Own.mono {p : Addr} (h : Own K Ho H p d) (eo : Same Ho Ho') (e : Same H H') : Own K Ho' H' p d := by
  cases d with
  | list ds => obtain ⟨vs, q, r⟩ := h; exact ⟨vs, e _ _ q, r.mono eo⟩
  | tuple ds => obtain ⟨vs, q, r⟩ := h; exact ⟨vs, e _ _ q, r.mono eo⟩
  | dict ds => obtain ⟨vs, q, r⟩ := h; exact ⟨vs, e _ _ q, r.mono eo⟩
  | _ => exact h.elim
theorem Own.rp {p : Addr} {o : HO} (h : Own K Ho H p d) (e : H p = some o) (hn : Ho p = none) : Rp K (upd Ho p o) (.ref p) d := by
  have m := same_new (o := o) hn
  cases d with
  | list ds => obtain ⟨vs, q, r⟩ := h; rw [e] at q; cases q; exact .lst upd_same (r.mono m)
  | tuple ds => obtain ⟨vs, q, r⟩ := h; rw [e] at q; cases q; exact .tup (.inl (.inl upd_same)) (r.mono m)
  | dict ds => obtain ⟨vs, q, r⟩ := h; rw [e] at q; cases q; exact .dct upd_same (r.mono m)
  | _ => exact h.elim
theorem Own.rpe {p : Addr} (h : Own K Ho H p d) : RpE K Ho H (.ref p) d := by
  cases d with
  | list ds => obtain ⟨vs, q, r⟩ := h; exact ⟨p, vs, rfl, q, r⟩
  | tuple ds => obtain ⟨vs, q, r⟩ := h; exact ⟨p, vs, rfl, .inl (.inl q), r⟩
  | dict ds => obtain ⟨vs, q, r⟩ := h; exact .inl ⟨p, vs, rfl, q, r⟩
  | _ => exact h.elim
theorem Rp.rpe (h : Rp K Ho v d) (s : Same Ho H) : RpE K Ho H v d := by
  cases d with
  | list ds => obtain ⟨p, xs, e, q, r⟩ := h.lst_inv; exact ⟨p, xs, e, s _ _ q, r⟩
  | tuple ds => obtain ⟨p, xs, e, q, r⟩ := h.tup_inv; exact ⟨p, xs, e, same_sqt s q, r⟩
  | dict ds => exact .inr h
  | _ => exact h
theorem RpE.rp (h : RpE K Ho H v d) (s : Same Ho H) : Rp K H v d := by
  cases d with
  | list ds => obtain ⟨p, xs, rfl, q, r⟩ := h; exact .lst q (r.mono s)
  | tuple ds => obtain ⟨p, xs, rfl, q, r⟩ := h; exact .tup q (r.mono s)
  | dict ds =>
    rcases h with ⟨p, xs, rfl, q, r⟩ | h
    · exact .dct q (r.mono s)
    · exact Rp.mono s h
  | _ => exact Rp.mono s h
end

/-! ### slots -/
inductive Sl | v (d : PD) | o (d : PD)
abbrev En := List (Option Sl)
def SlOk (K : PySem.W.Frag) (B Ho H : Hp) (x : Option (Option V)) : Sl → Prop
  | .v d => ∃ v, x = some (some v) ∧ Rp K Ho v d
  | .o d => ∃ p, x = some (some (.ref p)) ∧ Ho p = none ∧ B p = none ∧ Own K Ho H p d
def IsO : Sl → Prop
  | .v _ => False
  | .o _ => True
structure Fit (K : PySem.W.Frag) (B Bo Ho H : Hp) (σ : L2.St) (en : En) : Prop where
  bo : Same Bo B
  bh : Same B H
  boh : Same Bo Ho
  hoh : Same Ho H
  fr : ∀ a, B a ≠ none → Ho a = Bo a
  len : σ.length = en.length
  sl : ∀ (i : Nat) (s : Sl), en[i]? = some (some s) → SlOk K B Ho H σ[i]? s
  dj : ∀ (i j : Nat) (d d' : PD) (p : Addr), en[i]? = some (some (.o d)) → en[j]? = some (some (.o d')) → σ[i]? = some (some (.ref p)) → σ[j]? = some (some (.ref p)) → i = j
section
variable {K : PySem.W.Frag} {B Bo Ho H Ho' H' : Hp} {σ : L2.St} {en : En} {v : V} {d : PD} {i : Nat}
theorem SlOk.gr {x : Option (Option V)} {s : Sl} (h : SlOk K B Ho H x s) (bh : Same B H) (g : Gr Ho H Ho' H') : SlOk K B Ho' H' x s := by
  cases s with
  | v d => obtain ⟨v, e, r⟩ := h; exact ⟨v, e, r.mono g.o⟩
  | o d =>
    obtain ⟨p, e, n1, n2, w⟩ := h
    obtain ⟨o, eo⟩ := w.ex
    exact ⟨p, e, (g.fr p (by rw [eo]; intro z; cases z)).trans n1, n2, w.mono g.o g.h⟩
theorem Fit.gr (f : Fit K B Bo Ho H σ en) (g : Gr Ho H Ho' H') : Fit K B Bo Ho' H' σ en :=
  ⟨f.bo, f.bh.trans g.h, f.boh.trans g.o, g.s, fun a h => (g.fr a (ne_none f.bh h)).trans (f.fr a h), f.len, fun i s e => (f.sl i s e).gr f.bh g, f.dj⟩
theorem Fit.var (f : Fit K B Bo Ho H σ en) (h : en[i]? = some (some (.v d))) : ∃ v, σ[i]? = some (some v) ∧ Rp K Ho v d := f.sl i _ h
theorem Fit.own (f : Fit K B Bo Ho H σ en) (h : en[i]? = some (some (.o d))) : ∃ p, σ[i]? = some (some (.ref p)) ∧ Ho p = none ∧ B p = none ∧ Own K Ho H p d := f.sl i _ h
theorem get_set {α : Type} {l : List α} {i j : Nat} {a b : α} (h : (l.set i a)[j]? = some b) : (i = j ∧ b = a) ∨ (i ≠ j ∧ l[j]? = some b) := by
  by_cases e : i = j
  · subst e
    left
    rw [List.getElem?_set] at h
    simp at h
    exact ⟨rfl, h.2.symm⟩
  · rw [List.getElem?_set_ne e] at h
    exact .inr ⟨e, h⟩
theorem Fit.setV (f : Fit K B Bo Ho H σ en) (r : Rp K Ho v d) : Fit K B Bo Ho H (σ.set i (some v)) (en.set i (some (.v d))) := by
  refine ⟨f.bo, f.bh, f.boh, f.hoh, f.fr, by rw [List.length_set, List.length_set]; exact f.len, fun j s e => ?_, fun j k d1 d2 p e1 e2 e3 e4 => ?_⟩
  · have hj : j < (en.set i (some (.v d))).length := (List.getElem?_eq_some_iff.mp e).1
    rw [List.length_set, ← f.len] at hj
    rcases get_set e with ⟨rfl, e5⟩ | ⟨n, e5⟩
    · cases e5
      exact ⟨v, by rw [List.getElem?_set_self hj], r⟩
    · rw [List.getElem?_set_ne n]
      exact f.sl j s e5
  · rcases get_set e1 with ⟨_, e⟩ | ⟨n1, e1⟩
    · cases e
    rcases get_set e2 with ⟨_, e⟩ | ⟨n2, e2⟩
    · cases e
    rw [List.getElem?_set_ne n1] at e3
    rw [List.getElem?_set_ne n2] at e4
    exact f.dj j k d1 d2 p e1 e2 e3 e4
theorem Fit.drop (f : Fit K B Bo Ho H σ en) {x : Option V} : Fit K B Bo Ho H (σ.set i x) (en.set i none) := by
  refine ⟨f.bo, f.bh, f.boh, f.hoh, f.fr, by rw [List.length_set, List.length_set]; exact f.len, fun j s e => ?_, fun j k d1 d2 p e1 e2 e3 e4 => ?_⟩
  · rcases get_set e with ⟨rfl, e5⟩ | ⟨n, e5⟩
    · cases e5
    · rw [List.getElem?_set_ne n]
      exact f.sl j s e5
  · rcases get_set e1 with ⟨_, e⟩ | ⟨n1, e1⟩
    · cases e
    rcases get_set e2 with ⟨_, e⟩ | ⟨n2, e2⟩
    · cases e
    rw [List.getElem?_set_ne n1] at e3
    rw [List.getElem?_set_ne n2] at e4
    exact f.dj j k d1 d2 p e1 e2 e3 e4
/-- an object that is new since H -/
theorem Fit.setO {p : Addr} (f : Fit K B Bo Ho H σ en) (g : Gr Ho H Ho' H') (hp : H p = none) (ho : Ho' p = none) (w : Own K Ho' H' p d) : Fit K B Bo Ho' H' (σ.set i (some (.ref p))) (en.set i (some (.o d))) := by
  have f' := f.gr g
  have far : ∀ (j : Nat) (d' : PD), en[j]? = some (some (.o d')) → σ[j]? = some (some (.ref p)) → False := fun j d' e e2 => by
    obtain ⟨q, e3, _, _, w'⟩ := f.own e
    rw [e2] at e3
    cases e3
    obtain ⟨o, eo⟩ := w'.ex
    rw [hp] at eo
    cases eo
  refine ⟨f'.bo, f'.bh, f'.boh, f'.hoh, f'.fr, by rw [List.length_set, List.length_set]; exact f.len, fun j s e => ?_, fun j k d1 d2 q e1 e2 e3 e4 => ?_⟩
  · have hj : j < (en.set i (some (.o d))).length := (List.getElem?_eq_some_iff.mp e).1
    rw [List.length_set, ← f.len] at hj
    rcases get_set e with ⟨rfl, e5⟩ | ⟨n, e5⟩
    · cases e5
      exact ⟨p, by rw [List.getElem?_set_self hj], ho, f.bh.free hp, w⟩
    · rw [List.getElem?_set_ne n]
      exact f'.sl j s e5
  · have key : ∀ {j : Nat} {d1 : PD}, (en.set i (some (.o d)))[j]? = some (some (.o d1)) → (σ.set i (some (.ref p)))[j]? = some (some (.ref q)) → (i = j ∧ q = p) ∨ (i ≠ j ∧ en[j]? = some (some (.o d1)) ∧ σ[j]? = some (some (.ref q))) := fun {j d1} h1 h2 => by
      rcases get_set h1 with ⟨z1, _⟩ | ⟨n, z1⟩
      · rcases get_set h2 with ⟨_, z2⟩ | ⟨n, _⟩
        · cases z2; exact .inl ⟨z1, rfl⟩
        · exact absurd z1 n
      · rw [List.getElem?_set_ne n] at h2
        exact .inr ⟨n, z1, h2⟩
    rcases key e1 e3 with ⟨rfl, rfl⟩ | ⟨n1, a1, b1⟩
    · rcases key e2 e4 with ⟨rfl, _⟩ | ⟨n2, a2, b2⟩
      · rfl
      · exact (far _ _ a2 b2).elim
    · rcases key e2 e4 with ⟨rfl, rfl⟩ | ⟨n2, a2, b2⟩
      · exact (far _ _ a1 b1).elim
      · exact f.dj _ _ _ _ _ a1 a2 b1 b2
/-- one's own object becomes one that stays -/
theorem Fit.freeze (f : Fit K B Bo Ho H σ en) (h : en[i]? = some (some (.o d))) : ∃ Ho', Fit K B Bo Ho' H σ (en.set i (some (.v d))) ∧ Same Ho Ho' := by
  obtain ⟨p, e, n1, n2, w⟩ := f.own h
  obtain ⟨o, eo⟩ := w.ex
  have m := same_new (o := o) n1
  refine ⟨upd Ho p o, ⟨f.bo, f.bh, f.boh.trans m, fun b x eb => ?_, fun a ha => ?_, by rw [List.length_set]; exact f.len, fun j s ej => ?_, fun j k d1 d2 q e1 e2 e3 e4 => ?_⟩, m⟩
  · by_cases hb : b = p
    · subst hb; rw [upd_same] at eb; rw [eo]; exact eb
    · rw [upd_ne hb] at eb; exact f.hoh _ _ eb
  · rw [upd_ne (fun e => ha (by rw [e]; exact n2))]
    exact f.fr a ha
  · rcases get_set ej with ⟨rfl, e5⟩ | ⟨n, e5⟩
    · cases e5
      exact ⟨_, e, w.rp eo n1⟩
    · have q := f.sl j s e5
      cases s with
      | v d1 => obtain ⟨v, a, r⟩ := q; exact ⟨v, a, r.mono m⟩
      | o d1 =>
        obtain ⟨p1, a, b1, b2, w1⟩ := q
        have np : p1 ≠ p := fun z => by
          subst z
          exact n (f.dj i j _ _ _ h e5 e a)
        exact ⟨p1, a, (upd_ne np).trans b1, b2, w1.mono m (.refl _)⟩
  · rcases get_set e1 with ⟨_, z⟩ | ⟨n1, e1⟩
    · cases z
    rcases get_set e2 with ⟨_, z⟩ | ⟨n2, e2⟩
    · cases z
    exact f.dj j k d1 d2 q e1 e2 e3 e4
/-- one's own object is written: no other one is it -/
theorem Fit.write {p : Addr} {d' : PD} {o : HO} (f : Fit K B Bo Ho H σ en) (h : en[i]? = some (some (.o d))) (e : σ[i]? = some (some (.ref p))) (w : Own K Ho (upd H p o) p d') : Fit K B Bo Ho (upd H p o) σ (en.set i (some (.o d'))) := by
  obtain ⟨p', e', n1, n2, w0⟩ := f.own h
  rw [e] at e'
  cases e'
  refine ⟨f.bo, fun b x eb => ?_, f.boh, fun b x eb => ?_, f.fr, by rw [List.length_set]; exact f.len, fun j s ej => ?_, fun j k d1 d2 q e1 e2 e3 e4 => ?_⟩
  · rw [upd_ne (ne_of_none eb n2)]; exact f.bh _ _ eb
  · rw [upd_ne (ne_of_none eb n1)]; exact f.hoh _ _ eb
  · rcases get_set ej with ⟨rfl, e5⟩ | ⟨n, e5⟩
    · cases e5
      exact ⟨p, e, n1, n2, w⟩
    · have q := f.sl j s e5
      cases s with
      | v d1 => exact q
      | o d1 =>
        obtain ⟨p1, a, b1, b2, w1⟩ := q
        have np : p1 ≠ p := fun z => by
          subst z
          exact n (f.dj i j _ _ _ h e5 e a)
        refine ⟨p1, a, b1, b2, ?_⟩
        cases d1 with
        | list ds => obtain ⟨vs, q, r⟩ := w1; exact ⟨vs, (upd_ne np).trans q, r⟩
        | tuple ds => obtain ⟨vs, q, r⟩ := w1; exact ⟨vs, (upd_ne np).trans q, r⟩
        | dict ds => obtain ⟨vs, q, r⟩ := w1; exact ⟨vs, (upd_ne np).trans q, r⟩
        | _ => exact w1.elim
  · have back : ∀ {j : Nat} {d1 : PD}, (en.set i (some (.o d')))[j]? = some (some (.o d1)) → ∃ d2, en[j]? = some (some (.o d2)) := fun {j d1} z => by
      rcases get_set z with ⟨z1, _⟩ | ⟨n, z1⟩
      · exact ⟨d, by rw [← z1]; exact h⟩
      · exact ⟨d1, z1⟩
    obtain ⟨_, a1⟩ := back e1
    obtain ⟨_, a2⟩ := back e2
    exact f.dj j k _ _ q a1 a2 e3 e4
/-- slots forgotten -/
def Lee : En → En → Prop
  | [], [] => True
  | none :: r, _ :: s => Lee r s
  | some a :: r, b :: s => b = some a ∧ Lee r s
  | _, _ => False
theorem Lee.refl : ∀ en : En, Lee en en
  | [] => trivial
  | none :: r => Lee.refl r
  | some _ :: r => ⟨rfl, Lee.refl r⟩
theorem Lee.len : ∀ {a b : En}, Lee a b → a.length = b.length
  | [], [], _ => rfl
  | none :: r, _ :: s, h => by rw [List.length_cons, List.length_cons, Lee.len (a := r) (b := s) h]
  | some _ :: r, _ :: s, h => by rw [List.length_cons, List.length_cons, Lee.len h.2]
  | [], _ :: _, h => h.elim
  | none :: _, [], h => h.elim
  | some _ :: _, [], h => h.elim
theorem Lee.get : ∀ {a b : En} {i : Nat} {s : Sl}, Lee a b → a[i]? = some (some s) → b[i]? = some (some s)
  | [], _, _, _, _, e => by simp at e
  | none :: r, b :: s, 0, _, _, e => by simp at e
  | none :: r, b :: s, i + 1, x, h, e => by
    have := Lee.get (a := r) (b := s) (i := i) h (by simpa using e)
    simpa using this
  | some _ :: r, b :: s, 0, x, h, e => by
    obtain ⟨rfl, _⟩ := h
    simpa using e
  | some _ :: r, b :: s, i + 1, x, h, e => by
    have := Lee.get (a := r) (b := s) (i := i) h.2 (by simpa using e)
    simpa using this
  | none :: _, [], _, _, h, _ => h.elim
  | some _ :: _, [], _, _, h, _ => h.elim
theorem Fit.less {en' : En} (f : Fit K B Bo Ho H σ en) (l : Lee en' en) : Fit K B Bo Ho H σ en' :=
  ⟨f.bo, f.bh, f.boh, f.hoh, f.fr, f.len.trans l.len.symm, fun i s e => f.sl i s (l.get e), fun i j d d' p e1 e2 => f.dj i j d d' p (l.get e1) (l.get e2)⟩

/-! ### a base that holds what stays by now -/
def both (B Ho : Hp) : Hp := fun a => match B a with
  | some o => some o
  | none => Ho a
theorem both_of {B Ho : Hp} {a : Addr} (h : both B Ho a = none) : B a = none ∧ Ho a = none := by
  unfold both at h
  cases e : B a with
  | none => rw [e] at h; exact ⟨rfl, h⟩
  | some o => rw [e] at h; cases h
theorem both_b {B Ho : Hp} {a : Addr} {o : HO} (h : B a = some o) : both B Ho a = some o := by unfold both; rw [h]
theorem Fit.rebase (f : Fit K B Bo Ho H σ en) : Fit K (both B Ho) Ho Ho H σ en := by
  refine ⟨fun a o e => ?_, fun a o e => ?_, .refl _, f.hoh, fun _ _ => rfl, f.len, fun i s e => ?_, f.dj⟩
  · unfold both
    cases q : B a with
    | none => exact e
    | some o' =>
      have e2 := f.fr a (by rw [q]; intro z; cases z)
      rw [e] at e2
      have := f.bo a o e2.symm
      rw [q] at this
      exact this
  · unfold both at e
    cases q : B a with
    | none => rw [q] at e; exact f.hoh _ _ e
    | some o' => rw [q] at e; cases e; exact f.bh _ _ q
  · have h := f.sl i s e
    cases s with
    | v d => exact h
    | o d =>
      obtain ⟨p, e1, n1, n2, w⟩ := h
      refine ⟨p, e1, n1, ?_, w⟩
      unfold both
      rw [n2]
      exact n1
/-- back: f the first, g over the new base -/
theorem Fit.unbase {H2o H2 : Hp} {σ2 : L2.St} {en2 : En} (f : Fit K B Bo Ho H σ en) (g : Fit K (both B Ho) Ho H2o H2 σ2 en2) : Fit K B Bo H2o H2 σ2 en2 := by
  refine ⟨f.bo, fun a o e => g.bh _ _ (both_b e), f.boh.trans g.boh, g.hoh, fun a h => ?_, g.len, fun i s e => ?_, g.dj⟩
  · rw [g.fr a (by
      cases q : B a with
      | none => exact absurd q h
      | some o => rw [both_b q]; intro z; cases z)]
    exact f.fr a h
  · have h := g.sl i s e
    cases s with
    | v d => exact h
    | o d =>
      obtain ⟨p, e1, n1, n2, w⟩ := h
      exact ⟨p, e1, n1, (both_of n2).1, w⟩
theorem Fit.unbaseG {H2o H2 : Hp} (f : Fit K B Bo Ho H σ en) (g : Gr Ho (both B Ho) H2o H2) : Gr Bo B H2o H2 :=
  ⟨fun a o e => g.h _ _ (both_b e), f.boh.trans g.o, g.s, fun a h => by
    rw [g.fr a (by
      cases q : B a with
      | none => exact absurd q h
      | some o => rw [both_b q]; intro z; cases z)]
    exact f.fr a h⟩
theorem Rs.unbase {k : Kd} {H2o H2 : Hp} (h : Rs K k (both B Ho) H2o H2 v d) : Rs K k B H2o H2 v d := by
  cases k with
  | o => obtain ⟨p, e, n, r⟩ := h; exact ⟨p, e, (both_of n).1, r⟩
  | _ => exact h
end
end DL

namespace DL
open PySem PySem.Spec PyProof.Rows L2

/-! ### the weakest readings -/
structure wE (X : Cx) (e : Expr) (σ : L2.St) (H : Hp) (Q : VK) : Prop where
  run : ∀ (pins : List (Addr × Obj)) (s : Shared), Inv X pins σ H s → wpAny (model X.prog X.w) X.A (eval e X.env) (EP X pins σ Q) X.xe s
theorem pe_w {X : Cx} {e : Expr} : PE X e (wE X e) := ⟨fun pins s _ _ _ I h => h.run pins s I⟩
theorem wE_of {X : Cx} {e : Expr} {t : TE} {σ : L2.St} {H : Hp} {Q : VK} (h : PE X e t) (q : t σ H Q) : wE X e σ H Q := ⟨fun pins s I => h.run pins s σ H Q I q⟩
structure wT (X : Cx) (e : Expr) (σ : L2.St) (H : Hp) (Q : Bool → Hp → Prop) : Prop where
  run : ∀ (pins : List (Addr × Obj)) (s : Shared), Inv X pins σ H s → wpAny (model X.prog X.w) X.A (isTrue e X.env (eval e X.env)) (TP X pins σ Q) X.xe s
theorem pt_w {X : Cx} {e : Expr} : PT X e (wT X e) := ⟨fun pins s _ _ _ I h => h.run pins s I⟩
theorem wT_of {X : Cx} {e : Expr} {t : TT} {σ : L2.St} {H : Hp} {Q : Bool → Hp → Prop} (h : PT X e t) (q : t σ H Q) : wT X e σ H Q := ⟨fun pins s I => h.run pins s σ H Q I q⟩
structure wW (X : Cx) (e : Expr) (σ : L2.St) (H : Hp) (Q : Bool → Hp → Prop) : Prop where
  run : ∀ (whole : Sem Value) (pins : List (Addr × Obj)) (s : Shared), Inv X pins σ H s → wpAny (model X.prog X.w) X.A (isTrue e X.env whole) (TP X pins σ Q) X.xe s
theorem pw_w {X : Cx} {e : Expr} : PW X e (wW X e) := ⟨fun wh pins s _ _ _ I h => h.run wh pins s I⟩
theorem wW_of {X : Cx} {e : Expr} {t : TT} {σ : L2.St} {H : Hp} {Q : Bool → Hp → Prop} (h : PW X e t) (q : t σ H Q) : wW X e σ H Q := ⟨fun wh pins s I => h.run wh pins s σ H Q I q⟩
structure wA (X : Cx) (es : List Expr) (σ : L2.St) (H : Hp) (Q : List V → Hp → Prop) : Prop where
  run : ∀ (pos : Pos) (pins : List (Addr × Obj)) (s : Shared), Inv X pins σ H s → wpAny (model X.prog X.w) X.A (spliced (backTo pos (starEach es X.env))) (AP X pins σ Q) X.xe s
theorem pa_w {X : Cx} {es : List Expr} : PA X es (wA X es) := ⟨fun pos pins s _ _ _ I h => h.run pos pins s I⟩
theorem wA_of {X : Cx} {es : List Expr} {t : TA} {σ : L2.St} {H : Hp} {Q : List V → Hp → Prop} (h : PA X es t) (q : t σ H Q) : wA X es σ H Q := ⟨fun pos pins s I => h.run pos pins s σ H Q I q⟩
structure wS (X : Cx) (st : Stmt) (D : Ends) (σ : L2.St) (H : Hp) : Prop where
  run : ∀ (pins : List (Addr × Obj)) (s : Shared), Inv X pins σ H s → wpAny (model X.prog X.w) X.A (exec st X.env) (SP X pins D) X.xe s
theorem ps_w {X : Cx} {st : Stmt} : PS X st (wS X st) := ⟨fun pins s _ _ _ I h => h.run pins s I⟩
theorem wS_of {X : Cx} {st : Stmt} {t : TS} {D : Ends} {σ : L2.St} {H : Hp} (h : PS X st t) (q : t D σ H) : wS X st D σ H := ⟨fun pins s I => h.run pins s σ H D I q⟩
structure wSs (X : Cx) (st : List Stmt) (D : Ends) (σ : L2.St) (H : Hp) : Prop where
  run : ∀ (pins : List (Addr × Obj)) (s : Shared), Inv X pins σ H s → wpAny (model X.prog X.w) X.A (execs st X.env) (SP X pins D) X.xe s
theorem pss_w {X : Cx} {st : List Stmt} : PSs X st (wSs X st) := ⟨fun pins s _ _ _ I h => h.run pins s I⟩
theorem wSs_of {X : Cx} {st : List Stmt} {t : TS} {D : Ends} {σ : L2.St} {H : Hp} (h : PSs X st t) (q : t D σ H) : wSs X st D σ H := ⟨fun pins s I => h.run pins s σ H D I q⟩
structure wG (X : Cx) (tg : Expr) (v : V) (σ : L2.St) (H : Hp) (Q : L2.St → Hp → Prop) : Prop where
  run : ∀ (pins : List (Addr × Obj)) (s : Shared) (u : Value), Inv X pins σ H s → RelV v u → wpAny (model X.prog X.w) X.A (assign tg X.env u) (fun _ s' => ∃ σ' H', Inv X pins σ' H' s' ∧ Q σ' H') X.xe s
theorem pg_w {X : Cx} {tg : Expr} : PG X tg (wG X tg) := ⟨fun pins s _ _ _ u _ I r h => h.run pins s u I r⟩
theorem wG_of {X : Cx} {tg : Expr} {t : TG} {v : V} {σ : L2.St} {H : Hp} {Q : L2.St → Hp → Prop} (h : PG X tg t) (q : t v σ H Q) : wG X tg v σ H Q := ⟨fun pins s u I r => h.run pins s σ H v u Q I r q⟩

/-! ### the judgements over data -/
def DE (X : Cx) (en : En) (e : Expr) (k : Kd) (d : PD) : Prop := ∀ (B Bo Ho H : Hp) (σ : L2.St), Fit X.K B Bo Ho H σ en → ∀ Q : VK, (∀ v Ho' H', Gr Ho H Ho' H' → Rs X.K k H Ho' H' v d → Q v H') → wE X e σ H Q
def DT (X : Cx) (en : En) (e : Expr) (b : Bool) : Prop := ∀ (B Bo Ho H : Hp) (σ : L2.St), Fit X.K B Bo Ho H σ en → ∀ Q : Bool → Hp → Prop, (∀ Ho' H', Gr Ho H Ho' H' → Q b H') → wT X e σ H Q
def DW (X : Cx) (en : En) (e : Expr) (b : Bool) : Prop := ∀ (B Bo Ho H : Hp) (σ : L2.St), Fit X.K B Bo Ho H σ en → ∀ Q : Bool → Hp → Prop, (∀ Ho' H', Gr Ho H Ho' H' → Q b H') → wW X e σ H Q
def hK (k : Kd) (Ho H : Hp) : Hp := match k with
  | .c => Ho
  | _ => H
def DA (X : Cx) (en : En) (es : List Expr) (k : Kd) (ds : List PD) : Prop := ∀ (B Bo Ho H : Hp) (σ : L2.St), Fit X.K B Bo Ho H σ en → ∀ Q : List V → Hp → Prop, (∀ vs Ho' H', Gr Ho H Ho' H' → RpA X.K (hK k Ho' H') vs ds → Q vs H') → wA X es σ H Q

section
variable {K : PySem.W.Frag} {k : Kd} {H0 H Ho H1o H1 H2o H2 : Hp} {v : V} {d : PD}
theorem Rs.gr (h : Rs K k H0 H1o H1 v d) (g : Gr H1o H1 H2o H2) : Rs K k H0 H2o H2 v d := by
  cases k with
  | c => exact Rp.mono g.o h
  | e =>
    cases d with
    | list ds => obtain ⟨p, xs, e, q, r⟩ := h; exact ⟨p, xs, e, g.h _ _ q, r.mono g.o⟩
    | tuple ds => obtain ⟨p, xs, e, q, r⟩ := h; exact ⟨p, xs, e, same_sqt g.h q, r.mono g.o⟩
    | dict ds =>
      rcases h with ⟨p, xs, e, q, r⟩ | h
      · exact .inl ⟨p, xs, e, g.h _ _ q, r.mono g.o⟩
      · exact .inr (Rp.mono g.o h)
    | _ => exact Rp.mono g.o h
  | t => exact Rp.mono g.h h
  | o =>
    obtain ⟨p, e, n1, n2, w⟩ := h
    obtain ⟨o, eo⟩ := w.ex
    exact ⟨p, e, n1, (g.fr p (by rw [eo]; intro z; cases z)).trans n2, w.mono g.o g.h⟩
theorem Rs.base (e : Same H H1) (h : Rs K k H1 H2o H2 v d) : Rs K k H H2o H2 v d := by
  cases k with
  | o => obtain ⟨p, e1, n, r⟩ := h; exact ⟨p, e1, e.free n, r⟩
  | _ => exact h
theorem Rs.rpt (h : Rs K k H0 H1o H1 v d) (s : Same H1o H1) : Rp K H1 v d := by
  cases k with
  | c => exact Rp.mono s h
  | e => exact RpE.rp h s
  | t => exact h
  | o =>
    obtain ⟨p, rfl, n1, n2, w⟩ := h
    exact w.rpe.rp s
theorem Rs.rpe (h : Rs K k H0 H1o H1 v d) (s : Same H1o H1) (hk : k ≠ .t) : RpE K H1o H1 v d := by
  cases k with
  | c => exact Rp.rpe h s
  | e => exact h
  | t => exact absurd rfl hk
  | o =>
    obtain ⟨p, rfl, n1, n2, w⟩ := h
    exact w.rpe
theorem Rs.int_inv {i : Int} (h : Rs K k H0 H1o H1 v (.int i)) : v = .int i := by
  cases k with
  | o => obtain ⟨p, _, _, _, w⟩ := h; exact w.elim
  | _ => exact Rp.int_inv h
theorem Rs.bool_inv {i : Bool} (h : Rs K k H0 H1o H1 v (.bool i)) : v = .bl i := by
  cases k with
  | o => obtain ⟨p, _, _, _, w⟩ := h; exact w.elim
  | _ => exact Rp.bool_inv h
theorem Rs.str_inv {i : Str} (h : Rs K k H0 H1o H1 v (.str i)) : v = .str i := by
  cases k with
  | o => obtain ⟨p, _, _, _, w⟩ := h; exact w.elim
  | _ => exact Rp.str_inv h
theorem Rs.none_inv (h : Rs K k H0 H1o H1 v .none) : v = .non := by
  cases k with
  | o => obtain ⟨p, _, _, _, w⟩ := h; exact w.elim
  | _ => exact Rp.none_inv h
def sc : PD → Bool
  | .int _ => true | .bool _ => true | .str _ => true | .none => true | _ => false
theorem Rp.scal {H' : Hp} (h : Rp K H v d) (hs : sc d = true) : Rp K H' v d := by
  cases h with
  | non => exact .non
  | bl b => exact .bl b
  | int i => exact .int i
  | str x => exact .str x
  | _ => cases hs
end

section
variable {X : Cx} {en : En} {a b e : Expr} {pos : Pos} {k ka kb : Kd} {d da db : PD}

/-! ### turning kinds -/
theorem DE.kt (h : DE X en e k d) : DE X en e .t d := fun B Bo Ho H σ f Q q => h B Bo Ho H σ f Q fun v Ho' H' g r => q v Ho' H' g (r.rpt g.s)
theorem DE.ke (h : DE X en e k d) (hk : k ≠ .t := by decide) : DE X en e .e d := fun B Bo Ho H σ f Q q => h B Bo Ho H σ f Q fun v Ho' H' g r => q v Ho' H' g (r.rpe g.s hk)
theorem DE.kc (h : DE X en e .o d) : DE X en e .c d := fun B Bo Ho H σ f Q q => h B Bo Ho H σ f Q fun v Ho' H' g r => by
  obtain ⟨p, rfl, n1, n2, w⟩ := r
  obtain ⟨o, eo⟩ := w.ex
  exact q _ _ _ (g.keep n1 n2 eo) (w.rp eo n2)
theorem DE.scal (h : DE X en e k d) (hs : sc d = true) : DE X en e .c d := fun B Bo Ho H σ f Q q => h B Bo Ho H σ f Q fun v Ho' H' g r => q v Ho' H' g (Rp.scal (r.rpt g.s) hs)
theorem DE.is {d' : PD} (h : DE X en e k d) (q : d = d') : DE X en e k d' := q ▸ h
theorem DT.is {c c' : Bool} (h : DT X en e c) (q : c = c') : DT X en e c' := q ▸ h

/-! ### names, constants -/
def visB (sc : Scope) (x : Str) : Bool := match sc.names.lookup x with
  | some .local => true
  | some .cell => true
  | some .free => true
  | _ => false
theorem vis_of {sc : Scope} {x : Str} (h : visB sc x = true) : Vis sc x := by
  unfold visB at h
  split at h
  · exact .inl (by assumption)
  · exact .inr (.inl (by assumption))
  · exact .inr (.inr (by assumption))
  · cases h
def glB (X : Cx) (x : Str) : Bool := match X.env.kindOf x with
  | some .globalImplicit => true
  | _ => false
theorem gl_of {X : Cx} {x : Str} (h : glB X x = true) : Gl X x := by
  unfold glB at h
  split at h
  · assumption
  · cases h
def locB (sc : Scope) (x : Str) : Bool := match sc.names.lookup x with
  | some .local => true
  | some .cell => true
  | _ => false
theorem loc_of {sc : Scope} {x : Str} (h : locB sc x = true) : Loc sc x := by
  unfold locB at h
  split at h
  · exact .inl (by assumption)
  · exact .inr (by assumption)
  · cases h
def fnB (X : Cx) (x : Str) : Bool := match X.fn x with
  | true => true
  | false => match X.env.scope.names.lookup x with
    | some .local => true
    | _ => false
theorem fn_ofB {X : Cx} {x : Str} (h : fnB X x = true) : X.fn x = true ∨ X.env.scope.names.lookup x = some .local := by
  unfold fnB at h
  split at h
  · exact .inl (by assumption)
  · split at h
    · exact .inr (by assumption)
    · cases h
theorem de_v (i : Nat) {x : Str} (h : en[i]? = some (some (.v d)) := by rfl) (hN : X.N[i]? = some x := by kernel_rfl) (hv : visB X.env.scope x = true := by kernel_rfl)
    (hd : (x == ("__debug__" : Str)) = false := by kernel_rfl) (hcd : (x == ("__classdict__" : Str)) = false := by kernel_rfl) : DE X en (.Name x pos) .c d := fun B Bo Ho H σ f Q q => by
  obtain ⟨v, e1, r⟩ := f.var h
  exact wE_of (pe_var hN (vis_of hv) hd hcd) ⟨v, e1, q v Ho H (.refl f.hoh) r⟩
theorem de_vo (i : Nat) {x : Str} (h : en[i]? = some (some (.o d)) := by rfl) (hN : X.N[i]? = some x := by kernel_rfl) (hv : visB X.env.scope x = true := by kernel_rfl)
    (hd : (x == ("__debug__" : Str)) = false := by kernel_rfl) (hcd : (x == ("__classdict__" : Str)) = false := by kernel_rfl) : DE X en (.Name x pos) .e d := fun B Bo Ho H σ f Q q => by
  obtain ⟨p, e1, n1, n2, w⟩ := f.own h
  exact wE_of (pe_var hN (vis_of hv) hd hcd) ⟨_, e1, q _ Ho H (.refl f.hoh) w.rpe⟩
theorem de_int {i j} : DE X en (.Constant (.int i) j pos) .c (.int i) := fun B Bo Ho H σ f Q q => wE_of pe_int (q _ Ho H (.refl f.hoh) (.int i))
theorem de_bl {i j} : DE X en (.Constant (.bool i) j pos) .c (.bool i) := fun B Bo Ho H σ f Q q => wE_of pe_bl (q _ Ho H (.refl f.hoh) (.bl i))
theorem de_non {j} : DE X en (.Constant .none j pos) .c .none := fun B Bo Ho H σ f Q q => wE_of pe_non (q _ Ho H (.refl f.hoh) .non)
theorem de_str {x j} : DE X en (.Constant (.str x) j pos) .c (.str x) := fun B Bo Ho H σ f Q q => wE_of pe_str (q _ Ho H (.refl f.hoh) (.str x))

/-! ### operators -/
/-- an operation on two values, over data -/
def Op2 (K : PySem.W.Frag) (r : R2) (ka : Kd) (da : PD) (kb : Kd) (db : PD) (k : Kd) (d : PD) : Prop := ∀ (H0 H0' Ho H : Hp) (v u : V), Same Ho H → Rs K ka H0 Ho H v da → Rs K kb H0' Ho H u db → ∀ Q : VK, (∀ z Ho' H', Gr Ho H Ho' H' → Rs K k H Ho' H' z d → Q z H') → r v u H Q
theorem de_op {op : Operator} {r : R2} (ho : OpR X (binaryOp op) r) (ha : DE X en a ka da) (hb : DE X en b kb db) (hr : Op2 X.K r ka da kb db k d) : DE X en (.BinOp a op b pos) k d := fun B Bo Ho H σ f Q q => by
  refine wE_of (pe_op ho pe_w pe_w) ?_
  refine ha B Bo Ho H σ f _ fun v H1o H1 g1 r1 => ?_
  refine hb B Bo H1o H1 σ (f.gr g1) _ fun u H2o H2 g2 r2 => ?_
  exact hr H H1 H2o H2 v u g2.s (r1.gr g2) r2 Q fun z H3o H3 g3 r3 => q z H3o H3 ((g1.trans g2).trans g3) (r3.base (g1.h.trans g2.h))
theorem de_cmp {op : CmpOp} {r : R2} (ho : OpR X (compareOp op) r) (ha : DE X en a ka da) (hb : DE X en b kb db) (hr : Op2 X.K r ka da kb db k d) (hm : behindInMarks op b = false := by kernel_rfl) : DE X en (.Compare a [op] [b] pos) k d := fun B Bo Ho H σ f Q q => by
  refine wE_of (pe_cmpR ho pe_w pe_w hm) ?_
  refine ha B Bo Ho H σ f _ fun v H1o H1 g1 r1 => ?_
  refine hb B Bo H1o H1 σ (f.gr g1) _ fun u H2o H2 g2 r2 => ?_
  exact hr H H1 H2o H2 v u g2.s (r1.gr g2) r2 Q fun z H3o H3 g3 r3 => q z H3o H3 ((g1.trans g2).trans g3) (r3.base (g1.h.trans g2.h))
theorem dt_cmp {op : CmpOp} {r : R2} {c : Bool} (ho : OpR X (compareOp op) r) (ha : DE X en a ka da) (hb : DE X en b kb db) (hr : Op2 X.K r ka da kb db k (.bool c)) (hm : behindInMarks op b = false := by kernel_rfl) : DT X en (.Compare a [op] [b] pos) c := fun B Bo Ho H σ f Q q => by
  refine wT_of (pt_cmpR ho pe_w pe_w hm) ?_
  refine ha B Bo Ho H σ f _ fun v H1o H1 g1 r1 => ?_
  refine hb B Bo H1o H1 σ (f.gr g1) _ fun u H2o H2 g2 r2 => ?_
  exact hr H H1 H2o H2 v u g2.s (r1.gr g2) r2 _ fun z H3o H3 g3 r3 => ⟨c, r3.bool_inv, q H3o H3 ((g1.trans g2).trans g3)⟩
variable {K : PySem.W.Frag} {i j : Int}
theorem o2_I0 {g : Int → Int → V} {gd : PD} (hg : ∀ H, Rp K H (g i j) gd) : Op2 K (rI0 g) ka (.int i) kb (.int j) .c gd := fun H0 H0' Ho H v u s r1 r2 Q q =>
  ⟨i, j, r1.int_inv, r2.int_inv, q _ Ho H (.refl s) (hg _)⟩
theorem o2_I {C : Int → Int → Prop} {g : Int → Int → V} {gd : PD} (hc : C i j) (hg : ∀ H, Rp K H (g i j) gd) : Op2 K (rI C g) ka (.int i) kb (.int j) .c gd := fun H0 H0' Ho H v u s r1 r2 Q q =>
  ⟨i, j, r1.int_inv, r2.int_inv, hc, q _ Ho H (.refl s) (hg _)⟩
theorem de_add (ha : DE X en a ka (.int i)) (hb : DE X en b kb (.int j)) : DE X en (.BinOp a .Add b pos) .c (.int (i + j)) := de_op op_add ha hb (o2_I0 fun _ => .int _)
theorem de_sub (ha : DE X en a ka (.int i)) (hb : DE X en b kb (.int j)) : DE X en (.BinOp a .Sub b pos) .c (.int (i - j)) := de_op op_sub ha hb (o2_I0 fun _ => .int _)
theorem de_mul (ha : DE X en a ka (.int i)) (hb : DE X en b kb (.int j)) (hc : CMul i j) : DE X en (.BinOp a .Mult b pos) .c (.int (i * j)) := de_op op_mul ha hb (o2_I hc fun _ => .int _)
theorem de_mod (ha : DE X en a ka (.int i)) (hb : DE X en b kb (.int j)) (hc : 0 < j) : DE X en (.BinOp a .Mod b pos) .c (.int (i % j)) := de_op op_mod ha hb (o2_I hc fun _ => .int _)
theorem de_div (ha : DE X en a ka (.int i)) (hb : DE X en b kb (.int j)) (hc : CDiv i j) : DE X en (.BinOp a .FloorDiv b pos) .c (.int (i / j)) := de_op op_fdiv ha hb (o2_I hc fun _ => .int _)
theorem de_pow (ha : DE X en a ka (.int i)) (hb : DE X en b kb (.int j)) (hc : CPow i j) : DE X en (.BinOp a .Pow b pos) .c (.int (i ^ j.toNat)) := de_op op_pow ha hb (o2_I hc fun _ => .int _)
theorem de_neg (ha : DE X en a ka (.int i)) : DE X en (.UnaryOp .USub a pos) .c (.int (-i)) := fun B Bo Ho H σ f Q q => by
  refine wE_of (pe_un un_neg pe_w) ?_
  refine ha B Bo Ho H σ f _ fun v H1o H1 g1 r1 => ?_
  exact ⟨i, r1.int_inv, q _ H1o H1 g1 (.int _)⟩
theorem de_lt (ha : DE X en a ka (.int i)) (hb : DE X en b kb (.int j)) (hm : behindInMarks .Lt b = false := by kernel_rfl) : DE X en (.Compare a [.Lt] [b] pos) .c (.bool (decide (i < j))) := de_cmp op_lt ha hb (o2_I0 fun _ => .bl _) hm
theorem de_le (ha : DE X en a ka (.int i)) (hb : DE X en b kb (.int j)) (hm : behindInMarks .LtE b = false := by kernel_rfl) : DE X en (.Compare a [.LtE] [b] pos) .c (.bool (decide (i ≤ j))) := de_cmp op_le ha hb (o2_I0 fun _ => .bl _) hm
theorem de_gt (ha : DE X en a ka (.int i)) (hb : DE X en b kb (.int j)) (hm : behindInMarks .Gt b = false := by kernel_rfl) : DE X en (.Compare a [.Gt] [b] pos) .c (.bool (decide (j < i))) := de_cmp op_gt ha hb (o2_I0 fun _ => .bl _) hm
theorem de_ge (ha : DE X en a ka (.int i)) (hb : DE X en b kb (.int j)) (hm : behindInMarks .GtE b = false := by kernel_rfl) : DE X en (.Compare a [.GtE] [b] pos) .c (.bool (decide (j ≤ i))) := de_cmp op_ge ha hb (o2_I0 fun _ => .bl _) hm
theorem dt_lt (ha : DE X en a ka (.int i)) (hb : DE X en b kb (.int j)) (hm : behindInMarks .Lt b = false := by kernel_rfl) : DT X en (.Compare a [.Lt] [b] pos) (decide (i < j)) := dt_cmp op_lt ha hb (o2_I0 fun _ => .bl _) hm
theorem dt_le (ha : DE X en a ka (.int i)) (hb : DE X en b kb (.int j)) (hm : behindInMarks .LtE b = false := by kernel_rfl) : DT X en (.Compare a [.LtE] [b] pos) (decide (i ≤ j)) := dt_cmp op_le ha hb (o2_I0 fun _ => .bl _) hm
theorem dt_gt (ha : DE X en a ka (.int i)) (hb : DE X en b kb (.int j)) (hm : behindInMarks .Gt b = false := by kernel_rfl) : DT X en (.Compare a [.Gt] [b] pos) (decide (j < i)) := dt_cmp op_gt ha hb (o2_I0 fun _ => .bl _) hm
theorem dt_ge (ha : DE X en a ka (.int i)) (hb : DE X en b kb (.int j)) (hm : behindInMarks .GtE b = false := by kernel_rfl) : DT X en (.Compare a [.GtE] [b] pos) (decide (j ≤ i)) := dt_cmp op_ge ha hb (o2_I0 fun _ => .bl _) hm

/-! ### == -/
/-- no dict in it -/
def nd0 (d : PD) : Bool := d.canLay0
mutual
theorem Rp.dp {H : Hp} : ∀ {v : V} {d : PD}, Rp K H v d → d.canLay0 = true → Dp K H v d
  | _, _, .non, _ => .non
  | _, _, .bl b, _ => .bl b
  | _, _, .int i, _ => .int i
  | _, _, .str x, _ => .str x
  | _, _, .lst h r, c => .lst (.inl (.inl h)) (RpA.dp r (by simpa [PyData.canLay0] using c))
  | _, _, .tup h r, c => .tup h (RpA.dp r (by simpa [PyData.canLay0] using c))
  | _, _, .dct h r, c => by simp [PyData.canLay0] at c
  | _, _, .scr h, c => by simp [DL.scr, PyData.canLay0] at c
theorem RpA.dp {H : Hp} : ∀ {v : List V} {d : List PD}, RpA K H v d → PyData.canLayAll0 d = true → DpAll K H v d
  | _, _, .nil, _ => .nil
  | _, _, .cons h r, c => by
    simp only [PyData.canLayAll0, Bool.and_eq_true] at c
    exact .cons (Rp.dp h c.1) (RpA.dp r c.2)
end
theorem o2_eqD (h1 : SeqAt.shaped da = true) (h2 : SeqAt.shaped db = true) : Op2 K (rEqD K) ka da kb db .c (.bool (PyData.eqv da db)) := fun H0 H0' Ho H v u s r1 r2 Q q =>
  ⟨da, db, (r1.rpt s).dp (SeqAt.canLay_of_shaped h1), (r2.rpt s).dp (SeqAt.canLay_of_shaped h2), h1, h2, q _ Ho H (.refl s) (.bl _)⟩
theorem o2_neD (h1 : SeqAt.shaped da = true) (h2 : SeqAt.shaped db = true) : Op2 K (rNeD K) ka da kb db .c (.bool (!PyData.eqv da db)) := fun H0 H0' Ho H v u s r1 r2 Q q =>
  ⟨da, db, (r1.rpt s).dp (SeqAt.canLay_of_shaped h1), (r2.rpt s).dp (SeqAt.canLay_of_shaped h2), h1, h2, q _ Ho H (.refl s) (.bl _)⟩
theorem hu64 {A : Around} {k : Nat} (hr : Room k A) : A.units + 64 < cLine := by have := hr.un; omega
theorem hu65 {A : Around} {k : Nat} (hr : Room k A) : A.units + 65 < cLine := by have := hr.un; omega
theorem de_eq {n : Nat} (hr : Room n X.A) (ha : DE X en a ka da) (hb : DE X en b kb db) (h1 : SeqAt.shaped da = true) (h2 : SeqAt.shaped db = true) (hm : behindInMarks .Eq b = false := by kernel_rfl) : DE X en (.Compare a [.Eq] [b] pos) .c (.bool (PyData.eqv da db)) :=
  de_cmp (op_eqD (hu64 hr)) ha hb (o2_eqD h1 h2) hm
theorem de_ne {n : Nat} (hr : Room n X.A) (ha : DE X en a ka da) (hb : DE X en b kb db) (h1 : SeqAt.shaped da = true) (h2 : SeqAt.shaped db = true) (hm : behindInMarks .NotEq b = false := by kernel_rfl) : DE X en (.Compare a [.NotEq] [b] pos) .c (.bool (!PyData.eqv da db)) :=
  de_cmp (op_neD (hu64 hr)) ha hb (o2_neD h1 h2) hm
theorem dt_eq {n : Nat} (hr : Room n X.A) (ha : DE X en a ka da) (hb : DE X en b kb db) (h1 : SeqAt.shaped da = true) (h2 : SeqAt.shaped db = true) (hm : behindInMarks .Eq b = false := by kernel_rfl) : DT X en (.Compare a [.Eq] [b] pos) (PyData.eqv da db) :=
  dt_cmp (op_eqD (hu64 hr)) ha hb (o2_eqD h1 h2) hm
theorem dt_ne {n : Nat} (hr : Room n X.A) (ha : DE X en a ka da) (hb : DE X en b kb db) (h1 : SeqAt.shaped da = true) (h2 : SeqAt.shaped db = true) (hm : behindInMarks .NotEq b = false := by kernel_rfl) : DT X en (.Compare a [.NotEq] [b] pos) (!PyData.eqv da db) :=
  dt_cmp (op_neD (hu64 hr)) ha hb (o2_neD h1 h2) hm
/-- ints, texts, None beside each other -/
def toV : PD → V
  | .int i => .int i | .bool b => .bl b | .str x => .str x | _ => .non
theorem Rs.toV {H0 Ho H : Hp} {v : V} (h : Rs K k H0 Ho H v d) (hs : sc d = true) : v = DL.toV d := by
  cases d with
  | int i => exact h.int_inv
  | bool i => exact h.bool_inv
  | str i => exact h.str_inv
  | none => exact h.none_inv
  | _ => cases hs
theorem o2_eqS (h1 : sc da = true) (h2 : sc db = true) (hs : scal (toV da) (toV db) = true) : Op2 K rEq ka da kb db .c (.bool (decide (toV da = toV db))) := fun H0 H0' Ho H v u s r1 r2 Q q => by
  rw [r1.toV h1, r2.toV h2]
  exact ⟨hs, q _ Ho H (.refl s) (.bl _)⟩
theorem o2_neS (h1 : sc da = true) (h2 : sc db = true) (hs : scal (toV da) (toV db) = true) : Op2 K rNe ka da kb db .c (.bool (!decide (toV da = toV db))) := fun H0 H0' Ho H v u s r1 r2 Q q => by
  rw [r1.toV h1, r2.toV h2]
  exact ⟨hs, q _ Ho H (.refl s) (.bl _)⟩
theorem de_eqI (ha : DE X en a ka (.int i)) (hb : DE X en b kb (.int j)) (hm : behindInMarks .Eq b = false := by kernel_rfl) : DE X en (.Compare a [.Eq] [b] pos) .c (.bool (decide (i = j))) :=
  (de_cmp op_eq ha hb (o2_eqS rfl rfl rfl) hm).is (by simp [toV])
theorem de_neI (ha : DE X en a ka (.int i)) (hb : DE X en b kb (.int j)) (hm : behindInMarks .NotEq b = false := by kernel_rfl) : DE X en (.Compare a [.NotEq] [b] pos) .c (.bool (!decide (i = j))) :=
  (de_cmp op_ne ha hb (o2_neS rfl rfl rfl) hm).is (by simp [toV])
theorem dt_eqI (ha : DE X en a ka (.int i)) (hb : DE X en b kb (.int j)) (hm : behindInMarks .Eq b = false := by kernel_rfl) : DT X en (.Compare a [.Eq] [b] pos) (decide (i = j)) :=
  (dt_cmp op_eq ha hb (o2_eqS rfl rfl rfl) hm).is (by simp [toV])
theorem dt_neI (ha : DE X en a ka (.int i)) (hb : DE X en b kb (.int j)) (hm : behindInMarks .NotEq b = false := by kernel_rfl) : DT X en (.Compare a [.NotEq] [b] pos) (!decide (i = j)) :=
  (dt_cmp op_ne ha hb (o2_neS rfl rfl rfl) hm).is (by simp [toV])
theorem dt_eqT {x y : Str} (ha : DE X en a ka (.str x)) (hb : DE X en b kb (.str y)) (hm : behindInMarks .Eq b = false := by kernel_rfl) : DT X en (.Compare a [.Eq] [b] pos) (decide (x = y)) :=
  (dt_cmp op_eq ha hb (o2_eqS rfl rfl rfl) hm).is (by simp [toV])
theorem de_isN (ha : DE X en a ka d) {j} (hs : ka ≠ .o := by decide) : DE X en (.Compare a [.Is] [.Constant .none j pos] pos) .c (.bool (match d with | .none => true | _ => false)) := fun B Bo Ho H σ f Q q => by
  refine wE_of (pe_cmpR op_isN pe_w pe_non rfl) ?_
  refine ha B Bo Ho H σ f _ fun v H1o H1 g1 r1 => ?_
  refine ⟨rfl, q _ H1o H1 g1 ?_⟩
  have r := r1.rpt g1.s
  cases r <;> exact .bl _

/-! ### and, or, not, choices -/
theorem dt_val {c : Bool} (h : DE X en e k (.bool c)) (he : ∀ whole, isTrue e X.env whole = (do let v ← whole; standAt e.pos; holding [v] (truthy v)) := by intro _; rfl) : DT X en e c := fun B Bo Ho H σ f Q q =>
  wT_of (pt_val pe_w he) (h B Bo Ho H σ f _ fun v H1o H1 g1 r1 => ⟨c, r1.bool_inv, q H1o H1 g1⟩)
theorem DW.dt {c : Bool} (h : DW X en e c) : DT X en e c := fun B Bo Ho H σ f Q q => wT_of (PW.pt pw_w) (h B Bo Ho H σ f Q q)
theorem dt_not {c : Bool} (h : DT X en e c) : DT X en (.UnaryOp .Not e pos) (!c) := fun B Bo Ho H σ f Q q => wT_of (pt_not pt_w) (h B Bo Ho H σ f _ fun H1o H1 g1 => q H1o H1 g1)
theorem dw_and1 {c : Bool} (h : DT X en e c) : DW X en (.BoolOp .And [e] pos) c := fun B Bo Ho H σ f Q q => wW_of (pw_and1 pt_w) (h B Bo Ho H σ f Q q)
theorem dw_or1 {c : Bool} (h : DT X en e c) : DW X en (.BoolOp .Or [e] pos) c := fun B Bo Ho H σ f Q q => wW_of (pw_or1 pt_w) (h B Bo Ho H σ f Q q)
theorem dw_and {rest : List Expr} {c1 c2 : Bool} (ha : DT X en a c1) (hb : c1 = true → DW X en (.BoolOp .And (b :: rest) pos) c2) : DW X en (.BoolOp .And (a :: b :: rest) pos) (c1 && c2) := fun B Bo Ho H σ f Q q => by
  refine wW_of (pw_and pt_w pw_w) (ha B Bo Ho H σ f _ fun H1o H1 g1 => ?_)
  cases c1 with
  | true =>
    show wW X _ σ H1 Q
    exact hb rfl B Bo H1o H1 σ (f.gr g1) Q fun H2o H2 g2 => q H2o H2 (g1.trans g2)
  | false => exact q H1o H1 g1
theorem dw_or {rest : List Expr} {c1 c2 : Bool} (ha : DT X en a c1) (hb : c1 = false → DW X en (.BoolOp .Or (b :: rest) pos) c2) : DW X en (.BoolOp .Or (a :: b :: rest) pos) (c1 || c2) := fun B Bo Ho H σ f Q q => by
  refine wW_of (pw_or pt_w pw_w) (ha B Bo Ho H σ f _ fun H1o H1 g1 => ?_)
  cases c1 with
  | true => exact q H1o H1 g1
  | false =>
    show wW X _ σ H1 Q
    exact hb rfl B Bo H1o H1 σ (f.gr g1) Q fun H2o H2 g2 => q H2o H2 (g1.trans g2)
theorem de_one {op} (h : DE X en e k d) : DE X en (.BoolOp op [e] pos) k d := fun B Bo Ho H σ f Q q => wE_of (pe_one pe_w) (h B Bo Ho H σ f Q q)
theorem de_and {rest : List Expr} {c1 c2 : Bool} (ha : DE X en a ka (.bool c1)) (hb : c1 = true → DE X en (.BoolOp .And (b :: rest) pos) kb (.bool c2)) : DE X en (.BoolOp .And (a :: b :: rest) pos) .c (.bool (c1 && c2)) := fun B Bo Ho H σ f Q q => by
  refine wE_of (pe_and pe_w pe_w) (ha B Bo Ho H σ f _ fun v H1o H1 g1 r1 => ⟨c1, r1.bool_inv, ?_⟩)
  cases c1 with
  | true =>
    show wE X _ σ H1 Q
    exact hb rfl B Bo H1o H1 σ (f.gr g1) Q fun v H2o H2 g2 r2 => q v H2o H2 (g1.trans g2) (by rw [r2.bool_inv]; exact .bl _)
  | false => exact q _ H1o H1 g1 (.bl _)
theorem de_or {rest : List Expr} {c1 c2 : Bool} (ha : DE X en a ka (.bool c1)) (hb : c1 = false → DE X en (.BoolOp .Or (b :: rest) pos) kb (.bool c2)) : DE X en (.BoolOp .Or (a :: b :: rest) pos) .c (.bool (c1 || c2)) := fun B Bo Ho H σ f Q q => by
  refine wE_of (pe_or pe_w pe_w) (ha B Bo Ho H σ f _ fun v H1o H1 g1 r1 => ⟨c1, r1.bool_inv, ?_⟩)
  cases c1 with
  | true => exact q _ H1o H1 g1 (.bl _)
  | false =>
    show wE X _ σ H1 Q
    exact hb rfl B Bo H1o H1 σ (f.gr g1) Q fun v H2o H2 g2 r2 => q v H2o H2 (g1.trans g2) (by rw [r2.bool_inv]; exact .bl _)
theorem de_andF {rest : List Expr} (ha : DE X en a ka (.bool false)) : DE X en (.BoolOp .And (a :: b :: rest) pos) .c (.bool false) := de_and (kb := .c) (c2 := true) ha fun z => by cases z
theorem de_orT {rest : List Expr} (ha : DE X en a ka (.bool true)) : DE X en (.BoolOp .Or (a :: b :: rest) pos) .c (.bool true) := de_or (kb := .c) (c2 := true) ha fun z => by cases z
theorem dw_andF {rest : List Expr} (ha : DT X en a false) : DW X en (.BoolOp .And (a :: b :: rest) pos) false := dw_and (c2 := true) ha fun z => by cases z
theorem dw_orT {rest : List Expr} (ha : DT X en a true) : DW X en (.BoolOp .Or (a :: b :: rest) pos) true := dw_or (c2 := true) ha fun z => by cases z
theorem de_not {c : Bool} (h : DE X en e k (.bool c)) : DE X en (.UnaryOp .Not e pos) .c (.bool (!c)) := fun B Bo Ho H σ f Q q =>
  wE_of (pe_not pe_w) (h B Bo Ho H σ f _ fun v H1o H1 g1 r1 => ⟨c, r1.bool_inv, q _ H1o H1 g1 (.bl _)⟩)
theorem de_if {t : Expr} {c : Bool} (ht : DT X en t c) (h1 : c = true → DE X en a k d) (h2 : c = false → DE X en b k d) : DE X en (.IfExp t a b pos) k d := fun B Bo Ho H σ f Q q => by
  refine wE_of (pe_ifExp pt_w pe_w pe_w) (ht B Bo Ho H σ f _ fun H1o H1 g1 => ?_)
  cases c with
  | true =>
    show wE X _ σ H1 Q
    exact h1 rfl B Bo H1o H1 σ (f.gr g1) Q fun v H2o H2 g2 r2 => q v H2o H2 (g1.trans g2) (r2.base g1.h)
  | false =>
    show wE X _ σ H1 Q
    exact h2 rfl B Bo H1o H1 σ (f.gr g1) Q fun v H2o H2 g2 r2 => q v H2o H2 (g1.trans g2) (r2.base g1.h)
end
end DL

namespace DL
open PySem PySem.Spec PyProof.Rows L2

theorem sz100 {n : Nat} (h : n ≤ 100000) : n ≤ sizeLine := Nat.le_trans h (by decide)
theorem sz100l {n : Nat} (h : n < 100000) : n < sizeLine := Nat.lt_of_lt_of_le h (by decide)

/-! ### arguments -/
section
variable {X : Cx} {en : En} {a b e : Expr} {es : List Expr} {pos : Pos} {k ka kb : Kd} {d da db : PD} {ds : List PD}
theorem RpA.cons_gr {K : PySem.W.Frag} {Ho H : Hp} {v : V} {vs : List V} (h : Rp K H v d) (r : RpA K H vs ds) : RpA K H (v :: vs) (d :: ds) := .cons h r
theorem da_nil : DA X en [] k [] := fun B Bo Ho H σ f Q q => wA_of pa_nil (q _ Ho H (.refl f.hoh) .nil)
theorem da_c (ha : DE X en e .c d) (hr : DA X en es .c ds) (hs : starEach (e :: es) X.env = (false, eval e X.env) :: starEach es X.env := by kernel_rfl) : DA X en (e :: es) .c (d :: ds) := fun B Bo Ho H σ f Q q => by
  refine wA_of (pa_cons pe_w pa_w hs) ?_
  refine ha B Bo Ho H σ f _ fun v H1o H1 g1 r1 => ?_
  refine hr B Bo H1o H1 σ (f.gr g1) _ fun vs H2o H2 g2 r2 => ?_
  exact q _ H2o H2 (g1.trans g2) (.cons (Rp.mono g2.o r1) r2)
theorem da_t (ha : DE X en e k d) (hr : DA X en es .t ds) (hs : starEach (e :: es) X.env = (false, eval e X.env) :: starEach es X.env := by kernel_rfl) : DA X en (e :: es) .t (d :: ds) := fun B Bo Ho H σ f Q q => by
  refine wA_of (pa_cons pe_w pa_w hs) ?_
  refine ha B Bo Ho H σ f _ fun v H1o H1 g1 r1 => ?_
  refine hr B Bo H1o H1 σ (f.gr g1) _ fun vs H2o H2 g2 r2 => ?_
  exact q _ H2o H2 (g1.trans g2) (.cons (Rp.mono g2.h (r1.rpt g1.s)) r2)
/-- *xs in a display -/
theorem da_star {p : Pos} {xs : List PD} (ha : DE X en e .e (.tuple xs)) (hr : DA X en es .c ds) (hs : starEach (.Starred e p :: es) X.env = (true, eval e X.env) :: starEach es X.env := by kernel_rfl) : DA X en (.Starred e p :: es) .c (xs ++ ds) := fun B Bo Ho H σ f Q q => by
  refine wA_of (StX.pa_star pe_w pa_w hs) ?_
  refine ha B Bo Ho H σ f _ fun v H1o H1 g1 r1 => ?_
  obtain ⟨p, vs1, e1, q1, r1⟩ := r1
  refine ⟨p, vs1, e1, .inl q1, ?_⟩
  refine hr B Bo H1o H1 σ (f.gr g1) _ fun vs H2o H2 g2 r2 => ?_
  exact q _ H2o H2 (g1.trans g2) ((r1.mono g2.o).app r2)

/-! ### displays -/
theorem de_tup {x1} (h : DA X en es .c ds) (hl : ds.length ≤ 100000) : DE X en (.Tuple es x1 pos) .c (.tuple ds) := fun B Bo Ho H σ f Q q => by
  refine wE_of (pe_tup pa_w) ?_
  refine h B Bo Ho H σ f _ fun vs H1o H1 g1 r1 => ⟨sz100 (by rw [r1.len]; exact hl), fun p hp => ?_⟩
  exact q _ _ _ (g1.trans (.new g1.s hp)) (.tup (.inl (.inl upd_same)) (r1.mono (same_new (g1.s.free hp))))
theorem de_lst (h : DA X en es .c ds) (hl : ds.length ≤ 100000) : DE X en (.List es pos) .o (.list ds) := fun B Bo Ho H σ f Q q => by
  refine wE_of (pe_lst pa_w) ?_
  refine h B Bo Ho H σ f _ fun vs H1o H1 g1 r1 => ⟨sz100 (by rw [r1.len]; exact hl), fun p hp => ?_⟩
  exact q _ _ _ (g1.trans (.tmp g1.s hp)) ⟨p, rfl, g1.h.free hp, g1.s.free hp, vs, upd_same, r1⟩

/-! ### items, slices -/
theorem atI_rp {K : PySem.W.Frag} {H : Hp} {vs : List V} {i : Int} (r : RpA K H vs ds) (h : atI ds i = some d) : ∃ v, atI vs i = some v ∧ Rp K H v d := by
  unfold atI at h ⊢
  rw [r.len]
  cases e : ixN ds.length i with
  | none => rw [e] at h; cases h
  | some j =>
    rw [e] at h
    exact r.get h
theorem de_ixL {i : Int} (ha : DE X en a .e (.list ds)) (hb : DE X en b kb (.int i)) (h : atI ds i = some d) (hs : PlainIx b := by intro _ _; rfl) : DE X en (.Subscript a b pos) .c d := fun B Bo Ho H σ f Q q => by
  refine wE_of (pe_ix ix_list pe_w pe_w hs) ?_
  refine ha B Bo Ho H σ f _ fun v H1o H1 g1 r1 => ?_
  refine hb B Bo H1o H1 σ (f.gr g1) _ fun u H2o H2 g2 r2 => ?_
  obtain ⟨p, xs, rfl, q1, r1⟩ := r1
  obtain ⟨w, hw, rw1⟩ := atI_rp (r1.mono g2.o) h
  exact ⟨p, xs, i, w, rfl, r2.int_inv, .inl (.inl (g2.h _ _ q1)), hw, q _ H2o H2 (g1.trans g2) rw1⟩
theorem de_ixT {i : Int} (ha : DE X en a .e (.tuple ds)) (hb : DE X en b kb (.int i)) (h : atI ds i = some d) (hs : PlainIx b := by intro _ _; rfl) : DE X en (.Subscript a b pos) .c d := fun B Bo Ho H σ f Q q => by
  refine wE_of (pe_ix ix_tup pe_w pe_w hs) ?_
  refine ha B Bo Ho H σ f _ fun v H1o H1 g1 r1 => ?_
  refine hb B Bo H1o H1 σ (f.gr g1) _ fun u H2o H2 g2 r2 => ?_
  obtain ⟨p, xs, rfl, q1, r1⟩ := r1
  obtain ⟨w, hw, rw1⟩ := atI_rp (r1.mono g2.o) h
  exact ⟨p, xs, i, w, rfl, r2.int_inv, same_sqt g2.h q1, hw, q _ H2o H2 (g1.trans g2) rw1⟩
/-- the items of a slice -/
def cutA {α : Type} (xs : List α) (lo hi : Option Int) : List α := (xs.drop (HT.sIx xs.length 0 lo)).take (HT.sIx xs.length xs.length hi - HT.sIx xs.length 0 lo)
theorem cutA_map {α β : Type} (f : α → β) (xs : List α) (lo hi : Option Int) : (cutA xs lo hi).map f = cutA (xs.map f) lo hi := by
  unfold cutA
  rw [List.map_take, List.map_drop, List.length_map]
theorem cutA_len {α : Type} (xs : List α) (lo hi : Option Int) : (cutA xs lo hi).length ≤ xs.length := by
  unfold cutA
  rw [List.length_take, List.length_drop]
  omega
theorem cut_tail {α : Type} (x : α) (xs : List α) : cutA (x :: xs) (some 1) none = xs := by
  unfold cutA
  rw [show HT.sIx (x :: xs).length 0 (some 1) = min 1 (x :: xs).length from HT.sIx_nat _ 0 1, HT.sIx_none, List.length_cons, Nat.min_eq_left (by omega)]
  show List.take (xs.length + 1 - 1) xs = xs
  exact List.take_of_length_le (by omega)
theorem RpA.cut {K : PySem.W.Frag} {H : Hp} {vs : List V} (r : RpA K H vs ds) (lo hi : Option Int) : RpA K H (cutV vs lo hi) (cutA ds lo hi) := by
  unfold cutV cutA
  rw [r.len]
  exact (r.drop _).take _
/-- a part of a slice -/
def DO (X : Cx) (en : En) (o : Option Expr) (i : Option Int) : Prop := ∃ t, PO X o t ∧ ∀ (B Bo Ho H : Hp) (σ : L2.St), Fit X.K B Bo Ho H σ en → ∀ Q : Option Int → Hp → Prop, (∀ Ho' H', Gr Ho H Ho' H' → Q i H') → t σ H Q
theorem do_none : DO X en none none := ⟨_, po_none, fun B Bo Ho H σ f Q q => q Ho H (.refl f.hoh)⟩
theorem do_some {i : Int} (h : DE X en e k (.int i)) : DO X en (some e) (some i) := ⟨_, po_some pe_w, fun B Bo Ho H σ f Q q => h B Bo Ho H σ f _ fun v H1o H1 g1 r1 => ⟨i, r1.int_inv, q H1o H1 g1⟩⟩
variable {lo hi : Option Expr} {l h : Option Int} {p2 : Pos}
theorem de_slL (ha : DE X en a .e (.list ds)) (hl : DO X en lo l) (hh : DO X en hi h) : DE X en (.Subscript a (.Slice lo hi none p2) pos) .o (.list (cutA ds l h)) := fun B Bo Ho H σ f Q q => by
  obtain ⟨tl, pl, ql⟩ := hl
  obtain ⟨th, ph, qh⟩ := hh
  refine wE_of (pe_slice sl_list pe_w pl ph) ?_
  refine ha B Bo Ho H σ f _ fun v H1o H1 g1 r1 => ?_
  refine ql B Bo H1o H1 σ (f.gr g1) _ fun H2o H2 g2 => ?_
  refine qh B Bo H2o H2 σ ((f.gr g1).gr g2) _ fun H3o H3 g3 => ?_
  obtain ⟨p, xs, rfl, q1, r1⟩ := r1
  have g := (g1.trans g2).trans g3
  exact ⟨p, xs, rfl, .inl (.inl ((g2.trans g3).h _ _ q1)), fun c hc => q _ _ _ (g.trans (.tmp g.s hc)) ⟨c, rfl, g.h.free hc, g.s.free hc, _, upd_same, (r1.mono (g2.trans g3).o).cut _ _⟩⟩
theorem de_slS {ns : List Int} (ha : DE X en a .c (scr ns)) (hl : DO X en lo l) (hh : DO X en hi h) : DE X en (.Subscript a (.Slice lo hi none p2) pos) .o (.list ((cutA ns l h).map .int)) := fun B Bo Ho H σ f Q q => by
  obtain ⟨tl, pl, ql⟩ := hl
  obtain ⟨th, ph, qh⟩ := hh
  refine wE_of (pe_slice sl_list pe_w pl ph) ?_
  refine ha B Bo Ho H σ f _ fun v H1o H1 g1 r1 => ?_
  refine ql B Bo H1o H1 σ (f.gr g1) _ fun H2o H2 g2 => ?_
  refine qh B Bo H2o H2 σ ((f.gr g1).gr g2) _ fun H3o H3 g3 => ?_
  obtain ⟨p, rfl, q1⟩ := r1.scr_inv
  have g := (g1.trans g2).trans g3
  refine ⟨p, _, rfl, (g1.s.trans (g2.trans g3).h).seq q1, fun c hc => q _ _ _ (g.trans (.tmp g.s hc)) ⟨c, rfl, g.h.free hc, g.s.free hc, _, upd_same, ?_⟩⟩
  rw [cutA_map]
  exact (RpA.ints ns).cut _ _
theorem de_slT (ha : DE X en a .c (.tuple ds)) (hl : DO X en lo l) (hh : DO X en hi h) : DE X en (.Subscript a (.Slice lo hi none p2) pos) .c (.tuple (cutA ds l h)) := fun B Bo Ho H σ f Q q => by
  obtain ⟨tl, pl, ql⟩ := hl
  obtain ⟨th, ph, qh⟩ := hh
  refine wE_of (pe_slice sl_tupA pe_w pl ph) ?_
  refine ha B Bo Ho H σ f _ fun v H1o H1 g1 r1 => ?_
  refine ql B Bo H1o H1 σ (f.gr g1) _ fun H2o H2 g2 => ?_
  refine qh B Bo H2o H2 σ ((f.gr g1).gr g2) _ fun H3o H3 g3 => ?_
  have r3 := Rp.mono (g2.trans g3).o r1
  obtain ⟨p, xs, rfl, q1, r1⟩ := r3.tup_inv
  have g := (g1.trans g2).trans g3
  refine ⟨p, xs, rfl, same_sqt g.s q1, fun hw => q _ _ _ g ?_, fun _ c hc => q _ _ _ (g.trans (.new g.s hc)) (.tup (.inl (.inl upd_same)) ((r1.cut _ _).mono (same_new (g.s.free hc))))⟩
  have e : cutA ds l h = ds := by
    unfold cutA
    rw [← r1.len, hw.1, hw.2, List.drop_zero, Nat.sub_zero, r1.len, List.take_length]
  rw [e]
  exact r3

/-! ### len, list, tuple, + -/
theorem de_lenL {p : Pos} (hm : X.mg "len" = none) (ha : DE X en a .e (.list ds)) (hg : glB X "len" = true := by kernel_rfl) (he : starEach [a] X.env = (false, eval a X.env) :: starEach [] X.env := by kernel_rfl) : DE X en (.Call (.Name "len" p) [a] [] pos) .c (.int ds.length) := fun B Bo Ho H σ f Q q => by
  refine wE_of (pe_callB call_len_seq (gl_of hg) hm PySem.boot_len (pa_cons pe_w pa_nil he) (he := he)) ?_
  refine ha B Bo Ho H σ f _ fun v H1o H1 g1 r1 => ?_
  obtain ⟨p, xs, rfl, q1, r1⟩ := r1
  exact ⟨p, xs, rfl, .inl (.inl (.inl q1)), q _ H1o H1 g1 (by rw [r1.len]; exact .int _)⟩
theorem de_lenT {p : Pos} (hm : X.mg "len" = none) (ha : DE X en a .e (.tuple ds)) (hg : glB X "len" = true := by kernel_rfl) (he : starEach [a] X.env = (false, eval a X.env) :: starEach [] X.env := by kernel_rfl) : DE X en (.Call (.Name "len" p) [a] [] pos) .c (.int ds.length) := fun B Bo Ho H σ f Q q => by
  refine wE_of (pe_callB call_len_seq (gl_of hg) hm PySem.boot_len (pa_cons pe_w pa_nil he) (he := he)) ?_
  refine ha B Bo Ho H σ f _ fun v H1o H1 g1 r1 => ?_
  obtain ⟨p, xs, rfl, q1, r1⟩ := r1
  exact ⟨p, xs, rfl, .inr q1, q _ H1o H1 g1 (by rw [r1.len]; exact .int _)⟩
theorem de_listL {p : Pos} (hm : X.mg "list" = none) (ha : DE X en a .e (.list ds)) (hg : glB X "list" = true := by kernel_rfl) (he : starEach [a] X.env = (false, eval a X.env) :: starEach [] X.env := by kernel_rfl) : DE X en (.Call (.Name "list" p) [a] [] pos) .o (.list ds) := fun B Bo Ho H σ f Q q => by
  refine wE_of (pe_callTy call_list_of (gl_of hg) hm (by decide +kernel) (pa_cons pe_w pa_nil he) (he := he)) ?_
  refine ha B Bo Ho H σ f _ fun v H1o H1 g1 r1 => ?_
  obtain ⟨p, xs, rfl, q1, r1⟩ := r1
  exact ⟨p, xs, rfl, .inl (.inl (.inl q1)), fun c hc => q _ _ _ (g1.trans (.tmp g1.s hc)) ⟨c, rfl, g1.h.free hc, g1.s.free hc, _, upd_same, r1⟩⟩
theorem de_listT {p : Pos} (hm : X.mg "list" = none) (ha : DE X en a .e (.tuple ds)) (hg : glB X "list" = true := by kernel_rfl) (he : starEach [a] X.env = (false, eval a X.env) :: starEach [] X.env := by kernel_rfl) : DE X en (.Call (.Name "list" p) [a] [] pos) .o (.list ds) := fun B Bo Ho H σ f Q q => by
  refine wE_of (pe_callTy call_list_of (gl_of hg) hm (by decide +kernel) (pa_cons pe_w pa_nil he) (he := he)) ?_
  refine ha B Bo Ho H σ f _ fun v H1o H1 g1 r1 => ?_
  obtain ⟨p, xs, rfl, q1, r1⟩ := r1
  exact ⟨p, xs, rfl, .inr q1, fun c hc => q _ _ _ (g1.trans (.tmp g1.s hc)) ⟨c, rfl, g1.h.free hc, g1.s.free hc, _, upd_same, r1⟩⟩
theorem de_tupL {p : Pos} (hm : X.mg "tuple" = none) (ha : DE X en a .e (.list ds)) (hg : glB X "tuple" = true := by kernel_rfl) (he : starEach [a] X.env = (false, eval a X.env) :: starEach [] X.env := by kernel_rfl) : DE X en (.Call (.Name "tuple" p) [a] [] pos) .c (.tuple ds) := fun B Bo Ho H σ f Q q => by
  refine wE_of (pe_callTy call_tuple_of (gl_of hg) hm (by decide +kernel) (pa_cons pe_w pa_nil he) (he := he)) ?_
  refine ha B Bo Ho H σ f _ fun v H1o H1 g1 r1 => ?_
  obtain ⟨p, xs, rfl, q1, r1⟩ := r1
  exact ⟨p, xs, rfl, .inl ⟨.inl (.inl q1), fun c hc => q _ _ _ (g1.trans (.new g1.s hc)) (.tup (.inl (.inl upd_same)) (r1.mono (same_new (g1.s.free hc))))⟩⟩
theorem RpE.lt {K : PySem.W.Frag} {Ho H : Hp} {v : V} (h : RpE K Ho H v (.list ds)) : ∃ p xs, v = .ref p ∧ H p = some (.lst xs) ∧ RpA K Ho xs ds := h
theorem de_cat {es1 es2 : List PD} (ha : DE X en a ka (.list es1)) (hb : DE X en b kb (.list es2)) (hl : es1.length + es2.length ≤ 100000) (h1 : ka ≠ .t := by decide) (h2 : kb ≠ .t := by decide) : DE X en (.BinOp a .Add b pos) .o (.list (es1 ++ es2)) :=
  de_op op_cat ha hb fun H0 H0' Ho H v u s r1 r2 Q q => by
    obtain ⟨p, xs, rfl, q1, r1⟩ := r1.rpe s h1
    obtain ⟨p', ys, rfl, q2, r2⟩ := r2.rpe s h2
    exact ⟨p, p', xs, ys, rfl, rfl, q1, q2, sz100 (by rw [r1.len, r2.len]; exact hl), fun c hc => q _ _ _ (.tmp s hc) ⟨c, rfl, hc, s.free hc, _, upd_same, r1.app r2⟩⟩
/-- int(a test) -/
theorem de_intB {p : Pos} {c : Bool} (hm : X.mg "int" = none) (ha : DE X en a ka (.bool c)) (hg : glB X "int" = true := by kernel_rfl) (he : starEach [a] X.env = (false, eval a X.env) :: starEach [] X.env := by kernel_rfl) : DE X en (.Call (.Name "int" p) [a] [] pos) .c (.int (if c then 1 else 0)) := fun B Bo Ho H σ f Q q => by
  refine wE_of (pe_callTy call_int1 (gl_of hg) hm (by decide +kernel) (pa_cons pe_w pa_nil he) (he := he)) ?_
  refine ha B Bo Ho H σ f _ fun v H1o H1 g1 r1 => ?_
  exact .inr ⟨c, by rw [r1.bool_inv], q _ H1o H1 g1 (.int _)⟩
theorem de_min2 {p : Pos} {i j : Int} (hm : X.mg "min" = none) (hc : X.calm = true) (ha : DE X en a ka (.int i)) (hb : DE X en b kb (.int j)) (hg : glB X "min" = true := by kernel_rfl) (he : starEach [a, b] X.env = (false, eval a X.env) :: starEach [b] X.env := by kernel_rfl) (he2 : starEach [b] X.env = (false, eval b X.env) :: starEach [] X.env := by kernel_rfl)
    (hpl : (backTo pos (starEach [b] X.env)).any (·.1) = false := by kernel_rfl) : DE X en (.Call (.Name "min" p) [a, b] [] pos) .c (.int (if j < i then j else i)) := fun B Bo Ho H σ f Q q => by
  refine wE_of (pe_callB (call_min2 hc) (gl_of hg) hm (by decide +kernel) (pa_cons pe_w (pa_cons pe_w pa_nil he2) he) (he := he) (hpl := hpl)) ?_
  refine ha B Bo Ho H σ f _ fun v H1o H1 g1 r1 => ?_
  refine hb B Bo H1o H1 σ (f.gr g1) _ fun u H2o H2 g2 r2 => ?_
  exact ⟨i, j, by rw [r1.int_inv, r2.int_inv], q _ H2o H2 (g1.trans g2) (.int _)⟩
end

/-! ### own defs -/
/-- the promise of a def: from data (R) to data, made new or held by what was there -/
def spF (K : PySem.W.Frag) (R : List PD → PD → Prop) (k : Kd) : Sp := fun vs H Q _ => ∃ Bo ds d, Same Bo H ∧ RpA K Bo vs ds ∧ R ds d ∧ ∀ v Ho' H', Gr Bo H Ho' H' → Rs K k H Ho' H' v d → Q v H'
structure Dn (P : Program) (w : World) (K : PySem.W.Frag) (mg : Str → Option Value) (base : Heap) (n : Nat) (x : Str) (R : List PD → PD → Prop) (k : Kd) : Prop where
  ex : ∃ f fd ps, FnOk P w K mg base CX0 n f fd ps (spF K R k) ∧ mg x = some (.ref f) ∧ PySem.W.keepIn K (.ref f) = true ∧ Binds K fd ps []
theorem Dn.up {P : Program} {w : World} {K : PySem.W.Frag} {mg : Str → Option Value} {base : Heap} {n m : Nat} {x : Str} {R : List PD → PD → Prop} {k : Kd} (h : Dn P w K mg base n x R k) (l : n ≤ m) : Dn P w K mg base m x R k := by
  obtain ⟨f, fd, ps, F, r⟩ := h
  exact ⟨f, fd, ps, F.mono l, r⟩
section
variable {X : Cx} {en : En} {a b e : Expr} {es : List Expr} {p pos : Pos} {k ka kb : Kd} {d da db : PD} {ds : List PD} {x : Str} {n : Nat} {R : List PD → PD → Prop}
theorem de_call (G : Dn X.prog X.w X.K X.mg X.base n x R k) (hr : Room n X.A) (ha : DA X en (e :: es) .c ds) (h : R ds d) (hg : glB X x = true := by kernel_rfl) (hdb : (x == ("__debug__" : Str)) = false := by kernel_rfl) (he : starEach (e :: es) X.env = (false, eval e X.env) :: starEach es X.env := by kernel_rfl)
    (hpl : (backTo pos (starEach es X.env)).any (·.1) = false := by kernel_rfl) : DE X en (.Call (.Name x p) (e :: es) [] pos) k d := fun B Bo Ho H σ f Q q => by
  obtain ⟨fa, fd, ps, F, hm, hk, hb⟩ := G
  refine wE_of (pe_call F hr (gl_of hg) hm hk hb .nil pass0 pa_w hdb he hpl) ?_
  refine ha B Bo Ho H σ f _ fun vs H1o H1 g1 r1 => ?_
  refine ⟨H1o, ds, d, g1.s, by rw [List.append_nil]; exact r1, h, fun v H2o H2 g2 r2 => q v H2o H2 (g1.trans g2) (r2.base g1.h)⟩
theorem de_callT (G : Dn X.prog X.w X.K X.mg X.base n x R k) (hr : Room n X.A) (ha : DA X en (e :: es) .t ds) (h : R ds d) (hg : glB X x = true := by kernel_rfl) (hdb : (x == ("__debug__" : Str)) = false := by kernel_rfl) (he : starEach (e :: es) X.env = (false, eval e X.env) :: starEach es X.env := by kernel_rfl)
    (hpl : (backTo pos (starEach es X.env)).any (·.1) = false := by kernel_rfl) : DE X en (.Call (.Name x p) (e :: es) [] pos) .t d := fun B Bo Ho H σ f Q q => by
  obtain ⟨fa, fd, ps, F, hm, hk, hb⟩ := G
  refine wE_of (pe_call F hr (gl_of hg) hm hk hb .nil pass0 pa_w hdb he hpl) ?_
  refine ha B Bo Ho H σ f _ fun vs H1o H1 g1 r1 => ?_
  refine ⟨H1, ds, d, .refl _, by rw [List.append_nil]; exact r1, h, fun v H2o H2 g2 r2 => q v H1o H2 (g1.trans ⟨g2.h, .refl _, g1.s.trans g2.h, fun _ _ => rfl⟩) (r2.rpt g2.s)⟩
end
end DL

namespace DL
open PySem PySem.Spec PyProof.Rows L2

/-! ### what is wanted behind a statement, over data -/
structure Po where
  nx : En → Prop
  rk : Kd := .c
  rt : PD → Prop := fun _ => False
  bk : En → Prop := fun _ => False
  ct : En → Prop := fun _ => False
structure Sat (K : PySem.W.Frag) (B Bo : Hp) (P : Po) (D : Ends) : Prop where
  nx : ∀ σ Ho H en, P.nx en → Fit K B Bo Ho H σ en → D.nx σ H
  rt : ∀ v d Ho H, P.rt d → Gr Bo B Ho H → Rs K P.rk B Ho H v d → D.rt v H
  bk : ∀ σ Ho H en, P.bk en → Fit K B Bo Ho H σ en → D.bk σ H
  ct : ∀ σ Ho H en, P.ct en → Fit K B Bo Ho H σ en → D.ct σ H
def DS (X : Cx) (en : En) (s : Stmt) (P : Po) : Prop := ∀ (B Bo Ho H : Hp) (σ : L2.St), Fit X.K B Bo Ho H σ en → ∀ D : Ends, Sat X.K B Bo P D → wS X s D σ H
def DSs (X : Cx) (en : En) (s : List Stmt) (P : Po) : Prop := ∀ (B Bo Ho H : Hp) (σ : L2.St), Fit X.K B Bo Ho H σ en → ∀ D : Ends, Sat X.K B Bo P D → wSs X s D σ H

section
variable {X : Cx} {en en' : En} {s : Stmt} {ss : List Stmt} {P : Po} {e a b : Expr} {pos : Pos} {d : PD} {k : Kd} {i : Nat} {x : Str}
theorem dss_nil (h : P.nx en) : DSs X en [] P := fun B Bo Ho H σ f D t => wSs_of pss_nil (t.nx σ Ho H en h f)
theorem dss_one (h : DS X en s P) : DSs X en [s] P := fun B Bo Ho H σ f D t => wSs_of (pss_one ps_w) (h B Bo Ho H σ f D t)
/-- one after another; N: what stands between -/
theorem dss_consN (N : En → Prop) (h : DS X en s { P with nx := N }) (h2 : ∀ en', N en' → DSs X en' ss P) : DSs X en (s :: ss) P := fun B Bo Ho H σ f D t =>
  wSs_of (pss_cons ps_w pss_w) (h B Bo Ho H σ f _ ⟨fun σ' Ho' H' en' n f' => h2 en' n B Bo Ho' H' σ' f' D t, t.rt, t.bk, t.ct⟩)
theorem dss_cons (en' : En) (h : DS X en s { P with nx := fun z => z = en' }) (h2 : DSs X en' ss P) : DSs X en (s :: ss) P := dss_consN _ h fun _ n => n ▸ h2
theorem DSs.less (h : DSs X en' ss P) (l : Lee en' en) : DSs X en ss P := fun B Bo Ho H σ f D t => h B Bo Ho H σ (f.less l) D t
theorem DS.less (h : DS X en' s P) (l : Lee en' en) : DS X en s P := fun B Bo Ho H σ f D t => h B Bo Ho H σ (f.less l) D t
theorem DSs.freeze (h : DSs X (en.set i (some (.v d))) ss P) (hi : en[i]? = some (some (.o d)) := by rfl) : DSs X en ss P := fun B Bo Ho H σ f D t => by
  obtain ⟨Ho', f', _⟩ := f.freeze hi
  exact h B Bo Ho' H σ f' D t
theorem DS.freeze (h : DS X (en.set i (some (.v d))) s P) (hi : en[i]? = some (some (.o d)) := by rfl) : DS X en s P := fun B Bo Ho H σ f D t => by
  obtain ⟨Ho', f', _⟩ := f.freeze hi
  exact h B Bo Ho' H σ f' D t
/-- x = e -/
theorem ds_set (i : Nat) (he : DE X en e .c d) (q : P.nx (en.set i (some (.v d)))) (hN : X.N.Nodup) (hi : X.N[i]? = some x := by kernel_rfl) (hx : locB X.env.scope x = true := by kernel_rfl) {pos' : Pos}
    (hs : swapsWith e (some (.Name x pos')) pos.line X.env = pure false := by kernel_rfl) (hf : fnB X x = true := by kernel_rfl) : DS X en (.Assign [.Name x pos'] e pos) P := fun B Bo Ho H σ f D t =>
  wS_of (ps_set hN hi (loc_of hx) pe_w hs (fn_ofB hf)) (he B Bo Ho H σ f _ fun v Ho' H' g r => t.nx _ Ho' H' _ q ((f.gr g).setV r))
theorem ds_setO (i : Nat) (he : DE X en e .o d) (q : P.nx (en.set i (some (.o d)))) (hN : X.N.Nodup) (hi : X.N[i]? = some x := by kernel_rfl) (hx : locB X.env.scope x = true := by kernel_rfl) {pos' : Pos}
    (hs : swapsWith e (some (.Name x pos')) pos.line X.env = pure false := by kernel_rfl) (hf : fnB X x = true := by kernel_rfl) : DS X en (.Assign [.Name x pos'] e pos) P := fun B Bo Ho H σ f D t =>
  wS_of (ps_set hN hi (loc_of hx) pe_w hs (fn_ofB hf)) (he B Bo Ho H σ f _ fun v Ho' H' g r => by
    obtain ⟨p, rfl, n1, n2, w⟩ := r
    exact t.nx _ Ho' H' _ q (f.setO g n1 n2 w))
theorem ds_ret (he : DE X en e P.rk d) (q : P.rt d) : DS X en (.Return (some e) pos) P := fun B Bo Ho H σ f D t =>
  wS_of (ps_ret pe_w) (he B Bo Ho H σ f _ fun v Ho' H' g r => by
    have f' := f.gr g
    exact t.rt v d Ho' H' q ⟨f'.bh, f'.boh, f'.hoh, f'.fr⟩ (r.base f.bh))
/-- return of one's own object -/
theorem ds_retO (i : Nat) (h : en[i]? = some (some (.o d))) (hk : P.rk = .o) (q : P.rt d) (hN : X.N[i]? = some x := by kernel_rfl) (hv : visB X.env.scope x = true := by kernel_rfl)
    (hd : (x == ("__debug__" : Str)) = false := by kernel_rfl) (hcd : (x == ("__classdict__" : Str)) = false := by kernel_rfl) {pos' : Pos} : DS X en (.Return (some (.Name x pos')) pos) P := fun B Bo Ho H σ f D t => by
  obtain ⟨p, e1, n1, n2, w⟩ := f.own h
  refine wS_of (ps_ret (pe_var hN (vis_of hv) hd hcd)) ⟨_, e1, t.rt _ d Ho H q ⟨f.bh, f.boh, f.hoh, f.fr⟩ ?_⟩
  rw [hk]
  exact ⟨p, rfl, n2, n1, w⟩
/-- if -/
theorem ds_if {t : Expr} {A C : List Stmt} {c : Bool} (ht : DT X en t c) (h1 : c = true → DSs X en A P) (h2 : c = false → DSs X en C P) : DS X en (.If t A C pos) P := fun B Bo Ho H σ f D q =>
  wS_of (ps_if pt_w pss_w pss_w) (ht B Bo Ho H σ f _ fun Ho' H' g => by
    cases c with
    | true => exact h1 rfl B Bo Ho' H' σ (f.gr g) D q
    | false => exact h2 rfl B Bo Ho' H' σ (f.gr g) D q)
/-- an expression for nothing -/
theorem ds_expr (h : DE X en e k d) (q : P.nx en) (hs : swapsWith e none pos.line X.env = pure false := by kernel_rfl) : DS X en (.Expr e pos) P := fun B Bo Ho H σ f D t =>
  wS_of (ps_expr pe_w hs) (h B Bo Ho H σ f _ fun v Ho' H' g r => t.nx _ Ho' H' _ q (f.gr g))
theorem ds_brk (q : P.bk en) : DS X en (.Break pos) P := fun B Bo Ho H σ f D t => wS_of ps_break (t.bk σ Ho H en q f)
theorem ds_cont (q : P.ct en) : DS X en (.Continue pos) P := fun B Bo Ho H σ f D t => wS_of ps_continue (t.ct σ Ho H en q f)
/-- xs.append(e), xs one's own -/
theorem ds_append (i : Nat) {ds : List PD} (h : en[i]? = some (some (.o (.list ds)))) (he : DE X en e .c d) (hl : ds.length < 100000) (q : P.nx (en.set i (some (.o (.list (ds ++ [d])))))) {apos cpos npos : Pos} (hN : X.N[i]? = some x := by kernel_rfl)
    (hv : visB X.env.scope x = true := by kernel_rfl) (hs : starEach [e] X.env = (false, eval e X.env) :: starEach [] X.env := by kernel_rfl)
    (hb : PE X (.Call (.Attribute (.Name x npos) "append" apos) [e] [] cpos) (tBM X.K "list" rAppend (tVar i) (tCons (wE X e) tNil)) := by exact pe_bm PySem.F.plainAttrs_list PySem.F.slot_list_append PySem.F.type_list_append mt_append (pv _) (pa_cons pe_w pa_nil)) :
    DS X en (.Expr (.Call (.Attribute (.Name x npos) "append" apos) [e] [] cpos) pos) P := fun B Bo Ho H σ f D t => by
  obtain ⟨p, e1, n1, n2, w⟩ := f.own h
  obtain ⟨vs, q1, r1⟩ := w
  refine wS_of (ps_expr hb) ?_
  refine ⟨_, e1, .inl ⟨rfl, _, .inl (.inl q1)⟩, ?_⟩
  refine he B Bo Ho H σ f _ fun v Ho' H' g r => ?_
  have q2 := g.h _ _ q1
  refine ⟨p, vs, v, rfl, rfl, q2, sz100l (by rw [r1.len]; exact hl), ?_⟩
  refine t.nx _ Ho' _ _ q ((f.gr g).write h e1 ⟨_, upd_same, (r1.mono g.o).app (.one r)⟩)
end

/-! ### targets -/
def WEq (is : List Nat) (σ σ' : L2.St) : Prop := σ'.length = σ.length ∧ ∀ j : Nat, j ∉ is → σ'[j]? = σ[j]?
def DG (X : Cx) (en : En) (tg : Expr) (d : PD) (is : List Nat) (en' : En) : Prop := ∀ (B Bo Ho H : Hp) (σ : L2.St), Fit X.K B Bo Ho H σ en → ∀ v, Rp X.K Ho v d → ∀ Q : L2.St → Hp → Prop, (∀ σ', WEq is σ σ' → Fit X.K B Bo Ho H σ' en' → Q σ' H) → wG X tg v σ H Q
structure wGs (X : Cx) (ts : List Expr) (vs : List V) (σ : L2.St) (H : Hp) (Q : L2.St → Hp → Prop) : Prop where
  run : ∀ (pins : List (Addr × Obj)) (s : Shared) (us : List Value), Inv X pins σ H s → Vals vs us → wpAny (model X.prog X.w) X.A (assignInOrder ((assignEach ts X.env).map (·.2)) us) (fun _ s' => ∃ σ' H', Inv X pins σ' H' s' ∧ Q σ' H') X.xe s
theorem pgs_w {X : Cx} {ts : List Expr} : PGs X ts (wGs X ts) := ⟨fun pins s _ _ _ us _ I r h => h.run pins s us I r⟩
theorem wGs_of {X : Cx} {ts : List Expr} {t : TGs} {vs : List V} {σ : L2.St} {H : Hp} {Q : L2.St → Hp → Prop} (h : PGs X ts t) (q : t vs σ H Q) : wGs X ts vs σ H Q := ⟨fun pins s us I r => h.run pins s σ H vs us Q I r q⟩
def DGs (X : Cx) (en : En) (ts : List Expr) (ds : List PD) (is : List Nat) (en' : En) : Prop := ∀ (B Bo Ho H : Hp) (σ : L2.St), Fit X.K B Bo Ho H σ en → ∀ vs, RpA X.K Ho vs ds → ∀ Q : L2.St → Hp → Prop, (∀ σ', WEq is σ σ' → Fit X.K B Bo Ho H σ' en' → Q σ' H) → wGs X ts vs σ H Q
section
variable {X : Cx} {en en' en2 : En} {tg : Expr} {ts : List Expr} {d : PD} {ds : List PD} {i : Nat} {is js : List Nat} {x : Str} {pos : Pos}
theorem dg_name (i : Nat) (hN : X.N.Nodup) (hi : X.N[i]? = some x := by kernel_rfl) (hx : locB X.env.scope x = true := by kernel_rfl) (hf : fnB X x = true := by kernel_rfl) :
    DG X en (.Name x pos) d [i] (en.set i (some (.v d))) := fun B Bo Ho H σ f v r Q q => by
  refine wG_of (pg_name hN hi (loc_of hx) (fn_ofB hf)) (q _ ⟨List.length_set, fun j hj => ?_⟩ (f.setV r))
  exact List.getElem?_set_ne (fun z => hj (by rw [z]; exact List.mem_cons_self))
theorem dgs_nil : DGs X en [] [] [] en := fun B Bo Ho H σ f vs r Q q => by
  cases r
  exact wGs_of pgs_nil ⟨rfl, q σ ⟨rfl, fun _ _ => rfl⟩ f⟩
theorem dgs_cons (h1 : DG X en tg d is en') (h2 : DGs X en' ts ds js en2) (hs : (assignEach (tg :: ts) X.env).map (·.2) = assign tg X.env :: (assignEach ts X.env).map (·.2) := by kernel_rfl) : DGs X en (tg :: ts) (d :: ds) (is ++ js) en2 := fun B Bo Ho H σ f vs r Q q => by
  cases r with
  | cons r rr =>
    refine wGs_of (pgs_cons pg_w pgs_w hs) ⟨_, _, rfl, ?_⟩
    refine h1 B Bo Ho H σ f _ r _ fun σ1 w1 f1 => ?_
    refine h2 B Bo Ho H σ1 f1 _ rr _ fun σ2 w2 f2 => ?_
    exact q σ2 ⟨w2.1.trans w1.1, fun j hj => (w2.2 j fun z => hj (List.mem_append_right _ z)).trans (w1.2 j fun z => hj (List.mem_append_left _ z))⟩ f2
theorem dg_tup {k : Nat} (hc : X.calm = true) (h : DGs X en ts ds is en') (hn : (assignEach ts X.env).length = ds.length := by kernel_rfl) (hst : (assignEach ts X.env).findIdx? (·.1) = none := by kernel_rfl) : DG X en (.Tuple ts k pos) (.tuple ds) is en' := fun B Bo Ho H σ f v r Q q => by
  obtain ⟨a, xs, rfl, hq, r⟩ := r.tup_inv
  exact wG_of (pg_tup hc pgs_w hn hst) ⟨a, xs, rfl, same_sqt f.hoh hq, r.len, h B Bo Ho H σ f xs r Q q⟩
/-- target = e -/
theorem ds_asg {P : Po} {e : Expr} (he : DE X en e .c d) (hg : DG X en tg d is en') (q : P.nx en') (hs : swapsWithSole [tg] e pos.line X.env = pure false := by kernel_rfl) (hw : swappedStores [tg] e X.env = pure none := by kernel_rfl)
    (h1 : (assignEach [tg] X.env).map (·.2) = [assign tg X.env] := by kernel_rfl) : DS X en (.Assign [tg] e pos) P := fun B Bo Ho H σ f D t =>
  wS_of (ps_asg pe_w pg_w hs hw h1) (he B Bo Ho H σ f _ fun v Ho' H' g r => hg B Bo Ho' H' σ (f.gr g) v r _ fun σ' _ f' => t.nx σ' Ho' H' en' q f')
end

/-! ### what a for walks -/
def ItD (K : PySem.W.Frag) (J : It) (Ho : Hp) (ds : List PD) : Prop := ∀ Ho1 H1, Same Ho Ho1 → Same Ho1 H1 → ∀ i : Nat, (∀ d, ds[i]? = some d → J.go i H1 ∧ ∀ x H2, J.yld i H1 x H2 → ∃ H2o, Gr Ho1 H1 H2o H2 ∧ Rp K H2o x d) ∧ (ds.length ≤ i → J.stop i H1)
def DI (X : Cx) (en : En) (tg iter : Expr) (ds : List PD) : Prop := ∃ wi, PI X tg iter wi ∧ ∀ (B Bo Ho H : Hp) (σ : L2.St), Fit X.K B Bo Ho H σ en → ∀ R : It → Hp → Prop, (∀ J Ho' H', Gr Ho H Ho' H' → ItD X.K J Ho' ds → R J H') → wi σ H R
section
variable {X : Cx} {en : En} {tg e a b : Expr} {d : PD} {ds : List PD} {pos p : Pos} {k : Kd}
theorem di_list (h : DE X en e .c (.list ds)) : DI X en tg e ds := ⟨_, pi_list pe_w, fun B Bo Ho H σ f R q => by
  refine h B Bo Ho H σ f _ fun v Ho' H' g r => ?_
  obtain ⟨a, xs, rfl, ha, r⟩ := r.lst_inv
  refine ⟨a, rfl, ⟨xs, .inl (.inl (g.s _ _ ha))⟩, q _ Ho' H' g fun Ho1 H1 s1 s2 i => ⟨fun d hd => ?_, fun hi => ?_⟩⟩
  · obtain ⟨v, hv, rv⟩ := r.get hd
    have hq : SqL X.K H1 a xs := .inl (.inl (s2 _ _ (s1 _ _ ha)))
    refine ⟨⟨xs, v, hq, hv⟩, fun x H2 y => ?_⟩
    obtain ⟨rfl, y⟩ := y
    have := (y xs hq).symm.trans hv
    cases this
    exact ⟨Ho1, .refl s2, Rp.mono s1 rv⟩
  · exact ⟨xs, .inl (.inl (s2 _ _ (s1 _ _ ha))), by rw [r.len]; exact hi⟩⟩
theorem di_tup (h : DE X en e .c (.tuple ds)) : DI X en tg e ds := ⟨_, pi_tup pe_w, fun B Bo Ho H σ f R q => by
  refine h B Bo Ho H σ f _ fun v Ho' H' g r => ?_
  obtain ⟨a, xs, rfl, ha, r⟩ := r.tup_inv
  refine ⟨a, rfl, ⟨xs, same_sqt g.s ha⟩, q _ Ho' H' g fun Ho1 H1 s1 s2 i => ⟨fun d hd => ?_, fun hi => ?_⟩⟩
  · obtain ⟨v, hv, rv⟩ := r.get hd
    have hq : SqT X.K H1 a xs := same_sqt s2 (same_sqt s1 ha)
    refine ⟨⟨xs, v, hq, hv⟩, fun x H2 y => ?_⟩
    obtain ⟨rfl, y⟩ := y
    have := (y xs hq).symm.trans hv
    cases this
    exact ⟨Ho1, .refl s2, Rp.mono s1 rv⟩
  · exact ⟨xs, same_sqt s2 (same_sqt s1 ha), by rw [r.len]; exact hi⟩⟩
def rgD (n : Nat) : List PD := (List.range n).map fun (i : Nat) => PyData.int (i : Int)
theorem itD_range {K : PySem.W.Frag} {Ho : Hp} {n : Nat} : ItD K (Itr 0 n) Ho (rgD n) := fun Ho1 H1 s1 s2 i => by
  refine ⟨fun d hd => ?_, fun hi => ?_⟩
  · unfold rgD at hd
    rw [List.getElem?_map] at hd
    have hi : i < n := by
      cases q : (List.range n)[i]? with
      | none => rw [q] at hd; cases hd
      | some z => have := (List.getElem?_eq_some_iff.mp q).1; rw [List.length_range] at this; exact this
    rw [List.getElem?_range hi] at hd
    cases hd
    refine ⟨hi, fun x H2 y => ?_⟩
    obtain ⟨rfl, rfl⟩ := y
    exact ⟨Ho1, .refl s2, by rw [Int.zero_add]; exact .int _⟩
  · unfold rgD at hi
    rw [List.length_map, List.length_range] at hi
    exact hi
theorem di_range {j : Int} (hm : X.mg "range" = none) (h : DE X en a k (.int j)) (h1 : -(2 ^ 62) ≤ j) (h2 : j < 2 ^ 62) (hg : glB X "range" = true := by kernel_rfl) (hs : starEach [a] X.env = [(false, eval a X.env)] := by kernel_rfl) (hs' : starEach [a] X.env = (false, eval a X.env) :: starEach [] X.env := by kernel_rfl) :
    DI X en tg (.Call (.Name "range" p) [a] [] pos) (rgD j.toNat) := ⟨_, pi_range1 (gl_of hg) hm (pa_cons pe_w pa_nil hs') hs, fun B Bo Ho H σ f R q =>
  h B Bo Ho H σ f _ fun v Ho' H' g r => ⟨j, by rw [r.int_inv], h1, h2, q _ Ho' H' g itD_range⟩⟩
theorem di_rangeN {n : Nat} (hm : X.mg "range" = none) (h : DE X en a k (.int n)) (h2 : n ≤ 100000) (hg : glB X "range" = true := by kernel_rfl) (hs : starEach [a] X.env = [(false, eval a X.env)] := by kernel_rfl) (hs' : starEach [a] X.env = (false, eval a X.env) :: starEach [] X.env := by kernel_rfl) :
    DI X en tg (.Call (.Name "range" p) [a] [] pos) (rgD n) := by
  have := di_range (tg := tg) (p := p) (pos := pos) hm h (by omega) (by omega) hg hs hs'
  rw [Int.toNat_natCast] at this
  exact this
theorem DI.is {ds' : List PD} (h : DI X en tg e ds) (q : ds = ds') : DI X en tg e ds' := q ▸ h
end

/-! ### for -/
theorem ds_for {X : Cx} {en : En} {tg iter : Expr} {body : List Stmt} {P : Po} {pos : Pos} {α : Type} (xs : List α) (c : α → PD) (I : Nat → En) (hi : DI X en tg iter (xs.map c)) (h0 : Lee (I 0) en)
    (hb : ∀ (i : Nat) (x : α), xs[i]? = some x → ∃ is en', DG X (I i) tg (c x) is en' ∧ DSs X en' body { P with nx := Lee (I (i + 1)), ct := Lee (I (i + 1)), bk := P.nx })
    (hd : P.nx (I xs.length)) (hp : PassesOwn (model X.prog X.w) X.A X.env X.xe := by exact PassesOwn.never) (hc : X.calm = true := by kernel_rfl) (hs : ∀ x, foldedSetIterable iter X.env x = pure x := by intro _; rfl) : DS X en (.For tg iter body [] pos) P := fun B Bo Ho H σ f D t => by
  obtain ⟨wi, pi, hi⟩ := hi
  refine wS_of (ps_for hp hc pi pg_w pss_w hs) ?_
  refine hi B Bo Ho H σ f _ fun J Ho1 H1 g it => ?_
  have f1 := f.gr g
  have fb := f1.rebase
  refine ⟨fun i m σ2 H2 => ∃ H2o, m = xs.length - i ∧ i ≤ xs.length ∧ Fit X.K (both B Ho1) Ho1 H2o H2 σ2 (I i), ⟨xs.length, Ho1, by simp, Nat.zero_le _, fb.less h0⟩, ?_⟩
  rintro i m σ2 H2 ⟨H2o, rfl, hle, f2⟩
  have sat : Sat X.K (both B Ho1) Ho1 P D := ⟨fun σ' Ho' H' en' n f' => t.nx σ' Ho' H' en' n (f1.unbase f'), fun v d Ho' H' n g' r => t.rt v d Ho' H' n (f1.unbaseG g') r.unbase, fun σ' Ho' H' en' n f' => t.bk σ' Ho' H' en' n (f1.unbase f'), fun σ' Ho' H' en' n f' => t.ct σ' Ho' H' en' n (f1.unbase f')⟩
  obtain ⟨go, stop⟩ := it H2o H2 f2.boh f2.hoh i
  by_cases hlt : i < xs.length
  · have hx := List.getElem?_eq_getElem hlt
    obtain ⟨go, yl⟩ := go (c xs[i]) (by rw [List.getElem?_map, hx]; rfl)
    obtain ⟨is, en', dg, db⟩ := hb i _ hx
    refine .inr ⟨go, fun σ' H' => ∃ Ho', Fit X.K (both B Ho1) Ho1 Ho' H' σ' (I (i + 1)), fun σ' H' ⟨Ho', f'⟩ => ⟨_, by omega, Ho', rfl, hlt, f'⟩, fun x H3 y => ?_⟩
    obtain ⟨H3o, g3, r3⟩ := yl x H3 y
    refine dg _ _ _ _ _ (f2.gr g3) x r3 _ fun σ3 _ f3 => ?_
    refine db _ _ _ _ _ f3 _ ⟨fun σ' Ho' H' en' n f' => ⟨Ho', f'.less n⟩, sat.rt, sat.nx, fun σ' Ho' H' en' n f' => ⟨Ho', f'.less n⟩⟩
  · have e : i = xs.length := by omega
    subst e
    exact .inl ⟨stop (by rw [List.length_map]; exact Nat.le_refl _), sat.nx σ2 H2o H2 _ hd f2⟩

/-! ### list comprehensions -/
def wipeE (en : En) : List Nat → En
  | [] => en
  | v :: vs => (wipeE en vs).set v none
theorem Fit.wipe {K : PySem.W.Frag} {B Bo Ho H : Hp} {σ : L2.St} {en : En} (f : Fit K B Bo Ho H σ en) : ∀ vs : List Nat, Fit K B Bo Ho H (L2.wipe σ vs) (wipeE en vs)
  | [] => f
  | v :: vs => (Fit.wipe f vs).drop
theorem wipe_get (σ : L2.St) : ∀ (vs : List Nat) (j : Nat), (L2.wipe σ vs)[j]? = if j ∈ vs then σ[j]?.map (fun _ => none) else σ[j]?
  | [], j => by simp [L2.wipe]
  | v :: vs, j => by
    have ih := wipe_get σ vs j
    unfold L2.wipe
    by_cases hj : v = j
    · subst hj
      rw [if_pos List.mem_cons_self, List.getElem?_set]
      simp only [if_true]
      by_cases hl : v < σ.length
      · rw [if_pos (by rw [L2.wipe_length]; exact hl), List.getElem?_eq_getElem hl]; rfl
      · rw [if_neg (by rw [L2.wipe_length]; exact hl), List.getElem?_eq_none (by omega)]; rfl
    · rw [List.getElem?_set_ne hj, ih]
      have : (j ∈ v :: vs) ↔ j ∈ vs := by simp [List.mem_cons, Ne.symm hj]
      by_cases hm : j ∈ vs
      · rw [if_pos hm, if_pos (this.mpr hm)]
      · rw [if_neg hm, if_neg (fun z => hm (this.mp z))]
theorem wipe_eq {σ σ2 : L2.St} {vs is : List Nat} (h : WEq is (L2.wipe σ vs) σ2) (hs : ∀ i ∈ is, i ∈ vs) : L2.wipe σ2 vs = L2.wipe σ vs := by
  apply List.ext_getElem?
  intro j
  rw [wipe_get, wipe_get]
  by_cases hj : j ∈ vs
  · rw [if_pos hj, if_pos hj]
    have hl : σ2.length = σ.length := by rw [h.1, L2.wipe_length]
    by_cases hq : j < σ.length
    · rw [List.getElem?_eq_getElem hq, List.getElem?_eq_getElem (by omega)]; rfl
    · rw [List.getElem?_eq_none (by omega), List.getElem?_eq_none (by omega)]
  · rw [if_neg hj, if_neg hj, h.2 j (fun z => hj (hs j z)), wipe_get, if_neg hj]
def DTs (X : Cx) (en : En) (ifs : List Expr) (b : Bool) : Prop := ∃ t, PTs X ifs t ∧ ∀ (B Bo Ho H : Hp) (σ : L2.St), Fit X.K B Bo Ho H σ en → ∀ Q : Bool → Hp → Prop, (∀ Ho' H', Gr Ho H Ho' H' → Q b H') → t σ H Q
theorem dts_nil {X : Cx} {en : En} : DTs X en [] true := ⟨_, pts_nil, fun B Bo Ho H σ f Q q => q Ho H (.refl f.hoh)⟩
theorem dts_one {X : Cx} {en : En} {c : Expr} {b : Bool} (h : DT X en c b) : DTs X en [c] b := ⟨_, pts_one pt_w, h⟩
def wTs (X : Cx) (ifs : List Expr) : TT := fun σ H Q => ∃ t, PTs X ifs t ∧ t σ H Q
theorem pts_w {X : Cx} {ifs : List Expr} : PTs X ifs (wTs X ifs) := ⟨fun pins s σ H Q I ⟨t, h, q⟩ => h.run pins s σ H Q I q⟩

/-- a comprehension's reading: the list rs -/
def DLc (X : Cx) (en : En) (elt tg iter : Expr) (ifs : List Expr) (scope : Scope) (own : List (Str × Nat)) (rs : List PD) : Prop := ∃ wi g tt te, PI X tg iter wi ∧
  (∀ (s : Shared) (H : Hp) (C : Addr) (cl : List (Str × Addr)) (fp : List Addr), PG (X.blk s H scope (compEnvC scope cl C X.env) fp) tg g) ∧
  (∀ (s : Shared) (H : Hp) (C : Addr) (cl : List (Str × Addr)) (fp : List Addr), PTs (X.blk s H scope (compEnvC scope cl C X.env) fp) ifs tt) ∧
  (∀ (s : Shared) (H : Hp) (C : Addr) (cl : List (Str × Addr)) (fp : List Addr), PE (X.blk s H scope (compEnvC scope cl C X.env) fp) elt te) ∧
  ∀ (B Bo Ho H : Hp) (σ : L2.St), Fit X.K B Bo Ho H σ en → ∀ Q : VK, (∀ v Ho' H', Gr Ho H Ho' H' → Rs X.K .o H Ho' H' v (.list rs) → Q v H') → tLc wi g tt te (own.map (·.2)) σ H Q
theorem dlc_f {X : Cx} {en : En} {elt tg iter : Expr} {ifs : List Expr} {scope : Scope} {own : List (Str × Nat)} {α : Type} (xs : List α) (c : α → PD) (p : α → Bool) (f : α → PD) (hi : DI X en tg iter (xs.map c))
    (hb : ∀ x ∈ xs, ∃ is en', (∀ i ∈ is, i ∈ own.map (·.2)) ∧ ∀ (s : Shared) (H : Hp) (C : Addr) (cl : List (Str × Addr)) (fp : List Addr),
      DG (X.blk s H scope (compEnvC scope cl C X.env) fp) (wipeE en (own.map (·.2))) tg (c x) is en' ∧ DTs (X.blk s H scope (compEnvC scope cl C X.env) fp) en' ifs (p x) ∧ (p x = true → DE (X.blk s H scope (compEnvC scope cl C X.env) fp) en' elt .c (f x)))
    (hl : xs.length ≤ 100000) : DLc X en elt tg iter ifs scope own ((xs.filter p).map f) := by
  obtain ⟨wi, pi, hi⟩ := hi
  refine ⟨wi, fun v σ H Q => ∀ (s : Shared) (H0 : Hp) (C : Addr) (cl : List (Str × Addr)) (fp : List Addr), wG (X.blk s H0 scope (compEnvC scope cl C X.env) fp) tg v σ H Q,
    fun σ H Q => ∀ (s : Shared) (H0 : Hp) (C : Addr) (cl : List (Str × Addr)) (fp : List Addr), wTs (X.blk s H0 scope (compEnvC scope cl C X.env) fp) ifs σ H Q,
    fun σ H Q => ∀ (s : Shared) (H0 : Hp) (C : Addr) (cl : List (Str × Addr)) (fp : List Addr), wE (X.blk s H0 scope (compEnvC scope cl C X.env) fp) elt σ H Q, pi,
    fun s H0 C cl fp => ⟨fun pins s' σ H v u Q I r h => (h s H0 C cl fp).run pins s' u I r⟩, fun s H0 C cl fp => ⟨fun pins s' σ H Q I h => pts_w.run pins s' σ H Q I (h s H0 C cl fp)⟩, fun s H0 C cl fp => ⟨fun pins s' σ H Q I h => (h s H0 C cl fp).run pins s' I⟩, fun B Bo Ho H σ ft Q q => ?_⟩
  refine hi B Bo Ho H σ ft _ fun J Ho1 H1 g1 it => ?_
  intro D hD
  have n1 : Ho1 D = none := g1.s.free hD
  refine ⟨fun i m H2 => ∃ H2o acc, m = xs.length - i ∧ i ≤ xs.length ∧ Gr Ho1 H1 H2o H2 ∧ H2o D = none ∧ H2 D = some (.lst acc) ∧ acc.length ≤ i ∧ RpA X.K H2o acc (((xs.take i).filter p).map f),
    ⟨xs.length, Ho1, [], by simp, Nat.zero_le _, .tmp g1.s hD, n1, upd_same, Nat.le_refl _, .nil⟩, ?_⟩
  rintro i m H2 ⟨H2o, acc, rfl, hle, g2, n2, e2, hal, r2⟩
  obtain ⟨go, stop⟩ := it H2o H2 g2.o g2.s i
  by_cases hlt : i < xs.length
  · have hx := List.getElem?_eq_getElem hlt
    obtain ⟨go, yl⟩ := go (c xs[i]) (by rw [List.getElem?_map, hx]; rfl)
    obtain ⟨is, en', his, hb⟩ := hb xs[i] (List.getElem_mem hlt)
    have htk : xs.take (i + 1) = xs.take i ++ [xs[i]] := by rw [List.take_add_one, hx]; rfl
    refine .inr ⟨go, fun H' => ∃ m', m' < xs.length - i ∧ ∃ H2o acc, m' = xs.length - (i + 1) ∧ i + 1 ≤ xs.length ∧ Gr Ho1 H1 H2o H' ∧ H2o D = none ∧ H' D = some (.lst acc) ∧ acc.length ≤ i + 1 ∧ RpA X.K H2o acc (((xs.take (i + 1)).filter p).map f), fun H' h => h, fun x H3 y => ?_⟩
    obtain ⟨H3o, g3, r3⟩ := yl x H3 y
    intro s H0 C cl fp
    refine (hb s H0 C cl fp).1 B Bo H3o H3 _ (((ft.gr g1).gr (g2.trans g3)).wipe _) x r3 _ fun σ3 w3 f3 => ⟨wipe_eq w3 his, ?_⟩
    intro s H0 C cl fp
    obtain ⟨t, pt, ht⟩ := (hb s H0 C cl fp).2.1
    refine ⟨t, pt, ht B Bo H3o H3 σ3 f3 _ fun H4o H4 g4 => ?_⟩
    have e4 := (g3.trans g4).h _ _ e2
    have k3 : H3o D = none := (g3.fr D (by rw [e2]; intro z; cases z)).trans n2
    have k4 : H4o D = none := (g4.fr D (by rw [g3.h _ _ e2]; intro z; cases z)).trans k3
    cases hpx : p xs[i] with
    | false =>
      refine ⟨_, by omega, H4o, acc, rfl, hlt, (g2.trans g3).trans g4, k4, e4, by omega, ?_⟩
      rw [htk, List.filter_append, List.filter_cons, hpx]
      simp only [Bool.false_eq_true, if_false, List.filter_nil, List.append_nil]
      exact r2.mono (g3.trans g4).o
    | true =>
      show ∀ (s : Shared) (H0 : Hp) (C : Addr) (cl : List (Str × Addr)) (fp : List Addr), wE (X.blk s H0 scope (compEnvC scope cl C X.env) fp) elt σ3 H4 _
      intro s H0 C cl fp
      refine (hb s H0 C cl fp).2.2 hpx B Bo H4o H4 σ3 (f3.gr g4) _ fun v H5o H5 g5 r5 => ?_
      have e5 := g5.h _ _ e4
      have k5 : H5o D = none := (g5.fr D (by rw [e4]; intro z; cases z)).trans k4
      have g := ((g2.trans g3).trans g4).trans g5
      refine ⟨acc, e5, sz100l (by omega), _, by omega, H5o, acc ++ [v], rfl, hlt, ⟨fun b o e => ?_, g.o, fun b o e => ?_, g.fr⟩, k5, upd_same, by rw [List.length_append]; simp; omega, ?_⟩
      · rw [upd_ne (ne_of_none e hD)]; exact g.h _ _ e
      · rw [upd_ne (ne_of_none e k5)]; exact g.s _ _ e
      · rw [htk, List.filter_append, List.filter_cons, hpx]
        simp only [if_true, List.filter_nil, List.map_append, List.map_cons, List.map_nil]
        exact (r2.mono (g3.trans (g4.trans g5)).o).app (.one r5)
  · have e : i = xs.length := by omega
    subst e
    refine .inl ⟨stop (by rw [List.length_map]; exact Nat.le_refl _), ?_⟩
    rw [List.take_length] at r2
    exact q _ H2o H2 (g1.trans g2) ⟨D, rfl, g1.h.free hD, n2, acc, e2, r2⟩
theorem dlc {X : Cx} {en : En} {elt tg iter : Expr} {scope : Scope} {own : List (Str × Nat)} {α : Type} (xs : List α) (c : α → PD) (f : α → PD) (hi : DI X en tg iter (xs.map c))
    (hb : ∀ x ∈ xs, ∃ is en', (∀ i ∈ is, i ∈ own.map (·.2)) ∧ ∀ (s : Shared) (H : Hp) (C : Addr) (cl : List (Str × Addr)) (fp : List Addr),
      DG (X.blk s H scope (compEnvC scope cl C X.env) fp) (wipeE en (own.map (·.2))) tg (c x) is en' ∧ DE (X.blk s H scope (compEnvC scope cl C X.env) fp) en' elt .c (f x))
    (hl : xs.length ≤ 100000) : DLc X en elt tg iter [] scope own (xs.map f) := by
  have h := dlc_f (X := X) (en := en) (elt := elt) (tg := tg) (iter := iter) (ifs := []) (scope := scope) (own := own) xs c (fun _ => true) f hi (fun x hx => by
    obtain ⟨is, en', h1, h2⟩ := hb x hx
    exact ⟨is, en', h1, fun s H C cl fp => ⟨(h2 s H C cl fp).1, dts_nil, fun _ => (h2 s H C cl fp).2⟩⟩) hl
  have e : xs.filter (fun _ => true) = xs := List.filter_eq_self.mpr fun _ _ => rfl
  rw [e] at h
  exact h
theorem DLc.is {X : Cx} {en : En} {elt tg iter : Expr} {ifs : List Expr} {scope : Scope} {own : List (Str × Nat)} {rs rs' : List PD} (h : DLc X en elt tg iter ifs scope own rs) (e : rs = rs') : DLc X en elt tg iter ifs scope own rs' := e ▸ h
theorem de_lc {X : Cx} {en : En} {elt tg iter : Expr} {ifs : List Expr} {scope : Scope} {own : List (Str × Nat)} {pos : Pos} {rs : List PD} (h : DLc X en elt tg iter ifs scope own rs) (hN : X.N.Nodup) (ok : BlkOk X.N X.env.scope scope own) (hc : X.calm = true := by kernel_rfl)
    (hs : ∀ x, foldedSetIterable iter X.env x = pure x := by intro _; rfl) : DE X en (.ListComp elt [⟨tg, iter, ifs, 0⟩] scope pos) .o (.list rs) := fun B Bo Ho H σ ft Q q => by
  obtain ⟨wi, g, tt, te, pi, hg, ht, he, r⟩ := h
  exact wE_of (pe_lc (own := own) hc hN pi ok hg ht he hs) (r B Bo Ho H σ ft Q q)
/-- y = [..] on one line -/
theorem ds_setLc (i : Nat) {X : Cx} {en : En} {P : Po} {y : Str} {py : Pos} {elt tg iter : Expr} {ifs : List Expr} {scope : Scope} {own : List (Str × Nat)} {pos spos : Pos} {rs : List PD} (h : DLc X en elt tg iter ifs scope own rs) (q : P.nx (en.set i (some (.o (.list rs))))) (hN : X.N.Nodup)
    (ok : BlkOk X.N X.env.scope scope own) (hy : X.N[i]? = some y := by kernel_rfl) (hyl : X.env.scope.names.lookup y = some .local := by kernel_rfl)
    (hsw : swapsWith (.ListComp elt [⟨tg, iter, ifs, 0⟩] scope pos) (some (.Name y py)) spos.line X.env = pure true := by exact sw_true rfl rfl rfl (by decide +kernel)) (hc : X.calm = true := by kernel_rfl)
    (hs : ∀ x, foldedSetIterable iter X.env x = pure x := by intro _; rfl) : DS X en (.Assign [.Name y py] (.ListComp elt [⟨tg, iter, ifs, 0⟩] scope pos) spos) P := fun B Bo Ho H σ f D t => by
  obtain ⟨wi, g, tt, te, pi, hg, ht, he, r⟩ := h
  refine wS_of (ps_setLc (i := i) (own := own) hc hN hy hyl hsw pi ok hg ht he hs) (r B Bo Ho H σ f _ fun v Ho' H' g r => ?_)
  obtain ⟨p, rfl, n1, n2, w⟩ := r
  exact t.nx _ Ho' H' _ q (f.setO g n1 n2 w)

/-! ### defs -/
def startE (N : List Str) (ds : List PD) : En := (ds.map fun d => some (Sl.v d)) ++ List.replicate (N.length - ds.length) none
theorem fit_start {K : PySem.W.Frag} {Bo H : Hp} {N : List Str} {vs : List V} {ds : List PD} (s : Same Bo H) (r : RpA K Bo vs ds) : Fit K H Bo Bo H (L2.start N vs) (startE N ds) := by
  have hl := r.len
  have far : ∀ (i : Nat) (x : Sl), (startE N ds)[i]? = some (some x) → ∃ d, ds[i]? = some d ∧ x = .v d := fun i x e => by
    unfold startE at e
    by_cases hi : i < ds.length
    · rw [List.getElem?_append_left (by rw [List.length_map]; exact hi), List.getElem?_map, List.getElem?_eq_getElem hi] at e
      have e2 : Sl.v ds[i] = x := Option.some.inj (Option.some.inj e)
      exact ⟨ds[i], List.getElem?_eq_getElem hi, e2.symm⟩
    · rw [List.getElem?_append_right (by rw [List.length_map]; omega), List.getElem?_replicate] at e
      split at e <;> cases e
  refine ⟨s, .refl _, .refl _, s, fun _ _ => rfl, ?_, fun i x e => ?_, fun i j d d' p e1 => ?_⟩
  · unfold L2.start startE
    rw [List.length_append, List.length_append, List.length_map, List.length_map, List.length_replicate, List.length_replicate, hl]
  · obtain ⟨d, hd, rfl⟩ := far i x e
    obtain ⟨v, hv, rv⟩ := r.get hd
    refine ⟨v, ?_, rv⟩
    unfold L2.start
    have hi : i < vs.length := (List.getElem?_eq_some_iff.mp hv).1
    rw [List.getElem?_append_left (by rw [List.length_map]; exact hi), List.getElem?_map, hv]
    rfl
  · obtain ⟨_, _, z⟩ := far i _ e1
    cases z
section
variable {P : Program} {w : World} {K : PySem.W.Frag} {mg : Str → Option Value} {base : Heap}
abbrev FnP (K : PySem.W.Frag) (x : Str) (st : Stmt) (f : Addr) (fd : FuncData) : Prop := FunD K x x (defArgs st) (defBody st) (defScope st) [] [] f fd
/-- THE RULE for a def over data -/
theorem fn_mk {qual : Str} {st : Stmt} {f : Addr} {fd : FuncData} {N ps : List Str} {k : Nat} (F : FnP K qual st f fd) (S : FnScope N ps (defScope st)) (R : List PD → PD → Prop) (kd : Kd) (hlen : ∀ ds d, R ds d → ds.length = ps.length)
    (hb : ∀ (cdv : Value) (A : Around) (outer : List Env) (s : Shared) (H : Hp) (E : XK), Room k (A.deeper (envOfC qual (defScope st) s.heap.objs.size f cdv)) → ∀ ds d, R ds d →
      DSs (cxOf CX0 P w K mg base N qual (defScope st) f cdv A outer s H E).nox (startE N ds) (defBody st) { nx := fun _ => False, rk := kd, rt := fun z => z = d }) : FnOk P w K mg base CX0 (k + 1) f fd ps (spF K R kd) := by
  refine F.ok S (fun vs H Q E h => ?_) (fun cdv A outer s H vs Q E hr h => ?_)
  · obtain ⟨Bo, ds, d, _, r, h, _⟩ := h
    rw [r.len]
    exact hlen ds d h
  · obtain ⟨Bo, ds, d, sb, r, h, q⟩ := h
    refine ⟨_, PSs.nox pss_w, ?_⟩
    refine hb cdv A outer s H E hr ds d h H Bo Bo H _ (fit_start sb r) _ ⟨fun _ _ _ _ z => z.elim, fun v d' Ho' H' e g r => ?_, fun _ _ _ _ z => z.elim, fun _ _ _ _ z => z.elim⟩
    have e : d' = d := e
    subst e
    exact q v Ho' H' g r
theorem dn_mk {x : Str} {f : Addr} {fd : FuncData} {ps : List Str} {k : Nat} {R : List PD → PD → Prop} {kd : Kd} (h : FnOk P w K mg base CX0 k f fd ps (spF K R kd)) (hm : mg x = some (.ref f)) (hk : PySem.W.keepIn K (.ref f) = true) (hb : Binds K fd ps []) : Dn P w K mg base k x R kd := ⟨⟨f, fd, ps, h, hm, hk, hb⟩⟩
end
end DL

namespace DL
open PySem PySem.Spec PyProof.Rows L2

/-! ### the words -/
theorem nT {c : Bool} {α : Prop} (w : c = false) (h : c = true) : α := by rw [w] at h; cases h
theorem nF {c : Bool} {α : Prop} (w : c = true) (h : c = false) : α := by rw [w] at h; cases h
theorem deq {α : Type} [DecidableEq α] (x : α) : decide (x = x) = true := decide_eq_true rfl
theorem w_sum_stop : decide (("sum" : Str) = "stop") = false := by decide +kernel
theorem w_sum_pick : decide (("sum" : Str) = "pick") = false := by decide +kernel
theorem w_sum_not : decide (("sum" : Str) = "not") = false := by decide +kernel
theorem w_stop_sum : decide (("stop" : Str) = "sum") = false := by decide +kernel
theorem w_stop_pick : decide (("stop" : Str) = "pick") = false := by decide +kernel
theorem w_stop_not : decide (("stop" : Str) = "not") = false := by decide +kernel
theorem w_pick_sum : decide (("pick" : Str) = "sum") = false := by decide +kernel
theorem w_pick_stop : decide (("pick" : Str) = "stop") = false := by decide +kernel
theorem w_pick_not : decide (("pick" : Str) = "not") = false := by decide +kernel
theorem w_not_sum : decide (("not" : Str) = "sum") = false := by decide +kernel
theorem w_not_stop : decide (("not" : Str) = "stop") = false := by decide +kernel
theorem w_not_pick : decide (("not" : Str) = "pick") = false := by decide +kernel
/-! ### the mathematics of parts -/
inductive Pt | sum (a b : Nat) | stop (a b : Nat) | pick (a b c : Nat) | not (a : Nat)
def Pt.word : Pt → Str
  | .sum _ _ => "sum" | .stop _ _ => "stop" | .pick _ _ _ => "pick" | .not _ => "not"
def Pt.lines : Pt → List Nat
  | .sum a b => [a, b] | .stop a b => [a, b] | .pick a b c => [a, b, c] | .not a => [a]
def nD (n : Nat) : PD := .int n
def rowL (row : List Nat) : PD := .list (row.map nD)
def rowT (row : List Nat) : PD := .tuple (row.map nD)
def seqD (b : Bool) (row : List Nat) : PD := if b = true then rowL row else rowT row
def ptD (p : Pt) : PD := .tuple (.str p.word :: p.lines.map nD)
def give (ring : Nat) (p : Pt) (row : List Nat) : Nat := match p with
  | .sum a b => (row.getD a 0 + row.getD b 0) % ring
  | .stop a b => if row.getD b 0 = 0 then row.getD a 0 else 0
  | .pick a b c => if row.getD a 0 = 0 then row.getD b 0 else row.getD c 0
  | .not a => ring - 1 - row.getD a 0
theorem give_lt {ring : Nat} {p : Pt} {row : List Nat} (hr : 2 ≤ ring) (h : ∀ x ∈ row, x < ring) : give ring p row < ring := by
  have g : ∀ i, row.getD i 0 < ring := fun i => by
    rw [List.getD_eq_getElem?_getD]
    cases q : row[i]? with
    | none => show 0 < ring; omega
    | some x => exact h x (List.mem_of_getElem? q)
  cases p with
  | sum a b => exact Nat.mod_lt _ (by omega)
  | stop a b =>
    show (if row.getD b 0 = 0 then row.getD a 0 else 0) < ring
    split
    · exact g a
    · omega
  | pick a b c =>
    show (if row.getD a 0 = 0 then row.getD b 0 else row.getD c 0) < ring
    split
    · exact g b
    · exact g c
  | not a =>
    show ring - 1 - row.getD a 0 < ring
    omega
theorem atI_row {row : List Nat} {l : Nat} (h : l < row.length) : atI (row.map nD) (l : Int) = some (nD (row.getD l 0)) := by
  refine atI_nat ?_
  rw [List.getElem?_map, List.getElem?_eq_getElem h, List.getD_eq_getElem?_getD, List.getElem?_eq_getElem h]
  rfl
theorem atI_row0 {row : List Nat} {l : Nat} {x : Nat} (h : row[l]? = some x) : atI (row.map nD) (l : Int) = some (nD x) := by
  refine atI_nat ?_
  rw [List.getElem?_map, h]
  rfl
/-- an item of a list or a tuple of digits -/
theorem de_row {X : Cx} {en : En} {a b : Expr} {pos : Pos} {kb : Kd} {s : Bool} {row : List Nat} {l : Nat} (ha : DE X en a .e (seqD s row)) (hb : DE X en b kb (nD l)) (h : l < row.length) (hs : PlainIx b := by intro _ _; rfl) : DE X en (.Subscript a b pos) .c (nD (row.getD l 0)) := by
  cases s with
  | true => exact de_ixL ha hb (atI_row h) hs
  | false => exact de_ixT ha hb (atI_row h) hs
/-- the script's cells -/
def cellI (ns : List Int) (k : Nat) : Int := ns.getD k 0
theorem cell_cut (ns : List Int) (k : Nat) : cutA ns (some (k : Int)) (some ((k : Int) + 1)) = (ns.drop k).take 1 := by
  have e1 : HT.sIx ns.length 0 (some (k : Int)) = min k ns.length := HT.sIx_nat _ _ _
  have e2 : HT.sIx ns.length ns.length (some ((k : Int) + 1)) = min (k + 1) ns.length := HT.sIx_nat ns.length ns.length (k + 1)
  unfold cutA
  rw [e1, e2]
  by_cases h : k < ns.length
  · rw [Nat.min_eq_left (by omega), Nat.min_eq_left (by omega)]
    congr 1
    omega
  · rw [List.drop_of_length_le (show ns.length ≤ min k ns.length by omega), List.drop_of_length_le (show ns.length ≤ k by omega)]
    simp
theorem cell_at (ns : List Int) (k : Nat) : atI ((cutA ns (some (k : Int)) (some ((k : Int) + 1))).map PyData.int ++ [PyData.int 0]) 0 = some (.int (cellI ns k)) := by
  refine atI_nat (j := 0) ?_
  rw [cell_cut]
  unfold cellI
  by_cases h : k < ns.length
  · rw [List.drop_eq_getElem_cons h]
    show some (PyData.int ns[k]) = some (PyData.int (ns.getD k 0))
    rw [List.getD_eq_getElem?_getD, List.getElem?_eq_getElem h]
    rfl
  · rw [List.drop_of_length_le (show ns.length ≤ k by omega), List.getD_eq_getElem?_getD, List.getElem?_eq_none (show ns.length ≤ k by omega)]
    rfl
theorem cell_len (ns : List Int) (k : Nat) : ((cutA ns (some (k : Int)) (some ((k : Int) + 1))).map PyData.int).length + [PyData.int 0].length ≤ 100000 := by
  rw [cell_cut, List.length_map, List.length_take]
  simp only [List.length_cons, List.length_nil]
  omega
def mixI (ns : List Int) (k : Nat) : Int := (cellI ns k + 101 * (k : Int)) * 48271 % 2147483647
def mix (ns : List Int) (k : Nat) : Nat := (mixI ns k).toNat
theorem mix_nD (ns : List Int) (k : Nat) : PyData.int (mixI ns k) = nD (mix ns k) := by
  have h : 0 ≤ mixI ns k := Int.emod_nonneg _ (by decide)
  unfold nD mix
  rw [Int.toNat_of_nonneg h]
theorem mix_lt (ns : List Int) (k : Nat) : mix ns k < 2147483647 := by
  have h : 0 ≤ mixI ns k := Int.emod_nonneg _ (by decide)
  have h2 : mixI ns k < 2147483647 := Int.emod_lt_of_pos _ (by decide)
  unfold mix
  omega
end DL

namespace DL
open PySem PySem.Spec PyProof.Rows L2
section
variable {X : Cx} {en : En} {a b e : Expr} {es : List Expr} {p p2 pos : Pos} {k ka kb : Kd} {d da db : PD} {ds : List PD}
/-! ### isinstance -/
def typN : PD → Option String
  | .none => some "NoneType" | .bool _ => some "bool" | .int _ => some "int" | .str _ => some "str" | .list _ => some "list" | .tuple _ => some "tuple" | .dict _ => none
theorem Rp.ty {K : PySem.W.Frag} {H : Hp} {v : V} {t : String} (h : Rp K H v d) (ht : typN d = some t) : TyX K H v (.type t) := by
  cases h with
  | non => cases ht; exact .base .non
  | bl b => cases ht; exact .base (.bl b)
  | int i => cases ht; exact .base (.int i)
  | str x => cases ht; exact .base (.str x)
  | lst h r => cases ht; exact .base (.lst h)
  | tup h r =>
    cases ht
    rcases h with (h | ⟨o, h⟩) | ⟨o, its, n, hk, hc, _⟩
    · exact .base (.tup h)
    · exact .fTuple h
    · exact .kTuple hk hc
  | dct h r => cases ht
  | scr h => cases ht
theorem kit_ii : kitB "int" "int" = some true := by decide +kernel
theorem kit_ib : kitB "int" "bool" = some false := by decide +kernel
theorem kit_tt : kitB "tuple" "tuple" = some true := by decide +kernel
theorem kit_ll : kitB "list" "list" = some true := by decide +kernel
theorem de_isi {n t : String} {tx : Str} {r : Bool} (hm : X.mg "isinstance" = none) (hmT : X.mg tx = none) (ha : DE X en a k d) (ht : typN d = some t) (hr : kitB t n = some r) (hv : bootBuiltins tx = some (.type n)) (hg : glB X "isinstance" = true := by kernel_rfl) (hgT : glB X tx = true := by kernel_rfl)
    (hn : tx ≠ "__name__" := by decide) (hd : (tx == ("__debug__" : Str)) = false := by kernel_rfl) (he : starEach [a, .Name tx p2] X.env = (false, eval a X.env) :: starEach [.Name tx p2] X.env := by kernel_rfl) (he2 : starEach [.Name tx p2] X.env = (false, eval (.Name tx p2) X.env) :: starEach [] X.env := by kernel_rfl)
    (hpl : (backTo pos (starEach [.Name tx p2] X.env)).any (·.1) = false := by kernel_rfl) : DE X en (.Call (.Name "isinstance" p) [a, .Name tx p2] [] pos) .c (.bool r) := fun B Bo Ho H σ f Q q => by
  refine wE_of (pe_callB call_isi (gl_of hg) hm boot_isinstance (pa_cons pe_w (pa_cons (pe_bltn (v := .ty n) (gl_of hgT) hmT hv rfl hn hd) pa_nil he2) he) (he := he) (hpl := hpl)) ?_
  refine ha B Bo Ho H σ f _ fun v H1o H1 g1 r1 => ?_
  exact ⟨v, .ty n, .type t, .type n, r, rfl, .ty n, (r1.rpt g1.s).ty ht, kit_ty hr, q _ H1o H1 g1 (.bl _)⟩
end
end DL

namespace DL
open PySem PySem.Spec PyProof.Rows L2

/-! ### dicts -/
abbrev Ky := L2.Key
def dk (kvs : List (Ky × PD)) : PD := .dict (kvs.map fun p => (kD p.1, p.2))
def valD (kvs : List (Ky × PD)) (k : Ky) : Option PD := (kvs.find? fun kv => decide (kv.1 = k)).map (·.2)
def putD (kvs : List (Ky × PD)) (k : Ky) (d : PD) : List (Ky × PD) := if (kvs.any fun kv => decide (kv.1 = k)) = true then kvs.map (fun kv => if kv.1 = k then (kv.1, d) else kv) else kvs ++ [(k, d)]
theorem kD_inj {k l : Ky} (h : kD k = kD l) : k = l := by
  cases k <;> cases l <;> simp [kD] at h <;> rw [h]
section
variable {K : PySem.W.Frag} {Ho H : Hp}
theorem RpK.to : ∀ {kv : List (Ky × V)} {kvs : List (Ky × PD)}, RpK K H kv (kvs.map fun p => (kD p.1, p.2)) → kv.map (·.1) = kvs.map (·.1) ∧ RpA K H (kv.map (·.2)) (kvs.map (·.2))
  | [], [], _ => ⟨rfl, .nil⟩
  | [], p :: kvs, h => by cases h
  | q :: kv, [], h => by cases h
  | q :: kv, p :: kvs, h => by
    rw [List.map_cons] at h
    generalize e : (kD p.1, p.2) :: kvs.map (fun p => (kD p.1, p.2)) = l at h
    cases h with
    | cons h r =>
      have e1 := (List.cons.inj e).1
      have e2 := (List.cons.inj e).2
      subst e2
      obtain ⟨i1, i2⟩ := RpK.to r
      have e3 := kD_inj (Prod.mk.inj e1).1
      have e4 := (Prod.mk.inj e1).2
      subst e4
      refine ⟨?_, .cons h i2⟩
      rw [List.map_cons, List.map_cons, i1, e3]
theorem RpK.of : ∀ {kv : List (Ky × V)} {kvs : List (Ky × PD)}, kv.map (·.1) = kvs.map (·.1) → RpA K H (kv.map (·.2)) (kvs.map (·.2)) → RpK K H kv (kvs.map fun p => (kD p.1, p.2))
  | [], [], _, _ => .nil
  | [], p :: kvs, e, _ => by cases e
  | q :: kv, [], e, _ => by cases e
  | (k, v) :: kv, (l, d) :: kvs, e, r => by
    rw [List.map_cons, List.map_cons] at e r
    have e1 : k = l := (List.cons.inj e).1
    subst e1
    cases r with
    | cons h r => exact .cons h (RpK.of (List.cons.inj e).2 r)
theorem valD_rp : ∀ {kv : List (Ky × V)} {kvs : List (Ky × PD)} {k : Ky}, kv.map (·.1) = kvs.map (·.1) → RpA K H (kv.map (·.2)) (kvs.map (·.2)) → (valD kvs k = none ∧ valV kv k = none) ∨ ∃ v d, valD kvs k = some d ∧ valV kv k = some v ∧ Rp K H v d
  | [], [], _, _, _ => .inl ⟨rfl, rfl⟩
  | [], p :: kvs, _, e, _ => by cases e
  | q :: kv, [], _, e, _ => by cases e
  | (k1, v) :: kv, (l, d) :: kvs, k, e, r => by
    rw [List.map_cons, List.map_cons] at e r
    have e1 : k1 = l := (List.cons.inj e).1
    subst e1
    cases r with
    | cons h r =>
      unfold valD valV
      by_cases hk : k1 = k
      · simp only [List.find?_cons, hk, decide_true, Option.map_some]
        exact .inr ⟨v, d, rfl, rfl, h⟩
      · simp only [List.find?_cons, hk, decide_false]
        exact valD_rp (List.cons.inj e).2 r
theorem RpA.map_if : ∀ {kv : List (Ky × V)} {kvs : List (Ky × PD)} {k : Ky} {v : V} {d : PD}, kv.map (·.1) = kvs.map (·.1) → RpA K H (kv.map (·.2)) (kvs.map (·.2)) → Rp K H v d →
    (kv.map fun q => if q.1 = k then (q.1, v) else q).map (·.1) = (kvs.map fun q => if q.1 = k then (q.1, d) else q).map (·.1) ∧ RpA K H ((kv.map fun q => if q.1 = k then (q.1, v) else q).map (·.2)) ((kvs.map fun q => if q.1 = k then (q.1, d) else q).map (·.2))
  | [], [], _, _, _, _, _, _ => ⟨rfl, .nil⟩
  | [], p :: kvs, _, _, _, e, _, _ => by cases e
  | q :: kv, [], _, _, _, e, _, _ => by cases e
  | (k1, v1) :: kv, (l, d1) :: kvs, k, v, d, e, r, h => by
    rw [List.map_cons, List.map_cons] at e r
    have e1 : k1 = l := (List.cons.inj e).1
    subst e1
    cases r with
    | cons h1 r =>
      obtain ⟨i1, i2⟩ := RpA.map_if (k := k) (List.cons.inj e).2 r h
      by_cases hk : k1 = k
      · simp only [List.map_cons, hk, if_true]
        exact ⟨by rw [i1], .cons h i2⟩
      · simp only [List.map_cons, hk, if_false]
        exact ⟨by rw [i1], .cons h1 i2⟩
theorem any_keys {kv : List (Ky × V)} {kvs : List (Ky × PD)} {k : Ky} (e : kv.map (·.1) = kvs.map (·.1)) : (kv.any fun q => decide (q.1 = k)) = (kvs.any fun q => decide (q.1 = k)) := by
  have h1 : (kv.any fun q => decide (q.1 = k)) = (kv.map (·.1)).any (fun x => decide (x = k)) := by rw [List.any_map]; rfl
  have h2 : (kvs.any fun q => decide (q.1 = k)) = (kvs.map (·.1)).any (fun x => decide (x = k)) := by rw [List.any_map]; rfl
  rw [h1, h2, e]
theorem putD_rp {kv : List (Ky × V)} {kvs : List (Ky × PD)} {k : Ky} {v : V} {d : PD} (e : kv.map (·.1) = kvs.map (·.1)) (r : RpA K H (kv.map (·.2)) (kvs.map (·.2))) (h : Rp K H v d) :
    (putK kv k v).map (·.1) = (putD kvs k d).map (·.1) ∧ RpA K H ((putK kv k v).map (·.2)) ((putD kvs k d).map (·.2)) := by
  unfold putK putD
  rw [any_keys e]
  by_cases hk : (kvs.any fun q => decide (q.1 = k)) = true
  · rw [if_pos hk, if_pos hk]
    exact RpA.map_if e r h
  · rw [if_neg hk, if_neg hk, List.map_append, List.map_append, List.map_append, List.map_append, e]
    exact ⟨rfl, r.app (.one h)⟩
theorem putD_len (kvs : List (Ky × PD)) (k : Ky) (d : PD) : (putD kvs k d).length ≤ kvs.length + 1 := by
  unfold putD
  split
  · rw [List.length_map]; omega
  · rw [List.length_append]; simp
theorem Rp.dk_inv {v : V} {kvs : List (Ky × PD)} (h : Rp K H v (dk kvs)) : ∃ a kv, v = .ref a ∧ H a = some (.dK kv) ∧ kv.map (·.1) = kvs.map (·.1) ∧ RpA K H (kv.map (·.2)) (kvs.map (·.2)) := by
  unfold dk at h
  generalize e : (PyData.dict (kvs.map fun p => (kD p.1, p.2))) = d at h
  cases h with
  | dct h r =>
    cases e
    obtain ⟨i1, i2⟩ := r.to
    exact ⟨_, _, rfl, h, i1, i2⟩
  | scr h =>
    unfold DL.scr at e
    have e2 := PyData.dict.inj e
    cases kvs with
    | nil => cases e2
    | cons p r =>
      have e3 := (Prod.mk.inj (List.cons.inj e2).1).1
      obtain ⟨k, _⟩ := p
      cases k <;> cases e3
  | _ => cases e
theorem RpE.dk_inv {v : V} {kvs : List (Ky × PD)} (h : RpE K Ho H v (dk kvs)) (s : Same Ho H) : ∃ a kv, v = .ref a ∧ H a = some (.dK kv) ∧ kv.map (·.1) = kvs.map (·.1) ∧ RpA K Ho (kv.map (·.2)) (kvs.map (·.2)) := by
  rcases h with ⟨a, kv, e, h, r⟩ | h
  · obtain ⟨i1, i2⟩ := r.to
    exact ⟨a, kv, e, h, i1, i2⟩
  · obtain ⟨a, kv, e, h, i1, i2⟩ := h.dk_inv
    exact ⟨a, kv, e, s _ _ h, i1, i2⟩
theorem Rs.key {k : Kd} {H0 Ho H : Hp} {v : V} {y : Ky} (h : Rs K k H0 Ho H v (kD y)) : v = kV y := by
  cases y with
  | inl i => exact h.int_inv
  | inr x => exact h.str_inv
end

section
variable {X : Cx} {en : En} {a b e : Expr} {es : List Expr} {p p2 pos apos cpos : Pos} {k ka kb : Kd} {d da db : PD} {ds : List PD} {kvs : List (Ky × PD)} {y : Ky} {n : Nat}
theorem hu1 {A : Around} {k : Nat} (hr : Room k A) : A.units + 1 < cLine := by have := hr.un; omega
/-- {} -/
theorem de_dnew : DE X en (.Dict [] [] pos) .o (dk []) := fun B Bo Ho H σ f Q q => wE_of pe_dnewK fun p hp => q _ _ _ (.tmp f.hoh hp) ⟨p, rfl, hp, f.hoh.free hp, [], upd_same, .nil⟩
/-- d[k], there -/
theorem de_dget (hr : Room n X.A) (ha : DE X en a .e (dk kvs)) (hb : DE X en b kb (kD y)) (h : valD kvs y = some d) (hs : NoSl b := by intro _ _; rfl) : DE X en (.Subscript a b pos) .c d := fun B Bo Ho H σ f Q q => by
  refine wE_of (pe_dget (hu1 hr) pe_w pe_w hs) ?_
  refine ha B Bo Ho H σ f _ fun v H1o H1 g1 r1 => ?_
  refine hb B Bo H1o H1 σ (f.gr g1) _ fun u H2o H2 g2 r2 => ?_
  obtain ⟨p, kv, rfl, hp, i1, i2⟩ := RpE.dk_inv r1 g1.s
  rcases valD_rp (k := y) i1 i2 with ⟨h0, _⟩ | ⟨w, d', h1, h2, h3⟩
  · rw [h0] at h; cases h
  · rw [h1] at h; cases h
    refine ⟨p, w, rfl, ?_, q _ H2o H2 (g1.trans g2) (Rp.mono g2.o h3)⟩
    rw [r2.key, ← h2]
    exact .k (g2.h _ _ hp)
/-- d.get(k, e) -/
theorem de_dget2 (hr : Room n X.A) (ha : DE X en a .e (dk kvs)) (hb : DE X en b kb (kD y)) (he : DE X en e .c d) (m : M2 X a "get" apos b e cpos := by exact ⟨rfl, rfl, rfl, rfl⟩) : DE X en (.Call (.Attribute a "get" apos) [b, e] [] cpos) .c ((valD kvs y).getD d) := fun B Bo Ho H σ f Q q => by
  refine wE_of (pe_dget2 (hu1 hr) pe_w pe_w pe_w m) ?_
  refine ha B Bo Ho H σ f _ fun v H1o H1 g1 r1 => ?_
  obtain ⟨p, kv, rfl, hp, i1, i2⟩ := RpE.dk_inv r1 g1.s
  refine ⟨p, rfl, .inl ⟨kv, .inl hp⟩, ?_⟩
  refine hb B Bo H1o H1 σ (f.gr g1) _ fun u H2o H2 g2 r2 => ?_
  refine he B Bo H2o H2 σ ((f.gr g1).gr g2) _ fun z H3o H3 g3 r3 => ?_
  refine ⟨valV kv y, ?_, ?_⟩
  · rw [r2.key]
    exact .k ((g2.trans g3).h _ _ hp)
  · rcases valD_rp (k := y) i1 i2 with ⟨h0, h1⟩ | ⟨w, d', h1, h2, h3⟩
    · rw [h1]
      refine q _ H3o H3 ((g1.trans g2).trans g3) ?_
      rw [h0]
      exact r3
    · rw [h2]
      refine q _ H3o H3 ((g1.trans g2).trans g3) ?_
      rw [h1]
      exact Rp.mono (g2.trans g3).o h3
theorem valD_some {kv : List (Ky × V)} {K : PySem.W.Frag} {H : Hp} (i1 : kv.map (·.1) = kvs.map (·.1)) (i2 : RpA K H (kv.map (·.2)) (kvs.map (·.2))) : (valV kv y).isSome = (valD kvs y).isSome := by
  rcases valD_rp (k := y) i1 i2 with ⟨h0, h1⟩ | ⟨w, d', h1, h2, h3⟩
  · rw [h0, h1]; rfl
  · rw [h1, h2]; rfl
/-- k in d, k not in d -/
theorem de_din (hr : Room n X.A) (hb : DE X en b kb (kD y)) (ha : DE X en a .e (dk kvs)) (hm : behindInMarks .In a = false := by kernel_rfl) : DE X en (.Compare b [.In] [a] pos) .c (.bool (valD kvs y).isSome) := fun B Bo Ho H σ f Q q => by
  refine wE_of (pe_cmp (pc_din (hu1 hr) pe_w pe_w) (h1 := hm)) ?_
  refine hb B Bo Ho H σ f _ fun u H1o H1 g1 r1 => ?_
  refine ha B Bo H1o H1 σ (f.gr g1) _ fun v H2o H2 g2 r2 => ?_
  obtain ⟨p, kv, rfl, hp, i1, i2⟩ := RpE.dk_inv r2 g2.s
  refine ⟨p, valV kv y, rfl, ?_, ?_⟩
  · rw [r1.key]; exact .k hp
  · rw [valD_some i1 i2]; exact q _ H2o H2 (g1.trans g2) (.bl _)
theorem dt_din (hr : Room n X.A) (hb : DE X en b kb (kD y)) (ha : DE X en a .e (dk kvs)) (hm : behindInMarks .In a = false := by kernel_rfl) : DT X en (.Compare b [.In] [a] pos) (valD kvs y).isSome := fun B Bo Ho H σ f Q q => by
  refine wT_of (pt_cmp (pc_din (hu1 hr) pe_w pe_w) (h1 := hm)) ?_
  refine hb B Bo Ho H σ f _ fun u H1o H1 g1 r1 => ?_
  refine ha B Bo H1o H1 σ (f.gr g1) _ fun v H2o H2 g2 r2 => ?_
  obtain ⟨p, kv, rfl, hp, i1, i2⟩ := RpE.dk_inv r2 g2.s
  refine ⟨p, valV kv y, rfl, ?_, _, rfl, ?_⟩
  · rw [r1.key]; exact .k hp
  · rw [valD_some i1 i2]; exact q H2o H2 (g1.trans g2)
theorem dt_dnin (hr : Room n X.A) (hb : DE X en b kb (kD y)) (ha : DE X en a .e (dk kvs)) (hm : behindInMarks .NotIn a = false := by kernel_rfl) : DT X en (.Compare b [.NotIn] [a] pos) (!(valD kvs y).isSome) := fun B Bo Ho H σ f Q q => by
  refine wT_of (pt_cmp (pc_dnotin (hu1 hr) pe_w pe_w) (h1 := hm)) ?_
  refine hb B Bo Ho H σ f _ fun u H1o H1 g1 r1 => ?_
  refine ha B Bo H1o H1 σ (f.gr g1) _ fun v H2o H2 g2 r2 => ?_
  obtain ⟨p, kv, rfl, hp, i1, i2⟩ := RpE.dk_inv r2 g2.s
  refine ⟨p, valV kv y, rfl, ?_, _, rfl, ?_⟩
  · rw [r1.key]; exact .k hp
  · rw [valD_some i1 i2]; exact q H2o H2 (g1.trans g2)
/-- dict(d) -/
theorem de_dictD (hm : X.mg "dict" = none) (ha : DE X en a .e (dk kvs)) (hg : glB X "dict" = true := by kernel_rfl) (he : starEach [a] X.env = (false, eval a X.env) :: starEach [] X.env := by kernel_rfl) : DE X en (.Call (.Name "dict" p) [a] [] pos) .o (dk kvs) := fun B Bo Ho H σ f Q q => by
  refine wE_of (pe_callTy call_dictD (gl_of hg) hm (by decide +kernel) (pa_cons pe_w pa_nil he) (he := he)) ?_
  refine ha B Bo Ho H σ f _ fun v H1o H1 g1 r1 => ?_
  obtain ⟨p, kv, rfl, hp, i1, i2⟩ := RpE.dk_inv r1 g1.s
  exact ⟨p, kv, rfl, .inl hp, fun c hc => q _ _ _ (g1.trans (.tmp g1.s hc)) ⟨c, rfl, g1.h.free hc, g1.s.free hc, kv, upd_same, .of i1 i2⟩⟩
/-- d[k] = e, d one's own -/
theorem ds_dput {P : Po} {x : Str} {pos' npos : Pos} (i : Nat) (hr : Room n X.A) (h : en[i]? = some (some (.o (dk kvs)))) (hb : DE X en b kb (kD y)) (he : DE X en e .c d) (hl : kvs.length < 100000) (q : P.nx (en.set i (some (.o (dk (putD kvs y d)))))) (hN : X.N[i]? = some x := by kernel_rfl)
    (hv : visB X.env.scope x = true := by kernel_rfl) (hd : (x == ("__debug__" : Str)) = false := by kernel_rfl) (hcd : (x == ("__classdict__" : Str)) = false := by kernel_rfl)
    (hs : swapsWith e (some (.Subscript (.Name x npos) b pos')) pos.line X.env = pure false := by kernel_rfl) : DS X en (.Assign [.Subscript (.Name x npos) b pos'] e pos) P := fun B Bo Ho H σ f D t => by
  obtain ⟨p, e1, n1, n2, w⟩ := f.own h
  obtain ⟨kv, q1, r1⟩ := w
  obtain ⟨i1, i2⟩ := RpK.to r1
  refine wS_of (ps_dput (hu1 hr) (pe_var hN (vis_of hv) hd hcd) pe_w pe_w hs) ?_
  refine he B Bo Ho H σ f _ fun v H1o H1 g1 rv => ?_
  refine ⟨_, e1, ?_⟩
  refine hb B Bo H1o H1 σ (f.gr g1) _ fun u H2o H2 g2 r2 => ?_
  have g := g1.trans g2
  have hl2 : kv.length = kvs.length := by have := congrArg List.length i1; rwa [List.length_map, List.length_map] at this
  refine ⟨p, _, rfl, by rw [r2.key]; exact .k (g.h _ _ q1) (sz100l (by rw [hl2]; exact hl)), ?_⟩
  obtain ⟨j1, j2⟩ := putD_rp (k := y) i1 (i2.mono g.o) (Rp.mono g2.o rv)
  exact t.nx _ H2o _ _ q ((f.gr g).write h e1 ⟨_, upd_same, .of j1 j2⟩)

/-! ### displays of dicts -/
def DPs (X : Cx) (en : En) (pos : Pos) (keys : List (Option Expr)) (values : List Expr) (kvs : List (Ky × PD)) : Prop := ∃ trs, PPs X pos keys values trs ∧ ∀ (B Bo Ho H : Hp) (σ : L2.St), Fit X.K B Bo Ho H σ en → ∀ Q : List (V × V) → Hp → Prop,
  (∀ (kv : List (Ky × V)) Ho' H', Gr Ho H Ho' H' → kv.map (·.1) = kvs.map (·.1) → RpA X.K Ho' (kv.map (·.2)) (kvs.map (·.2)) → Q (kv.map fun q => (kV q.1, q.2)) H') → tPairs trs σ H Q
theorem dps_nil : DPs X en pos [] [] [] := ⟨[], pps_nil, fun B Bo Ho H σ f Q q => q [] Ho H (.refl f.hoh) rfl .nil⟩
theorem dps_cons {ks : List (Option Expr)} {vs : List Expr} (hk : DE X en a ka (kD y)) (hv : DE X en b .c d) (hr : DPs X en pos ks vs kvs) : DPs X en pos (some a :: ks) (b :: vs) ((y, d) :: kvs) := by
  obtain ⟨trs, h, r⟩ := hr
  refine ⟨(wE X a, wE X b) :: trs, pps_cons pe_w pe_w h, fun B Bo Ho H σ f Q q => ?_⟩
  refine hk B Bo Ho H σ f _ fun v H1o H1 g1 r1 => ?_
  refine hv B Bo H1o H1 σ (f.gr g1) _ fun u H2o H2 g2 r2 => ?_
  refine r B Bo H2o H2 σ ((f.gr g1).gr g2) _ fun kv H3o H3 g3 i1 i2 => ?_
  have := q ((y, u) :: kv) H3o H3 ((g1.trans g2).trans g3) (by rw [List.map_cons, List.map_cons, i1]) (.cons (Rp.mono g3.o r2) i2)
  rw [List.map_cons] at this
  rw [r1.key]
  exact this
theorem mergeK_nd : ∀ (more acc : List (Ky × V)), ((acc ++ more).map (·.1)).Nodup → mergeK acc more = acc ++ more
  | [], acc, _ => by rw [List.append_nil]; rfl
  | (k, v) :: more, acc, h => by
    show mergeK (putK acc k v) more = _
    have hn : (acc.any fun q => decide (q.1 = k)) = false := by
      rw [List.any_eq_false]
      intro q hq z
      have hz : q.1 = k := of_decide_eq_true z
      rw [List.map_append, List.map_cons] at h
      have := (List.nodup_append.mp h).2.2 q.1 (List.mem_map.mpr ⟨q, hq, rfl⟩) k List.mem_cons_self
      exact this hz
    have e : putK acc k v = acc ++ [(k, v)] := by
      unfold putK
      rw [hn, if_neg (by decide)]
    rw [e, mergeK_nd more (acc ++ [(k, v)]) (by rw [List.append_assoc]; exact h), List.append_assoc]
    rfl
theorem de_disp {keys : List (Option Expr)} {values : List Expr} (h : DPs X en pos keys values kvs) (nd : (kvs.map (·.1)).Nodup) (hl : kvs.length ≤ 15) (hall : keys.all (·.isSome) = true := by kernel_rfl) (hll : keys.length = values.length := by kernel_rfl) (h0 : keys ≠ [] := by intro z; cases z) (h15 : keys.length ≤ 15 := by decide) :
    DE X en (.Dict keys values pos) .o (dk kvs) := fun B Bo Ho H σ f Q q => by
  obtain ⟨trs, pp, r⟩ := h
  refine wE_of (pe_disp pp hall hll h0 h15) fun p hp => ?_
  have g0 : Gr Ho H Ho (upd H p (.dK [])) := .tmp f.hoh hp
  refine r B Bo Ho _ σ (f.gr g0) _ fun kv H1o H1 g1 i1 i2 => ?_
  have e1 := g1.h _ _ (upd_same (H := H) (a := p) (o := .dK []))
  have k1 : H1o p = none := (g1.fr p (by rw [upd_same]; intro z; cases z)).trans (f.hoh.free hp)
  have hl2 : kv.length = kvs.length := by have := congrArg List.length i1; rwa [List.length_map, List.length_map] at this
  have em : mergeK [] kv = kv := by
    have := mergeK_nd kv [] (by rw [List.nil_append, i1]; exact nd)
    rwa [List.nil_append] at this
  refine ⟨e1, kv, rfl, by omega, ?_⟩
  rw [em]
  refine q _ H1o _ ⟨fun b o e => ?_, g1.o, fun b o e => ?_, fun a ha => ?_⟩ ⟨p, rfl, hp, k1, kv, upd_same, .of i1 i2⟩
  · rw [upd_ne (ne_of_none e hp)]
    exact g1.h _ _ ((upd_ne (ne_of_none e hp)).trans e)
  · rw [upd_ne (ne_of_none e k1)]
    exact g1.s _ _ e
  · exact g1.fr a (by
      rw [upd_ne (fun z => ha (by rw [z]; exact hp))]
      exact ha)
end
end DL

namespace DL
open PySem PySem.Spec PyProof.Rows L2
/-! ### data without dicts, of a bounded depth -/
mutual
theorem eqv_refl : ∀ (d : PD), d.canLay0 = true → PyData.eqv d d = true
  | .none, _ => by simp [PyData.eqv]
  | .bool b, _ => by simp [PyData.eqv]
  | .int b, _ => by simp [PyData.eqv]
  | .str b, _ => by simp [PyData.eqv]
  | .list xs, h => by
    simp only [PyData.eqv]
    exact eqvAll_refl xs (by simpa [PyData.canLay0] using h)
  | .tuple xs, h => by
    simp only [PyData.eqv]
    exact eqvAll_refl xs (by simpa [PyData.canLay0] using h)
  | .dict xs, h => by simp [PyData.canLay0] at h
theorem eqvAll_refl : ∀ (ds : List PD), PyData.canLayAll0 ds = true → PyData.eqvAll ds ds = true
  | [], _ => by simp [PyData.eqvAll]
  | d :: ds, h => by
    simp only [PyData.canLayAll0, Bool.and_eq_true] at h
    simp only [PyData.eqvAll, Bool.and_eq_true]
    exact ⟨eqv_refl d h.1, eqvAll_refl ds h.2⟩
end
/-- plain data of depth at most n -/
def Pl (n : Nat) (d : PD) : Prop := d.canLay0 = true ∧ d.depth ≤ n
theorem Pl.shaped {n : Nat} {d : PD} (h : Pl n d) (hn : n ≤ 64) : SeqAt.shaped d = true := by
  unfold SeqAt.shaped
  rw [h.1, decide_eq_true (Nat.le_trans h.2 hn)]
  rfl
theorem Pl.refl {n : Nat} {d : PD} (h : Pl n d) : PyData.eqv d d = true := eqv_refl d h.1
theorem Pl.up {n m : Nat} {d : PD} (h : Pl n d) (l : n ≤ m) : Pl m d := ⟨h.1, Nat.le_trans h.2 l⟩
theorem pl_all {n : Nat} : ∀ {ds : List PD}, (∀ d ∈ ds, Pl n d) → PyData.canLayAll0 ds = true ∧ PyData.depthAll ds ≤ n
  | [], _ => ⟨by simp [PyData.canLayAll0], by simp [PyData.depthAll]⟩
  | d :: ds, h => by
    obtain ⟨h1, h2⟩ := h d List.mem_cons_self
    obtain ⟨i1, i2⟩ := pl_all fun x hx => h x (List.mem_cons_of_mem _ hx)
    simp only [PyData.canLayAll0, PyData.depthAll, Bool.and_eq_true]
    exact ⟨⟨h1, i1⟩, by omega⟩
theorem pl_list {n : Nat} {ds : List PD} (h : ∀ d ∈ ds, Pl n d) : Pl (n + 1) (.list ds) := by
  obtain ⟨i1, i2⟩ := pl_all h
  exact ⟨by simp only [PyData.canLay0]; exact i1, by simp only [PyData.depth]; omega⟩
theorem pl_tuple {n : Nat} {ds : List PD} (h : ∀ d ∈ ds, Pl n d) : Pl (n + 1) (.tuple ds) := by
  obtain ⟨i1, i2⟩ := pl_all h
  exact ⟨by simp only [PyData.canLay0]; exact i1, by simp only [PyData.depth]; omega⟩
theorem pl_int (n : Nat) (i : Int) : Pl n (.int i) := ⟨by simp only [PyData.canLay0], by simp only [PyData.depth]; omega⟩
theorem pl_str (n : Nat) {i : Str} (h : PyData.strOk i = true) : Pl n (.str i) := ⟨by simp only [PyData.canLay0]; exact h, by simp only [PyData.depth]; omega⟩
theorem pl_none (n : Nat) : Pl n .none := ⟨by simp only [PyData.canLay0], by simp only [PyData.depth]; omega⟩
theorem pl_rowL (row : List Nat) : Pl 1 (rowL row) := pl_list fun d hd => by
  obtain ⟨x, _, rfl⟩ := List.mem_map.mp hd
  exact pl_int 0 _
theorem pl_rowT (row : List Nat) : Pl 1 (rowT row) := pl_tuple fun d hd => by
  obtain ⟨x, _, rfl⟩ := List.mem_map.mp hd
  exact pl_int 0 _
theorem pl_pt (p : Pt) : Pl 1 (ptD p) := pl_tuple fun d hd => by
  rcases List.mem_cons.mp hd with rfl | hd
  · refine pl_str 0 ?_
    cases p with
    | sum a b => exact (by decide +kernel : PyData.strOk "sum" = true)
    | stop a b => exact (by decide +kernel : PyData.strOk "stop" = true)
    | pick a b c => exact (by decide +kernel : PyData.strOk "pick" = true)
    | not a => exact (by decide +kernel : PyData.strOk "not" = true)
  · obtain ⟨x, _, rfl⟩ := List.mem_map.mp hd
    exact pl_int 0 _
end DL

namespace DL
open PySem PySem.Spec PyProof.Rows L2
section
variable {X : Cx}
/-! ### type(x) == T -/
def Meta (a : String) : Prop := ∀ s' : Shared, s'.TypeIs (.type a) "type"
def rEqTy : R2 := fun x y H Q => ∃ a b, x = .ty a ∧ y = .ty b ∧ Meta a ∧ Meta b ∧ Q (.bl (decide (a = b))) H
theorem op_eqTy : OpR X (compareOp .Eq) rEqTy := by
  intro pins s σ H x y v u Q I rx ry h
  obtain ⟨a, b, rfl, rfl, ma, mb, q⟩ := h
  cases (show v = Value.type a from rx)
  cases (show u = Value.type b from ry)
  by_cases e : a = b
  · subst e
    exact PySem.TypeEq.eq_type_same ma (fin_bl I q (decide_eq_true rfl))
  · exact PySem.TypeEq.eq_type_other ma mb ((ty_beq a b).trans (decide_eq_false e)) (fin_bl I q (decide_eq_false e))
theorem meta_of {d : PD} {t : String} (h : typN d = some t) : Meta t := by
  cases d <;> simp only [typN, Option.some.injEq] at h
  · subst h; exact PySem.TypeEq.meta_NoneType
  · subst h; exact PySem.TypeEq.meta_bool
  · subst h; exact PySem.TypeEq.meta_int
  · subst h; exact PySem.TypeEq.meta_str
  · subst h; exact PySem.TypeEq.meta_list
  · subst h; exact PySem.TypeEq.meta_tuple
  · cases h
variable {en : En} {a b c e : Expr} {p p2 p3 pos : Pos} {k ka kb kc : Kd} {d da db dc : PD}
theorem Rp.tyb {K : PySem.W.Frag} {H : Hp} {v : V} {t : String} (h : Rp K H v d) (ht : typN d = some t) : TyB K H v t := by
  cases h with
  | non => cases ht; exact .non
  | bl b => cases ht; exact .bl b
  | int i => cases ht; exact .int i
  | str x => cases ht; exact .str x
  | lst h r => cases ht; exact .lst (.inl (.inl h))
  | tup h r => cases ht; exact .tup h
  | dct h r => cases ht
  | scr h => cases ht
/-- type(e) == T -/
theorem de_tyEq {n t : String} {tx : Str} (hm : X.mg "type" = none) (hmT : X.mg tx = none) (ha : DE X en a k d) (ht : typN d = some t) (hn : Meta n) (hv : bootBuiltins tx = some (.type n)) (hg : glB X "type" = true := by kernel_rfl) (hgT : glB X tx = true := by kernel_rfl)
    (hnn : tx ≠ "__name__" := by decide) (hd : (tx == ("__debug__" : Str)) = false := by kernel_rfl) (he : starEach [a] X.env = (false, eval a X.env) :: starEach [] X.env := by kernel_rfl) (hmk : behindInMarks .Eq (.Name tx p2) = false := by kernel_rfl) :
    DE X en (.Compare (.Call (.Name "type" p) [a] [] p3) [.Eq] [.Name tx p2] pos) .c (.bool (decide (t = n))) := fun B Bo Ho H σ f Q q => by
  refine wE_of (pe_cmpR op_eqTy (pe_callTy call_type1 (gl_of hg) hm (by decide +kernel) (pa_cons pe_w pa_nil he) (he := he)) (pe_bltn (v := .ty n) (gl_of hgT) hmT hv rfl hnn hd) hmk) ?_
  refine ha B Bo Ho H σ f _ fun v H1o H1 g1 r1 => ?_
  refine ⟨v, t, rfl, (r1.rpt g1.s).tyb ht, ?_⟩
  exact ⟨t, n, rfl, rfl, meta_of ht, hn, q _ H1o H1 g1 (.bl _)⟩
theorem boot_int' : bootBuiltins "int" = some (.type "int") := boot_int
/-- a <= b <= c over ints -/
theorem de_chainLe {i j m : Int} (ha : DE X en a ka (.int i)) (hb : DE X en b kb (.int j)) (hc : DE X en c kc (.int m)) (hm : lastMarks [.LtE, .LtE] [b, c] = false := by with_unfolding_all rfl) : DE X en (.Compare a [.LtE, .LtE] [b, c] pos) .c (.bool (decide (i ≤ j) && decide (j ≤ m))) := fun B Bo Ho H σ f Q q => by
  refine wE_of (pe_chain op_le op_le pe_w pe_w pe_w hm) ?_
  refine ha B Bo Ho H σ f _ fun v H1o H1 g1 r1 => ?_
  refine hb B Bo H1o H1 σ (f.gr g1) _ fun u H2o H2 g2 r2 => ?_
  refine ⟨i, j, r1.int_inv, r2.int_inv, decide (i ≤ j), rfl, ?_⟩
  by_cases h : i ≤ j
  · rw [if_pos (decide_eq_true h)]
    refine hc B Bo H2o H2 σ ((f.gr g1).gr g2) _ fun w H3o H3 g3 r3 => ?_
    refine ⟨j, m, r2.int_inv, r3.int_inv, q _ H3o H3 ((g1.trans g2).trans g3) ?_⟩
    rw [decide_eq_true h, Bool.true_and]
    exact .bl _
  · rw [if_neg (fun z => h (of_decide_eq_true z))]
    refine q _ H2o H2 (g1.trans g2) ?_
    rw [decide_eq_false h, Bool.false_and]
    exact .bl _
theorem RpA.bools_inv {K : PySem.W.Frag} {H : Hp} : ∀ {vs : List V} {bs : List Bool}, RpA K H vs (bs.map .bool) → vs = bs.map V.bl
  | _, [], .nil => rfl
  | _, b :: bs, .cons h r => by
    cases h
    rw [List.map_cons, RpA.bools_inv r]
/-- all of a list of tests -/
theorem de_all {bs : List Bool} (hm : X.mg "all" = none) (hc : X.calm = true) (ha : DE X en a .e (.list (bs.map .bool))) (hg : glB X "all" = true := by kernel_rfl) (he : starEach [a] X.env = (false, eval a X.env) :: starEach [] X.env := by kernel_rfl) : DE X en (.Call (.Name "all" p) [a] [] pos) .c (.bool (bs.all id)) := fun B Bo Ho H σ f Q q => by
  refine wE_of (pe_callB (cr_all hc) (gl_of hg) hm (by decide +kernel) (pa_cons pe_w pa_nil he) (he := he)) ?_
  refine ha B Bo Ho H σ f _ fun v H1o H1 g1 r1 => ?_
  obtain ⟨p, xs, rfl, q1, r1⟩ := r1
  have e := RpA.bools_inv r1
  subst e
  exact ⟨p, bs, rfl, .inl (.inl q1), q _ H1o H1 g1 (.bl _)⟩
end
end DL

namespace DL
open PySem PySem.Spec PyProof.Rows L2
section
variable {X : Cx} {en : En} {a b e : Expr} {p p2 pos tpos : Pos} {elts : List Expr} {kk : Nat} {k : Kd} {d : PD} {ds es : List PD}
/-! ### enumerate, zip -/
def enumD (ds : List PD) : List PD := ds.zipIdx.map fun p => .tuple [.int (p.2 : Nat), p.1]
theorem enumD_get {ds : List PD} {i : Nat} {d : PD} (h : (enumD ds)[i]? = some d) : ∃ x, ds[i]? = some x ∧ d = .tuple [.int (i : Nat), x] := by
  unfold enumD at h
  rw [List.getElem?_map, List.getElem?_zipIdx] at h
  cases q : ds[i]? with
  | none => rw [q] at h; cases h
  | some x =>
    rw [q] at h
    refine ⟨x, rfl, ?_⟩
    have := Option.some.inj h
    rw [← this, Nat.zero_add]
theorem enumD_len (ds : List PD) : (enumD ds).length = ds.length := by unfold enumD; rw [List.length_map, List.length_zipIdx]
theorem di_enum (hm : X.mg "enumerate" = none) (h : DE X en e .c (.list ds)) (hg : glB X "enumerate" = true := by kernel_rfl) (hs : starEach [e] X.env = [(false, eval e X.env)] := by kernel_rfl) (hs' : starEach [e] X.env = (false, eval e X.env) :: starEach [] X.env := by kernel_rfl) :
    DI X en (.Tuple elts kk tpos) (.Call (.Name "enumerate" p) [e] [] pos) (enumD ds) := ⟨_, pi_enum (gl_of hg) hm (pa_cons pe_w pa_nil hs') hs, fun B Bo Ho H σ f R q => by
  refine h B Bo Ho H σ f _ fun v Ho' H' g r => ?_
  obtain ⟨a, xs, rfl, ha, r⟩ := r.lst_inv
  refine ⟨a, xs, rfl, .inl (.inl (g.s _ _ ha)), q _ Ho' H' g fun Ho1 H1 s1 s2 i => ⟨fun d hd => ?_, fun hi => ?_⟩⟩
  · obtain ⟨y, hy, rfl⟩ := enumD_get hd
    obtain ⟨v, hv, rv⟩ := r.get hy
    have hq : SqL X.K H1 a xs := .inl (.inl (s2 _ _ (s1 _ _ ha)))
    refine ⟨⟨xs, v, hq, hv⟩, fun x H2 y => ?_⟩
    obtain ⟨T, z, rfl, hT, rfl, hz⟩ := y
    have := (hz xs hq).symm.trans hv
    cases this
    exact ⟨_, .new s2 hT, .tup (.inl (.inl upd_same)) (.cons (.int _) (.one (Rp.mono (s1.trans (same_new (s2.free hT))) rv)))⟩
  · exact ⟨xs, .inl (.inl (s2 _ _ (s1 _ _ ha))), by rw [r.len]; rw [enumD_len] at hi; exact hi⟩⟩
def zipD (ds es : List PD) : List PD := (ds.zip es).map fun p => .tuple [p.1, p.2]
theorem zipD_get {i : Nat} {d : PD} (h : (zipD ds es)[i]? = some d) : ∃ x y, ds[i]? = some x ∧ es[i]? = some y ∧ d = .tuple [x, y] := by
  unfold zipD at h
  rw [List.getElem?_map] at h
  cases q : (ds.zip es)[i]? with
  | none => rw [q] at h; cases h
  | some z =>
    rw [q] at h
    obtain ⟨h1, h2⟩ := List.getElem?_zip_eq_some.mp q
    exact ⟨z.1, z.2, h1, h2, (Option.some.inj h).symm⟩
theorem zipD_len : (zipD ds es).length = min ds.length es.length := by unfold zipD; rw [List.length_map, List.length_zip]
theorem di_zipL (hm : X.mg "zip" = none) (h1 : DE X en a .c (.list ds)) (h2 : DE X en b .c (.list es)) (hg : glB X "zip" = true := by kernel_rfl) (hs : starEach [a, b] X.env = (false, eval a X.env) :: starEach [b] X.env := by kernel_rfl) (hs' : starEach [b] X.env = (false, eval b X.env) :: starEach [] X.env := by kernel_rfl)
    (hpl : (backTo pos (starEach [b] X.env)).any (·.1) = false := by kernel_rfl) : DI X en (.Tuple elts kk tpos) (.Call (.Name "zip" p) [a, b] [] pos) (zipD ds es) := ⟨_, RZ.pi_zipA (gl_of hg) hm (pa_cons pe_w (pa_cons pe_w pa_nil hs') hs) hs hpl, fun B Bo Ho H σ f R q => by
  refine h1 B Bo Ho H σ f _ fun v Ho1 H1 g1 r1 => ?_
  refine h2 B Bo Ho1 H1 σ (f.gr g1) _ fun u Ho2 H2 g2 r2 => ?_
  obtain ⟨a, xs, rfl, ha, r1⟩ := (Rp.mono g2.o r1).lst_inv
  obtain ⟨b, ys, rfl, hb, r2⟩ := r2.lst_inv
  refine ⟨a, b, xs, ys, rfl, .inl ⟨.inl (.inl (g2.s _ _ ha)), .inl (.inl (g2.s _ _ hb)), q _ Ho2 H2 (g1.trans g2) fun Ho3 H3 s1 s2 i => ⟨fun d hd => ?_, fun hi => ?_⟩⟩⟩
  · obtain ⟨x, y, hx, hy, rfl⟩ := zipD_get hd
    obtain ⟨v, hv, rv⟩ := r1.get hx
    obtain ⟨u, hu, ru⟩ := r2.get hy
    have q1 : SqL X.K H3 a xs := .inl (.inl (s2 _ _ (s1 _ _ ha)))
    have q2 : SqL X.K H3 b ys := .inl (.inl (s2 _ _ (s1 _ _ hb)))
    refine ⟨⟨xs, ys, v, u, q1, q2, hv, hu⟩, fun x H2 y => ?_⟩
    obtain ⟨T, z1, z2, rfl, hT, rfl, y1, y2⟩ := y
    have := (y1 xs q1).symm.trans hv
    cases this
    have := (y2 ys q2).symm.trans hu
    cases this
    have m := fun o => s1.trans (same_new (o := o) (s2.free hT))
    exact ⟨_, .new s2 hT, .tup (.inl (.inl upd_same)) (.cons (Rp.mono (m _) rv) (.one (Rp.mono (m _) ru)))⟩
  · refine ⟨xs, ys, .inl (.inl (s2 _ _ (s1 _ _ ha))), .inl (.inl (s2 _ _ (s1 _ _ hb))), ?_⟩
    rw [zipD_len] at hi
    rw [r1.len, r2.len]
    omega⟩
theorem di_zipT (hm : X.mg "zip" = none) (h1 : DE X en a .c (.tuple ds)) (h2 : DE X en b .c (.tuple es)) (hg : glB X "zip" = true := by kernel_rfl) (hs : starEach [a, b] X.env = (false, eval a X.env) :: starEach [b] X.env := by kernel_rfl) (hs' : starEach [b] X.env = (false, eval b X.env) :: starEach [] X.env := by kernel_rfl)
    (hpl : (backTo pos (starEach [b] X.env)).any (·.1) = false := by kernel_rfl) : DI X en (.Tuple elts kk tpos) (.Call (.Name "zip" p) [a, b] [] pos) (zipD ds es) := ⟨_, RZ.pi_zipA (gl_of hg) hm (pa_cons pe_w (pa_cons pe_w pa_nil hs') hs) hs hpl, fun B Bo Ho H σ f R q => by
  refine h1 B Bo Ho H σ f _ fun v Ho1 H1 g1 r1 => ?_
  refine h2 B Bo Ho1 H1 σ (f.gr g1) _ fun u Ho2 H2 g2 r2 => ?_
  obtain ⟨a, xs, rfl, ha, r1⟩ := (Rp.mono g2.o r1).tup_inv
  obtain ⟨b, ys, rfl, hb, r2⟩ := r2.tup_inv
  refine ⟨a, b, xs, ys, rfl, .inr ⟨same_sqt g2.s ha, same_sqt g2.s hb, q _ Ho2 H2 (g1.trans g2) fun Ho3 H3 s1 s2 i => ⟨fun d hd => ?_, fun hi => ?_⟩⟩⟩
  · obtain ⟨x, y, hx, hy, rfl⟩ := zipD_get hd
    obtain ⟨v, hv, rv⟩ := r1.get hx
    obtain ⟨u, hu, ru⟩ := r2.get hy
    have q1 : SqT X.K H3 a xs := same_sqt s2 (same_sqt s1 ha)
    have q2 : SqT X.K H3 b ys := same_sqt s2 (same_sqt s1 hb)
    refine ⟨⟨xs, ys, v, u, q1, q2, hv, hu⟩, fun x H2 y => ?_⟩
    obtain ⟨T, z1, z2, rfl, hT, rfl, y1, y2⟩ := y
    have := (y1 xs q1).symm.trans hv
    cases this
    have := (y2 ys q2).symm.trans hu
    cases this
    have m := fun o => s1.trans (same_new (o := o) (s2.free hT))
    exact ⟨_, .new s2 hT, .tup (.inl (.inl upd_same)) (.cons (Rp.mono (m _) rv) (.one (Rp.mono (m _) ru)))⟩
  · refine ⟨xs, ys, same_sqt s2 (same_sqt s1 ha), same_sqt s2 (same_sqt s1 hb), ?_⟩
    rw [zipD_len] at hi
    rw [r1.len, r2.len]
    omega⟩
end
end DL

namespace DL
open PySem PySem.Spec PyProof.Rows L2
/-! ### works -/
structure Wk where
  ring : Nat
  inputs : Nat
  parts : List Pt
def wkD (W : Wk) : PD := .tuple [nD W.ring, nD W.inputs, .list (W.parts.map ptD)]
structure Wk.Ok (W : Wk) : Prop where
  r2 : 2 ≤ W.ring
  r5 : W.ring ≤ 5
  i1 : 1 ≤ W.inputs
  i6 : W.inputs ≤ 6
  p1 : 1 ≤ W.parts.length
  p10 : W.parts.length ≤ 10
  lines : ∀ (k : Nat) (p : Pt), W.parts[k]? = some p → ∀ l ∈ p.lines, l < W.inputs + k
/-- digits of that many lines -/
def Row (ring n : Nat) (row : List Nat) : Prop := row.length = n ∧ ∀ x ∈ row, x < ring
theorem Row.app {ring n x : Nat} {row : List Nat} (h : Row ring n row) (hx : x < ring) : Row ring (n + 1) (row ++ [x]) :=
  ⟨by rw [List.length_append, h.1]; rfl, fun y hy => by
    rcases List.mem_append.mp hy with h1 | h1
    · exact h.2 y h1
    · rw [List.mem_singleton.mp h1]; exact hx⟩
/-! ### a thing that is a whole number between -/
def wholeIn (t : PD) (lo hi : Int) : Bool := match t with
  | .int n => decide (lo ≤ n) && decide (n ≤ hi)
  | _ => false
/-! ### the law's parts and works -/
def ptOf (w a b c : Nat) : Pt := match w with
  | 0 => .sum a b
  | 1 => .stop a b
  | 2 => .pick a b c
  | _ => .not a
def takeN (cell lines k : Nat) : Nat :=
  if cell / 4 / [1, 7, 49].getD k 1 % 2 = 0 then lines - 1 - cell / 4 / [1, 7, 49].getD k 1 / 2 % min lines 3 else cell / 4 / [1, 7, 49].getD k 1 / 2 % lines
def mkPt (cell lines : Nat) : Pt := ptOf (cell % 4) (takeN cell lines 0) (takeN cell lines 1) (takeN cell lines 2)
theorem takeN_lt {cell lines k : Nat} (h : 1 ≤ lines) : takeN cell lines k < lines := by
  unfold takeN
  split
  · omega
  · exact Nat.mod_lt _ (by omega)
theorem mkPt_lines {cell lines : Nat} (h : 1 ≤ lines) : ∀ l ∈ (mkPt cell lines).lines, l < lines := fun l hl => by
  unfold mkPt ptOf at hl
  split at hl <;> simp [Pt.lines] at hl
  · rcases hl with rfl | rfl <;> exact takeN_lt h
  · rcases hl with rfl | rfl <;> exact takeN_lt h
  · rcases hl with rfl | rfl | rfl <;> exact takeN_lt h
  · rw [hl]; exact takeN_lt h
def ringOf (f : Nat) : Nat := [2, 2, 3, 2, 3, 4, 5, 2].getD (f % 8) 2
def inputsOf (f : Nat) : Nat := if f / 24 % 8 = 1 then 1 + f / 192 % 6 else 1 + f / 8 % 3
def manyOf (ns : List Int) (most : Nat) : Nat := if 3 < ringOf (mix ns 0) ∧ most < 8 then min (1 + mix ns 1 % most) 4 else 1 + mix ns 1 % most
def workOf (ns : List Int) (most : Nat) : Wk := ⟨ringOf (mix ns 0), inputsOf (mix ns 0), (List.range (manyOf ns most)).map fun k => mkPt (mix ns (2 + k)) (inputsOf (mix ns 0) + k)⟩
theorem ringOf_b (f : Nat) : 2 ≤ ringOf f ∧ ringOf f ≤ 5 := by
  unfold ringOf
  have h : f % 8 < 8 := Nat.mod_lt _ (by decide)
  match e : f % 8, h with
  | 0, _ => decide
  | 1, _ => decide
  | 2, _ => decide
  | 3, _ => decide
  | 4, _ => decide
  | 5, _ => decide
  | 6, _ => decide
  | 7, _ => decide
theorem inputsOf_b (f : Nat) : 1 ≤ inputsOf f ∧ inputsOf f ≤ 6 := by
  unfold inputsOf
  split <;> omega
theorem manyOf_b (ns : List Int) {most : Nat} (h : 1 ≤ most) : 1 ≤ manyOf ns most ∧ manyOf ns most ≤ most := by
  have h1 : mix ns 1 % most < most := Nat.mod_lt _ (by omega)
  unfold manyOf
  split <;> omega
theorem workOf_len (ns : List Int) (most : Nat) : (workOf ns most).parts.length = manyOf ns most := by
  unfold workOf
  rw [List.length_map, List.length_range]
theorem workOf_ok (ns : List Int) {most : Nat} (h : 1 ≤ most) (h10 : most ≤ 10) : (workOf ns most).Ok := by
  have hm := manyOf_b ns h
  have hi := inputsOf_b (mix ns 0)
  refine ⟨(ringOf_b _).1, (ringOf_b _).2, hi.1, hi.2, by rw [workOf_len]; exact hm.1, by rw [workOf_len]; omega, fun k p e l hl => ?_⟩
  unfold workOf at e
  rw [List.getElem?_map] at e
  have hk : k < manyOf ns most := by
    cases q : (List.range (manyOf ns most))[k]? with
    | none => rw [q] at e; cases e
    | some z => have := (List.getElem?_eq_some_iff.mp q).1; rwa [List.length_range] at this
  rw [List.getElem?_range hk] at e
  cases e
  exact mkPt_lines (lines := inputsOf (mix ns 0) + k) (by omega) l hl
/-! ### a work run -/
def getN (told : List (Nat × Nat)) (k : Nat) : Option Nat := (told.find? fun p => decide (p.1 = k)).map (·.2)
def toldD (told : List (Nat × Nat)) : PD := dk (told.map fun p => (.inl (p.1 : Int), nD p.2))
def wrunN (W : Wk) (told : List (Nat × Nat)) (g : List Nat) : Nat → List Nat
  | 0 => g
  | n + 1 => wrunN W told g n ++ [(getN told n).getD (give W.ring (W.parts.getD n (.not 0)) (wrunN W told g n))]
theorem wrunN_succ (W : Wk) (told : List (Nat × Nat)) (g : List Nat) (n : Nat) : wrunN W told g (n + 1) = wrunN W told g n ++ [(getN told n).getD (give W.ring (W.parts.getD n (.not 0)) (wrunN W told g n))] := rfl
def wrunW (W : Wk) (told : List (Nat × Nat)) (g : List Nat) : List Nat := wrunN W told g W.parts.length
def ToldOk (ring : Nat) (told : List (Nat × Nat)) : Prop := ∀ p ∈ told, p.2 < ring
theorem getN_lt {ring k v : Nat} {told : List (Nat × Nat)} (h : ToldOk ring told) (e : getN told k = some v) : v < ring := by
  unfold getN at e
  cases q : told.find? (fun p => decide (p.1 = k)) with
  | none => rw [q] at e; cases e
  | some p =>
    rw [q] at e
    cases e
    exact h p (List.mem_of_find?_eq_some q)
theorem wrunN_row {W : Wk} {told : List (Nat × Nat)} {g : List Nat} (hW : W.Ok) (ht : ToldOk W.ring told) (hg : Row W.ring W.inputs g) : ∀ n, Row W.ring (W.inputs + n) (wrunN W told g n)
  | 0 => hg
  | n + 1 => by
    have ih := wrunN_row hW ht hg n
    refine ih.app ?_
    cases e : getN told n with
    | some v => exact getN_lt ht e
    | none => exact give_lt hW.r2 ih.2
theorem valD_told {told : List (Nat × Nat)} {k : Nat} : valD (told.map fun p => ((.inl (p.1 : Int) : Ky), nD p.2)) (.inl (k : Int)) = (getN told k).map nD := by
  unfold valD getN
  rw [List.find?_map]
  have e : ((fun kv : Ky × PD => decide (kv.1 = .inl (k : Int))) ∘ fun p : Nat × Nat => ((.inl (p.1 : Int) : Ky), nD p.2)) = fun p => decide (p.1 = k) := by
    funext p
    show decide ((.inl (p.1 : Int) : Ky) = .inl (k : Int)) = decide (p.1 = k)
    congr 1
    apply propext
    constructor
    · intro z
      have := Sum.inl.inj z
      omega
    · intro z; rw [z]
  rw [e]
  cases told.find? (fun p => decide (p.1 = k)) <;> rfl
end DL
namespace DL
open PySem PySem.Spec PyProof.Rows L2
/-! ### told digits, one put after another -/
def putN (told : List (Nat × Nat)) (k v : Nat) : List (Nat × Nat) := if (told.any fun p => decide (p.1 = k)) = true then told.map (fun p => if p.1 = k then (p.1, v) else p) else told ++ [(k, v)]
def tK (p : Nat × Nat) : Ky × PD := (.inl (p.1 : Int), nD p.2)
theorem key_eq {a k : Nat} : decide ((.inl (a : Int) : Ky) = .inl (k : Int)) = decide (a = k) := by
  congr 1
  apply propext
  constructor
  · intro z
    have := Sum.inl.inj z
    omega
  · intro z; rw [z]
theorem putN_D (told : List (Nat × Nat)) (k v : Nat) : putD (told.map tK) (.inl (k : Int)) (nD v) = (putN told k v).map tK := by
  have e : (fun kv : Ky × PD => decide (kv.1 = .inl (k : Int))) ∘ tK = fun p => decide (p.1 = k) := by
    funext p
    exact key_eq
  unfold putD putN
  rw [List.any_map, e]
  by_cases h : (told.any fun p => decide (p.1 = k)) = true
  · rw [if_pos h, if_pos h, List.map_map, List.map_map]
    congr 1
    funext p
    show (if (.inl (p.1 : Int) : Ky) = .inl (k : Int) then ((.inl (p.1 : Int) : Ky), nD v) else tK p) = tK (if p.1 = k then (p.1, v) else p)
    by_cases hk : p.1 = k
    · rw [if_pos (by rw [hk]), if_pos hk]; rfl
    · rw [if_neg (fun z => hk (by have := Sum.inl.inj z; omega)), if_neg hk]
  · rw [if_neg h, if_neg h, List.map_append]; rfl
theorem putN_len (told : List (Nat × Nat)) (k v : Nat) : (putN told k v).length ≤ told.length + 1 := by
  unfold putN
  split
  · rw [List.length_map]; omega
  · rw [List.length_append]; simp
theorem putN_ok {ring k v : Nat} {told : List (Nat × Nat)} (h : ToldOk ring told) (hv : v < ring) : ToldOk ring (putN told k v) := fun p hp => by
  unfold putN at hp
  split at hp
  · obtain ⟨q, hq, e⟩ := List.mem_map.mp hp
    split at e
    · rw [← e]; exact hv
    · rw [← e]; exact h q hq
  · rcases List.mem_append.mp hp with h1 | h1
    · exact h p h1
    · rw [List.mem_singleton.mp h1]; exact hv
theorem putN_nd {k v : Nat} {told : List (Nat × Nat)} (h : (told.map (·.1)).Nodup) : ((putN told k v).map (·.1)).Nodup := by
  unfold putN
  split
  · rw [List.map_map]
    have e : ((fun p : Nat × Nat => p.1) ∘ fun p => if p.1 = k then (p.1, v) else p) = fun p => p.1 := by
      funext p
      show (if p.1 = k then (p.1, v) else p).1 = p.1
      split <;> rfl
    rw [e]
    exact h
  · rename_i hn
    rw [List.map_append]
    refine List.nodup_append.mpr ⟨h, by simp, fun a ha b hb e => ?_⟩
    have hb' : b = k := by simpa using hb
    obtain ⟨p, hp, ep⟩ := List.mem_map.mp ha
    exact hn (List.any_eq_true.mpr ⟨p, hp, decide_eq_true (by rw [ep, e, hb'])⟩)
/-! ### what a row says further on -/
theorem wrunN_get {W : Wk} {told : List (Nat × Nat)} {g : List Nat} (hW : W.Ok) (ht : ToldOk W.ring told) (hg : Row W.ring W.inputs g) {j : Nat} : ∀ (n l : Nat), j ≤ n → l < W.inputs + j → (wrunN W told g n).getD l 0 = (wrunN W told g j).getD l 0
  | 0, l, hj, hl => by
    have : j = 0 := by omega
    rw [this]
  | n + 1, l, hj, hl => by
    by_cases e : j = n + 1
    · rw [e]
    · rw [wrunN_succ, List.getD_eq_getElem?_getD, List.getElem?_append_left (by rw [(wrunN_row hW ht hg n).1]; omega), ← List.getD_eq_getElem?_getD]
      exact wrunN_get hW ht hg n l (by omega) hl
theorem give_eq {ring : Nat} {p : Pt} {r s : List Nat} (h : ∀ l ∈ p.lines, r.getD l 0 = s.getD l 0) : give ring p r = give ring p s := by
  cases p with
  | sum a b => simp only [give, h a (by simp [Pt.lines]), h b (by simp [Pt.lines])]
  | stop a b => simp only [give, h a (by simp [Pt.lines]), h b (by simp [Pt.lines])]
  | pick a b c => simp only [give, h a (by simp [Pt.lines]), h b (by simp [Pt.lines]), h c (by simp [Pt.lines])]
  | not a => simp only [give, h a (by simp [Pt.lines])]
theorem wrunW_at {W : Wk} {told : List (Nat × Nat)} {g : List Nat} (hW : W.Ok) (ht : ToldOk W.ring told) (hg : Row W.ring W.inputs g) {j : Nat} (hj : j < W.parts.length) :
    (wrunW W told g).getD (W.inputs + j) 0 = (getN told j).getD (give W.ring (W.parts.getD j (.not 0)) (wrunW W told g)) := by
  have e1 : (wrunW W told g).getD (W.inputs + j) 0 = (wrunN W told g (j + 1)).getD (W.inputs + j) 0 := wrunN_get hW ht hg _ _ (by omega) (by omega)
  have hp : W.parts[j]? = some (W.parts.getD j (.not 0)) := by rw [List.getD_eq_getElem?_getD, List.getElem?_eq_getElem hj]; rfl
  have e2 : give W.ring (W.parts.getD j (.not 0)) (wrunW W told g) = give W.ring (W.parts.getD j (.not 0)) (wrunN W told g j) := give_eq fun l hl => wrunN_get hW ht hg _ l (by omega) (hW.lines j _ hp l hl)
  rw [e1, e2, wrunN_succ, List.getD_eq_getElem?_getD, List.getElem?_append_right (by rw [(wrunN_row hW ht hg j).1]; omega), (wrunN_row hW ht hg j).1, Nat.sub_self]
  rfl
theorem wrunW_in {W : Wk} {told : List (Nat × Nat)} {g : List Nat} (hW : W.Ok) (ht : ToldOk W.ring told) (hg : Row W.ring W.inputs g) {l : Nat} (hl : l < W.inputs) : (wrunW W told g).getD l 0 = g.getD l 0 :=
  wrunN_get (j := 0) hW ht hg _ l (Nat.zero_le _) (by omega)
theorem wrunW_row {W : Wk} {told : List (Nat × Nat)} {g : List Nat} (hW : W.Ok) (ht : ToldOk W.ring told) (hg : Row W.ring W.inputs g) : Row W.ring (W.inputs + W.parts.length) (wrunW W told g) := wrunN_row hW ht hg _
/-! ### more rules -/
section
variable {X : Cx} {en : En} {a b e : Expr} {p pos : Pos} {k ka kb : Kd} {d da db : PD} {ds es : List PD} {n : Nat}
/-- a tuple and a written one -/
theorem de_catT (ha : DE X en a .c (.tuple ds)) (hb : DE X en b .c (.tuple es)) (h1 : ds ≠ []) (h2 : es ≠ []) (hl : ds.length + es.length ≤ 100000) : DE X en (.BinOp a .Add b pos) .c (.tuple (ds ++ es)) :=
  de_op op_catT ha hb fun H0 H0' Ho H v u s r1 r2 Q q => by
    obtain ⟨p, xs, rfl, q1, r1⟩ := Rp.tup_inv r1
    obtain ⟨p', ys, rfl, q2, r2⟩ := Rp.tup_inv r2
    have hx : xs ≠ [] := fun z => h1 (by have := r1.len; rw [z] at this; exact List.eq_nil_of_length_eq_zero this.symm)
    have hy : ys ≠ [] := fun z => h2 (by have := r2.len; rw [z] at this; exact List.eq_nil_of_length_eq_zero this.symm)
    exact ⟨p, p', xs, ys, rfl, rfl, same_sqt s q1, same_sqt s q2, hx, sz100 (by rw [r1.len, r2.len]; exact hl), fun z => absurd z hy, fun _ c hc => q _ _ _ (.new s hc) (.tup (.inl (.inl upd_same)) ((r1.app r2).mono (same_new (s.free hc))))⟩
/-- two dicts of digits that are alike -/
theorem tK_inv {K : PySem.W.Frag} {H : Hp} : ∀ {kv : List (Ky × V)} {told : List (Nat × Nat)}, kv.map (·.1) = (told.map tK).map (·.1) → RpA K H (kv.map (·.2)) ((told.map tK).map (·.2)) → kv = told.map fun p => (.inl (p.1 : Int), V.int p.2)
  | [], [], _, _ => rfl
  | [], p :: kvs, e, _ => by cases e
  | q :: kv, [], e, _ => by cases e
  | (k, v) :: kv, t :: told, e, r => by
    simp only [List.map_cons] at e r ⊢
    have e1 : k = (tK t).1 := (List.cons.inj e).1
    cases r with
    | cons h r =>
      rw [tK_inv (List.cons.inj e).2 r, e1, Rp.int_inv h]
      rfl
theorem valV_nd {β : Type} : ∀ {l : List (Nat × Nat)} {p : Nat × Nat}, (l.map (·.1)).Nodup → p ∈ l → valV (l.map fun p => ((.inl (p.1 : Int) : Ky), V.int p.2)) (.inl (p.1 : Int)) = some (V.int p.2)
  | [], p, _, h => by cases h
  | q :: l, p, nd, h => by
    rw [List.map_cons] at nd ⊢
    obtain ⟨n1, n2⟩ := List.nodup_cons.mp nd
    rcases List.mem_cons.mp h with rfl | h
    · exact valV_pos rfl
    · rw [valV_neg]
      · exact valV_nd (β := β) n2 h
      · intro z
        have e1 : q.1 = p.1 := by have := Sum.inl.inj z; omega
        exact n1 (by rw [e1]; exact List.mem_map.mpr ⟨p, h, rfl⟩)
theorem dt_neTold {told : List (Nat × Nat)} (hr : Room n X.A) (nd : (told.map (·.1)).Nodup) (ha : DE X en a .e (toldD told)) (hb : DE X en b .e (toldD told)) (hm : behindInMarks .NotEq b = false := by kernel_rfl) : DT X en (.Compare a [.NotEq] [b] pos) false := fun B Bo Ho H σ f Q q => by
  refine wT_of (pt_cmpR (op_ne_dictA (by have := hr.un; omega)) pe_w pe_w hm) ?_
  refine ha B Bo Ho H σ f _ fun v H1o H1 g1 r1 => ?_
  refine hb B Bo H1o H1 σ (f.gr g1) _ fun u H2o H2 g2 r2 => ?_
  obtain ⟨p, kv, rfl, hp, i1, i2⟩ := RpE.dk_inv r1 g1.s
  obtain ⟨p', kv', rfl, hp', j1, j2⟩ := RpE.dk_inv r2 g2.s
  have e1 := tK_inv i1 i2
  have e2 := tK_inv j1 j2
  refine ⟨p, p', kv, kv', rfl, rfl, g2.h _ _ hp, hp', by rw [e1, e2], fun x hx => ?_, false, rfl, q H2o H2 (g1.trans g2)⟩
  rw [e1] at hx
  rw [e2]
  obtain ⟨t, ht, rfl⟩ := List.mem_map.mp hx
  exact ⟨valV_nd (β := Unit) nd ht, rfl⟩
end
end DL

namespace K03
open PySem PySem.Spec PyProof.Rows L2 DL
def topS (i : Nat) : Stmt := PySem.Challenge.pw_whichbroke_k03_a_work_run.main.body.getD i (.Pass ⟨0, 0, 0, 0⟩)
abbrev s_is_whole : Stmt := topS 4
abbrev N_is_whole : List Str := ["thing", "low", "high"]
theorem c_is_whole : FnScope N_is_whole ["thing", "low", "high"] (defScope s_is_whole) := ⟨rfl, rfl, rfl, by decide +kernel, rfl, by decide +kernel, by decide +kernel⟩
theorem b_is_whole {scope : Scope} {own : List (Str × Nat)} (h : blkC N_is_whole (defScope s_is_whole) scope own = true) : BlkOk N_is_whole (defScope s_is_whole) scope own := blkOk_by h
abbrev s_is_tuple_of : Stmt := topS 5
abbrev N_is_tuple_of : List Str := ["thing", "length"]
theorem c_is_tuple_of : FnScope N_is_tuple_of ["thing", "length"] (defScope s_is_tuple_of) := ⟨rfl, rfl, rfl, by decide +kernel, rfl, by decide +kernel, by decide +kernel⟩
theorem b_is_tuple_of {scope : Scope} {own : List (Str × Nat)} (h : blkC N_is_tuple_of (defScope s_is_tuple_of) scope own = true) : BlkOk N_is_tuple_of (defScope s_is_tuple_of) scope own := blkOk_by h
abbrev s_is_digit : Stmt := topS 6
abbrev N_is_digit : List Str := ["work", "thing"]
theorem c_is_digit : FnScope N_is_digit ["work", "thing"] (defScope s_is_digit) := ⟨rfl, rfl, rfl, by decide +kernel, rfl, by decide +kernel, by decide +kernel⟩
theorem b_is_digit {scope : Scope} {own : List (Str × Nat)} (h : blkC N_is_digit (defScope s_is_digit) scope own = true) : BlkOk N_is_digit (defScope s_is_digit) scope own := blkOk_by h
abbrev s_is_given : Stmt := topS 7
abbrev N_is_given : List Str := ["work", "thing", "digit"]
theorem c_is_given : FnScope N_is_given ["work", "thing"] (defScope s_is_given) := ⟨rfl, rfl, rfl, by decide +kernel, rfl, by decide +kernel, by decide +kernel⟩
theorem b_is_given {scope : Scope} {own : List (Str × Nat)} (h : blkC N_is_given (defScope s_is_given) scope own = true) : BlkOk N_is_given (defScope s_is_given) scope own := blkOk_by h
abbrev s_need_given : Stmt := topS 8
abbrev N_need_given : List Str := ["work", "thing"]
theorem c_need_given : FnScope N_need_given ["work", "thing"] (defScope s_need_given) := ⟨rfl, rfl, rfl, by decide +kernel, rfl, by decide +kernel, by decide +kernel⟩
theorem b_need_given {scope : Scope} {own : List (Str × Nat)} (h : blkC N_need_given (defScope s_need_given) scope own = true) : BlkOk N_need_given (defScope s_need_given) scope own := blkOk_by h
abbrev s_given_of : Stmt := topS 9
abbrev N_given_of : List Str := ["part", "digits", "ring", "word", "taken", "line"]
theorem c_given_of : FnScope N_given_of ["part", "digits", "ring"] (defScope s_given_of) := ⟨rfl, rfl, rfl, by decide +kernel, rfl, by decide +kernel, by decide +kernel⟩
theorem b_given_of {scope : Scope} {own : List (Str × Nat)} (h : blkC N_given_of (defScope s_given_of) scope own = true) : BlkOk N_given_of (defScope s_given_of) scope own := blkOk_by h
abbrev s_ran : Stmt := topS 11
abbrev N_ran : List Str := ["work", "given", "told", "ring", "_", "parts", "digits", "number", "part"]
theorem c_ran : FnScope N_ran ["work", "given", "told"] (defScope s_ran) := ⟨rfl, rfl, rfl, by decide +kernel, rfl, by decide +kernel, by decide +kernel⟩
theorem b_ran {scope : Scope} {own : List (Str × Nat)} (h : blkC N_ran (defScope s_ran) scope own = true) : BlkOk N_ran (defScope s_ran) scope own := blkOk_by h
abbrev s__law_cell : Stmt := topS 13
abbrev N__law_cell : List Str := ["_law_script", "_law_k"]
theorem c__law_cell : FnScope N__law_cell ["_law_script", "_law_k"] (defScope s__law_cell) := ⟨rfl, rfl, rfl, by decide +kernel, rfl, by decide +kernel, by decide +kernel⟩
theorem b__law_cell {scope : Scope} {own : List (Str × Nat)} (h : blkC N__law_cell (defScope s__law_cell) scope own = true) : BlkOk N__law_cell (defScope s__law_cell) scope own := blkOk_by h
abbrev s__law_mixed : Stmt := topS 14
abbrev N__law_mixed : List Str := ["_law_script", "_law_k"]
theorem c__law_mixed : FnScope N__law_mixed ["_law_script", "_law_k"] (defScope s__law_mixed) := ⟨rfl, rfl, rfl, by decide +kernel, rfl, by decide +kernel, by decide +kernel⟩
theorem b__law_mixed {scope : Scope} {own : List (Str × Nat)} (h : blkC N__law_mixed (defScope s__law_mixed) scope own = true) : BlkOk N__law_mixed (defScope s__law_mixed) scope own := blkOk_by h
abbrev s__law_whole : Stmt := topS 15
abbrev N__law_whole : List Str := ["_law_thing"]
theorem c__law_whole : FnScope N__law_whole ["_law_thing"] (defScope s__law_whole) := ⟨rfl, rfl, rfl, by decide +kernel, rfl, by decide +kernel, by decide +kernel⟩
theorem b__law_whole {scope : Scope} {own : List (Str × Nat)} (h : blkC N__law_whole (defScope s__law_whole) scope own = true) : BlkOk N__law_whole (defScope s__law_whole) scope own := blkOk_by h
abbrev s__law_part : Stmt := topS 16
abbrev N__law_part : List Str := ["_law_cell_here", "_law_lines", "_law_word", "_law_taken", "_law_k", "_law_near"]
theorem c__law_part : FnScope N__law_part ["_law_cell_here", "_law_lines"] (defScope s__law_part) := ⟨rfl, rfl, rfl, by decide +kernel, rfl, by decide +kernel, by decide +kernel⟩
theorem b__law_part {scope : Scope} {own : List (Str × Nat)} (h : blkC N__law_part (defScope s__law_part) scope own = true) : BlkOk N__law_part (defScope s__law_part) scope own := blkOk_by h
abbrev s__law_work : Stmt := topS 17
abbrev N__law_work : List Str := ["_law_script", "_law_most", "_law_first", "_law_ring", "_law_inputs", "_law_many", "_law_parts", "_law_k"]
theorem c__law_work : FnScope N__law_work ["_law_script", "_law_most"] (defScope s__law_work) := ⟨rfl, rfl, rfl, by decide +kernel, rfl, by decide +kernel, by decide +kernel⟩
theorem b__law_work {scope : Scope} {own : List (Str × Nat)} (h : blkC N__law_work (defScope s__law_work) scope own = true) : BlkOk N__law_work (defScope s__law_work) scope own := blkOk_by h
abbrev s__law_due : Stmt := topS 18
abbrev N__law_due : List Str := ["_law_part_here", "_law_digits", "_law_ring", "_law_first"]
theorem c__law_due : FnScope N__law_due ["_law_part_here", "_law_digits", "_law_ring"] (defScope s__law_due) := ⟨rfl, rfl, rfl, by decide +kernel, rfl, by decide +kernel, by decide +kernel⟩
theorem b__law_due {scope : Scope} {own : List (Str × Nat)} (h : blkC N__law_due (defScope s__law_due) scope own = true) : BlkOk N__law_due (defScope s__law_due) scope own := blkOk_by h
abbrev s_law : Stmt := topS 19
abbrev N_law : List Str := ["_law_script", "_law_work_here", "_law_kept", "_law_given", "_law_told", "_law_k", "_law_handed", "_law_found", "_law_line", "_law_due_here", "_law_first", "_law_other"]
theorem c_law : FnScope N_law ["_law_script"] (defScope s_law) := ⟨rfl, rfl, rfl, by decide +kernel, rfl, by decide +kernel, by decide +kernel⟩
theorem b_law {scope : Scope} {own : List (Str × Nat)} (h : blkC N_law (defScope s_law) scope own = true) : BlkOk N_law (defScope s_law) scope own := blkOk_by h
section
variable {P : Program} {w : World} {K : PySem.W.Frag} {mg : Str → Option Value} {base : Heap}
def R__law_cell (ds : List PD) (d : PD) : Prop := ∃ (ns : List Int) (k : Nat), ds = [scr ns, nD k] ∧ k ≤ 1000 ∧ d = .int (cellI ns k)
theorem f__law_cell {f : Addr} {fd : FuncData} {k : Nat} (F : FnP K "_law_cell" s__law_cell f fd) : FnOk P w K mg base CX0 (k + 1) f fd ["_law_script", "_law_k"] (spF K R__law_cell .c) := by
  refine fn_mk F c__law_cell _ _ (fun ds d h => by obtain ⟨ns, k, rfl, _⟩ := h; rfl) fun cdv A outer s H E hr ds d h => ?_
  obtain ⟨ns, k, rfl, hk, rfl⟩ := h
  refine dss_one (ds_ret (de_ixL (de_cat (de_slS (de_v 0) (do_some (de_v 1)) (do_some (de_add (de_v 1) de_int))) (de_lst (da_c de_int da_nil) (by decide)) ?_).ke de_int (cell_at ns k)) rfl)
  exact cell_len ns k
def R__law_mixed (ds : List PD) (d : PD) : Prop := ∃ (ns : List Int) (k : Nat), ds = [scr ns, nD k] ∧ k ≤ 1000 ∧ d = nD (mix ns k)
theorem f__law_mixed {f : Addr} {fd : FuncData} {k : Nat} (F : FnP K "_law_mixed" s__law_mixed f fd) (Gc : Dn P w K mg base k "_law_cell" R__law_cell .c) : FnOk P w K mg base CX0 (k + 1) f fd ["_law_script", "_law_k"] (spF K R__law_mixed .c) := by
  refine fn_mk F c__law_mixed _ _ (fun ds d h => by obtain ⟨ns, k, rfl, _⟩ := h; rfl) fun cdv A outer s H E hr ds d h => ?_
  obtain ⟨ns, k, rfl, hk, rfl⟩ := h
  exact dss_one (ds_ret (de_mod (de_mul (de_add (de_call Gc hr (da_c (de_v 0) (da_c (de_v 1) da_nil)) ⟨ns, k, rfl, hk, rfl⟩) (de_mul de_int (de_v 1) (.inl ⟨by decide, by decide⟩))) de_int (.inr ⟨by decide, by decide⟩)) de_int (by decide)) (mix_nD ns k))
def R__law_part (ds : List PD) (d : PD) : Prop := ∃ cell lines : Nat, ds = [nD cell, nD lines] ∧ 1 ≤ lines ∧ d = ptD (mkPt cell lines)
def cntN (cell : Nat) : Nat := [2, 2, 3, 1].getD (cell % 4) 1
def wrdN (cell : Nat) : Str := (["sum", "stop", "pick", "not"] : List Str).getD (cell % 4) "not"
theorem lp_word (cell : Nat) : atI [PyData.str "sum", PyData.str "stop", PyData.str "pick", PyData.str "not"] ((cell % 4 : Nat) : Int) = some (.str (wrdN cell)) := by
  unfold wrdN
  have h : cell % 4 < 4 := Nat.mod_lt _ (by decide)
  match e : cell % 4, h with
  | 0, _ => rfl
  | 1, _ => rfl
  | 2, _ => rfl
  | 3, _ => rfl
theorem lp_takes (cell : Nat) : valD [(.inr "sum", .int 2), (.inr "stop", .int 2), (.inr "pick", .int 3), (.inr "not", .int 1)] (.inr (wrdN cell)) = some (nD (cntN cell)) := by
  unfold wrdN cntN
  have h : cell % 4 < 4 := Nat.mod_lt _ (by decide)
  match e : cell % 4, h with
  | 0, _ => rfl
  | 1, _ => rfl
  | 2, _ => rfl
  | 3, _ => rfl
theorem lp_end (cell lines : Nat) : PyData.tuple ([PyData.str (wrdN cell)] ++ (List.range (cntN cell)).map fun k => nD (takeN cell lines k)) = ptD (mkPt cell lines) := by
  unfold wrdN cntN mkPt
  have h : cell % 4 < 4 := Nat.mod_lt _ (by decide)
  match e : cell % 4, h with
  | 0, _ => rfl
  | 1, _ => rfl
  | 2, _ => rfl
  | 3, _ => rfl
theorem cntN_le (cell : Nat) : cntN cell ≤ 3 := by
  unfold cntN
  have h : cell % 4 < 4 := Nat.mod_lt _ (by decide)
  match e : cell % 4, h with
  | 0, _ => decide
  | 1, _ => decide
  | 2, _ => decide
  | 3, _ => decide
theorem lp_div (k : Nat) (h : k < 3) : atI [PyData.int 1, PyData.int 7, PyData.int 49] (k : Int) = some (nD ([1, 7, 49].getD k 1)) ∧ 0 < [1, 7, 49].getD k 1 ∧ [1, 7, 49].getD k 1 < 1073741824 := by
  match k, h with
  | 0, _ => exact ⟨rfl, by decide, by decide⟩
  | 1, _ => exact ⟨rfl, by decide, by decide⟩
  | 2, _ => exact ⟨rfl, by decide, by decide⟩
def lpE (cell lines k : Nat) : En := [some (.v (nD cell)), some (.v (nD lines)), some (.v (.str (wrdN cell))), some (.o (.list ((List.range k).map fun j => nD (takeN cell lines j)))), none, none]
theorem f__law_part {f : Addr} {fd : FuncData} {k : Nat} (F : FnP K "_law_part" s__law_part f fd) (mr : mg "range" = none) (mt : mg "tuple" = none) (mm : mg "min" = none) : FnOk P w K mg base CX0 (k + 1) f fd (N__law_part.take 2) (spF K R__law_part .c) := by
  refine fn_mk F c__law_part _ _ (fun ds d h => by obtain ⟨c, l, rfl, _⟩ := h; rfl) fun cdv A outer s H E hr ds d h => ?_
  obtain ⟨cell, lines, rfl, hl, rfl⟩ := h
  have hc := cntN_le cell
  refine dss_cons _ (ds_set 2 (de_ixL (de_lst (da_c de_str (da_c de_str (da_c de_str (da_c de_str da_nil)))) (by decide)).ke ((de_mod (de_v 0) de_int (by decide)).is rfl) (lp_word cell)) rfl c__law_part.nd) ?_
  refine dss_cons _ (ds_setO 3 (de_lst da_nil (by decide)) rfl c__law_part.nd) ?_
  refine dss_cons (lpE cell lines (cntN cell)) (ds_for (List.range (cntN cell)) nD (lpE cell lines) ?_ ?_ ?_ ?_) ?_
  · refine di_rangeN (k := .c) (n := cntN cell) mr ?_ (by omega)
    refine de_dget (kb := .c) hr (kvs := [(.inr "sum", .int 2), (.inr "stop", .int 2), (.inr "pick", .int 3), (.inr "not", .int 1)]) (y := .inr (wrdN cell)) ?_ ?_ (lp_takes cell)
    · refine DE.ke (k := .o) ?_
      refine de_disp ?_ (by decide +kernel) (by decide)
      exact (dps_cons (y := .inr "sum") de_str de_int (dps_cons (y := .inr "stop") de_str de_int (dps_cons (y := .inr "pick") de_str de_int (dps_cons (y := .inr "not") de_str de_int dps_nil))))
    · exact de_v 2
  · exact ⟨rfl, rfl, rfl, rfl, trivial⟩
  · intro i x hx
    have hi : i < cntN cell := by have := (List.getElem?_eq_some_iff.mp hx).1; rwa [List.length_range] at this
    rw [List.getElem?_range hi] at hx
    cases hx
    obtain ⟨q1, q2, q3⟩ := lp_div i (by omega)
    refine ⟨_, _, dg_name 4 c__law_part.nd, ?_⟩
    refine dss_cons _ (ds_set 5 (d := nD (cell / 4 / [1, 7, 49].getD i 1)) ((de_div (de_div (de_v 0) de_int ⟨by decide, by decide⟩) (de_ixL (de_lst (da_c de_int (da_c de_int (da_c de_int da_nil))) (by decide)).ke (de_v 4) q1) ⟨by omega, by omega⟩).is rfl) rfl c__law_part.nd) ?_
    have fin : Lee (lpE cell lines (i + 1)) [some (.v (nD cell)), some (.v (nD lines)), some (.v (.str (wrdN cell))), some (.o (.list (((List.range i).map fun j => nD (takeN cell lines j)) ++ [nD (takeN cell lines i)]))), some (.v (nD i)), some (.v (nD (cell / 4 / [1, 7, 49].getD i 1)))] := by
      refine ⟨rfl, rfl, rfl, ?_, trivial⟩
      rw [List.range_succ, List.map_append]
      rfl
    refine dss_one (ds_if (dt_eqI (de_mod (de_v 5) de_int (by decide)) de_int) (fun h => ?_) (fun h => ?_))
    · have h0 : cell / 4 / [1, 7, 49].getD i 1 % 2 = 0 := Int.ofNat.inj (of_decide_eq_true h)
      refine dss_one (ds_append 3 rfl (d := nD (takeN cell lines i)) ((de_sub (de_sub (de_v 1) de_int) (de_mod (de_div (de_v 5) de_int ⟨by decide, by decide⟩) (de_min2 mm rfl (de_v 1) de_int) ?_)).is ?_) ?_ fin)
      · split <;> omega
      · unfold takeN
        rw [if_pos h0]
        have hmin : (if (3 : Int) < (lines : Int) then (3 : Int) else (lines : Int)) = ((min lines 3 : Nat) : Int) := by split <;> omega
        rw [hmin]
        have e : ((cell / 4 / [1, 7, 49].getD i 1 : Nat) : Int) / 2 % ((min lines 3 : Nat) : Int) = ((cell / 4 / [1, 7, 49].getD i 1 / 2 % min lines 3 : Nat) : Int) := rfl
        rw [e]
        have hb : cell / 4 / [1, 7, 49].getD i 1 / 2 % min lines 3 < min lines 3 := Nat.mod_lt _ (by omega)
        unfold nD
        congr 1
        omega
      · rw [List.length_map, List.length_range]; omega
    · have h0 : ¬ cell / 4 / [1, 7, 49].getD i 1 % 2 = 0 := fun z => of_decide_eq_false h (congrArg Int.ofNat z)
      refine dss_one (ds_append 3 rfl (d := nD (takeN cell lines i)) ((de_mod (de_div (de_v 5) de_int ⟨by decide, by decide⟩) (de_v 1) (by omega)).is ?_) ?_ fin)
      · unfold takeN
        rw [if_neg h0]
        rfl
      · rw [List.length_map, List.length_range]; omega
  · show lpE cell lines (List.range (cntN cell)).length = _
    rw [List.length_range]
  refine dss_one (ds_ret (de_tupL mt (de_cat (de_lst (da_c (de_v 2) da_nil) (by simp)) (de_vo 3) ?_).ke) (lp_end cell lines))
  rw [List.length_map, List.length_range]
  show 1 + cntN cell ≤ 100000
  omega
def R__law_work (ds : List PD) (d : PD) : Prop := ∃ (ns : List Int) (most : Nat), ds = [scr ns, nD most] ∧ 1 ≤ most ∧ most ≤ 100 ∧ d = wkD (workOf ns most)
theorem lw_ring (f : Nat) : atI [PyData.int 2, PyData.int 2, PyData.int 3, PyData.int 2, PyData.int 3, PyData.int 4, PyData.int 5, PyData.int 2] ((f % 8 : Nat) : Int) = some (nD (ringOf f)) := by
  unfold ringOf
  have h : f % 8 < 8 := Nat.mod_lt _ (by decide)
  match e : f % 8, h with
  | 0, _ => rfl
  | 1, _ => rfl
  | 2, _ => rfl
  | 3, _ => rfl
  | 4, _ => rfl
  | 5, _ => rfl
  | 6, _ => rfl
  | 7, _ => rfl
def lwE (ns : List Int) (most i m : Nat) : En := [some (.v (scr ns)), some (.v (nD most)), some (.v (nD (mix ns 0))), some (.v (nD (ringOf (mix ns 0)))), some (.v (nD i)), some (.v (nD m)), none, none]
theorem f__law_work {f : Addr} {fd : FuncData} {k : Nat} (F : FnP K "_law_work" s__law_work f fd) (Gm : Dn P w K mg base k "_law_mixed" R__law_mixed .c) (Gp : Dn P w K mg base k "_law_part" R__law_part .c) (mr : mg "range" = none) (mm : mg "min" = none) : FnOk P w K mg base CX0 (k + 1) f fd (N__law_work.take 2) (spF K R__law_work .c) := by
  refine fn_mk F c__law_work _ _ (fun ds d h => by obtain ⟨ns, m, rfl, _⟩ := h; rfl) fun cdv A outer s H E hr ds d h => ?_
  obtain ⟨ns, most, rfl, h1, h100, rfl⟩ := h
  have hm := manyOf_b ns h1
  have hi := inputsOf_b (mix ns 0)
  refine dss_cons _ (ds_set 2 (de_call Gm hr (da_c (de_v 0) (da_c de_int da_nil)) ⟨ns, 0, rfl, by decide, rfl⟩) rfl c__law_work.nd) ?_
  refine dss_cons _ (ds_set 3 (de_ixL (de_lst (da_c de_int (da_c de_int (da_c de_int (da_c de_int (da_c de_int (da_c de_int (da_c de_int (da_c de_int da_nil)))))))) (by decide)).ke ((de_mod (de_v 2) de_int (by decide)).is rfl) (lw_ring _)) rfl c__law_work.nd) ?_
  refine dss_cons _ (ds_set 4 (d := nD (1 + mix ns 0 / 8 % 3)) ((de_add de_int (de_mod (de_div (de_v 2) de_int ⟨by decide, by decide⟩) de_int (by decide))).is rfl) rfl c__law_work.nd) ?_
  refine dss_cons [some (.v (scr ns)), some (.v (nD most)), some (.v (nD (mix ns 0))), some (.v (nD (ringOf (mix ns 0)))), some (.v (nD (inputsOf (mix ns 0)))), none, none, none] (ds_if (dt_eqI (de_mod (de_div (de_v 2) de_int ⟨by decide, by decide⟩) de_int (by decide)) de_int) (fun h => ?_) (fun h => ?_)) ?_
  · have h0 : mix ns 0 / 24 % 8 = 1 := Int.ofNat.inj (of_decide_eq_true h)
    refine dss_one (ds_set 4 (d := nD (inputsOf (mix ns 0))) ((de_add de_int (de_mod (de_div (de_v 2) de_int ⟨by decide, by decide⟩) de_int (by decide))).is ?_) rfl c__law_work.nd)
    unfold inputsOf
    rw [if_pos h0]
    rfl
  · have h0 : ¬ mix ns 0 / 24 % 8 = 1 := fun z => of_decide_eq_false h (congrArg Int.ofNat z)
    refine dss_nil ?_
    unfold inputsOf
    rw [if_neg h0]
    rfl
  refine dss_cons _ (ds_set 5 (d := nD (1 + mix ns 1 % most)) ((de_add de_int (de_mod (de_call Gm hr (da_c (de_v 0) (da_c de_int da_nil)) ⟨ns, 1, rfl, by decide, rfl⟩) (de_v 1) (by omega))).is rfl) rfl c__law_work.nd) ?_
  refine dss_cons (lwE ns most (inputsOf (mix ns 0)) (manyOf ns most)) (ds_if (DW.dt (dw_and (dt_gt (de_v 3) de_int) (fun _ => dw_and1 (dt_lt (de_v 1) de_int)))) (fun h => ?_) (fun h => ?_)) ?_
  · rw [Bool.and_eq_true] at h
    have a1 : 3 < ringOf (mix ns 0) := by have := of_decide_eq_true h.1; omega
    have a2 : most < 8 := by have := of_decide_eq_true h.2; omega
    refine dss_one (ds_set 5 (d := nD (manyOf ns most)) ((de_min2 mm rfl (de_v 5) de_int).is ?_) rfl c__law_work.nd)
    have e : manyOf ns most = min (1 + mix ns 1 % most) 4 := by unfold manyOf; rw [if_pos ⟨a1, a2⟩]
    rw [e]
    unfold nD
    congr 1
    split <;> omega
  · rw [Bool.and_eq_false_iff] at h
    have a : ¬ (3 < ringOf (mix ns 0) ∧ most < 8) := fun z => by
      rcases h with h | h
      · have := of_decide_eq_false h; omega
      · have := of_decide_eq_false h; omega
    refine dss_nil ?_
    unfold lwE manyOf
    rw [if_neg a]
    rfl
  refine dss_cons _ (ds_setLc 6 (own := [(N__law_work.getD 7 "", 7)]) (dlc (List.range (manyOf ns most)) nD (fun j => ptD (mkPt (mix ns (2 + j)) (inputsOf (mix ns 0) + j))) (di_rangeN mr (de_v 5) (by omega)) (fun j hj => ⟨[7], _, by simp, fun _ _ _ _ _ => ⟨dg_name 7 c__law_work.nd, ?_⟩⟩) (by rw [List.length_range]; omega)) rfl c__law_work.nd (b__law_work (by decide +kernel))) ?_
  · have hj' := List.mem_range.mp hj
    exact de_call Gp hr (da_c (de_call Gm hr (da_c (de_v 0) (da_c ((de_add de_int (de_v 7)).is rfl) da_nil)) ⟨ns, 2 + j, rfl, by omega, rfl⟩) (da_c (de_add (de_v 4) (de_v 7)) da_nil)) ⟨mix ns (2 + j), inputsOf (mix ns 0) + j, rfl, by omega, rfl⟩
  refine DSs.freeze (i := 6) (dss_one (ds_ret (de_tup (da_c (de_v 3) (da_c (de_v 4) (da_c (de_v 6) da_nil))) (by simp)) ?_))
  show PyData.tuple _ = PyData.tuple _
  unfold workOf
  rw [List.map_map]
  rfl
def tupB (t : PD) (n : Int) : Bool := match t with
  | .tuple xs => decide ((xs.length : Int) = n)
  | _ => false
def R_is_tuple_of (ds : List PD) (d : PD) : Prop := ∃ (t : PD) (n : Int), ds = [t, .int n] ∧ (typN t).isSome = true ∧ d = .bool (tupB t n)
theorem f_is_tuple_of {f : Addr} {fd : FuncData} {k : Nat} (F : FnP K "is_tuple_of" s_is_tuple_of f fd) (mt : mg "type" = none) (mi : mg "tuple" = none) (ml : mg "len" = none) : FnOk P w K mg base CX0 (k + 1) f fd ["thing", "length"] (spF K R_is_tuple_of .c) := by
  refine fn_mk F c_is_tuple_of _ _ (fun ds d h => by obtain ⟨t, n, rfl, _⟩ := h; rfl) fun cdv A outer s H E hr ds d h => ?_
  obtain ⟨t, n, rfl, ht, rfl⟩ := h
  obtain ⟨tn, htn⟩ := Option.isSome_iff_exists.mp ht
  by_cases hi' : tn = "tuple"
  · obtain ⟨xs, rfl⟩ : ∃ xs, t = .tuple xs := by
      subst hi'
      cases t <;> simp [typN] at htn
      exact ⟨_, rfl⟩
    refine dss_one (ds_ret (de_and (c1 := true) (c2 := decide ((xs.length : Int) = n)) ((de_tyEq mt mi (de_v 0) htn PySem.TypeEq.meta_tuple boot_tuple).is (by rw [hi', decide_eq_true rfl])) (fun _ => de_one (de_eqI (de_lenT ml (de_v 0).ke) (de_v 1)))) ?_)
    rfl
  · refine dss_one (ds_ret (de_andF ((de_tyEq mt mi (de_v 0) htn PySem.TypeEq.meta_tuple boot_tuple).is (by rw [decide_eq_false hi']))) ?_)
    show PyData.bool false = PyData.bool (tupB t n)
    have : tupB t n = false := by
      cases t <;> first | rfl | (simp [typN] at htn; exact absurd htn.symm hi')
    rw [this]
def R_is_whole (ds : List PD) (d : PD) : Prop := ∃ (t : PD) (lo hi : Int), ds = [t, .int lo, .int hi] ∧ (typN t).isSome = true ∧ d = .bool (wholeIn t lo hi)
theorem f_is_whole {f : Addr} {fd : FuncData} {k : Nat} (F : FnP K "is_whole" s_is_whole f fd) (mt : mg "type" = none) (mi : mg "int" = none) : FnOk P w K mg base CX0 (k + 1) f fd ["thing", "low", "high"] (spF K R_is_whole .c) := by
  refine fn_mk F c_is_whole _ _ (fun ds d h => by obtain ⟨t, lo, hi, rfl, _⟩ := h; rfl) fun cdv A outer s H E hr ds d h => ?_
  obtain ⟨t, lo, hi, rfl, ht, rfl⟩ := h
  obtain ⟨tn, htn⟩ := Option.isSome_iff_exists.mp ht
  by_cases hi' : tn = "int"
  · obtain ⟨n, rfl⟩ : ∃ n, t = .int n := by
      subst hi'
      cases t <;> simp [typN] at htn
      exact ⟨_, rfl⟩
    refine dss_one (ds_ret (de_and (c1 := true) (c2 := decide (lo ≤ n) && decide (n ≤ hi)) ((de_tyEq mt mi (de_v 0) htn PySem.TypeEq.meta_int boot_int).is (by rw [hi', decide_eq_true rfl])) (fun _ => de_one (de_chainLe (de_v 1) (de_v 0) (de_v 2)))) ?_)
    rfl
  · refine dss_one (ds_ret (de_andF ((de_tyEq mt mi (de_v 0) htn PySem.TypeEq.meta_int boot_int).is (by rw [decide_eq_false hi']))) ?_)
    show PyData.bool false = PyData.bool (wholeIn t lo hi)
    have : wholeIn t lo hi = false := by
      cases t <;> first | rfl | (simp [typN] at htn; exact absurd htn.symm hi')
    rw [this]
def R_is_digit (ds : List PD) (d : PD) : Prop := ∃ (W : Wk) (t : PD), ds = [wkD W, t] ∧ (typN t).isSome = true ∧ d = .bool (wholeIn t 0 (W.ring - 1))
theorem f_is_digit {f : Addr} {fd : FuncData} {k : Nat} (F : FnP K "is_digit" s_is_digit f fd) (G : Dn P w K mg base k "is_whole" R_is_whole .c) : FnOk P w K mg base CX0 (k + 1) f fd ["work", "thing"] (spF K R_is_digit .c) := by
  refine fn_mk F c_is_digit _ _ (fun ds d h => by obtain ⟨W, t, rfl, _⟩ := h; rfl) fun cdv A outer s H E hr ds d h => ?_
  obtain ⟨W, t, rfl, ht, rfl⟩ := h
  exact dss_one (ds_ret (de_call G hr (da_c (de_v 1) (da_c de_int (da_c (de_sub (de_ixT (de_v 0).ke de_int (atI_nat (j := 0) rfl)) de_int) da_nil))) ⟨t, 0, _, rfl, ht, rfl⟩) rfl)
def givenB (W : Wk) (t : PD) : Bool := match t with
  | .tuple xs => decide ((xs.length : Int) = W.inputs) && xs.all fun x => wholeIn x 0 (W.ring - 1)
  | _ => false
/-- the kinds that are asked about -/
def Kn (t : PD) : Prop := (typN t).isSome = true ∧ ∀ xs, t = .tuple xs → xs.length ≤ 100000 ∧ ∀ x ∈ xs, (typN x).isSome = true
def R_is_given (ds : List PD) (d : PD) : Prop := ∃ (W : Wk) (t : PD), ds = [wkD W, t] ∧ Kn t ∧ d = .bool (givenB W t)
theorem f_is_given {f : Addr} {fd : FuncData} {k : Nat} (F : FnP K "is_given" s_is_given f fd) (G1 : Dn P w K mg base k "is_tuple_of" R_is_tuple_of .c) (G2 : Dn P w K mg base k "is_digit" R_is_digit .c) (ma : mg "all" = none) : FnOk P w K mg base CX0 (k + 1) f fd ["work", "thing"] (spF K R_is_given .c) := by
  refine fn_mk F c_is_given _ _ (fun ds d h => by obtain ⟨W, t, rfl, _⟩ := h; rfl) fun cdv A outer s H E hr ds d h => ?_
  obtain ⟨W, t, rfl, ⟨ht, hk⟩, rfl⟩ := h
  cases hb : tupB t (W.inputs : Int) with
  | false =>
    refine dss_one (ds_ret (de_andF ((de_call G1 hr (da_c (de_v 1) (da_c (de_ixT (de_v 0).ke de_int (atI_nat (j := 1) rfl)) da_nil)) ⟨t, _, rfl, ht, rfl⟩).is (by rw [hb]))) ?_)
    show PyData.bool false = PyData.bool (givenB W t)
    have : givenB W t = false := by
      cases t <;> first | rfl | (show (decide _ && _) = false; rw [show decide _ = false from hb]; rfl)
    rw [this]
  | true =>
    obtain ⟨xs, rfl⟩ : ∃ xs, t = .tuple xs := by
      cases t <;> first | exact ⟨_, rfl⟩ | cases hb
    obtain ⟨hl, hx⟩ := hk xs rfl
    refine dss_one (ds_ret (de_and (c1 := true) (c2 := (xs.map fun x => wholeIn x 0 (W.ring - 1)).all id) ((de_call G1 hr (da_c (de_v 1) (da_c (de_ixT (de_v 0).ke de_int (atI_nat (j := 1) rfl)) da_nil)) ⟨_, _, rfl, ht, rfl⟩).is (by rw [hb])) (fun _ => de_one (de_all ma rfl (de_lc (own := [(N_is_given.getD 2 "", 2)]) (rs := (xs.map fun x => wholeIn x 0 (W.ring - 1)).map .bool) ?_ c_is_given.nd (b_is_given (by decide +kernel))).ke))) ?_)
    · rw [List.map_map]
      refine dlc xs id _ ((di_tup (de_v 1)).is (by rw [List.map_id])) (fun x hm => ⟨[2], _, by simp, fun _ _ _ _ _ => ⟨dg_name 2 c_is_given.nd, ?_⟩⟩) hl
      exact de_call G2 hr (da_c (de_v 0) (da_c (de_v 2) da_nil)) ⟨W, x, rfl, hx x hm, rfl⟩
    · show PyData.bool (true && _) = PyData.bool (decide _ && _)
      rw [show decide ((xs.length : Int) = W.inputs) = true from hb, List.all_map]
      rfl
def R_need_given (ds : List PD) (d : PD) : Prop := ∃ (W : Wk) (t : PD), ds = [wkD W, t] ∧ Kn t ∧ givenB W t = true ∧ d = .bool true
theorem f_need_given {f : Addr} {fd : FuncData} {k : Nat} (F : FnP K "need_given" s_need_given f fd) (G : Dn P w K mg base k "is_given" R_is_given .c) : FnOk P w K mg base CX0 (k + 1) f fd ["work", "thing"] (spF K R_need_given .c) := by
  refine fn_mk F c_need_given _ _ (fun ds d h => by obtain ⟨W, t, rfl, _⟩ := h; rfl) fun cdv A outer s H E hr ds d h => ?_
  obtain ⟨W, t, rfl, hk, hb, rfl⟩ := h
  refine dss_cons _ (ds_if (c := false) ((dt_not (dt_val (de_call G hr (da_c (de_v 0) (da_c (de_v 1) da_nil)) ⟨W, t, rfl, hk, rfl⟩))).is (by rw [hb]; rfl)) (fun z => by cases z) (fun _ => dss_nil rfl)) ?_
  exact dss_one (ds_ret de_bl rfl)
def R_given_of (ds : List PD) (d : PD) : Prop := ∃ (p : Pt) (b : Bool) (row : List Nat) (ring : Nat), ds = [ptD p, seqD b row, nD ring] ∧ (∀ l ∈ p.lines, l < row.length) ∧ 2 ≤ ring ∧ (∀ x ∈ row, x < ring) ∧ d = nD (give ring p row)
theorem f_given_of {f : Addr} {fd : FuncData} {k : Nat} (F : FnP K "given_of" s_given_of f fd) : FnOk P w K mg base CX0 (k + 1) f fd ["part", "digits", "ring"] (spF K R_given_of .c) := by
  refine fn_mk F c_given_of _ _ (fun ds d h => by obtain ⟨p, b, row, ring, rfl, _⟩ := h; rfl) fun cdv A outer s H E hr ds d h => ?_
  obtain ⟨p, b, row, ring, rfl, hl, h2, hx, rfl⟩ := h
  refine dss_cons _ (ds_set 3 (de_ixT (de_v 0).ke de_int (atI_nat (j := 0) rfl)) rfl c_given_of.nd) ?_
  refine dss_cons _ (ds_setLc 4 (own := [(N_given_of.getD 5 "", 5)]) (dlc p.lines nD (fun l => nD (row.getD l 0)) ((di_tup (de_slT (de_v 0) (do_some de_int) do_none)).is (cut_tail _ _))
    (fun l hm => ⟨[5], _, by simp, fun _ _ _ _ _ => ⟨dg_name 5 c_given_of.nd, de_row (de_v 1).ke (de_v 5) (hl l hm)⟩⟩) (by cases p <;> simp [Pt.lines])) rfl c_given_of.nd (b_given_of (by decide +kernel))) ?_
  cases p with
  | sum x y =>
    refine dss_consN (fun _ => False) (ds_if (dt_eqT (de_v 3) de_str) (fun _ => dss_one (ds_ret (de_mod (de_add (de_ixL (de_vo 4) de_int (atI_nat (j := 0) rfl)) (de_ixL (de_vo 4) de_int (atI_nat (j := 1) rfl))) (de_v 2) (by omega)) rfl)) (fun h => nF (deq _) h)) (fun _ h => h.elim)
  | stop x y =>
    refine dss_cons _ (ds_if (dt_eqT (de_v 3) de_str) (fun h => nT w_stop_sum h) (fun h => dss_nil rfl)) ?_
    refine dss_consN (fun _ => False) (ds_if (dt_eqT (de_v 3) de_str) (fun _ => dss_one (ds_ret (d := nD (if row.getD y 0 = 0 then row.getD x 0 else 0)) (de_if (dt_eqI (de_ixL (de_vo 4) de_int (atI_nat (j := 1) rfl)) de_int) (fun h => ?_) (fun h => ?_)) rfl)) (fun h => nF (deq _) h)) (fun _ h => h.elim)
    · exact (de_ixL (de_vo 4) de_int (atI_nat (j := 0) rfl)).is (by rw [if_pos (Int.ofNat.inj (of_decide_eq_true h))])
    · exact de_int.is (by rw [if_neg (fun z => of_decide_eq_false h (congrArg Int.ofNat z))]; rfl)
  | pick x y z =>
    refine dss_cons _ (ds_if (dt_eqT (de_v 3) de_str) (fun h => nT w_pick_sum h) (fun h => dss_nil rfl)) ?_
    refine dss_cons _ (ds_if (dt_eqT (de_v 3) de_str) (fun h => nT w_pick_stop h) (fun h => dss_nil rfl)) ?_
    refine dss_consN (fun _ => False) (ds_if (dt_eqT (de_v 3) de_str) (fun _ => dss_one (ds_ret (d := nD (if row.getD x 0 = 0 then row.getD y 0 else row.getD z 0)) (de_if (dt_eqI (de_ixL (de_vo 4) de_int (atI_nat (j := 0) rfl)) de_int) (fun h => ?_) (fun h => ?_)) rfl)) (fun h => nF (deq _) h)) (fun _ h => h.elim)
    · exact (de_ixL (de_vo 4) de_int (atI_nat (j := 1) rfl)).is (by rw [if_pos (Int.ofNat.inj (of_decide_eq_true h))])
    · exact (de_ixL (de_vo 4) de_int (atI_nat (j := 2) rfl)).is (by rw [if_neg (fun z => of_decide_eq_false h (congrArg Int.ofNat z))])
  | not x =>
    refine dss_cons _ (ds_if (dt_eqT (de_v 3) de_str) (fun h => nT w_not_sum h) (fun h => dss_nil rfl)) ?_
    refine dss_cons _ (ds_if (dt_eqT (de_v 3) de_str) (fun h => nT w_not_stop h) (fun h => dss_nil rfl)) ?_
    refine dss_cons _ (ds_if (dt_eqT (de_v 3) de_str) (fun h => nT w_not_pick h) (fun h => dss_nil rfl)) ?_
    refine dss_one (ds_ret (de_sub (de_sub (de_v 2) de_int) (de_ixL (de_vo 4) de_int (atI_nat (j := 0) rfl))) ?_)
    have e := hl x (by simp [Pt.lines])
    have e2 := hx _ (List.getElem_mem e)
    have e3 : row.getD x 0 < ring := by rw [List.getD_eq_getElem?_getD, List.getElem?_eq_getElem e]; exact e2
    show PyData.int _ = PyData.int ((ring - 1 - row.getD x 0 : Nat) : Int)
    congr 1
    omega
def R_ran (ds : List PD) (d : PD) : Prop := ∃ (W : Wk) (g : List Nat) (told : List (Nat × Nat)), ds = [wkD W, rowT g, toldD told] ∧ W.Ok ∧ Row W.ring W.inputs g ∧ ToldOk W.ring told ∧ d = rowL (wrunW W told g)
theorem given_row {W : Wk} {g : List Nat} (hg : Row W.ring W.inputs g) (hW : W.Ok) : Kn (rowT g) ∧ givenB W (rowT g) = true := by
  refine ⟨⟨rfl, fun xs e => ?_⟩, ?_⟩
  · have e1 : g.map nD = xs := PyData.tuple.inj e
    subst e1
    refine ⟨by rw [List.length_map, hg.1]; have := hW.i6; omega, fun x hx => ?_⟩
    obtain ⟨y, _, rfl⟩ := List.mem_map.mp hx
    rfl
  · show (decide (((g.map nD).length : Int) = W.inputs) && (g.map nD).all fun x => wholeIn x 0 (W.ring - 1)) = true
    rw [List.length_map, hg.1, decide_eq_true rfl, Bool.true_and, List.all_eq_true]
    intro x hx
    obtain ⟨y, hy, rfl⟩ := List.mem_map.mp hx
    have := hg.2 y hy
    show (decide ((0 : Int) ≤ (y : Int)) && decide ((y : Int) ≤ (W.ring : Int) - 1)) = true
    rw [decide_eq_true (by omega), decide_eq_true (by omega)]
    rfl
def raE (W : Wk) (g : List Nat) (told : List (Nat × Nat)) (n : Nat) : En := [some (.v (wkD W)), some (.v (rowT g)), some (.v (toldD told)), some (.v (nD W.ring)), none, some (.v (.list (W.parts.map ptD))), some (.o (rowL (wrunN W told g n))), none, none]
theorem f_ran {f : Addr} {fd : FuncData} {k : Nat} (F : FnP K "ran" s_ran f fd) (G1 : Dn P w K mg base k "need_given" R_need_given .c) (G2 : Dn P w K mg base k "given_of" R_given_of .c) (ml : mg "list" = none) (me : mg "enumerate" = none) : FnOk P w K mg base CX0 (k + 1) f fd ["work", "given", "told"] (spF K R_ran .o) := by
  refine fn_mk F c_ran _ _ (fun ds d h => by obtain ⟨W, g, t, rfl, _⟩ := h; rfl) fun cdv A outer s H E hr ds d h => ?_
  obtain ⟨W, g, told, rfl, hW, hg, ht, rfl⟩ := h
  obtain ⟨kn, gb⟩ := given_row hg hW
  refine dss_cons _ (ds_expr (de_call G1 hr (da_c (de_v 0) (da_c (de_v 1) da_nil)) ⟨W, _, rfl, kn, gb, rfl⟩) rfl) ?_
  refine dss_cons _ (ds_asg (de_v 0) (dg_tup rfl (dgs_cons (dg_name 3 c_ran.nd) (dgs_cons (dg_name 4 c_ran.nd) (dgs_cons (dg_name 5 c_ran.nd) dgs_nil)))) rfl) ?_
  refine dss_cons _ (ds_setO 6 (de_listT ml (de_v 1).ke) rfl c_ran.nd) ?_
  refine dss_cons (raE W g told W.parts.length) (ds_for ((W.parts.map ptD).zipIdx) (fun p => .tuple [.int (p.2 : Nat), p.1]) (raE W g told) (di_enum me (de_v 5)) ⟨rfl, rfl, rfl, rfl, rfl, rfl, trivial⟩ ?_ ?_) ?_
  · intro i x hx
    rw [List.getElem?_zipIdx, List.getElem?_map] at hx
    cases q : W.parts[i]? with
    | none => rw [q] at hx; cases hx
    | some p =>
      rw [q] at hx
      have ex : (ptD p, i) = x := by
        have := Option.some.inj hx
        rw [← this, Nat.zero_add]
      subst ex
      have hi : i < W.parts.length := (List.getElem?_eq_some_iff.mp q).1
      have hrow := wrunN_row hW ht hg i
      have hget : W.parts.getD i (.not 0) = p := by rw [List.getD_eq_getElem?_getD, q]; rfl
      have fin : ∀ v, (getN told i).getD (give W.ring p (wrunN W told g i)) = v → Lee (raE W g told (i + 1)) [some (.v (wkD W)), some (.v (rowT g)), some (.v (toldD told)), some (.v (nD W.ring)), none, some (.v (.list (W.parts.map ptD))), some (.o (.list ((wrunN W told g i).map nD ++ [nD v]))), some (.v (nD i)), some (.v (ptD p))] := fun v e => by
        refine ⟨rfl, rfl, rfl, rfl, rfl, ?_, trivial⟩
        show some (Sl.o (PyData.list _)) = some (Sl.o (PyData.list ((wrunN W told g (i + 1)).map nD)))
        rw [wrunN_succ, hget, e, List.map_append]
        rfl
      refine ⟨_, _, dg_tup rfl (dgs_cons (dg_name 7 c_ran.nd) (dgs_cons (dg_name 8 c_ran.nd) dgs_nil)), ?_⟩
      have hlen : ((wrunN W told g i).map nD).length < 100000 := by
        rw [List.length_map, hrow.1]
        have := hW.i6
        have := hW.p10
        omega
      refine dss_one (ds_if (dt_din (y := .inl (i : Int)) hr (de_v 7) (de_v 2).ke) (fun h => ?_) (fun h => ?_))
      · rw [valD_told, Option.isSome_map] at h
        obtain ⟨v, hv⟩ := Option.isSome_iff_exists.mp h
        refine dss_one (ds_append 6 rfl (d := nD v) (de_dget (y := .inl (i : Int)) hr (de_v 2).ke (de_v 7) (by rw [valD_told, hv]; rfl)) hlen (fin v (by rw [hv]; rfl)))
      · rw [valD_told, Option.isSome_map] at h
        have hv : getN told i = none := by
          cases e : getN told i with
          | none => rfl
          | some v => rw [e] at h; cases h
        refine dss_one (ds_append 6 rfl (d := nD (give W.ring p (wrunN W told g i))) ((de_callT G2 hr (da_t (de_v 8) (da_t (de_vo 6) (da_t (de_v 3) da_nil))) ⟨p, true, wrunN W told g i, W.ring, rfl, ?_, hW.r2, hrow.2, rfl⟩).scal rfl) hlen (fin _ (by rw [hv]; rfl)))
        intro l hl
        rw [hrow.1]
        exact hW.lines i p q l hl
  · show raE W g told ((W.parts.map ptD).zipIdx).length = _
    rw [List.length_zipIdx, List.length_map]
  exact dss_one (ds_retO 6 rfl rfl rfl)
def R__law_whole (ds : List PD) (d : PD) : Prop := ∃ n : Int, ds = [.int n] ∧ d = .bool true
theorem f__law_whole {f : Addr} {fd : FuncData} {k : Nat} (F : FnP K "_law_whole" s__law_whole f fd) (mI : mg "isinstance" = none) (mi : mg "int" = none) (mb : mg "bool" = none) : FnOk P w K mg base CX0 (k + 1) f fd ["_law_thing"] (spF K R__law_whole .c) := by
  refine fn_mk F c__law_whole _ _ (fun ds d h => by obtain ⟨n, rfl, _⟩ := h; rfl) fun cdv A outer s H E hr ds d h => ?_
  obtain ⟨n, rfl, rfl⟩ := h
  exact dss_one (ds_ret (de_and (de_isi mI mi (de_v 0) rfl kit_ii boot_int) (fun _ => de_one (de_not (de_isi mI mb (de_v 0) rfl kit_ib boot_bool)))) rfl)
def R__law_due (ds : List PD) (d : PD) : Prop := ∃ (p : Pt) (b : Bool) (row : List Nat) (ring : Nat), ds = [ptD p, seqD b row, nD ring] ∧ (∀ l ∈ p.lines, l < row.length) ∧ 2 ≤ ring ∧ (∀ x ∈ row, x < ring) ∧ d = nD (give ring p row)
theorem f__law_due {f : Addr} {fd : FuncData} {k : Nat} (F : FnP K "_law_due" s__law_due f fd) (mi : mg "int" = none) : FnOk P w K mg base CX0 (k + 1) f fd (N__law_due.take 3) (spF K R__law_due .c) := by
  refine fn_mk F c__law_due _ _ (fun ds d h => by obtain ⟨p, b, row, ring, rfl, _⟩ := h; rfl) fun cdv A outer s H E hr ds d h => ?_
  obtain ⟨p, b, row, ring, rfl, hl, h2, hx, rfl⟩ := h
  have hg : ∀ l ∈ p.lines, row.getD l 0 < ring := fun l hm => by
    rw [List.getD_eq_getElem?_getD, List.getElem?_eq_getElem (hl l hm)]
    exact hx _ (List.getElem_mem _)
  cases p with
  | sum x y =>
    refine dss_cons _ (ds_set 3 (de_row (de_v 1).ke (de_ixT (de_v 0).ke de_int (atI_nat (j := 1) rfl)) (hl x (by simp [Pt.lines]))) rfl c__law_due.nd) ?_
    refine dss_cons _ (ds_if (dt_eqT (de_ixT (de_v 0).ke de_int (atI_nat (j := 0) rfl)) de_str) (fun h => nT w_sum_not h) (fun h => dss_nil rfl)) ?_
    refine dss_consN (fun _ => False) (ds_if (dt_eqT (de_ixT (de_v 0).ke de_int (atI_nat (j := 0) rfl)) de_str) (fun _ => dss_one (ds_ret (de_mod (de_add (de_v 3) (de_row (de_v 1).ke (de_ixT (de_v 0).ke de_int (atI_nat (j := 2) rfl)) (hl y (by simp [Pt.lines])))) (de_v 2) (by omega)) rfl)) (fun h => nF (deq _) h)) (fun _ h => h.elim)
  | stop x y =>
    refine dss_cons _ (ds_set 3 (de_row (de_v 1).ke (de_ixT (de_v 0).ke de_int (atI_nat (j := 1) rfl)) (hl x (by simp [Pt.lines]))) rfl c__law_due.nd) ?_
    refine dss_cons _ (ds_if (dt_eqT (de_ixT (de_v 0).ke de_int (atI_nat (j := 0) rfl)) de_str) (fun h => nT w_stop_not h) (fun h => dss_nil rfl)) ?_
    refine dss_cons _ (ds_if (dt_eqT (de_ixT (de_v 0).ke de_int (atI_nat (j := 0) rfl)) de_str) (fun h => nT w_stop_sum h) (fun h => dss_nil rfl)) ?_
    refine dss_consN (fun _ => False) (ds_if (dt_eqT (de_ixT (de_v 0).ke de_int (atI_nat (j := 0) rfl)) de_str) (fun _ => dss_one (ds_ret (de_mul (de_v 3) (de_intB mi (de_eqI (de_row (de_v 1).ke (de_ixT (de_v 0).ke de_int (atI_nat (j := 2) rfl)) (hl y (by simp [Pt.lines]))) de_int)) ?_) ?_)) (fun h => nF (deq _) h)) (fun _ h => h.elim)
    · right
      split <;> constructor <;> decide
    · show PyData.int _ = nD (if row.getD y 0 = 0 then row.getD x 0 else 0)
      unfold nD
      congr 1
      by_cases h0 : row.getD y 0 = 0
      · rw [h0]; simp
      · have h1 : ¬ ((row.getD y 0 : Nat) : Int) = 0 := by omega
        rw [decide_eq_false h1, if_neg h0]; simp
  | pick x y z =>
    refine dss_cons _ (ds_set 3 (de_row (de_v 1).ke (de_ixT (de_v 0).ke de_int (atI_nat (j := 1) rfl)) (hl x (by simp [Pt.lines]))) rfl c__law_due.nd) ?_
    refine dss_cons _ (ds_if (dt_eqT (de_ixT (de_v 0).ke de_int (atI_nat (j := 0) rfl)) de_str) (fun h => nT w_pick_not h) (fun h => dss_nil rfl)) ?_
    refine dss_cons _ (ds_if (dt_eqT (de_ixT (de_v 0).ke de_int (atI_nat (j := 0) rfl)) de_str) (fun h => nT w_pick_sum h) (fun h => dss_nil rfl)) ?_
    refine dss_cons _ (ds_if (dt_eqT (de_ixT (de_v 0).ke de_int (atI_nat (j := 0) rfl)) de_str) (fun h => nT w_pick_stop h) (fun h => dss_nil rfl)) ?_
    refine dss_consN (fun en => row.getD x 0 ≠ 0 ∧ en = _) (ds_if (dt_eqI (de_v 3) de_int) (fun h => dss_one (ds_ret (de_row (de_v 1).ke (de_ixT (de_v 0).ke de_int (atI_nat (j := 2) rfl)) (hl y (by simp [Pt.lines]))) ?_)) (fun h => dss_nil ⟨fun z => of_decide_eq_false h (congrArg Int.ofNat z), rfl⟩)) (fun en' h => ?_)
    · show nD _ = nD (if row.getD x 0 = 0 then row.getD y 0 else row.getD z 0)
      rw [if_pos (Int.ofNat.inj (of_decide_eq_true h))]
    · obtain ⟨h, rfl⟩ := h
      refine dss_one (ds_ret (de_row (de_v 1).ke (de_ixT (de_v 0).ke de_int (atI_nat (j := 3) rfl)) (hl z (by simp [Pt.lines]))) ?_)
      show nD _ = nD (if row.getD x 0 = 0 then row.getD y 0 else row.getD z 0)
      rw [if_neg h]
  | not x =>
    refine dss_cons _ (ds_set 3 (de_row (de_v 1).ke (de_ixT (de_v 0).ke de_int (atI_nat (j := 1) rfl)) (hl x (by simp [Pt.lines]))) rfl c__law_due.nd) ?_
    refine dss_consN (fun _ => False) (ds_if (dt_eqT (de_ixT (de_v 0).ke de_int (atI_nat (j := 0) rfl)) de_str) (fun _ => dss_one (ds_ret (de_sub (de_sub (de_v 2) de_int) (de_v 3)) ?_)) (fun h => nF (deq _) h)) (fun _ h => h.elim)
    have e3 := hg x (by simp [Pt.lines])
    show PyData.int _ = PyData.int ((ring - 1 - row.getD x 0 : Nat) : Int)
    congr 1
    omega
def givN (ring inputs cell : Nat) : List Nat := (List.range inputs).map fun k => cell / [1, 5, 25, 125, 625, 3125].getD k 1 % ring
theorem givN_row {ring inputs : Nat} (cell : Nat) (h : 2 ≤ ring) : Row ring inputs (givN ring inputs cell) :=
  ⟨by unfold givN; rw [List.length_map, List.length_range], fun x hx => by
    obtain ⟨k, _, rfl⟩ := List.mem_map.mp hx
    exact Nat.mod_lt _ (by omega)⟩
theorem giv_div (k : Nat) (h : k < 6) : atI [PyData.int 1, PyData.int 5, PyData.int 25, PyData.int 125, PyData.int 625, PyData.int 3125] (k : Int) = some (nD ([1, 5, 25, 125, 625, 3125].getD k 1)) ∧ 0 < [1, 5, 25, 125, 625, 3125].getD k 1 ∧ [1, 5, 25, 125, 625, 3125].getD k 1 < 1073741824 := by
  match k, h with
  | 0, _ => exact ⟨rfl, by decide, by decide⟩
  | 1, _ => exact ⟨rfl, by decide, by decide⟩
  | 2, _ => exact ⟨rfl, by decide, by decide⟩
  | 3, _ => exact ⟨rfl, by decide, by decide⟩
  | 4, _ => exact ⟨rfl, by decide, by decide⟩
  | 5, _ => exact ⟨rfl, by decide, by decide⟩
def tolC (ns : List Int) (W : Wk) : Nat → List (Nat × Nat)
  | 0 => []
  | n + 1 => putN (tolC ns W n) (mix ns (22 + n) % W.parts.length) (mix ns (25 + n) % W.ring)
theorem tolC_ok (ns : List Int) {W : Wk} (hW : W.Ok) : ∀ n, ToldOk W.ring (tolC ns W n) ∧ ((tolC ns W n).map (·.1)).Nodup ∧ (tolC ns W n).length ≤ n
  | 0 => ⟨(fun _ h => by cases h), List.nodup_nil, Nat.le_refl _⟩
  | n + 1 => by
    obtain ⟨h1, h2, h3⟩ := tolC_ok ns hW n
    have hr := hW.r2
    refine ⟨putN_ok h1 (Nat.mod_lt _ (by omega)), putN_nd h2, ?_⟩
    have := putN_len (tolC ns W n) (mix ns (22 + n) % W.parts.length) (mix ns (25 + n) % W.ring)
    show (putN _ _ _).length ≤ n + 1
    omega
def R_law (ds : List PD) (d : PD) : Prop := ∃ ns : List Int, ds = [scr ns] ∧ d = .bool true
def WC (ns : List Int) : Wk := workOf ns 10
def gC (ns : List Int) : List Nat := givN (WC ns).ring (WC ns).inputs (mix ns 20)
def tC3 (ns : List Int) : List (Nat × Nat) := tolC ns (WC ns) (mix ns 21 % 4)
def lE (ns : List Int) (n : Nat) : En := [some (.v (scr ns)), some (.v (wkD (WC ns))), some (.o (.list ((WC ns).parts.map ptD))), some (.v (rowT (gC ns))), some (.o (toldD (tolC ns (WC ns) n))), none, none, none, none, none, none, none]
def lE2 (ns : List Int) : En := [some (.v (scr ns)), some (.v (wkD (WC ns))), some (.o (.list ((WC ns).parts.map ptD))), some (.v (rowT (gC ns))), some (.o (toldD (tC3 ns))), none, some (.v (toldD (tC3 ns))), some (.o (rowL (wrunW (WC ns) (tC3 ns) (gC ns)))), none, none, none, none]
theorem f_law {f : Addr} {fd : FuncData} {k : Nat} (F : FnP K "law" s_law f fd) (Gm : Dn P w K mg base k "_law_mixed" R__law_mixed .c) (Gk : Dn P w K mg base k "_law_work" R__law_work .c) (Gr : Dn P w K mg base k "ran" R_ran .o) (Gw : Dn P w K mg base k "_law_whole" R__law_whole .c) (Gd : Dn P w K mg base k "_law_due" R__law_due .c)
    (mr : mg "range" = none) (mt : mg "tuple" = none) (ml : mg "list" = none) (mn : mg "len" = none) (md : mg "dict" = none) (mi : mg "isinstance" = none) (mm : mg "min" = none) : FnOk P w K mg base CX0 (k + 1) f fd (N_law.take 1) (spF K R_law .c) := by
  refine fn_mk F c_law _ _ (fun ds d h => by obtain ⟨ns, rfl, _⟩ := h; rfl) fun cdv A outer s H E hr ds d h => ?_
  obtain ⟨ns, rfl, rfl⟩ := h
  have hW : (WC ns).Ok := workOf_ok ns (by decide) (by decide)
  have b1 := hW.r2
  have b2 := hW.r5
  have b3 := hW.i1
  have b4 := hW.i6
  have b5 := hW.p1
  have b6 := hW.p10
  have hg : Row (WC ns).ring (WC ns).inputs (gC ns) := givN_row _ b1
  obtain ⟨ht, hnd, htl⟩ := tolC_ok ns hW (mix ns 21 % 4)
  have hrow := wrunW_row hW ht hg
  refine dss_cons _ (ds_set 1 (de_call Gk hr (da_c (de_v 0) (da_c de_int da_nil)) ⟨ns, 10, rfl, by decide, by decide, rfl⟩) rfl c_law.nd) ?_
  refine dss_cons _ (ds_setO 2 (de_listL ml (de_ixT (de_v 1).ke de_int (atI_nat (j := 2) rfl)).ke) rfl c_law.nd) ?_
  refine dss_cons _ (ds_set 3 (d := rowT (gC ns)) ((de_tupL mt (de_lc (own := [(N_law.getD 5 "", 5)]) (rs := (gC ns).map nD) ?_ c_law.nd (b_law (by decide +kernel))).ke).is rfl) rfl c_law.nd) ?_
  · refine (dlc (List.range (WC ns).inputs) nD (fun j => nD (mix ns 20 / [1, 5, 25, 125, 625, 3125].getD j 1 % (WC ns).ring)) (di_rangeN (n := (WC ns).inputs) mr (de_ixT (de_v 1).ke de_int (atI_nat (j := 1) rfl)) (by omega)) (fun j hj => ⟨[5], _, by simp, fun _ _ _ _ _ => ⟨dg_name 5 c_law.nd, ?_⟩⟩) (by rw [List.length_range]; omega)).is ?_
    · have hj' := List.mem_range.mp hj
      obtain ⟨q1, q2, q3⟩ := giv_div j (by omega)
      exact (de_mod (de_div (de_call Gm hr (da_c (de_v 0) (da_c de_int da_nil)) ⟨ns, 20, rfl, by decide, rfl⟩) (de_ixL (de_lst (da_c de_int (da_c de_int (da_c de_int (da_c de_int (da_c de_int (da_c de_int da_nil)))))) (by decide)).ke (de_v 5) q1) ⟨by omega, by omega⟩) (de_ixT (de_v 1).ke de_int (atI_nat (j := 0) rfl)) (by show (0 : Int) < ((WC ns).ring : Int); omega)).is rfl
    · unfold gC givN
      rw [List.map_map]
      rfl
  refine dss_cons _ (ds_setO 4 de_dnew rfl c_law.nd) ?_
  refine dss_cons (lE ns (mix ns 21 % 4)) (ds_for (List.range (mix ns 21 % 4)) nD (lE ns) (di_rangeN (n := mix ns 21 % 4) mr ((de_mod (de_call Gm hr (da_c (de_v 0) (da_c de_int da_nil)) ⟨ns, 21, rfl, by decide, rfl⟩) de_int (by decide)).is rfl) (by omega)) ⟨rfl, rfl, rfl, rfl, rfl, trivial⟩ ?_ ?_) ?_
  · intro i x hx
    have hi : i < mix ns 21 % 4 := by have := (List.getElem?_eq_some_iff.mp hx).1; rwa [List.length_range] at this
    rw [List.getElem?_range hi] at hx
    cases hx
    obtain ⟨_, _, hti⟩ := tolC_ok ns hW i
    refine ⟨_, _, dg_name 5 c_law.nd, ?_⟩
    refine dss_one (ds_dput (kb := .c) (y := .inl ((mix ns (22 + i) % (WC ns).parts.length : Nat) : Int)) (kvs := (tolC ns (WC ns) i).map tK) (d := nD (mix ns (25 + i) % (WC ns).ring)) 4 hr rfl ?_ ?_ ?_ ?_)
    · refine (de_mod (de_call Gm hr (da_c (de_v 0) (da_c (de_add de_int (de_v 5)) da_nil)) ⟨ns, 22 + i, rfl, by omega, rfl⟩) (de_lenL mn (de_ixT (de_v 1).ke de_int (atI_nat (j := 2) rfl)).ke) ?_).is ?_
      · rw [List.length_map]; omega
      · rw [List.length_map]; rfl
    · exact (de_mod (de_call Gm hr (da_c (de_v 0) (da_c (de_add de_int (de_v 5)) da_nil)) ⟨ns, 25 + i, rfl, by omega, rfl⟩) (de_ixT (de_v 1).ke de_int (atI_nat (j := 0) rfl)) (by show (0 : Int) < ((WC ns).ring : Int); omega)).is rfl
    · rw [List.length_map]; omega
    · refine ⟨rfl, rfl, rfl, rfl, ?_, trivial⟩
      rw [putN_D]
      rfl
  · show lE ns (List.range (mix ns 21 % 4)).length = _
    rw [List.length_range]
  refine dss_cons _ (ds_setO 6 (de_dictD md (de_vo 4)) rfl c_law.nd) ?_
  refine DSs.freeze (i := 6) ?_
  refine dss_cons (lE2 ns) (ds_setO 7 (de_call Gr hr (da_c (de_v 1) (da_c (de_v 3) (da_c (de_v 6) da_nil))) ⟨WC ns, gC ns, tC3 ns, rfl, hW, hg, ht, rfl⟩) rfl c_law.nd) ?_
  have hlen : (wrunW (WC ns) (tC3 ns) (gC ns)).length = (WC ns).inputs + (WC ns).parts.length := hrow.1
  -- the kind and the length
  refine dss_cons _ (ds_if (c := false) ((DW.dt (dw_or (dt_not (dt_val (de_isi mi ml (de_vo 7) rfl kit_ll boot_list))) (fun _ => dw_or1 (dt_neI (de_lenL mn (de_vo 7)) (de_add (de_ixT (de_v 1).ke de_int (atI_nat (j := 1) rfl)) (de_lenL mn (de_ixT (de_v 1).ke de_int (atI_nat (j := 2) rfl)).ke)))))).is ?_) (fun z => by cases z) (fun _ => dss_nil rfl)) ?_
  · rw [List.length_map, List.length_map, hlen, decide_eq_true (by omega)]
    rfl
  -- line by line
  refine dss_cons (lE2 ns) (ds_for (List.range ((WC ns).inputs + (WC ns).parts.length)) nD (fun _ => lE2 ns) (di_rangeN (n := (WC ns).inputs + (WC ns).parts.length) mr ((de_lenL mn (de_vo 7)).is (by rw [List.length_map, hlen])) (by omega)) (Lee.refl _) ?_ rfl) ?_
  · intro i x hx
    have hi : i < (WC ns).inputs + (WC ns).parts.length := by have := (List.getElem?_eq_some_iff.mp hx).1; rwa [List.length_range] at this
    rw [List.getElem?_range hi] at hx
    cases hx
    refine ⟨_, _, dg_name 8 c_law.nd, ?_⟩
    have hmin : (if ((WC ns).inputs : Int) < (i : Int) then ((WC ns).inputs : Int) else (i : Int)) = ((min i (WC ns).inputs : Nat) : Int) := by split <;> omega
    have hat : atI ((gC ns).map nD ++ [nD 0]) ((min i (WC ns).inputs : Nat) : Int) = some (nD (if i < (WC ns).inputs then (gC ns).getD i 0 else 0)) := by
      refine atI_nat ?_
      by_cases h : i < (WC ns).inputs
      · rw [if_pos h, Nat.min_eq_left (by omega), List.getElem?_append_left (by rw [List.length_map, hg.1]; exact h), List.getElem?_map, List.getElem?_eq_getElem (by rw [hg.1]; exact h), List.getD_eq_getElem?_getD, List.getElem?_eq_getElem (by rw [hg.1]; exact h)]
        rfl
      · rw [if_neg h, Nat.min_eq_right (by omega), List.getElem?_append_right (by rw [List.length_map, hg.1]; omega), List.length_map, hg.1, Nat.sub_self]
        rfl
    refine dss_cons _ (ds_set 9 (de_ixT (de_catT (de_v 3) (de_tup (da_c de_int da_nil) (by simp)) ?_ (by simp) ?_).ke ((de_min2 mm rfl (de_v 8) (de_ixT (de_v 1).ke de_int (atI_nat (j := 1) rfl))).is (by rw [hmin])) hat) rfl c_law.nd) ?_
    · intro z
      have := congrArg List.length z
      rw [List.length_map, hg.1] at this
      simp at this
      omega
    · rw [List.length_map, hg.1]
      show (WC ns).inputs + 1 ≤ 100000
      omega
    -- what it should be
    have hdue : ∃ v, v = (wrunW (WC ns) (tC3 ns) (gC ns)).getD i 0 := ⟨_, rfl⟩
    obtain ⟨v, hv⟩ := hdue
    refine dss_cons ((lE2 ns).set 8 (some (.v (nD i))) |>.set 9 (some (.v (nD v)))) (ds_if (dt_ge (de_v 8) (de_ixT (de_v 1).ke de_int (atI_nat (j := 1) rfl))) (fun h => ?_) (fun h => ?_)) ?_
    · have h0 : (WC ns).inputs ≤ i := by have := of_decide_eq_true h; omega
      obtain ⟨j, rfl⟩ : ∃ j, i = (WC ns).inputs + j := ⟨i - (WC ns).inputs, by omega⟩
      have hj : j < (WC ns).parts.length := by omega
      have hp : (WC ns).parts[j]? = some ((WC ns).parts.getD j (.not 0)) := by rw [List.getD_eq_getElem?_getD, List.getElem?_eq_getElem hj]; rfl
      have hpart : atI ((WC ns).parts.map ptD) (j : Int) = some (ptD ((WC ns).parts.getD j (.not 0))) := atI_nat (by rw [List.getElem?_map, hp]; rfl)
      have hsub : PyData.int (((((WC ns).inputs + j : Nat) : Int)) - ((WC ns).inputs : Int)) = nD j := by unfold nD; congr 1; omega
      refine dss_one (ds_set 9 (d := nD v) ((de_dget2 (y := .inl (j : Int)) (kvs := (tC3 ns).map tK) hr (de_vo 4) ((de_sub (de_v 8) (de_ixT (de_v 1).ke de_int (atI_nat (j := 1) rfl))).is hsub) ((de_callT Gd hr (da_t (de_ixL (de_ixT (de_v 1).ke de_int (atI_nat (j := 2) rfl)).ke ((de_sub (de_v 8) (de_ixT (de_v 1).ke de_int (atI_nat (j := 1) rfl))).is hsub) hpart) (da_t (de_vo 7) (da_t (de_ixT (de_v 1).ke de_int (atI_nat (j := 0) rfl)) da_nil))) ⟨(WC ns).parts.getD j (.not 0), true, wrunW (WC ns) (tC3 ns) (gC ns), (WC ns).ring, rfl, ?_, b1, hrow.2, rfl⟩).scal rfl)).is ?_) rfl c_law.nd)
      · have e := valD_told (told := tC3 ns) (k := j)
        have e2 := wrunW_at hW ht hg hj
        show (valD ((tC3 ns).map tK) (.inl (j : Int))).getD _ = _
        rw [show valD ((tC3 ns).map tK) (.inl (j : Int)) = (getN (tC3 ns) j).map nD from e, hv, show (wrunW (WC ns) (tC3 ns) (gC ns)).getD ((WC ns).inputs + j) 0 = _ from e2]
        unfold tC3
        cases getN (tolC ns (WC ns) (mix ns 21 % 4)) j <;> rfl
      · intro l hl
        have := hW.lines j _ hp l hl
        omega
    · have h0 : i < (WC ns).inputs := by have := of_decide_eq_false h; omega
      refine dss_nil ?_
      have e := wrunW_in hW ht hg h0
      rw [if_pos h0, ← e, hv]
      rfl
    refine dss_one (ds_if (c := false) ((DW.dt (dw_or (dt_not (dt_val (de_call Gw hr (da_c (de_ixL (de_vo 7) (de_v 8) (atI_row (by omega))) da_nil) ⟨_, rfl, rfl⟩))) (fun _ => dw_or1 (dt_neI (de_ixL (de_vo 7) (de_v 8) (atI_row (by omega))) (de_v 9))))).is ?_) (fun z => by cases z) (fun _ => dss_nil ?_))
    · rw [hv, decide_eq_true rfl]
      rfl
    · exact ⟨rfl, rfl, rfl, rfl, rfl, rfl, rfl, trivial⟩
  refine dss_cons _ (ds_setO 10 (de_listL ml (de_vo 7)) rfl c_law.nd) ?_
  refine dss_cons _ (ds_setO 11 (de_call Gr hr (da_c (de_v 1) (da_c (de_v 3) (da_c de_dnew.kc da_nil))) ⟨WC ns, gC ns, [], rfl, hW, hg, (fun _ h => by cases h), rfl⟩) rfl c_law.nd) ?_
  refine dss_cons _ (ds_append 7 rfl de_int (by rw [List.length_map, hlen]; omega) rfl) ?_
  have pw : Pl 2 (.list ((WC ns).parts.map ptD)) := pl_list fun d hd => by
    obtain ⟨p, _, rfl⟩ := List.mem_map.mp hd
    exact pl_pt p
  refine dss_cons _ (ds_if (c := false) ((DW.dt (dw_or (dt_ne hr (de_call Gr hr (da_c (de_v 1) (da_c (de_v 3) (da_c (de_v 6) da_nil))) ⟨WC ns, gC ns, tC3 ns, rfl, hW, hg, ht, rfl⟩) (de_vo 10) ((pl_rowL _).shaped (by decide)) ((pl_rowL _).shaped (by decide))) (fun _ => dw_or (dt_neTold hr hnd (de_v 6).ke (de_vo 4)) (fun _ => dw_or1 (dt_ne hr (de_ixT (de_v 1).ke de_int (atI_nat (j := 2) rfl)) (de_vo 2) (pw.shaped (by decide)) (pw.shaped (by decide))))))).is ?_) (fun z => by cases z) (fun _ => dss_nil rfl)) ?_
  · rw [(pl_rowL _).refl, pw.refl]
    rfl
  have pl1 : Pl 1 (.list ((wrunW (WC ns) (tC3 ns) (gC ns)).map nD ++ [PyData.int 0])) := pl_list fun d hd => by
    rcases List.mem_append.mp hd with h | h
    · obtain ⟨x, _, rfl⟩ := List.mem_map.mp h
      exact pl_int 0 _
    · rw [List.mem_singleton.mp h]; exact pl_int 0 _
  refine dss_one (ds_ret (de_and (de_eq hr (de_vo 7) (de_cat (de_vo 10) (de_lst (da_c de_int da_nil) (by simp)) ?_) (pl1.shaped (by decide)) (pl1.shaped (by decide))) (fun _ => de_one (de_eq hr (de_call Gr hr (da_c (de_v 1) (da_c (de_v 3) (da_c de_dnew.kc da_nil))) ⟨WC ns, gC ns, [], rfl, hW, hg, (fun _ h => by cases h), rfl⟩) (de_vo 11) ((pl_rowL _).shaped (by decide)) ((pl_rowL _).shaped (by decide))))) ?_)
  · rw [List.length_map, hlen]
    show (WC ns).inputs + (WC ns).parts.length + 1 ≤ 100000
    omega
  · show PyData.bool _ = PyData.bool true
    rw [pl1.refl, (pl_rowL _).refl]
    rfl
end
def d__law_cell : He.DefD := ⟨("_law_cell", none), "_law_cell", "_law_cell", defArgs s__law_cell, defBody s__law_cell, defScope s__law_cell, [], []⟩
def d__law_mixed : He.DefD := ⟨("_law_mixed", none), "_law_mixed", "_law_mixed", defArgs s__law_mixed, defBody s__law_mixed, defScope s__law_mixed, [], []⟩
def d__law_part : He.DefD := ⟨("_law_part", none), "_law_part", "_law_part", defArgs s__law_part, defBody s__law_part, defScope s__law_part, [], []⟩
def d__law_work : He.DefD := ⟨("_law_work", none), "_law_work", "_law_work", defArgs s__law_work, defBody s__law_work, defScope s__law_work, [], []⟩
def d_is_tuple_of : He.DefD := ⟨("is_tuple_of", none), "is_tuple_of", "is_tuple_of", defArgs s_is_tuple_of, defBody s_is_tuple_of, defScope s_is_tuple_of, [], []⟩
def d_is_whole : He.DefD := ⟨("is_whole", none), "is_whole", "is_whole", defArgs s_is_whole, defBody s_is_whole, defScope s_is_whole, [], []⟩
def d_is_digit : He.DefD := ⟨("is_digit", none), "is_digit", "is_digit", defArgs s_is_digit, defBody s_is_digit, defScope s_is_digit, [], []⟩
def d_is_given : He.DefD := ⟨("is_given", none), "is_given", "is_given", defArgs s_is_given, defBody s_is_given, defScope s_is_given, [], []⟩
def d_need_given : He.DefD := ⟨("need_given", none), "need_given", "need_given", defArgs s_need_given, defBody s_need_given, defScope s_need_given, [], []⟩
def d_given_of : He.DefD := ⟨("given_of", none), "given_of", "given_of", defArgs s_given_of, defBody s_given_of, defScope s_given_of, [], []⟩
def d_ran : He.DefD := ⟨("ran", none), "ran", "ran", defArgs s_ran, defBody s_ran, defScope s_ran, [], []⟩
def d__law_whole : He.DefD := ⟨("_law_whole", none), "_law_whole", "_law_whole", defArgs s__law_whole, defBody s__law_whole, defScope s__law_whole, [], []⟩
def d__law_due : He.DefD := ⟨("_law_due", none), "_law_due", "_law_due", defArgs s__law_due, defBody s__law_due, defScope s__law_due, [], []⟩
def d_law : He.DefD := ⟨("law", none), "law", "law", defArgs s_law, defBody s_law, defScope s_law, [], []⟩
def fnL : List He.DefD := [d__law_cell, d__law_mixed, d__law_part, d__law_work, d_is_tuple_of, d_is_whole, d_is_digit, d_is_given, d_need_given, d_given_of, d_ran, d__law_whole, d__law_due, d_law]
def faL : List He.Fa := [.glo "_law_cell", .glo "_law_mixed", .glo "_law_part", .glo "_law_work", .glo "is_tuple_of", .glo "is_whole", .glo "is_digit", .glo "is_given", .glo "need_given", .glo "given_of", .glo "ran", .glo "_law_whole", .glo "_law_due", .glo "law", .free "range", .free "tuple", .free "min", .free "type", .free "len", .free "int", .free "all", .free "list", .free "enumerate", .free "isinstance", .free "bool", .free "dict"]
def loose : List PySem.Str := ["WorkError", "BadGiven", "is_whole", "is_tuple_of", "is_digit", "is_given", "need_given", "given_of", "ran", "_law_cell", "_law_mixed", "_law_whole", "_law_part", "_law_work", "_law_due"]
abbrev R : PySem.W.OpenRow := PySem.W.OpenLaw.row PySem.Challenge.rw_whichbroke_k03_a_work_run
abbrev hk : PySem.W.Hook := He.hookD 4 faL fnL
def ob (s : PySem.W.SharedT) : He.AlD := He.obsDG 4 faL fnL (HandSHeadRun.getT s)
theorem ob_eq (s : PySem.W.SharedT) : ob s = hk.obs s.abs := He.obsDG_eq (HandSHeadRun.getT_eq s)
theorem run (w : World) : HandSHeadRun.RunEq R (PySem.W.view R.prog [19]) hk ob 6000 loose w := by
  intro os
  kernel_rfl
def spLaw (K : PySem.W.Frag) : Sp := fun vs H Q _ => ∃ (a : Addr) (ns : List Int), vs = [.ref a] ∧ SqL K H a (ns.map V.int) ∧ ns.length ≤ 63 ∧ ∀ H', Q (.bl true) H'
theorem facts {P : Program} {w : World} {K : PySem.W.Frag} {h : Heap} {mg : Str → Option Value} {f : Addr} (X : K.In h) (G : h.Ns mainGlobals mg) (hfa : mg ("law" : Str) = some (.ref f)) (c : He.SaysD faL fnL K) :
    ∃ fd : FuncData, (∀ (s : Shared) (v : Value), BindsTo s fd ⟨[v], []⟩ [("_law_script", v)]) ∧ ∀ base : Heap, K.In base → base.Ns mainGlobals mg → FnOk P w K mg base CX0 6 f fd ["_law_script"] (spLaw K) := by
  obtain ⟨fd__law_cell, F__law_cell⟩ := c.def_ 0 (d := d__law_cell) rfl
  obtain ⟨fd__law_mixed, F__law_mixed⟩ := c.def_ 1 (d := d__law_mixed) rfl
  obtain ⟨fd__law_part, F__law_part⟩ := c.def_ 2 (d := d__law_part) rfl
  obtain ⟨fd__law_work, F__law_work⟩ := c.def_ 3 (d := d__law_work) rfl
  obtain ⟨fd_is_tuple_of, F_is_tuple_of⟩ := c.def_ 4 (d := d_is_tuple_of) rfl
  obtain ⟨fd_is_whole, F_is_whole⟩ := c.def_ 5 (d := d_is_whole) rfl
  obtain ⟨fd_is_digit, F_is_digit⟩ := c.def_ 6 (d := d_is_digit) rfl
  obtain ⟨fd_is_given, F_is_given⟩ := c.def_ 7 (d := d_is_given) rfl
  obtain ⟨fd_need_given, F_need_given⟩ := c.def_ 8 (d := d_need_given) rfl
  obtain ⟨fd_given_of, F_given_of⟩ := c.def_ 9 (d := d_given_of) rfl
  obtain ⟨fd_ran, F_ran⟩ := c.def_ 10 (d := d_ran) rfl
  obtain ⟨fd__law_whole, F__law_whole⟩ := c.def_ 11 (d := d__law_whole) rfl
  obtain ⟨fd__law_due, F__law_due⟩ := c.def_ 12 (d := d__law_due) rfl
  obtain ⟨fd_law, F_law⟩ := c.def_ 13 (d := d_law) rfl
  have g__law_cell := He.glo_ok X G (c.fact 0 (f := .glo "_law_cell") rfl)
  have g__law_mixed := He.glo_ok X G (c.fact 1 (f := .glo "_law_mixed") rfl)
  have g__law_part := He.glo_ok X G (c.fact 2 (f := .glo "_law_part") rfl)
  have g__law_work := He.glo_ok X G (c.fact 3 (f := .glo "_law_work") rfl)
  have g_is_tuple_of := He.glo_ok X G (c.fact 4 (f := .glo "is_tuple_of") rfl)
  have g_is_whole := He.glo_ok X G (c.fact 5 (f := .glo "is_whole") rfl)
  have g_is_digit := He.glo_ok X G (c.fact 6 (f := .glo "is_digit") rfl)
  have g_is_given := He.glo_ok X G (c.fact 7 (f := .glo "is_given") rfl)
  have g_need_given := He.glo_ok X G (c.fact 8 (f := .glo "need_given") rfl)
  have g_given_of := He.glo_ok X G (c.fact 9 (f := .glo "given_of") rfl)
  have g_ran := He.glo_ok X G (c.fact 10 (f := .glo "ran") rfl)
  have g__law_whole := He.glo_ok X G (c.fact 11 (f := .glo "_law_whole") rfl)
  have g__law_due := He.glo_ok X G (c.fact 12 (f := .glo "_law_due") rfl)
  have g_law := He.glo_ok X G (c.fact 13 (f := .glo "law") rfl)
  have m_range := He.free_ok X G (c.fact 14 (f := .free "range") rfl)
  have m_tuple := He.free_ok X G (c.fact 15 (f := .free "tuple") rfl)
  have m_min := He.free_ok X G (c.fact 16 (f := .free "min") rfl)
  have m_type := He.free_ok X G (c.fact 17 (f := .free "type") rfl)
  have m_len := He.free_ok X G (c.fact 18 (f := .free "len") rfl)
  have m_int := He.free_ok X G (c.fact 19 (f := .free "int") rfl)
  have m_all := He.free_ok X G (c.fact 20 (f := .free "all") rfl)
  have m_list := He.free_ok X G (c.fact 21 (f := .free "list") rfl)
  have m_enumerate := He.free_ok X G (c.fact 22 (f := .free "enumerate") rfl)
  have m_isinstance := He.free_ok X G (c.fact 23 (f := .free "isinstance") rfl)
  have m_bool := He.free_ok X G (c.fact 24 (f := .free "bool") rfl)
  have m_dict := He.free_ok X G (c.fact 25 (f := .free "dict") rfl)
  have e := hfa.symm.trans g_law
  cases e
  have b := FunD.bindsA (ps := ["_law_script"]) F_law fun _ _ _ _ _ _ us hl => match us, hl with | [_], _ => rfl
  refine ⟨fd_law, fun s v => b s [v] rfl, fun base _ _ => ?_⟩
  have b__law_cell : Binds K fd__law_cell ["_law_script", "_law_k"] [] := FunD.bindsN F__law_cell fun _ _ _ _ _ _ us hl => match us, hl with | [_, _], _ => rfl
  have G__law_cell : Dn P w K mg base 1 "_law_cell" R__law_cell .c := dn_mk (f__law_cell (k := 0) F__law_cell ) g__law_cell F__law_cell.kp b__law_cell
  have b__law_mixed : Binds K fd__law_mixed ["_law_script", "_law_k"] [] := FunD.bindsN F__law_mixed fun _ _ _ _ _ _ us hl => match us, hl with | [_, _], _ => rfl
  have G__law_mixed : Dn P w K mg base 2 "_law_mixed" R__law_mixed .c := dn_mk (f__law_mixed (k := 1) F__law_mixed G__law_cell) g__law_mixed F__law_mixed.kp b__law_mixed
  have b__law_part : Binds K fd__law_part ["_law_cell_here", "_law_lines"] [] := FunD.bindsN F__law_part fun _ _ _ _ _ _ us hl => match us, hl with | [_, _], _ => rfl
  have G__law_part : Dn P w K mg base 1 "_law_part" R__law_part .c := dn_mk (f__law_part (k := 0) F__law_part m_range m_tuple m_min) g__law_part F__law_part.kp b__law_part
  have b__law_work : Binds K fd__law_work ["_law_script", "_law_most"] [] := FunD.bindsN F__law_work fun _ _ _ _ _ _ us hl => match us, hl with | [_, _], _ => rfl
  have G__law_work : Dn P w K mg base 3 "_law_work" R__law_work .c := dn_mk (f__law_work (k := 2) F__law_work G__law_mixed (G__law_part.up (by decide)) m_range m_min) g__law_work F__law_work.kp b__law_work
  have b_is_tuple_of : Binds K fd_is_tuple_of ["thing", "length"] [] := FunD.bindsN F_is_tuple_of fun _ _ _ _ _ _ us hl => match us, hl with | [_, _], _ => rfl
  have G_is_tuple_of : Dn P w K mg base 1 "is_tuple_of" R_is_tuple_of .c := dn_mk (f_is_tuple_of (k := 0) F_is_tuple_of m_type m_tuple m_len) g_is_tuple_of F_is_tuple_of.kp b_is_tuple_of
  have b_is_whole : Binds K fd_is_whole ["thing", "low", "high"] [] := FunD.bindsN F_is_whole fun _ _ _ _ _ _ us hl => match us, hl with | [_, _, _], _ => rfl
  have G_is_whole : Dn P w K mg base 1 "is_whole" R_is_whole .c := dn_mk (f_is_whole (k := 0) F_is_whole m_type m_int) g_is_whole F_is_whole.kp b_is_whole
  have b_is_digit : Binds K fd_is_digit ["work", "thing"] [] := FunD.bindsN F_is_digit fun _ _ _ _ _ _ us hl => match us, hl with | [_, _], _ => rfl
  have G_is_digit : Dn P w K mg base 2 "is_digit" R_is_digit .c := dn_mk (f_is_digit (k := 1) F_is_digit G_is_whole) g_is_digit F_is_digit.kp b_is_digit
  have b_is_given : Binds K fd_is_given ["work", "thing"] [] := FunD.bindsN F_is_given fun _ _ _ _ _ _ us hl => match us, hl with | [_, _], _ => rfl
  have G_is_given : Dn P w K mg base 3 "is_given" R_is_given .c := dn_mk (f_is_given (k := 2) F_is_given (G_is_tuple_of.up (by decide)) G_is_digit m_all) g_is_given F_is_given.kp b_is_given
  have b_need_given : Binds K fd_need_given ["work", "thing"] [] := FunD.bindsN F_need_given fun _ _ _ _ _ _ us hl => match us, hl with | [_, _], _ => rfl
  have G_need_given : Dn P w K mg base 4 "need_given" R_need_given .c := dn_mk (f_need_given (k := 3) F_need_given G_is_given) g_need_given F_need_given.kp b_need_given
  have b_given_of : Binds K fd_given_of ["part", "digits", "ring"] [] := FunD.bindsN F_given_of fun _ _ _ _ _ _ us hl => match us, hl with | [_, _, _], _ => rfl
  have G_given_of : Dn P w K mg base 1 "given_of" R_given_of .c := dn_mk (f_given_of (k := 0) F_given_of ) g_given_of F_given_of.kp b_given_of
  have b_ran : Binds K fd_ran ["work", "given", "told"] [] := FunD.bindsN F_ran fun _ _ _ _ _ _ us hl => match us, hl with | [_, _, _], _ => rfl
  have G_ran : Dn P w K mg base 5 "ran" R_ran .o := dn_mk (f_ran (k := 4) F_ran G_need_given (G_given_of.up (by decide)) m_list m_enumerate) g_ran F_ran.kp b_ran
  have b__law_whole : Binds K fd__law_whole ["_law_thing"] [] := FunD.bindsN F__law_whole fun _ _ _ _ _ _ us hl => match us, hl with | [_], _ => rfl
  have G__law_whole : Dn P w K mg base 1 "_law_whole" R__law_whole .c := dn_mk (f__law_whole (k := 0) F__law_whole m_isinstance m_int m_bool) g__law_whole F__law_whole.kp b__law_whole
  have b__law_due : Binds K fd__law_due ["_law_part_here", "_law_digits", "_law_ring"] [] := FunD.bindsN F__law_due fun _ _ _ _ _ _ us hl => match us, hl with | [_, _, _], _ => rfl
  have G__law_due : Dn P w K mg base 1 "_law_due" R__law_due .c := dn_mk (f__law_due (k := 0) F__law_due m_int) g__law_due F__law_due.kp b__law_due
  have GL := f_law (P := P) (w := w) (base := base) (k := 5) F_law (G__law_mixed.up (by decide)) (G__law_work.up (by decide)) G_ran (G__law_whole.up (by decide)) (G__law_due.up (by decide)) m_range m_tuple m_list m_len m_dict m_isinstance m_min
  refine GL.imp fun vs H Q E q => ?_
  obtain ⟨a, ns, rfl, hS, hl, q⟩ := q
  exact ⟨H, [scr ns], _, .refl _, .cons (.scr hS) .nil, ⟨ns, rfl, rfl⟩, fun v Ho' H' _ r => by rw [Rs.bool_inv r]; exact q H'⟩
end K03
open PySem PySem.W PySem.Calls PyProof.Rows
set_option maxHeartbeats 0 in
theorem PySem.Challenge.cw_whichbroke_k03_a_work_run_holds : PySem.Challenge.rw_whichbroke_k03_a_work_run.Holds := by
  w_on; o_law
  refine HandSHeadRun.head_any (r := OpenLaw.row PySem.Challenge.rw_whichbroke_k03_a_work_run) (q := view (OpenLaw.row PySem.Challenge.rw_whichbroke_k03_a_work_run).prog [19]) (H := K03.hk) (ob := K03.ob) (M := 6000) (loose := K03.loose) (d := HandSHeadRun.topDef (OpenLaw.row PySem.Challenge.rw_whichbroke_k03_a_work_run).prog 19) (kwd := []) K03.ob_eq
    (by kernel_rfl) (fun s => by kernel_rfl) K03.run (by kernel_rfl) (by kernel_rfl) (by kernel_rfl) (by rfl) (by first | assumption | decide +kernel) (by decide +kernel) ⟨rfl, rfl, rfl, rfl, rfl, by decide +kernel⟩ ?hw ?hc
  case hw => w_witness2
  case hc =>
    refine L2.walk_ofE (l := PySem.Challenge.rw_whichbroke_k03_a_work_run) (n := 63) (k := 6) (x := "_law_script") (CX := L2.CX0) rfl (by decide) (by kernel_rfl) ⟨rfl, by decide, by decide⟩ ?F (fun _ _ _ _ z => z)
    intro w mg fa h Y G hmg0
    obtain ⟨K, KX, c⟩ := Y
    have hmg : mg ("law" : PySem.Str) = some (.ref fa) := by
      have e : (HandSHeadRun.topDef (OpenLaw.row PySem.Challenge.rw_whichbroke_k03_a_work_run).prog 19).name = ("law" : PySem.Str) := by kernel_rfl
      rw [← e]
      exact hmg0
    obtain ⟨fd, hb, hF⟩ := K03.facts (P := (PySem.Challenge.rw_whichbroke_k03_a_work_run).prog) (w := w) KX G hmg c
    exact ⟨K, fd, K03.spLaw K, KX, hb, fun H a ns hl _ hS => ⟨a, ns, rfl, hS, hl, fun _ => rfl⟩, hF⟩
