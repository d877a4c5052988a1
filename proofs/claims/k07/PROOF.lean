import PyProof.Rows.All
import PySem.Challenge.RW_wirelooker_k07_whole_great_lines
import Wide.All
import OpenK.AllK
import Wide.FinOn
import PyProof.EqAt
import PyProof.EqKinds
import PyProof.TupleCall
import HandS.Base
import HandS.Call
import HandS.List
import HandS.Comp
import HandS.Iter
import HandS.Text
import HandS.Words
import HandS.Exc
import HandS.IsInst
import HandS.Flow
import HandS.Wide
import HandS.RaiseMore
import HandS.Zip
import HandS.CallSlots
import HandS.WordsExc
import HandS.ExcOwn
import HandS.SortInts
import HandS.TupMul
import HandS.Star
import HandS.Conv
import HandS.More
import HandS.SortRule
import HandS.TryOnly
import HandS.SortKw
import KE.DataMinMax
import ObjForm.LawKit
import HandS.TupAny
import HandS.Style
import HandS.Ends
set_option Elab.async false
set_option linter.all false
set_option maxRecDepth 100000
set_option maxHeartbeats 4000000
namespace Dd
open PySem PySem.Spec L2
abbrev D := PyData
inductive Sl where
  | un
  | val (d : D)
  | own (ds : List D)
  | io (ds : List D)
  | scr (ns : List Int)
abbrev En := List Sl
mutual
inductive Dp (K : PySem.W.Frag) (H : Hp) : V → D → Prop
  | non : Dp K H .non .none
  | bl (b : Bool) : Dp K H (.bl b) (.bool b)
  | int (i : Int) : Dp K H (.int i) (.int i)
  | str (x : Str) : Dp K H (.str x) (.str x)
  | lst {a : Addr} {xs : List V} {ds : List D} : Rd H a (.lst xs) → DpAll K H xs ds → Dp K H (.ref a) (.list ds)
  | tup {a : Addr} {xs : List V} {ds : List D} : SqT K H a xs → DpAll K H xs ds → Dp K H (.ref a) (.tuple ds)
inductive DpAll (K : PySem.W.Frag) (H : Hp) : List V → List D → Prop
  | nil : DpAll K H [] []
  | cons {v : V} {vs : List V} {d : D} {ds : List D} : Dp K H v d → DpAll K H vs ds → DpAll K H (v :: vs) (d :: ds)
end
mutual
theorem Dp.l2 {K : PySem.W.Frag} {F : Hp} : ∀ {v : V} {d : D}, Dp K F v d → L2.Dp K F v d
  | _, _, .non => .non
  | _, _, .bl b => .bl b
  | _, _, .int i => .int i
  | _, _, .str x => .str x
  | _, _, .lst h t => .lst (.inl h) (DpAll.l2 t)
  | _, _, .tup h t => .tup h (DpAll.l2 t)
theorem DpAll.l2 {K : PySem.W.Frag} {F : Hp} : ∀ {vs : List V} {ds : List D}, DpAll K F vs ds → L2.DpAll K F vs ds
  | _, _, .nil => .nil
  | _, _, .cons h t => .cons (Dp.l2 h) (DpAll.l2 t)
end
structure Ct where
  F0 : Hp
  H0 : Hp
  io : Option Addr
  pr : Hp
structure Ok (K : PySem.W.Frag) (c : Ct) (σ : St) (H F : Hp) (ρ : En) : Prop where
  len : σ.length = ρ.length
  sub : Same F H
  ge : Same c.F0 F
  fe : ∀ b o, F b = some o → c.F0 b = some o ∨ c.H0 b = none
  keep : ∀ b o, c.H0 b = some o → c.io ≠ some b → H b = some o
  iod : ∀ p, c.io = some p → F p = none ∧ c.H0 p ≠ none ∧ c.pr p = none ∧ ∃ xs, H p = some (.lst xs)
  prt : ∀ b o, c.pr b = some o → H b = some o ∧ F b = none ∧ c.H0 b = none
  val : ∀ (i : Nat) (d : D), ρ[i]? = some (.val d) → ∃ v, σ[i]? = some (some v) ∧ Dp K F v d
  own : ∀ (i : Nat) (ds : List D), ρ[i]? = some (.own ds) → ∃ p vs, σ[i]? = some (some (.ref p)) ∧ H p = some (.lst vs) ∧ DpAll K F vs ds ∧ F p = none ∧ c.H0 p = none ∧ c.pr p = none
  ios : ∀ (i : Nat) (ds : List D), ρ[i]? = some (.io ds) → i = 0 ∧ ∃ p vs, c.io = some p ∧ σ[i]? = some (some (.ref p)) ∧ H p = some (.lst vs) ∧ DpAll K F vs ds
  scr : ∀ (i : Nat) (ns : List Int), ρ[i]? = some (.scr ns) → c.io = none ∧ ∃ a, σ[i]? = some (some (.ref a)) ∧ SqL K c.H0 a (ns.map V.int)
  sep : ∀ (i j : Nat) (ds es : List D) (p : Addr), ρ[i]? = some (.own ds) → ρ[j]? = some (.own es) → σ[i]? = some (some (.ref p)) → σ[j]? = some (some (.ref p)) → i = j

section
variable {K : PySem.W.Frag} {F F' : Hp}
theorem Rd.mono {a : Addr} {u : HO} (s : Same F F') (h : Rd F a u) : Rd F' a u := by
  rcases h with h | ⟨o, h⟩
  · exact .inl (s _ _ h)
  · exact .inr ⟨o, s _ _ h⟩
theorem SqL.mono {a : Addr} {xs : List V} (s : Same F F') (h : SqL K F a xs) : SqL K F' a xs := h.imp (Rd.mono s) id
theorem SqT.mono {a : Addr} {xs : List V} (s : Same F F') (h : SqT K F a xs) : SqT K F' a xs := h.imp (Rd.mono s) id
mutual
theorem Dp.mono (s : Same F F') : ∀ {v : V} {d : D}, Dp K F v d → Dp K F' v d
  | _, _, .non => .non
  | _, _, .bl b => .bl b
  | _, _, .int i => .int i
  | _, _, .str x => .str x
  | _, _, .lst h t => .lst (Rd.mono s h) (DpAll.mono s t)
  | _, _, .tup h t => .tup (SqT.mono s h) (DpAll.mono s t)
theorem DpAll.mono (s : Same F F') : ∀ {vs : List V} {ds : List D}, DpAll K F vs ds → DpAll K F' vs ds
  | _, _, .nil => .nil
  | _, _, .cons h t => .cons (Dp.mono s h) (DpAll.mono s t)
end
theorem DpAll.length : ∀ {vs : List V} {ds : List D}, DpAll K F vs ds → vs.length = ds.length
  | _, _, .nil => rfl
  | _, _, .cons _ t => by simp [DpAll.length t]
theorem DpAll.get : ∀ {vs : List V} {ds : List D} {i : Nat} {v : V}, DpAll K F vs ds → vs[i]? = some v → ∃ d, ds[i]? = some d ∧ Dp K F v d
  | _, _, _, _, .nil, e => by simp at e
  | _, _, 0, v, .cons h t, e => by
    simp at e; subst e
    exact ⟨_, rfl, h⟩
  | _, _, i + 1, v, .cons h t, e => by
    obtain ⟨d, q, r⟩ := DpAll.get (i := i) (v := v) t (by simpa using e)
    exact ⟨d, by simpa using q, r⟩
theorem DpAll.getd : ∀ {vs : List V} {ds : List D} {i : Nat} {d : D}, DpAll K F vs ds → ds[i]? = some d → ∃ v, vs[i]? = some v ∧ Dp K F v d
  | _, _, _, _, .nil, e => by simp at e
  | _, _, 0, v, .cons h t, e => by
    simp at e; subst e
    exact ⟨_, rfl, h⟩
  | _, _, i + 1, v, .cons h t, e => by
    obtain ⟨d, q, r⟩ := DpAll.getd (i := i) (d := v) t (by simpa using e)
    exact ⟨d, by simpa using q, r⟩
theorem DpAll.append : ∀ {vs ws : List V} {ds es : List D}, DpAll K F vs ds → DpAll K F ws es → DpAll K F (vs ++ ws) (ds ++ es)
  | _, _, _, _, .nil, s => s
  | _, _, _, _, .cons h t, s => .cons h (DpAll.append t s)
theorem DpAll.set {v : V} {d : D} (r : Dp K F v d) : ∀ {vs : List V} {ds : List D} (i : Nat), DpAll K F vs ds → DpAll K F (vs.set i v) (ds.set i d)
  | _, _, _, .nil => .nil
  | _, _, 0, .cons _ t => .cons r t
  | _, _, i + 1, .cons h t => .cons h (DpAll.set r i t)
theorem DpAll.take : ∀ {vs : List V} {ds : List D} (n : Nat), DpAll K F vs ds → DpAll K F (vs.take n) (ds.take n)
  | _, _, 0, _ => .nil
  | _, _, _ + 1, .nil => .nil
  | _, _, n + 1, .cons h t => .cons h (DpAll.take n t)
theorem DpAll.drop : ∀ {vs : List V} {ds : List D} (n : Nat), DpAll K F vs ds → DpAll K F (vs.drop n) (ds.drop n)
  | _, _, 0, h => h
  | _, _, _ + 1, .nil => .nil
  | _, _, n + 1, .cons _ t => DpAll.drop n t
theorem DpAll.eraseIdx : ∀ {vs : List V} {ds : List D} (i : Nat), DpAll K F vs ds → DpAll K F (vs.eraseIdx i) (ds.eraseIdx i)
  | _, _, _, .nil => .nil
  | _, _, 0, .cons _ t => t
  | _, _, i + 1, .cons h t => .cons h (DpAll.eraseIdx i t)
theorem DpAll.one {v : V} {d : D} (h : Dp K F v d) : DpAll K F [v] [d] := .cons h .nil
theorem DpAll.reverse : ∀ {vs : List V} {ds : List D}, DpAll K F vs ds → DpAll K F vs.reverse ds.reverse
  | _, _, .nil => .nil
  | _, _, .cons h t => by
    rw [List.reverse_cons, List.reverse_cons]
    exact DpAll.append (DpAll.reverse t) (DpAll.one h)
theorem DpAll.ints : ∀ {vs : List V} {ns : List Int}, DpAll K F vs (ns.map PyData.int) → vs = ns.map V.int
  | _, [], .nil => rfl
  | _, n :: ns, .cons h t => by
    cases h
    rw [DpAll.ints t]; rfl
theorem DpAll.bls : ∀ {vs : List V} {ns : List Bool}, DpAll K F vs (ns.map PyData.bool) → vs = ns.map V.bl
  | _, [], .nil => rfl
  | _, n :: ns, .cons h t => by
    cases h
    rw [DpAll.bls t]; rfl
theorem DpAll.strs : ∀ {vs : List V} {ns : List Str}, DpAll K F vs (ns.map PyData.str) → vs = ns.map V.str
  | _, [], .nil => rfl
  | _, n :: ns, .cons h t => by
    cases h
    rw [DpAll.strs t]; rfl
theorem DpAll.ofInts : ∀ (ns : List Int), DpAll K F (ns.map V.int) (ns.map PyData.int)
  | [] => .nil
  | n :: ns => .cons (.int n) (DpAll.ofInts ns)
theorem DpAll.ofStrs : ∀ (ns : List Str), DpAll K F (ns.map V.str) (ns.map PyData.str)
  | [] => .nil
  | n :: ns => .cons (.str n) (DpAll.ofStrs ns)
theorem Same.updN {p : Addr} {o : HO} (h : F p = none) : Same F (upd F p o) := fun b u e => by
  rw [upd_ne (ne_of_none e h)]; exact e
theorem Same.upd2 {H : Hp} {p : Addr} {o : HO} (h : Same F H) : Same (upd F p o) (upd H p o) := fun b u e => by
  by_cases hb : b = p
  · subst hb; rw [upd_same] at e ⊢; exact e
  · rw [upd_ne hb] at e ⊢; exact h _ _ e
end

/-! ### the heap grows -/
section
variable {K : PySem.W.Frag} {c : Ct} {σ : St} {H F : Hp} {ρ : En} {p : Addr} {o : HO}
theorem Ok.new (ok : Ok K c σ H F ρ) (h : H p = none) : F p = none ∧ c.H0 p = none ∧ c.pr p = none ∧ c.F0 p = none ∧ c.io ≠ some p := by
  have hF : F p = none := ok.sub.free h
  have hio : c.io ≠ some p := fun e => by
    obtain ⟨_, _, _, xs, q⟩ := ok.iod p e
    rw [h] at q; cases q
  refine ⟨hF, ?_, ?_, ok.ge.free hF, hio⟩
  · cases q : c.H0 p with
    | none => rfl
    | some u => rw [ok.keep p u q hio] at h; cases h
  · cases q : c.pr p with
    | none => rfl
    | some u => rw [(ok.prt p u q).1] at h; cases h
/-- a new object, seen by all -/
theorem Ok.alloc (ok : Ok K c σ H F ρ) (h : H p = none) : Ok K c σ (upd H p o) (upd F p o) ρ := by
  obtain ⟨hF, h0, hp, hF0, hio⟩ := ok.new h
  have s : Same F (upd F p o) := Same.updN hF
  have k : ∀ b u, H b = some u → upd H p o b = some u := Same.updN h
  refine ⟨ok.len, Same.upd2 ok.sub, ok.ge.trans s, fun b u e => ?_, fun b u e n => k _ _ (ok.keep b u e n), fun q e => ?_, fun b u e => ?_, fun i d e => ?_, fun i ds e => ?_, fun i ds e => ?_, ok.scr, ok.sep⟩
  · by_cases hb : b = p
    · subst hb; exact .inr h0
    · rw [upd_ne hb] at e; exact ok.fe b u e
  · obtain ⟨a1, a2, a3, xs, a4⟩ := ok.iod q e
    refine ⟨?_, a2, a3, xs, k _ _ a4⟩
    rw [upd_ne (ne_of_none a4 h)]; exact a1
  · obtain ⟨a1, a2, a3⟩ := ok.prt b u e
    refine ⟨k _ _ a1, ?_, a3⟩
    rw [upd_ne (ne_of_none a1 h)]; exact a2
  · obtain ⟨v, a1, a2⟩ := ok.val i d e
    exact ⟨v, a1, Dp.mono s a2⟩
  · obtain ⟨q, vs, a1, a2, a3, a4, a5, a6⟩ := ok.own i ds e
    refine ⟨q, vs, a1, k _ _ a2, DpAll.mono s a3, ?_, a5, a6⟩
    rw [upd_ne (ne_of_none a2 h)]; exact a4
  · obtain ⟨z, q, vs, a1, a2, a3, a4⟩ := ok.ios i ds e
    exact ⟨z, q, vs, a1, a2, k _ _ a3, DpAll.mono s a4⟩
abbrev Ct.put (c : Ct) (p : Addr) (o : HO) : Ct := { c with pr := upd c.pr p o }
/-- a new object, kept apart -/
theorem Ok.allocP (ok : Ok K c σ H F ρ) (h : H p = none) : Ok K (c.put p o) σ (upd H p o) F ρ := by
  obtain ⟨hF, h0, hp, hF0, hio⟩ := ok.new h
  have k : ∀ b u, H b = some u → upd H p o b = some u := Same.updN h
  refine ⟨ok.len, fun b u e => k _ _ (ok.sub b u e), ok.ge, ok.fe, fun b u e n => k _ _ (ok.keep b u e n), fun q e => ?_, fun b u e => ?_, ok.val, fun i ds e => ?_, fun i ds e => ?_, ok.scr, ok.sep⟩
  · obtain ⟨a1, a2, a3, xs, a4⟩ := ok.iod q e
    refine ⟨a1, a2, ?_, xs, k _ _ a4⟩
    show upd c.pr p o q = none
    rw [upd_ne (ne_of_none a4 h)]; exact a3
  · by_cases hb : b = p
    · subst hb
      refine ⟨?_, hF, h0⟩
      rw [upd_same]; exact (upd_same (H := c.pr)).symm.trans e
    · have e' : c.pr b = some u := by rw [← e]; exact (upd_ne hb).symm
      obtain ⟨a1, a2, a3⟩ := ok.prt b u e'
      exact ⟨k _ _ a1, a2, a3⟩
  · obtain ⟨q, vs, a1, a2, a3, a4, a5, a6⟩ := ok.own i ds e
    refine ⟨q, vs, a1, k _ _ a2, a3, a4, a5, ?_⟩
    show upd c.pr p o q = none
    rw [upd_ne (ne_of_none a2 h)]; exact a6
  · obtain ⟨z, q, vs, a1, a2, a3, a4⟩ := ok.ios i ds e
    exact ⟨z, q, vs, a1, a2, k _ _ a3, a4⟩
/-- what is kept apart is changed -/
theorem Ok.putP {o' : HO} (ok : Ok K (c.put p o) σ H F ρ) : Ok K (c.put p o') σ (upd H p o') F ρ := by
  obtain ⟨hH, hF, h0⟩ := ok.prt p o upd_same
  have hio : c.io ≠ some p := fun e => by
    obtain ⟨_, a2, _⟩ := ok.iod p e
    exact a2 h0
  refine ⟨ok.len, fun b u e => ?_, ok.ge, ok.fe, fun b u e n => ?_, fun q e => ?_, fun b u e => ?_, ok.val, fun i ds e => ?_, fun i ds e => ?_, ok.scr, ok.sep⟩
  · rw [upd_ne (ne_of_none e hF)]; exact ok.sub b u e
  · rw [upd_ne (ne_of_none e h0)]; exact ok.keep b u e n
  · obtain ⟨a1, a2, a3, xs, a4⟩ := ok.iod q e
    have ne : q ≠ p := fun z => by subst z; exact a2 h0
    refine ⟨a1, a2, ?_, xs, by rw [upd_ne ne]; exact a4⟩
    show upd c.pr p o' q = none
    rw [upd_ne ne]; exact (upd_ne ne).symm.trans a3
  · by_cases hb : b = p
    · subst hb
      refine ⟨?_, hF, h0⟩
      rw [upd_same]; exact (upd_same (H := c.pr)).symm.trans e
    · have e' : (c.put p o).pr b = some u := (upd_ne hb).trans ((upd_ne hb).symm.trans e)
      obtain ⟨a1, a2, a3⟩ := ok.prt b u e'
      exact ⟨by rw [upd_ne hb]; exact a1, a2, a3⟩
  · obtain ⟨q, vs, a1, a2, a3, a4, a5, a6⟩ := ok.own i ds e
    have ne : q ≠ p := fun z => by
      subst z
      have a6' : upd c.pr q o q = none := a6
      rw [upd_same] at a6'; cases a6'
    refine ⟨q, vs, a1, by rw [upd_ne ne]; exact a2, a3, a4, a5, ?_⟩
    show upd c.pr p o' q = none
    rw [upd_ne ne]; exact (upd_ne ne).symm.trans a6
  · obtain ⟨z, q, vs, a1, a2, a3, a4⟩ := ok.ios i ds e
    have ne : q ≠ p := fun z => by subst z; exact hio a1
    exact ⟨z, q, vs, a1, a2, by rw [upd_ne ne]; exact a3, a4⟩
/-- what was kept apart is seen by all -/
theorem Ok.freeP (ok : Ok K (c.put p o) σ H F ρ) (hp : c.pr p = none) : Ok K c σ H (upd F p o) ρ := by
  obtain ⟨hH, hF, h0⟩ := ok.prt p o upd_same
  have s : Same F (upd F p o) := Same.updN hF
  refine ⟨ok.len, fun b u e => ?_, ok.ge.trans s, fun b u e => ?_, ok.keep, fun q e => ?_, fun b u e => ?_, fun i d e => ?_, fun i ds e => ?_, fun i ds e => ?_, ok.scr, ok.sep⟩
  · by_cases hb : b = p
    · subst hb; rw [upd_same] at e; cases e; exact hH
    · rw [upd_ne hb] at e; exact ok.sub b u e
  · by_cases hb : b = p
    · subst hb; exact .inr h0
    · rw [upd_ne hb] at e; exact ok.fe b u e
  · obtain ⟨a1, a2, a3, xs, a4⟩ := ok.iod q e
    have ne : q ≠ p := fun z => by subst z; exact a2 h0
    exact ⟨by rw [upd_ne ne]; exact a1, a2, (upd_ne ne).symm.trans a3, xs, a4⟩
  · have ne : b ≠ p := fun z => by subst z; rw [hp] at e; cases e
    obtain ⟨a1, a2, a3⟩ := ok.prt b u ((upd_ne ne).trans e)
    exact ⟨a1, by rw [upd_ne ne]; exact a2, a3⟩
  · obtain ⟨v, a1, a2⟩ := ok.val i d e
    exact ⟨v, a1, Dp.mono s a2⟩
  · obtain ⟨q, vs, a1, a2, a3, a4, a5, a6⟩ := ok.own i ds e
    have ne : q ≠ p := fun z => by
      subst z
      have a6' : upd c.pr q o q = none := a6
      rw [upd_same] at a6'; cases a6'
    exact ⟨q, vs, a1, a2, DpAll.mono s a3, by rw [upd_ne ne]; exact a4, a5, (upd_ne ne).symm.trans a6⟩
  · obtain ⟨z, q, vs, a1, a2, a3, a4⟩ := ok.ios i ds e
    exact ⟨z, q, vs, a1, a2, a3, DpAll.mono s a4⟩

/-! ### slots -/
def notIo : Option Sl → Bool
  | some (.io _) => false
  | _ => true
theorem get_set {α : Type} {l : List α} {i j : Nat} {a : α} (h : i < l.length) : (l.set i a)[j]? = if i = j then some a else l[j]? := by
  by_cases e : i = j
  · subst e; simp [h]
  · rw [List.getElem?_set_ne e, if_neg e]
/-- slot i gets any value; u says what is known of it -/
theorem Ok.set {v : Option V} {u : Sl} {i : Nat} (ok : Ok K c σ H F ρ) (hi : i < ρ.length)
    (hv : ∀ d, u = .val d → ∃ w, v = some w ∧ Dp K F w d)
    (ho : ∀ ds, u = .own ds → ∃ p vs, v = some (.ref p) ∧ H p = some (.lst vs) ∧ DpAll K F vs ds ∧ F p = none ∧ c.H0 p = none ∧ c.pr p = none ∧ ∀ (j : Nat) (es : List D), ρ[j]? = some (.own es) → σ[j]? = some (some (.ref p)) → j = i)
    (hio : ∀ ds, u ≠ .io ds) (hsc : ∀ ns, u ≠ .scr ns) : Ok K c (σ.set i v) H F (ρ.set i u) := by
  have hs : i < σ.length := by rw [ok.len]; exact hi
  refine ⟨by rw [List.length_set, List.length_set]; exact ok.len, ok.sub, ok.ge, ok.fe, ok.keep, ok.iod, ok.prt, fun j d e => ?_, fun j ds e => ?_, fun j ds e => ?_, fun j ns e => ?_, fun j k ds es p a b x y => ?_⟩
  · rw [get_set hi] at e
    rw [get_set hs]
    by_cases q : i = j
    · rw [if_pos q] at e ⊢
      obtain ⟨w, e1, e2⟩ := hv d (Option.some.inj e)
      exact ⟨w, by rw [e1], e2⟩
    · rw [if_neg q] at e ⊢
      exact ok.val j d e
  · rw [get_set hi] at e
    rw [get_set hs]
    by_cases q : i = j
    · rw [if_pos q] at e ⊢
      obtain ⟨p, vs, e1, e2, e3, e4, e5, e6, _⟩ := ho ds (Option.some.inj e)
      exact ⟨p, vs, by rw [e1], e2, e3, e4, e5, e6⟩
    · rw [if_neg q] at e ⊢
      exact ok.own j ds e
  · rw [get_set hi] at e
    rw [get_set hs]
    by_cases q : i = j
    · rw [if_pos q] at e
      exact absurd (Option.some.inj e) (hio ds)
    · rw [if_neg q] at e ⊢
      exact ok.ios j ds e
  · rw [get_set hi] at e
    rw [get_set hs]
    by_cases q : i = j
    · rw [if_pos q] at e
      exact absurd (Option.some.inj e) (hsc ns)
    · rw [if_neg q] at e ⊢
      exact ok.scr j ns e
  · rw [get_set hi] at a b
    rw [get_set hs] at x y
    by_cases q : i = j
    · rw [if_pos q] at a x
      obtain ⟨p', vs, e1, _, _, _, _, _, e7⟩ := ho ds (Option.some.inj a)
      have ep : p' = p := by
        have z := Option.some.inj x
        rw [e1] at z
        cases z; rfl
      subst ep
      by_cases q2 : i = k
      · rw [← q, q2]
      · rw [if_neg q2] at b y
        rw [e7 k es b y]; exact q.symm
    · rw [if_neg q] at a x
      by_cases q2 : i = k
      · rw [if_pos q2] at b y
        obtain ⟨p', vs, e1, _, _, _, _, _, e7⟩ := ho es (Option.some.inj b)
        have ep : p' = p := by
          have z := Option.some.inj y
          rw [e1] at z
          cases z; rfl
        subst ep
        rw [e7 j ds a x]; exact q2
      · rw [if_neg q2] at b y
        exact ok.sep j k ds es p a b x y
theorem Ok.setV {v : V} {d : D} {i : Nat} (ok : Ok K c σ H F ρ) (hi : i < ρ.length) (h : Dp K F v d) : Ok K c (σ.set i (some v)) H F (ρ.set i (.val d)) :=
  ok.set hi (fun d' e => ⟨v, rfl, by cases e; exact h⟩) (fun _ e => by cases e) (fun _ e => by cases e) (fun _ e => by cases e)
theorem Ok.setU {v : Option V} {i : Nat} (ok : Ok K c σ H F ρ) (hi : i < ρ.length) : Ok K c (σ.set i v) H F (ρ.set i .un) :=
  ok.set hi (fun d' e => by cases e) (fun _ e => by cases e) (fun _ e => by cases e) (fun _ e => by cases e)
/-- what was kept apart becomes a slot's own -/
theorem Ok.ownP {xs : List V} {ds : List D} {i : Nat} (ok : Ok K (c.put p (.lst xs)) σ H F ρ) (hp : c.pr p = none) (hd : DpAll K F xs ds) (hi : i < ρ.length) : Ok K c (σ.set i (some (.ref p))) H F (ρ.set i (.own ds)) := by
  obtain ⟨hH, hF, h0⟩ := ok.prt p _ upd_same
  have nown : ∀ {q : Addr}, (c.put p (.lst xs)).pr q = none → q ≠ p := fun {q} a z => by
    subst z
    have a' : upd c.pr q (.lst xs) q = none := a
    rw [upd_same] at a'; cases a'
  have ok' : Ok K c σ H F ρ := by
    refine ⟨ok.len, ok.sub, ok.ge, ok.fe, ok.keep, fun q e => ?_, fun b u e => ?_, ok.val, fun j es e => ?_, ok.ios, ok.scr, ok.sep⟩
    · obtain ⟨a1, a2, a3, a4⟩ := ok.iod q e
      exact ⟨a1, a2, (upd_ne (nown a3)).symm.trans a3, a4⟩
    · have ne : b ≠ p := fun z => by subst z; rw [hp] at e; cases e
      exact ok.prt b u ((upd_ne ne).trans e)
    · obtain ⟨q, vs, a1, a2, a3, a4, a5, a6⟩ := ok.own j es e
      exact ⟨q, vs, a1, a2, a3, a4, a5, (upd_ne (nown a6)).symm.trans a6⟩
  refine ok'.set hi (fun d' e => by cases e) (fun es e => ?_) (fun _ e => by cases e) (fun _ e => by cases e)
  cases e
  refine ⟨p, xs, rfl, hH, hd, hF, h0, hp, fun j es a b => ?_⟩
  obtain ⟨q, vs, a1, _, _, _, _, a6⟩ := ok.own j es a
  rw [b] at a1
  have z : p = q := by cases a1; rfl
  exact absurd z.symm (nown a6)
/-- a slot's own list is from now on seen by all -/
theorem Ok.frz {i : Nat} {ds : List D} (ok : Ok K c σ H F ρ) (e : ρ[i]? = some (.own ds)) : ∃ (F' : Hp) (p : Addr), Same F F' ∧ σ[i]? = some (some (.ref p)) ∧ Dp K F' (.ref p) (.list ds) ∧ Ok K c σ H F' (ρ.set i (.val (.list ds))) := by
  obtain ⟨p, vs, a1, a2, a3, a4, a5, a6⟩ := ok.own i ds e
  have hi : i < ρ.length := by
    rcases Nat.lt_or_ge i ρ.length with h | h
    · exact h
    · rw [List.getElem?_eq_none h] at e; cases e
  have s : Same F (upd F p (.lst vs)) := Same.updN a4
  have dp : Dp K (upd F p (.lst vs)) (.ref p) (.list ds) := .lst (.inl upd_same) (DpAll.mono s a3)
  refine ⟨upd F p (.lst vs), p, s, a1, dp, ?_⟩
  refine ⟨by rw [List.length_set]; exact ok.len, fun b u q => ?_, ok.ge.trans s, fun b u q => ?_, ok.keep, fun q z => ?_, fun b u q => ?_, fun j d q => ?_, fun j es q => ?_, fun j es q => ?_, fun j ns q => ?_, fun j k es fs q x y u w => ?_⟩
  · by_cases hb : b = p
    · subst hb; rw [upd_same] at q; cases q; exact a2
    · rw [upd_ne hb] at q; exact ok.sub b u q
  · by_cases hb : b = p
    · subst hb; exact .inr a5
    · rw [upd_ne hb] at q; exact ok.fe b u q
  · obtain ⟨b1, b2, b3, b4⟩ := ok.iod q z
    have ne : q ≠ p := fun z => by subst z; exact b2 a5
    exact ⟨by rw [upd_ne ne]; exact b1, b2, b3, b4⟩
  · have ne : b ≠ p := fun z => by subst z; rw [a6] at q; cases q
    obtain ⟨b1, b2, b3⟩ := ok.prt b u q
    exact ⟨b1, by rw [upd_ne ne]; exact b2, b3⟩
  · rw [get_set hi] at q
    by_cases z : i = j
    · rw [if_pos z] at q
      subst z
      cases q
      exact ⟨_, a1, dp⟩
    · rw [if_neg z] at q
      obtain ⟨v, b1, b2⟩ := ok.val j d q
      exact ⟨v, b1, Dp.mono s b2⟩
  · rw [get_set hi] at q
    by_cases z : i = j
    · rw [if_pos z] at q; cases q
    · rw [if_neg z] at q
      obtain ⟨r, ws, b1, b2, b3, b4, b5, b6⟩ := ok.own j es q
      have ne : r ≠ p := fun y => by
        subst y
        exact z (ok.sep i j ds es r e q a1 b1)
      exact ⟨r, ws, b1, b2, DpAll.mono s b3, by rw [upd_ne ne]; exact b4, b5, b6⟩
  · rw [get_set hi] at q
    by_cases z : i = j
    · rw [if_pos z] at q; cases q
    · rw [if_neg z] at q
      obtain ⟨y, r, ws, b1, b2, b3, b4⟩ := ok.ios j es q
      exact ⟨y, r, ws, b1, b2, b3, DpAll.mono s b4⟩
  · rw [get_set hi] at q
    by_cases z : i = j
    · rw [if_pos z] at q; cases q
    · rw [if_neg z] at q
      exact ok.scr j ns q
  · rw [get_set hi] at x y
    by_cases z : i = j
    · rw [if_pos z] at x; cases x
    · rw [if_neg z] at x
      by_cases z2 : i = k
      · rw [if_pos z2] at y; cases y
      · rw [if_neg z2] at y
        exact ok.sep j k es fs q x y u w
/-- a slot's own list is changed -/
theorem Ok.change {i : Nat} {ds ds' : List D} {vs' : List V} (ok : Ok K c σ H F ρ) (e : ρ[i]? = some (.own ds)) (p : Addr) (hp : σ[i]? = some (some (.ref p))) (hd : DpAll K F vs' ds') : Ok K c σ (upd H p (.lst vs')) F (ρ.set i (.own ds')) := by
  obtain ⟨p', vs, a1, a2, a3, a4, a5, a6⟩ := ok.own i ds e
  have hpp : p' = p := by rw [hp] at a1; cases a1; rfl
  subst hpp
  have hi : i < ρ.length := by
    rcases Nat.lt_or_ge i ρ.length with h | h
    · exact h
    · rw [List.getElem?_eq_none h] at e; cases e
  refine ⟨by rw [List.length_set]; exact ok.len, fun b u q => ?_, ok.ge, ok.fe, fun b u q n => ?_, fun q z => ?_, fun b u q => ?_, fun j d q => ?_, fun j es q => ?_, fun j es q => ?_, fun j ns q => ?_, fun j k es fs q x y u w => ?_⟩
  · rw [upd_ne (ne_of_none q a4)]; exact ok.sub b u q
  · rw [upd_ne (ne_of_none q a5)]; exact ok.keep b u q n
  · obtain ⟨b1, b2, b3, xs, b4⟩ := ok.iod q z
    have ne : q ≠ p' := fun z => by subst z; exact b2 a5
    exact ⟨b1, b2, b3, xs, by rw [upd_ne ne]; exact b4⟩
  · have ne : b ≠ p' := fun z => by subst z; rw [a6] at q; cases q
    obtain ⟨b1, b2, b3⟩ := ok.prt b u q
    exact ⟨by rw [upd_ne ne]; exact b1, b2, b3⟩
  · rw [get_set hi] at q
    by_cases z : i = j
    · rw [if_pos z] at q; cases q
    · rw [if_neg z] at q
      exact ok.val j d q
  · rw [get_set hi] at q
    by_cases z : i = j
    · rw [if_pos z] at q
      subst z
      cases q
      exact ⟨p', vs', a1, upd_same, hd, a4, a5, a6⟩
    · rw [if_neg z] at q
      obtain ⟨r, ws, b1, b2, b3, b4, b5, b6⟩ := ok.own j es q
      have ne : r ≠ p' := fun y => by
        subst y
        exact z (ok.sep i j ds es r e q a1 b1)
      exact ⟨r, ws, b1, by rw [upd_ne ne]; exact b2, b3, b4, b5, b6⟩
  · rw [get_set hi] at q
    by_cases z : i = j
    · rw [if_pos z] at q; cases q
    · rw [if_neg z] at q
      obtain ⟨y, r, ws, b1, b2, b3, b4⟩ := ok.ios j es q
      have ne : r ≠ p' := fun y => by
        subst y
        obtain ⟨_, c2, _⟩ := ok.iod r b1
        exact c2 a5
      exact ⟨y, r, ws, b1, b2, by rw [upd_ne ne]; exact b3, b4⟩
  · rw [get_set hi] at q
    by_cases z : i = j
    · rw [if_pos z] at q; cases q
    · rw [if_neg z] at q
      exact ok.scr j ns q
  · rw [get_set hi] at x y
    by_cases z : i = j
    · subst z
      by_cases z2 : i = k
      · exact z2
      · rw [if_neg z2] at y
        exact ok.sep i k ds fs q e y u w
    · rw [if_neg z] at x
      by_cases z2 : i = k
      · subst z2
        exact ok.sep j i es ds q x e u w
      · rw [if_neg z2] at y
        exact ok.sep j k es fs q x y u w
/-- the caller's list is changed -/
theorem Ok.changeI {i : Nat} {ds ds' : List D} {vs' : List V} (ok : Ok K c σ H F ρ) (e : ρ[i]? = some (.io ds)) (p : Addr) (hp : σ[i]? = some (some (.ref p))) (hd : DpAll K F vs' ds') : Ok K c σ (upd H p (.lst vs')) F (ρ.set i (.io ds')) := by
  obtain ⟨i0, p', vs, a1, a2, a3, a4⟩ := ok.ios i ds e
  have hpp : p' = p := by rw [hp] at a2; cases a2; rfl
  subst hpp
  obtain ⟨b1, b2, b3, xs, b4⟩ := ok.iod p' a1
  have hi : i < ρ.length := by
    rcases Nat.lt_or_ge i ρ.length with h | h
    · exact h
    · rw [List.getElem?_eq_none h] at e; cases e
  have noi : ∀ {q : Addr}, c.io = some q → q = p' := fun {q} z => by rw [a1] at z; cases z; rfl
  refine ⟨by rw [List.length_set]; exact ok.len, fun b u q => ?_, ok.ge, ok.fe, fun b u q n => ?_, fun q z => ?_, fun b u q => ?_, fun j d q => ?_, fun j es q => ?_, fun j es q => ?_, fun j ns q => ?_, fun j k es fs q x y u w => ?_⟩
  · rw [upd_ne (ne_of_none q b1)]; exact ok.sub b u q
  · have ne : b ≠ p' := fun z => by subst z; exact n a1
    rw [upd_ne ne]; exact ok.keep b u q n
  · have := noi z
    subst this
    exact ⟨b1, b2, b3, vs', upd_same⟩
  · have ne : b ≠ p' := fun z => by subst z; rw [b3] at q; cases q
    obtain ⟨c1, c2, c3⟩ := ok.prt b u q
    exact ⟨by rw [upd_ne ne]; exact c1, c2, c3⟩
  · rw [get_set hi] at q
    by_cases z : i = j
    · rw [if_pos z] at q; cases q
    · rw [if_neg z] at q
      exact ok.val j d q
  · rw [get_set hi] at q
    by_cases z : i = j
    · rw [if_pos z] at q; cases q
    · rw [if_neg z] at q
      obtain ⟨r, ws, c1, c2, c3, c4, c5, c6⟩ := ok.own j es q
      have ne : r ≠ p' := fun y => by
        subst y
        exact b2 c5
      exact ⟨r, ws, c1, by rw [upd_ne ne]; exact c2, c3, c4, c5, c6⟩
  · rw [get_set hi] at q
    by_cases z : i = j
    · rw [if_pos z] at q
      subst z
      cases q
      exact ⟨i0, p', vs', a1, a2, upd_same, hd⟩
    · rw [if_neg z] at q
      obtain ⟨y, _⟩ := ok.ios j es q
      exact absurd (i0.trans y.symm) z
  · rw [get_set hi] at q
    by_cases z : i = j
    · rw [if_pos z] at q; cases q
    · rw [if_neg z] at q
      exact ok.scr j ns q
  · rw [get_set hi] at x y
    by_cases z : i = j
    · rw [if_pos z] at x; cases x
    · rw [if_neg z] at x
      by_cases z2 : i = k
      · rw [if_pos z2] at y; cases y
      · rw [if_neg z2] at y
        exact ok.sep j k es fs q x y u w
end
end Dd

namespace Dd
open PySem PySem.Spec L2
/-- an error: its class, its fields -/
structure Ex where
  C : Addr
  fs : List (Str × D)
inductive R (α : Type) where
  | ok (a : α) (ρ : En)
  | ex (e : Ex) (ρ : En)
abbrev M (α : Type) := En → Option (R α)
def mPure {α : Type} (a : α) : M α := fun ρ => some (.ok a ρ)
def mBind {α β : Type} (m : M α) (f : α → M β) : M β := fun ρ => match m ρ with
  | none => none
  | some (.ok a ρ') => f a ρ'
  | some (.ex e ρ') => some (.ex e ρ')
def mLift {α : Type} (o : Option α) : M α := fun ρ => match o with
  | none => none
  | some a => some (.ok a ρ)
def mStuck {α : Type} : M α := fun _ => none

def ExR (K : PySem.W.Frag) (e : Ex) (cls : Value) (x : Option Addr) (F' H' : Hp) : Prop :=
  cls = .ref e.C ∧ ∃ (dd : Addr) (vs : List (Str × V)), x = some dd ∧ H' dd = some (.xd vs) ∧ vs.map (·.1) = e.fs.map (·.1) ∧ DpAll K F' (vs.map (·.2)) (e.fs.map (·.2))

def post {α : Type} (K : PySem.W.Frag) (W : WX) (c : Ct) (σ : St) (F : Hp) (G : α → Hp → Hp → Prop) : Option (R α) → Prop
  | none => False
  | some (.ok a ρ') => ∀ H' F', Ok K c σ H' F' ρ' → Same F F' → G a H' F'
  | some (.ex e ρ') => ∀ cls x H' F', Ok K c σ H' F' ρ' → Same F F' → ExR K e cls x F' H' → W cls x σ H'
section
variable {α β : Type} {K : PySem.W.Frag} {W : WX} {c : Ct} {σ : St} {F H : Hp} {ρ : En}
theorem post_weak {G : α → Hp → Hp → Prop} {F1 : Hp} (s : Same F F1) : ∀ {r : Option (R α)}, post K W c σ F G r → post K W c σ F1 G r
  | some (.ok a ρ'), h => fun H' F' ok s' => h H' F' ok (s.trans s')
  | some (.ex e ρ'), h => fun cls x H' F' ok s' => h cls x H' F' ok (s.trans s')
theorem post_mono {G G' : α → Hp → Hp → Prop} (k : ∀ a H' F', Same F F' → G a H' F' → G' a H' F') : ∀ {r : Option (R α)}, post K W c σ F G r → post K W c σ F G' r
  | some (.ok a ρ'), h => fun H' F' ok s => k a H' F' s (h H' F' ok s)
  | some (.ex e ρ'), h => h
theorem post_bind {G : β → Hp → Hp → Prop} {m : M α} {f : α → M β} (h : post K W c σ F G (mBind m f ρ)) :
    post K W c σ F (fun a H1 F1 => ∃ ρ1, Ok K c σ H1 F1 ρ1 ∧ Same F F1 ∧ post K W c σ F1 G (f a ρ1)) (m ρ) := by
  unfold mBind at h
  cases e : m ρ with
  | none => rw [e] at h; exact h
  | some r =>
    rw [e] at h
    cases r with
    | ok a ρ' => exact fun H' F' ok s => ⟨ρ', ok, s, post_weak s h⟩
    | ex x ρ' => exact h
theorem post_ok {G : α → Hp → Hp → Prop} {a : α} (h : post K W c σ F G (some (.ok a ρ))) (ok : Ok K c σ H F ρ) : G a H F := h H F ok (Same.refl F)
theorem post_lift {G : α → Hp → Hp → Prop} {o : Option α} (h : post K W c σ F G (mLift o ρ)) : ∃ a, o = some a ∧ post K W c σ F G (some (.ok a ρ)) := by
  unfold mLift at h
  cases o with
  | none => exact h.elim
  | some a => exact ⟨a, rfl, h⟩
end
/-! ### the judgements -/
abbrev qE (K : PySem.W.Frag) (Q : VK) : D → Hp → Hp → Prop := fun d H' F' => ∀ v, Dp K F' v d → Q v H'
abbrev qT (Q : Bool → Hp → Prop) : Bool → Hp → Hp → Prop := fun b H' _ => Q b H'
abbrev qA (K : PySem.W.Frag) (Q : List V → Hp → Prop) : List D → Hp → Hp → Prop := fun ds H' F' => ∀ vs, DpAll K F' vs ds → Q vs H'
def Pk (K : PySem.W.Frag) (H F : Hp) (x : V) (a : D) : Prop := Dp K F x a ∨ ∃ (p : Addr) (vs : List V) (ds : List D), x = .ref p ∧ a = .list ds ∧ H p = some (.lst vs) ∧ DpAll K F vs ds
abbrev qP (K : PySem.W.Frag) (Q : VK) : D → Hp → Hp → Prop := fun d H' F' => ∀ v, Pk K H' F' v d → Q v H'
def tE (K : PySem.W.Frag) (W : WX) (m : M D) : TE := fun σ H Q => ∃ c F ρ, Ok K c σ H F ρ ∧ post K W c σ F (qE K Q) (m ρ)
/-- a value that may be a slot's own list: looked at, then gone -/
def tP (K : PySem.W.Frag) (W : WX) (m : M D) : TE := fun σ H Q => ∃ c F ρ, Ok K c σ H F ρ ∧ post K W c σ F (qP K Q) (m ρ)
def tT (K : PySem.W.Frag) (W : WX) (m : M Bool) : TT := fun σ H Q => ∃ c F ρ, Ok K c σ H F ρ ∧ post K W c σ F (qT Q) (m ρ)
def tA (K : PySem.W.Frag) (W : WX) (m : M (List D)) : TA := fun σ H Q => ∃ c F ρ, Ok K c σ H F ρ ∧ post K W c σ F (qA K Q) (m ρ)
inductive Fl where
  | nx | bk | ct
  | rt (d : D)
  | rf (ds : List D)
def postS (K : PySem.W.Frag) (W : WX) (c : Ct) (F : Hp) (Dn : Ends) : Option (R Fl) → Prop
  | none => False
  | some (.ok .nx ρ') => ∀ σ' H' F', Ok K c σ' H' F' ρ' → Same F F' → Dn.nx σ' H'
  | some (.ok .bk ρ') => ∀ σ' H' F', Ok K c σ' H' F' ρ' → Same F F' → Dn.bk σ' H'
  | some (.ok .ct ρ') => ∀ σ' H' F', Ok K c σ' H' F' ρ' → Same F F' → Dn.ct σ' H'
  | some (.ok (.rt d) ρ') => ∀ σ' v H' F', Ok K c σ' H' F' ρ' → Same F F' → Dp K F' v d → Dn.rt v H'
  | some (.ok (.rf ds) ρ') => ∀ σ' p vs H' F', Ok K c σ' H' F' ρ' → Same F F' → H' p = some (.lst vs) → DpAll K F' vs ds → F' p = none → c.H0 p = none → Dn.rt (.ref p) H'
  | some (.ex e ρ') => ∀ σ' cls x H' F', Ok K c σ' H' F' ρ' → Same F F' → ExR K e cls x F' H' → W cls x σ' H'
def tS (K : PySem.W.Frag) (W : WX) (m : M Fl) : TS := fun Dn σ H => ∃ c F ρ, Ok K c σ H F ρ ∧ postS K W c F Dn (m ρ)
/-- a store: of a value, by a target -/
def postG (K : PySem.W.Frag) (W : WX) (c : Ct) (F : Hp) (Q : St → Hp → Prop) : Option (R Unit) → Prop
  | none => False
  | some (.ok _ ρ') => ∀ σ' H' F', Ok K c σ' H' F' ρ' → Same F F' → Q σ' H'
  | some (.ex e ρ') => ∀ σ' cls x H' F', Ok K c σ' H' F' ρ' → Same F F' → ExR K e cls x F' H' → W cls x σ' H'
def tG (K : PySem.W.Frag) (W : WX) (g : D → M Unit) : TG := fun v σ H Q => ∃ c F ρ d, Ok K c σ H F ρ ∧ Dp K F v d ∧ postG K W c F Q (g d ρ)
def tGs (K : PySem.W.Frag) (W : WX) (g : List D → M Unit) : TGs := fun vs σ H Q => ∃ c F ρ ds, Ok K c σ H F ρ ∧ DpAll K F vs ds ∧ postG K W c F Q (g ds ρ)
section
variable {X : Cx} {e : Expr} {es : List Expr} {st : Stmt} {sts : List Stmt}
theorem PE.imp {t t' : TE} (h : PE X e t) (k : ∀ σ H Q, t' σ H Q → t σ H Q) : PE X e t' := ⟨fun pins s σ H Q I q => h.run pins s σ H Q I (k σ H Q q)⟩
theorem PT.imp {t t' : TT} (h : PT X e t) (k : ∀ σ H Q, t' σ H Q → t σ H Q) : PT X e t' := ⟨fun pins s σ H Q I q => h.run pins s σ H Q I (k σ H Q q)⟩
theorem PA.imp {t t' : TA} (h : PA X es t) (k : ∀ σ H Q, t' σ H Q → t σ H Q) : PA X es t' := ⟨fun pos pins s σ H Q I q => h.run pos pins s σ H Q I (k σ H Q q)⟩
theorem PS.imp {t t' : TS} (h : PS X st t) (k : ∀ Dn σ H, t' Dn σ H → t Dn σ H) : PS X st t' := ⟨fun pins s σ H Dn I q => h.run pins s σ H Dn I (k Dn σ H q)⟩
theorem PSs.imp {t t' : TS} (h : PSs X sts t) (k : ∀ Dn σ H, t' Dn σ H → t Dn σ H) : PSs X sts t' := ⟨fun pins s σ H Dn I q => h.run pins s σ H Dn I (k Dn σ H q)⟩
theorem PG.imp {t t' : TG} (h : PG X e t) (k : ∀ v σ H Q, t' v σ H Q → t v σ H Q) : PG X e t' := ⟨fun pins s σ H v u Q I r q => h.run pins s σ H v u Q I r (k v σ H Q q)⟩
theorem PGs.imp {t t' : TGs} (h : PGs X es t) (k : ∀ v σ H Q, t' v σ H Q → t v σ H Q) : PGs X es t' := ⟨fun pins s σ H v u Q I r q => h.run pins s σ H v u Q I r (k v σ H Q q)⟩
theorem PI.imp {tg : Expr} {t t' : TI} (h : PI X tg e t) (k : ∀ σ H Q, t' σ H Q → t σ H Q) : PI X tg e t' := ⟨fun pins s σ H Q I q => h.run pins s σ H Q I (k σ H Q q)⟩
end
section
variable {K : PySem.W.Frag} {W : WX} {c : Ct} {σ : St} {F H : Hp} {ρ : En}
theorem postS_weak {Dn : Ends} {F1 : Hp} (s : Same F F1) : ∀ {r : Option (R Fl)}, postS K W c F Dn r → postS K W c F1 Dn r
  | some (.ok .nx ρ'), h => fun σ' H' F' ok s' => h σ' H' F' ok (s.trans s')
  | some (.ok .bk ρ'), h => fun σ' H' F' ok s' => h σ' H' F' ok (s.trans s')
  | some (.ok .ct ρ'), h => fun σ' H' F' ok s' => h σ' H' F' ok (s.trans s')
  | some (.ok (.rt d) ρ'), h => fun σ' v H' F' ok s' => h σ' v H' F' ok (s.trans s')
  | some (.ok (.rf d) ρ'), h => fun σ' p v H' F' ok s' => h σ' p v H' F' ok (s.trans s')
  | some (.ex e ρ'), h => fun σ' cls x H' F' ok s' => h σ' cls x H' F' ok (s.trans s')
theorem postG_weak {Q : St → Hp → Prop} {F1 : Hp} (s : Same F F1) : ∀ {r : Option (R Unit)}, postG K W c F Q r → postG K W c F1 Q r
  | some (.ok _ ρ'), h => fun σ' H' F' ok s' => h σ' H' F' ok (s.trans s')
  | some (.ex e ρ'), h => fun σ' cls x H' F' ok s' => h σ' cls x H' F' ok (s.trans s')
/-- an expression ahead of what is stated of a statement -/
theorem postS_bind {α : Type} {Dn : Ends} {m : M α} {f : α → M Fl} (h : postS K W c F Dn (mBind m f ρ)) :
    post K W c σ F (fun a H1 F1 => ∃ ρ1, Ok K c σ H1 F1 ρ1 ∧ Same F F1 ∧ postS K W c F1 Dn (f a ρ1)) (m ρ) := by
  unfold mBind at h
  cases e : m ρ with
  | none => rw [e] at h; exact h.elim
  | some r =>
    rw [e] at h
    cases r with
    | ok a ρ' => exact fun H' F' ok s => ⟨ρ', ok, s, postS_weak s h⟩
    | ex x ρ' => exact fun cls y H' F' ok s q => h σ cls y H' F' ok s q
theorem postG_bind {α : Type} {Q : St → Hp → Prop} {m : M α} {f : α → M Unit} (h : postG K W c F Q (mBind m f ρ)) :
    post K W c σ F (fun a H1 F1 => ∃ ρ1, Ok K c σ H1 F1 ρ1 ∧ Same F F1 ∧ postG K W c F1 Q (f a ρ1)) (m ρ) := by
  unfold mBind at h
  cases e : m ρ with
  | none => rw [e] at h; exact h.elim
  | some r =>
    rw [e] at h
    cases r with
    | ok a ρ' => exact fun H' F' ok s => ⟨ρ', ok, s, postG_weak s h⟩
    | ex x ρ' => exact fun cls y H' F' ok s q => h σ cls y H' F' ok s q
/-- a store ahead of what is stated of a statement, of a store -/
theorem postG_mono {Q Q' : St → Hp → Prop} (k : ∀ σ' H', Q σ' H' → Q' σ' H') : ∀ {r : Option (R Unit)}, postG K W c F Q r → postG K W c F Q' r
  | some (.ok _ ρ'), h => fun σ' H' F' ok s' => k _ _ (h σ' H' F' ok s')
  | some (.ex e ρ'), h => h
theorem postS_bindG {Dn : Ends} {m : M Unit} {f : Unit → M Fl} (h : postS K W c F Dn (mBind m f ρ)) :
    postG K W c F (fun σ1 H1 => ∃ F1 ρ1, Ok K c σ1 H1 F1 ρ1 ∧ Same F F1 ∧ postS K W c F1 Dn (f () ρ1)) (m ρ) := by
  unfold mBind at h
  cases e : m ρ with
  | none => rw [e] at h; exact h.elim
  | some r =>
    rw [e] at h
    cases r with
    | ok a ρ' => exact fun σ' H' F' ok s => ⟨F', ρ', ok, s, postS_weak s h⟩
    | ex x ρ' => exact h
theorem postG_bindG {Q : St → Hp → Prop} {m : M Unit} {f : Unit → M Unit} (h : postG K W c F Q (mBind m f ρ)) :
    postG K W c F (fun σ1 H1 => ∃ F1 ρ1, Ok K c σ1 H1 F1 ρ1 ∧ Same F F1 ∧ postG K W c F1 Q (f () ρ1)) (m ρ) := by
  unfold mBind at h
  cases e : m ρ with
  | none => rw [e] at h; exact h.elim
  | some r =>
    rw [e] at h
    cases r with
    | ok a ρ' => exact fun σ' H' F' ok s => ⟨F', ρ', ok, s, postG_weak s h⟩
    | ex x ρ' => exact h
end

/-! ### what a looked-at value is -/
section
variable {K : PySem.W.Frag} {c : Ct} {σ : St} {F H : Hp} {ρ : En} {x : V}
theorem Pk.of {a : D} (h : Dp K F x a) : Pk K H F x a := .inl h
theorem Pk.dp {a : D} (s : Same F H) (h : Pk K H F x a) : L2.Dp K H x a := by
  rcases h with h | ⟨p, vs, ds, rfl, rfl, h, r⟩
  · exact Dp.l2 (Dp.mono s h)
  · exact .lst (SqL.of h) (DpAll.l2 (DpAll.mono s r))
theorem Pk.rd {ds : List D} (s : Same F H) (h : Pk K H F x (.list ds)) : ∃ p vs, x = .ref p ∧ Rd H p (.lst vs) ∧ DpAll K F vs ds := by
  rcases h with h | ⟨p, vs, es, rfl, e, h, r⟩
  · cases h with
    | lst h r => exact ⟨_, _, rfl, Rd.mono s h, r⟩
  · cases e
    exact ⟨p, vs, rfl, .inl h, r⟩
theorem Pk.lst {ds : List D} (s : Same F H) (h : Pk K H F x (.list ds)) : ∃ p vs, x = .ref p ∧ SqL K H p vs ∧ DpAll K F vs ds := by
  rcases h with h | ⟨p, vs, es, rfl, e, h, r⟩
  · cases h with
    | lst h r => exact ⟨_, _, rfl, .inl (Rd.mono s h), r⟩
  · cases e
    exact ⟨p, vs, rfl, SqL.of h, r⟩
theorem Pk.tup {ds : List D} (s : Same F H) (h : Pk K H F x (.tuple ds)) : ∃ p vs, x = .ref p ∧ SqT K H p vs ∧ DpAll K F vs ds := by
  rcases h with h | ⟨p, vs, es, rfl, e, h, r⟩
  · cases h with
    | tup h r => exact ⟨_, _, rfl, SqT.mono s h, r⟩
  · cases e
theorem Pk.int {i : Int} (h : Pk K H F x (.int i)) : x = .int i := by
  rcases h with h | ⟨p, vs, es, rfl, e, h, r⟩
  · cases h; rfl
  · cases e
theorem Pk.bool {i : Bool} (h : Pk K H F x (.bool i)) : x = .bl i := by
  rcases h with h | ⟨p, vs, es, rfl, e, h, r⟩
  · cases h; rfl
  · cases e
theorem Pk.str {i : Str} (h : Pk K H F x (.str i)) : x = .str i := by
  rcases h with h | ⟨p, vs, es, rfl, e, h, r⟩
  · cases h; rfl
  · cases e
theorem Pk.none (h : Pk K H F x .none) : x = .non := by
  rcases h with h | ⟨p, vs, es, rfl, e, h, r⟩
  · cases h; rfl
  · cases e
end

/-! ### names -/
def mVar (i : Nat) : M D := fun ρ => match ρ[i]? with
  | some (.val d) => some (.ok d ρ)
  | some (.own ds) => some (.ok (.list ds) (ρ.set i (.val (.list ds))))
  | _ => none
def mPeek (i : Nat) : M D := fun ρ => match ρ[i]? with
  | some (.val d) => some (.ok d ρ)
  | some (.own ds) => some (.ok (.list ds) ρ)
  | some (.io ds) => some (.ok (.list ds) ρ)
  | _ => none
section
variable {X : Cx} {K : PySem.W.Frag} {W : WX} {c : Ct} {σ : St} {F H : Hp} {ρ : En}
theorem peek_at {i : Nat} {Q : VK} (ok : Ok K c σ H F ρ) (h : post K W c σ F (qP K Q) (mPeek i ρ)) : ∃ v d, σ[i]? = some (some v) ∧ Pk K H F v d ∧ mPeek i ρ = some (.ok d ρ) ∧ Q v H := by
  unfold mPeek at h ⊢
  split at h
  · rename_i d e
    obtain ⟨v, a1, a2⟩ := ok.val i d e
    exact ⟨v, d, a1, .inl a2, rfl, h H F ok (Same.refl F) v (.inl a2)⟩
  · rename_i ds e
    obtain ⟨p, vs, a1, a2, a3, _⟩ := ok.own i ds e
    have q : Pk K H F (.ref p) (.list ds) := .inr ⟨p, vs, ds, rfl, rfl, a2, a3⟩
    exact ⟨.ref p, _, a1, q, rfl, h H F ok (Same.refl F) _ q⟩
  · rename_i ds e
    obtain ⟨_, p, vs, _, a1, a2, a3⟩ := ok.ios i ds e
    have q : Pk K H F (.ref p) (.list ds) := .inr ⟨p, vs, ds, rfl, rfl, a2, a3⟩
    exact ⟨.ref p, _, a1, q, rfl, h H F ok (Same.refl F) _ q⟩
  · exact h.elim
theorem tVar_of {i : Nat} {Q : VK} (h : tE K W (mVar i) σ H Q) : tVar i σ H Q := by
  obtain ⟨c, F, ρ, ok, h⟩ := h
  unfold mVar at h
  split at h
  · rename_i d e
    obtain ⟨v, a1, a2⟩ := ok.val i d e
    exact ⟨v, a1, h H F ok (Same.refl F) v a2⟩
  · rename_i ds e
    obtain ⟨F', p, s, a1, a2, ok'⟩ := ok.frz e
    exact ⟨.ref p, a1, h H F' ok' s _ a2⟩
  · exact h.elim
theorem tVar_ofP {i : Nat} {Q : VK} (h : tP K W (mPeek i) σ H Q) : tVar i σ H Q := by
  obtain ⟨c, F, ρ, ok, h⟩ := h
  obtain ⟨v, d, a1, _, _, q⟩ := peek_at ok h
  exact ⟨v, a1, q⟩
theorem tP_of {m : M D} {Q : VK} (h : tP K W m σ H Q) : tE K W m σ H Q := by
  obtain ⟨c, F, ρ, ok, h⟩ := h
  exact ⟨c, F, ρ, ok, post_mono (fun a H' F' _ q v r => q v (.inl r)) h⟩
theorem dv (i : Nat) {x : Str} {pos : Pos} (hN : X.N[i]? = some x := by rfl) (hv : Vis X.env.scope x := by first | exact Or.inl rfl | exact Or.inr (Or.inl rfl) | exact Or.inr (Or.inr rfl)) (hd : (x == ("__debug__" : Str)) = false := by decide)
    (hcd : (x == ("__classdict__" : Str)) = false := by decide) : PE X (.Name x pos) (tE K W (mVar i)) := PE.imp (pe_var hN hv hd hcd) fun _ _ _ => tVar_of
theorem dpk (i : Nat) {x : Str} {pos : Pos} (hN : X.N[i]? = some x := by rfl) (hv : Vis X.env.scope x := by first | exact Or.inl rfl | exact Or.inr (Or.inl rfl) | exact Or.inr (Or.inr rfl)) (hd : (x == ("__debug__" : Str)) = false := by decide)
    (hcd : (x == ("__classdict__" : Str)) = false := by decide) : PE X (.Name x pos) (tP K W (mPeek i)) := PE.imp (pe_var hN hv hd hcd) fun _ _ _ => tVar_ofP
/-- any value may be looked at -/
theorem dP {e : Expr} {m : M D} (h : PE X e (tE K W m)) : PE X e (tP K W m) := PE.imp h fun _ _ _ => tP_of
/-! constants -/
theorem tC_of {v : V} {d : D} {Q : VK} (r : ∀ F, Dp K F v d) (h : tE K W (mPure d) σ H Q) : tC v σ H Q := by
  obtain ⟨c, F, ρ, ok, h⟩ := h
  exact h H F ok (Same.refl F) v (r F)
theorem dInt {i : Int} {j pos} : PE X (.Constant (.int i) j pos) (tE K W (mPure (.int i))) := PE.imp pe_int fun _ _ _ => tC_of fun _ => .int i
theorem dBl {b : Bool} {j pos} : PE X (.Constant (.bool b) j pos) (tE K W (mPure (.bool b))) := PE.imp pe_bl fun _ _ _ => tC_of fun _ => .bl b
theorem dNon {j pos} : PE X (.Constant .none j pos) (tE K W (mPure .none)) := PE.imp pe_non fun _ _ _ => tC_of fun _ => .non
theorem dStr {x : Str} {j pos} : PE X (.Constant (.str x) j pos) (tE K W (mPure (.str x))) := PE.imp pe_str fun _ _ _ => tC_of fun _ => .str x
/-- what the run never comes to -/
theorem dNever {e : Expr} : PE X e (tE K W mStuck) := ⟨fun _ _ _ _ _ _ h => by obtain ⟨_, _, _, _, h⟩ := h; exact h.elim⟩
theorem dNeverS {st : Stmt} : PS X st (tS K W mStuck) := ⟨fun _ _ _ _ _ _ h => by obtain ⟨_, _, _, _, h⟩ := h; exact h.elim⟩

/-! ### two values, and what comes of them -/
/-- a rule of the layer serves g -/
def OpD (K : PySem.W.Frag) (r : R2) (g : D → D → Option D) : Prop :=
  ∀ {W : WX} {c : Ct} {σ : St} {H F : Hp} {ρ : En} {x y : V} {a b d : D} {Q : VK}, Ok K c σ H F ρ → Pk K H F x a → Pk K H F y b → g a b = some d → post K W c σ F (qE K Q) (some (.ok d ρ)) → r x y H Q
def mBin (g : D → D → Option D) (ma mb : M D) : M D := mBind ma fun a => mBind mb fun b => mLift (g a b)
theorem post_peek {α : Type} {i : Nat} {G : α → Hp → Hp → Prop} {f : D → M α} (ok : Ok K c σ H F ρ) (h : post K W c σ F G (mBind (mPeek i) f ρ)) : ∃ v d, σ[i]? = some (some v) ∧ Pk K H F v d ∧ post K W c σ F G (f d ρ) := by
  unfold mBind mPeek at h
  cases e : ρ[i]? with
  | none => rw [e] at h; exact h.elim
  | some u =>
    rw [e] at h
    cases u with
    | un => exact h.elim
    | val d =>
      obtain ⟨v, a1, a2⟩ := ok.val i d e
      exact ⟨v, d, a1, .inl a2, h⟩
    | own ds =>
      obtain ⟨p, vs, a1, a2, a3, _⟩ := ok.own i ds e
      exact ⟨.ref p, _, a1, .inr ⟨p, vs, ds, rfl, rfl, a2, a3⟩, h⟩
    | io ds =>
      obtain ⟨_, p, vs, _, a1, a2, a3⟩ := ok.ios i ds e
      exact ⟨.ref p, _, a1, .inr ⟨p, vs, ds, rfl, rfl, a2, a3⟩, h⟩
    | scr ns => exact h.elim
/-- the left one is a slot, read behind the right one -/
def mBinL (g : D → D → Option D) (i : Nat) (mb : M D) : M D := mBind (mPeek i) fun _ => mBind mb fun b => mBind (mPeek i) fun a => mLift (g a b)
theorem tOp_of {r : R2} {g : D → D → Option D} (ho : OpD K r g) {ma mb : M D} {Q : VK} (h : tE K W (mBin g ma mb) σ H Q) : tOp r (tE K W ma) (tP K W mb) σ H Q := by
  obtain ⟨c, F, ρ, ok, h⟩ := h
  refine ⟨c, F, ρ, ok, post_mono ?_ (post_bind h)⟩
  rintro a H1 F1 _ ⟨ρ1, ok1, s1, h1⟩ x rx
  refine ⟨c, F1, ρ1, ok1, post_mono ?_ (post_bind h1)⟩
  rintro b H2 F2 s2' ⟨ρ2, ok2, s2, h2⟩ y ry
  obtain ⟨d, e, h3⟩ := post_lift h2
  exact ho ok2 (.inl (Dp.mono s2 rx)) ry e h3
theorem tOp_ofL {r : R2} {g : D → D → Option D} (ho : OpD K r g) {i : Nat} {mb : M D} {Q : VK} (h : tE K W (mBinL g i mb) σ H Q) : tOp r (tVar i) (tP K W mb) σ H Q := by
  obtain ⟨c, F, ρ, ok, h⟩ := h
  obtain ⟨v, _, ev, _, h⟩ := post_peek ok h
  refine ⟨v, ev, c, F, ρ, ok, post_mono ?_ (post_bind h)⟩
  rintro b H2 F2 _ ⟨ρ2, ok2, s2, h2⟩ y ry
  obtain ⟨v', a, ev', pk, h3⟩ := post_peek ok2 h2
  obtain ⟨d, e, h4⟩ := post_lift h3
  have ee : v' = v := by rw [ev] at ev'; cases ev'; rfl
  subst ee
  exact ho ok2 pk ry e h4
end
end Dd

namespace Dd
open PySem PySem.Spec L2
section
variable {K : PySem.W.Frag}
/-! ### operators -/
def fit (n : Nat) : Bool := decide (n ≤ 16000000)
theorem fit_le {n : Nat} (h : fit n = true) : n ≤ sizeLine := by
  have := of_decide_eq_true h
  rw [sizeLine_eq]; omega
theorem fit_lt {n : Nat} (h : fit n = true) : n < sizeLine := by
  have := of_decide_eq_true h
  rw [sizeLine_eq]; omega
/-- ints -/
def iI (f : Int → Int → D) : D → D → Option D
  | .int i, .int j => some (f i j)
  | _, _ => none
def iIc (C : Int → Int → Bool) (f : Int → Int → D) : D → D → Option D
  | .int i, .int j => if C i j = true then some (f i j) else none
  | _, _ => none
theorem opD_I {g : Int → Int → V} {f : Int → Int → D} (h : ∀ F i j, Dp K F (g i j) (f i j)) : OpD K (rI0 g) (iI f) := by
  intro W c σ H F ρ x y a b d Q ok rx ry e q
  unfold iI at e
  split at e
  · rename_i i j
    cases e
    exact ⟨i, j, rx.int, ry.int, post_ok q ok _ (h F i j)⟩
  · cases e
theorem opD_Ic {Cp : Int → Int → Prop} {C : Int → Int → Bool} {g : Int → Int → V} {f : Int → Int → D} (hC : ∀ i j, C i j = true → Cp i j) (h : ∀ F i j, Dp K F (g i j) (f i j)) : OpD K (rI Cp g) (iIc C f) := by
  intro W c σ H F ρ x y a b d Q ok rx ry e q
  unfold iIc at e
  split at e
  · rename_i i j
    split at e
    · rename_i hc
      cases e
      exact ⟨i, j, rx.int, ry.int, hC i j hc, post_ok q ok _ (h F i j)⟩
    · cases e
  · cases e
/-- one rule or another -/
def oOr (g g' : D → D → Option D) : D → D → Option D := fun a b => match g a b with
  | some d => some d
  | none => g' a b
theorem opD_or {r r' : R2} {g g' : D → D → Option D} (h : OpD K r g) (h' : OpD K r' g') : OpD K (fun x y H Q => r x y H Q ∨ r' x y H Q) (oOr g g') := by
  intro W c σ H F ρ x y a b d Q ok rx ry e q
  unfold oOr at e
  split at e
  · rename_i d' e'
    cases e
    exact .inl (h ok rx ry e' q)
  · exact .inr (h' ok rx ry e q)
/-- a new list, a new tuple -/
theorem new_lst {W : WX} {c : Ct} {σ : St} {H F : Hp} {ρ : En} {Q : VK} {vs : List V} {ds : List D} (ok : Ok K c σ H F ρ) (hd : DpAll K F vs ds) (q : post K W c σ F (qE K Q) (some (.ok (.list ds) ρ))) (p : Addr) (hp : H p = none) :
    Q (.ref p) (upd H p (.lst vs)) :=
  q _ _ (ok.alloc hp) (Same.updN (ok.new hp).1) _ (.lst (.inl upd_same) (DpAll.mono (Same.updN (ok.new hp).1) hd))
theorem new_tup {W : WX} {c : Ct} {σ : St} {H F : Hp} {ρ : En} {Q : VK} {vs : List V} {ds : List D} (ok : Ok K c σ H F ρ) (hd : DpAll K F vs ds) (q : post K W c σ F (qE K Q) (some (.ok (.tuple ds) ρ))) (p : Addr) (hp : H p = none) :
    Q (.ref p) (upd H p (.tup vs)) :=
  q _ _ (ok.alloc hp) (Same.updN (ok.new hp).1) _ (.tup (SqT.of upd_same) (DpAll.mono (Same.updN (ok.new hp).1) hd))

theorem sq_raw {X : Cx} {pins : List (Addr × Obj)} {σ : St} {H : Hp} {s : Shared} {a : Addr} {xs : List V} (I : Inv X pins σ H s) (h : Rd H a (.lst xs)) :
    xs.length ≤ sizeLine ∧ ∃ (its : List Value) (n : Nat), Vals xs its ∧ xs.length = its.length ∧ s.heap.get? a = some { cls := .type "list", data := .seq its.toArray n } := by
  have q : ObjOk X.prog X.w H s.heap a (.lst xs) := h.ok I.hok
  obtain ⟨z, its, n, r, e⟩ := q
  exact ⟨z, its, n, r, r.length, e⟩
/-- list + list, any -/
def rCatS : R2 := fun x y H Q => ∃ l b xs zs, x = .ref l ∧ y = .ref b ∧ Rd H l (.lst xs) ∧ Rd H b (.lst zs) ∧ xs.length + zs.length ≤ sizeLine ∧ ∀ p, H p = none → Q (.ref p) (upd H p (.lst (xs ++ zs)))
theorem op_catS {X : Cx} : OpR X (binaryOp .Add) rCatS := by
  intro pins s σ H x y v u Q I rx ry h
  obtain ⟨l, b, xs, zs, rfl, rfl, hH, hB, hz, q⟩ := h
  cases rx
  cases ry
  obtain ⟨z, its, n, r, hl, e⟩ := sq_raw I hH
  obtain ⟨z2, its2, n2, r2, hl2, e2⟩ := sq_raw I hB
  refine PySem.P.add_list e e2 ?_ (by rw [List.size_toArray, List.size_toArray]; omega)
  have ea : its.toArray ++ its2.toArray = (its ++ its2).toArray := by simp
  rw [ea]
  exact ⟨.ref _, _, I.lnew (t' := s.toks) (r.append r2) (by rw [List.length_append]; omega), rfl, q _ I.fresh⟩
def catL : D → D → Option D
  | .list xs, .list ys => if fit (xs.length + ys.length) = true then some (.list (xs ++ ys)) else none
  | _, _ => none
def catT : D → D → Option D
  | .tuple xs, .tuple ys => if (!xs.isEmpty && fit (xs.length + ys.length)) = true then some (.tuple (xs ++ ys)) else none
  | _, _ => none
def catS : D → D → Option D
  | .str x, .str y => if fit (x.length + y.length) = true then some (.str (x ++ y)) else none
  | _, _ => none
theorem opD_catL : OpD K rCatS catL := by
  intro W c σ H F ρ x y a b d Q ok rx ry e q
  unfold catL at e
  split at e
  · rename_i xs ys
    split at e
    · rename_i hc
      cases e
      obtain ⟨p, vs, rfl, hp, dp⟩ := Pk.rd ok.sub rx
      obtain ⟨p2, vs2, rfl, hp2, dp2⟩ := Pk.rd ok.sub ry
      exact ⟨p, p2, vs, vs2, rfl, rfl, hp, hp2, by rw [DpAll.length dp, DpAll.length dp2]; exact fit_le hc, fun p hp => new_lst ok (DpAll.append dp dp2) q p hp⟩
    · cases e
  · cases e
theorem opD_catT : OpD K (rCatT K) catT := by
  intro W c σ H F ρ x y a b d Q ok rx ry e q
  unfold catT at e
  split at e
  · rename_i xs ys
    split at e
    · rename_i hc
      cases e
      obtain ⟨p, vs, rfl, hp, dp⟩ := Pk.tup ok.sub rx
      obtain ⟨p2, vs2, rfl, hp2, dp2⟩ := Pk.tup ok.sub ry
      rw [Bool.and_eq_true] at hc
      refine ⟨p, p2, vs, vs2, rfl, rfl, hp, hp2, fun z => ?_, by rw [DpAll.length dp, DpAll.length dp2]; exact fit_le hc.2, fun z => ?_, fun z p hp => new_tup ok (DpAll.append dp dp2) q p hp⟩
      · subst z
        cases dp
        simp at hc
      · subst z
        cases dp2
        rw [List.append_nil] at q
        rcases rx with rx | ⟨_, _, _, _, e, _⟩
        · exact post_ok q ok _ rx
        · cases e
    · cases e
  · cases e
def rAddStr : R2 := fun x y H Q => ∃ i j, x = .str i ∧ y = .str j ∧ i.length + j.length ≤ sizeLine ∧ Q (.str (i ++ j)) H
theorem opD_catS : OpD K rAddStr catS := by
  intro W c σ H F ρ x y a b d Q ok rx ry e q
  unfold catS at e
  split at e
  · rename_i i j
    split at e
    · rename_i hc
      cases e
      exact ⟨i, j, rx.str, ry.str, fit_le hc, post_ok q ok _ (.str _)⟩
    · cases e
  · cases e
def addD : D → D → Option D := oOr (iI fun i j => .int (i + j)) (oOr catL (oOr catT catS))
def rAddA (K : PySem.W.Frag) : R2 := fun x y H Q => rI0 (fun i j => .int (i + j)) x y H Q ∨ (rCatS x y H Q ∨ (rCatT K x y H Q ∨ rAddStr x y H Q))
theorem opD_add : OpD K (rAddA K) addD := opD_or (opD_I fun _ _ _ => .int _) (opD_or opD_catL (opD_or opD_catT opD_catS))
theorem or_addA {X : Cx} : OpR X (binaryOp .Add) (rAddA X.K) := OpR.or op_add (OpR.or op_catS (OpR.or op_catT op_add_str))
def subD : D → D → Option D := iI fun i j => .int (i - j)
theorem opD_sub : OpD K (rI0 fun i j => .int (i - j)) subD := opD_I fun _ _ _ => .int _
/-- * of ints, one of them small; of a list by an int -/
def cMul (i j : Int) : Bool := decide (i.natAbs < 18446744073709551616) || decide (j.natAbs < 18446744073709551616)
theorem cMul_ok (i j : Int) (h : cMul i j = true) : CMul i j := by
  unfold cMul at h
  simp only [Bool.or_eq_true, decide_eq_true_eq] at h
  exact h.imp (fun q => by omega) (fun q => by omega)
def mulI : D → D → Option D := iIc cMul fun i j => .int (i * j)
def cDiv (_ j : Int) : Bool := decide (0 < j) && decide (j.natAbs < 1152921504606846976)
theorem cDiv_ok (i j : Int) (h : cDiv i j = true) : CDivW i j := by
  unfold cDiv at h
  simp only [Bool.and_eq_true, decide_eq_true_eq] at h
  exact wide_div (b := 60) h.1 h.2 (by decide) (by decide)
def divD : D → D → Option D := iIc cDiv fun i j => .int (i / j)
theorem opD_div : OpD K (rI CDivW fun i j => .int (i / j)) divD := opD_Ic cDiv_ok fun _ _ _ => .int _
def cMod (_ j : Int) : Bool := decide (0 < j)
def modD : D → D → Option D := iIc cMod fun i j => .int (i % j)
theorem opD_mod : OpD K (rI (fun _ j => 0 < j) fun i j => .int (i % j)) modD := opD_Ic (fun _ _ h => of_decide_eq_true h) fun _ _ _ => .int _
def cPow (i j : Int) : Bool := decide (0 ≤ j) && decide (j ≤ 1000000) && decide (i.natAbs < 2 ^ 64)
def powD : D → D → Option D := iIc cPow fun i j => .int (i ^ j.toNat)
theorem opD_pow : OpD K (rI CPow fun i j => .int (i ^ j.toNat)) powD := opD_Ic (fun i j h => by
  unfold cPow at h
  simp only [Bool.and_eq_true, decide_eq_true_eq] at h
  exact ⟨h.1.1, h.1.2, h.2⟩) fun _ _ _ => .int _
def rRepL : R2 := fun x y H Q => ∃ l k xs, x = .ref l ∧ y = .int k ∧ H l = some (.lst xs) ∧ -(2 ^ 63) ≤ k ∧ k < 2 ^ 63 ∧ xs.length * k.toNat ≤ sizeLine ∧
  ∀ p, H p = none → Q (.ref p) (upd H p (.lst (List.replicate k.toNat xs).flatten))
/-- comparing -/
def ltD : D → D → Option D := iI fun i j => .bool (decide (i < j))
def leD : D → D → Option D := iI fun i j => .bool (decide (i ≤ j))
def gtD : D → D → Option D := iI fun i j => .bool (decide (j < i))
def geD : D → D → Option D := iI fun i j => .bool (decide (j ≤ i))
theorem opD_lt : OpD K (rI0 fun i j => .bl (decide (i < j))) ltD := opD_I fun _ _ _ => .bl _
theorem opD_le : OpD K (rI0 fun i j => .bl (decide (i ≤ j))) leD := opD_I fun _ _ _ => .bl _
theorem opD_gt : OpD K (rI0 fun i j => .bl (decide (j < i))) gtD := opD_I fun _ _ _ => .bl _
theorem opD_ge : OpD K (rI0 fun i j => .bl (decide (j ≤ i))) geD := opD_I fun _ _ _ => .bl _
def eqD (a b : D) : Option D := if (SeqAt.shaped a && SeqAt.shaped b) = true then some (.bool (PyData.eqv a b)) else none
def neD (a b : D) : Option D := if (SeqAt.shaped a && SeqAt.shaped b) = true then some (.bool (!PyData.eqv a b)) else none
theorem opD_eq : OpD K (rEqD K) eqD := by
  intro W c σ H F ρ x y a b d Q ok rx ry e q
  unfold eqD at e
  split at e
  · rename_i hc
    cases e
    rw [Bool.and_eq_true] at hc
    exact ⟨a, b, Pk.dp ok.sub rx, Pk.dp ok.sub ry, hc.1, hc.2, post_ok q ok _ (.bl _)⟩
  · cases e
theorem opD_ne : OpD K (rNeD K) neD := by
  intro W c σ H F ρ x y a b d Q ok rx ry e q
  unfold neD at e
  split at e
  · rename_i hc
    cases e
    rw [Bool.and_eq_true] at hc
    exact ⟨a, b, Pk.dp ok.sub rx, Pk.dp ok.sub ry, hc.1, hc.2, post_ok q ok _ (.bl _)⟩
  · cases e
def isNon : D → Bool
  | .none => true
  | _ => false
theorem isNon_of {H F : Hp} {x : V} {a : D} (h : Pk K H F x a) : decide (x = .non) = isNon a := by
  rcases h with h | ⟨p, vs, es, rfl, rfl, h, r⟩
  · cases h <;> rfl
  · rfl
def isD : D → D → Option D
  | a, .none => some (.bool (isNon a))
  | _, _ => none
def isntD : D → D → Option D
  | a, .none => some (.bool (!isNon a))
  | _, _ => none
theorem opD_is : OpD K (fun x y H Q => y = .non ∧ Q (.bl (decide (x = .non))) H) isD := by
  intro W c σ H F ρ x y a b d Q ok rx ry e q
  unfold isD at e
  split at e
  · cases e
    refine ⟨ry.none, post_ok q ok _ ?_⟩
    rw [isNon_of rx]; exact .bl _
  · cases e
theorem opD_isnt : OpD K (fun x y H Q => y = .non ∧ Q (.bl (!decide (x = .non))) H) isntD := by
  intro W c σ H F ρ x y a b d Q ok rx ry e q
  unfold isntD at e
  split at e
  · cases e
    refine ⟨ry.none, post_ok q ok _ ?_⟩
    rw [isNon_of rx]; exact .bl _
  · cases e
/-- in a list, a tuple of plain things -/
def toV : D → V
  | .none => .non
  | .bool b => .bl b
  | .int i => .int i
  | .str x => .str x
  | _ => .non
def flatD : D → Bool
  | .none | .bool _ | .int _ | .str _ => true
  | _ => false
theorem flat_of {F : Hp} {x : V} {a : D} (h : Dp K F x a) (f : flatD a = true) : x = toV a := by
  cases h <;> first | rfl | cases f
theorem flats_of {F : Hp} : ∀ {vs : List V} {ds : List D}, DpAll K F vs ds → ds.all flatD = true → vs = ds.map toV
  | _, _, .nil, _ => rfl
  | _, _, .cons h t, f => by
    simp only [List.all_cons, Bool.and_eq_true] at f
    rw [flat_of h f.1, flats_of t f.2]; rfl
def inFlat (a : D) (ds : List D) : Bool := inV (toV a) (ds.map toV)
def inOk (a : D) (ds : List D) : Bool := flatD a && ds.all flatD && flatV (toV a) && (ds.map toV).all flatV
def inD (neg : Bool) : D → D → Option D
  | a, .list ds => if inOk a ds = true then some (.bool (if neg then !inFlat a ds else inFlat a ds)) else none
  | a, .tuple ds => if inOk a ds = true then some (.bool (if neg then !inFlat a ds else inFlat a ds)) else none
  | _, _ => none
theorem opD_in (neg : Bool) : OpD K (rIn K neg) (inD neg) := by
  intro W c σ H F ρ x y a b d Q ok rx ry e q
  have go : ∀ (ds : List D) (p : Addr) (vs : List V), inOk a ds = true → DpAll K F vs ds → d = .bool (if neg then !inFlat a ds else inFlat a ds) → (SqL K H p vs ∨ SqT K H p vs) → y = .ref p → rIn K neg x y H Q := by
    intro ds p vs hc dp ed hs ey
    unfold inOk at hc
    simp only [Bool.and_eq_true] at hc
    obtain ⟨⟨⟨h1, h2⟩, h3⟩, h4⟩ := hc
    have ex : x = toV a := by
      rcases rx with rx | ⟨_, _, _, _, e', _⟩
      · exact flat_of rx h1
      · subst e'; cases h1
    have ev : vs = ds.map toV := flats_of dp h2
    subst ex ev ed
    exact ⟨p, _, ey, hs, h3, h4, post_ok q ok _ (.bl _)⟩
  unfold inD at e
  split at e
  · split at e
    · rename_i hc
      cases e
      obtain ⟨p, vs, ey, hp, dp⟩ := Pk.lst ok.sub ry
      exact go _ p vs hc dp rfl (.inl hp) ey
    · cases e
  · split at e
    · rename_i hc
      cases e
      obtain ⟨p, vs, ey, hp, dp⟩ := Pk.tup ok.sub ry
      exact go _ p vs hc dp rfl (.inr hp) ey
    · cases e
  · cases e
/-- an item by its place -/
def ixD : D → D → Option D
  | .list ds, .int i => atI ds i
  | .tuple ds, .int i => atI ds i
  | .str z, .int i => if fit z.length = true then (atI z.cps.toList i).map fun c => .str ⟨#[c]⟩ else none
  | _, _ => none
theorem atI_D {F : Hp} {vs : List V} {ds : List D} {i : Int} {d : D} (h : DpAll K F vs ds) (e : atI ds i = some d) : ∃ v, atI vs i = some v ∧ Dp K F v d := by
  unfold atI at e ⊢
  rw [DpAll.length h]
  cases q : ixN ds.length i with
  | none => rw [q] at e; cases e
  | some j =>
    rw [q] at e
    exact DpAll.getd h e
theorem opD_ix : OpD K (rIx K) ixD := by
  intro W c σ H F ρ x y a b d Q ok rx ry e q
  unfold ixD at e
  split at e
  · rename_i ds i
    obtain ⟨p, vs, rfl, hp, dp⟩ := Pk.lst ok.sub rx
    obtain ⟨v, e1, e2⟩ := atI_D dp e
    exact .inl ⟨p, vs, i, v, rfl, ry.int, hp, e1, post_ok q ok _ e2⟩
  · rename_i ds i
    obtain ⟨p, vs, rfl, hp, dp⟩ := Pk.tup ok.sub rx
    obtain ⟨v, e1, e2⟩ := atI_D dp e
    exact .inr (.inl ⟨p, vs, i, v, rfl, ry.int, hp, e1, post_ok q ok _ e2⟩)
  · rename_i z i
    split at e
    · rename_i hf
      cases q' : atI z.cps.toList i with
      | none => rw [q'] at e; cases e
      | some c' =>
        rw [q'] at e
        cases e
        exact .inr (.inr ⟨z, i, c', rx.str, ry.int, fit_le hf, q', post_ok q ok _ (.str _)⟩)
    · cases e
  · cases e
end
end Dd

namespace Dd
open PySem PySem.Spec L2
section
variable {X : Cx} {W : WX} {a b c' : Expr} {ma mb mc : M D} {pos : Pos} {σ : St} {H : Hp} {K : PySem.W.Frag}
/-! ### operators in an expression -/
theorem dOp {op : Operator} {r : R2} {g : D → D → Option D} (ho : OpR X (binaryOp op) r) (hd : OpD X.K r g) (ha : PE X a (tE X.K W ma)) (hb : PE X b (tP X.K W mb)) : PE X (.BinOp a op b pos) (tE X.K W (mBin g ma mb)) :=
  PE.imp (pe_op ho ha hb) fun _ _ _ => tOp_of hd
theorem dOpL {op : Operator} {r : R2} {g : D → D → Option D} {i : Nat} (ho : OpR X (binaryOp op) r) (hd : OpD X.K r g) (ha : PE X a (tVar i)) (hb : PE X b (tP X.K W mb)) : PE X (.BinOp a op b pos) (tE X.K W (mBinL g i mb)) :=
  PE.imp (pe_op ho ha hb) fun _ _ _ => tOp_ofL hd
theorem dCmp {op : CmpOp} {r : R2} {g : D → D → Option D} (ho : OpR X (compareOp op) r) (hd : OpD X.K r g) (hm : behindInMarks op b = false) (ha : PE X a (tE X.K W ma)) (hb : PE X b (tP X.K W mb)) : PE X (.Compare a [op] [b] pos) (tE X.K W (mBin g ma mb)) :=
  PE.imp (pe_cmpR ho ha hb hm) fun _ _ _ => tOp_of hd
theorem dCmpL {op : CmpOp} {r : R2} {g : D → D → Option D} {i : Nat} (ho : OpR X (compareOp op) r) (hd : OpD X.K r g) (hm : behindInMarks op b = false) (ha : PE X a (tVar i)) (hb : PE X b (tP X.K W mb)) : PE X (.Compare a [op] [b] pos) (tE X.K W (mBinL g i mb)) :=
  PE.imp (pe_cmpR ho ha hb hm) fun _ _ _ => tOp_ofL hd
theorem dIx (ha : PE X a (tE X.K W ma)) (hb : PE X b (tP X.K W mb)) (hs : PlainIx b := by exact fun _ _ => rfl) : PE X (.Subscript a b pos) (tE X.K W (mBin ixD ma mb)) := PE.imp (pe_ix ix_seq ha hb hs) fun _ _ _ => tOp_of opD_ix
theorem dIxL {i : Nat} (ha : PE X a (tVar i)) (hb : PE X b (tP X.K W mb)) (hs : PlainIx b := by exact fun _ _ => rfl) : PE X (.Subscript a b pos) (tE X.K W (mBinL ixD i mb)) := PE.imp (pe_ix ix_seq ha hb hs) fun _ _ _ => tOp_ofL opD_ix
/-- one value -/
def mUn (g : D → Option D) (ma : M D) : M D := mBind ma fun a => mLift (g a)
def negD : D → Option D
  | .int i => some (.int (-i))
  | _ => none
theorem dNeg (ha : PE X a (tE X.K W ma)) : PE X (.UnaryOp .USub a pos) (tE X.K W (mUn negD ma)) := by
  refine PE.imp (pe_un un_neg ha) ?_
  rintro σ H Q ⟨c, F, ρ, ok, h⟩
  refine ⟨c, F, ρ, ok, post_mono ?_ (post_bind h)⟩
  rintro d H1 F1 _ ⟨ρ1, ok1, s1, h1⟩ x rx
  obtain ⟨d', e, h2⟩ := post_lift h1
  unfold negD at e
  split at e
  · cases e
    cases rx
    exact ⟨_, rfl, post_ok (W := W) h2 ok1 _ (.int _)⟩
  · cases e
/-! ### truth -/
def truD : D → Option Bool
  | .none => some false
  | .bool b => some b
  | .int i => some (i != 0)
  | .str x => if fit x.length = true then some ((x.length : Int) != 0) else none
  | .list ds => some (!ds.isEmpty)
  | .tuple ds => some (!ds.isEmpty)
  | .dict _ => none
theorem isEmpty_dp {F : Hp} {vs : List V} {ds : List D} (h : DpAll K F vs ds) : vs.isEmpty = ds.isEmpty := by cases h <;> rfl
theorem tru_of {c : Ct} {F : Hp} {ρ : En} (ok : Ok K c σ H F ρ) {x : V} {d : D} {k : Bool} (r : Pk K H F x d) (e : truD d = some k) : TruV K x H k := by
  cases d with
  | none => cases r.none; cases e; rfl
  | bool b => cases r.bool; cases e; rfl
  | int i => cases r.int; cases e; rfl
  | str z =>
    cases r.str
    have e : (if fit z.length = true then some ((z.length : Int) != 0) else none) = some k := e
    split at e
    · rename_i hf
      cases e
      exact ⟨fit_le hf, rfl⟩
    · cases e
  | list ds =>
    obtain ⟨p, vs, rfl, hp, dp⟩ := Pk.lst ok.sub r
    cases e
    exact .inl ⟨vs, hp, by rw [isEmpty_dp dp]⟩
  | tuple ds =>
    obtain ⟨p, vs, rfl, hp, dp⟩ := Pk.tup ok.sub r
    cases e
    exact .inr (.inl ⟨vs, hp, by rw [isEmpty_dp dp]⟩)
  | dict _ => cases e
def mTru (m : M D) : M Bool := mBind m fun d => mLift (truD d)
/-- any expression but comparisons, and, or, not: by its value's truth -/
theorem dTru (ha : PE X a (tP X.K W ma)) (he : ∀ whole, isTrue a X.env whole = (do let v ← whole; standAt a.pos; holding [v] (truthy v)) := by exact fun _ => rfl) : PT X a (tT X.K W (mTru ma)) := by
  refine PT.imp (pt_truth ha he) ?_
  rintro σ H Q ⟨c, F, ρ, ok, h⟩
  refine ⟨c, F, ρ, ok, post_mono ?_ (post_bind h)⟩
  rintro d H1 F1 _ ⟨ρ1, ok1, s1, h1⟩ x rx
  obtain ⟨k, e, h2⟩ := post_lift h1
  exact ⟨k, tru_of ok1 rx e, post_ok (W := W) h2 ok1⟩
def bolD : D → Option Bool
  | .bool b => some b
  | _ => none
def mBol (m : M D) : M Bool := mBind m fun d => mLift (bolD d)
theorem tTest_of {t : TE} {m : M D} (ht : ∀ σ H Q, tE K W m σ H Q → t σ H Q) {Q : Bool → Hp → Prop} (h : tT K W (mBol m) σ H Q) : tTest t σ H Q := by
  obtain ⟨c, F, ρ, ok, h⟩ := h
  refine ht _ _ _ ⟨c, F, ρ, ok, post_mono ?_ (post_bind h)⟩
  rintro d H1 F1 _ ⟨ρ1, ok1, s1, h1⟩ x rx
  obtain ⟨k, e, h2⟩ := post_lift h1
  unfold bolD at e
  split at e
  · cases e
    cases rx
    exact ⟨_, rfl, post_ok (W := W) h2 ok1⟩
  · cases e
theorem dtCmp {op : CmpOp} {r : R2} {g : D → D → Option D} (ho : OpR X (compareOp op) r) (hd : OpD X.K r g) (hm : behindInMarks op b = false) (ha : PE X a (tE X.K W ma)) (hb : PE X b (tP X.K W mb)) : PT X (.Compare a [op] [b] pos) (tT X.K W (mBol (mBin g ma mb))) :=
  PT.imp (pt_cmpR ho ha hb hm) fun _ _ _ => tTest_of fun _ _ _ => tOp_of hd
theorem dtCmpL {op : CmpOp} {r : R2} {g : D → D → Option D} {i : Nat} (ho : OpR X (compareOp op) r) (hd : OpD X.K r g) (hm : behindInMarks op b = false) (ha : PE X a (tVar i)) (hb : PE X b (tP X.K W mb)) : PT X (.Compare a [op] [b] pos) (tT X.K W (mBol (mBinL g i mb))) :=
  PT.imp (pt_cmpR ho ha hb hm) fun _ _ _ => tTest_of fun _ _ _ => tOp_ofL hd
/-- a < b < c -/
def mChain (g g' : D → D → Option D) (ma mb mc : M D) : M D := mBind ma fun a => mBind mb fun b => mBind (mLift (g a b)) fun r => mBind (mLift (bolD r)) fun k => if k = true then mBind mc fun c => mLift (g' b c) else mPure (.bool false)
theorem tChain_of {r r' : R2} {g g' : D → D → Option D} (ho : OpD K r g) (ho' : OpD K r' g') {Q : VK} (h : tE K W (mChain g g' ma mb mc) σ H Q) : tChain r r' (tE K W ma) (tE K W mb) (tP K W mc) σ H Q := by
  obtain ⟨c, F, ρ, ok, h⟩ := h
  refine ⟨c, F, ρ, ok, post_mono ?_ (post_bind h)⟩
  rintro a H1 F1 _ ⟨ρ1, ok1, s1, h1⟩ x rx
  refine ⟨c, F1, ρ1, ok1, post_mono ?_ (post_bind h1)⟩
  rintro b H2 F2 s2' ⟨ρ2, ok2, s2, h2⟩ y ry
  obtain ⟨d, e, h3⟩ := post_lift (o := g a b) (by exact post_mono (fun _ _ _ _ q => q) (post_bind h2))
  obtain ⟨ρ3, ok3, s3, h4⟩ := post_ok (W := W) h3 ok2
  refine ho (W := W) ok3 (.inl (Dp.mono (s2.trans s3) rx)) (.inl (Dp.mono s3 ry)) e ?_
  obtain ⟨k, ek, h5⟩ := post_lift (o := bolD d) (by exact post_mono (fun _ _ _ _ q => q) (post_bind h4))
  unfold bolD at ek
  split at ek
  · rename_i k'
    cases ek
    intro H' F' ok' s' v rv
    obtain ⟨ρ4, ok4, s4, h6⟩ := h5 H' F' ok' s'
    cases rv
    refine ⟨k, rfl, ?_⟩
    cases k with
    | false =>
      rw [if_neg (by decide)] at h6 ⊢
      exact post_ok (W := W) h6 ok4 _ (.bl _)
    | true =>
      rw [if_pos rfl] at h6 ⊢
      refine ⟨c, F', ρ4, ok4, post_mono ?_ (post_bind h6)⟩
      rintro z H5 F5 _ ⟨ρ5, ok5, s5, h7⟩ w' rw'
      obtain ⟨d', e', h8⟩ := post_lift h7
      exact ho' ok5 (.inl (Dp.mono ((s3.trans s').trans s5) ry)) rw' e' h8
  · cases ek
theorem dChain {op op' : CmpOp} {r r' : R2} {g g' : D → D → Option D} (ho : OpR X (compareOp op) r) (hd : OpD X.K r g) (ho' : OpR X (compareOp op') r') (hd' : OpD X.K r' g') (ha : PE X a (tE X.K W ma)) (hb : PE X b (tE X.K W mb)) (hc : PE X c' (tP X.K W mc)) (hm : lastMarks [op, op'] [b, c'] = false := by with_unfolding_all rfl) :
    PE X (.Compare a [op, op'] [b, c'] pos) (tE X.K W (mChain g g' ma mb mc)) := PE.imp (pe_chain ho ho' ha hb hc hm) fun _ _ _ => tChain_of hd hd'
theorem dtChain {op op' : CmpOp} {r r' : R2} {g g' : D → D → Option D} (ho : OpR X (compareOp op) r) (hd : OpD X.K r g) (ho' : OpR X (compareOp op') r') (hd' : OpD X.K r' g') (ha : PE X a (tE X.K W ma)) (hb : PE X b (tE X.K W mb)) (hc : PE X c' (tP X.K W mc)) (hm : lastMarks [op, op'] [b, c'] = false := by with_unfolding_all rfl) :
    PT X (.Compare a [op, op'] [b, c'] pos) (tT X.K W (mBol (mChain g g' ma mb mc))) := PT.imp (pt_chain ho ho' ha hb hc hm) fun _ _ _ => tTest_of fun _ _ _ => tChain_of hd hd'
/-! ### and, or, not -/
def mIf {α : Type} (mc : M Bool) (ma mb : M α) : M α := mBind mc fun k => if k = true then ma else mb
def mAndT (ma mb : M Bool) : M Bool := mBind ma fun k => if k = true then mb else mPure false
def mOrT (ma mb : M Bool) : M Bool := mBind ma fun k => if k = true then mPure true else mb
def mNotT (ma : M Bool) : M Bool := mBind ma fun k => mPure (!k)
variable {ta tb : M Bool} {rest : List Expr}
theorem dtNot (ha : PT X a (tT X.K W ta)) : PT X (.UnaryOp .Not a pos) (tT X.K W (mNotT ta)) := by
  refine PT.imp (pt_not ha) ?_
  rintro σ H Q ⟨c, F, ρ, ok, h⟩
  refine ⟨c, F, ρ, ok, post_mono ?_ (post_bind h)⟩
  rintro k H1 F1 _ ⟨ρ1, ok1, s1, h1⟩
  exact post_ok (W := W) h1 ok1
theorem PW.imp {e : Expr} {t t' : TT} (h : PW X e t) (k : ∀ σ H Q, t' σ H Q → t σ H Q) : PW X e t' := ⟨fun wh pins s σ H Q I q => h.run wh pins s σ H Q I (k σ H Q q)⟩
theorem dwAnd1 (ha : PT X a (tT X.K W ta)) : PW X (.BoolOp .And [a] pos) (tT X.K W ta) := pw_and1 ha
theorem dwOr1 (ha : PT X a (tT X.K W ta)) : PW X (.BoolOp .Or [a] pos) (tT X.K W ta) := pw_or1 ha
theorem dwAnd (ha : PT X a (tT X.K W ta)) (hb : PW X (.BoolOp .And (b :: rest) pos) (tT X.K W tb)) : PW X (.BoolOp .And (a :: b :: rest) pos) (tT X.K W (mAndT ta tb)) := by
  refine PW.imp (pw_and ha hb) ?_
  rintro σ H Q ⟨c, F, ρ, ok, h⟩
  refine ⟨c, F, ρ, ok, post_mono ?_ (post_bind h)⟩
  rintro k H1 F1 _ ⟨ρ1, ok1, s1, h1⟩
  cases k with
  | true => exact ⟨c, F1, ρ1, ok1, h1⟩
  | false => exact post_ok (W := W) h1 ok1
theorem dwOr (ha : PT X a (tT X.K W ta)) (hb : PW X (.BoolOp .Or (b :: rest) pos) (tT X.K W tb)) : PW X (.BoolOp .Or (a :: b :: rest) pos) (tT X.K W (mOrT ta tb)) := by
  refine PW.imp (pw_or ha hb) ?_
  rintro σ H Q ⟨c, F, ρ, ok, h⟩
  refine ⟨c, F, ρ, ok, post_mono ?_ (post_bind h)⟩
  rintro k H1 F1 _ ⟨ρ1, ok1, s1, h1⟩
  cases k with
  | true => exact post_ok (W := W) h1 ok1
  | false => exact ⟨c, F1, ρ1, ok1, h1⟩
/-- .. as values -/
def mAnd (ma mb : M D) : M D := mBind ma fun a => mBind (mLift (truD a)) fun k => if k = true then mb else mPure a
def mOr (ma mb : M D) : M D := mBind ma fun a => mBind (mLift (truD a)) fun k => if k = true then mPure a else mb
def mNot (ma : M D) : M D := mBind ma fun a => mBind (mLift (truD a)) fun k => mPure (.bool (!k))
theorem dOne {op : BoolOp} (ha : PE X a (tE X.K W ma)) : PE X (.BoolOp op [a] pos) (tE X.K W ma) := pe_one ha
theorem dAnd (ha : PE X a (tE X.K W ma)) (hb : PE X (.BoolOp .And (b :: rest) pos) (tE X.K W mb)) : PE X (.BoolOp .And (a :: b :: rest) pos) (tE X.K W (mAnd ma mb)) := by
  refine PE.imp (pe_andT ha hb) ?_
  rintro σ H Q ⟨c, F, ρ, ok, h⟩
  refine ⟨c, F, ρ, ok, post_mono ?_ (post_bind h)⟩
  rintro a H1 F1 _ ⟨ρ1, ok1, s1, h1⟩ x rx
  obtain ⟨k, e, h2⟩ := post_lift (o := truD a) (by exact post_mono (fun _ _ _ _ q => q) (post_bind h1))
  obtain ⟨ρ2, ok2, s2, h3⟩ := post_ok (W := W) h2 ok1
  refine ⟨k, tru_of ok1 (.inl rx) e, ?_⟩
  cases k with
  | true => exact ⟨c, F1, ρ2, ok2, h3⟩
  | false => exact post_ok (W := W) h3 ok2 _ rx
theorem dOr (ha : PE X a (tE X.K W ma)) (hb : PE X (.BoolOp .Or (b :: rest) pos) (tE X.K W mb)) : PE X (.BoolOp .Or (a :: b :: rest) pos) (tE X.K W (mOr ma mb)) := by
  refine PE.imp (pe_orT ha hb) ?_
  rintro σ H Q ⟨c, F, ρ, ok, h⟩
  refine ⟨c, F, ρ, ok, post_mono ?_ (post_bind h)⟩
  rintro a H1 F1 _ ⟨ρ1, ok1, s1, h1⟩ x rx
  obtain ⟨k, e, h2⟩ := post_lift (o := truD a) (by exact post_mono (fun _ _ _ _ q => q) (post_bind h1))
  obtain ⟨ρ2, ok2, s2, h3⟩ := post_ok (W := W) h2 ok1
  refine ⟨k, tru_of ok1 (.inl rx) e, ?_⟩
  cases k with
  | true => exact post_ok (W := W) h3 ok2 _ rx
  | false => exact ⟨c, F1, ρ2, ok2, h3⟩
theorem dNot (ha : PE X a (tP X.K W ma)) : PE X (.UnaryOp .Not a pos) (tE X.K W (mNot ma)) := by
  refine PE.imp (pe_notT ha) ?_
  rintro σ H Q ⟨c, F, ρ, ok, h⟩
  refine ⟨c, F, ρ, ok, post_mono ?_ (post_bind h)⟩
  rintro a H1 F1 _ ⟨ρ1, ok1, s1, h1⟩ x rx
  obtain ⟨k, e, h2⟩ := post_lift (o := truD a) (by exact post_mono (fun _ _ _ _ q => q) (post_bind h1))
  obtain ⟨ρ2, ok2, s2, h3⟩ := post_ok (W := W) h2 ok1
  exact ⟨k, tru_of ok1 rx e, post_ok (W := W) h3 ok2 _ (.bl _)⟩
theorem dIf {cnd : Expr} {mc : M Bool} (hc : PT X cnd (tT X.K W mc)) (ha : PE X a (tE X.K W ma)) (hb : PE X b (tE X.K W mb)) : PE X (.IfExp cnd a b pos) (tE X.K W (mIf mc ma mb)) := by
  refine PE.imp (pe_ifExp hc ha hb) ?_
  rintro σ H Q ⟨c, F, ρ, ok, h⟩
  refine ⟨c, F, ρ, ok, post_mono ?_ (post_bind h)⟩
  rintro k H1 F1 _ ⟨ρ1, ok1, s1, h1⟩
  cases k with
  | true => exact ⟨c, F1, ρ1, ok1, h1⟩
  | false => exact ⟨c, F1, ρ1, ok1, h1⟩
/-! ### argument lists, displays -/
variable {es : List Expr} {ms : M (List D)}
def mCons (m : M D) (ms : M (List D)) : M (List D) := mBind m fun d => mBind ms fun ds => mPure (d :: ds)
theorem dNil : PA X [] (tA X.K W (mPure [])) := PA.imp pa_nil (by
  rintro σ H Q ⟨c, F, ρ, ok, h⟩
  exact post_ok (W := W) h ok _ .nil)
theorem dCons (ha : PE X a (tE X.K W ma)) (hr : PA X es (tA X.K W ms)) (hs : starEach (a :: es) X.env = (false, eval a X.env) :: starEach es X.env := by rfl) : PA X (a :: es) (tA X.K W (mCons ma ms)) := by
  refine PA.imp (pa_cons ha hr hs) ?_
  rintro σ H Q ⟨c, F, ρ, ok, h⟩
  refine ⟨c, F, ρ, ok, post_mono ?_ (post_bind h)⟩
  rintro d H1 F1 _ ⟨ρ1, ok1, s1, h1⟩ x rx
  refine ⟨c, F1, ρ1, ok1, post_mono ?_ (post_bind h1)⟩
  rintro ds H2 F2 _ ⟨ρ2, ok2, s2, h2⟩ xs rxs
  exact post_ok (W := W) h2 ok2 _ (.cons (Dp.mono s2 rx) rxs)
def mTup (ms : M (List D)) : M D := mBind ms fun ds => mLift (if fit ds.length = true then some (.tuple ds) else none)
def mLst (ms : M (List D)) : M D := mBind ms fun ds => mLift (if fit ds.length = true then some (.list ds) else none)
theorem dTup {x1} (h : PA X es (tA X.K W ms)) : PE X (.Tuple es x1 pos) (tE X.K W (mTup ms)) := by
  refine PE.imp (pe_tup h) ?_
  rintro σ H Q ⟨c, F, ρ, ok, h⟩
  refine ⟨c, F, ρ, ok, post_mono ?_ (post_bind h)⟩
  rintro ds H1 F1 _ ⟨ρ1, ok1, s1, h1⟩ xs rx
  obtain ⟨d, e, h2⟩ := post_lift h1
  split at e
  · rename_i hf
    cases e
    exact ⟨by rw [DpAll.length rx]; exact fit_le hf, fun p hp => new_tup ok1 rx h2 p hp⟩
  · cases e
theorem dLst (h : PA X es (tA X.K W ms)) : PE X (.List es pos) (tE X.K W (mLst ms)) := by
  refine PE.imp (pe_lst h) ?_
  rintro σ H Q ⟨c, F, ρ, ok, h⟩
  refine ⟨c, F, ρ, ok, post_mono ?_ (post_bind h)⟩
  rintro ds H1 F1 _ ⟨ρ1, ok1, s1, h1⟩ xs rx
  obtain ⟨d, e, h2⟩ := post_lift h1
  split at e
  · rename_i hf
    cases e
    exact ⟨by rw [DpAll.length rx]; exact fit_le hf, fun p hp => new_lst ok1 rx h2 p hp⟩
  · cases e
/-! ### built-ins by name -/
inductive PkAll (K : PySem.W.Frag) (H F : Hp) : List V → List D → Prop
  | nil : PkAll K H F [] []
  | cons {v : V} {vs : List V} {d : D} {ds : List D} : Pk K H F v d → PkAll K H F vs ds → PkAll K H F (v :: vs) (d :: ds)
theorem PkAll.of {F : Hp} : ∀ {vs : List V} {ds : List D}, DpAll K F vs ds → PkAll K H F vs ds
  | _, _, .nil => .nil
  | _, _, .cons h t => .cons (.inl h) (PkAll.of t)
def CallD (K : PySem.W.Frag) (r : List V → Hp → VK → Prop) (g : List D → Option D) : Prop :=
  ∀ {W : WX} {c : Ct} {σ : St} {H F : Hp} {ρ : En} {xs : List V} {ds : List D} {d : D} {Q : VK}, Ok K c σ H F ρ → PkAll K H F xs ds → g ds = some d → post K W c σ F (qE K Q) (some (.ok d ρ)) → r xs H Q
def mCall1 (g : List D → Option D) (m : M D) : M D := mBind m fun d => mLift (g [d])
def mCallN (g : List D → Option D) (ms : M (List D)) : M D := mBind ms fun ds => mLift (g ds)
variable {x : Str} {p : Pos} {id T : String} {r : List V → Hp → VK → Prop} {g : List D → Option D}
theorem tCB1 (hd : CallD K r g) {Q : VK} (h : tE K W (mCall1 g ma) σ H Q) : tCB r (tCons (tP K W ma) tNil) σ H Q := by
  obtain ⟨c, F, ρ, ok, h⟩ := h
  refine ⟨c, F, ρ, ok, post_mono ?_ (post_bind h)⟩
  rintro d H1 F1 _ ⟨ρ1, ok1, s1, h1⟩ x rx
  obtain ⟨d', e, h2⟩ := post_lift h1
  exact hd ok1 (.cons rx .nil) e h2
theorem tCBn (hd : CallD K r g) {Q : VK} (h : tE K W (mCallN g ms) σ H Q) : tCB r (tA K W ms) σ H Q := by
  obtain ⟨c, F, ρ, ok, h⟩ := h
  refine ⟨c, F, ρ, ok, post_mono ?_ (post_bind h)⟩
  rintro ds H1 F1 _ ⟨ρ1, ok1, s1, h1⟩ xs rx
  obtain ⟨d', e, h2⟩ := post_lift h1
  exact hd ok1 (.of rx) e h2
theorem dB1 (hc : CallR X (.builtin id) r) (hd : CallD X.K r g) (hm : X.mg x = none) (hv : bootBuiltins x = some (.builtin id)) (ha : PE X a (tP X.K W ma)) (hg : Gl X x := by rfl) (hs : starEach (a :: []) X.env = (false, eval a X.env) :: starEach [] X.env := by rfl) (hn : x ≠ "__name__" := by decide) (hdb : (x == ("__debug__" : Str)) = false := by decide)
    (hpl : (backTo pos (starEach [] X.env)).any (·.1) = false := by rfl) : PE X (.Call (.Name x p) [a] [] pos) (tE X.K W (mCall1 g ma)) :=
  PE.imp (pe_callB hc hg hm hv (pa_cons ha pa_nil hs) hn hdb hs hpl) fun _ _ _ => tCB1 hd
theorem dTy1 (hc : CallR X (.type T) r) (hd : CallD X.K r g) (hm : X.mg x = none) (hv : bootBuiltins x = some (.type T)) (ha : PE X a (tP X.K W ma)) (hg : Gl X x := by rfl) (hs : starEach (a :: []) X.env = (false, eval a X.env) :: starEach [] X.env := by rfl) (hn : x ≠ "__name__" := by decide) (hdb : (x == ("__debug__" : Str)) = false := by decide)
    (hpl : (backTo pos (starEach [] X.env)).any (·.1) = false := by rfl) : PE X (.Call (.Name x p) [a] [] pos) (tE X.K W (mCall1 g ma)) :=
  PE.imp (pe_callTy hc hg hm hv (pa_cons ha pa_nil hs) hn hdb hs hpl) fun _ _ _ => tCB1 hd
theorem dBn (hc : CallR X (.builtin id) r) (hd : CallD X.K r g) (hm : X.mg x = none) (hv : bootBuiltins x = some (.builtin id)) (ha : PA X (a :: es) (tA X.K W ms)) (hg : Gl X x := by rfl) (hs : starEach (a :: es) X.env = (false, eval a X.env) :: starEach es X.env := by rfl) (hn : x ≠ "__name__" := by decide) (hdb : (x == ("__debug__" : Str)) = false := by decide)
    (hpl : (backTo pos (starEach es X.env)).any (·.1) = false := by rfl) : PE X (.Call (.Name x p) (a :: es) [] pos) (tE X.K W (mCallN g ms)) :=
  PE.imp (pe_callB hc hg hm hv ha hn hdb hs hpl) fun _ _ _ => tCBn hd
end
end Dd

namespace Dd
open PySem PySem.Spec L2
section
variable {X : Cx} {W : WX} {K : PySem.W.Frag} {e tg : Expr} {st : Stmt} {sts : List Stmt} {m : M D} {pos : Pos} {m1 m2 : M Fl}
/-! ### statements -/
def mSeq (m1 m2 : M Fl) : M Fl := mBind m1 fun f => match f with
  | .nx => m2
  | o => mPure o
theorem bind_ok {α β : Type} {m : M α} {f : α → M β} {ρ ρ' : En} {b : β} (h : mBind m f ρ = some (.ok b ρ')) : ∃ a ρ1, m ρ = some (.ok a ρ1) ∧ f a ρ1 = some (.ok b ρ') := by
  unfold mBind at h
  cases e : m ρ with
  | none => rw [e] at h; cases h
  | some r =>
    rw [e] at h
    cases r with
    | ok a ρ1 => exact ⟨a, ρ1, rfl, h⟩
    | ex x ρ1 => cases h
theorem seq_post {c : Ct} {F : Hp} {Dn : Ends} {ρ : En} (h : postS K W c F Dn (mSeq m1 m2 ρ)) : postS K W c F { Dn with nx := tS K W m2 Dn } (m1 ρ) := by
  unfold mSeq mBind at h
  cases e : m1 ρ with
  | none => rw [e] at h; exact h
  | some r =>
    rw [e] at h
    cases r with
    | ex x ρ1 => exact h
    | ok f ρ1 =>
      cases f with
      | nx => exact fun σ' H' F' ok s => ⟨c, F', ρ1, ok, postS_weak s h⟩
      | bk => exact h
      | ct => exact h
      | rt d => exact h
      | rf ds => exact h
theorem dsCons (h1 : PS X st (tS X.K W m1)) (h2 : PSs X sts (tS X.K W m2)) : PSs X (st :: sts) (tS X.K W (mSeq m1 m2)) :=
  PSs.imp (pss_cons h1 h2) fun Dn σ H ⟨c, F, ρ, ok, h⟩ => ⟨c, F, ρ, ok, seq_post h⟩
theorem dsOne (h1 : PS X st (tS X.K W m1)) : PSs X [st] (tS X.K W m1) := pss_one h1
theorem dsNil : PSs X [] (tS X.K W (mPure .nx)) := PSs.imp pss_nil fun Dn σ H ⟨c, F, ρ, ok, h⟩ => h σ H F ok (Same.refl F)
theorem dPass : PS X (.Pass pos) (tS X.K W (mPure .nx)) := PS.imp ps_pass fun Dn σ H ⟨c, F, ρ, ok, h⟩ => h σ H F ok (Same.refl F)
theorem dBreak : PS X (.Break pos) (tS X.K W (mPure .bk)) := PS.imp ps_break fun Dn σ H ⟨c, F, ρ, ok, h⟩ => h σ H F ok (Same.refl F)
theorem dCont : PS X (.Continue pos) (tS X.K W (mPure .ct)) := PS.imp ps_continue fun Dn σ H ⟨c, F, ρ, ok, h⟩ => h σ H F ok (Same.refl F)
def mRet (m : M D) : M Fl := mBind m fun d => mPure (.rt d)
theorem dRet (he : PE X e (tE X.K W m)) : PS X (.Return (some e) pos) (tS X.K W (mRet m)) := PS.imp (ps_ret he) (by
  rintro Dn σ H ⟨c, F, ρ, ok, h⟩
  refine ⟨c, F, ρ, ok, post_mono ?_ (postS_bind h)⟩
  rintro d H1 F1 _ ⟨ρ1, ok1, s1, h1⟩ v rv
  exact h1 σ v H1 F1 ok1 (Same.refl F1) rv)
theorem dRetN : PS X (.Return none pos) (tS X.K W (mPure (.rt .none))) := PS.imp ps_retN (by
  rintro Dn σ H ⟨c, F, ρ, ok, h⟩
  exact h σ .non H F ok (Same.refl F) .non)
/-- a new list is handed back, the caller's own -/
def mRetF (ms : M (List D)) : M Fl := mBind ms fun ds => mBind (mLift (if fit ds.length = true then some ds else none)) fun ds => mPure (.rf ds)
theorem dRetF {es : List Expr} {lp : Pos} {ms : M (List D)} (h : PA X es (tA X.K W ms)) : PS X (.Return (some (.List es lp)) pos) (tS X.K W (mRetF ms)) := PS.imp (ps_ret (pe_lst h)) (by
  rintro Dn σ H ⟨c, F, ρ, ok, h⟩
  refine ⟨c, F, ρ, ok, post_mono ?_ (postS_bind h)⟩
  rintro ds H1 F1 _ ⟨ρ1, ok1, s1, h1⟩ xs rx
  have h2 := postS_bind (σ := σ) h1
  obtain ⟨d, e, h3⟩ := post_lift h2
  split at e
  · rename_i hf
    cases e
    refine ⟨by rw [DpAll.length rx]; exact fit_le hf, fun p hp => ?_⟩
    obtain ⟨a1, a2, a3, a4, a5⟩ := ok1.new hp
    have k : Same H1 (upd H1 p (.lst xs)) := Same.updN hp
    have ok2 : Ok X.K c σ (upd H1 p (.lst xs)) F1 ρ1 := by
      obtain ok' := ok1.allocP (o := .lst xs) hp
      refine ⟨ok'.len, ok'.sub, ok'.ge, ok'.fe, ok'.keep, fun q z => ?_, fun b u z => ?_, ok'.val, fun i es z => ?_, ok'.ios, ok'.scr, ok'.sep⟩
      · obtain ⟨b1, b2, b3, xs', b4⟩ := ok1.iod q z
        exact ⟨b1, b2, b3, xs', k _ _ b4⟩
      · obtain ⟨b1, b2, b3⟩ := ok1.prt b u z
        exact ⟨k _ _ b1, b2, b3⟩
      · obtain ⟨q, vs, b1, b2, b3, b4, b5, b6⟩ := ok1.own i es z
        exact ⟨q, vs, b1, k _ _ b2, b3, b4, b5, b6⟩
    obtain ⟨ρ2, ok3, s3, h4⟩ := h3 _ _ ok2 (Same.refl F1)
    exact h4 σ p xs _ _ ok3 (Same.refl F1) upd_same rx a1 a2
  · cases e)
def mDrop (m : M D) : M Fl := mBind m fun _ => mPure .nx
theorem dExpr (he : PE X e (tE X.K W m)) (hs : swapsWith e none pos.line X.env = pure false := by rfl) : PS X (.Expr e pos) (tS X.K W (mDrop m)) := PS.imp (ps_expr he hs) (by
  rintro Dn σ H ⟨c, F, ρ, ok, h⟩
  refine ⟨c, F, ρ, ok, post_mono ?_ (postS_bind h)⟩
  rintro d H1 F1 _ ⟨ρ1, ok1, s1, h1⟩ v rv
  exact h1 σ H1 F1 ok1 (Same.refl F1))
theorem dIfS {cnd : Expr} {a b : List Stmt} {mc : M Bool} (hc : PT X cnd (tT X.K W mc)) (ha : PSs X a (tS X.K W m1)) (hb : PSs X b (tS X.K W m2)) : PS X (.If cnd a b pos) (tS X.K W (mIf mc m1 m2)) := PS.imp (ps_if hc ha hb) (by
  rintro Dn σ H ⟨c, F, ρ, ok, h⟩
  refine ⟨c, F, ρ, ok, post_mono ?_ (postS_bind h)⟩
  rintro k H1 F1 _ ⟨ρ1, ok1, s1, h1⟩
  cases k with
  | true => exact ⟨c, F1, ρ1, ok1, h1⟩
  | false => exact ⟨c, F1, ρ1, ok1, h1⟩)
/-! ### stores -/
def mStore (i : Nat) (d : D) : M Unit := fun ρ => if i < ρ.length then some (.ok () (ρ.set i (.val d))) else none
def mDone : M Fl := mPure .nx
theorem dgName {i : Nat} {x : Str} {p : Pos} (hN : X.N.Nodup) (hi : X.N[i]? = some x := by rfl) (hx : Loc X.env.scope x := by first | exact Or.inl rfl | exact Or.inr rfl) (hf : X.fn x = true ∨ X.env.scope.names.lookup x = some .local := by first | exact .inl rfl | exact .inr rfl) : PG X (.Name x p) (tG X.K W (mStore i)) := PG.imp (pg_name hN hi hx hf) (by
  rintro v σ H Q ⟨c, F, ρ, d, ok, r, h⟩
  unfold mStore at h
  split at h
  · rename_i hl
    exact h _ H F (ok.setV hl r) (Same.refl F)
  · exact h.elim)
theorem dgsNil : PGs X [] (tGs X.K W fun ds => match ds with | [] => mPure () | _ => mStuck) := PGs.imp pgs_nil (by
  rintro vs σ H Q ⟨c, F, ρ, ds, ok, r, h⟩
  cases r with
  | nil => exact ⟨rfl, h σ H F ok (Same.refl F)⟩
  | cons _ _ => exact h.elim)
def gCons2 (g : D → M Unit) (gs : List D → M Unit) : List D → M Unit
  | [] => mStuck
  | d :: ds => mBind (g d) fun _ => gs ds
theorem dgsCons {es : List Expr} {g : D → M Unit} {gs : List D → M Unit} (h1 : PG X e (tG X.K W g)) (h2 : PGs X es (tGs X.K W gs)) (hs : (assignEach (e :: es) X.env).map (·.2) = assign e X.env :: (assignEach es X.env).map (·.2) := by rfl) : PGs X (e :: es) (tGs X.K W (gCons2 g gs)) :=
  PGs.imp (pgs_cons h1 h2 hs) (by
  rintro vs σ H Q ⟨c, F, ρ, ds, ok, r, h⟩
  cases r with
  | nil => exact h.elim
  | cons r rr =>
    refine ⟨_, _, rfl, c, F, ρ, _, ok, r, postG_mono ?_ (postG_bindG h)⟩
    rintro σ1 H1 ⟨F1, ρ1, ok1, s1, h1⟩
    exact ⟨c, F1, ρ1, _, ok1, DpAll.mono s1 rr, h1⟩)
def gTupD (n : Nat) (gs : List D → M Unit) : D → M Unit
  | .tuple ds => if ds.length = n then gs ds else mStuck
  | _ => mStuck
theorem dgTup {es : List Expr} {k : Nat} {gs : List D → M Unit} {n : Nat} (hc : X.calm = true) (h : PGs X es (tGs X.K W gs)) (hn : (assignEach es X.env).length = n := by rfl) (hst : (assignEach es X.env).findIdx? (·.1) = none := by rfl) : PG X (.Tuple es k pos) (tG X.K W (gTupD n gs)) :=
  PG.imp (pg_tup hc h hn hst) (by
  rintro v σ H Q ⟨c, F, ρ, d, ok, r, h⟩
  unfold gTupD at h
  split at h
  · split at h
    · rename_i hl
      obtain ⟨p, vs, rfl, hp, dp⟩ := Pk.tup ok.sub (.inl r)
      exact ⟨p, vs, rfl, hp, by rw [DpAll.length dp]; exact hl, c, F, ρ, _, ok, dp, h⟩
    · exact h.elim
  · exact h.elim)
/-- a slot's own list (or the caller's): what it holds; it is changed -/
def mOwn (i : Nat) : M (List D) := fun ρ => match ρ[i]? with
  | some (.own ds) => some (.ok ds ρ)
  | some (.io ds) => some (.ok ds ρ)
  | _ => none
def mPut (i : Nat) (ds : List D) : M Unit := fun ρ => match ρ[i]? with
  | some (.own _) => some (.ok () (ρ.set i (.own ds)))
  | some (.io _) => some (.ok () (ρ.set i (.io ds)))
  | _ => none
theorem own_at {c : Ct} {σ : St} {H F : Hp} {ρ : En} {i : Nat} {α : Type} {G : α → Hp → Hp → Prop} {f : List D → M α} (ok : Ok K c σ H F ρ) (h : post K W c σ F G (mBind (mOwn i) f ρ)) :
    ∃ p vs ds, σ[i]? = some (some (.ref p)) ∧ H p = some (.lst vs) ∧ DpAll K F vs ds ∧ F p = none ∧ post K W c σ F G (f ds ρ) := by
  unfold mBind mOwn at h
  cases e : ρ[i]? with
  | none => rw [e] at h; exact h.elim
  | some u =>
    rw [e] at h
    cases u with
    | own ds =>
      obtain ⟨p, vs, a1, a2, a3, a4, _⟩ := ok.own i ds e
      exact ⟨p, vs, ds, a1, a2, a3, a4, h⟩
    | io ds =>
      obtain ⟨_, p, vs, a0, a1, a2, a3⟩ := ok.ios i ds e
      exact ⟨p, vs, ds, a1, a2, a3, (ok.iod p a0).1, h⟩
    | un => exact h.elim
    | val _ => exact h.elim
    | scr _ => exact h.elim
theorem own_atG {c : Ct} {σ : St} {H F : Hp} {ρ : En} {i : Nat} {Q : St → Hp → Prop} {f : List D → M Unit} (ok : Ok K c σ H F ρ) (h : postG K W c F Q (mBind (mOwn i) f ρ)) :
    ∃ p vs ds, σ[i]? = some (some (.ref p)) ∧ H p = some (.lst vs) ∧ DpAll K F vs ds ∧ F p = none ∧ postG K W c F Q (f ds ρ) := by
  unfold mBind mOwn at h
  cases e : ρ[i]? with
  | none => rw [e] at h; exact h.elim
  | some u =>
    rw [e] at h
    cases u with
    | own ds =>
      obtain ⟨p, vs, a1, a2, a3, a4, _⟩ := ok.own i ds e
      exact ⟨p, vs, ds, a1, a2, a3, a4, h⟩
    | io ds =>
      obtain ⟨_, p, vs, a0, a1, a2, a3⟩ := ok.ios i ds e
      exact ⟨p, vs, ds, a1, a2, a3, (ok.iod p a0).1, h⟩
    | un => exact h.elim
    | val _ => exact h.elim
    | scr _ => exact h.elim
theorem put_ok {c : Ct} {σ : St} {H F : Hp} {ρ : En} {i : Nat} {ds : List D} {vs' : List V} {p : Addr} {α : Type} {G : α → Hp → Hp → Prop} {f : Unit → M α} (ok : Ok K c σ H F ρ) (hp : σ[i]? = some (some (.ref p))) (hd : DpAll K F vs' ds)
    (h : post K W c σ F G (mBind (mPut i ds) f ρ)) : ∃ ρ', Ok K c σ (upd H p (.lst vs')) F ρ' ∧ post K W c σ F G (f () ρ') := by
  unfold mBind mPut at h
  cases e : ρ[i]? with
  | none => rw [e] at h; exact h.elim
  | some u =>
    rw [e] at h
    cases u with
    | own es => exact ⟨_, ok.change e p hp hd, h⟩
    | io es => exact ⟨_, ok.changeI e p hp hd, h⟩
    | un => exact h.elim
    | val _ => exact h.elim
    | scr _ => exact h.elim
theorem put_okG {c : Ct} {σ : St} {H F : Hp} {ρ : En} {i : Nat} {ds : List D} {vs' : List V} {p : Addr} {Q : St → Hp → Prop} (ok : Ok K c σ H F ρ) (hp : σ[i]? = some (some (.ref p))) (hd : DpAll K F vs' ds)
    (h : postG K W c F Q (mPut i ds ρ)) : Q σ (upd H p (.lst vs')) := by
  unfold mPut at h
  cases e : ρ[i]? with
  | none => rw [e] at h; exact h.elim
  | some u =>
    rw [e] at h
    cases u with
    | own es => exact h _ _ _ (ok.change e p hp hd) (Same.refl F)
    | io es => exact h _ _ _ (ok.changeI e p hp hd) (Same.refl F)
    | un => exact h.elim
    | val _ => exact h.elim
    | scr _ => exact h.elim
/-- x[k] = value, x a slot's own list -/
def setD : List D → D → D → Option (List D)
  | ds, .int k, d => (ixN ds.length k).map fun j => ds.set j d
  | _, _, _ => none
def gSet (i : Nat) (mk : M D) (d : D) : M Unit := mBind (mOwn i) fun _ => mBind mk fun k => mBind (mOwn i) fun ds => mBind (mLift (setD ds k d)) fun es => mPut i es
theorem dgSet {i : Nat} {o k : Expr} {mk : M D} (ho : PE X o (tVar i)) (hk : PE X k (tE X.K W mk))
    (ha : ∀ v, assign (.Subscript o k pos) X.env v = (do
      let ov ← holding [v] (eval o X.env)
      let iv ← holding [v, ov] (eval k X.env)
      standAt pos
      holding [v, ov, iv] (setItem ov iv v)
      release [v, ov, iv] []) := by exact fun _ => rfl) : PG X (.Subscript o k pos) (tG X.K W (gSet i mk)) := PG.imp (pg_sub ho hk set_list ha) (by
  rintro v σ H Q ⟨c, F, ρ, d, ok, r, h⟩
  obtain ⟨p, vs, ds, a1, a2, a3, a4, h⟩ := own_atG ok h
  refine ⟨.ref p, a1, c, F, ρ, ok, post_mono ?_ (postG_bind h)⟩
  rintro kd H1 F1 _ ⟨ρ1, ok1, s1, h1⟩ kv rk
  obtain ⟨p', vs1, ds1, b1, b2, b3, b4, h1⟩ := own_atG ok1 h1
  have ep : p' = p := by rw [a1] at b1; cases b1; rfl
  subst ep
  have h2 := postG_bind (σ := σ) h1
  obtain ⟨es, e, h3⟩ := post_lift h2
  obtain ⟨ρ2, ok2, s2, h4⟩ := h3 H1 F1 ok1 (Same.refl F1)
  cases kd with
  | int z =>
    cases rk
    have e : (ixN ds1.length z).map (fun j => ds1.set j d) = some es := e
    cases q : ixN ds1.length z with
    | none => rw [q] at e; cases e
    | some j =>
      rw [q] at e
      cases e
      refine ⟨p', vs1, z, j, rfl, rfl, b2, by rw [DpAll.length b3]; exact q, ?_⟩
      exact put_okG ok2 b1 (DpAll.set (Dp.mono s1 r) j b3) h4
  | none => cases e
  | bool _ => cases e
  | str _ => cases e
  | list _ => cases e
  | tuple _ => cases e
  | dict _ => cases e)
def mAsg (m : M D) (g : D → M Unit) : M Fl := mBind m fun d => mBind (g d) fun _ => mDone
theorem asg_of {Dn : Ends} {σ : St} {H : Hp} {g : D → M Unit} (h : tS K W (mAsg m g) Dn σ H) : tAsg (tE K W m) (tG K W g) Dn σ H := by
  obtain ⟨c, F, ρ, ok, h⟩ := h
  refine ⟨c, F, ρ, ok, post_mono ?_ (postS_bind h)⟩
  rintro d H1 F1 _ ⟨ρ1, ok1, s1, h1⟩ v rv
  refine ⟨c, F1, ρ1, d, ok1, rv, postG_mono ?_ (postS_bindG h1)⟩
  rintro σ2 H2 ⟨F2, ρ2, ok2, s2, h2⟩
  exact h2 σ2 H2 F2 ok2 (Same.refl F2)
theorem dAsg {g : D → M Unit} (he : PE X e (tE X.K W m)) (hg : PG X tg (tG X.K W g)) (hs : swapsWithSole [tg] e pos.line X.env = pure false := by rfl) (hw : swappedStores [tg] e X.env = pure none := by rfl)
    (h1 : (assignEach [tg] X.env).map (·.2) = [assign tg X.env] := by rfl) : PS X (.Assign [tg] e pos) (tS X.K W (mAsg m g)) := PS.imp (ps_asg he hg hs hw h1) fun _ _ _ => asg_of
/-- name = value -/
theorem dSet {i : Nat} {x : Str} {pos' : Pos} (hN : X.N.Nodup) (he : PE X e (tE X.K W m)) (hi : X.N[i]? = some x := by rfl) (hx : Loc X.env.scope x := by first | exact Or.inl rfl | exact Or.inr rfl) (hs : swapsWith e (some (.Name x pos')) pos.line X.env = pure false := by rfl)
    (hf : X.fn x = true ∨ X.env.scope.names.lookup x = some .local := by first | exact .inl rfl | exact .inr rfl) : PS X (.Assign [.Name x pos'] e pos) (tS X.K W (mAsg m (mStore i))) := PS.imp (ps_set hN hi hx he hs hf) (by
  rintro Dn σ H h
  obtain ⟨c, F, ρ, ok, h⟩ := h
  refine ⟨c, F, ρ, ok, post_mono ?_ (postS_bind h)⟩
  rintro d H1 F1 _ ⟨ρ1, ok1, s1, h1⟩ v rv
  have h2 := postS_bindG h1
  unfold mStore at h2
  split at h2
  · rename_i hl
    obtain ⟨F2, ρ2, ok2, s2, h3⟩ := h2 _ H1 F1 (ok1.setV hl rv) (Same.refl F1)
    exact h3 _ _ _ ok2 (Same.refl F2)
  · exact h2.elim)
/-- name = [..], its own -/
def mStoreO (i : Nat) (ds : List D) : M Unit := fun ρ => if i < ρ.length then some (.ok () (ρ.set i (.own ds))) else none
def mAsgO (ms : M (List D)) (i : Nat) : M Fl := mBind ms fun ds => mBind (mLift (if fit ds.length = true then some ds else none)) fun ds => mBind (mStoreO i ds) fun _ => mDone
theorem dSetO {i : Nat} {x : Str} {pos' lp : Pos} {es : List Expr} {ms : M (List D)} (hN : X.N.Nodup) (he : PA X es (tA X.K W ms)) (hi : X.N[i]? = some x := by rfl) (hx : Loc X.env.scope x := by first | exact Or.inl rfl | exact Or.inr rfl)
    (hs : swapsWith (.List es lp) (some (.Name x pos')) pos.line X.env = pure false := by rfl)
    (hf : X.fn x = true ∨ X.env.scope.names.lookup x = some .local := by first | exact .inl rfl | exact .inr rfl) : PS X (.Assign [.Name x pos'] (.List es lp) pos) (tS X.K W (mAsgO ms i)) := PS.imp (ps_set hN hi hx (pe_lst he) hs hf) (by
  rintro Dn σ H h
  obtain ⟨c, F, ρ, ok, h⟩ := h
  refine ⟨c, F, ρ, ok, post_mono ?_ (postS_bind h)⟩
  rintro ds H1 F1 _ ⟨ρ1, ok1, s1, h1⟩ xs rx
  have h2 := postS_bind (σ := σ) h1
  obtain ⟨d, e, h3⟩ := post_lift h2
  split at e
  · rename_i hf
    cases e
    refine ⟨by rw [DpAll.length rx]; exact fit_le hf, fun p hp => ?_⟩
    obtain ⟨ρ2, ok2, s2, h4⟩ := h3 H1 F1 ok1 (Same.refl F1)
    have hpr : c.pr p = none := (ok2.new hp).2.2.1
    have h5 := postS_bindG h4
    unfold mStoreO at h5
    split at h5
    · rename_i hl
      obtain ⟨F3, ρ3, ok3, s3, h6⟩ := h5 _ _ _ ((ok2.allocP (o := .lst xs) hp).ownP hpr rx hl) (Same.refl F1)
      exact h6 _ _ _ ok3 (Same.refl F3)
    · exact h5.elim
  · cases e)
/-- name op= value -/
def mAug (i : Nat) (g : D → D → Option D) (m : M D) : M Fl := mBind (mPeek i) fun _ => mBind m fun b => mBind (mPeek i) fun a => mBind (mLift (g a b)) fun d => mBind (mStore i d) fun _ => mDone
theorem peekS {c : Ct} {σ : St} {H F : Hp} {ρ : En} {i : Nat} {Dn : Ends} {f : D → M Fl} (ok : Ok K c σ H F ρ) (h : postS K W c F Dn (mBind (mPeek i) f ρ)) : ∃ v d, σ[i]? = some (some v) ∧ Pk K H F v d ∧ postS K W c F Dn (f d ρ) := by
  unfold mBind mPeek at h
  cases e : ρ[i]? with
  | none => rw [e] at h; exact h.elim
  | some u =>
    rw [e] at h
    cases u with
    | un => exact h.elim
    | val d =>
      obtain ⟨v, a1, a2⟩ := ok.val i d e
      exact ⟨v, d, a1, .inl a2, h⟩
    | own ds =>
      obtain ⟨p, vs, a1, a2, a3, _⟩ := ok.own i ds e
      exact ⟨.ref p, _, a1, .inr ⟨p, vs, ds, rfl, rfl, a2, a3⟩, h⟩
    | io ds =>
      obtain ⟨_, p, vs, _, a1, a2, a3⟩ := ok.ios i ds e
      exact ⟨.ref p, _, a1, .inr ⟨p, vs, ds, rfl, rfl, a2, a3⟩, h⟩
    | scr ns => exact h.elim
theorem dAug {i : Nat} {x : Str} {op : Operator} {r : R2} {g : D → D → Option D} {pos' : Pos} (hN : X.N.Nodup) (ho : OpR X (inplaceOp op) r) (hd : OpD X.K r g) (he : PE X e (tE X.K W m)) (hi : X.N[i]? = some x := by rfl) (hx : Loc X.env.scope x := by first | exact Or.inl rfl | exact Or.inr rfl)
    (hf : X.fn x = true ∨ X.env.scope.names.lookup x = some .local := by first | exact .inl rfl | exact .inr rfl) : PS X (.AugAssign (.Name x pos') op e pos) (tS X.K W (mAug i g m)) := PS.imp (ps_aug hN hi hx he (ti := r) ho hf) (by
  rintro Dn σ H ⟨c, F, ρ, ok, h⟩
  obtain ⟨v, _, ev, _, h⟩ := peekS ok h
  refine ⟨v, ev, c, F, ρ, ok, post_mono ?_ (postS_bind h)⟩
  rintro b H1 F1 _ ⟨ρ1, ok1, s1, h1⟩ y ry
  obtain ⟨v', a, ev', pk, h2⟩ := peekS ok1 h1
  have ee : v' = v := by rw [ev] at ev'; cases ev'; rfl
  subst ee
  obtain ⟨d, e, h3⟩ := post_lift (postS_bind (σ := σ) h2)
  refine hd (W := W) ok1 pk (.inl ry) e ?_
  intro H2 F2 ok2' s2' z rz
  obtain ⟨ρ2, ok2, s2, h4⟩ := h3 H2 F2 ok2' s2'
  have h5 := postS_bindG h4
  unfold mStore at h5
  split at h5
  · rename_i hl
    obtain ⟨F3, ρ3, ok3, s3, h6⟩ := h5 _ H2 F2 (ok2.setV hl rz) (Same.refl F2)
    exact h6 _ _ _ ok3 (Same.refl F3)
  · exact h5.elim)
/-! ### methods that change a slot's own list -/
def MutD (K : PySem.W.Frag) (r : V → List V → Hp → VK → Prop) (g : List D → List D → Option (List D × D)) : Prop :=
  ∀ {H F : Hp} {l : Addr} {xs vs : List V} {ds as ds' : List D} {d : D} {Q : VK}, Same F H → F l = none → H l = some (.lst xs) → DpAll K F xs ds → DpAll K F vs as → g ds as = some (ds', d) →
    (∀ xs' v, DpAll K F xs' ds' → Dp K F v d → Q v (upd H l (.lst xs'))) → r (.ref l) vs H Q
def mMut (i : Nat) (g : List D → List D → Option (List D × D)) (ms : M (List D)) : M D := mBind (mOwn i) fun _ => mBind ms fun as => mBind (mOwn i) fun ds => mBind (mLift (g ds as)) fun q => mBind (mPut i q.1) fun _ => mPure q.2
theorem mut_of {i : Nat} {r : V → List V → Hp → VK → Prop} {g : List D → List D → Option (List D × D)} (hd : MutD K r g) {ms : M (List D)} {σ : St} {H : Hp} {Q : VK} (h : tE K W (mMut i g ms) σ H Q) : tBM K "list" r (tVar i) (tA K W ms) σ H Q := by
  obtain ⟨c, F, ρ, ok, h⟩ := h
  obtain ⟨p, vs, ds, a1, a2, a3, a4, h⟩ := own_at ok h
  refine ⟨.ref p, a1, .inl ⟨rfl, vs, SqL.of a2⟩, c, F, ρ, ok, post_mono ?_ (post_bind h)⟩
  rintro as H1 F1 _ ⟨ρ1, ok1, s1, h1⟩ ws rw'
  obtain ⟨p', vs1, ds1, b1, b2, b3, b4, h1⟩ := own_at ok1 h1
  have ep : p' = p := by rw [a1] at b1; cases b1; rfl
  subst ep
  obtain ⟨⟨ds', d⟩, e, h2⟩ := post_lift (post_bind h1)
  obtain ⟨ρ2, ok2, s2, h3⟩ := h2 H1 F1 ok1 (Same.refl F1)
  refine hd ok1.sub b4 b2 b3 rw' e fun xs' v dx dv => ?_
  obtain ⟨ρ3, ok3, h4⟩ := put_ok ok2 b1 dx h3
  exact h4 _ _ ok3 (Same.refl F1) v dv
theorem mut_of0 {i : Nat} {r : V → List V → Hp → VK → Prop} {g : List D → List D → Option (List D × D)} (hd : MutD K r g) {σ : St} {H : Hp} {Q : VK} (h : tE K W (mMut i g (mPure [])) σ H Q) : tBM0 K "list" r (tVar i) σ H Q := by
  obtain ⟨c, F, ρ, ok, h⟩ := h
  obtain ⟨p, vs, ds, a1, a2, a3, a4, h⟩ := own_at ok h
  refine ⟨.ref p, a1, .inl ⟨rfl, vs, SqL.of a2⟩, ?_⟩
  obtain ⟨ρ1, ok1, s1, h1⟩ := (post_bind h) H F ok (Same.refl F)
  obtain ⟨p', vs1, ds1, b1, b2, b3, b4, h1⟩ := own_at ok1 h1
  have ep : p' = p := by rw [a1] at b1; cases b1; rfl
  subst ep
  obtain ⟨⟨ds', d⟩, e, h2⟩ := post_lift (post_bind h1)
  obtain ⟨ρ2, ok2, s2, h3⟩ := h2 H F ok1 (Same.refl F)
  refine hd ok1.sub b4 b2 b3 .nil e fun xs' v dx dv => ?_
  obtain ⟨ρ3, ok3, h4⟩ := put_ok ok2 b1 dx h3
  exact h4 _ _ ok3 (Same.refl F) v dv
def appD : List D → List D → Option (List D × D)
  | ds, [d] => if fit ds.length = true then some (ds ++ [d], .none) else none
  | _, _ => none
theorem mut_app : MutD K rAppend appD := by
  intro H F l xs vs ds as ds' d Q s hF hl hx hv e k
  cases hv with
  | nil => cases e
  | cons h t =>
    cases t with
    | cons _ _ => cases e
    | nil =>
      rename_i v0 d0
      have e : (if fit ds.length = true then some (ds ++ [d0], PyData.none) else none) = some (ds', d) := e
      by_cases hf : fit ds.length = true
      · rw [if_pos hf] at e
        cases e
        exact ⟨l, xs, _, rfl, rfl, hl, by rw [DpAll.length hx]; exact fit_lt hf, k _ _ (DpAll.append hx (.one h)) .non⟩
      · rw [if_neg hf] at e
        cases e
def popAtD : List D → List D → Option (List D × D)
  | ds, [.int i] => if decide (i.natAbs < 9223372036854775808) = true then (seqIndex? i ds.length).bind fun k => (ds[k]?).map fun d => (ds.eraseIdx k, d) else none
  | _, _ => none
theorem mut_popAt : MutD K rPopAt popAtD := by
  intro H F l xs vs ds as ds' d Q s hF hl hx hv e k
  unfold popAtD at e
  split at e
  · rename_i i
    cases hv with
    | cons h t =>
      cases t
      cases h
      split at e
      · rename_i hb
        have hb := of_decide_eq_true hb
        cases q : seqIndex? i ds.length with
        | none => rw [q] at e; cases e
        | some j =>
          rw [q] at e
          cases q2 : ds[j]? with
          | none => simp only [Option.bind_some] at e; rw [q2] at e; cases e
          | some y =>
            simp only [Option.bind_some] at e
            rw [q2] at e
            cases e
            obtain ⟨v, e1, e2⟩ := DpAll.getd hx q2
            exact ⟨l, xs, i, j, v, rfl, rfl, hl, by omega, by omega, by rw [DpAll.length hx]; exact q, e1, k _ _ (DpAll.eraseIdx j hx) e2⟩
      · cases e
  · cases e
def revD : List D → List D → Option (List D × D)
  | ds, [] => some (ds.reverse, .none)
  | _, _ => none
theorem mut_rev : MutD K rReverse revD := by
  intro H F l xs vs ds as ds' d Q s hF hl hx hv e k
  cases hv with
  | cons _ _ => cases e
  | nil =>
    cases e
    exact ⟨l, xs, rfl, rfl, hl, k _ _ (DpAll.reverse hx) .non⟩
end
end Dd

namespace Dd
open PySem PySem.Spec L2
section
variable {X : Cx} {W : WX} {K : PySem.W.Frag} {e tg : Expr} {m : M D} {pos : Pos}
/-! ### what is walked -/
structure ItD (K : PySem.W.Frag) (F : Hp) (J : It) (ds : List D) : Prop where
  go : ∀ H i, Same F H → i < ds.length → J.go i H
  stop : ∀ H i, Same F H → ds.length ≤ i → J.stop i H
  yld : ∀ H i x H' d, Same F H → ds[i]? = some d → J.yld i H x H' → (H' = H ∧ Dp K F x d) ∨ (∃ T xs es, d = .tuple es ∧ x = .ref T ∧ H T = none ∧ H' = upd H T (.tup xs) ∧ DpAll K F xs es)
def tI (K : PySem.W.Frag) (W : WX) (m : M (List D)) : TI := fun σ H R => ∃ c F ρ, Ok K c σ H F ρ ∧ post K W c σ F (fun ds H1 F1 => ∀ J, ItD K F1 J ds → R J H1) (m ρ)
theorem seq_inj_l {H : Hp} {a : Addr} {xs ys : List V} (h1 : H a = some (.lst xs) ∨ ∃ o, H a = some (.frz o (.lst xs))) (h2 : Rd H a (.lst ys)) : xs = ys := by
  rcases h1 with h1 | ⟨o, h1⟩ <;> rcases h2 with h2 | ⟨o', h2⟩ <;> (rw [h1] at h2; first | (cases h2; rfl) | (cases h2))
/-- a list or a tuple -/
def iSeq (K : PySem.W.Frag) (tl : TE) : TI := fun σ H R => tl σ H fun x H1 => ∃ a, x = .ref a ∧ (((∃ xs, SqL K H1 a xs) ∧ R (Itl K a) H1) ∨ ((∃ xs, SqT K H1 a xs) ∧ R (Itt K a) H1))
theorem pi_seq {l : Expr} {tl : TE} (hl : PE X l tl) : PI X tg l (iSeq X.K tl) := by
  refine ⟨fun pins s σ H R I h => ?_⟩
  refine thn (hl.run pins s σ H _ I h) fun v s1 ⟨x, H1, I1, r1, q1⟩ => ?_
  obtain ⟨a, e, ⟨⟨xs, hq⟩, q⟩ | ⟨⟨xs, hq⟩, q⟩⟩ := q1
  · subst e
    cases r1
    obtain ⟨its, rv, p, hz⟩ := I1.list hq
    refine wpAny_pyIter_list p.isList ?_
    refine ⟨s1.heap.objs.size, [s1.heap.objs.size], _, _, H1, rfl, I1.kept (t' := s1.toks) fun b o e => Heap.get?_push_of_some _ e, turn_list a _, ⟨_, Heap.get?_push_size _ rfl, rfl, rfl⟩, fun b hb => ?_, q⟩
    have e : b = s1.heap.objs.size := by simpa using hb
    subst e
    exact I1.fpOk (Nat.le_refl _) (I1.hok.fresh (Nat.le_refl _))
  · subst e
    cases r1
    obtain ⟨its, rv, p, hz⟩ := I1.tuple hq
    refine wpAny_pyIter_tuple (show s1.heap.IsTuple a its.toArray from p) ?_
    refine ⟨s1.heap.objs.size, [s1.heap.objs.size], _, _, H1, rfl, I1.kept (t' := s1.toks) fun b o e => Heap.get?_push_of_some _ e, turn_tuple a _, ⟨_, Heap.get?_push_size _ rfl, rfl, rfl⟩, fun b hb => ?_, q⟩
    have e : b = s1.heap.objs.size := by simpa using hb
    subst e
    exact I1.fpOk (Nat.le_refl _) (I1.hok.fresh (Nat.le_refl _))
/-- a value that is walked: a list's, a tuple's items -/
def itemsD : D → Option (List D)
  | .list ds => some ds
  | .tuple ds => some ds
  | _ => none
def mItems (m : M D) : M (List D) := mBind m fun d => mLift (itemsD d)
end
section
variable {X : Cx} {W : WX} {K : PySem.W.Frag} {e tg : Expr} {m : M D} {pos : Pos}
theorem lst_same {H : Hp} {a : Addr} {xs ys : List V} (h : Rd H a (.lst xs)) (h2 : Rd H a (.lst ys)) : xs = ys := by
  rcases h with h1 | ⟨o, h1⟩ <;> rcases h2 with h2 | ⟨o', h2⟩ <;> (rw [h1] at h2; first | (cases h2; rfl) | (cases h2))
/-- two readings of one sequence agree: by the machine's own heap -/
theorem itl_D {F : Hp} {a : Addr} {xs : List V} {ds : List D} (h : Rd F a (.lst xs)) (hd : DpAll K F xs ds) : ItD K F (Itl K a) ds where
  go := fun H i s hi => by
    obtain ⟨x, q⟩ : ∃ x, xs[i]? = some x := ⟨xs[i]'(by rw [DpAll.length hd]; exact hi), by simp⟩
    exact ⟨xs, x, .inl (Rd.mono s h), q⟩
  stop := fun H i s hi => ⟨xs, .inl (Rd.mono s h), by rw [DpAll.length hd]; exact hi⟩
  yld := fun H i x H' d s q y => by
    obtain ⟨e, y⟩ := y
    obtain ⟨v, q1, q2⟩ := DpAll.getd hd q
    have q3 := y xs (.inl (Rd.mono s h))
    rw [q3] at q1
    cases q1
    exact .inl ⟨e, q2⟩
theorem itt_D {F : Hp} {a : Addr} {xs : List V} {ds : List D} (h : SqT K F a xs) (hd : DpAll K F xs ds) : ItD K F (Itt K a) ds where
  go := fun H i s hi => by
    obtain ⟨x, q⟩ : ∃ x, xs[i]? = some x := ⟨xs[i]'(by rw [DpAll.length hd]; exact hi), by simp⟩
    exact ⟨xs, x, SqT.mono s h, q⟩
  stop := fun H i s hi => ⟨xs, SqT.mono s h, by rw [DpAll.length hd]; exact hi⟩
  yld := fun H i x H' d s q y => by
    obtain ⟨e, y⟩ := y
    obtain ⟨v, q1, q2⟩ := DpAll.getd hd q
    have q3 := y xs (SqT.mono s h)
    rw [q3] at q1
    cases q1
    exact .inl ⟨e, q2⟩
theorem diSeq (he : PE X e (tE X.K W m)) : PI X tg e (tI X.K W (mItems m)) := PI.imp (pi_seq he) (by
  rintro σ H R ⟨c, F, ρ, ok, h⟩
  refine ⟨c, F, ρ, ok, post_mono ?_ (post_bind h)⟩
  rintro d H1 F1 _ ⟨ρ1, ok1, s1, h1⟩ v rv
  obtain ⟨ds, e, h2⟩ := post_lift h1
  unfold itemsD at e
  split at e
  · cases e
    cases rv with
    | lst hr hd => exact ⟨_, rfl, .inl ⟨⟨_, .inl (Rd.mono ok1.sub hr)⟩, h2 H1 F1 ok1 (Same.refl F1) _ (itl_D hr hd)⟩⟩
  · cases e
    cases rv with
    | tup hr hd => exact ⟨_, rfl, .inr ⟨⟨_, SqT.mono ok1.sub hr⟩, h2 H1 F1 ok1 (Same.refl F1) _ (itt_D hr hd)⟩⟩
  · cases e)
/-- range -/
def rngL (lo hi : Int) : List D := (List.range (hi - lo).toNat).map fun i => .int (lo + (i : Nat))
def rngOk (i : Int) : Bool := decide (i.natAbs < 4611686018427387904)
def rngD1 : List D → Option (List D)
  | [.int j] => if rngOk j = true then some (rngL 0 j) else none
  | _ => none
def rngD2 : List D → Option (List D)
  | [.int i, .int j] => if (rngOk i && rngOk j) = true then some (rngL i j) else none
  | _ => none
theorem rngL_get {lo hi : Int} {i : Nat} {d : D} (h : (rngL lo hi)[i]? = some d) : d = .int (lo + (i : Nat)) ∧ i < (hi - lo).toNat := by
  unfold rngL at h
  rw [List.getElem?_map] at h
  by_cases q : i < (hi - lo).toNat
  · rw [List.getElem?_range q] at h
    cases h
    exact ⟨rfl, q⟩
  · rw [List.getElem?_eq_none (by simpa using q)] at h
    cases h
theorem rngL_length (lo hi : Int) : (rngL lo hi).length = (hi - lo).toNat := by simp [rngL]
theorem itr_D {F : Hp} {lo hi : Int} : ItD K F (Itr lo (hi - lo).toNat) (rngL lo hi) where
  go := fun H i s hi => by rw [rngL_length] at hi; exact hi
  stop := fun H i s hi => by rw [rngL_length] at hi; exact hi
  yld := fun H i x H' d s q y => by
    obtain ⟨e1, e2⟩ := y
    obtain ⟨e3, _⟩ := rngL_get q
    subst e1 e2 e3
    exact .inl ⟨rfl, .int _⟩
def mRng1 (ms : M (List D)) : M (List D) := mBind ms fun ds => mLift (rngD1 ds)
def mRng2 (ms : M (List D)) : M (List D) := mBind ms fun ds => mLift (rngD2 ds)
variable {a b : Expr} {ms : M (List D)} {p : Pos}
theorem rngOk_of {i : Int} (h : rngOk i = true) : -(2 ^ 62) ≤ i ∧ i < 2 ^ 62 := by
  unfold rngOk at h
  have h := of_decide_eq_true h
  exact ⟨by omega, by omega⟩
theorem diRng1 (hm : X.mg "range" = none) (ha : PA X [a] (tA X.K W ms)) (hg : Gl X "range" := by rfl) (hs : starEach [a] X.env = [(false, eval a X.env)] := by rfl) : PI X tg (.Call (.Name "range" p) [a] [] pos) (tI X.K W (mRng1 ms)) := PI.imp (pi_range1 hg hm ha hs) (by
  rintro σ H R ⟨c, F, ρ, ok, h⟩
  refine ⟨c, F, ρ, ok, post_mono ?_ (post_bind h)⟩
  rintro ds H1 F1 _ ⟨ρ1, ok1, s1, h1⟩ vs rv
  obtain ⟨out, e, h2⟩ := post_lift h1
  unfold rngD1 at e
  split at e
  · rename_i j
    split at e
    · rename_i hb
      cases e
      cases rv with
      | cons r t =>
        cases t
        cases r
        obtain ⟨b1, b2⟩ := rngOk_of hb
        refine ⟨j, rfl, b1, b2, h2 H1 F1 ok1 (Same.refl F1) _ ?_⟩
        have q := itr_D (K := X.K) (F := F1) (lo := 0) (hi := j)
        rw [Int.sub_zero] at q
        exact q
    · cases e
  · cases e)
theorem diRng2 (hm : X.mg "range" = none) (ha : PA X [a, b] (tA X.K W ms)) (hg : Gl X "range" := by rfl) (hs : starEach [a, b] X.env = [(false, eval a X.env), (false, eval b X.env)] := by rfl) (hs2 : starEach [b] X.env = [(false, eval b X.env)] := by rfl) : PI X tg (.Call (.Name "range" p) [a, b] [] pos) (tI X.K W (mRng2 ms)) := PI.imp (pi_range2 hg hm ha hs hs2) (by
  rintro σ H R ⟨c, F, ρ, ok, h⟩
  refine ⟨c, F, ρ, ok, post_mono ?_ (post_bind h)⟩
  rintro ds H1 F1 _ ⟨ρ1, ok1, s1, h1⟩ vs rv
  obtain ⟨out, e, h2⟩ := post_lift h1
  unfold rngD2 at e
  split at e
  · rename_i i j
    split at e
    · rename_i hb
      cases e
      cases rv with
      | cons r t =>
        cases t with
        | cons r' t' =>
          cases t'
          cases r
          cases r'
          rw [Bool.and_eq_true] at hb
          obtain ⟨b1, b2⟩ := rngOk_of hb.1
          obtain ⟨b3, b4⟩ := rngOk_of hb.2
          exact ⟨i, j, rfl, ⟨b1, b2, b3, b4⟩, h2 H1 F1 ok1 (Same.refl F1) _ itr_D⟩
    · cases e
  · cases e)
/-- enumerate of a list; zip of two lists, of two tuples -/
def enumL (ds : List D) : List D := (List.range ds.length).map fun i => .tuple [.int (i : Nat), ds.getD i .none]
def enumD : List D → Option (List D)
  | [.list ds] => some (enumL ds)
  | _ => none
theorem enumL_get {ds : List D} {i : Nat} {d : D} (h : (enumL ds)[i]? = some d) : ∃ y, ds[i]? = some y ∧ d = .tuple [.int (i : Nat), y] := by
  unfold enumL at h
  rw [List.getElem?_map] at h
  by_cases q : i < ds.length
  · rw [List.getElem?_range q] at h
    have e : ds[i]? = some ds[i] := List.getElem?_eq_getElem q
    refine ⟨ds[i], e, ?_⟩
    have h' := Option.some.inj h
    rw [← h']
    show PyData.tuple [PyData.int (i : Nat), ds.getD i PyData.none] = _
    rw [List.getD_eq_getElem?_getD, e]; rfl
  · rw [List.getElem?_eq_none (by simpa using q)] at h
    cases h
theorem enumL_length (ds : List D) : (enumL ds).length = ds.length := by simp [enumL]
theorem ite_D {F : Hp} {a : Addr} {xs : List V} {ds : List D} (h : Rd F a (.lst xs)) (hd : DpAll K F xs ds) : ItD K F (Ite K a) (enumL ds) where
  go := fun H i s hi => by
    rw [enumL_length] at hi
    obtain ⟨x, q⟩ : ∃ x, xs[i]? = some x := ⟨xs[i]'(by rw [DpAll.length hd]; exact hi), by simp⟩
    exact ⟨xs, x, .inl (Rd.mono s h), q⟩
  stop := fun H i s hi => ⟨xs, .inl (Rd.mono s h), by rw [enumL_length] at hi; rw [DpAll.length hd]; exact hi⟩
  yld := fun H i x H' d s q y => by
    obtain ⟨T, z, e1, e2, e3, y⟩ := y
    obtain ⟨yd, q1, e4⟩ := enumL_get q
    obtain ⟨v, q2, q3⟩ := DpAll.getd hd q1
    have q4 := y xs (.inl (Rd.mono s h))
    rw [q4] at q2
    cases q2
    exact .inr ⟨T, _, _, e4, e1, e2, e3, .cons (.int _) (.one q3)⟩
def mEnum (ms : M (List D)) : M (List D) := mBind ms fun ds => mLift (enumD ds)
variable {elts : List Expr} {kk : Nat} {tpos : Pos}
theorem diEnum (hm : X.mg "enumerate" = none) (ha : PA X [e] (tA X.K W ms)) (hg : Gl X "enumerate" := by rfl) (hs : starEach [e] X.env = [(false, eval e X.env)] := by rfl) : PI X (.Tuple elts kk tpos) (.Call (.Name "enumerate" p) [e] [] pos) (tI X.K W (mEnum ms)) := PI.imp (pi_enum hg hm ha hs) (by
  rintro σ H R ⟨c, F, ρ, ok, h⟩
  refine ⟨c, F, ρ, ok, post_mono ?_ (post_bind h)⟩
  rintro ds H1 F1 _ ⟨ρ1, ok1, s1, h1⟩ vs rv
  obtain ⟨out, e, h2⟩ := post_lift h1
  unfold enumD at e
  split at e
  · cases e
    cases rv with
    | cons r t =>
      cases t
      cases r with
      | lst hr hd => exact ⟨_, _, rfl, .inl (Rd.mono ok1.sub hr), h2 H1 F1 ok1 (Same.refl F1) _ (ite_D hr hd)⟩
  · cases e)
def zipL (ds es : List D) : List D := List.zipWith (fun x y => .tuple [x, y]) ds es
def zipD : List D → Option (List D)
  | [.list ds, .list es] => some (zipL ds es)
  | [.tuple ds, .tuple es] => some (zipL ds es)
  | _ => none
theorem zipL_get {ds es : List D} {i : Nat} {d : D} (h : (zipL ds es)[i]? = some d) : ∃ y z, ds[i]? = some y ∧ es[i]? = some z ∧ d = .tuple [y, z] := by
  unfold zipL at h
  rw [List.getElem?_zipWith] at h
  cases q1 : ds[i]? with
  | none => rw [q1] at h; cases h
  | some y =>
    cases q2 : es[i]? with
    | none => rw [q1, q2] at h; cases h
    | some z =>
      rw [q1, q2] at h
      cases h
      exact ⟨y, z, rfl, rfl, rfl⟩
theorem itz_D {F : Hp} {a b : Addr} {xs ys : List V} {ds es : List D} (h : Rd F a (.lst xs)) (hd : DpAll K F xs ds) (h2 : Rd F b (.lst ys)) (hd2 : DpAll K F ys es) : ItD K F (Itz K a b) (zipL ds es) where
  go := fun H i s hi => by
    have hl : i < ds.length ∧ i < es.length := by simp [zipL] at hi; omega
    obtain ⟨x, q⟩ : ∃ x, xs[i]? = some x := ⟨xs[i]'(by rw [DpAll.length hd]; exact hl.1), by simp⟩
    obtain ⟨y, q'⟩ : ∃ x, ys[i]? = some x := ⟨ys[i]'(by rw [DpAll.length hd2]; exact hl.2), by simp⟩
    exact ⟨xs, ys, x, y, .inl (Rd.mono s h), .inl (Rd.mono s h2), q, q'⟩
  stop := fun H i s hi => ⟨xs, ys, .inl (Rd.mono s h), .inl (Rd.mono s h2), by rw [DpAll.length hd, DpAll.length hd2]; simp [zipL] at hi; omega⟩
  yld := fun H i x H' d s q y => by
    obtain ⟨T, z, z2, e1, e2, e3, y, y2⟩ := y
    obtain ⟨yd, zd, q1, q1', e4⟩ := zipL_get q
    obtain ⟨v, q2, q3⟩ := DpAll.getd hd q1
    obtain ⟨v2, q2', q3'⟩ := DpAll.getd hd2 q1'
    have q4 := y xs (.inl (Rd.mono s h))
    have q5 := y2 ys (.inl (Rd.mono s h2))
    rw [q4] at q2
    rw [q5] at q2'
    cases q2
    cases q2'
    exact .inr ⟨T, _, _, e4, e1, e2, e3, .cons q3 (.one q3')⟩
theorem itzT_D {F : Hp} {a b : Addr} {xs ys : List V} {ds es : List D} (h : SqT K F a xs) (hd : DpAll K F xs ds) (h2 : SqT K F b ys) (hd2 : DpAll K F ys es) : ItD K F (RZ.ItzT K a b) (zipL ds es) where
  go := fun H i s hi => by
    have hl : i < ds.length ∧ i < es.length := by simp [zipL] at hi; omega
    obtain ⟨x, q⟩ : ∃ x, xs[i]? = some x := ⟨xs[i]'(by rw [DpAll.length hd]; exact hl.1), by simp⟩
    obtain ⟨y, q'⟩ : ∃ x, ys[i]? = some x := ⟨ys[i]'(by rw [DpAll.length hd2]; exact hl.2), by simp⟩
    exact ⟨xs, ys, x, y, SqT.mono s h, SqT.mono s h2, q, q'⟩
  stop := fun H i s hi => ⟨xs, ys, SqT.mono s h, SqT.mono s h2, by rw [DpAll.length hd, DpAll.length hd2]; simp [zipL] at hi; omega⟩
  yld := fun H i x H' d s q y => by
    obtain ⟨T, z, z2, e1, e2, e3, y, y2⟩ := y
    obtain ⟨yd, zd, q1, q1', e4⟩ := zipL_get q
    obtain ⟨v, q2, q3⟩ := DpAll.getd hd q1
    obtain ⟨v2, q2', q3'⟩ := DpAll.getd hd2 q1'
    have q4 := y xs (SqT.mono s h)
    have q5 := y2 ys (SqT.mono s h2)
    rw [q4] at q2
    rw [q5] at q2'
    cases q2
    cases q2'
    exact .inr ⟨T, _, _, e4, e1, e2, e3, .cons q3 (.one q3')⟩
def mZip (ms : M (List D)) : M (List D) := mBind ms fun ds => mLift (zipD ds)
theorem diZip (hm : X.mg "zip" = none) (ha : PA X [a, b] (tA X.K W ms)) (hg : Gl X "zip" := by rfl) (hs : starEach [a, b] X.env = (false, eval a X.env) :: starEach [b] X.env := by rfl) (hpl : (backTo pos (starEach [b] X.env)).any (·.1) = false := by rfl) :
    PI X (.Tuple elts kk tpos) (.Call (.Name "zip" p) [a, b] [] pos) (tI X.K W (mZip ms)) := PI.imp (RZ.pi_zipA hg hm ha hs hpl) (by
  rintro σ H R ⟨c, F, ρ, ok, h⟩
  refine ⟨c, F, ρ, ok, post_mono ?_ (post_bind h)⟩
  rintro ds H1 F1 _ ⟨ρ1, ok1, s1, h1⟩ vs rv
  obtain ⟨out, e, h2⟩ := post_lift h1
  unfold zipD at e
  split at e
  · cases e
    cases rv with
    | cons r t =>
      cases t with
      | cons r' t' =>
        cases t'
        cases r with
        | lst hr hd =>
          cases r' with
          | lst hr' hd' => exact ⟨_, _, _, _, rfl, .inl ⟨.inl (Rd.mono ok1.sub hr), .inl (Rd.mono ok1.sub hr'), h2 H1 F1 ok1 (Same.refl F1) _ (itz_D hr hd hr' hd')⟩⟩
  · cases e
    cases rv with
    | cons r t =>
      cases t with
      | cons r' t' =>
        cases t'
        cases r with
        | tup hr hd =>
          cases r' with
          | tup hr' hd' => exact ⟨_, _, _, _, rfl, .inr ⟨SqT.mono ok1.sub hr, SqT.mono ok1.sub hr', h2 H1 F1 ok1 (Same.refl F1) _ (itzT_D hr hd hr' hd')⟩⟩
  · cases e)
end
/-! ### for, while -/
def mForL (g : D → M Unit) (body : M Fl) : List D → M Fl
  | [] => mPure .nx
  | d :: ds => mBind (g d) fun _ => mBind body fun f => match f with
    | .nx => mForL g body ds
    | .ct => mForL g body ds
    | .bk => mPure .nx
    | o => mPure o
def mFor (mi : M (List D)) (g : D → M Unit) (body : M Fl) : M Fl := mBind mi fun ds => mForL g body ds
section
variable {X : Cx} {W : WX} {K : PySem.W.Frag} {e tg : Expr} {pos : Pos}
theorem yld_ok {c : Ct} {σ : St} {H F : Hp} {ρ : En} {J : It} {ds : List D} {i : Nat} {x : V} {H' : Hp} {d : D} (ok : Ok K c σ H F ρ) (hJ : ∀ H x H' d, Same F H → ds[i]? = some d → J.yld i H x H' → (H' = H ∧ Dp K F x d) ∨ (∃ T xs es, d = .tuple es ∧ x = .ref T ∧ H T = none ∧ H' = upd H T (.tup xs) ∧ DpAll K F xs es)) (e : ds[i]? = some d) (y : J.yld i H x H') :
    ∃ F', Ok K c σ H' F' ρ ∧ Same F F' ∧ Dp K F' x d := by
  rcases hJ H x H' d ok.sub e y with ⟨rfl, r⟩ | ⟨T, xs, es, rfl, rfl, hT, rfl, r⟩
  · exact ⟨F, ok, Same.refl F, r⟩
  · have s : Same F (upd F T (.tup xs)) := Same.updN (ok.new hT).1
    exact ⟨_, ok.alloc hT, s, .tup (SqT.of upd_same) (DpAll.mono s r)⟩
theorem ItD.mono {F F' : Hp} {J : It} {ds : List D} (s : Same F F') (h : ItD K F J ds) : ∀ (i : Nat) H x H' d, Same F' H → ds[i]? = some d → J.yld i H x H' → (H' = H ∧ Dp K F' x d) ∨ (∃ T xs es, d = .tuple es ∧ x = .ref T ∧ H T = none ∧ H' = upd H T (.tup xs) ∧ DpAll K F' xs es) := fun i H x H' d s' e y => by
  rcases h.yld H i x H' d (s.trans s') e y with ⟨a1, a2⟩ | ⟨T, xs, es, a1, a2, a3, a4, a5⟩
  · exact .inl ⟨a1, Dp.mono s a2⟩
  · exact .inr ⟨T, xs, es, a1, a2, a3, a4, DpAll.mono s a5⟩
theorem for_post {c : Ct} {F : Hp} {Dn : Ends} {ρ : En} {mb rest : M Fl} {N : St → Hp → Prop} (h : postS K W c F Dn (mBind mb (fun f => match f with
    | .nx => rest
    | .ct => rest
    | .bk => mPure .nx
    | o => mPure o) ρ)) (hN : ∀ σ' H' F' ρ', Ok K c σ' H' F' ρ' → Same F F' → postS K W c F' Dn (rest ρ') → N σ' H') : postS K W c F { Dn with nx := N, ct := N, bk := Dn.nx } (mb ρ) := by
  unfold mBind at h
  cases e : mb ρ with
  | none => rw [e] at h; exact h
  | some r =>
    rw [e] at h
    cases r with
    | ex x ρ1 => exact h
    | ok f ρ1 =>
      cases f with
      | nx => exact fun σ' H' F' ok s => hN σ' H' F' ρ1 ok s (postS_weak s h)
      | ct => exact fun σ' H' F' ok s => hN σ' H' F' ρ1 ok s (postS_weak s h)
      | bk => exact h
      | rt d => exact h
      | rf ds => exact h
theorem dFor {iter : Expr} {body : List Stmt} {mi : M (List D)} {g : D → M Unit} {mb : M Fl} (hp : PassesOwn (model X.prog X.w) X.A X.env X.xe) (hc : X.calm = true) (hi : PI X tg iter (tI X.K W mi)) (hg : PG X tg (tG X.K W g)) (hb : PSs X body (tS X.K W mb))
    (hs : ∀ x, foldedSetIterable iter X.env x = pure x := by exact fun _ => rfl) : PS X (.For tg iter body [] pos) (tS X.K W (mFor mi g mb)) := PS.imp (ps_for hp hc hi hg hb hs) (by
  rintro Dn σ H ⟨c, F, ρ, ok, h⟩
  refine ⟨c, F, ρ, ok, post_mono ?_ (postS_bind h)⟩
  rintro ds H1 F1 _ ⟨ρ1, ok1, s1, h1⟩ J hJ
  refine ⟨fun i n σ' H' => i + n = ds.length ∧ ∃ F' ρ', Ok X.K c σ' H' F' ρ' ∧ Same F1 F' ∧ postS X.K W c F' Dn (mForL g mb (ds.drop i) ρ'), ⟨ds.length, by omega, F1, ρ1, ok1, Same.refl F1, h1⟩, ?_⟩
  rintro i n σ' H' ⟨en, F', ρ', ok', s', h'⟩
  by_cases hi : i < ds.length
  · obtain ⟨d, ed⟩ : ∃ d, ds[i]? = some d := ⟨ds[i], List.getElem?_eq_getElem hi⟩
    have edr : ds.drop i = d :: ds.drop (i + 1) := by
      rw [List.drop_eq_getElem_cons hi]
      have := List.getElem?_eq_getElem hi
      rw [ed] at this
      rw [Option.some.inj this]
    rw [edr] at h'
    refine .inr ⟨hJ.go H' i (s'.trans ok'.sub) hi, fun σ3 H3 => ∃ F3 ρ3, Ok X.K c σ3 H3 F3 ρ3 ∧ Same F1 F3 ∧ postS X.K W c F3 Dn (mForL g mb (ds.drop (i + 1)) ρ3), fun σ3 H3 w => ⟨n - 1, by omega, by omega, w⟩, fun x H2 y => ?_⟩
    obtain ⟨F2, ok2, s2, r2⟩ := yld_ok ok' (hJ.mono s' i) ed y
    refine ⟨c, F2, ρ', d, ok2, r2, postG_mono ?_ (postG_weak s2 (postS_bindG h'))⟩
    rintro σ4 H4 ⟨F4, ρ4, ok4, s4, h4⟩
    exact ⟨c, F4, ρ4, ok4, for_post h4 fun σ5 H5 F5 ρ5 ok5 s5 h5 => ⟨F5, ρ5, ok5, (s'.trans s4).trans s5, h5⟩⟩
  · have ei : ds.drop i = [] := List.drop_eq_nil_of_le (by omega)
    rw [ei] at h'
    exact .inl ⟨hJ.stop H' i (s'.trans ok'.sub) (by omega), h' σ' H' F' ok' (Same.refl F')⟩)
end
end Dd

namespace Dd
open PySem PySem.Spec L2
/-! ### while -/
def mWhileN (c : M Bool) (body : M Fl) : Nat → M Fl
  | 0 => mStuck
  | n + 1 => mBind c fun k => if k = true then mBind body fun f => match f with
    | .nx => mWhileN c body n
    | .ct => mWhileN c body n
    | .bk => mPure .nx
    | o => mPure o
    else mPure .nx
def mWhile (fuel : En → Nat) (c : M Bool) (body : M Fl) : M Fl := fun ρ => mWhileN c body (fuel ρ) ρ
section
variable {X : Cx} {W : WX} {K : PySem.W.Frag} {e tg : Expr} {pos : Pos}
theorem dWhile {cnd : Expr} {body : List Stmt} {mc : M Bool} {mb : M Fl} {fuel : En → Nat} (hp : PassesOwn (model X.prog X.w) X.A X.env X.xe) (hc : PT X cnd (tT X.K W mc)) (hb : PSs X body (tS X.K W mb)) : PS X (.While cnd body [] pos) (tS X.K W (mWhile fuel mc mb)) := PS.imp (ps_while hp hc hb) (by
  rintro Dn σ H ⟨c, F, ρ, ok, h⟩
  refine ⟨fun n σ' H' => ∃ F' ρ', Ok X.K c σ' H' F' ρ' ∧ Same F F' ∧ postS X.K W c F' Dn (mWhileN mc mb n ρ'), ⟨fuel ρ, F, ρ, ok, Same.refl F, h⟩, ?_⟩
  rintro n σ' H' ⟨F', ρ', ok', s', h'⟩
  cases n with
  | zero => exact h'.elim
  | succ n =>
    refine ⟨c, F', ρ', ok', post_mono ?_ (postS_bind h')⟩
    rintro k H1 F1 _ ⟨ρ1, ok1, s1, h1⟩
    cases k with
    | false => exact h1 σ' H1 F1 ok1 (Same.refl F1)
    | true =>
      refine ⟨fun σ3 H3 => ∃ F3 ρ3, Ok X.K c σ3 H3 F3 ρ3 ∧ Same F F3 ∧ postS X.K W c F3 Dn (mWhileN mc mb n ρ3), fun σ3 H3 w => ⟨n, Nat.lt_succ_self n, w⟩, ?_⟩
      exact ⟨c, F1, ρ1, ok1, for_post h1 fun σ5 H5 F5 ρ5 ok5 s5 h5 => ⟨F5, ρ5, ok5, (s'.trans s1).trans s5, h5⟩⟩)
/-! ### comprehensions -/
def WF : WX := fun _ _ _ _ => False
/-- the stores of a comprehension's target: one name, or a tuple of names -/
def unsE (ρ : En) : List Nat → En
  | [] => ρ
  | i :: is => (unsE ρ is).set i .un
def mUn_ (vs : List Nat) : M Unit := fun ρ => some (.ok () (unsE ρ vs))
theorem unsE_length (ρ : En) : ∀ vs, (unsE ρ vs).length = ρ.length
  | [] => rfl
  | v :: vs => by unfold unsE; rw [List.length_set, unsE_length ρ vs]
theorem ok_wipe {c : Ct} {σ : St} {H F : Hp} {ρ : En} (ok : Ok K c σ H F ρ) : ∀ vs : List Nat, Ok K c (wipe σ vs) H F (unsE ρ vs)
  | [] => ok
  | v :: vs => by
    have ok' := ok_wipe ok vs
    unfold wipe unsE
    by_cases h : v < (unsE ρ vs).length
    · exact ok'.setU h
    · have h1 : (unsE ρ vs).set v .un = unsE ρ vs := List.set_eq_of_length_le (by omega)
      have h2 : (wipe σ vs).set v none = wipe σ vs := List.set_eq_of_length_le (by rw [ok'.len]; omega)
      rw [h1, h2]; exact ok'
theorem unsE_at {ρ : En} {i : Nat} : ∀ {vs : List Nat}, i ∈ vs → (unsE ρ vs)[i]? = some .un ∨ (unsE ρ vs)[i]? = none
  | v :: vs, h => by
    unfold unsE
    by_cases e : v = i
    · subst e
      by_cases hl : v < (unsE ρ vs).length
      · left; simp [hl]
      · right; simp only [List.getElem?_eq_none_iff, List.length_set]; omega
    · rw [List.getElem?_set_ne e]
      exact unsE_at (by cases h with
        | head => exact absurd rfl e
        | tail _ h => exact h)
/-- nothing is known of the wiped slots: they may be what they were -/
theorem ok_unwipe {c : Ct} {σ : St} {H F : Hp} {ρ : En} {vs : List Nat} (ok : Ok K c (wipe σ vs) H F (unsE ρ vs)) : Ok K c σ H F (unsE ρ vs) := by
  have out : ∀ {i : Nat} {u : Sl}, (unsE ρ vs)[i]? = some u → u ≠ .un → (wipe σ vs)[i]? = σ[i]? := fun {i u} e n => by
    by_cases h : i ∈ vs
    · rcases unsE_at (ρ := ρ) h with q | q
      · rw [q] at e; exact absurd (Option.some.inj e).symm n
      · rw [q] at e; cases e
    · exact wipe_out h
  refine ⟨by rw [← ok.len, wipe_length], ok.sub, ok.ge, ok.fe, ok.keep, ok.iod, ok.prt, fun i d e => ?_, fun i ds e => ?_, fun i ds e => ?_, fun i ns e => ?_, fun i j ds es p a b x y => ?_⟩
  · obtain ⟨v, a1, a2⟩ := ok.val i d e
    exact ⟨v, by rw [← out e (by intro z; cases z)]; exact a1, a2⟩
  · obtain ⟨p, w, a1, a2⟩ := ok.own i ds e
    exact ⟨p, w, by rw [← out e (by intro z; cases z)]; exact a1, a2⟩
  · obtain ⟨z, p, w, a0, a1, a2⟩ := ok.ios i ds e
    exact ⟨z, p, w, a0, by rw [← out e (by intro z; cases z)]; exact a1, a2⟩
  · obtain ⟨z, p, a1, a2⟩ := ok.scr i ns e
    exact ⟨z, p, by rw [← out e (by intro z; cases z)]; exact a1, a2⟩
  · exact ok.sep i j ds es p a b (by rw [out a (by intro z; cases z)]; exact x) (by rw [out b (by intro z; cases z)]; exact y)
theorem unsE_self {ρ : En} : ∀ {vs : List Nat}, unsE (unsE ρ vs) vs = unsE ρ vs := fun {vs} => by
  apply List.ext_getElem?
  intro i
  by_cases h : i ∈ vs
  · rcases unsE_at (ρ := unsE ρ vs) h with q | q <;> rcases unsE_at (ρ := ρ) h with q' | q' <;> rw [q, q']
    · have := List.getElem?_eq_none_iff.mp q'
      have h2 : i < (unsE (unsE ρ vs) vs).length := by
        rcases Nat.lt_or_ge i (unsE (unsE ρ vs) vs).length with z | z
        · exact z
        · rw [List.getElem?_eq_none z] at q; cases q
      rw [unsE_length] at h2
      omega
    · have := List.getElem?_eq_none_iff.mp q
      rw [unsE_length] at this
      have h2 : i < (unsE ρ vs).length := by
        rcases Nat.lt_or_ge i (unsE ρ vs).length with z | z
        · exact z
        · rw [List.getElem?_eq_none z] at q'; cases q'
      omega
  · have o : ∀ (ρ : En) (vs : List Nat), i ∉ vs → (unsE ρ vs)[i]? = ρ[i]? := fun ρ vs => by
      induction vs with
      | nil => intro _; rfl
      | cons v vs ih =>
        intro h
        unfold unsE
        rw [List.getElem?_set_ne (fun z => h (by rw [z]; exact List.mem_cons_self)), ih fun z => h (List.mem_cons_of_mem _ z)]
    rw [o _ _ h]
/-- the target of a comprehension's for: where it stores, and that it stores nowhere else -/
structure CTg (K : PySem.W.Frag) (vs : List Nat) (g : TG) (gD : D → M Unit) : Prop where
  run : ∀ {c : Ct} {σ : St} {H F : Hp} {ρ : En} {v : V} {d : D} {u : Unit} {ρ' : En} {Q : St → Hp → Prop}, Ok K c σ H F ρ → Dp K F v d → gD d ρ = some (.ok u ρ') →
    (∀ σ', Ok K c σ' H F ρ' → wipe σ' vs = wipe σ vs → Q σ' H) → g v σ H Q
theorem wipe_set {σ : St} {i : Nat} {v : Option V} : ∀ {vs : List Nat}, i ∈ vs → wipe (σ.set i v) vs = wipe σ vs := fun {vs} h => by
  have o : ∀ (vs : List Nat) (σ : St), (wipe (σ.set i v) vs) = (wipe σ vs).set i v ∨ i ∈ vs := fun vs => by
    induction vs with
    | nil => intro σ; exact .inl rfl
    | cons w vs ih =>
      intro σ
      by_cases e : i = w
      · exact .inr (e ▸ List.mem_cons_self)
      · rcases ih σ with q | q
        · left; unfold wipe; rw [q, List.set_comm _ _ e]
        · exact .inr (List.mem_cons_of_mem _ q)
  induction vs with
  | nil => cases h
  | cons w vs ih =>
    unfold wipe
    by_cases e : i = w
    · subst e
      by_cases h' : i ∈ vs
      · rw [ih h']
      · rcases o vs σ with q | q
        · rw [q, List.set_set]
        · exact absurd q h'
    · have h' : i ∈ vs := by cases h with
        | head => exact absurd rfl e
        | tail _ h => exact h
      rw [ih h']
theorem ctName {vs : List Nat} {i : Nat} (h : i ∈ vs) : CTg K vs (gName i) (mStore i) := ⟨fun {c σ H F ρ v d u ρ' Q} ok r e k => by
  unfold mStore at e
  split at e
  · rename_i hl
    cases e
    exact k _ (ok.setV hl r) (wipe_set h)
  · cases e⟩
def gNamesT : List Nat → TGs
  | [] => gNil
  | i :: is => gCons (gName i) (gNamesT is)
def gNamesD : List Nat → List D → M Unit
  | [], [] => mPure ()
  | i :: is, d :: ds => mBind (mStore i d) fun _ => gNamesD is ds
  | _, _ => mStuck
theorem names_run {vs : List Nat} {c : Ct} {H F : Hp} : ∀ {is : List Nat} {xs : List V} {ds : List D} {σ : St} {ρ : En} {u : Unit} {ρ' : En} {Q : St → Hp → Prop}, (∀ i ∈ is, i ∈ vs) → Ok K c σ H F ρ → DpAll K F xs ds → gNamesD is ds ρ = some (.ok u ρ') →
    (∀ σ', Ok K c σ' H F ρ' → wipe σ' vs = wipe σ vs → Q σ' H) → gNamesT is xs σ H Q
  | [], _, _, σ, ρ, u, ρ', Q, hv, ok, .nil, e, k => by
    cases e
    exact ⟨rfl, k σ ok rfl⟩
  | [], _, _, σ, ρ, u, ρ', Q, hv, ok, .cons _ _, e, k => by cases e
  | i :: is, _, _, σ, ρ, u, ρ', Q, hv, ok, .nil, e, k => by cases e
  | i :: is, _, _, σ, ρ, u, ρ', Q, hv, ok, .cons (v := x) (vs := xs) (d := d) (ds := ds) r rr, e, k => by
    obtain ⟨_, ρ1, e1, e2⟩ := bind_ok e
    refine ⟨x, xs, rfl, ?_⟩
    unfold mStore at e1
    split at e1
    · rename_i hl
      cases e1
      refine names_run (vs := vs) (fun j hj => hv j (List.mem_cons_of_mem _ hj)) (ok.setV hl r) rr e2 fun σ' ok' w => k σ' ok' ?_
      rw [w, wipe_set (hv i List.mem_cons_self)]
    · cases e1
theorem ctTup {vs is : List Nat} (h : ∀ i ∈ is, i ∈ vs) : CTg K vs (gTup K is.length (gNamesT is)) (gTupD is.length (gNamesD is)) := ⟨fun {c σ H F ρ v d u ρ' Q} ok r e k => by
  unfold gTupD at e
  split at e
  · split at e
    · rename_i hl
      obtain ⟨p, xs, rfl, hp, dp⟩ := Pk.tup ok.sub (.inl r)
      exact ⟨p, xs, rfl, hp, by rw [DpAll.length dp]; exact hl, names_run h ok dp e k⟩
    · cases e
  · cases e⟩
def mGo (vs : List Nat) (g : D → M Unit) (tt : M Bool) (te : M D) : List D → M (List D)
  | [] => mPure []
  | d :: ds => mBind (g d) fun _ => mBind tt fun k => mBind (if k = true then mBind te fun y => mPure [y] else mPure []) fun es => mBind (mUn_ vs) fun _ => mBind (mGo vs g tt te ds) fun rest => mPure (es ++ rest)
/-- nothing is raised out of a comprehension -/
def mRest (vs : List Nat) (g : D → M Unit) (tt : M Bool) (te : M D) (ds : List D) : M (List D) := fun ρ => match mGo vs g tt te ds (unsE ρ vs) with
  | some (.ok out ρe) => if fit ds.length = true then some (.ok out (unsE ρe vs)) else none
  | _ => none
def mComp (vs : List Nat) (mi : M (List D)) (g : D → M Unit) (tt : M Bool) (te : M D) : M (List D) := mBind mi (mRest vs g tt te)
theorem go_length {vs : List Nat} {g : D → M Unit} {tt : M Bool} {te : M D} : ∀ {ds out : List D} {ρ ρ' : En}, mGo vs g tt te ds ρ = some (.ok out ρ') → out.length ≤ ds.length
  | [], out, ρ, ρ', h => by cases h; exact Nat.le_refl _
  | d :: ds, out, ρ, ρ', h => by
    obtain ⟨_, ρ1, h1, h⟩ := bind_ok h
    obtain ⟨k, ρ2, h2, h⟩ := bind_ok h
    obtain ⟨es, ρ3, h3, h⟩ := bind_ok h
    obtain ⟨_, ρ4, h4, h⟩ := bind_ok h
    obtain ⟨rest, ρ5, h5, h⟩ := bind_ok h
    cases h
    have l := go_length h5
    have l2 : es.length ≤ 1 := by
      cases k with
      | true =>
        obtain ⟨y, _, _, h3⟩ := bind_ok h3
        cases h3; exact Nat.le_refl _
      | false => cases h3; exact Nat.zero_le _
    rw [List.length_append, List.length_cons]
    omega
theorem wipe_wipe {σ : St} {vs : List Nat} : wipe (wipe σ vs) vs = wipe σ vs := by
  have o : ∀ (ws : List Nat), (∀ i ∈ ws, i ∈ vs) → wipe (wipe σ ws) vs = wipe σ vs := fun ws => by
    induction ws with
    | nil => intro _; rfl
    | cons w ws ih =>
      intro h
      show wipe ((wipe σ ws).set w none) vs = _
      rw [wipe_set (h w List.mem_cons_self), ih fun i hi => h i (List.mem_cons_of_mem _ hi)]
  exact o vs fun _ h => h
/-- the heart: the loop of a comprehension, the new list kept apart -/
theorem comp_core {mi : M (List D)} {vs : List Nat} {g : TG} {gD : D → M Unit} {mt : M Bool} {me : M D} (hg : CTg K vs g gD) {σ : St} {H : Hp} {Q : VK}
    {tt : TT} (ht : ∀ σ H Q, tT K WF mt σ H Q → tt σ H Q) {c : Ct} {F : Hp} {ρ : En} (ok : Ok K c σ H F ρ)
    (h : post K W c σ F (fun ds H1 F1 => ∃ ρ1, Ok K c σ H1 F1 ρ1 ∧ fit ds.length = true ∧ ∃ out ρe, mGo vs gD mt me ds (unsE ρ1 vs) = some (.ok out ρe) ∧
      ∀ p acc H2 F2, c.pr p = none → Ok K (c.put p (.lst acc)) σ H2 F2 (unsE ρe vs) → Same F1 F2 → DpAll K F2 acc out → Q (.ref p) H2) (mi ρ)) : tLc (tI K W mi) g tt (tE K WF me) vs σ H Q := by
  refine ⟨c, F, ρ, ok, post_mono ?_ h⟩
  rintro ds H1 F1 _ ⟨ρ1, ok1, hf, out, ρe, hgo, k⟩ J hJ p hp
  have hpr : c.pr p = none := (ok1.new hp).2.2.1
  refine ⟨fun i n H => i + n = ds.length ∧ ∃ acc o1 F2 ρ2 rest, Ok K (c.put p (.lst acc)) (wipe σ vs) H F2 (unsE ρ2 vs) ∧ Same F1 F2 ∧ DpAll K F2 acc o1 ∧ o1.length ≤ i ∧ mGo vs gD mt me (ds.drop i) (unsE ρ2 vs) = some (.ok rest ρe) ∧ out = o1 ++ rest,
    ⟨ds.length, by omega, [], [], F1, ρ1, out, ok_wipe (ok1.allocP hp) vs, Same.refl F1, .nil, Nat.le_refl _, hgo, rfl⟩, ?_⟩
  rintro i n H2 ⟨en, acc, o1, F2, ρ2, rest, ok2, s2, da, hl, hgo2, eo⟩
  by_cases hi : i < ds.length
  · obtain ⟨d, ed⟩ : ∃ d, ds[i]? = some d := ⟨ds[i], List.getElem?_eq_getElem hi⟩
    have edr : ds.drop i = d :: ds.drop (i + 1) := by
      rw [List.drop_eq_getElem_cons hi]
      have := List.getElem?_eq_getElem hi
      rw [ed] at this
      rw [Option.some.inj this]
    rw [edr] at hgo2
    obtain ⟨_, ρa, e1, g1⟩ := bind_ok hgo2
    obtain ⟨b, ρb, e2, g2⟩ := bind_ok g1
    obtain ⟨es, ρc, e3, g3⟩ := bind_ok g2
    obtain ⟨_, ρd, e4, g4⟩ := bind_ok g3
    obtain ⟨rest', ρf, e5, g5⟩ := bind_ok g4
    cases e4
    cases g5
    have hz : acc.length < sizeLine := by
      rw [DpAll.length da]
      have := of_decide_eq_true hf
      rw [sizeLine_eq]; omega
    refine .inr ⟨hJ.go H2 i (s2.trans ok2.sub) hi, fun H' => ∃ acc o1 F2 ρ2 rest, Ok K (c.put p (.lst acc)) (wipe σ vs) H' F2 (unsE ρ2 vs) ∧ Same F1 F2 ∧ DpAll K F2 acc o1 ∧ o1.length ≤ i + 1 ∧ mGo vs gD mt me (ds.drop (i + 1)) (unsE ρ2 vs) = some (.ok rest ρe) ∧ out = o1 ++ rest,
      fun H' w => ⟨n - 1, by omega, by omega, w⟩, fun x H' y => ?_⟩
    obtain ⟨F3, ok3, s3, r3⟩ := yld_ok ok2 (hJ.mono s2 i) ed y
    refine hg.run ok3 r3 e1 fun σ' ok4 hw => ?_
    rw [wipe_wipe] at hw
    refine ⟨hw, ht _ _ _ ⟨_, F3, ρa, ok4, ?_⟩⟩
    rw [e2]
    intro H5 F5 ok5 s5
    cases b with
    | false =>
      rw [if_neg (by decide)] at e3
      cases e3
      refine iteF ?_
      refine ⟨acc, o1, F5, ρb, rest', ?_, (s2.trans s3).trans s5, DpAll.mono (s3.trans s5) da, by omega, e5, by rw [eo]; rfl⟩
      have q := ok_wipe ok5 vs
      rw [hw] at q
      exact q
    | true =>
      rw [if_pos rfl] at e3
      obtain ⟨yd, ρy, e6, e7⟩ := bind_ok e3
      cases e7
      refine iteT ?_
      refine ⟨_, F5, ρb, ok5, ?_⟩
      rw [e6]
      intro H6 F6 ok6 s6 v rv
      refine ⟨acc, (ok6.prt p _ upd_same).1, hz, acc ++ [v], o1 ++ [yd], F6, _, rest', ?_, ((s2.trans s3).trans s5).trans s6, DpAll.append (DpAll.mono ((s3.trans s5).trans s6) da) (.one rv), by rw [List.length_append]; exact Nat.succ_le_succ hl, e5, by rw [eo]; simp⟩
      have q := ok_wipe (ok6.putP (o' := .lst (acc ++ [v]))) vs
      rw [hw] at q
      exact q
  · have ei : ds.drop i = [] := List.drop_eq_nil_of_le (by omega)
    rw [ei] at hgo2
    cases hgo2
    refine .inl ⟨hJ.stop H2 i (s2.trans ok2.sub) (by omega), ?_⟩
    rw [List.append_nil] at eo
    subst eo
    refine k p acc H2 F2 hpr ?_ s2 da
    rw [unsE_self]
    exact ok_unwipe ok2
theorem comp_read {α : Type} {vs : List Nat} {gD : D → M Unit} {mt : M Bool} {me : M D} {ds : List D} {ρ1 : En} {c : Ct} {σ : St} {F : Hp} {G : α → Hp → Hp → Prop} {f : List D → M α}
    (h : post K W c σ F G (mBind (mRest vs gD mt me ds) f ρ1)) :
    fit ds.length = true ∧ ∃ out ρe, mGo vs gD mt me ds (unsE ρ1 vs) = some (.ok out ρe) ∧ post K W c σ F G (f out (unsE ρe vs)) := by
  unfold mBind mRest at h
  cases q : mGo vs gD mt me ds (unsE ρ1 vs) with
  | none => rw [q] at h; exact h.elim
  | some r =>
    rw [q] at h
    cases r with
    | ex x ρ' => exact h.elim
    | ok out ρe =>
      by_cases hf : fit ds.length = true
      · simp only [if_pos hf] at h
        exact ⟨hf, out, ρe, rfl, h⟩
      · simp only [if_neg hf] at h
        exact h.elim
theorem bind_assoc {α β γ : Type} (m : M α) (f : α → M β) (g : β → M γ) (ρ : En) : mBind (mBind m f) g ρ = mBind m (fun a => mBind (f a) g) ρ := by
  unfold mBind
  cases m ρ with
  | none => rfl
  | some r => cases r <;> rfl
def mCompV (vs : List Nat) (mi : M (List D)) (g : D → M Unit) (tt : M Bool) (te : M D) : M D := mBind (mComp vs mi g tt te) fun out => mPure (.list out)
theorem comp_val {mi : M (List D)} {vs : List Nat} {g : TG} {gD : D → M Unit} {mt : M Bool} {me : M D} (hg : CTg K vs g gD) {σ : St} {H : Hp} {Q : VK}
    {tt : TT} (ht : ∀ σ H Q, tT K WF mt σ H Q → tt σ H Q) (h : tE K W (mCompV vs mi gD mt me) σ H Q) : tLc (tI K W mi) g tt (tE K WF me) vs σ H Q := by
  obtain ⟨c, F, ρ, ok, h⟩ := h
  refine comp_core hg ht ok ?_
  unfold mCompV mComp at h
  rw [bind_assoc] at h
  refine post_mono ?_ (post_bind h)
  rintro ds H1 F1 _ ⟨ρ1, ok1, s1, h1⟩
  obtain ⟨hf, out, ρe, hgo, h2⟩ := comp_read h1
  refine ⟨ρ1, ok1, hf, out, ρe, hgo, fun p acc H2 F2 hpr ok2 s2 da => ?_⟩
  obtain ⟨hH, hF, h0⟩ := ok2.prt p _ upd_same
  have s : Same F2 (upd F2 p (.lst acc)) := Same.updN hF
  exact h2 _ _ (ok2.freeP hpr) (s2.trans s) _ (.lst (.inl upd_same) (DpAll.mono s da))
/-- [..] as a value -/
theorem dComp {elt iter : Expr} {ifs : List Expr} {scope : Scope} {own : List (Str × Nat)} {mi : M (List D)} {g : TG} {gD : D → M Unit} {mt : M Bool} {me : M D} {tt : TT} (hc : X.calm = true) (hN : X.N.Nodup) (hi : PI X tg iter (tI X.K W mi)) (ok : BlkOk X.N X.env.scope scope own)
    (hg : ∀ (s : Shared) (H : Hp) (C : Addr) (cl : List (Str × Addr)) (fp : List Addr), PG (X.blk s H scope (compEnvC scope cl C X.env) fp) tg g) (ht : ∀ (s : Shared) (H : Hp) (C : Addr) (cl : List (Str × Addr)) (fp : List Addr), PTs (X.blk s H scope (compEnvC scope cl C X.env) fp) ifs tt)
    (he : ∀ (s : Shared) (H : Hp) (C : Addr) (cl : List (Str × Addr)) (fp : List Addr), PE (X.blk s H scope (compEnvC scope cl C X.env) fp) elt (tE X.K WF me)) (hG : CTg X.K (own.map (·.2)) g gD) (hT : ∀ σ H Q, tT X.K WF mt σ H Q → tt σ H Q)
    (hs : ∀ x, foldedSetIterable iter X.env x = pure x := by exact fun _ => rfl) : PE X (.ListComp elt [⟨tg, iter, ifs, 0⟩] scope pos) (tE X.K W (mCompV (own.map (·.2)) mi gD mt me)) :=
  PE.imp (pe_lc hc hN hi ok hg ht he hs) fun _ _ _ => comp_val hG hT
theorem tYes_of {σ : St} {H : Hp} {Q : Bool → Hp → Prop} (h : tT K WF (mPure true) σ H Q) : tYes σ H Q := by
  obtain ⟨c, F, ρ, ok, h⟩ := h
  exact h H F ok (Same.refl F)
/-- name = [..]: its own -/
def mAsgC (m : M (List D)) (i : Nat) : M Fl := mBind m fun ds => mBind (mStoreO i ds) fun _ => mDone
end
end Dd

namespace Dd
open PySem PySem.Spec L2
/-! ### what a def promises -/
structure Ext (F H F' H' : Hp) : Prop where
  ff : Same F F'
  fh : Same F' H'
  fe : ∀ b o, F' b = some o → F b = some o ∨ H b = none
  hh : Same H H'
structure ExtB (p : Addr) (F H F' H' : Hp) : Prop where
  ff : Same F F'
  fh : Same F' H'
  fe : ∀ b o, F' b = some o → F b = some o ∨ H b = none
  hh : ∀ b o, b ≠ p → H b = some o → H' b = some o
  fp : F' p = none
abbrev Rs (α : Type) := Except Ex α
def spV (K : PySem.W.Frag) (n : Nat) (f : List D → Option (Rs D)) : Sp := fun vs H Q E => ∃ F ds, Same F H ∧ DpAll K F vs ds ∧ ds.length = n ∧ match f ds with
  | none => False
  | some (.ok d) => ∀ v F' H', Ext F H F' H' → Dp K F' v d → Q v H'
  | some (.error e) => ∀ cls x F' H', Ext F H F' H' → ExR K e cls x F' H' → E cls x H'
def spF (K : PySem.W.Frag) (n : Nat) (f : List D → Option (Rs (List D))) : Sp := fun vs H Q E => ∃ F ds, Same F H ∧ DpAll K F vs ds ∧ ds.length = n ∧ match f ds with
  | none => False
  | some (.ok es) => ∀ p xs F' H', Ext F H F' H' → H p = none → F' p = none → H' p = some (.lst xs) → DpAll K F' xs es → Q (.ref p) H'
  | some (.error e) => ∀ cls x F' H', Ext F H F' H' → ExR K e cls x F' H' → E cls x H'
def spB (K : PySem.W.Frag) (n : Nat) (f : List D → List D → Option (Rs D × List D)) : Sp := fun vs H Q E => ∃ F p bs0 bs rest ds, vs = .ref p :: rest ∧ Same F H ∧ F p = none ∧ H p = some (.lst bs0) ∧ DpAll K F bs0 bs ∧ DpAll K F rest ds ∧ ds.length + 1 = n ∧ match f bs ds with
  | none => False
  | some (.ok d, bs') => ∀ v bs1 F' H', ExtB p F H F' H' → H' p = some (.lst bs1) → DpAll K F' bs1 bs' → Dp K F' v d → Q v H'
  | some (.error e, bs') => ∀ cls x bs1 F' H', ExtB p F H F' H' → H' p = some (.lst bs1) → DpAll K F' bs1 bs' → ExR K e cls x F' H' → E cls x H'
def spS (K : PySem.W.Frag) (n : Nat) (f : List Int → List D → Option (Rs (List D))) : Sp := fun vs H Q E => ∃ F a ns rest ds, vs = .ref a :: rest ∧ Same F H ∧ SqL K H a (ns.map V.int) ∧ DpAll K F rest ds ∧ ds.length + 1 = n ∧ match f ns ds with
  | none => False
  | some (.ok es) => ∀ p xs F' H', Ext F H F' H' → H p = none → F' p = none → H' p = some (.lst xs) → DpAll K F' xs es → Q (.ref p) H'
  | some (.error e) => ∀ cls x F' H', Ext F H F' H' → ExR K e cls x F' H' → E cls x H'
/-- the law: a list of ints, True -/
def spL (K : PySem.W.Frag) (f : List Int → Option (Rs D)) : Sp := fun vs H Q E => ∃ a ns, vs = [.ref a] ∧ SqL K H a (ns.map V.int) ∧ f ns = some (.ok (.bool true)) ∧ ∀ H', Q (.bl true) H'
def env0 (n : Nat) (ds : List D) : En := ds.map .val ++ List.replicate (n - ds.length) .un
def runV (m : M Fl) (n : Nat) (ds : List D) : Option (Rs D) := match m (env0 n ds) with
  | some (.ok (.rt d) _) => some (.ok d)
  | some (.ok .nx _) => some (.ok .none)
  | some (.ex e _) => some (.error e)
  | _ => none
def runF (m : M Fl) (n : Nat) (ds : List D) : Option (Rs (List D)) := match m (env0 n ds) with
  | some (.ok (.rf d) _) => some (.ok d)
  | some (.ex e _) => some (.error e)
  | _ => none
def env0B (n : Nat) (bs : List D) (ds : List D) : En := .io bs :: (ds.map .val ++ List.replicate (n - (ds.length + 1)) .un)
def runB (m : M Fl) (n : Nat) (bs : List D) (ds : List D) : Option (Rs D × List D) := match m (env0B n bs ds) with
  | some (.ok (.rt d) (.io bs' :: _)) => some (.ok d, bs')
  | some (.ok .nx (.io bs' :: _)) => some (.ok .none, bs')
  | some (.ex e (.io bs' :: _)) => some (.error e, bs')
  | _ => none
def env0S (n : Nat) (ns : List Int) (ds : List D) : En := .scr ns :: (ds.map .val ++ List.replicate (n - (ds.length + 1)) .un)
def runS (m : M Fl) (n : Nat) (ns : List Int) (ds : List D) : Option (Rs (List D)) := match m (env0S n ns ds) with
  | some (.ok (.rf d) _) => some (.ok d)
  | some (.ex e _) => some (.error e)
  | _ => none
def runL (m : M Fl) (n : Nat) (ns : List Int) : Option (Rs D) := match m (env0S n ns []) with
  | some (.ok (.rt d) _) => some (.ok d)
  | some (.ex e _) => some (.error e)
  | _ => none
section
variable {K : PySem.W.Frag} {F H : Hp}
abbrev noPr : Hp := fun _ => none
theorem start_get {N : List Str} {vs : List V} {i : Nat} {v : V} (h : vs[i]? = some v) : (L2.start N vs)[i]? = some (some v) := by
  unfold L2.start
  have hl : i < vs.length := by
    rcases Nat.lt_or_ge i vs.length with z | z
    · exact z
    · rw [List.getElem?_eq_none z] at h; cases h
  rw [List.getElem?_append_left (by simpa using hl), List.getElem?_map, h]; rfl
theorem start_len {N : List Str} {vs : List V} (h : vs.length ≤ N.length) : (L2.start N vs).length = N.length := by
  unfold L2.start
  rw [List.length_append, List.length_map, List.length_replicate]; omega
theorem env0_get {n : Nat} {ds : List D} {i : Nat} {u : Sl} (h : (env0 n ds)[i]? = some u) : (∃ d, ds[i]? = some d ∧ u = .val d) ∨ u = .un := by
  unfold env0 at h
  rcases Nat.lt_or_ge i ds.length with z | z
  · rw [List.getElem?_append_left (by simpa using z), List.getElem?_map] at h
    obtain ⟨d, e⟩ : ∃ d, ds[i]? = some d := ⟨ds[i], List.getElem?_eq_getElem z⟩
    rw [e] at h
    cases h
    exact .inl ⟨d, e, rfl⟩
  · rw [List.getElem?_append_right (by simpa using z)] at h
    rw [List.getElem?_replicate] at h
    split at h
    · cases h; exact .inr rfl
    · cases h
theorem start_ok {N : List Str} {vs : List V} {ds : List D} (s : Same F H) (r : DpAll K F vs ds) (h : ds.length ≤ N.length) : Ok K ⟨F, H, none, noPr⟩ (L2.start N vs) H F (env0 N.length ds) := by
  have hl := DpAll.length r
  refine ⟨?_, s, Same.refl F, fun b o e => .inl e, fun b o e _ => e, fun p e => (by cases e), fun b o e => (by cases e), fun i d e => ?_, fun i es e => ?_, fun i es e => ?_, fun i es e => ?_, fun i j es fs p e _ _ _ => ?_⟩
  · rw [start_len (by omega)]
    unfold env0
    rw [List.length_append, List.length_map, List.length_replicate]; omega
  · rcases env0_get e with ⟨d', e1, e2⟩ | e2
    · cases e2
      obtain ⟨v, q1, q2⟩ := DpAll.getd r e1
      exact ⟨v, start_get q1, q2⟩
    · cases e2
  all_goals
    rcases env0_get e with ⟨d', e1, e2⟩ | e2 <;> cases e2
theorem env0B_get {n : Nat} {u0 : Sl} {ds : List D} {i : Nat} {u : Sl} (h : (u0 :: (ds.map Sl.val ++ List.replicate (n - (ds.length + 1)) Sl.un))[i]? = some u) : (i = 0 ∧ u = u0) ∨ (∃ j d, i = j + 1 ∧ ds[j]? = some d ∧ u = .val d) ∨ u = .un := by
  cases i with
  | zero =>
    have h' : u0 = u := by simpa using h
    exact .inl ⟨rfl, h'.symm⟩
  | succ j =>
    have h' : (env0 (n - 1) ds)[j]? = some u := by
      unfold env0
      have e : n - 1 - ds.length = n - (ds.length + 1) := by omega
      rw [e]
      simpa using h
    rcases env0_get h' with ⟨d, e1, e2⟩ | e2
    · exact .inr (.inl ⟨j, d, rfl, e1, e2⟩)
    · exact .inr (.inr e2)
theorem startB_ok {N : List Str} {p : Addr} {bs0 rest : List V} {bs ds : List D} (s : Same F H) (hF : F p = none) (hp : H p = some (.lst bs0)) (rb : DpAll K F bs0 bs) (r : DpAll K F rest ds) (h : ds.length + 1 ≤ N.length) :
    Ok K ⟨F, H, some p, noPr⟩ (L2.start N (.ref p :: rest)) H F (env0B N.length bs ds) := by
  have hl := DpAll.length r
  refine ⟨?_, s, Same.refl F, fun b o e => .inl e, fun b o e _ => e, fun q e => ?_, fun b o e => (by cases e), fun i d e => ?_, fun i es e => ?_, fun i es e => ?_, fun i es e => ?_, fun i j es fs q e _ _ _ => ?_⟩
  · rw [start_len (by simp only [List.length_cons]; omega)]
    unfold env0B
    rw [List.length_cons, List.length_append, List.length_map, List.length_replicate]; omega
  · have e' : some p = some q := e
    cases e'
    exact ⟨hF, by show H p ≠ none; rw [hp]; exact Option.some_ne_none _, rfl, bs0, hp⟩
  · rcases env0B_get e with ⟨_, e2⟩ | ⟨j, d', rfl, e1, e2⟩ | e2 <;> cases e2
    obtain ⟨v, q1, q2⟩ := DpAll.getd r e1
    exact ⟨v, start_get (by simpa using q1), q2⟩
  · rcases env0B_get e with ⟨_, e2⟩ | ⟨j, d', rfl, e1, e2⟩ | e2 <;> cases e2
  · rcases env0B_get e with ⟨rfl, e2⟩ | ⟨j, d', rfl, e1, e2⟩ | e2 <;> cases e2
    exact ⟨rfl, p, bs0, rfl, start_get rfl, hp, rb⟩
  · rcases env0B_get e with ⟨_, e2⟩ | ⟨j, d', rfl, e1, e2⟩ | e2 <;> cases e2
  · rcases env0B_get e with ⟨_, e2⟩ | ⟨j, d', rfl, e1, e2⟩ | e2 <;> cases e2
theorem startS_ok {N : List Str} {a : Addr} {ns : List Int} {rest : List V} {ds : List D} (s : Same F H) (hp : SqL K H a (ns.map V.int)) (r : DpAll K F rest ds) (h : ds.length + 1 ≤ N.length) :
    Ok K ⟨F, H, none, noPr⟩ (L2.start N (.ref a :: rest)) H F (env0S N.length ns ds) := by
  have hl := DpAll.length r
  refine ⟨?_, s, Same.refl F, fun b o e => .inl e, fun b o e _ => e, fun q e => (by cases e), fun b o e => (by cases e), fun i d e => ?_, fun i es e => ?_, fun i es e => ?_, fun i es e => ?_, fun i j es fs q e _ _ _ => ?_⟩
  · rw [start_len (by simp only [List.length_cons]; omega)]
    unfold env0S
    rw [List.length_cons, List.length_append, List.length_map, List.length_replicate]; omega
  · rcases env0B_get e with ⟨_, e2⟩ | ⟨j, d', rfl, e1, e2⟩ | e2 <;> cases e2
    obtain ⟨v, q1, q2⟩ := DpAll.getd r e1
    exact ⟨v, start_get (by simpa using q1), q2⟩
  · rcases env0B_get e with ⟨_, e2⟩ | ⟨j, d', rfl, e1, e2⟩ | e2 <;> cases e2
  · rcases env0B_get e with ⟨_, e2⟩ | ⟨j, d', rfl, e1, e2⟩ | e2 <;> cases e2
  · rcases env0B_get e with ⟨rfl, e2⟩ | ⟨j, d', rfl, e1, e2⟩ | e2 <;> cases e2
    exact ⟨rfl, a, start_get rfl, hp⟩
  · rcases env0B_get e with ⟨_, e2⟩ | ⟨j, d', rfl, e1, e2⟩ | e2 <;> cases e2
theorem Ok.ext {σ : St} {F' H' : Hp} {ρ : En} {pr : Hp} (ok : Ok K ⟨F, H, none, pr⟩ σ H' F' ρ) : Ext F H F' H' := ⟨ok.ge, ok.sub, ok.fe, fun b o e => ok.keep b o e (by simp)⟩
theorem Ok.extB {σ : St} {F' H' : Hp} {ρ : En} {pr : Hp} {p : Addr} (ok : Ok K ⟨F, H, some p, pr⟩ σ H' F' ρ) : ExtB p F H F' H' :=
  ⟨ok.ge, ok.sub, ok.fe, fun b o n e => ok.keep b o e (by intro z; cases z; exact n rfl), (ok.iod p rfl).1⟩
/-! ### behind a call -/
theorem Ok.call {c : Ct} {σ : St} {F' H' : Hp} {ρ : En} (ok : Ok K c σ H F ρ) (x : Ext F H F' H') : Ok K c σ H' F' ρ := by
  have nf : ∀ {b o}, H b = some o → F b = none → F' b = none := fun {b o} h n => by
    cases q : F' b with
    | none => rfl
    | some u =>
      rcases x.fe b u q with z | z
      · rw [n] at z; cases z
      · rw [h] at z; cases z
  refine ⟨ok.len, x.fh, ok.ge.trans x.ff, fun b o e => ?_, fun b o e n => x.hh _ _ (ok.keep b o e n), fun p e => ?_, fun b o e => ?_, fun i d e => ?_, fun i ds e => ?_, fun i ds e => ?_, ok.scr, ok.sep⟩
  · rcases x.fe b o e with z | z
    · exact ok.fe b o z
    · exact .inr (ok.new z).2.1
  · obtain ⟨a1, a2, a3, xs, a4⟩ := ok.iod p e
    exact ⟨nf a4 a1, a2, a3, xs, x.hh _ _ a4⟩
  · obtain ⟨a1, a2, a3⟩ := ok.prt b o e
    exact ⟨x.hh _ _ a1, nf a1 a2, a3⟩
  · obtain ⟨v, a1, a2⟩ := ok.val i d e
    exact ⟨v, a1, Dp.mono x.ff a2⟩
  · obtain ⟨p, vs, a1, a2, a3, a4, a5, a6⟩ := ok.own i ds e
    exact ⟨p, vs, a1, x.hh _ _ a2, DpAll.mono x.ff a3, nf a2 a4, a5, a6⟩
  · obtain ⟨z, p, vs, a0, a1, a2, a3⟩ := ok.ios i ds e
    exact ⟨z, p, vs, a0, a1, x.hh _ _ a2, DpAll.mono x.ff a3⟩
/-- the list at p, a slot's own or the caller's, was changed by a call -/
theorem Ok.callB {c : Ct} {σ : St} {F' H' : Hp} {ρ : En} {i : Nat} {p : Addr} {bs0 bs1 : List V} {bs bs' : List D} (ok : Ok K c σ H F ρ) (hi : ρ[i]? = some (.own bs) ∨ ρ[i]? = some (.io bs)) (hp : σ[i]? = some (some (.ref p))) (x : ExtB p F H F' H') (hb : H' p = some (.lst bs1)) (rb : DpAll K F' bs1 bs') :
    ∃ ρ', mPut i bs' ρ = some (.ok () ρ') ∧ Ok K c σ H' F' ρ' := by
  -- the heap with p as it was ahead of the call
  have nf : ∀ {b o}, H b = some o → F b = none → F' b = none := fun {b o} h n => by
    cases q : F' b with
    | none => rfl
    | some u =>
      rcases x.fe b u q with z | z
      · rw [n] at z; cases z
      · rw [h] at z; cases z
  have hpH : ∃ vs, H p = some (.lst vs) ∧ DpAll K F vs bs := by
    rcases hi with hi | hi
    · obtain ⟨q, vs, a1, a2, a3, _⟩ := ok.own i bs hi
      rw [hp] at a1; cases a1; exact ⟨vs, a2, a3⟩
    · obtain ⟨_, q, vs, _, a1, a2, a3⟩ := ok.ios i bs hi
      rw [hp] at a1; cases a1; exact ⟨vs, a2, a3⟩
  obtain ⟨vs0, hpH, r0⟩ := hpH
  have x0 : Ext F H F' (upd H' p (.lst vs0)) := ⟨x.ff, fun b o e => by rw [upd_ne (ne_of_none e x.fp)]; exact x.fh b o e, x.fe, fun b o e => by
    by_cases hb' : b = p
    · subst hb'; rw [upd_same]; rw [hpH] at e; exact e
    · rw [upd_ne hb']; exact x.hh b o hb' e⟩
  have ok1 := ok.call x0
  have back : upd (upd H' p (.lst vs0)) p (.lst bs1) = H' := by
    rw [upd_upd]
    funext b
    unfold upd
    split
    · rename_i h; rw [h, hb]
    · rfl
  rcases hi with hi | hi
  · have q := ok1.change hi p hp rb
    rw [back] at q
    exact ⟨_, by unfold mPut; rw [hi], q⟩
  · have q := ok1.changeI hi p hp rb
    rw [back] at q
    exact ⟨_, by unfold mPut; rw [hi], q⟩
end
/-! ### calls of defs -/
section
variable {X : Cx} {W : WX} {K : PySem.W.Frag} {ms : M (List D)} {n : Nat} {σ : St} {H : Hp}
def mRs (o : Option (Rs D)) : M D := fun ρ => match o with
  | none => none
  | some (.ok d) => some (.ok d ρ)
  | some (.error e) => some (.ex e ρ)
def mCallV (n : Nat) (f : List D → Option (Rs D)) (ms : M (List D)) : M D := mBind ms fun ds => if ds.length = n then mRs (f ds) else mStuck
theorem callV_of {f : List D → Option (Rs D)} {Q : VK} (h : tE K W (mCallV n f ms) σ H Q) : tCallS (spV K n f) (WE W) (tA K W ms) σ H Q := by
  obtain ⟨c, F, ρ, ok, h⟩ := h
  refine ⟨c, F, ρ, ok, post_mono ?_ (post_bind h)⟩
  rintro ds H1 F1 _ ⟨ρ1, ok1, s1, h1⟩ vs rv
  split at h1
  · rename_i hl
    refine ⟨F1, ds, ok1.sub, rv, hl, ?_⟩
    unfold mRs at h1
    cases e : f ds with
    | none => rw [e] at h1; exact h1
    | some r =>
      rw [e] at h1
      cases r with
      | ok d => exact fun v F' H' x r => h1 H' F' (ok1.call x) x.ff v r
      | error e => exact fun cls y F' H' x r => h1 cls y H' F' (ok1.call x) x.ff r
  · exact h1.elim
/-- a call that changes a slot's own list -/
def mCallB (i n : Nat) (f : List D → List D → Option (Rs D × List D)) (ms : M (List D)) : M D := mBind (mOwn i) fun _ => mBind ms fun ds => mBind (mOwn i) fun bs => if ds.length + 1 = n then (match f bs ds with
  | none => mStuck
  | some (r, bs') => mBind (mPut i bs') fun _ => mRs (some r)) else mStuck
theorem own_is {α : Type} {ρ : En} {i : Nat} {r : R (List D)} (h : mOwn i ρ = some r) : ∃ ds, r = .ok ds ρ ∧ (ρ[i]? = some (.own ds) ∨ ρ[i]? = some (.io ds)) := by
  unfold mOwn at h
  split at h
  · rename_i ds e; cases h; exact ⟨ds, rfl, .inl e⟩
  · rename_i ds e; cases h; exact ⟨ds, rfl, .inr e⟩
  · cases h
theorem callB_of {i : Nat} {f : List D → List D → Option (Rs D × List D)} {Q : VK} (h : tE K W (mCallB i n f ms) σ H Q) : tCallS (spB K n f) (WE W) (tCons (tVar i) (tA K W ms)) σ H Q := by
  obtain ⟨c, F, ρ, ok, h⟩ := h
  obtain ⟨p, vs, ds0, a1, a2, a3, a4, h⟩ := own_at ok h
  refine ⟨.ref p, a1, c, F, ρ, ok, post_mono ?_ (post_bind h)⟩
  rintro ds H1 F1 _ ⟨ρ1, ok1, s1, h1⟩ ws rw'
  have hw : ∃ bs, (ρ1[i]? = some (.own bs) ∨ ρ1[i]? = some (.io bs)) ∧ post K W c σ F1 (qE K Q) ((if ds.length + 1 = n then (match f bs ds with
      | none => mStuck
      | some (r, bs') => mBind (mPut i bs') fun _ => mRs (some r)) else mStuck) ρ1) := by
    unfold mBind at h1
    cases e : mOwn i ρ1 with
    | none => rw [e] at h1; exact h1.elim
    | some r =>
      obtain ⟨bs, rfl, e2⟩ := own_is (α := D) e
      rw [e] at h1
      exact ⟨bs, e2, h1⟩
  obtain ⟨bs, hi, h2⟩ := hw
  obtain ⟨p', vs1, b1, b2, b3, b4⟩ : ∃ p vs, σ[i]? = some (some (.ref p)) ∧ H1 p = some (.lst vs) ∧ DpAll K F1 vs bs ∧ F1 p = none := by
    rcases hi with hi | hi
    · obtain ⟨q, vs, c1, c2, c3, c4, _⟩ := ok1.own i bs hi
      exact ⟨q, vs, c1, c2, c3, c4⟩
    · obtain ⟨_, q, vs, c0, c1, c2, c3⟩ := ok1.ios i bs hi
      exact ⟨q, vs, c1, c2, c3, (ok1.iod q c0).1⟩
  have ep : p' = p := by rw [a1] at b1; cases b1; rfl
  subst ep
  split at h2
  · rename_i hl
    refine ⟨F1, p', vs1, bs, ws, ds, rfl, ok1.sub, b4, b2, b3, rw', hl, ?_⟩
    cases e : f bs ds with
    | none => rw [e] at h2; exact h2
    | some q =>
      rw [e] at h2
      obtain ⟨r, bs'⟩ := q
      cases r with
      | ok d =>
        intro v bs1 F' H' x hb rb rv
        obtain ⟨ρ2, e2, ok2⟩ := ok1.callB (bs0 := vs1) hi b1 x hb rb
        have h3 := post_bind h2
        rw [e2] at h3
        obtain ⟨ρ3, ok3, s3, h4⟩ := h3 H' F' ok2 x.ff
        exact h4 H' F' ok3 (Same.refl F') v rv
      | error ex =>
        intro cls y bs1 F' H' x hb rb rv
        obtain ⟨ρ2, e2, ok2⟩ := ok1.callB (bs0 := vs1) hi b1 x hb rb
        have h3 := post_bind h2
        rw [e2] at h3
        obtain ⟨ρ3, ok3, s3, h4⟩ := h3 H' F' ok2 x.ff
        exact h4 cls y H' F' ok3 (Same.refl F') rv
  · exact h2.elim
/-- name = f(..), f hands back a new list: its own -/
def mAsgF (i n : Nat) (f : List D → Option (Rs (List D))) (ms : M (List D)) : M Fl := mBind ms fun ds => if ds.length = n then (match f ds with
  | none => mStuck
  | some (.ok es) => mBind (mStoreO i es) fun _ => mDone
  | some (.error e) => fun ρ => some (.ex e ρ)) else mStuck
theorem ok_fresh {c : Ct} {F F' H' : Hp} {ρ : En} {p : Addr} {xs : List V} {es : List D} {i : Nat} (ok : Ok K c σ H F ρ) (x : Ext F H F' H') (hp : H p = none) (hf : F' p = none) (hl : H' p = some (.lst xs)) (r : DpAll K F' xs es) (hi : i < ρ.length) :
    Ok K c (σ.set i (some (.ref p))) H' F' (ρ.set i (.own es)) := by
  have ok1 := ok.call x
  obtain ⟨b1, b2, b3, b4, b5⟩ := ok.new hp
  refine ok1.set hi (fun d' e => by cases e) (fun fs e => ?_) (fun _ e => by cases e) (fun _ e => by cases e)
  cases e
  refine ⟨p, xs, rfl, hl, r, hf, b2, b3, fun j fs a b => ?_⟩
  obtain ⟨q, vs, a1, a2, _⟩ := ok.own j fs a
  rw [b] at a1
  have z : p = q := by cases a1; rfl
  subst z
  rw [hp] at a2; cases a2
theorem asgF_of {i : Nat} {f : List D → Option (Rs (List D))} {Dn : Ends} (h : tS K W (mAsgF i n f ms) Dn σ H) : tAsg (tCallS (spF K n f) (WE W) (tA K W ms)) (gName i) Dn σ H := by
  obtain ⟨c, F, ρ, ok, h⟩ := h
  refine ⟨c, F, ρ, ok, post_mono ?_ (postS_bind h)⟩
  rintro ds H1 F1 _ ⟨ρ1, ok1, s1, h1⟩ vs rv
  split at h1
  · rename_i hl
    refine ⟨F1, ds, ok1.sub, rv, hl, ?_⟩
    cases e : f ds with
    | none => rw [e] at h1; exact h1
    | some r =>
      rw [e] at h1
      cases r with
      | error e => exact fun cls y F' H' x r => h1 σ cls y H' F' (ok1.call x) x.ff r
      | ok es =>
        intro p xs F' H' x hp hf hl' rx
        have h2 := postS_bindG h1
        unfold mStoreO at h2
        split at h2
        · rename_i hi
          obtain ⟨F3, ρ3, ok3, s3, h6⟩ := h2 _ H' F' (ok_fresh ok1 x hp hf hl' rx hi) x.ff
          exact h6 _ _ _ ok3 (Same.refl F3)
        · exact h2.elim
  · exact h1.elim
/-- name = _law_box(script, ..) -/
def mScr (j : Nat) : M (List Int) := fun ρ => match ρ[j]? with
  | some (.scr ns) => some (.ok ns ρ)
  | _ => none
def mAsgS (i j n : Nat) (f : List Int → List D → Option (Rs (List D))) (ms : M (List D)) : M Fl := mBind (mScr j) fun ns => mBind ms fun ds => if ds.length + 1 = n then (match f ns ds with
  | none => mStuck
  | some (.ok es) => mBind (mStoreO i es) fun _ => mDone
  | some (.error e) => fun ρ => some (.ex e ρ)) else mStuck
theorem Ok.scrH {c : Ct} {F : Hp} {ρ : En} {j : Nat} {ns : List Int} (ok : Ok K c σ H F ρ) (e : ρ[j]? = some (.scr ns)) : c.io = none ∧ ∃ a, σ[j]? = some (some (.ref a)) ∧ SqL K c.H0 a (ns.map V.int) ∧ SqL K H a (ns.map V.int) := by
  obtain ⟨a0, a, a1, a2⟩ := ok.scr j ns e
  exact ⟨a0, a, a1, a2, SqL.mono (fun b o q => ok.keep b o q (by rw [a0]; simp)) a2⟩
theorem asgS_of {i j : Nat} {f : List Int → List D → Option (Rs (List D))} {Dn : Ends} (h : tS K W (mAsgS i j n f ms) Dn σ H) : tAsg (tCallS (spS K n f) (WE W) (tCons (tVar j) (tA K W ms))) (gName i) Dn σ H := by
  obtain ⟨c, F, ρ, ok, h⟩ := h
  have hj : ∃ ns, ρ[j]? = some (.scr ns) ∧ postS K W c F Dn (mBind ms (fun ds => if ds.length + 1 = n then (match f ns ds with
      | none => mStuck
      | some (.ok es) => mBind (mStoreO i es) fun _ => mDone
      | some (.error e) => fun ρ => some (.ex e ρ)) else mStuck) ρ) := by
    unfold mAsgS mBind mScr at h
    cases e : ρ[j]? with
    | none => rw [e] at h; exact h.elim
    | some u =>
      rw [e] at h
      cases u with
      | scr ns => exact ⟨ns, rfl, h⟩
      | un => exact h.elim
      | val _ => exact h.elim
      | own _ => exact h.elim
      | io _ => exact h.elim
  obtain ⟨ns, ej, h⟩ := hj
  obtain ⟨a0, a, a1, a2, a3⟩ := ok.scrH ej
  refine ⟨.ref a, a1, c, F, ρ, ok, post_mono ?_ (postS_bind h)⟩
  rintro ds H1 F1 _ ⟨ρ1, ok1, s1, h1⟩ vs rv
  have a4 : SqL K H1 a (ns.map V.int) := SqL.mono (fun b o q => ok1.keep b o q (by rw [a0]; simp)) a2
  split at h1
  · rename_i hl
    refine ⟨F1, a, ns, vs, ds, rfl, ok1.sub, a4, rv, hl, ?_⟩
    cases e : f ns ds with
    | none => rw [e] at h1; exact h1
    | some r =>
      rw [e] at h1
      cases r with
      | error e => exact fun cls y F' H' x r => h1 σ cls y H' F' (ok1.call x) x.ff r
      | ok es =>
        intro p xs F' H' x hp hf hl' rx
        have h2 := postS_bindG h1
        unfold mStoreO at h2
        split at h2
        · rename_i hi
          obtain ⟨F3, ρ3, ok3, s3, h6⟩ := h2 _ H' F' (ok_fresh ok1 x hp hf hl' rx hi) x.ff
          exact h6 _ _ _ ok3 (Same.refl F3)
        · exact h2.elim
  · exact h1.elim
/-- len(script), script[..] -/
def mScrLen (j : Nat) : M D := mBind (mScr j) fun ns => mPure (.int (ns.length : Nat))
def mScrIx (j : Nat) (m : M D) : M D := mBind (mScr j) fun ns => mBind m fun d => mLift (match d with
  | .int i => (atI ns i).map PyData.int
  | _ => none)
theorem scr_at {α : Type} {c : Ct} {F : Hp} {ρ : En} {j : Nat} {G : α → Hp → Hp → Prop} {f : List Int → M α} (h : post K W c σ F G (mBind (mScr j) f ρ)) : ∃ ns, ρ[j]? = some (.scr ns) ∧ post K W c σ F G (f ns ρ) := by
  unfold mBind mScr at h
  cases e : ρ[j]? with
  | none => rw [e] at h; exact h.elim
  | some u =>
    rw [e] at h
    cases u with
    | scr ns => exact ⟨ns, rfl, h⟩
    | un => exact h.elim
    | val _ => exact h.elim
    | own _ => exact h.elim
    | io _ => exact h.elim
variable {pos p : Pos} {a : Expr} {m : M D}
theorem dScrLen {j : Nat} (hm : X.mg "len" = none) (ha : PE X a (tVar j)) (hg : Gl X "len" := by rfl) (hs : starEach (a :: []) X.env = (false, eval a X.env) :: starEach [] X.env := by rfl) (hpl : (backTo pos (starEach [] X.env)).any (·.1) = false := by rfl) : PE X (.Call (.Name "len" p) [a] [] pos) (tE X.K W (mScrLen j)) :=
  PE.imp (pe_callB call_len_seq hg hm PySem.boot_len (pa_cons ha pa_nil hs) (by decide) (by decide) hs hpl) (by
  rintro σ H Q ⟨c, F, ρ, ok, h⟩
  obtain ⟨ns, ej, h⟩ := scr_at h
  obtain ⟨a0, a, a1, a2, a3⟩ := ok.scrH ej
  refine ⟨.ref a, a1, a, _, rfl, .inl a3, ?_⟩
  rw [List.length_map]
  exact h H F ok (Same.refl F) _ (.int _))
theorem dScrIx {j : Nat} {b : Expr} (ha : PE X a (tVar j)) (hb : PE X b (tE X.K W m)) (hs : PlainIx b := by exact fun _ _ => rfl) : PE X (.Subscript a b pos) (tE X.K W (mScrIx j m)) := PE.imp (pe_ix ix_list ha hb hs) (by
  rintro σ H Q ⟨c, F, ρ, ok, h⟩
  obtain ⟨ns, ej, h⟩ := scr_at h
  obtain ⟨a0, a, a1, a2, a3⟩ := ok.scrH ej
  refine ⟨.ref a, a1, c, F, ρ, ok, post_mono ?_ (post_bind h)⟩
  rintro d H1 F1 _ ⟨ρ1, ok1, s1, h1⟩ v rv
  obtain ⟨d', e, h2⟩ := post_lift h1
  split at e
  · rename_i i
    cases rv
    cases q : atI ns i with
    | none => rw [q] at e; cases e
    | some z =>
      rw [q] at e
      cases e
      refine ⟨a, _, i, .int z, rfl, rfl, SqL.mono (fun b o q => ok1.keep b o q (by rw [a0]; simp)) a2, ?_, h2 H1 F1 ok1 (Same.refl F1) _ (.int z)⟩
      unfold atI at q ⊢
      rw [List.length_map]
      cases q2 : ixN ns.length i with
      | none => rw [q2] at q; cases q
      | some k =>
        rw [q2] at q
        show (ns.map V.int)[k]? = _
        rw [List.getElem?_map, show ns[k]? = some z from q]; rfl
  · cases e)
end
/-! ### a def by its body -/
section
variable {P : Program} {w : World} {K : PySem.W.Frag} {mg : Str → Option Value} {base : Heap} {x qual : Str} {st : Stmt} {f : Addr} {fd : FuncData} {N ps : List Str} {k : Nat} {m : M Fl}
abbrev Body (P : Program) (w : World) (K : PySem.W.Frag) (mg : Str → Option Value) (base : Heap) (qual : Str) (st : Stmt) (f : Addr) (N : List Str) (k : Nat) (m : M Fl) : Prop :=
  ∀ (cdv : Value) (A : Around) (outer : List Env) (s : Shared) (H : Hp) (E : XK), Room k (A.deeper (PyProof.Rows.envOfC qual (defScope st) s.heap.objs.size f cdv)) →
    PSs (cxOf (L2.CX P w) P w K mg base N qual (defScope st) f cdv A outer s H E) (defBody st) (tS K (fun cls d _ H => E cls d H) m)
theorem FnScope.le {sc : Scope} (S : FnScope N ps sc) : ps.length ≤ N.length := by
  have := congrArg List.length S.pre
  rw [List.length_take] at this
  omega
theorem okV (Fn : Fun K x qual st f fd) (S : FnScope N ps (defScope st)) (hb : Body P w K mg base qual st f N k m) : FnOk P w K mg base (L2.CX P w) (k + 1) f fd ps (spV K ps.length (runV m N.length)) := by
  refine Fn.okX S (fun vs H Q E h => ?_) (fun cdv A outer s H vs Q E hr h => ⟨_, hb cdv A outer s H E hr, ?_⟩)
  · obtain ⟨F, ds, _, r, hl, _⟩ := h
    rw [DpAll.length r]; exact hl
  · obtain ⟨F, ds, s', r, hl, h⟩ := h
    refine ⟨_, F, _, start_ok s' r (by rw [hl]; exact FnScope.le S), ?_⟩
    unfold runV at h
    cases e : m (env0 N.length ds) with
    | none => rw [e] at h; exact h
    | some q =>
      rw [e] at h
      cases q with
      | ex y ρ' => exact fun σ' cls z H' F' ok _ r' => h cls z F' H' ok.ext r'
      | ok fl ρ' =>
        cases fl with
        | nx => exact fun σ' H' F' ok _ => h .non F' H' ok.ext .non
        | rt d => exact fun σ' v H' F' ok _ r' => h v F' H' ok.ext r'
        | bk => exact h.elim
        | ct => exact h.elim
        | rf _ => exact h.elim
theorem okF (Fn : Fun K x qual st f fd) (S : FnScope N ps (defScope st)) (hb : Body P w K mg base qual st f N k m) : FnOk P w K mg base (L2.CX P w) (k + 1) f fd ps (spF K ps.length (runF m N.length)) := by
  refine Fn.okX S (fun vs H Q E h => ?_) (fun cdv A outer s H vs Q E hr h => ⟨_, hb cdv A outer s H E hr, ?_⟩)
  · obtain ⟨F, ds, _, r, hl, _⟩ := h
    rw [DpAll.length r]; exact hl
  · obtain ⟨F, ds, s', r, hl, h⟩ := h
    refine ⟨_, F, _, start_ok s' r (by rw [hl]; exact FnScope.le S), ?_⟩
    unfold runF at h
    cases e : m (env0 N.length ds) with
    | none => rw [e] at h; exact h
    | some q =>
      rw [e] at h
      cases q with
      | ex y ρ' => exact fun σ' cls z H' F' ok _ r' => h cls z F' H' ok.ext r'
      | ok fl ρ' =>
        cases fl with
        | nx => exact h.elim
        | rt d => exact h.elim
        | bk => exact h.elim
        | ct => exact h.elim
        | rf es => exact fun σ' p xs H' F' ok _ hp r' hf h0 => h p xs F' H' ok.ext h0 hf hp r'
theorem okB (Fn : Fun K x qual st f fd) (S : FnScope N ps (defScope st)) (hb : Body P w K mg base qual st f N k m) : FnOk P w K mg base (L2.CX P w) (k + 1) f fd ps (spB K ps.length (runB m N.length)) := by
  refine Fn.okX S (fun vs H Q E h => ?_) (fun cdv A outer s H vs Q E hr h => ⟨_, hb cdv A outer s H E hr, ?_⟩)
  · obtain ⟨F, p, bs0, bs, rest, ds, rfl, _, _, _, _, r, hl, _⟩ := h
    rw [List.length_cons, DpAll.length r]; exact hl
  · obtain ⟨F, p, bs0, bs, rest, ds, rfl, s', hF, hp, rb, r, hl, h⟩ := h
    refine ⟨_, F, _, startB_ok s' hF hp rb r (by rw [hl]; exact FnScope.le S), ?_⟩
    have fin : ∀ {σ' H' F' ρ' bs'}, Ok K ⟨F, H, some p, noPr⟩ σ' H' F' (.io bs' :: ρ') → ∃ bs1, H' p = some (.lst bs1) ∧ DpAll K F' bs1 bs' := fun {σ' H' F' ρ' bs'} ok => by
      obtain ⟨_, q, vs, c0, c1, c2, c3⟩ := ok.ios 0 bs' rfl
      have e : some p = some q := c0
      cases e
      exact ⟨vs, c2, c3⟩
    unfold runB at h
    cases e : m (env0B N.length bs ds) with
    | none => rw [e] at h; exact h
    | some q =>
      rw [e] at h
      cases q with
      | ex y ρ' =>
        intro σ' cls z H' F' ok _ r'
        cases ρ' with
        | nil => exact h.elim
        | cons u ρ' =>
          cases u with
          | io bs' =>
            obtain ⟨bs1, b1, b2⟩ := fin ok
            exact h cls z bs1 F' H' ok.extB b1 b2 r'
          | un => exact h.elim
          | val _ => exact h.elim
          | own _ => exact h.elim
          | scr _ => exact h.elim
      | ok fl ρ' =>
        cases fl with
        | nx =>
          intro σ' H' F' ok _
          cases ρ' with
          | nil => exact h.elim
          | cons u ρ' =>
            cases u with
            | io bs' =>
              obtain ⟨bs1, b1, b2⟩ := fin ok
              exact h .non bs1 F' H' ok.extB b1 b2 .non
            | un => exact h.elim
            | val _ => exact h.elim
            | own _ => exact h.elim
            | scr _ => exact h.elim
        | rt d =>
          intro σ' v H' F' ok _ r'
          cases ρ' with
          | nil => exact h.elim
          | cons u ρ' =>
            cases u with
            | io bs' =>
              obtain ⟨bs1, b1, b2⟩ := fin ok
              exact h v bs1 F' H' ok.extB b1 b2 r'
            | un => exact h.elim
            | val _ => exact h.elim
            | own _ => exact h.elim
            | scr _ => exact h.elim
        | bk => exact h.elim
        | ct => exact h.elim
        | rf _ => exact h.elim
theorem okS (Fn : Fun K x qual st f fd) (S : FnScope N ps (defScope st)) (hb : Body P w K mg base qual st f N k m) : FnOk P w K mg base (L2.CX P w) (k + 1) f fd ps (spS K ps.length (runS m N.length)) := by
  refine Fn.okX S (fun vs H Q E h => ?_) (fun cdv A outer s H vs Q E hr h => ⟨_, hb cdv A outer s H E hr, ?_⟩)
  · obtain ⟨F, a, ns, rest, ds, rfl, _, _, r, hl, _⟩ := h
    rw [List.length_cons, DpAll.length r]; exact hl
  · obtain ⟨F, a, ns, rest, ds, rfl, s', hp, r, hl, h⟩ := h
    refine ⟨_, F, _, startS_ok s' hp r (by rw [hl]; exact FnScope.le S), ?_⟩
    unfold runS at h
    cases e : m (env0S N.length ns ds) with
    | none => rw [e] at h; exact h
    | some q =>
      rw [e] at h
      cases q with
      | ex y ρ' => exact fun σ' cls z H' F' ok _ r' => h cls z F' H' ok.ext r'
      | ok fl ρ' =>
        cases fl with
        | nx => exact h.elim
        | rt d => exact h.elim
        | bk => exact h.elim
        | ct => exact h.elim
        | rf es => exact fun σ' p xs H' F' ok _ hp r' hf h0 => h p xs F' H' ok.ext h0 hf hp r'
theorem okL (Fn : Fun K x qual st f fd) (hps : ps.length = 1) (S : FnScope N ps (defScope st)) (hb : Body P w K mg base qual st f N k m) : FnOk P w K mg base (L2.CX P w) (k + 1) f fd ps (spL K (runL m N.length)) := by
  refine Fn.okX S (fun vs H Q E h => ?_) (fun cdv A outer s H vs Q E hr h => ⟨_, hb cdv A outer s H E hr, ?_⟩)
  · obtain ⟨a, ns, rfl, _⟩ := h
    rw [hps]; rfl
  · obtain ⟨a, ns, rfl, hp, h, hQ⟩ := h
    refine ⟨_, fun _ => none, _, startS_ok (F := fun _ => none) (ds := []) (fun b o e => by cases e) hp .nil (by have := FnScope.le S; rw [hps] at this; exact this), ?_⟩
    unfold runL at h
    cases e : m (env0S N.length ns []) with
    | none => rw [e] at h; cases h
    | some q =>
      rw [e] at h
      cases q with
      | ex y ρ' => cases h
      | ok fl ρ' =>
        cases fl with
        | nx => cases h
        | rt d =>
          cases h
          intro σ' v H' F' ok _ r'
          cases r'
          exact hQ H'
        | bk => cases h
        | ct => cases h
        | rf es => cases h
end
end Dd

namespace Dd
open PySem PySem.Spec L2
section
variable {X : Cx} {W : WX} {K : PySem.W.Frag}
/-! ### built-ins -/
def rOr (r r' : List V → Hp → VK → Prop) : List V → Hp → VK → Prop := fun xs H Q => r xs H Q ∨ r' xs H Q
def cOr (g g' : List D → Option D) : List D → Option D := fun ds => match g ds with
  | some d => some d
  | none => g' ds
theorem callD_or {r r' : List V → Hp → VK → Prop} {g g' : List D → Option D} (h : CallD K r g) (h' : CallD K r' g') : CallD K (rOr r r') (cOr g g') := by
  intro W c σ H F ρ xs ds d Q ok rx e q
  unfold cOr at e
  split at e
  · rename_i d' e'
    cases e
    exact .inl (h ok rx e' q)
  · exact .inr (h' ok rx e q)
theorem pk1 {H F : Hp} {xs : List V} {d : D} (h : PkAll K H F xs [d]) : ∃ x, xs = [x] ∧ Pk K H F x d := by
  cases h with
  | cons r t => cases t; exact ⟨_, rfl, r⟩
theorem pk2 {H F : Hp} {xs : List V} {d e : D} (h : PkAll K H F xs [d, e]) : ∃ x y, xs = [x, y] ∧ Pk K H F x d ∧ Pk K H F y e := by
  cases h with
  | cons r t =>
    obtain ⟨y, rfl, r'⟩ := pk1 t
    exact ⟨_, y, rfl, r, r'⟩
def lenD : List D → Option D
  | [.list ds] => some (.int (ds.length : Nat))
  | [.tuple ds] => some (.int (ds.length : Nat))
  | [.str z] => if fit z.length = true then some (.int (z.length : Nat)) else none
  | _ => none
def rLen (K : PySem.W.Frag) : List V → Hp → VK → Prop := rOr (fun xs H Q => ∃ p ys, xs = [.ref p] ∧ (SqL K H p ys ∨ SqT K H p ys) ∧ Q (.int ys.length) H) (fun xs H Q => ∃ z, xs = [.str z] ∧ z.length ≤ sizeLine ∧ Q (.int z.length) H)
theorem cr_len : CallR X (.builtin "len") (rLen X.K) := CallR.or call_len_seq call_len_str
theorem cd_len : CallD K (rLen K) lenD := by
  intro W c σ H F ρ xs ds d Q ok rx e q
  unfold lenD at e
  split at e
  · cases e
    obtain ⟨x, rfl, r⟩ := pk1 rx
    obtain ⟨p, vs, rfl, hp, dp⟩ := Pk.lst ok.sub r
    exact .inl ⟨p, vs, rfl, .inl hp, by rw [DpAll.length dp]; exact post_ok q ok _ (.int _)⟩
  · cases e
    obtain ⟨x, rfl, r⟩ := pk1 rx
    obtain ⟨p, vs, rfl, hp, dp⟩ := Pk.tup ok.sub r
    exact .inl ⟨p, vs, rfl, .inr hp, by rw [DpAll.length dp]; exact post_ok q ok _ (.int _)⟩
  · split at e
    · rename_i hf
      cases e
      obtain ⟨x, rfl, r⟩ := pk1 rx
      cases r.str
      exact .inr ⟨_, rfl, fit_le hf, post_ok q ok _ (.int _)⟩
    · cases e
  · cases e
def intD : List D → Option D
  | [.int i] => some (.int i)
  | [.bool k] => some (.int (if k then 1 else 0))
  | _ => none
theorem cd_int : CallD K (fun xs H Q => (∃ i, xs = [.int i] ∧ Q (.int i) H) ∨ ∃ k, xs = [.bl k] ∧ Q (.int (if k then 1 else 0)) H) intD := by
  intro W c σ H F ρ xs ds d Q ok rx e q
  unfold intD at e
  split at e
  · cases e
    obtain ⟨x, rfl, r⟩ := pk1 rx
    cases r.int
    exact .inl ⟨_, rfl, post_ok q ok _ (.int _)⟩
  · cases e
    obtain ⟨x, rfl, r⟩ := pk1 rx
    cases r.bool
    exact .inr ⟨_, rfl, post_ok q ok _ (.int _)⟩
  · cases e
def max2D : List D → Option D
  | [.int i, .int j] => some (.int (if j > i then j else i))
  | _ => none
def min2D : List D → Option D
  | [.int i, .int j] => some (.int (if j < i then j else i))
  | _ => none
theorem cd_max2 : CallD K (fun xs H Q => ∃ i j, xs = [.int i, .int j] ∧ Q (.int (if j > i then j else i)) H) max2D := by
  intro W c σ H F ρ xs ds d Q ok rx e q
  unfold max2D at e
  split at e
  · cases e
    obtain ⟨x, y, rfl, r, r'⟩ := pk2 rx
    cases r.int
    cases r'.int
    exact ⟨_, _, rfl, post_ok q ok _ (.int _)⟩
  · cases e
theorem cd_min2 : CallD K (fun xs H Q => ∃ i j, xs = [.int i, .int j] ∧ Q (.int (if j < i then j else i)) H) min2D := by
  intro W c σ H F ρ xs ds d Q ok rx e q
  unfold min2D at e
  split at e
  · cases e
    obtain ⟨x, y, rfl, r, r'⟩ := pk2 rx
    cases r.int
    cases r'.int
    exact ⟨_, _, rfl, post_ok q ok _ (.int _)⟩
  · cases e
def tupleD : List D → Option D
  | [.list ds] => some (.tuple ds)
  | [.tuple ds] => some (.tuple ds)
  | _ => none
theorem cd_tuple : CallD K (fun xs H Q => ∃ p ys, xs = [.ref p] ∧ ((SqL K H p ys ∧ ∀ l, H l = none → Q (.ref l) (upd H l (.tup ys))) ∨ (SqT K H p ys ∧ Q (.ref p) H))) tupleD := by
  intro W c σ H F ρ xs ds d Q ok rx e q
  unfold tupleD at e
  split at e
  · cases e
    obtain ⟨x, rfl, r⟩ := pk1 rx
    obtain ⟨p, vs, rfl, hp, dp⟩ := Pk.lst ok.sub r
    exact ⟨p, vs, rfl, .inl ⟨hp, fun l hl => new_tup ok dp q l hl⟩⟩
  · cases e
    obtain ⟨x, rfl, r⟩ := pk1 rx
    obtain ⟨p, vs, rfl, hp, dp⟩ := Pk.tup ok.sub r
    refine ⟨p, vs, rfl, .inr ⟨hp, ?_⟩⟩
    rcases r with r | ⟨_, _, _, _, e, _⟩
    · exact post_ok q ok _ r
    · cases e
  · cases e
/-- ints, bools of a list -/
def toInts : List D → Option (List Int)
  | [] => some []
  | .int i :: ds => (toInts ds).map (i :: ·)
  | _ => none
theorem toInts_eq : ∀ {ds : List D} {ns : List Int}, toInts ds = some ns → ds = ns.map PyData.int
  | [], ns, h => by cases h; rfl
  | d :: ds, ns, h => by
    cases d with
    | int i =>
      have h : (toInts ds).map (i :: ·) = some ns := h
      cases q : toInts ds with
      | none => rw [q] at h; cases h
      | some ms =>
        rw [q] at h
        cases h
        rw [toInts_eq q]; rfl
    | none => cases h
    | bool _ => cases h
    | str _ => cases h
    | list _ => cases h
    | tuple _ => cases h
    | dict _ => cases h
theorem toInts_map : ∀ (ns : List Int), toInts (ns.map PyData.int) = some ns
  | [] => rfl
  | n :: ns => by
    show (toInts (ns.map PyData.int)).map (n :: ·) = _
    rw [toInts_map ns]; rfl
def toBools : List D → Option (List Bool)
  | [] => some []
  | .bool i :: ds => (toBools ds).map (i :: ·)
  | _ => none
theorem toBools_eq : ∀ {ds : List D} {ns : List Bool}, toBools ds = some ns → ds = ns.map PyData.bool
  | [], ns, h => by cases h; rfl
  | d :: ds, ns, h => by
    cases d with
    | bool i =>
      have h : (toBools ds).map (i :: ·) = some ns := h
      cases q : toBools ds with
      | none => rw [q] at h; cases h
      | some ms =>
        rw [q] at h
        cases h
        rw [toBools_eq q]; rfl
    | none => cases h
    | int _ => cases h
    | str _ => cases h
    | list _ => cases h
    | tuple _ => cases h
    | dict _ => cases h
theorem toBools_map : ∀ (ns : List Bool), toBools (ns.map PyData.bool) = some ns
  | [] => rfl
  | n :: ns => by
    show (toBools (ns.map PyData.bool)).map (n :: ·) = _
    rw [toBools_map ns]; rfl
def sumD : List D → Option D
  | [.list ds] => (toInts ds).map fun ns => .int ns.sum
  | _ => none
def allD : List D → Option D
  | [.list ds] => (toBools ds).map fun bs => .bool (bs.all id)
  | _ => none
def anyD : List D → Option D
  | [.list ds] => (toBools ds).map fun bs => .bool (bs.any id)
  | _ => none
theorem cd_sum : CallD K (rSum K) sumD := by
  intro W c σ H F ρ xs ds d Q ok rx e q
  unfold sumD at e
  split at e
  · rename_i es
    cases q2 : toInts es with
    | none => rw [q2] at e; cases e
    | some ns =>
      rw [q2] at e
      cases e
      obtain ⟨x, rfl, r⟩ := pk1 rx
      obtain ⟨p, vs, rfl, hp, dp⟩ := Pk.lst ok.sub r
      rw [toInts_eq q2] at dp
      rw [DpAll.ints dp] at hp
      exact ⟨p, ns, rfl, hp, post_ok q ok _ (.int _)⟩
  · cases e
theorem cd_all : CallD K (rAll K) allD := by
  intro W c σ H F ρ xs ds d Q ok rx e q
  unfold allD at e
  split at e
  · rename_i es
    cases q2 : toBools es with
    | none => rw [q2] at e; cases e
    | some ns =>
      rw [q2] at e
      cases e
      obtain ⟨x, rfl, r⟩ := pk1 rx
      obtain ⟨p, vs, rfl, hp, dp⟩ := Pk.lst ok.sub r
      rw [toBools_eq q2] at dp
      rw [DpAll.bls dp] at hp
      exact ⟨p, ns, rfl, hp, post_ok q ok _ (.bl _)⟩
  · cases e
theorem cd_any : CallD K (rAny K) anyD := by
  intro W c σ H F ρ xs ds d Q ok rx e q
  unfold anyD at e
  split at e
  · rename_i es
    cases q2 : toBools es with
    | none => rw [q2] at e; cases e
    | some ns =>
      rw [q2] at e
      cases e
      obtain ⟨x, rfl, r⟩ := pk1 rx
      obtain ⟨p, vs, rfl, hp, dp⟩ := Pk.lst ok.sub r
      rw [toBools_eq q2] at dp
      rw [DpAll.bls dp] at hp
      exact ⟨p, ns, rfl, hp, post_ok q ok _ (.bl _)⟩
  · cases e
/-- repr of what is plain -/
def reprD : List D → Option D
  | [.none] => some (.str "None")
  | [.bool b] => some (.str (if b then "True" else "False"))
  | [.int i] => if i.natAbs.log2 < 1920 then some (.str (toString i)) else none
  | [.str x] => if fit (reprText x).length = true then some (.str (reprText x)) else none
  | _ => none
def rRepr : List V → Hp → VK → Prop := fun xs H Q => (xs = [.non] ∧ Q (.str "None") H) ∨ (∃ b : Bool, xs = [.bl b] ∧ Q (.str (if b then "True" else "False")) H) ∨ (∃ i : Int, xs = [.int i] ∧ i.natAbs.log2 < 1920 ∧ Q (.str (toString i)) H) ∨ ∃ x, xs = [.str x] ∧ (reprText x).length ≤ sizeLine ∧ Q (.str (reprText x)) H
theorem cr_repr : CallR X (.builtin "repr") rRepr := by
  intro pins s σ H xs us Q I r h
  rcases h with ⟨rfl, q⟩ | ⟨b, rfl, q⟩ | ⟨i, rfl, hi, q⟩ | ⟨x, rfl, hx, q⟩
  · obtain ⟨u, rfl, ru⟩ := vals1 r
    cases ru
    exact PySem.P.repr_of_none ⟨.str "None", H, I.tok _, ⟨_, rfl⟩, q⟩
  · obtain ⟨u, rfl, ru⟩ := vals1 r
    cases ru
    exact PySem.P.repr_of_bool ⟨.str _, H, I.tok _, ⟨_, rfl⟩, q⟩
  · obtain ⟨u, rfl, ru⟩ := vals1 r
    obtain ⟨t, rfl⟩ := ru
    exact PySem.P.repr_of_int hi ⟨.str _, H, I.tok _, ⟨_, rfl⟩, q⟩
  · obtain ⟨u, rfl, ru⟩ := vals1 r
    obtain ⟨t, rfl⟩ := ru
    exact PySem.P.repr_of_str ⟨.str _, H, I.tok _, ⟨_, rfl⟩, q⟩ hx
theorem cd_repr : CallD K rRepr reprD := by
  intro W c σ H F ρ xs ds d Q ok rx e q
  unfold reprD at e
  split at e
  · cases e
    obtain ⟨x, rfl, r⟩ := pk1 rx
    cases r.none
    exact .inl ⟨rfl, post_ok q ok _ (.str _)⟩
  · cases e
    obtain ⟨x, rfl, r⟩ := pk1 rx
    cases r.bool
    exact .inr (.inl ⟨_, rfl, post_ok q ok _ (.str _)⟩)
  · split at e
    · rename_i hf
      cases e
      obtain ⟨x, rfl, r⟩ := pk1 rx
      cases r.int
      exact .inr (.inr (.inl ⟨_, rfl, hf, post_ok q ok _ (.str _)⟩))
    · cases e
  · split at e
    · rename_i hf
      cases e
      obtain ⟨x, rfl, r⟩ := pk1 rx
      cases r.str
      exact .inr (.inr (.inr ⟨_, rfl, fit_le hf, post_ok q ok _ (.str _)⟩))
    · cases e
  · cases e
/-! ### isinstance -/
def typD : D → String
  | .none => "NoneType"
  | .bool _ => "bool"
  | .int _ => "int"
  | .str _ => "str"
  | .list _ => "list"
  | .tuple _ => "tuple"
  | .dict _ => "dict"
theorem typ_of {c : Ct} {σ : St} {H F : Hp} {ρ : En} (ok : Ok K c σ H F ρ) {x : V} {d : D} (r : Pk K H F x d) : TyX K H x (.type (typD d)) := by
  cases d with
  | none => cases r.none; exact .base .non
  | bool b => cases r.bool; exact .base (.bl b)
  | int i => cases r.int; exact .base (.int i)
  | str z => cases r.str; exact .base (.str z)
  | list ds =>
    obtain ⟨p, vs, rfl, hp, dp⟩ := Pk.rd ok.sub r
    rcases hp with hp | ⟨o, hp⟩
    · exact .base (.lst hp)
    · exact .base (.frz hp)
  | tuple ds =>
    obtain ⟨p, vs, rfl, hp, dp⟩ := Pk.tup ok.sub r
    rcases hp with (hp | ⟨o, hp⟩) | ⟨o, its, n, h1, h2, _⟩
    · exact .base (.tup hp)
    · exact .fTuple hp
    · exact .kTuple h1 h2
  | dict _ =>
    rcases r with r | ⟨_, _, _, _, e, _⟩
    · cases r
    · cases e
def isiT (T : String) (d : D) : Bool := match kitB (typD d) T with
  | some b => b
  | none => false
def isiOk (T : String) : Bool := (kitB "NoneType" T).isSome && (kitB "bool" T).isSome && (kitB "int" T).isSome && (kitB "str" T).isSome && (kitB "list" T).isSome && (kitB "tuple" T).isSome && (kitB "dict" T).isSome
theorem isi_kit {T : String} (h : isiOk T = true) (d : D) : PySem.W.kitOne K (.type (typD d)) (.type T) = some (isiT T d) := by
  unfold isiOk at h
  simp only [Bool.and_eq_true] at h
  obtain ⟨⟨⟨⟨⟨⟨h1, h2⟩, h3⟩, h4⟩, h5⟩, h6⟩, h7⟩ := h
  refine kit_ty ?_
  unfold isiT
  cases d <;> (unfold typD; first
    | (obtain ⟨b, e⟩ := Option.isSome_iff_exists.mp h1; rw [e])
    | (obtain ⟨b, e⟩ := Option.isSome_iff_exists.mp h2; rw [e])
    | (obtain ⟨b, e⟩ := Option.isSome_iff_exists.mp h3; rw [e])
    | (obtain ⟨b, e⟩ := Option.isSome_iff_exists.mp h4; rw [e])
    | (obtain ⟨b, e⟩ := Option.isSome_iff_exists.mp h5; rw [e])
    | (obtain ⟨b, e⟩ := Option.isSome_iff_exists.mp h6; rw [e])
    | (obtain ⟨b, e⟩ := Option.isSome_iff_exists.mp h7; rw [e]))
def mIsi (T : String) (m : M D) : M D := mBind m fun d => mPure (.bool (isiT T d))
variable {a : Expr} {m : M D} {p q pos : Pos} {tn : Str} {T : String}
theorem dIsi (hm : X.mg "isinstance" = none) (hmT : X.mg tn = none) (hT : isiOk T = true) (ha : PE X a (tP X.K W m)) (hv : bootBuiltins tn = some (.type T)) (hg : Gl X "isinstance" := by rfl) (hgT : Gl X tn := by rfl)
    (hn : tn ≠ "__name__" := by decide) (hdb : (tn == ("__debug__" : Str)) = false := by decide) (hs : starEach [a, .Name tn q] X.env = (false, eval a X.env) :: starEach [.Name tn q] X.env := by rfl) (hs2 : starEach [.Name tn q] X.env = (false, eval (.Name tn q) X.env) :: starEach [] X.env := by rfl) (hpl : (backTo pos (starEach [.Name tn q] X.env)).any (·.1) = false := by rfl)
    (hbi : bootBuiltins "isinstance" = some (.builtin "isinstance") := by decide +kernel) : PE X (.Call (.Name "isinstance" p) [a, .Name tn q] [] pos) (tE X.K W (mIsi T m)) :=
  PE.imp (pe_callB call_isi hg hm hbi (pa_cons ha (pa_cons (pe_bltn hgT hmT hv (hn := hn) (hd := hdb) (r := (show RelV (V.ty T) (Value.type T) from rfl))) pa_nil hs2) hs) (by decide) (by decide) hs hpl) (by
  rintro σ H Q ⟨c, F, ρ, ok, h⟩
  refine ⟨c, F, ρ, ok, post_mono ?_ (post_bind h)⟩
  rintro d H1 F1 _ ⟨ρ1, ok1, s1, h1⟩ v rv
  exact ⟨v, _, _, _, _, rfl, .ty T, typ_of ok1 rv, isi_kit hT d, h1 H1 F1 ok1 (Same.refl F1) _ (.bl _)⟩)
end
/-! ### a new list, not yet anyone's -/
def postN (K : PySem.W.Frag) (W : WX) (c : Ct) (σ : St) (F : Hp) (Q : VK) : Option (R (List D)) → Prop
  | none => False
  | some (.ok out ρ') => ∀ p xs H' F', Ok K (c.put p (.lst xs)) σ H' F' ρ' → c.pr p = none → Same F F' → DpAll K F' xs out → Q (.ref p) H'
  | some (.ex e ρ') => ∀ cls x H' F', Ok K c σ H' F' ρ' → Same F F' → ExR K e cls x F' H' → W cls x σ H'
def tN (K : PySem.W.Frag) (W : WX) (m : M (List D)) : TE := fun σ H Q => ∃ c F ρ, Ok K c σ H F ρ ∧ postN K W c σ F Q (m ρ)
section
variable {X : Cx} {W : WX} {K : PySem.W.Frag} {σ : St} {H F : Hp} {ρ : En} {c : Ct}
theorem postN_weak {Q : VK} {F1 : Hp} (s : Same F F1) : ∀ {r : Option (R (List D))}, postN K W c σ F Q r → postN K W c σ F1 Q r
  | some (.ok a ρ'), h => fun p xs H' F' ok hp s' => h p xs H' F' ok hp (s.trans s')
  | some (.ex e ρ'), h => fun cls x H' F' ok s' => h cls x H' F' ok (s.trans s')
theorem postN_bind {α : Type} {Q : VK} {m : M α} {f : α → M (List D)} (h : postN K W c σ F Q (mBind m f ρ)) :
    post K W c σ F (fun a H1 F1 => ∃ ρ1, Ok K c σ H1 F1 ρ1 ∧ Same F F1 ∧ postN K W c σ F1 Q (f a ρ1)) (m ρ) := by
  unfold mBind at h
  cases e : m ρ with
  | none => rw [e] at h; exact h
  | some r =>
    rw [e] at h
    cases r with
    | ok a ρ' => exact fun H' F' ok s => ⟨ρ', ok, s, postN_weak s h⟩
    | ex x ρ' => exact h
theorem new_N {Q : VK} {vs : List V} {ds : List D} (ok : Ok K c σ H F ρ) (hd : DpAll K F vs ds) (q : postN K W c σ F Q (some (.ok ds ρ))) (p : Addr) (hp : H p = none) : Q (.ref p) (upd H p (.lst vs)) :=
  q p vs _ F (ok.allocP hp) (ok.new hp).2.2.1 (Same.refl F) hd
theorem postN_lift {Q : VK} {o : Option (List D)} (h : postN K W c σ F Q (mLift o ρ)) : ∃ a, o = some a ∧ postN K W c σ F Q (some (.ok a ρ)) := by
  unfold mLift at h
  cases o with
  | none => exact h.elim
  | some a => exact ⟨a, rfl, h⟩
def mVal (m : M (List D)) : M D := mBind m fun ds => mPure (.list ds)
theorem tE_N {m : M (List D)} {Q : VK} (h : tE K W (mVal m) σ H Q) : tN K W m σ H Q := by
  obtain ⟨c, F, ρ, ok, h⟩ := h
  refine ⟨c, F, ρ, ok, ?_⟩
  unfold mVal mBind at h
  cases e : m ρ with
  | none => rw [e] at h; exact h
  | some r =>
    rw [e] at h
    cases r with
    | ex x ρ' => exact h
    | ok out ρ' =>
      intro p xs H' F' ok' hp s' r
      obtain ⟨hH, hF, h0⟩ := ok'.prt p _ upd_same
      have s : Same F' (upd F' p (.lst xs)) := Same.updN hF
      exact h H' _ (ok'.freeP hp) (s'.trans s) _ (.lst (.inl upd_same) (DpAll.mono s r))
theorem dVal {e : Expr} {m : M (List D)} (h : PE X e (tN X.K W m)) : PE X e (tE X.K W (mVal m)) := PE.imp h fun _ _ _ => tE_N
def mAsgN (m : M (List D)) (i : Nat) : M Fl := mBind m fun ds => mBind (mStoreO i ds) fun _ => mDone
theorem asgN_of {m : M (List D)} {i : Nat} {Dn : Ends} (h : tS K W (mAsgN m i) Dn σ H) : tAsg (tN K W m) (gName i) Dn σ H := by
  obtain ⟨c, F, ρ, ok, h⟩ := h
  refine ⟨c, F, ρ, ok, ?_⟩
  unfold mAsgN mBind at h
  cases e : m ρ with
  | none => rw [e] at h; exact h.elim
  | some r =>
    rw [e] at h
    cases r with
    | ex x ρ' => exact fun cls y H' F' ok s r => h σ cls y H' F' ok s r
    | ok out ρ' =>
      intro p xs H' F' ok' hp s' r
      have h5 : postS K W c F Dn (mBind (mStoreO i out) (fun _ => mDone) ρ') := h
      have h6 := postS_bindG h5
      unfold mStoreO at h6
      split at h6
      · rename_i hl
        obtain ⟨F3, ρ3, ok3, s3, h7⟩ := h6 _ H' F' (ok'.ownP hp r hl) s'
        exact h7 _ _ _ ok3 (Same.refl F3)
      · exact h6.elim
theorem dsN {i : Nat} {x : Str} {pos pos' : Pos} {e : Expr} {m : M (List D)} (hN : X.N.Nodup) (he : PE X e (tN X.K W m)) (hi : X.N[i]? = some x := by rfl) (hx : Loc X.env.scope x := by first | exact Or.inl rfl | exact Or.inr rfl)
    (hs : swapsWith e (some (.Name x pos')) pos.line X.env = pure false := by rfl)
    (hf : X.fn x = true ∨ X.env.scope.names.lookup x = some .local := by first | exact .inl rfl | exact .inr rfl) : PS X (.Assign [.Name x pos'] e pos) (tS X.K W (mAsgN m i)) := PS.imp (ps_set hN hi hx he hs hf) fun _ _ _ => asgN_of
/-- a comprehension, as a new list; on one line with its name -/
theorem comp_N {mi : M (List D)} {vs : List Nat} {g : TG} {gD : D → M Unit} {mt : M Bool} {me : M D} (hg : CTg K vs g gD) {Q : VK}
    {tt : TT} (ht : ∀ σ H Q, tT K WF mt σ H Q → tt σ H Q) (h : tN K W (mComp vs mi gD mt me) σ H Q) : tLc (tI K W mi) g tt (tE K WF me) vs σ H Q := by
  obtain ⟨c, F, ρ, ok, h⟩ := h
  refine comp_core hg ht ok ?_
  unfold mComp at h
  refine post_mono ?_ (postN_bind h)
  rintro ds H1 F1 _ ⟨ρ1, ok1, s1, h1⟩
  unfold mRest at h1
  cases q : mGo vs gD mt me ds (unsE ρ1 vs) with
  | none => rw [q] at h1; exact h1.elim
  | some r =>
    rw [q] at h1
    cases r with
    | ex x ρ' => exact h1.elim
    | ok out ρe =>
      by_cases hf : fit ds.length = true
      · simp only [if_pos hf] at h1
        exact ⟨ρ1, ok1, hf, out, ρe, q, fun p acc H2 F2 hpr ok2 s2 da => h1 p acc H2 F2 ok2 hpr s2 da⟩
      · simp only [if_neg hf] at h1
        exact h1.elim
theorem dCompN {elt iter tg : Expr} {ifs : List Expr} {scope : Scope} {own : List (Str × Nat)} {pos : Pos} {mi : M (List D)} {g : TG} {gD : D → M Unit} {mt : M Bool} {me : M D} {tt : TT} (hc : X.calm = true) (hN : X.N.Nodup) (hi : PI X tg iter (tI X.K W mi)) (ok : BlkOk X.N X.env.scope scope own)
    (hg : ∀ (s : Shared) (H : Hp) (C : Addr) (cl : List (Str × Addr)) (fp : List Addr), PG (X.blk s H scope (compEnvC scope cl C X.env) fp) tg g) (ht : ∀ (s : Shared) (H : Hp) (C : Addr) (cl : List (Str × Addr)) (fp : List Addr), PTs (X.blk s H scope (compEnvC scope cl C X.env) fp) ifs tt)
    (he : ∀ (s : Shared) (H : Hp) (C : Addr) (cl : List (Str × Addr)) (fp : List Addr), PE (X.blk s H scope (compEnvC scope cl C X.env) fp) elt (tE X.K WF me)) (hG : CTg X.K (own.map (·.2)) g gD) (hT : ∀ σ H Q, tT X.K WF mt σ H Q → tt σ H Q)
    (hs : ∀ x, foldedSetIterable iter X.env x = pure x := by exact fun _ => rfl) : PE X (.ListComp elt [⟨tg, iter, ifs, 0⟩] scope pos) (tN X.K W (mComp (own.map (·.2)) mi gD mt me)) :=
  PE.imp (pe_lc hc hN hi ok hg ht he hs) fun _ _ _ => comp_N hG hT
theorem dsCompN {i : Nat} {y : Str} {py spos : Pos} {elt iter tg : Expr} {ifs : List Expr} {scope : Scope} {own : List (Str × Nat)} {pos : Pos} {mi : M (List D)} {g : TG} {gD : D → M Unit} {mt : M Bool} {me : M D} {tt : TT} (hc : X.calm = true) (hN : X.N.Nodup)
    (hsw : swapsWith (.ListComp elt [⟨tg, iter, ifs, 0⟩] scope pos) (some (.Name y py)) spos.line X.env = pure true) (hi : PI X tg iter (tI X.K W mi)) (ok : BlkOk X.N X.env.scope scope own)
    (hg : ∀ (s : Shared) (H : Hp) (C : Addr) (cl : List (Str × Addr)) (fp : List Addr), PG (X.blk s H scope (compEnvC scope cl C X.env) fp) tg g) (ht : ∀ (s : Shared) (H : Hp) (C : Addr) (cl : List (Str × Addr)) (fp : List Addr), PTs (X.blk s H scope (compEnvC scope cl C X.env) fp) ifs tt)
    (he : ∀ (s : Shared) (H : Hp) (C : Addr) (cl : List (Str × Addr)) (fp : List Addr), PE (X.blk s H scope (compEnvC scope cl C X.env) fp) elt (tE X.K WF me)) (hG : CTg X.K (own.map (·.2)) g gD) (hT : ∀ σ H Q, tT X.K WF mt σ H Q → tt σ H Q)
    (hy : X.N[i]? = some y := by rfl) (hyl : X.env.scope.names.lookup y = some .local := by rfl)
    (hs : ∀ x, foldedSetIterable iter X.env x = pure x := by exact fun _ => rfl) : PS X (.Assign [.Name y py] (.ListComp elt [⟨tg, iter, ifs, 0⟩] scope pos) spos) (tS X.K W (mAsgN (mComp (own.map (·.2)) mi gD mt me) i)) :=
  PS.imp (ps_setLc hc hN hy hyl hsw hi ok hg ht he hs) fun Dn σ H h => by
    have q := asgN_of h
    exact comp_N hG hT q
/-- list(..), sorted(..), .. -/
def CallN (K : PySem.W.Frag) (r : List V → Hp → VK → Prop) (g : List D → Option (List D)) : Prop :=
  ∀ {W : WX} {c : Ct} {σ : St} {H F : Hp} {ρ : En} {xs : List V} {ds : List D} {out : List D} {Q : VK}, Ok K c σ H F ρ → PkAll K H F xs ds → g ds = some out → postN K W c σ F Q (some (.ok out ρ)) → r xs H Q
def mCallN1 (g : List D → Option (List D)) (m : M D) : M (List D) := mBind m fun d => mLift (g [d])
variable {a : Expr} {ma mb : M D} {x : Str} {p pos : Pos} {id T : String} {r : List V → Hp → VK → Prop} {g : List D → Option (List D)}
theorem tCBN1 (hd : CallN K r g) {Q : VK} (h : tN K W (mCallN1 g ma) σ H Q) : tCB r (tCons (tP K W ma) tNil) σ H Q := by
  obtain ⟨c, F, ρ, ok, h⟩ := h
  refine ⟨c, F, ρ, ok, post_mono ?_ (postN_bind h)⟩
  rintro d H1 F1 _ ⟨ρ1, ok1, s1, h1⟩ x rx
  obtain ⟨d', e, h2⟩ := postN_lift h1
  exact hd ok1 (.cons rx .nil) e h2
theorem dBN1 (hc : CallR X (.builtin id) r) (hd : CallN X.K r g) (hm : X.mg x = none) (hv : bootBuiltins x = some (.builtin id)) (ha : PE X a (tP X.K W ma)) (hg : Gl X x := by rfl) (hs : starEach (a :: []) X.env = (false, eval a X.env) :: starEach [] X.env := by rfl) (hn : x ≠ "__name__" := by decide) (hdb : (x == ("__debug__" : Str)) = false := by decide)
    (hpl : (backTo pos (starEach [] X.env)).any (·.1) = false := by rfl) : PE X (.Call (.Name x p) [a] [] pos) (tN X.K W (mCallN1 g ma)) :=
  PE.imp (pe_callB hc hg hm hv (pa_cons ha pa_nil hs) hn hdb hs hpl) fun _ _ _ => tCBN1 hd
theorem dTyN1 (hc : CallR X (.type T) r) (hd : CallN X.K r g) (hm : X.mg x = none) (hv : bootBuiltins x = some (.type T)) (ha : PE X a (tP X.K W ma)) (hg : Gl X x := by rfl) (hs : starEach (a :: []) X.env = (false, eval a X.env) :: starEach [] X.env := by rfl) (hn : x ≠ "__name__" := by decide) (hdb : (x == ("__debug__" : Str)) = false := by decide)
    (hpl : (backTo pos (starEach [] X.env)).any (·.1) = false := by rfl) : PE X (.Call (.Name x p) [a] [] pos) (tN X.K W (mCallN1 g ma)) :=
  PE.imp (pe_callTy hc hg hm hv (pa_cons ha pa_nil hs) hn hdb hs hpl) fun _ _ _ => tCBN1 hd
def listD : List D → Option (List D)
  | [.list ds] => some ds
  | [.tuple ds] => some ds
  | _ => none
theorem cn_list : CallN K (fun xs H Q => ∃ p ys, xs = [.ref p] ∧ (SqL K H p ys ∨ SqT K H p ys) ∧ ∀ l, H l = none → Q (.ref l) (upd H l (.lst ys))) listD := by
  intro W c σ H F ρ xs ds d Q ok rx e q
  unfold listD at e
  split at e
  · cases e
    obtain ⟨x, rfl, r⟩ := pk1 rx
    obtain ⟨p, vs, rfl, hp, dp⟩ := Pk.lst ok.sub r
    exact ⟨p, vs, rfl, .inl hp, fun l hl => new_N ok dp q l hl⟩
  · cases e
    obtain ⟨x, rfl, r⟩ := pk1 rx
    obtain ⟨p, vs, rfl, hp, dp⟩ := Pk.tup ok.sub r
    exact ⟨p, vs, rfl, .inr hp, fun l hl => new_N ok dp q l hl⟩
  · cases e
end
end Dd

namespace Dd
open PySem PySem.Spec L2
section
variable {X : Cx} {W : WX} {K : PySem.W.Frag} {σ : St} {H F : Hp} {ρ : En} {c : Ct}
/-! ### a tuple by 0, by 1 -/
theorem tuple_mul0 (l : Addr) (items : Array Value) (n : Nat) (dd : Option Addr) (sl : Array (Option Value)) (u : Tok) (c1 : items.isEmpty = false) :
    Meets (Builtin.«tuple.__mul__» ⟨[.ref l, .int 0 u], []⟩) (fun _ R s => s.heap.get? l = some { cls := .type "tuple", dict := dd, data := .seq items n, slots := sl } ∧
      R (.ok (.ret (Value.ref s.heap.objs.size))) { s with heap := s.heap.push { cls := Value.type "tuple", data := Data.seq #[] }, toks := s.toks }) :=
  .of_wp fun prog w A R s h => by
    obtain ⟨hp, g, d, tk, os⟩ := s
    obtain ⟨hl, h⟩ := h
    have f1 := AutoSeq1.idx_int
    have c1' : (items.isEmpty || (0 : Int) == 1) = false := by rw [c1]; rfl
    wp_walk using wpAny_loadPart' hl
    repeat (first
      | (refine wpAny_ite_false (decide_eq_false (by rw [c1']; exact Bool.false_ne_true)) ?_; wp_walk using wpAny_loadPart' hl))
    exact ⟨_, rfl, h⟩
theorem tuple_mul1 (l : Addr) (items : Array Value) (n : Nat) (dd : Option Addr) (sl : Array (Option Value)) (u : Tok) :
    Meets (Builtin.«tuple.__mul__» ⟨[.ref l, .int 1 u], []⟩) (fun _ R s => s.heap.get? l = some { cls := .type "tuple", dict := dd, data := .seq items n, slots := sl } ∧
      R (.ok (.ret (Value.ref l))) s) :=
  .of_wp fun prog w A R s h => by
    obtain ⟨hp, g, d, tk, os⟩ := s
    obtain ⟨hl, h⟩ := h
    have f1 := AutoSeq1.idx_int
    have c1' : (items.isEmpty || (1 : Int) == 1) = true := by simp
    wp_walk using wpAny_loadPart' hl
    repeat (first
      | (refine wpAny_ite_true (decide_eq_true (by rw [c1'])) ?_; wp_walk using wpAny_loadPart' hl))
    exact ⟨_, rfl, h⟩

def rRep01 (K : PySem.W.Frag) : R2 := fun x y H Q => ∃ l xs, x = .ref l ∧ SqT K H l xs ∧ xs ≠ [] ∧ ((y = .int 0 ∧ ∀ p, H p = none → Q (.ref p) (upd H p (.tup []))) ∨ (y = .int 1 ∧ Q (.ref l) H))
theorem op_rep01 : OpR X (binaryOp .Mult) (rRep01 X.K) := by
  intro pins s σ H vx vy v u Q I rx ry hh
  obtain ⟨l, xs, rfl, hT, hne, hh⟩ := hh
  cases rx
  obtain ⟨its, rr, ⟨⟨cls, dd, data, sl⟩, hob, hcl, n, hdt⟩, hsz⟩ := I.tuple hT
  simp only at hcl hdt
  subst hcl hdt
  have hemp : its.toArray.isEmpty = false := by
    cases its with
    | nil => exact absurd (List.eq_nil_of_length_eq_zero (by rw [rr.length]; rfl)) hne
    | cons _ _ => rfl
  rcases hh with ⟨rfl, q⟩ | ⟨rfl, q⟩
  · obtain ⟨t, rfl⟩ := ry
    refine wpAny_binaryOp_repeat_ref (T := "tuple") (U := "int") (by decide) ⟨_, hob, rfl⟩ (fun s' => typeIs_int s' 0 t) noFill_tuple_mul F.fills_int_mul F.slot_int_rmul repeat_tuple F.slot_int_index.lookup
      (call_meets F.slot_int_rmul (typeIs_int s 0 t) F.entry_int_rmul (F.args_int_rmul_2 _ _) (int_rmul_tuple 0 t l its.toArray n dd sl)
        ⟨hob, rfl, ⟨_, hob, rfl⟩, call_meets F.slot_tuple_mul ⟨_, hob, rfl⟩ F.entry_tuple_mul (F.args_tuple_mul_2 _ _) (tuple_mul0 l its.toArray n dd sl t hemp) ⟨hob, ?_⟩⟩)
    refine ⟨.ref s.heap.objs.size, _, I.laid (t' := s.toks) (o := .tup []) (fun b ob qq => Heap.get?_push_of_some _ qq) (Nat.le_refl _) ?_, rfl, q _ (I.hok.fresh (Nat.le_refl _))⟩
    exact ⟨Nat.zero_le _, [], .nil, PyProof.Rows.IsTup.new _ _⟩
  · obtain ⟨t, rfl⟩ := ry
    refine wpAny_binaryOp_repeat_ref (T := "tuple") (U := "int") (by decide) ⟨_, hob, rfl⟩ (fun s' => typeIs_int s' 1 t) noFill_tuple_mul F.fills_int_mul F.slot_int_rmul repeat_tuple F.slot_int_index.lookup
      (call_meets F.slot_int_rmul (typeIs_int s 1 t) F.entry_int_rmul (F.args_int_rmul_2 _ _) (int_rmul_tuple 1 t l its.toArray n dd sl)
        ⟨hob, rfl, ⟨_, hob, rfl⟩, call_meets F.slot_tuple_mul ⟨_, hob, rfl⟩ F.entry_tuple_mul (F.args_tuple_mul_2 _ _) (tuple_mul1 l its.toArray n dd sl t) ⟨hob, ?_⟩⟩)
    exact ⟨.ref l, H, I.tok _, rfl, q⟩
def repT : D → D → Option D
  | .tuple ds, .int k => if ds.isEmpty = true then none else if k = 0 then some (.tuple []) else if k = 1 then some (.tuple ds) else none
  | _, _ => none
theorem opD_repT : OpD K (rRep01 K) repT := by
  intro W c σ H F ρ x y a b d Q ok rx ry e q
  unfold repT at e
  split at e
  · rename_i ds k
    obtain ⟨p, vs, rfl, hp, dp⟩ := Pk.tup ok.sub rx
    by_cases he : ds.isEmpty = true
    · rw [if_pos he] at e; cases e
    · rw [if_neg he] at e
      have hne : vs ≠ [] := fun z => by
        subst z
        cases dp
        exact he rfl
      by_cases h0 : k = 0
      · rw [if_pos h0] at e
        cases e
        subst h0
        exact ⟨p, vs, rfl, hp, hne, .inl ⟨ry.int, fun l hl => new_tup ok .nil q l hl⟩⟩
      · rw [if_neg h0] at e
        by_cases h1 : k = 1
        · rw [if_pos h1] at e
          cases e
          subst h1
          refine ⟨p, vs, rfl, hp, hne, .inr ⟨ry.int, ?_⟩⟩
          rcases rx with rx | ⟨_, _, _, _, e, _⟩
          · exact post_ok q ok _ rx
          · cases e
        · rw [if_neg h1] at e
          cases e
  · cases e
/-- a list by an int -/
theorem DpAll.rep {vs : List V} {ds : List D} (h : DpAll K F vs ds) : ∀ k : Nat, DpAll K F (List.replicate k vs).flatten (List.replicate k ds).flatten
  | 0 => .nil
  | k + 1 => by
    rw [List.replicate_succ, List.replicate_succ, List.flatten_cons, List.flatten_cons]
    exact DpAll.append h (DpAll.rep h k)
def repLD : D → D → Option (List D)
  | .list ds, .int k => if (decide (k.natAbs < 9223372036854775808) && fit (ds.length * k.toNat)) = true then some (List.replicate k.toNat ds).flatten else none
  | _, _ => none
/-- [..] * k: the list is a display -/
def mRepN (ms : M (List D)) (mk : M D) : M (List D) := mBind ms fun ds => mBind (mLift (if fit ds.length = true then some ds else none)) fun ds => mBind mk fun k => mLift (repLD (.list ds) k)
theorem ok_unput {p : Addr} {o : HO} (ok : Ok K (c.put p o) σ H F ρ) (hp : c.pr p = none) : Ok K c σ H F ρ := by
  have nown : ∀ {q : Addr}, (c.put p o).pr q = none → q ≠ p := fun {q} a z => by
    subst z
    have a' : upd c.pr q o q = none := a
    rw [upd_same] at a'; cases a'
  refine ⟨ok.len, ok.sub, ok.ge, ok.fe, ok.keep, fun q e => ?_, fun b u e => ?_, ok.val, fun j es e => ?_, ok.ios, ok.scr, ok.sep⟩
  · obtain ⟨a1, a2, a3, a4⟩ := ok.iod q e
    exact ⟨a1, a2, (upd_ne (nown a3)).symm.trans a3, a4⟩
  · have ne : b ≠ p := fun z => by subst z; rw [hp] at e; cases e
    exact ok.prt b u ((upd_ne ne).trans e)
  · obtain ⟨q, vs, a1, a2, a3, a4, a5, a6⟩ := ok.own j es e
    exact ⟨q, vs, a1, a2, a3, a4, a5, (upd_ne (nown a6)).symm.trans a6⟩
theorem rep_of {ms : M (List D)} {mk : M D} {Q : VK} (h : tN K W (mRepN ms mk) σ H Q) : tOp rRep (tLst (tA K W ms)) (tE K W mk) σ H Q := by
  obtain ⟨c, F, ρ, ok, h⟩ := h
  refine ⟨c, F, ρ, ok, post_mono ?_ (postN_bind h)⟩
  rintro ds H1 F1 _ ⟨ρ1, ok1, s1, h1⟩ xs rx
  obtain ⟨ds', e, h2⟩ := post_lift (postN_bind h1)
  split at e
  · rename_i hf
    cases e
    refine ⟨by rw [DpAll.length rx]; exact fit_le hf, fun p hp => ?_⟩
    obtain ⟨ρ2, ok2, s2, h3⟩ := h2 H1 F1 ok1 (Same.refl F1)
    have hpr := (ok2.new hp).2.2.1
    refine ⟨c.put p (.lst xs), F1, ρ2, ok2.allocP hp, ?_⟩
    have h4 := postN_bind h3
    cases e2 : mk ρ2 with
    | none => rw [e2] at h4; exact h4.elim
    | some r =>
      rw [e2] at h4
      cases r with
      | ex y ρ3 => exact fun cls z H' F' ok' s' r => h4 cls z H' F' (ok_unput ok' hpr) s' r
      | ok kd ρ3 =>
        intro H' F' ok' s' kv rk
        obtain ⟨ρ4, ok4, s4, h5⟩ := h4 H' F' (ok_unput ok' hpr) s'
        obtain ⟨out, e3, h6⟩ := postN_lift h5
        cases kd with
        | int k =>
          cases rk
          unfold repLD at e3
          simp only at e3
          split at e3
          · rename_i hb
            cases e3
            simp only [Bool.and_eq_true] at hb
            refine ⟨p, k, xs, rfl, rfl, (ok'.prt p _ upd_same).1, by have := of_decide_eq_true hb.1; omega, by have := of_decide_eq_true hb.1; omega, by rw [DpAll.length rx]; exact fit_le hb.2, fun l hl => ?_⟩
            exact new_N ok4 (DpAll.rep (DpAll.mono s' rx) k.toNat) h6 l hl
          · cases e3
        | none => cases e3
        | bool _ => cases e3
        | str _ => cases e3
        | list _ => cases e3
        | tuple _ => cases e3
        | dict _ => cases e3
  · cases e
theorem dRepN {es : List Expr} {lp pos : Pos} {b : Expr} {ms : M (List D)} {mk : M D} (ha : PA X es (tA X.K W ms)) (hb : PE X b (tE X.K W mk)) : PE X (.BinOp (.List es lp) .Mult b pos) (tN X.K W (mRepN ms mk)) := PE.imp (pe_op op_rep (pe_lst ha) hb) fun _ _ _ => rep_of
def mulD : D → D → Option D := oOr mulI repT
def rMulA (K : PySem.W.Frag) : R2 := fun x y H Q => rI CMul (fun i j => .int (i * j)) x y H Q ∨ rRep01 K x y H Q
theorem opD_mul : OpD K (rMulA K) mulD := opD_or (opD_Ic cMul_ok fun _ _ _ => .int _) opD_repT
theorem or_mulA : OpR X (binaryOp .Mult) (rMulA X.K) := OpR.or op_mul op_rep01
/-! ### a, b = x, y -/
variable {i j : Nat} {x y : Str} {a b : Expr} {ma mb : M D} {px py pt pos : Pos} {kt k2 : Nat} {pt2 : Pos}
def mParEE (i j : Nat) (ma mb : M D) : M Fl := mBind ma fun a => mBind mb fun b => mBind (mStore i a) fun _ => mBind (mStore j b) fun _ => mDone
theorem parEE_of {Dn : Ends} (h : tS K W (mParEE i j ma mb) Dn σ H) : tPar i j (tCons (tE K W ma) (tCons (tE K W mb) tNil)) Dn σ H := by
  obtain ⟨c, F, ρ, ok, h⟩ := h
  refine ⟨c, F, ρ, ok, post_mono ?_ (postS_bind h)⟩
  rintro d1 H1 F1 _ ⟨ρ1, ok1, s1, h1⟩ v1 r1
  refine ⟨c, F1, ρ1, ok1, post_mono ?_ (postS_bind h1)⟩
  rintro d2 H2 F2 _ ⟨ρ2, ok2, s2, h2⟩ v2 r2
  refine ⟨v1, v2, rfl, ?_⟩
  have h3 := postS_bindG h2
  unfold mStore at h3
  split at h3
  · rename_i hl
    obtain ⟨F3, ρ3, ok3, s3, h4⟩ := h3 _ H2 F2 (ok2.setV hl (Dp.mono s2 r1)) (Same.refl F2)
    have h5 := postS_bindG h4
    unfold mStore at h5
    split at h5
    · rename_i hl2
      obtain ⟨F4, ρ4, ok4, s4, h6⟩ := h5 _ H2 F3 (ok3.setV hl2 (Dp.mono s3 r2)) (Same.refl F3)
      exact h6 _ _ _ ok4 (Same.refl F4)
    · exact h5.elim
  · exact h3.elim
theorem dParEE (hc : X.calm = true) (hN : X.N.Nodup) (hij : i ≠ j) (ha : PE X a (tE X.K W ma)) (hb : PE X b (tE X.K W mb)) (hi : X.N[i]? = some x := by rfl) (hj : X.N[j]? = some y := by rfl)
    (hx : X.env.scope.names.lookup x = some .local := by rfl) (hy : X.env.scope.names.lookup y = some .local := by rfl)
    (hw : swappedStores [.Tuple [.Name x px, .Name y py] kt pt] (.Tuple [a, b] k2 pt2) X.env = pure (some [x, y]) := by rfl)
    (hs : swapsWithSole [.Tuple [.Name x px, .Name y py] kt pt] (.Tuple [a, b] k2 pt2) pos.line X.env = pure false := by rfl)
    (hs1 : starEach [a, b] X.env = (false, eval a X.env) :: starEach [b] X.env := by rfl) (hs2 : starEach [b] X.env = (false, eval b X.env) :: starEach [] X.env := by rfl) :
    PS X (.Assign [.Tuple [.Name x px, .Name y py] kt pt] (.Tuple [a, b] k2 pt2) pos) (tS X.K W (mParEE i j ma mb)) :=
  PS.imp (ps_par hc hN hi hj hij hx hy (pa_cons ha (pa_cons hb pa_nil hs2) hs1) hw hs) fun _ _ _ => parEE_of
/-- .. the second a new list -/
def mParEN (i j : Nat) (ma : M D) (mb : M (List D)) : M Fl := mBind ma fun a => mBind mb fun b => mBind (mStore i a) fun _ => mBind (mStoreO j b) fun _ => mDone
theorem parEN_of {mn : M (List D)} {Dn : Ends} (h : tS K W (mParEN i j ma mn) Dn σ H) : tPar i j (tCons (tE K W ma) (tCons (tN K W mn) tNil)) Dn σ H := by
  obtain ⟨c, F, ρ, ok, h⟩ := h
  refine ⟨c, F, ρ, ok, post_mono ?_ (postS_bind h)⟩
  rintro d1 H1 F1 _ ⟨ρ1, ok1, s1, h1⟩ v1 r1
  refine ⟨c, F1, ρ1, ok1, ?_⟩
  unfold mBind at h1
  cases e : mn ρ1 with
  | none => rw [e] at h1; exact h1.elim
  | some r =>
    rw [e] at h1
    cases r with
    | ex y ρ' => exact fun cls z H' F' ok s r => h1 σ cls z H' F' ok s r
    | ok out ρ2 =>
      intro p xs H' F' ok' hp s' rx
      refine ⟨v1, .ref p, rfl, ?_⟩
      have h2 : postS K W c F1 Dn (mBind (mStore i d1) (fun _ => mBind (mStoreO j out) fun _ => mDone) ρ2) := h1
      have h3 := postS_bindG h2
      unfold mStore at h3
      split at h3
      · rename_i hl
        have okA := ok'.setV hl (Dp.mono s' r1)
        have h4 : postS K W c F1 Dn (mBind (mStoreO j out) (fun _ => mDone) (ρ2.set i (.val d1))) := by
          unfold mBind mStore at h2
          simp only [if_pos hl] at h2
          exact h2
        have h5 := postS_bindG h4
        unfold mStoreO at h5
        split at h5
        · rename_i hl2
          obtain ⟨F4, ρ4, ok4, s4, h6⟩ := h5 _ H' F' (okA.ownP hp rx hl2) s'
          exact h6 _ _ _ ok4 (Same.refl F4)
        · exact h5.elim
      · exact h3.elim
theorem dParEN {mn : M (List D)} (hc : X.calm = true) (hN : X.N.Nodup) (hij : i ≠ j) (ha : PE X a (tE X.K W ma)) (hb : PE X b (tN X.K W mn)) (hi : X.N[i]? = some x := by rfl) (hj : X.N[j]? = some y := by rfl)
    (hx : X.env.scope.names.lookup x = some .local := by rfl) (hy : X.env.scope.names.lookup y = some .local := by rfl)
    (hw : swappedStores [.Tuple [.Name x px, .Name y py] kt pt] (.Tuple [a, b] k2 pt2) X.env = pure (some [x, y]) := by rfl)
    (hs : swapsWithSole [.Tuple [.Name x px, .Name y py] kt pt] (.Tuple [a, b] k2 pt2) pos.line X.env = pure false := by rfl)
    (hs1 : starEach [a, b] X.env = (false, eval a X.env) :: starEach [b] X.env := by rfl) (hs2 : starEach [b] X.env = (false, eval b X.env) :: starEach [] X.env := by rfl) :
    PS X (.Assign [.Tuple [.Name x px, .Name y py] kt pt] (.Tuple [a, b] k2 pt2) pos) (tS X.K W (mParEN i j ma mn)) :=
  PS.imp (ps_par hc hN hi hj hij hx hy (pa_cons ha (pa_cons hb pa_nil hs2) hs1) hw hs) fun _ _ _ => parEN_of
/-- a new list, written -/
theorem dLstN {es : List Expr} {ms : M (List D)} {pos : Pos} (h : PA X es (tA X.K W ms)) : PE X (.List es pos) (tN X.K W (mBind ms fun ds => mLift (if fit ds.length = true then some ds else none))) := PE.imp (pe_lst h) (by
  rintro σ H Q ⟨c, F, ρ, ok, h⟩
  refine ⟨c, F, ρ, ok, post_mono ?_ (postN_bind h)⟩
  rintro ds H1 F1 _ ⟨ρ1, ok1, s1, h1⟩ xs rx
  obtain ⟨d, e, h2⟩ := postN_lift h1
  split at e
  · rename_i hf
    cases e
    exact ⟨by rw [DpAll.length rx]; exact fit_le hf, fun p hp => new_N ok1 rx h2 p hp⟩
  · cases e)
end
/-! ### calls, in short -/
section
variable {X : Cx} {W : WX} {k n : Nat} {f : Addr} {fd : FuncData} {ps : List Str} {x : Str} {p pos : Pos} {e : Expr} {es : List Expr} {ms : M (List D)}
theorem dCallV {g : List D → Option (Rs D)} (F : FnOk X.prog X.w X.K X.mg X.base (L2.CX X.prog X.w) k f fd ps (spV X.K n g)) (hr : Room k X.A) (hm : X.mg x = some (.ref f)) (hk : PySem.W.keepIn X.K (.ref f) = true) (hb : Binds X.K fd ps []) (tk : Takes X W)
    (ha : PA X (e :: es) (tA X.K W ms)) (hg : Gl X x := by rfl) (hdb : (x == ("__debug__" : Str)) = false := by decide) (he : starEach (e :: es) X.env = (false, eval e X.env) :: starEach es X.env := by rfl) (hpl : (backTo pos (starEach es X.env)).any (·.1) = false := by rfl) :
    PE X (.Call (.Name x p) (e :: es) [] pos) (tE X.K W (mCallV n g ms)) := PE.imp (pe_callS F hr hg hm hk hb (fun σ => passAt tk σ) ha hdb he hpl) fun _ _ _ => callV_of
theorem dCallB {i : Nat} {g : List D → List D → Option (Rs D × List D)} (F : FnOk X.prog X.w X.K X.mg X.base (L2.CX X.prog X.w) k f fd ps (spB X.K n g)) (hr : Room k X.A) (hm : X.mg x = some (.ref f)) (hk : PySem.W.keepIn X.K (.ref f) = true) (hb : Binds X.K fd ps []) (tk : Takes X W)
    (h1 : PE X e (tVar i)) (ha : PA X es (tA X.K W ms)) (hg : Gl X x := by rfl) (hdb : (x == ("__debug__" : Str)) = false := by decide) (he : starEach (e :: es) X.env = (false, eval e X.env) :: starEach es X.env := by rfl) (hpl : (backTo pos (starEach es X.env)).any (·.1) = false := by rfl) :
    PE X (.Call (.Name x p) (e :: es) [] pos) (tE X.K W (mCallB i n g ms)) := PE.imp (pe_callS F hr hg hm hk hb (fun σ => passAt tk σ) (pa_cons h1 ha he) hdb he hpl) fun _ _ _ => callB_of
theorem dCallSt {i j : Nat} {y : Str} {pos' spos : Pos} {g : List Int → List D → Option (Rs (List D))} (F : FnOk X.prog X.w X.K X.mg X.base (L2.CX X.prog X.w) k f fd ps (spS X.K n g)) (hr : Room k X.A) (hm : X.mg x = some (.ref f)) (hk : PySem.W.keepIn X.K (.ref f) = true) (hb : Binds X.K fd ps []) (tk : Takes X W) (hN : X.N.Nodup)
    (h1 : PE X e (tVar j)) (ha : PA X es (tA X.K W ms)) (hg : Gl X x := by rfl) (hdb : (x == ("__debug__" : Str)) = false := by decide) (he : starEach (e :: es) X.env = (false, eval e X.env) :: starEach es X.env := by rfl) (hpl : (backTo pos (starEach es X.env)).any (·.1) = false := by rfl)
    (hi : X.N[i]? = some y := by rfl) (hx : Loc X.env.scope y := by first | exact Or.inl rfl | exact Or.inr rfl)
    (hs : swapsWith (.Call (.Name x p) (e :: es) [] pos) (some (.Name y pos')) spos.line X.env = pure false := by rfl)
    (hf : X.fn y = true ∨ X.env.scope.names.lookup y = some .local := by first | exact .inl rfl | exact .inr rfl) :
    PS X (.Assign [.Name y pos'] (.Call (.Name x p) (e :: es) [] pos) spos) (tS X.K W (mAsgS i j n g ms)) := PS.imp (ps_set hN hi hx (pe_callS F hr hg hm hk hb (fun σ => passAt tk σ) (pa_cons h1 ha he) hdb he hpl) hs hf) fun _ _ _ => asgS_of
end
theorem hCX0 {P : Program} {w : World} {H : Hp} {s : Shared} {e : Value} {s' : Shared} (h : L2.CX P w [] H s (fun _ _ _ => False) e s') : False := by
  obtain ⟨_, _, _, _, _, _, _, _, _, _, _, _, z⟩ := h
  exact z
theorem b_len : bootBuiltins "len" = some (.builtin "len") := by decide +kernel
theorem b_int : bootBuiltins "int" = some (.type "int") := by decide +kernel
theorem b_bool : bootBuiltins "bool" = some (.type "bool") := by decide +kernel
theorem b_str : bootBuiltins "str" = some (.type "str") := by decide +kernel
theorem b_tuple : bootBuiltins "tuple" = some (.type "tuple") := by decide +kernel
theorem b_list : bootBuiltins "list" = some (.type "list") := by decide +kernel
theorem b_dict : bootBuiltins "dict" = some (.type "dict") := by decide +kernel
theorem b_sum : bootBuiltins "sum" = some (.builtin "sum") := by decide +kernel
theorem b_all : bootBuiltins "all" = some (.builtin "all") := by decide +kernel
theorem b_any : bootBuiltins "any" = some (.builtin "any") := by decide +kernel
theorem b_min : bootBuiltins "min" = some (.builtin "min") := by decide +kernel
theorem b_max : bootBuiltins "max" = some (.builtin "max") := by decide +kernel
theorem b_repr : bootBuiltins "repr" = some (.builtin "repr") := by decide +kernel
theorem b_sorted : bootBuiltins "sorted" = some (.builtin "sorted") := by decide +kernel
theorem i_int : isiOk "int" = true := by decide +kernel
theorem i_bool : isiOk "bool" = true := by decide +kernel
theorem i_str : isiOk "str" = true := by decide +kernel
theorem i_tuple : isiOk "tuple" = true := by decide +kernel
theorem i_list : isiOk "list" = true := by decide +kernel
theorem i_dict : isiOk "dict" = true := by decide +kernel
end Dd

namespace Dd
open PySem PySem.Spec L2
def gsNil : List D → M Unit
  | [] => mPure ()
  | _ => mStuck
def mLstN (ms : M (List D)) : M (List D) := mBind ms fun ds => mLift (if fit ds.length = true then some ds else none)
section
variable {X : Cx} {W : WX} {K : PySem.W.Frag}
theorem dgsNil2 : PGs X [] (tGs X.K W gsNil) := PGs.imp pgs_nil (by
  rintro vs σ H Q ⟨c, F, ρ, ds, ok, r, h⟩
  cases r with
  | nil => exact ⟨rfl, h σ H F ok (Same.refl F)⟩
  | cons _ _ => exact h.elim)
def insD : List D → List D → Option (List D × D)
  | ds, [.int i, d] => if (fit ds.length && decide (0 ≤ i) && decide (i.natAbs < 9223372036854775808)) = true then some (ds.take i.toNat ++ [d] ++ ds.drop i.toNat, .none) else none
  | _, _ => none
def rIns : V → List V → Hp → VK → Prop := fun x vs H Q => ∃ (l : Addr) (xs : List V) (i : Int) (y : V), x = .ref l ∧ vs = [.int i, y] ∧ H l = some (.lst xs) ∧ xs.length < sizeLine ∧ 0 ≤ i ∧ i < 2 ^ 63 ∧ Q .non (upd H l (.lst (xs.take i.toNat ++ [y] ++ xs.drop i.toNat)))
theorem mut_ins : MutD K rIns insD := by
  intro H F l xs vs ds as ds' d Q s hF hl hx hv e k
  unfold insD at e
  split at e
  · rename_i i y
    split at e
    · rename_i hb
      cases e
      simp only [Bool.and_eq_true] at hb
      cases hv with
      | cons h t =>
        cases t with
        | cons h' t' =>
          cases t'
          cases h
          exact ⟨l, xs, i, _, rfl, rfl, hl, by rw [DpAll.length hx]; exact fit_lt hb.1.1, of_decide_eq_true hb.1.2, by have := of_decide_eq_true hb.2; omega, k _ _ (DpAll.append (DpAll.append (DpAll.take _ hx) (.one h')) (DpAll.drop _ hx)) .non⟩
    · cases e
  · cases e
theorem opD_addI : OpD K (rI0 fun i j => .int (i + j)) (iI fun i j => .int (i + j)) := opD_I fun _ _ _ => .int _
end
end Dd

namespace Dd
open PySem PySem.Spec L2
/-! ### a def by its body, its scope and its statements spelled out -/
section
variable {P : Program} {w : World} {K : PySem.W.Frag} {mg : Str → Option Value} {base : Heap} {x qual : Str} {st : Stmt} {f : Addr} {fd : FuncData} {N ps : List Str} {k : Nat} {m : M Fl} {sc : Scope} {bd : List Stmt}
abbrev BodyL (P : Program) (w : World) (K : PySem.W.Frag) (mg : Str → Option Value) (base : Heap) (qual : Str) (sc : Scope) (bd : List Stmt) (f : Addr) (N : List Str) (k : Nat) (m : M Fl) : Prop :=
  ∀ (cdv : Value) (A : Around) (outer : List Env) (s : Shared) (H : Hp) (E : XK), Room k (A.deeper (PyProof.Rows.envOfC qual sc s.heap.objs.size f cdv)) →
    PSs (cxOf (L2.CX P w) P w K mg base N qual sc f cdv A outer s H E) bd (tS K (fun cls d _ H => E cls d H) m)
theorem okV2 (Fn : Fun K x qual st f fd) (S : FnScope N ps (defScope st)) (h1 : defScope st = sc) (h2 : defBody st = bd) (hb : BodyL P w K mg base qual sc bd f N k m) : FnOk P w K mg base (L2.CX P w) (k + 1) f fd ps (spV K ps.length (runV m N.length)) := by
  subst h1 h2
  exact okV Fn S hb
theorem okF2 (Fn : Fun K x qual st f fd) (S : FnScope N ps (defScope st)) (h1 : defScope st = sc) (h2 : defBody st = bd) (hb : BodyL P w K mg base qual sc bd f N k m) : FnOk P w K mg base (L2.CX P w) (k + 1) f fd ps (spF K ps.length (runF m N.length)) := by
  subst h1 h2
  exact okF Fn S hb
theorem okB2 (Fn : Fun K x qual st f fd) (S : FnScope N ps (defScope st)) (h1 : defScope st = sc) (h2 : defBody st = bd) (hb : BodyL P w K mg base qual sc bd f N k m) : FnOk P w K mg base (L2.CX P w) (k + 1) f fd ps (spB K ps.length (runB m N.length)) := by
  subst h1 h2
  exact okB Fn S hb
theorem okS2 (Fn : Fun K x qual st f fd) (S : FnScope N ps (defScope st)) (h1 : defScope st = sc) (h2 : defBody st = bd) (hb : BodyL P w K mg base qual sc bd f N k m) : FnOk P w K mg base (L2.CX P w) (k + 1) f fd ps (spS K ps.length (runS m N.length)) := by
  subst h1 h2
  exact okS Fn S hb
theorem okL2 (Fn : Fun K x qual st f fd) (hps : ps.length = 1) (S : FnScope N ps (defScope st)) (h1 : defScope st = sc) (h2 : defBody st = bd) (hb : BodyL P w K mg base qual sc bd f N k m) : FnOk P w K mg base (L2.CX P w) (k + 1) f fd ps (spL K (runL m N.length)) := by
  subst h1 h2
  exact okL Fn hps S hb
end
end Dd

namespace Dd
open PySem PySem.Spec L2
/-! ### reasoning about runs -/
theorem bind_is {α β : Type} {m : M α} {f : α → M β} {ρ ρ' : En} {a : α} (h : m ρ = some (.ok a ρ')) : mBind m f ρ = f a ρ' := by
  unfold mBind; rw [h]
theorem seq_nx {m1 m2 : M Fl} {ρ ρ' : En} (h : m1 ρ = some (.ok .nx ρ')) : mSeq m1 m2 ρ = m2 ρ' := bind_is h
/-- a loop by an invariant over its turns; no turn leaves it -/
theorem forL_ix {g : D → M Unit} {body : M Fl} (P : Nat → En → Prop) : ∀ (ds : List D) (i : Nat) (ρ : En), P i ρ →
    (∀ j d ρ, ds[j]? = some d → P (i + j) ρ → ∃ ρ1 ρ2, g d ρ = some (.ok () ρ1) ∧ (body ρ1 = some (.ok .nx ρ2) ∨ body ρ1 = some (.ok .ct ρ2)) ∧ P (i + j + 1) ρ2) →
    ∃ ρ', mForL g body ds ρ = some (.ok .nx ρ') ∧ P (i + ds.length) ρ'
  | [], i, ρ, p, _ => ⟨ρ, rfl, p⟩
  | d :: ds, i, ρ, p, h => by
    obtain ⟨ρ1, ρ2, e1, e2, p2⟩ := h 0 d ρ rfl p
    obtain ⟨ρ', e3, p3⟩ := forL_ix P ds (i + 1) ρ2 p2 fun j d' ρ' e q => by
      obtain ⟨a, b, c1, c2, c3⟩ := h (j + 1) d' ρ' (by simpa using e) (by rw [show i + (j + 1) = i + 1 + j from by omega]; exact q)
      exact ⟨a, b, c1, c2, by rw [show i + 1 + j + 1 = i + (j + 1) + 1 from by omega]; exact c3⟩
    refine ⟨ρ', ?_, by rw [List.length_cons, show i + (ds.length + 1) = i + 1 + ds.length from by omega]; exact p3⟩
    unfold mForL
    rw [bind_is e1]
    rcases e2 with e2 | e2 <;> (rw [bind_is e2]; exact e3)
theorem forL_inv {g : D → M Unit} {body : M Fl} (P : En → Prop) (ds : List D) (ρ : En) (p : P ρ)
    (h : ∀ d ρ, d ∈ ds → P ρ → ∃ ρ1 ρ2, g d ρ = some (.ok () ρ1) ∧ (body ρ1 = some (.ok .nx ρ2) ∨ body ρ1 = some (.ok .ct ρ2)) ∧ P ρ2) :
    ∃ ρ', mForL g body ds ρ = some (.ok .nx ρ') ∧ P ρ' := by
  obtain ⟨ρ', e, q⟩ := forL_ix (fun _ => P) ds 0 ρ p fun j d ρ e q => h d ρ (List.mem_of_getElem? e) q
  exact ⟨ρ', e, q⟩
/-- a comprehension whose turns leave the slots as they were -/
theorem go_filter {vs : List Nat} {g : D → M Unit} {tt : M Bool} {te : M D} {ρ : En} {p : D → Bool} {f : D → D} : ∀ (ds : List D),
    (∀ d ∈ ds, ∃ ρ1 ρ2, g d ρ = some (.ok () ρ1) ∧ tt ρ1 = some (.ok (p d) ρ2) ∧ (p d = true → ∃ ρ3, te ρ2 = some (.ok (f d) ρ3) ∧ unsE ρ3 vs = ρ) ∧ (p d = false → unsE ρ2 vs = ρ)) →
    mGo vs g tt te ds ρ = some (.ok ((ds.filter p).map f) ρ)
  | [], _ => rfl
  | d :: ds, h => by
    obtain ⟨ρ1, ρ2, e1, e2, h3, h4⟩ := h d List.mem_cons_self
    have ih := go_filter (vs := vs) (g := g) (tt := tt) (te := te) ds fun d' h' => h d' (List.mem_cons_of_mem _ h')
    unfold mGo
    rw [bind_is e1, bind_is e2]
    cases q : p d with
    | true =>
      obtain ⟨ρ3, e3, e4⟩ := h3 q
      rw [if_pos rfl]
      have e5 : (mBind te fun y => mPure [y]) ρ2 = some (.ok [f d] ρ3) := by rw [bind_is e3]; rfl
      rw [bind_is e5]
      have e6 : mUn_ vs ρ3 = some (.ok () ρ) := by unfold mUn_; rw [e4]
      rw [bind_is e6, bind_is ih, List.filter_cons_of_pos q]; rfl
    | false =>
      rw [if_neg (by decide)]
      have e5 : (mPure ([] : List D)) ρ2 = some (.ok [] ρ2) := rfl
      rw [bind_is e5]
      have e6 : mUn_ vs ρ2 = some (.ok () ρ) := by unfold mUn_; rw [h4 q]
      rw [bind_is e6, bind_is ih, List.filter_cons_of_neg (by rw [q]; decide)]; rfl
theorem go_map {vs : List Nat} {g : D → M Unit} {te : M D} {ρ : En} {f : D → D} (ds : List D)
    (h : ∀ d ∈ ds, ∃ ρ1 ρ3, g d ρ = some (.ok () ρ1) ∧ te ρ1 = some (.ok (f d) ρ3) ∧ unsE ρ3 vs = ρ) :
    mGo vs g (mPure true) te ds ρ = some (.ok (ds.map f) ρ) := by
  have q := go_filter (vs := vs) (g := g) (tt := mPure true) (te := te) (ρ := ρ) (p := fun _ => true) (f := f) ds fun d hd => by
    obtain ⟨ρ1, ρ3, e1, e2, e3⟩ := h d hd
    exact ⟨ρ1, ρ1, e1, rfl, fun _ => ⟨ρ3, e2, e3⟩, fun z => by cases z⟩
  rw [q, List.filter_eq_self.mpr (fun _ _ => rfl)]
theorem comp_is {vs : List Nat} {mi : M (List D)} {g : D → M Unit} {tt : M Bool} {te : M D} {ρ ρ1 ρe : En} {ds out : List D} (h1 : mi ρ = some (.ok ds ρ1)) (h2 : fit ds.length = true) (h3 : mGo vs g tt te ds (unsE ρ1 vs) = some (.ok out ρe)) :
    mComp vs mi g tt te ρ = some (.ok out (unsE ρe vs)) := by
  unfold mComp
  rw [bind_is h1]
  unfold mRest
  rw [h3]
  simp only [if_pos h2]
theorem atI_nat' {α : Type} {xs : List α} {i : Int} {v : α} (h0 : 0 ≤ i) (h : xs[i.toNat]? = some v) : atI xs i = some v := by
  have := atI_nat h
  rwa [Int.toNat_of_nonneg h0] at this
theorem rngL_mem {lo hi : Int} {d : D} (h : d ∈ rngL lo hi) : ∃ i : Int, d = .int i ∧ lo ≤ i ∧ i < hi := by
  obtain ⟨i, e⟩ := List.getElem?_of_mem h
  obtain ⟨e1, e2⟩ := rngL_get e
  exact ⟨_, e1, by omega, by omega⟩
def isiS (T t : String) : Bool := match kitB t T with
  | some b => b
  | none => false
theorem isiT_eq {T : String} {d : D} : isiT T d = isiS T (typD d) := rfl
theorem isi_int_NoneType : isiS "int" "NoneType" = false := by decide +kernel
theorem isi_int_bool : isiS "int" "bool" = true := by decide +kernel
theorem isi_int_int : isiS "int" "int" = true := by decide +kernel
theorem isi_int_str : isiS "int" "str" = false := by decide +kernel
theorem isi_int_list : isiS "int" "list" = false := by decide +kernel
theorem isi_int_tuple : isiS "int" "tuple" = false := by decide +kernel
theorem isi_int_dict : isiS "int" "dict" = false := by decide +kernel
theorem isi_bool_NoneType : isiS "bool" "NoneType" = false := by decide +kernel
theorem isi_bool_bool : isiS "bool" "bool" = true := by decide +kernel
theorem isi_bool_int : isiS "bool" "int" = false := by decide +kernel
theorem isi_bool_str : isiS "bool" "str" = false := by decide +kernel
theorem isi_bool_list : isiS "bool" "list" = false := by decide +kernel
theorem isi_bool_tuple : isiS "bool" "tuple" = false := by decide +kernel
theorem isi_bool_dict : isiS "bool" "dict" = false := by decide +kernel
theorem isi_str_NoneType : isiS "str" "NoneType" = false := by decide +kernel
theorem isi_str_bool : isiS "str" "bool" = false := by decide +kernel
theorem isi_str_int : isiS "str" "int" = false := by decide +kernel
theorem isi_str_str : isiS "str" "str" = true := by decide +kernel
theorem isi_str_list : isiS "str" "list" = false := by decide +kernel
theorem isi_str_tuple : isiS "str" "tuple" = false := by decide +kernel
theorem isi_str_dict : isiS "str" "dict" = false := by decide +kernel
theorem isi_list_NoneType : isiS "list" "NoneType" = false := by decide +kernel
theorem isi_list_bool : isiS "list" "bool" = false := by decide +kernel
theorem isi_list_int : isiS "list" "int" = false := by decide +kernel
theorem isi_list_str : isiS "list" "str" = false := by decide +kernel
theorem isi_list_list : isiS "list" "list" = true := by decide +kernel
theorem isi_list_tuple : isiS "list" "tuple" = false := by decide +kernel
theorem isi_list_dict : isiS "list" "dict" = false := by decide +kernel
theorem isi_tuple_NoneType : isiS "tuple" "NoneType" = false := by decide +kernel
theorem isi_tuple_bool : isiS "tuple" "bool" = false := by decide +kernel
theorem isi_tuple_int : isiS "tuple" "int" = false := by decide +kernel
theorem isi_tuple_str : isiS "tuple" "str" = false := by decide +kernel
theorem isi_tuple_list : isiS "tuple" "list" = false := by decide +kernel
theorem isi_tuple_tuple : isiS "tuple" "tuple" = true := by decide +kernel
theorem isi_tuple_dict : isiS "tuple" "dict" = false := by decide +kernel
theorem isi_dict_NoneType : isiS "dict" "NoneType" = false := by decide +kernel
theorem isi_dict_bool : isiS "dict" "bool" = false := by decide +kernel
theorem isi_dict_int : isiS "dict" "int" = false := by decide +kernel
theorem isi_dict_str : isiS "dict" "str" = false := by decide +kernel
theorem isi_dict_list : isiS "dict" "list" = false := by decide +kernel
theorem isi_dict_tuple : isiS "dict" "tuple" = false := by decide +kernel
theorem isi_dict_dict : isiS "dict" "dict" = true := by decide +kernel
theorem toBools_mapf {α : Type} (p : α → Bool) : ∀ (ds : List α), toBools (ds.map fun x => PyData.bool (p x)) = some (ds.map p)
  | [] => rfl
  | d :: ds => by
    show (toBools (ds.map fun x => PyData.bool (p x))).map (p d :: ·) = _
    rw [toBools_mapf p ds]; rfl
theorem allD_mapf {α : Type} (p : α → Bool) (ds : List α) : allD [.list (ds.map fun x => PyData.bool (p x))] = some (.bool (ds.all p)) := by
  show (toBools (ds.map fun x => PyData.bool (p x))).map _ = _
  rw [toBools_mapf]
  show some (PyData.bool ((ds.map p).all id)) = _
  rw [List.all_map]; rfl
theorem anyD_mapf {α : Type} (p : α → Bool) (ds : List α) : anyD [.list (ds.map fun x => PyData.bool (p x))] = some (.bool (ds.any p)) := by
  show (toBools (ds.map fun x => PyData.bool (p x))).map _ = _
  rw [toBools_mapf]
  show some (PyData.bool ((ds.map p).any id)) = _
  rw [List.any_map]; rfl
theorem sh_int (i : Int) : SeqAt.shaped (.int i) = true := by simp [SeqAt.shaped, PyData.canLay0, PyData.depth]
theorem sh_bool (i : Bool) : SeqAt.shaped (.bool i) = true := by simp [SeqAt.shaped, PyData.canLay0, PyData.depth]
theorem sh_none : SeqAt.shaped .none = true := by simp [SeqAt.shaped, PyData.canLay0, PyData.depth]
theorem eq_int (i j : Int) : eqD (.int i) (.int j) = some (.bool (decide (i = j))) := by
  have e : PyData.eqv (.int i) (.int j) = decide (i = j) := by
    simp only [PyData.eqv]
    by_cases h : i = j <;> simp [h]
  simp [eqD, sh_int, e]
theorem ne_int (i j : Int) : neD (.int i) (.int j) = some (.bool (!decide (i = j))) := by
  have e : PyData.eqv (.int i) (.int j) = decide (i = j) := by
    simp only [PyData.eqv]
    by_cases h : i = j <;> simp [h]
  simp [neD, sh_int, e]
/-- data whose lists go at most n deep, all texts laid -/
def Sh (n : Nat) (d : D) : Prop := d.canLay0 = true ∧ d.depth ≤ n
theorem Sh.shaped {n : Nat} {d : D} (h : Sh n d) (hn : n ≤ 64) : SeqAt.shaped d = true := by
  simp only [SeqAt.shaped, Bool.and_eq_true, decide_eq_true_eq]
  exact ⟨h.1, by have := h.2; omega⟩
theorem Sh.mono {n m : Nat} {d : D} (h : Sh n d) (hn : n ≤ m) : Sh m d := ⟨h.1, Nat.le_trans h.2 hn⟩
theorem Sh.int (i : Int) : Sh 0 (.int i) := ⟨by simp [PyData.canLay0], by simp [PyData.depth]⟩
theorem Sh.bool (i : Bool) : Sh 0 (.bool i) := ⟨by simp [PyData.canLay0], by simp [PyData.depth]⟩
theorem Sh.none : Sh 0 .none := ⟨by simp [PyData.canLay0], by simp [PyData.depth]⟩
theorem sh_all {n : Nat} : ∀ {ds : List D}, (∀ d ∈ ds, Sh n d) → PyData.canLayAll0 ds = true ∧ PyData.depthAll ds ≤ n
  | [], _ => ⟨by simp [PyData.canLayAll0], by simp [PyData.depthAll]⟩
  | d :: ds, h => by
    obtain ⟨a, b⟩ := h d List.mem_cons_self
    obtain ⟨a', b'⟩ := sh_all (ds := ds) fun x hx => h x (List.mem_cons_of_mem _ hx)
    refine ⟨by simp only [PyData.canLayAll0, a, a', Bool.and_self], ?_⟩
    simp only [PyData.depthAll]
    omega
theorem Sh.list {n : Nat} {ds : List D} (h : ∀ d ∈ ds, Sh n d) : Sh (n + 1) (.list ds) := by
  obtain ⟨a, b⟩ := sh_all h
  exact ⟨by simp only [PyData.canLay0, a], by simp only [PyData.depth]; omega⟩
theorem Sh.tuple {n : Nat} {ds : List D} (h : ∀ d ∈ ds, Sh n d) : Sh (n + 1) (.tuple ds) := by
  obtain ⟨a, b⟩ := sh_all h
  exact ⟨by simp only [PyData.canLay0, a], by simp only [PyData.depth]; omega⟩
theorem Sh.ints (ns : List Int) : Sh 1 (.list (ns.map PyData.int)) := Sh.list fun d hd => by
  obtain ⟨i, _, rfl⟩ := List.mem_map.mp hd
  exact Sh.int i
theorem eq_sh {n m : Nat} {a b : D} (ha : Sh n a) (hb : Sh m b) (hn : n ≤ 64) (hm : m ≤ 64) : eqD a b = some (.bool (PyData.eqv a b)) := by
  simp [eqD, ha.shaped hn, hb.shaped hm]
theorem ne_sh {n m : Nat} {a b : D} (ha : Sh n a) (hb : Sh m b) (hn : n ≤ 64) (hm : m ≤ 64) : neD a b = some (.bool (!PyData.eqv a b)) := by
  simp [neD, ha.shaped hn, hb.shaped hm]
theorem eqvAll_refl : ∀ (ds : List D), (∀ d ∈ ds, PyData.eqv d d = true) → PyData.eqvAll ds ds = true
  | [], _ => by simp [PyData.eqvAll]
  | d :: ds, h => by
    simp only [PyData.eqvAll, Bool.and_eq_true]
    exact ⟨h d List.mem_cons_self, eqvAll_refl ds fun x hx => h x (List.mem_cons_of_mem _ hx)⟩
/-- repr of truths -/
def reprB (b : Bool) : D := .str (if b then "True" else "False")
theorem repr_bool (b : Bool) : reprD [.bool b] = some (reprB b) := rfl
theorem ne_reprB (a b : Bool) : neD (reprB a) (reprB b) = some (.bool (!decide (a = b))) := by
  have h1 : ∀ b, SeqAt.shaped (reprB b) = true := fun b => by cases b <;> decide +kernel
  have h2 : PyData.eqv (reprB a) (reprB b) = decide (a = b) := by cases a <;> cases b <;> decide +kernel
  simp [neD, h1, h2]
theorem rng2_is {ms : M (List D)} {ρ ρ1 : En} {i j : Int} (h : ms ρ = some (.ok [.int i, .int j] ρ1)) (hi : rngOk i = true) (hj : rngOk j = true) : mRng2 ms ρ = some (.ok (rngL i j) ρ1) := by
  unfold mRng2
  rw [bind_is h]
  have e : rngD2 [.int i, .int j] = some (rngL i j) := by
    show (if (rngOk i && rngOk j) = true then some (rngL i j) else none) = _
    rw [hi, hj]; rfl
  rw [e]; rfl
theorem rng1_is {ms : M (List D)} {ρ ρ1 : En} {j : Int} (h : ms ρ = some (.ok [.int j] ρ1)) (hj : rngOk j = true) : mRng1 ms ρ = some (.ok (rngL 0 j) ρ1) := by
  unfold mRng1
  rw [bind_is h]
  have e : rngD1 [.int j] = some (rngL 0 j) := by
    show (if rngOk j = true then some (rngL 0 j) else none) = _
    rw [hj]; rfl
  rw [e]; rfl
theorem rngOk_le {i : Int} (h0 : -1000000000000 ≤ i) (h1 : i ≤ 1000000000000) : rngOk i = true := by
  unfold rngOk
  exact decide_eq_true (by omega)
end Dd

namespace Dd
open PySem PySem.Spec L2
section
variable {X : Cx} {W : WX} {K : PySem.W.Frag}
/-! ### isinstance by several types -/
inductive TyNs (X : Cx) : List Expr → List String → Prop
  | nil : TyNs X [] []
  | cons {tn : Str} {T : String} {q : Pos} {es : List Expr} {Ts : List String} (h : PE X (.Name tn q) (tC (.ty T))) (hT : isiOk T = true) (r : TyNs X es Ts) (hs : starEach (.Name tn q :: es) X.env = (false, eval (.Name tn q) X.env) :: starEach es X.env) : TyNs X (.Name tn q :: es) (T :: Ts)
theorem tys {tn : Str} {T : String} {q : Pos} {es : List Expr} {Ts : List String} (hmT : X.mg tn = none) (hT : isiOk T = true) (hv : bootBuiltins tn = some (.type T)) (r : TyNs X es Ts) (hgT : Gl X tn := by rfl)
    (hn : tn ≠ "__name__" := by decide) (hdb : (tn == ("__debug__" : Str)) = false := by decide) (hs : starEach (.Name tn q :: es) X.env = (false, eval (.Name tn q) X.env) :: starEach es X.env := by rfl) : TyNs X (.Name tn q :: es) (T :: Ts) :=
  .cons (pe_bltn hgT hmT hv (hn := hn) (hd := hdb) (r := (show RelV (V.ty T) (Value.type T) from rfl))) hT r hs
def tTys (Ts : List String) : TA := fun _ H Q => Q (Ts.map V.ty) H
theorem pa_tys : ∀ {es : List Expr} {Ts : List String}, TyNs X es Ts → PA X es (tTys Ts)
  | _, _, .nil => pa_nil
  | _, _, .cons h _ r hs => pa_cons h (pa_tys r) hs
theorem tys_ok : ∀ {es : List Expr} {Ts : List String}, TyNs X es Ts → ∀ T ∈ Ts, isiOk T = true
  | _, _, .nil, T, h => by cases h
  | _, _, .cons _ hT r _, T, h => by
    rcases List.mem_cons.mp h with rfl | h
    · exact hT
    · exact tys_ok r T h
theorem tys_pair : ∀ Ts : List String, Paired ClsV (Ts.map V.ty) (Ts.map Value.type)
  | [] => .nil
  | T :: Ts => .cons (.ty T) (tys_pair Ts)
def isiA (Ts : List String) (d : D) : Bool := Ts.any fun T => isiT T d
theorem isiA_kit : ∀ {Ts : List String}, (∀ T ∈ Ts, isiOk T = true) → ∀ d : D, PySem.W.kitAny K (.type (typD d)) (Ts.map Value.type) = some (isiA Ts d)
  | [], _, d => kitAny_nil
  | T :: Ts, h, d => by
    refine kitAny_cons (isi_kit (h T List.mem_cons_self) d) (fun e => ?_) fun e => ?_
    · rw [isiA_kit (fun T' h' => h T' (List.mem_cons_of_mem _ h')) d]
      show some (Ts.any fun T => isiT T d) = some ((T :: Ts).any fun T => isiT T d)
      rw [List.any_cons, e, Bool.false_or]
    · show ((T :: Ts).any fun T => isiT T d) = true
      rw [List.any_cons, e, Bool.true_or]
theorem pk_alloc {c : Ct} {σ : St} {H F : Hp} {ρ : En} {x : V} {d : D} {p : Addr} {o : HO} (ok : Ok K c σ H F ρ) (h : H p = none) (r : Pk K H F x d) : Pk K (upd H p o) (upd F p o) x d := by
  have s : Same F (upd F p o) := Same.updN (ok.new h).1
  rcases r with r | ⟨q, vs, ds, rfl, rfl, hq, r⟩
  · exact .inl (Dp.mono s r)
  · exact .inr ⟨q, vs, ds, rfl, rfl, Same.updN h _ _ hq, DpAll.mono s r⟩
def mIsiA (Ts : List String) (m : M D) : M D := mBind m fun d => mPure (.bool (isiA Ts d))
variable {a : Expr} {m : M D} {p pos tpos : Pos} {es : List Expr} {Ts : List String} {k : Nat}
theorem dIsiA (hm : X.mg "isinstance" = none) (ht : TyNs X es Ts) (ha : PE X a (tP X.K W m)) (hl : Ts.length ≤ 100 := by decide) (hg : Gl X "isinstance" := by rfl)
    (hs : starEach [a, .Tuple es k tpos] X.env = (false, eval a X.env) :: starEach [.Tuple es k tpos] X.env := by rfl) (hs2 : starEach [.Tuple es k tpos] X.env = (false, eval (.Tuple es k tpos) X.env) :: starEach [] X.env := by rfl) (hpl : (backTo pos (starEach [.Tuple es k tpos] X.env)).any (·.1) = false := by rfl)
    (hbi : bootBuiltins "isinstance" = some (.builtin "isinstance") := by decide +kernel) : PE X (.Call (.Name "isinstance" p) [a, .Tuple es k tpos] [] pos) (tE X.K W (mIsiA Ts m)) :=
  PE.imp (pe_callB call_isiT hg hm hbi (pa_cons ha (pa_cons (pe_tup (pa_tys ht)) pa_nil hs2) hs) (by decide) (by decide) hs hpl) (by
  rintro σ H Q ⟨c, F, ρ, ok, h⟩
  refine ⟨c, F, ρ, ok, post_mono ?_ (post_bind h)⟩
  rintro d H1 F1 _ ⟨ρ1, ok1, s1, h1⟩ v rv
  show (Ts.map V.ty).length ≤ sizeLine ∧ ∀ q, H1 q = none → rIsiT X.K [v, .ref q] (upd H1 q (.tup (Ts.map V.ty))) Q
  refine ⟨by rw [List.length_map, sizeLine_eq]; omega, fun q hq => ?_⟩
  have ok2 := ok1.alloc (o := .tup (Ts.map V.ty)) hq
  exact ⟨v, q, _, _, _, _, rfl, upd_same, tys_pair Ts, typ_of ok2 (pk_alloc ok1 hq rv), isiA_kit (tys_ok ht) d, h1 _ _ ok2 (Same.updN (ok1.new hq).1) _ (.bl _)⟩)
end
/-! ### a def that calls itself -/
section
variable {P : Program} {w : World} {K : PySem.W.Frag} {mg : Str → Option Value} {base : Heap} {j n : Nat} {f : Addr} {fd : FuncData} {ps : List Str}
theorem okV0 {g : List D → Option (Rs D)} (hg : ∀ ds, g ds = none) : FnOk P w K mg base (L2.CX P w) j f fd ps (spV K n g) := by
  have no : ∀ vs H Q E, ¬ spV K n g vs H Q E := fun vs H Q E h => by
    obtain ⟨F, ds, _, _, _, h⟩ := h
    simp only [hg] at h
  exact ⟨fun vs H Q E h => absurd h (no _ _ _ _), fun A outer s H args us vs Q E _ _ _ _ h => absurd h (no _ _ _ _)⟩
end
end Dd

namespace Dd
open PySem PySem.Spec L2
/-! ### sorted: lists of pairs of ints -/
def leP (p q : Int × Int) : Bool := !SrtO.lexB q p
theorem leP_iff {p q : Int × Int} : leP p q = true ↔ p.1 < q.1 ∨ (p.1 = q.1 ∧ p.2 ≤ q.2) := by
  unfold leP
  rw [Bool.not_eq_true', SrtO.lexB_no]
  omega
/-- sorted(xs), xs a list whose members stand for pairs of ints by R -/
def rSortDP (K : PySem.W.Frag) : List V → Hp → VK → Prop := fun vs H Q => ∃ (R : V → Int × Int → Prop) (a : Addr) (xs : List V) (ps : List (Int × Int)), vs = [V.ref a] ∧ SqL K H a xs ∧ Paired R xs ps ∧ (∀ x p, R x p → ∃ t, x = V.ref t ∧ SqT K H t [.int p.1, .int p.2]) ∧
  ∀ ys qs l, Paired R ys qs → qs.Perm ps → qs.Pairwise (fun p q => leP p q = true) → H l = none → Q (.ref l) (upd H l (.lst ys))
theorem isPair_inj {h : Heap} {v : Value} {a b c d : Int} (p : Srt.IsPair h v a b) (q : Srt.IsPair h v c d) : a = c ∧ b = d := by
  obtain ⟨t, o, t1, t2, n, e, ho, hc, hd⟩ := p
  obtain ⟨t', o', t1', t2', n', e', ho', hc', hd'⟩ := q
  subst e
  cases e'
  rw [ho] at ho'
  cases ho'
  rw [hd] at hd'
  injection hd' with h1 _
  injection h1 with h1
  injection h1 with h2 h3
  injection h3 with h3 _
  injection h2 with h2 _
  injection h3 with h3 _
  exact ⟨h2, h3⟩
open Classical in
noncomputable def pairOf (h : Heap) (u : Value) : Int × Int := if e : ∃ p : Int × Int, Srt.IsPair h u p.1 p.2 then Classical.choose e else (0, 0)
theorem pairOf_is {h : Heap} {u : Value} {p : Int × Int} (e : Srt.IsPair h u p.1 p.2) : pairOf h u = p := by
  have e' : ∃ p : Int × Int, Srt.IsPair h u p.1 p.2 := ⟨p, e⟩
  unfold pairOf
  rw [dif_pos e']
  obtain ⟨a, b⟩ := isPair_inj (Classical.choose_spec e') e
  exact Prod.ext a b
theorem paired_left {α β : Type} {R : α → β → Prop} : ∀ {xs : List α} {ps : List β}, Paired R xs ps → ∀ x ∈ xs, ∃ p, R x p
  | _, _, .nil, x, h => by cases h
  | _, _, .cons r t, x, h => by
    rcases List.mem_cons.mp h with rfl | h
    · exact ⟨_, r⟩
    · exact paired_left t x h
theorem paired_map {α β γ : Type} {R : α → β → Prop} {f : γ → α} {g : γ → β} : ∀ {us : List γ}, (∀ u ∈ us, R (f u) (g u)) → Paired R (us.map f) (us.map g)
  | [], _ => .nil
  | u :: us, h => .cons (h u List.mem_cons_self) (paired_map fun v hv => h v (List.mem_cons_of_mem _ hv))
theorem paired_fn {α β γ : Type} {R : α → β → Prop} {f : γ → α} {g : γ → β} : ∀ {us : List γ} {ps : List β}, Paired R (us.map f) ps → (∀ u ∈ us, ∀ p, R (f u) p → g u = p) → ps = us.map g
  | [], _, .nil, _ => rfl
  | u :: us, _, .cons r t, h => by
    rw [List.map_cons, h u List.mem_cons_self _ r, paired_fn t fun v hv => h v (List.mem_cons_of_mem _ hv)]
section
variable {X : Cx} {K : PySem.W.Frag}
theorem cr_sortDP : CallR X (.builtin "sorted") (rSortDP X.K) := by
  intro pins s σ H vs us Q I r h
  obtain ⟨R, a, xs, ps, rfl, hs, hx, hR, q⟩ := h
  obtain ⟨its, rv, hl, hz⟩ := I.list hs
  obtain ⟨u, rfl, ru⟩ := vals1 r
  obtain rfl : u = Value.ref a := ru
  obtain ⟨e1, e2⟩ := refs_back rv fun x m => by
    obtain ⟨p, hp⟩ := paired_left hx x m
    obtain ⟨t, e, _⟩ := hR x p hp
    exact ⟨t, e⟩
  have isP : ∀ v ∈ its, ∀ p, R (backV v) p → Srt.IsPair s.heap v p.1 p.2 := fun v hv p hp => by
    obtain ⟨t, rfl⟩ := e2 v hv
    obtain ⟨t', e, hT⟩ := hR _ p hp
    cases e
    obtain ⟨its2, r2, ⟨o, ho, hc, n, hd⟩, _⟩ := I.tuple hT
    obtain ⟨u1, u2, rfl, ri, rj⟩ := vals2 r2
    obtain ⟨t1, rfl⟩ := ri
    obtain ⟨t2, rfl⟩ := rj
    exact ⟨t, o, t1, t2, n, rfl, ho, hc, hd⟩
  have hk : ∀ v ∈ its, ∀ p, R (backV v) p → pairOf s.heap v = p := fun v hv p hp => pairOf_is (isP v hv p hp)
  have hg : ∀ v ∈ its, R (backV v) (pairOf s.heap v) := fun v hv => by
    have hm : backV v ∈ xs := by rw [e1]; exact List.mem_map.mpr ⟨_, hv, rfl⟩
    obtain ⟨p, hp⟩ := paired_left hx _ hm
    rw [hk v hv p hp]; exact hp
  have hps : ps = its.map (pairOf s.heap) := by
    rw [e1] at hx
    exact paired_fn hx hk
  refine SrtO.sorted_pairsO (k := pairOf s.heap) hl.isList (by rw [← rv.length]; exact hz) (fun v hv => isP v hv _ (hg v hv)) fun h' d out h1 h2 kp hd hn => ?_
  have h3 : ∀ u ∈ out, ∃ a, u = Value.ref a := fun u hu => e2 u (h2.perm.mem_iff.mp hu)
  obtain ⟨n, hn⟩ := hn
  refine ⟨.ref d, upd H d (.lst (out.map backV)), I.laid (t' := s.toks) kp hd ⟨?_, out, n, vals_back h3, hn⟩, rfl, q _ (out.map (pairOf s.heap)) d (paired_map fun u hu => hg u (h2.perm.mem_iff.mp hu)) ?_ ?_ (I.hok.fresh hd)⟩
  · rw [List.length_map, h2.perm.length_eq, ← rv.length]
    exact hz
  · rw [hps]
    exact h2.perm.map _
  · refine List.pairwise_map.mpr (h1.imp fun {x y} h => ?_)
    have h' : SrtO.lexB (pairOf s.heap y) (pairOf s.heap x) = false := h
    unfold leP
    rw [h']; rfl
end
/-! ### the sorted list is one -/
theorem sorted_uniq {α : Type} (le : α → α → Bool) (anti : ∀ a b, le a b = true → le b a = true → a = b) : ∀ {l m : List α}, l.Perm m → l.Pairwise (fun a b => le a b = true) → m.Pairwise (fun a b => le a b = true) → l = m
  | [], m, h, _, _ => (List.Perm.nil_eq h)
  | x :: l, [], h, _, _ => absurd h.length_eq (by simp)
  | x :: l, y :: m, h, hl, hm => by
    have hxy : x = y := by
      rcases List.mem_cons.mp (h.mem_iff.mp (List.mem_cons_self (a := x) (l := l))) with e | hx
      · exact e
      · rcases List.mem_cons.mp (h.mem_iff.mpr (List.mem_cons_self (a := y) (l := m))) with e | hy
        · exact e.symm
        · exact anti _ _ ((List.pairwise_cons.mp hl).1 y hy) ((List.pairwise_cons.mp hm).1 x hx)
    subst hxy
    rw [sorted_uniq le anti h.cons_inv (List.pairwise_cons.mp hl).2 (List.pairwise_cons.mp hm).2]
def insP (p : Int × Int) : List (Int × Int) → List (Int × Int)
  | [] => [p]
  | q :: qs => if leP p q = true then p :: q :: qs else q :: insP p qs
def sortP : List (Int × Int) → List (Int × Int)
  | [] => []
  | p :: ps => insP p (sortP ps)
theorem insP_perm (p : Int × Int) : ∀ qs, (insP p qs).Perm (p :: qs)
  | [] => List.Perm.refl _
  | q :: qs => by
    unfold insP
    split
    · exact List.Perm.refl _
    · exact ((insP_perm p qs).cons q).trans (List.Perm.swap p q qs)
theorem sortP_perm : ∀ ps, (sortP ps).Perm ps
  | [] => List.Perm.refl _
  | p :: ps => (insP_perm p (sortP ps)).trans ((sortP_perm ps).cons p)
theorem leP_tot (p q : Int × Int) (h : ¬ leP p q = true) : leP q p = true := by
  rw [leP_iff] at h ⊢
  omega
theorem leP_trans {p q r : Int × Int} (h1 : leP p q = true) (h2 : leP q r = true) : leP p r = true := by
  rw [leP_iff] at h1 h2 ⊢
  omega
theorem insP_pw (p : Int × Int) : ∀ {qs}, qs.Pairwise (fun a b => leP a b = true) → (insP p qs).Pairwise (fun a b => leP a b = true)
  | [], _ => List.pairwise_singleton _ _
  | q :: qs, h => by
    unfold insP
    obtain ⟨h1, h2⟩ := List.pairwise_cons.mp h
    split
    · rename_i hp
      refine List.pairwise_cons.mpr ⟨fun r hr => ?_, h⟩
      rcases List.mem_cons.mp hr with rfl | hr
      · exact hp
      · exact leP_trans hp (h1 r hr)
    · rename_i hp
      refine List.pairwise_cons.mpr ⟨fun r hr => ?_, insP_pw p h2⟩
      rcases List.mem_cons.mp ((insP_perm p qs).mem_iff.mp hr) with rfl | hr
      · exact leP_tot _ _ hp
      · exact h1 r hr
theorem sortP_pw : ∀ ps, (sortP ps).Pairwise (fun a b => leP a b = true)
  | [] => List.Pairwise.nil
  | p :: ps => insP_pw p (sortP_pw ps)
theorem leP_anti (a b : Int × Int) (h1 : leP a b = true) (h2 : leP b a = true) : a = b := by
  rw [leP_iff] at h1 h2
  exact Prod.ext (by omega) (by omega)
theorem sortP_eq {qs ps : List (Int × Int)} (h : qs.Perm ps) (hq : qs.Pairwise (fun a b => leP a b = true)) : qs = sortP ps :=
  sorted_uniq leP leP_anti (h.trans (sortP_perm ps).symm) hq (sortP_pw ps)
def toPair : D → Option (Int × Int)
  | .tuple [.int a, .int b] => some (a, b)
  | _ => none
def toPairs : List D → Option (List (Int × Int))
  | [] => some []
  | d :: ds => match toPair d with
    | some p => (toPairs ds).map (p :: ·)
    | none => none
def pairD (p : Int × Int) : D := .tuple [.int p.1, .int p.2]
theorem toPair_eq {d : D} {p : Int × Int} (h : toPair d = some p) : d = pairD p := by
  unfold toPair at h
  split at h
  · cases h; rfl
  · cases h
theorem toPairs_eq : ∀ {ds : List D} {ps : List (Int × Int)}, toPairs ds = some ps → ds = ps.map pairD
  | [], _, h => by cases h; rfl
  | d :: ds, ps, h => by
    unfold toPairs at h
    split at h
    · rename_i p e
      cases q : toPairs ds with
      | none => rw [q] at h; cases h
      | some qs =>
        rw [q] at h; cases h
        rw [List.map_cons, ← toPair_eq e, ← toPairs_eq q]
    · cases h
theorem toPairs_map : ∀ ps : List (Int × Int), toPairs (ps.map pairD) = some ps
  | [] => rfl
  | p :: ps => by
    show (toPairs (ps.map pairD)).map (p :: ·) = _
    rw [toPairs_map ps]; rfl
def sortD : List D → Option (List D)
  | [.list ds] => (toPairs ds).map fun ps => (sortP ps).map pairD
  | _ => none
section
variable {K : PySem.W.Frag}
abbrev RP (K : PySem.W.Frag) (F : Hp) (x : V) (p : Int × Int) : Prop := Dp K F x (pairD p)
theorem rp_all {F : Hp} : ∀ {xs : List V} {ps : List (Int × Int)}, DpAll K F xs (ps.map pairD) → Paired (RP K F) xs ps
  | _, [], .nil => .nil
  | _, _ :: _, .cons h t => .cons h (rp_all t)
theorem all_rp {F : Hp} : ∀ {xs : List V} {ps : List (Int × Int)}, Paired (RP K F) xs ps → DpAll K F xs (ps.map pairD)
  | _, _, .nil => .nil
  | _, _, .cons h t => .cons h (all_rp t)
theorem cn_sort : CallN K (rSortDP K) sortD := by
  intro W c σ H F ρ xs ds out Q ok rx e q
  unfold sortD at e
  split at e
  · rename_i es
    cases e2 : toPairs es with
    | none => rw [e2] at e; cases e
    | some ps =>
      rw [e2] at e; cases e
      obtain ⟨x, rfl, r⟩ := pk1 rx
      obtain ⟨p, vs, rfl, hp, dp⟩ := Pk.lst ok.sub r
      have e3 := toPairs_eq e2
      subst e3
      refine ⟨RP K F, p, vs, ps, rfl, hp, rp_all dp, fun x p h => ?_, fun ys qs l hy hperm hpw hl => ?_⟩
      · have h2 : Dp K H x (pairD p) := Dp.mono ok.sub h
        unfold pairD at h2
        cases h2 with
        | tup h t =>
          cases t with
          | cons a t =>
            cases t with
            | cons b t =>
              cases t; cases a; cases b
              exact ⟨_, rfl, h⟩
      · have e4 := sortP_eq hperm hpw
        subst e4
        exact new_N ok (all_rp hy) q l hl
  · cases e
end
end Dd

namespace Dd
open PySem PySem.Spec L2
/-! ### a, b = a new list, a constant -/
section
variable {X : Cx} {W : WX} {K : PySem.W.Frag} {σ : St} {H : Hp} {i j : Nat} {x y : Str} {a b : Expr} {mn : M (List D)} {px py pt pos : Pos} {kt k2 : Nat} {pt2 : Pos} {v : V} {d : D}
def mParNC (i j : Nat) (mn : M (List D)) (d : D) : M Fl := mBind mn fun out => mBind (mStoreO i out) fun _ => mBind (mStore j d) fun _ => mDone
theorem parNC_of (hd : ∀ F, Dp K F v d) {Dn : Ends} (h : tS K W (mParNC i j mn d) Dn σ H) : tPar i j (tCons (tN K W mn) (tCons (tC v) tNil)) Dn σ H := by
  obtain ⟨c, F, ρ, ok, h⟩ := h
  refine ⟨c, F, ρ, ok, ?_⟩
  unfold mParNC mBind at h
  cases e : mn ρ with
  | none => rw [e] at h; exact h.elim
  | some r =>
    rw [e] at h
    cases r with
    | ex y ρ' => exact fun cls z H' F' ok s r => h σ cls z H' F' ok s r
    | ok out ρ2 =>
      intro p xs H' F' ok' hp s' rx
      refine ⟨.ref p, v, rfl, ?_⟩
      have h2 : postS K W c F Dn (mBind (mStoreO i out) (fun _ => mBind (mStore j d) fun _ => mDone) ρ2) := h
      have h3 := postS_bindG h2
      unfold mStoreO at h3
      split at h3
      · rename_i hl
        obtain ⟨F4, ρ4, ok4, s4, h4⟩ := h3 _ H' F' (ok'.ownP hp rx hl) s'
        have h5 := postS_bindG h4
        unfold mStore at h5
        split at h5
        · rename_i hl2
          obtain ⟨F5, ρ5, ok5, s5, h6⟩ := h5 _ H' F4 (ok4.setV hl2 (hd _)) (Same.refl _)
          exact h6 _ _ _ ok5 (Same.refl _)
        · exact h5.elim
      · exact h3.elim
theorem dParNC (hc : X.calm = true) (hN : X.N.Nodup) (hij : i ≠ j) (ha : PE X a (tN X.K W mn)) (hb : PE X b (tC v)) (hd : ∀ F, Dp X.K F v d) (hi : X.N[i]? = some x := by rfl) (hj : X.N[j]? = some y := by rfl)
    (hx : X.env.scope.names.lookup x = some .local := by rfl) (hy : X.env.scope.names.lookup y = some .local := by rfl)
    (hw : swappedStores [.Tuple [.Name x px, .Name y py] kt pt] (.Tuple [a, b] k2 pt2) X.env = pure (some [x, y]) := by rfl)
    (hs : swapsWithSole [.Tuple [.Name x px, .Name y py] kt pt] (.Tuple [a, b] k2 pt2) pos.line X.env = pure false := by rfl)
    (hs1 : starEach [a, b] X.env = (false, eval a X.env) :: starEach [b] X.env := by rfl) (hs2 : starEach [b] X.env = (false, eval b X.env) :: starEach [] X.env := by rfl) :
    PS X (.Assign [.Tuple [.Name x px, .Name y py] kt pt] (.Tuple [a, b] k2 pt2) pos) (tS X.K W (mParNC i j mn d)) :=
  PS.imp (ps_par hc hN hi hj hij hx hy (pa_cons ha (pa_cons hb pa_nil hs2) hs1) hw hs) fun _ _ _ => parNC_of hd
end
/-! ### range, downwards -/
section
variable {X : Cx} {W : WX} {K : PySem.W.Frag} {tg a b e : Expr} {ms : M (List D)} {p pos : Pos}
def rngDn (i j : Int) : List D := (List.range (i - j).toNat).map fun k => .int (i - (k : Nat))
def rngD3 : List D → Option (List D)
  | [.int i, .int j, .int c] => if (rngOk i && rngOk j && decide (c = -1)) = true then some (rngDn i j) else none
  | _ => none
theorem rngDn_get {i j : Int} {k : Nat} {d : D} (h : (rngDn i j)[k]? = some d) : d = .int (i - (k : Nat)) ∧ k < (i - j).toNat := by
  unfold rngDn at h
  rw [List.getElem?_map] at h
  by_cases q : k < (i - j).toNat
  · rw [List.getElem?_range q] at h
    cases h
    exact ⟨rfl, q⟩
  · rw [List.getElem?_eq_none (by simpa using q)] at h
    cases h
theorem rngDn_length (i j : Int) : (rngDn i j).length = (i - j).toNat := by simp [rngDn]
theorem itc_D {F : Hp} {i j : Int} : ItD K F (Itc i (-1) (i - j).toNat) (rngDn i j) where
  go := fun H k s hi => by rw [rngDn_length] at hi; exact hi
  stop := fun H k s hi => by rw [rngDn_length] at hi; exact hi
  yld := fun H k x H' d s q y => by
    obtain ⟨e1, e2⟩ := y
    obtain ⟨e3, _⟩ := rngDn_get q
    subst e1 e2 e3
    refine .inl ⟨rfl, ?_⟩
    have e : i + (k : Nat) * (-1) = i - (k : Nat) := by omega
    rw [e]
    exact .int _
def mRng3 (ms : M (List D)) : M (List D) := mBind ms fun ds => mLift (rngD3 ds)
theorem diRng3 {c : Expr} (hm : X.mg "range" = none) (ha : PA X [a, b, c] (tA X.K W ms)) (hg : Gl X "range" := by rfl) (hs : starEach [a, b, c] X.env = (false, eval a X.env) :: starEach [b, c] X.env := by rfl) (hpl : (backTo pos (starEach [b, c] X.env)).any (·.1) = false := by rfl) : PI X tg (.Call (.Name "range" p) [a, b, c] [] pos) (tI X.K W (mRng3 ms)) := PI.imp (pi_range3 hg hm ha hs hpl) (by
  rintro σ H R ⟨c, F, ρ, ok, h⟩
  refine ⟨c, F, ρ, ok, post_mono ?_ (post_bind h)⟩
  rintro ds H1 F1 _ ⟨ρ1, ok1, s1, h1⟩ vs rv
  obtain ⟨out, e, h2⟩ := post_lift h1
  unfold rngD3 at e
  split at e
  · rename_i i j c'
    split at e
    · rename_i hb
      cases e
      simp only [Bool.and_eq_true, decide_eq_true_eq] at hb
      obtain ⟨⟨hb1, hb2⟩, hc⟩ := hb
      subst hc
      cases rv with
      | cons r t =>
        cases t with
        | cons r' t' =>
          cases t' with
          | cons r'' t'' =>
            cases t''
            cases r
            cases r'
            cases r''
            obtain ⟨b1, b2⟩ := rngOk_of hb1
            obtain ⟨b3, b4⟩ := rngOk_of hb2
            exact ⟨i, j, -1, _, rfl, RgC.neg b1 b2 b3 b4, h2 H1 F1 ok1 (Same.refl F1) _ itc_D⟩
    · cases e
  · cases e)
end
end Dd

namespace Dd
open PySem PySem.Spec L2
/-! ### *e in a display -/
section
variable {X : Cx} {W : WX} {K : PySem.W.Frag} {a : Expr} {es : List Expr} {p : Pos} {ma : M D} {mr : M (List D)}
def mStar (ma : M D) (mr : M (List D)) : M (List D) := mBind ma fun d => mBind (mLift (itemsD d)) fun xs => mBind mr fun ys => mPure (xs ++ ys)
theorem dStar (ha : PE X a (tP X.K W ma)) (hr : PA X es (tA X.K W mr)) (hs : starEach (.Starred a p :: es) X.env = (true, eval a X.env) :: starEach es X.env := by rfl) : PA X (.Starred a p :: es) (tA X.K W (mStar ma mr)) := by
  refine PA.imp (StX.pa_star ha hr hs) ?_
  rintro σ H Q ⟨c, F, ρ, ok, h⟩
  refine ⟨c, F, ρ, ok, post_mono ?_ (post_bind h)⟩
  rintro d H1 F1 _ ⟨ρ1, ok1, s1, h1⟩ v rv
  have main : ∀ (q : Addr) (vs : List V) (ds : List D), v = .ref q → (SqT X.K H1 q vs ∨ SqL X.K H1 q vs) → DpAll X.K F1 vs ds → post X.K W c σ F1 (qA X.K Q) ((mBind mr fun ys => mPure (ds ++ ys)) ρ1) → ∃ p xs, v = V.ref p ∧ (SqT X.K H1 p xs ∨ SqL X.K H1 p xs) ∧ tA X.K W mr σ H1 fun ys H2 => Q (xs ++ ys) H2 := by
    intro q vs ds hv hq hd h2
    refine ⟨q, vs, hv, hq, c, F1, ρ1, ok1, post_mono ?_ (post_bind h2)⟩
    rintro ys H2 F2 _ ⟨ρ2, ok2, s2, h3⟩ ws rw'
    exact post_ok (W := W) h3 ok2 _ (DpAll.append (DpAll.mono s2 hd) rw')
  cases d with
  | list ds =>
    obtain ⟨q, vs, rfl, hp, dp⟩ := Pk.lst ok1.sub rv
    exact main q vs ds rfl (.inr hp) dp h1
  | tuple ds =>
    obtain ⟨q, vs, rfl, hp, dp⟩ := Pk.tup ok1.sub rv
    exact main q vs ds rfl (.inl hp) dp h1
  | _ => exact (h1 : False).elim
end
end Dd

namespace Dd
open PySem PySem.Spec L2
/-! ### a, b, .. = a list -/
section
variable {X : Cx} {W : WX} {pos : Pos}
def gLstD (n : Nat) (gs : List D → M Unit) : D → M Unit
  | .list ds => if ds.length = n then gs ds else mStuck
  | _ => mStuck
theorem dgLst {es : List Expr} {k : Nat} {gs : List D → M Unit} {n : Nat} (hc : X.calm = true) (h : PGs X es (tGs X.K W gs)) (hn : (assignEach es X.env).length = n := by rfl) (hst : (assignEach es X.env).findIdx? (·.1) = none := by rfl) : PG X (.Tuple es k pos) (tG X.K W (gLstD n gs)) :=
  PG.imp (pg_lst hc h hn hst) (by
  rintro v σ H Q ⟨c, F, ρ, d, ok, r, h⟩
  unfold gLstD at h
  split at h
  · split at h
    · rename_i hl
      obtain ⟨p, vs, rfl, hp, dp⟩ := Pk.lst ok.sub (.inl r)
      exact ⟨p, vs, rfl, hp, by rw [DpAll.length dp]; exact hl, c, F, ρ, _, ok, dp, h⟩
    · exact h.elim
  · exact h.elim)
end
end Dd

namespace Dd
open PySem PySem.Spec L2 PySem.W
/-! ### min(a list of ints, default=d) -/
def rMinDef (K : PySem.W.Frag) : List V → List V → Hp → VK → Prop := fun vs zs H Q => ∃ (a : Addr) (ns : List Int) (d : V), vs = [V.ref a] ∧ zs = [d] ∧ SqL K H a (ns.map V.int) ∧
  Q (match ns with | [] => d | n :: r => .int (r.foldl min n)) H
theorem alikeAll_ints (ns : List Int) : AlikeAll (ns.map PyData.int) := by
  refine ⟨fun x hx y hy => ?_, fun x hx => ?_⟩
  · obtain ⟨i, _, rfl⟩ := List.mem_map.mp hx
    obtain ⟨j, _, rfl⟩ := List.mem_map.mp hy
    rfl
  · obtain ⟨i, _, rfl⟩ := List.mem_map.mp hx
    exact fun z => by cases z
theorem depth_ints : ∀ ns : List Int, PyData.depthAll (ns.map PyData.int) = 0
  | [] => by simp [PyData.depthAll]
  | n :: ns => by
    rw [List.map_cons]
    simp [PyData.depthAll, PyData.depth, depth_ints ns]
section
variable {X : Cx}
theorem cr_minDef (hc : X.calm = true) (hu : X.A.units + 64 < cLine) : CallRK X (.builtin "min") [Str.ofString "default"] (rMinDef X.K) := by
  intro pins s σ H xs zs us ws Q I rx rz h
  obtain ⟨a, ns, d, rfl, rfl, hs, q⟩ := h
  obtain ⟨its, rv, hl, hz⟩ := I.list hs
  obtain ⟨u, rfl, ru⟩ := vals1 rx
  obtain rfl : u = Value.ref a := ru
  obtain ⟨w, rfl, rw'⟩ := vals1 rz
  have hi := rv.ints
  show wpAny _ _ (call (.builtin "min") [.ref a] [(Str.ofString "default", w)]) _ _ s
  refine min_list_default (I.ok.hd hc) hl.isList (xs := ns.map PyData.int) (as := []) (PyProof.Rows.ints_readAll s.heap hi) (alikeAll_ints ns) (by rw [depth_ints]; omega) (fun e h' tk hk => ?_) fun y ys i v h' tk bs e hv hr hk => ?_
  · have e' : ns = [] := by cases ns with
      | nil => rfl
      | cons n r => cases e
    subst e'
    exact ⟨d, H, I.kept (t' := tk) hk, rw', q⟩
  · cases ns with
    | nil => cases e
    | cons n r =>
      injection e with e1 e2
      subst e1 e2
      rw [minD_ints] at hr
      cases hr
      exact ⟨.int (r.foldl min n), H, I.kept (t' := tk) hk, ⟨_, rfl⟩, q⟩
def minDefD : D → Option D
  | .list ds => (toInts ds).map fun ns => match ns with
    | [] => .none
    | n :: r => .int (r.foldl min n)
  | _ => none
variable {W : WX} {a : Expr} {m : M D} {p pos kp np : Pos} {jj : Nat}
def mMinDef (m : M D) : M D := mBind m fun d => mLift (minDefD d)
theorem dMinDef (hc : X.calm = true) (hu : X.A.units + 64 < cLine) (hm : X.mg "min" = none) (ha : PE X a (tP X.K W m)) (hg : Gl X "min" := by rfl) (hbi : bootBuiltins "min" = some (.builtin "min") := by decide +kernel)
    (hs : starEach (a :: []) X.env = (false, eval a X.env) :: starEach [] X.env := by rfl)
    (he : backTo pos (starEach (a :: []) X.env) = (false, eval a X.env) :: backTo pos (starEach [] X.env) := by rfl) (hpl : (backTo pos (starEach (a :: []) X.env)).any (·.1) = false := by rfl)
    (hall : (backToKw pos (keywordEach [⟨some "default", .Constant .none jj np, kp⟩] X.env)).all (·.1.isSome) = true := by rfl) (hnone : (backToKw pos (keywordEach [⟨some "default", .Constant .none jj np, kp⟩] X.env)).any (·.1.isNone) = false := by rfl) (hks : (backToKw pos (keywordEach [⟨some "default", .Constant .none jj np, kp⟩] X.env)).filterMap (·.1) = [Str.ofString "default"] := by rfl) :
    PE X (.Call (.Name "min" p) [a] [⟨some "default", .Constant .none jj np, kp⟩] pos) (tE X.K W (mMinDef m)) :=
  PE.imp (pe_callBK (cr_minDef hc hu) hg hm hbi (pa_cons ha pa_nil hs) (pk_cons pe_non pk_nil) (by decide) (by decide) he hpl hall hnone hks) (by
  rintro σ H Q ⟨c, F, ρ, ok, h⟩
  refine ⟨c, F, ρ, ok, post_mono ?_ (post_bind h)⟩
  rintro d H1 F1 _ ⟨ρ1, ok1, s1, h1⟩ v rv
  show rMinDef X.K [v] [.non] H1 Q
  obtain ⟨d', e, h2⟩ := post_lift h1
  unfold minDefD at e
  split at e
  · rename_i ds
    cases e2 : toInts ds with
    | none => rw [e2] at e; cases e
    | some ns =>
      rw [e2] at e
      cases e
      obtain ⟨q, vs, rfl, hp, dp⟩ := Pk.lst ok1.sub rv
      rw [toInts_eq e2] at dp
      rw [DpAll.ints dp] at hp
      refine ⟨q, ns, .non, rfl, rfl, hp, ?_⟩
      cases ns with
      | nil => exact h2 H1 F1 ok1 (Same.refl F1) _ .non
      | cons n r => exact h2 H1 F1 ok1 (Same.refl F1) _ (.int _)
  · cases e)
end
end Dd

namespace Dd
open PySem PySem.Spec L2
/-! ### slices -/
def cutL (ds : List D) (lo hi : Option Int) : List D := (ds.drop (HT.sIx ds.length 0 lo)).take (HT.sIx ds.length ds.length hi - HT.sIx ds.length 0 lo)
def slD : D → Option Int → Option Int → Option D
  | .list ds, lo, hi => some (.list (cutL ds lo hi))
  | .tuple ds, lo, hi => some (.tuple (cutL ds lo hi))
  | .str z, lo, hi => if fit z.length = true then some (.str (cutS z lo hi)) else none
  | _, _, _ => none
def intO : D → Option (Option Int)
  | .int i => some (some i)
  | _ => none
def mNoPart : M (Option Int) := mPure none
def mPart (m : M D) : M (Option Int) := mBind m fun d => mLift (intO d)
section
variable {X : Cx} {W : WX} {K : PySem.W.Frag} {σ : St} {H F : Hp} {ρ : En} {c : Ct}
def tO (K : PySem.W.Frag) (W : WX) (m : M (Option Int)) : TO := fun σ H Q => ∃ c F ρ, Ok K c σ H F ρ ∧ post K W c σ F (fun o H' _ => Q o H') (m ρ)
theorem PO.imp {e : Option Expr} {t t' : TO} (h : PO X e t) (k : ∀ σ H Q, t' σ H Q → t σ H Q) : PO X e t' := ⟨fun pins s σ H Q I q => h.run pins s σ H Q I (k σ H Q q)⟩
theorem dNoPart : PO X none (tO X.K W mNoPart) := PO.imp po_none (by
  rintro σ H Q ⟨c, F, ρ, ok, h⟩
  exact post_ok h ok)
theorem dPart {e : Expr} {m : M D} (h : PE X e (tE X.K W m)) : PO X (some e) (tO X.K W (mPart m)) := PO.imp (po_some h) (by
  rintro σ H Q ⟨c, F, ρ, ok, h⟩
  refine ⟨c, F, ρ, ok, post_mono ?_ (post_bind h)⟩
  rintro d H1 F1 _ ⟨ρ1, ok1, s1, h1⟩ v rv
  obtain ⟨o, e, h2⟩ := post_lift h1
  cases d with
  | int i =>
    cases e
    cases rv
    exact ⟨i, rfl, post_ok h2 ok1⟩
  | _ => cases e)
theorem DpAll.cut {vs : List V} {ds : List D} (h : DpAll K F vs ds) (lo hi : Option Int) : DpAll K F (cutV vs lo hi) (cutL ds lo hi) := by
  unfold cutV cutL
  rw [DpAll.length h]
  exact DpAll.take _ (DpAll.drop _ h)
def rSlAll (K : PySem.W.Frag) : V → Option Int → Option Int → Hp → VK → Prop := fun x lo hi H Q => rSlL K x lo hi H Q ∨ (rSlA K x lo hi H Q ∨ rSlS x lo hi H Q)
theorem sl_all' : SlR X (rSlAll X.K) := SlR.or sl_list (SlR.or sl_tupA sl_str)
theorem cutL_whole {ds : List D} {lo hi : Option Int} (h : HT.sIx ds.length 0 lo = 0 ∧ HT.sIx ds.length ds.length hi = ds.length) : cutL ds lo hi = ds := by
  unfold cutL
  rw [h.1, h.2]
  simp
theorem sl_of {W : WX} {x : V} {a d : D} {lo hi : Option Int} {Q : VK} (ok : Ok K c σ H F ρ) (rx : Pk K H F x a) (e : slD a lo hi = some d) (q : post K W c σ F (qE K Q) (some (.ok d ρ))) : rSlAll K x lo hi H Q := by
  cases a with
  | list ds =>
    cases e
    obtain ⟨p, vs, rfl, hp, dp⟩ := Pk.lst ok.sub rx
    exact .inl ⟨p, vs, rfl, hp, fun p hp => new_lst ok (DpAll.cut dp lo hi) q p hp⟩
  | tuple ds =>
    cases e
    obtain ⟨p, vs, rfl, hp, dp⟩ := Pk.tup ok.sub rx
    refine .inr (.inl ⟨p, vs, rfl, hp, fun z => ?_, fun _ p hp => new_tup ok (DpAll.cut dp lo hi) q p hp⟩)
    rw [DpAll.length dp] at z
    rw [cutL_whole z] at q
    rcases rx with rx | ⟨_, _, _, _, e, _⟩
    · exact post_ok q ok _ rx
    · cases e
  | str z =>
    unfold slD at e
    dsimp only at e
    split at e
    · rename_i hf
      cases e
      exact .inr (.inr ⟨z, rx.str, fit_le hf, post_ok q ok _ (.str _)⟩)
    · cases e
  | _ => cases e
def mSl (ma : M D) (ml mh : M (Option Int)) : M D := mBind ma fun a => mBind ml fun l => mBind mh fun h => mLift (slD a l h)
def mSlL (i : Nat) (ml mh : M (Option Int)) : M D := mBind (mPeek i) fun _ => mBind ml fun l => mBind mh fun h => mBind (mPeek i) fun a => mLift (slD a l h)
variable {ma : M D} {ml mh : M (Option Int)} {a : Expr} {lo hi : Option Expr} {pos p2 : Pos}
theorem tSl_of {Q : VK} (h : tE K W (mSl ma ml mh) σ H Q) : tSl (rSlAll K) (tE K W ma) (tO K W ml) (tO K W mh) σ H Q := by
  obtain ⟨c, F, ρ, ok, h⟩ := h
  refine ⟨c, F, ρ, ok, post_mono ?_ (post_bind h)⟩
  rintro a H1 F1 _ ⟨ρ1, ok1, s1, h1⟩ x rx
  refine ⟨c, F1, ρ1, ok1, post_mono ?_ (post_bind h1)⟩
  rintro l H2 F2 _ ⟨ρ2, ok2, s2, h2⟩
  refine ⟨c, F2, ρ2, ok2, post_mono ?_ (post_bind h2)⟩
  rintro u H3 F3 _ ⟨ρ3, ok3, s3, h3⟩
  obtain ⟨d, e, h4⟩ := post_lift h3
  exact sl_of ok3 (.inl (Dp.mono (s2.trans s3) rx)) e h4
theorem tSl_ofL {i : Nat} {Q : VK} (h : tE K W (mSlL i ml mh) σ H Q) : tSl (rSlAll K) (tVar i) (tO K W ml) (tO K W mh) σ H Q := by
  obtain ⟨c, F, ρ, ok, h⟩ := h
  obtain ⟨v, _, ev, _, h⟩ := post_peek ok h
  refine ⟨v, ev, c, F, ρ, ok, post_mono ?_ (post_bind h)⟩
  rintro l H2 F2 _ ⟨ρ2, ok2, s2, h2⟩
  refine ⟨c, F2, ρ2, ok2, post_mono ?_ (post_bind h2)⟩
  rintro u H3 F3 _ ⟨ρ3, ok3, s3, h3⟩
  obtain ⟨v', a, ev', pk, h3⟩ := post_peek ok3 h3
  obtain ⟨d, e, h4⟩ := post_lift h3
  have ee : v' = v := by rw [ev] at ev'; cases ev'; rfl
  subst ee
  exact sl_of ok3 pk e h4
theorem dSl (ha : PE X a (tE X.K W ma)) (hl : PO X lo (tO X.K W ml)) (hh : PO X hi (tO X.K W mh)) : PE X (.Subscript a (.Slice lo hi none p2) pos) (tE X.K W (mSl ma ml mh)) := PE.imp (pe_slice sl_all' ha hl hh) fun _ _ _ => tSl_of
theorem dSlL {i : Nat} (ha : PE X a (tVar i)) (hl : PO X lo (tO X.K W ml)) (hh : PO X hi (tO X.K W mh)) : PE X (.Subscript a (.Slice lo hi none p2) pos) (tE X.K W (mSlL i ml mh)) := PE.imp (pe_slice sl_all' ha hl hh) fun _ _ _ => tSl_ofL
/-! .. of a list, a new one -/
def slN : D → Option Int → Option Int → Option (List D)
  | .list ds, lo, hi => some (cutL ds lo hi)
  | _, _, _ => none
def mSlN (ma : M D) (ml mh : M (Option Int)) : M (List D) := mBind ma fun a => mBind ml fun l => mBind mh fun h => mLift (slN a l h)
def mSlNL (i : Nat) (ml mh : M (Option Int)) : M (List D) := mBind (mPeek i) fun _ => mBind ml fun l => mBind mh fun h => mBind (mPeek i) fun a => mLift (slN a l h)
theorem slN_of {W : WX} {x : V} {a : D} {ds : List D} {lo hi : Option Int} {Q : VK} (ok : Ok K c σ H F ρ) (rx : Pk K H F x a) (e : slN a lo hi = some ds) (q : postN K W c σ F Q (some (.ok ds ρ))) : rSlL K x lo hi H Q := by
  cases a with
  | list ds =>
    cases e
    obtain ⟨p, vs, rfl, hp, dp⟩ := Pk.lst ok.sub rx
    exact ⟨p, vs, rfl, hp, fun p hp => new_N ok (DpAll.cut dp lo hi) q p hp⟩
  | _ => cases e
theorem tSlN_of {Q : VK} (h : tN K W (mSlN ma ml mh) σ H Q) : tSl (rSlL K) (tE K W ma) (tO K W ml) (tO K W mh) σ H Q := by
  obtain ⟨c, F, ρ, ok, h⟩ := h
  refine ⟨c, F, ρ, ok, post_mono ?_ (postN_bind h)⟩
  rintro a H1 F1 _ ⟨ρ1, ok1, s1, h1⟩ x rx
  refine ⟨c, F1, ρ1, ok1, post_mono ?_ (postN_bind h1)⟩
  rintro l H2 F2 _ ⟨ρ2, ok2, s2, h2⟩
  refine ⟨c, F2, ρ2, ok2, post_mono ?_ (postN_bind h2)⟩
  rintro u H3 F3 _ ⟨ρ3, ok3, s3, h3⟩
  obtain ⟨d, e, h4⟩ := postN_lift h3
  exact slN_of ok3 (.inl (Dp.mono (s2.trans s3) rx)) e h4
theorem post_peekN {i : Nat} {Q : VK} {f : D → M (List D)} (ok : Ok K c σ H F ρ) (h : postN K W c σ F Q (mBind (mPeek i) f ρ)) : ∃ v d, σ[i]? = some (some v) ∧ Pk K H F v d ∧ postN K W c σ F Q (f d ρ) := by
  unfold mBind mPeek at h
  cases e : ρ[i]? with
  | none => rw [e] at h; exact h.elim
  | some u =>
    rw [e] at h
    cases u with
    | un => exact h.elim
    | val d =>
      obtain ⟨v, a1, a2⟩ := ok.val i d e
      exact ⟨v, d, a1, .inl a2, h⟩
    | own ds =>
      obtain ⟨p, vs, a1, a2, a3, _⟩ := ok.own i ds e
      exact ⟨.ref p, _, a1, .inr ⟨p, vs, ds, rfl, rfl, a2, a3⟩, h⟩
    | io ds =>
      obtain ⟨_, p, vs, _, a1, a2, a3⟩ := ok.ios i ds e
      exact ⟨.ref p, _, a1, .inr ⟨p, vs, ds, rfl, rfl, a2, a3⟩, h⟩
    | scr ns => exact h.elim
theorem tSlN_ofL {i : Nat} {Q : VK} (h : tN K W (mSlNL i ml mh) σ H Q) : tSl (rSlL K) (tVar i) (tO K W ml) (tO K W mh) σ H Q := by
  obtain ⟨c, F, ρ, ok, h⟩ := h
  obtain ⟨v, _, ev, _, h⟩ := post_peekN ok h
  refine ⟨v, ev, c, F, ρ, ok, post_mono ?_ (postN_bind h)⟩
  rintro l H2 F2 _ ⟨ρ2, ok2, s2, h2⟩
  refine ⟨c, F2, ρ2, ok2, post_mono ?_ (postN_bind h2)⟩
  rintro u H3 F3 _ ⟨ρ3, ok3, s3, h3⟩
  obtain ⟨v', a, ev', pk, h3⟩ := post_peekN ok3 h3
  obtain ⟨d, e, h4⟩ := postN_lift h3
  have ee : v' = v := by rw [ev] at ev'; cases ev'; rfl
  subst ee
  exact slN_of ok3 pk e h4
theorem dSlN (ha : PE X a (tE X.K W ma)) (hl : PO X lo (tO X.K W ml)) (hh : PO X hi (tO X.K W mh)) : PE X (.Subscript a (.Slice lo hi none p2) pos) (tN X.K W (mSlN ma ml mh)) := PE.imp (pe_slice sl_list ha hl hh) fun _ _ _ => tSlN_of
theorem dSlNL {i : Nat} (ha : PE X a (tVar i)) (hl : PO X lo (tO X.K W ml)) (hh : PO X hi (tO X.K W mh)) : PE X (.Subscript a (.Slice lo hi none p2) pos) (tN X.K W (mSlNL i ml mh)) := PE.imp (pe_slice sl_list ha hl hh) fun _ _ _ => tSlN_ofL
/-! ### a list turned round -/
def revO : D → Option (List D)
  | .list ds => some ds.reverse
  | _ => none
def mRevN (m : M D) : M (List D) := mBind m fun d => mLift (revO d)
variable {k : Nat} {p1 p3 : Pos}
theorem dRevN (ha : PE X a (tP X.K W ma)) : PE X (.Subscript a (.Slice none none (some (.UnaryOp .USub (.Constant (.int 1) k p1) p2)) p3) pos) (tN X.K W (mRevN ma)) := PE.imp (pe_revL ha) (by
  rintro σ H Q ⟨c, F, ρ, ok, h⟩
  refine ⟨c, F, ρ, ok, post_mono ?_ (postN_bind h)⟩
  rintro a H1 F1 _ ⟨ρ1, ok1, s1, h1⟩ x rx
  obtain ⟨ds, e, h2⟩ := postN_lift h1
  cases a with
  | list es =>
    cases e
    obtain ⟨p, vs, rfl, hp, dp⟩ := Pk.lst ok1.sub rx
    exact ⟨p, vs, rfl, hp, fun p hp => new_N ok1 (DpAll.reverse dp) h2 p hp⟩
  | _ => cases e)
end
end Dd

namespace Pf
open PySem PySem.Spec L2 Dd
def topS (i : Nat) : Stmt := PySem.Challenge.pw_wirelooker_k07_whole_great_lines.main.body.getD i (.Pass ⟨0, 0, 0, 0⟩)
def m_is_whole : M Fl :=
  (mRet (mAnd (mIsi "int" (mPeek 0)) (mNot (mIsi "bool" (mPeek 0)))))
def fn_is_whole : List D → Option (Rs D) := runV m_is_whole 1
abbrev s_is_whole : Stmt := topS 1
abbrev N_is_whole : List Str := ["thing"]
theorem sc_is_whole : FnScope N_is_whole ["thing"] (defScope s_is_whole) := ⟨rfl, rfl, rfl, by decide +kernel, rfl, by decide +kernel, by decide +kernel⟩
def m__is_run : M Fl :=
  (mSeq (mIf (mOrT (mNotT (mTru (mIsi "tuple" (mPeek 0)))) ((mBol (mBin neD (mCall1 lenD (mPeek 0)) (mPure (.int 2)))))) (mRet (mPure (.bool false))) (mPure .nx))
  (mSeq (mAsg (mVar 0) (gTupD 2 (gCons2 (mStore 1) (gCons2 (mStore 2) gsNil))))
  (mRet (mAnd (mCallV 1 fn_is_whole (mCons (mVar 1) (mPure []))) (mAnd (mChain leD leD (mPure (.int 0)) (mVar 1) (mPure (.int 1))) (mAnd (mCallV 1 fn_is_whole (mCons (mVar 2) (mPure []))) (mBinL geD 2 (mPure (.int 1)))))))))
def fn__is_run : List D → Option (Rs D) := runV m__is_run 3
abbrev s__is_run : Stmt := topS 6
abbrev N__is_run : List Str := ["thing", "level", "long"]
theorem sc__is_run : FnScope N__is_run ["thing"] (defScope s__is_run) := ⟨rfl, rfl, rfl, by decide +kernel, rfl, by decide +kernel, by decide +kernel⟩
def C_is_line_0 : M (List D) :=
  (mComp [2] (mItems (mVar 0)) (mStore 2) (mPure true) (mCallV 1 fn__is_run (mCons (mVar 2) (mPure []))))
def C_is_line_1 : M (List D) :=
  (mComp [1] (mRng2 (mCons (mPure (.int 1)) (mCons (mCall1 lenD (mPeek 0)) (mPure [])))) (mStore 1) (mPure true) (mBin neD (mBin ixD (mBinL ixD 0 (mPeek 1)) (mPure (.int 0))) (mBin ixD (mBinL ixD 0 (mBinL subD 1 (mPure (.int 1)))) (mPure (.int 0)))))
def m_is_line : M Fl :=
  (mSeq (mIf (mOrT (mNotT (mTru (mIsi "tuple" (mPeek 0)))) ((mNotT (mTru (mCall1 allD (mVal C_is_line_0)))))) (mRet (mPure (.bool false))) (mPure .nx))
  (mRet (mCall1 allD (mVal C_is_line_1))))
def fn_is_line : List D → Option (Rs D) := runV m_is_line 3
abbrev s_is_line : Stmt := topS 5
abbrev N_is_line : List Str := ["thing", "at", "run"]
theorem sc_is_line : FnScope N_is_line ["thing"] (defScope s_is_line) := ⟨rfl, rfl, rfl, by decide +kernel, rfl, by decide +kernel, by decide +kernel⟩
def C_long_of_0 : M (List D) :=
  (mComp [1, 2] (mItems (mVar 0)) (gTupD 2 (gNamesD [1, 2])) (mPure true) (mVar 2))
def m_long_of : M Fl :=
  (mRet (mCall1 sumD (mVal C_long_of_0)))
def fn_long_of : List D → Option (Rs D) := runV m_long_of 3
abbrev s_long_of : Stmt := topS 7
abbrev N_long_of : List Str := ["line", "_", "long"]
theorem sc_long_of : FnScope N_long_of ["line"] (defScope s_long_of) := ⟨rfl, rfl, rfl, by decide +kernel, rfl, by decide +kernel, by decide +kernel⟩
def L_level_by_0 : M Fl :=
  (mSeq (mAsg (mBin divD (mBinL addD 3 (mPeek 4)) (mPure (.int 2))) (mStore 5))
  (mIf (mBol (mBinL ltD 2 (mBinL ixD 1 (mPeek 5)))) (mAsg (mVar 5) (mStore 4)) (mAsg (mBinL addD 5 (mPure (.int 1))) (mStore 3))))
def R_level_by_0 : M Fl :=
  mWhile (fun _ => 1000) (mBol (mBinL ltD 3 (mPeek 4))) L_level_by_0
def m_level_by : M Fl :=
  (mSeq (mAsg (mPure (.int 0)) (mStore 3))
  (mSeq (mAsg (mBin subD (mCall1 lenD (mPeek 1)) (mPure (.int 1))) (mStore 4))
  (mSeq (R_level_by_0)
  (mRet (mBin ixD (mBinL ixD 0 (mPeek 3)) (mPure (.int 0)))))))
def fn_level_by : List D → Option (Rs D) := runV m_level_by 6
abbrev s_level_by : Stmt := topS 10
abbrev N_level_by : List Str := ["line", "ends", "moment", "low", "high", "middle"]
theorem sc_level_by : FnScope N_level_by ["line", "ends", "moment"] (defScope s_level_by) := ⟨rfl, rfl, rfl, by decide +kernel, rfl, by decide +kernel, by decide +kernel⟩
def L_ends_of_0 : M Fl :=
  (mSeq (mAug 2 (iI fun i j => .int (i + j)) (mVar 4))
  (mDrop (mMut 1 appD (mCons (mVar 2) (mPure [])))))
def R_ends_of_0 : M Fl :=
  mFor (mItems (mVar 0)) (gTupD 2 (gCons2 (mStore 3) (gCons2 (mStore 4) gsNil))) L_ends_of_0
def m_ends_of : M Fl :=
  (mSeq (mAsgN (mLstN (mPure [])) 1)
  (mSeq (mAsg (mPure (.int 0)) (mStore 2))
  (mSeq (R_ends_of_0)
  (mRet (mVar 1)))))
def fn_ends_of : List D → Option (Rs D) := runV m_ends_of 5
abbrev s_ends_of : Stmt := topS 9
abbrev N_ends_of : List Str := ["line", "ends", "end", "_", "long"]
theorem sc_ends_of : FnScope N_ends_of ["line"] (defScope s_ends_of) := ⟨rfl, rfl, rfl, by decide +kernel, rfl, by decide +kernel, by decide +kernel⟩
def m_level_at : M Fl :=
  (mSeq (mIf (mNotT (mBol (mChain leD ltD (mPure (.int 0)) (mVar 1) (mCallV 1 fn_long_of (mCons (mVar 0) (mPure [])))))) (mStuck) (mPure .nx))
  (mRet (mCallV 3 fn_level_by (mCons (mVar 0) (mCons (mCallV 1 fn_ends_of (mCons (mVar 0) (mPure []))) (mCons (mVar 1) (mPure [])))))))
def fn_level_at : List D → Option (Rs D) := runV m_level_at 2
abbrev s_level_at : Stmt := topS 8
abbrev N_level_at : List Str := ["line", "moment"]
theorem sc_level_at : FnScope N_level_at ["line", "moment"] (defScope s_level_at) := ⟨rfl, rfl, rfl, by decide +kernel, rfl, by decide +kernel, by decide +kernel⟩
def L_highs_0 : M Fl :=
  (mSeq (mIf (mBol (mBinL eqD 3 (mPure (.int 1)))) (mDrop (mMut 1 appD (mCons (mTup (mCons (mVar 2) (mCons (mBinL addD 2 (mPeek 4)) (mPure [])))) (mPure [])))) (mPure .nx))
  (mAug 2 (iI fun i j => .int (i + j)) (mVar 4)))
def R_highs_0 : M Fl :=
  mFor (mItems (mVar 0)) (gTupD 2 (gCons2 (mStore 3) (gCons2 (mStore 4) gsNil))) L_highs_0
def m_highs : M Fl :=
  (mSeq (mAsgN (mLstN (mPure [])) 1)
  (mSeq (mAsg (mPure (.int 0)) (mStore 2))
  (mSeq (R_highs_0)
  (mRet (mCall1 tupleD (mPeek 1))))))
def fn_highs : List D → Option (Rs D) := runV m_highs 5
abbrev s_highs : Stmt := topS 11
abbrev N_highs : List Str := ["line", "found", "begin", "level", "long"]
theorem sc_highs : FnScope N_highs ["line"] (defScope s_highs) := ⟨rfl, rfl, rfl, by decide +kernel, rfl, by decide +kernel, by decide +kernel⟩
def L_line_by_0 : M Fl :=
  (mSeq (mIf (mBol (mBinL ltD 3 (mPeek 4))) (mDrop (mMut 2 appD (mCons (mTup (mCons (mPure (.int 0)) (mCons (mBinL subD 4 (mPeek 3)) (mPure [])))) (mPure [])))) (mPure .nx))
  (mSeq (mDrop (mMut 2 appD (mCons (mTup (mCons (mPure (.int 1)) (mCons (mBinL subD 5 (mPeek 4)) (mPure [])))) (mPure []))))
  (mAsg (mVar 5) (mStore 3))))
def R_line_by_0 : M Fl :=
  mFor (mItems (mVar 0)) (gTupD 2 (gCons2 (mStore 4) (gCons2 (mStore 5) gsNil))) L_line_by_0
def m_line_by : M Fl :=
  (mSeq (mAsgN (mLstN (mPure [])) 2)
  (mSeq (mAsg (mPure (.int 0)) (mStore 3))
  (mSeq (R_line_by_0)
  (mSeq (mIf (mBol (mBinL ltD 3 (mPeek 1))) (mDrop (mMut 2 appD (mCons (mTup (mCons (mPure (.int 0)) (mCons (mBinL subD 1 (mPeek 3)) (mPure [])))) (mPure [])))) (mPure .nx))
  (mRet (mCall1 tupleD (mPeek 2)))))))
def fn_line_by : List D → Option (Rs D) := runV m_line_by 6
abbrev s_line_by : Stmt := topS 12
abbrev N_line_by : List Str := ["some", "long", "runs", "at", "begin", "end"]
theorem sc_line_by : FnScope N_line_by ["some", "long"] (defScope s_line_by) := ⟨rfl, rfl, rfl, by decide +kernel, rfl, by decide +kernel, by decide +kernel⟩
def L__begins_0 : M Fl :=
  (mSeq (mIf (mAndT (mBol (mBinL eqD 4 (mPeek 1))) ((mBol (mBinL gtD 3 (mPure (.int 0)))))) (mDrop (mMut 2 appD (mCons (mVar 3) (mPure [])))) (mPure .nx))
  (mAug 3 (iI fun i j => .int (i + j)) (mVar 5)))
def R__begins_0 : M Fl :=
  mFor (mItems (mVar 0)) (gTupD 2 (gCons2 (mStore 4) (gCons2 (mStore 5) gsNil))) L__begins_0
def m__begins : M Fl :=
  (mSeq (mAsgN (mLstN (mPure [])) 2)
  (mSeq (mAsg (mPure (.int 0)) (mStore 3))
  (mSeq (R__begins_0)
  (mRet (mCall1 tupleD (mPeek 2))))))
def fn__begins : List D → Option (Rs D) := runV m__begins 6
abbrev s__begins : Stmt := topS 15
abbrev N__begins : List Str := ["line", "wanted", "found", "begin", "level", "long"]
theorem sc__begins : FnScope N__begins ["line", "wanted"] (defScope s__begins) := ⟨rfl, rfl, rfl, by decide +kernel, rfl, by decide +kernel, by decide +kernel⟩
def m_rises : M Fl :=
  (mRet (mCallV 2 fn__begins (mCons (mVar 0) (mCons (mPure (.int 1)) (mPure [])))))
def fn_rises : List D → Option (Rs D) := runV m_rises 1
abbrev s_rises : Stmt := topS 13
abbrev N_rises : List Str := ["line"]
theorem sc_rises : FnScope N_rises ["line"] (defScope s_rises) := ⟨rfl, rfl, rfl, by decide +kernel, rfl, by decide +kernel, by decide +kernel⟩
def m_falls : M Fl :=
  (mRet (mCallV 2 fn__begins (mCons (mVar 0) (mCons (mPure (.int 0)) (mPure [])))))
def fn_falls : List D → Option (Rs D) := runV m_falls 1
abbrev s_falls : Stmt := topS 14
abbrev N_falls : List Str := ["line"]
theorem sc_falls : FnScope N_falls ["line"] (defScope s_falls) := ⟨rfl, rfl, rfl, by decide +kernel, rfl, by decide +kernel, by decide +kernel⟩
def m_joined : M Fl :=
  (mSeq (mIf (mOrT (mNotT (mTru (mPeek 0))) (mOrT (mNotT (mTru (mPeek 1))) ((mBol (mBin neD (mBin ixD (mBinL ixD 0 (mUn negD (mPure (.int 1)))) (mPure (.int 0))) (mBin ixD (mBinL ixD 1 (mPure (.int 0))) (mPure (.int 0)))))))) (mRet (mTup (mStar (mPeek 0) (mStar (mPeek 1) (mPure []))))) (mPure .nx))
  (mSeq (mAsg (mBinL ixD 0 (mUn negD (mPure (.int 1)))) (gTupD 2 (gCons2 (mStore 2) (gCons2 (mStore 3) gsNil))))
  (mRet (mTup (mStar (mSlL 0 mNoPart (mPart (mUn negD (mPure (.int 1))))) (mCons (mTup (mCons (mVar 2) (mCons (mBinL addD 3 (mBin ixD (mBinL ixD 1 (mPure (.int 0))) (mPure (.int 1)))) (mPure [])))) (mStar (mSlL 1 (mPart (mPure (.int 1))) mNoPart) (mPure []))))))))
def fn_joined : List D → Option (Rs D) := runV m_joined 4
abbrev s_joined : Stmt := topS 16
abbrev N_joined : List Str := ["one", "other", "level", "long"]
theorem sc_joined : FnScope N_joined ["one", "other"] (defScope s_joined) := ⟨rfl, rfl, rfl, by decide +kernel, rfl, by decide +kernel, by decide +kernel⟩
def L_stretch_0 : M Fl :=
  (mSeq (mAsg (mCallN max2D (mCons (mVar 4) (mCons (mVar 1) (mPure [])))) (mStore 7))
  (mSeq (mAsg (mCallN min2D (mCons (mBinL addD 4 (mPeek 6)) (mCons (mVar 2) (mPure [])))) (mStore 8))
  (mSeq (mIf (mBol (mBinL ltD 7 (mPeek 8))) (mDrop (mMut 3 appD (mCons (mTup (mCons (mVar 5) (mCons (mBinL subD 8 (mPeek 7)) (mPure [])))) (mPure [])))) (mPure .nx))
  (mAug 4 (iI fun i j => .int (i + j)) (mVar 6)))))
def R_stretch_0 : M Fl :=
  mFor (mItems (mVar 0)) (gTupD 2 (gCons2 (mStore 5) (gCons2 (mStore 6) gsNil))) L_stretch_0
def m_stretch : M Fl :=
  (mSeq (mAsgN (mLstN (mPure [])) 3)
  (mSeq (mAsg (mPure (.int 0)) (mStore 4))
  (mSeq (R_stretch_0)
  (mRet (mCall1 tupleD (mPeek 3))))))
def fn_stretch : List D → Option (Rs D) := runV m_stretch 9
abbrev s_stretch : Stmt := topS 17
abbrev N_stretch : List Str := ["line", "begin", "end", "runs", "at", "level", "long", "first", "behind"]
theorem sc_stretch : FnScope N_stretch ["line", "begin", "end"] (defScope s_stretch) := ⟨rfl, rfl, rfl, by decide +kernel, rfl, by decide +kernel, by decide +kernel⟩
def C_turned_0 : M (List D) :=
  (mComp [1, 2] (mItems (mVar 0)) (gTupD 2 (gNamesD [1, 2])) (mPure true) (mTup (mCons (mBin subD (mPure (.int 1)) (mPeek 1)) (mCons (mVar 2) (mPure [])))))
def m_turned : M Fl :=
  (mRet (mCall1 tupleD (mVal C_turned_0)))
def fn_turned : List D → Option (Rs D) := runV m_turned 3
abbrev s_turned : Stmt := topS 18
abbrev N_turned : List Str := ["line", "level", "long"]
theorem sc_turned : FnScope N_turned ["line"] (defScope s_turned) := ⟨rfl, rfl, rfl, by decide +kernel, rfl, by decide +kernel, by decide +kernel⟩
def C_slowed_0 : M (List D) :=
  (mComp [2, 3] (mItems (mVar 0)) (gTupD 2 (gNamesD [2, 3])) (mPure true) (mTup (mCons (mVar 2) (mCons (mBinL mulD 3 (mPeek 1)) (mPure [])))))
def m_slowed : M Fl :=
  (mRet (mCall1 tupleD (mVal C_slowed_0)))
def fn_slowed : List D → Option (Rs D) := runV m_slowed 4
abbrev s_slowed : Stmt := topS 19
abbrev N_slowed : List Str := ["line", "times", "level", "long"]
theorem sc_slowed : FnScope N_slowed ["line", "times"] (defScope s_slowed) := ⟨rfl, rfl, rfl, by decide +kernel, rfl, by decide +kernel, by decide +kernel⟩
def C_spans_of_0 : M (List D) :=
  (mComp [4] (mItems (mVar 0)) (mStore 4) (mPure true) (mCall1 tupleD (mPeek 4)))
def L_spans_of_0 : M Fl :=
  (mIf (mAndT (mTru (mPeek 1)) ((mBol (mBinL leD 2 (mBin ixD (mBinL ixD 1 (mUn negD (mPure (.int 1)))) (mPure (.int 1))))))) (mAsg (mTup (mCons (mBin ixD (mBinL ixD 1 (mUn negD (mPure (.int 1)))) (mPure (.int 0))) (mCons (mCallN max2D (mCons (mBin ixD (mBinL ixD 1 (mUn negD (mPure (.int 1)))) (mPure (.int 1))) (mCons (mVar 3) (mPure [])))) (mPure [])))) (gSet 1 (mUn negD (mPure (.int 1))))) (mIf (mBol (mBinL ltD 2 (mPeek 3))) (mDrop (mMut 1 appD (mCons (mTup (mCons (mVar 2) (mCons (mVar 3) (mPure [])))) (mPure [])))) (mPure .nx)))
def R_spans_of_0 : M Fl :=
  mFor (mItems (mVal (mCallN1 sortD (mVal C_spans_of_0)))) (gTupD 2 (gCons2 (mStore 2) (gCons2 (mStore 3) gsNil))) L_spans_of_0
def m_spans_of : M Fl :=
  (mSeq (mAsgN (mLstN (mPure [])) 1)
  (mSeq (R_spans_of_0)
  (mRet (mCall1 tupleD (mPeek 1)))))
def fn_spans_of : List D → Option (Rs D) := runV m_spans_of 5
abbrev s_spans_of : Stmt := topS 21
abbrev N_spans_of : List Str := ["pairs", "found", "begin", "end", "pair"]
theorem sc_spans_of : FnScope N_spans_of ["pairs"] (defScope s_spans_of) := ⟨rfl, rfl, rfl, by decide +kernel, rfl, by decide +kernel, by decide +kernel⟩
def L_both_of_0 : M Fl :=
  (mSeq (mAsg (mCallN max2D (mCons (mBin ixD (mBinL ixD 0 (mPeek 3)) (mPure (.int 0))) (mCons (mBin ixD (mBinL ixD 1 (mPeek 4)) (mPure (.int 0))) (mPure [])))) (mStore 5))
  (mSeq (mAsg (mCallN min2D (mCons (mBin ixD (mBinL ixD 0 (mPeek 3)) (mPure (.int 1))) (mCons (mBin ixD (mBinL ixD 1 (mPeek 4)) (mPure (.int 1))) (mPure [])))) (mStore 6))
  (mSeq (mIf (mBol (mBinL ltD 5 (mPeek 6))) (mDrop (mMut 2 appD (mCons (mTup (mCons (mVar 5) (mCons (mVar 6) (mPure [])))) (mPure [])))) (mPure .nx))
  (mIf (mBol (mBin ltD (mBin ixD (mBinL ixD 0 (mPeek 3)) (mPure (.int 1))) (mBin ixD (mBinL ixD 1 (mPeek 4)) (mPure (.int 1))))) (mAug 3 (iI fun i j => .int (i + j)) (mPure (.int 1))) (mAug 4 (iI fun i j => .int (i + j)) (mPure (.int 1)))))))
def R_both_of_0 : M Fl :=
  mWhile (fun _ => 1000) (mAndT (mBol (mBinL ltD 3 (mCall1 lenD (mPeek 0)))) ((mBol (mBinL ltD 4 (mCall1 lenD (mPeek 1)))))) L_both_of_0
def m_both_of : M Fl :=
  (mSeq (mAsgN (mLstN (mPure [])) 2)
  (mSeq (mAsg (mPure (.int 0)) (mStore 3))
  (mSeq (mAsg (mPure (.int 0)) (mStore 4))
  (mSeq (R_both_of_0)
  (mRet (mCall1 tupleD (mPeek 2)))))))
def fn_both_of : List D → Option (Rs D) := runV m_both_of 7
abbrev s_both_of : Stmt := topS 22
abbrev N_both_of : List Str := ["one", "other", "found", "here", "there", "begin", "end"]
theorem sc_both_of : FnScope N_both_of ["one", "other"] (defScope s_both_of) := ⟨rfl, rfl, rfl, by decide +kernel, rfl, by decide +kernel, by decide +kernel⟩
def m_either_of : M Fl :=
  (mRet (mCallV 1 fn_spans_of (mCons (mLst (mStar (mPeek 0) (mStar (mPeek 1) (mPure [])))) (mPure []))))
def fn_either_of : List D → Option (Rs D) := runV m_either_of 2
abbrev s_either_of : Stmt := topS 23
abbrev N_either_of : List Str := ["one", "other"]
theorem sc_either_of : FnScope N_either_of ["one", "other"] (defScope s_either_of) := ⟨rfl, rfl, rfl, by decide +kernel, rfl, by decide +kernel, by decide +kernel⟩
def L_others_0 : M Fl :=
  (mSeq (mIf (mBol (mBinL ltD 3 (mCallN min2D (mCons (mVar 4) (mCons (mVar 1) (mPure [])))))) (mDrop (mMut 2 appD (mCons (mTup (mCons (mVar 3) (mCons (mCallN min2D (mCons (mVar 4) (mCons (mVar 1) (mPure [])))) (mPure [])))) (mPure [])))) (mPure .nx))
  (mAsg (mVar 5) (mStore 3)))
def R_others_0 : M Fl :=
  mFor (mItems (mVar 0)) (gTupD 2 (gCons2 (mStore 4) (gCons2 (mStore 5) gsNil))) L_others_0
def m_others : M Fl :=
  (mSeq (mAsgN (mLstN (mPure [])) 2)
  (mSeq (mAsg (mPure (.int 0)) (mStore 3))
  (mSeq (R_others_0)
  (mSeq (mIf (mBol (mBinL ltD 3 (mPeek 1))) (mDrop (mMut 2 appD (mCons (mTup (mCons (mVar 3) (mCons (mVar 1) (mPure [])))) (mPure [])))) (mPure .nx))
  (mRet (mCall1 tupleD (mPeek 2)))))))
def fn_others : List D → Option (Rs D) := runV m_others 6
abbrev s_others : Stmt := topS 24
abbrev N_others : List Str := ["some", "below", "found", "at", "begin", "end"]
theorem sc_others : FnScope N_others ["some", "below"] (defScope s_others) := ⟨rfl, rfl, rfl, by decide +kernel, rfl, by decide +kernel, by decide +kernel⟩
def C_later_0 : M (List D) :=
  (mComp [2, 3] (mItems (mVar 0)) (gTupD 2 (gNamesD [2, 3])) (mPure true) (mTup (mCons (mBinL addD 2 (mPeek 1)) (mCons (mBinL addD 3 (mPeek 1)) (mPure [])))))
def m_later : M Fl :=
  (mRet (mCall1 tupleD (mVal C_later_0)))
def fn_later : List D → Option (Rs D) := runV m_later 4
abbrev s_later : Stmt := topS 25
abbrev N_later : List Str := ["some", "n", "begin", "end"]
theorem sc_later : FnScope N_later ["some", "n"] (defScope s_later) := ⟨rfl, rfl, rfl, by decide +kernel, rfl, by decide +kernel, by decide +kernel⟩
def m_between : M Fl :=
  (mRet (mCallV 2 fn_both_of (mCons (mVar 0) (mCons (mCallV 1 fn_spans_of (mCons (mLst (mCons (mTup (mCons (mVar 1) (mCons (mVar 2) (mPure [])))) (mPure []))) (mPure []))) (mPure [])))))
def fn_between : List D → Option (Rs D) := runV m_between 3
abbrev s_between : Stmt := topS 26
abbrev N_between : List Str := ["some", "begin", "end"]
theorem sc_between : FnScope N_between ["some", "begin", "end"] (defScope s_between) := ⟨rfl, rfl, rfl, by decide +kernel, rfl, by decide +kernel, by decide +kernel⟩
def C_is_in_0 : M (List D) :=
  (mComp [2, 3] (mItems (mVar 0)) (gTupD 2 (gNamesD [2, 3])) (mPure true) (mChain leD ltD (mVar 2) (mVar 1) (mPeek 3)))
def m_is_in : M Fl :=
  (mRet (mCall1 anyD (mVal C_is_in_0)))
def fn_is_in : List D → Option (Rs D) := runV m_is_in 4
abbrev s_is_in : Stmt := topS 27
abbrev N_is_in : List Str := ["some", "moment", "begin", "end"]
theorem sc_is_in : FnScope N_is_in ["some", "moment"] (defScope s_is_in) := ⟨rfl, rfl, rfl, by decide +kernel, rfl, by decide +kernel, by decide +kernel⟩
def C_how_many_0 : M (List D) :=
  (mComp [1, 2] (mItems (mVar 0)) (gTupD 2 (gNamesD [1, 2])) (mPure true) (mBinL subD 2 (mPeek 1)))
def m_how_many : M Fl :=
  (mRet (mCall1 sumD (mVal C_how_many_0)))
def fn_how_many : List D → Option (Rs D) := runV m_how_many 3
abbrev s_how_many : Stmt := topS 28
abbrev N_how_many : List Str := ["some", "begin", "end"]
theorem sc_how_many : FnScope N_how_many ["some"] (defScope s_how_many) := ⟨rfl, rfl, rfl, by decide +kernel, rfl, by decide +kernel, by decide +kernel⟩
def m__law_box : M Fl :=
  (mSeq (mAsg (mBin addD (mBin mulD (mPure (.int 5717)) (mPeek 1)) (mPure (.int 23))) (mStore 2))
  (mSeq (mIf (mBol (mBinL ltD 1 (mScrLen 0))) (mAsg (mScrIx 0 (mVar 1)) (mStore 2)) (mIf (mBol (mBin gtD (mScrLen 0) (mPure (.int 0)))) (mAsg (mBinL addD 2 (mBin mulD (mBin modD (mCall1 intD (mScrIx 0 (mBin modD (mCall1 intD (mPeek 1)) (mScrLen 0)))) (mPure (.int 2147483629))) (mPure (.int 69623)))) (mStore 2)) (mPure .nx)))
  (mSeq (mAsg (mBin addD (mBin modD (mBin addD (mBin mulD (mBin modD (mCall1 intD (mPeek 2)) (mPure (.int 2147483629))) (mPure (.int 48271))) (mBin mulD (mPure (.int 40692)) (mPeek 1))) (mPure (.int 2147483629))) (mPure (.int 1))) (mStore 3))
  (mRetF (mCons (mBin ixD (mLst (mCons (mPure (.int 0)) (mCons (mVar 2) (mPure [])))) (mCall1 intD (mBinL geD 2 (mBin powD (mPure (.int 10)) (mPure (.int 18)))))) (mCons (mVar 3) (mCons (mPure (.int 0)) (mPure []))))))))
def fn__law_box : List Int → List D → Option (Rs (List D)) := runS m__law_box 4
abbrev s__law_box : Stmt := topS 30
abbrev N__law_box : List Str := ["_law_script", "_law_k", "_law_cell", "_law_seed"]
theorem sc__law_box : FnScope N__law_box ["_law_script", "_law_k"] (defScope s__law_box) := ⟨rfl, rfl, rfl, by decide +kernel, rfl, by decide +kernel, by decide +kernel⟩
def m__law_take : M Fl :=
  (mSeq (mIf (mBol (mBin gtD (mBinL ixD 0 (mPure (.int 0))) (mPure (.int 0)))) (mSeq (mAsg (mBin modD (mCall1 intD (mBinL ixD 0 (mPure (.int 0)))) (mPeek 1)) (mStore 2))
  (mSeq (mAsg (mBin divD (mBinL ixD 0 (mPure (.int 0))) (mPeek 1)) (gSet 0 (mPure (.int 0))))
  (mRet (mVar 2)))) (mPure .nx))
  (mSeq (mAsg (mBin addD (mBinL ixD 0 (mPure (.int 2))) (mPure (.int 1))) (gSet 0 (mPure (.int 2))))
  (mSeq (mAsg (mBin modD (mCall1 intD (mBin mulD (mBin addD (mBinL ixD 0 (mPure (.int 1))) (mBin mulD (mPure (.int 104729)) (mBinL ixD 0 (mPure (.int 2))))) (mPure (.int 69623)))) (mPure (.int 2147483647))) (mStore 3))
  (mSeq (mAsg (mBin addD (mBin modD (mBin addD (mBinL mulD 3 (mPure (.int 48271))) (mPure (.int 30103))) (mPure (.int 2147483629))) (mPure (.int 1))) (gSet 0 (mPure (.int 1))))
  (mRet (mBin modD (mBin divD (mBin addD (mBinL mulD 3 (mPure (.int 2147483647))) (mBinL ixD 0 (mPure (.int 1)))) (mPure (.int 8191))) (mPeek 1)))))))
def fn__law_take : List D → List D → Option (Rs D × List D) := runB m__law_take 4
abbrev s__law_take : Stmt := topS 31
abbrev N__law_take : List Str := ["_law_box_here", "_law_many", "_law_digit", "_law_one"]
theorem sc__law_take : FnScope N__law_take ["_law_box_here", "_law_many"] (defScope s__law_take) := ⟨rfl, rfl, rfl, by decide +kernel, rfl, by decide +kernel, by decide +kernel⟩
def L__law_line_0 : M Fl :=
  (mDrop (mMut 4 appD (mCons (mTup (mCons (mBin modD (mBinL addD 3 (mPeek 5)) (mPure (.int 2))) (mCons (mBin addD (mPure (.int 1)) (mCallB 0 2 fn__law_take (mCons (mBin ixD (mLst (mCons (mPure (.int 2)) (mCons (mPure (.int 5)) (mCons (mVar 2) (mPure []))))) (mCallB 0 2 fn__law_take (mCons (mPure (.int 3)) (mPure [])))) (mPure [])))) (mPure [])))) (mPure []))))
def R__law_line_0 : M Fl :=
  mFor (mRng1 (mCons (mCallB 0 2 fn__law_take (mCons (mBinL addD 1 (mPure (.int 1))) (mPure []))) (mPure []))) (mStore 5) L__law_line_0
def m__law_line : M Fl :=
  (mSeq (mParEN 3 4 (mCallB 0 2 fn__law_take (mCons (mPure (.int 2)) (mPure []))) (mLstN (mPure [])))
  (mSeq (R__law_line_0)
  (mRet (mCall1 tupleD (mPeek 4)))))
def fn__law_line : List D → List D → Option (Rs D × List D) := runB m__law_line 6
abbrev s__law_line : Stmt := topS 32
abbrev N__law_line : List Str := ["_law_box_here", "_law_many", "_law_wide", "_law_level", "_law_found", "_law_turn"]
theorem sc__law_line : FnScope N__law_line ["_law_box_here", "_law_many", "_law_wide"] (defScope s__law_line) := ⟨rfl, rfl, rfl, by decide +kernel, rfl, by decide +kernel, by decide +kernel⟩
def m__law_cut_right : M Fl :=
  (mSeq (mAsg (mCallV 1 fn_long_of (mCons (mVar 0) (mPure []))) (mStore 2))
  (mSeq (mParEE 3 4 (mCallV 3 fn_stretch (mCons (mVar 0) (mCons (mPure (.int 0)) (mCons (mVar 1) (mPure []))))) (mCallV 3 fn_stretch (mCons (mVar 0) (mCons (mVar 1) (mCons (mVar 2) (mPure []))))))
  (mSeq (mIf (mOrT (mBol (mBin neD (mCallV 2 fn_joined (mCons (mVar 3) (mCons (mVar 4) (mPure [])))) (mPeek 0))) (mOrT (mBol (mBin neD (mCallV 1 fn_long_of (mCons (mVar 3) (mPure []))) (mPeek 1))) (mOrT (mNotT (mTru (mCallV 1 fn_is_line (mCons (mVar 3) (mPure []))))) ((mNotT (mTru (mCallV 1 fn_is_line (mCons (mVar 4) (mPure []))))))))) (mRet (mPure (.bool false))) (mPure .nx))
  (mSeq (mIf (mOrT (mBol (mBin neD (mCallV 1 fn_highs (mCons (mVar 3) (mPure []))) (mCallV 3 fn_between (mCons (mCallV 1 fn_highs (mCons (mVar 0) (mPure []))) (mCons (mPure (.int 0)) (mCons (mVar 1) (mPure []))))))) ((mBol (mBin neD (mCallV 2 fn_later (mCons (mCallV 1 fn_highs (mCons (mVar 4) (mPure []))) (mCons (mVar 1) (mPure [])))) (mCallV 3 fn_between (mCons (mCallV 1 fn_highs (mCons (mVar 0) (mPure []))) (mCons (mVar 1) (mCons (mVar 2) (mPure []))))))))) (mRet (mPure (.bool false))) (mPure .nx))
  (mSeq (mIf (mBol (mBinL eqD 1 (mPeek 2))) (mRet (mPure (.bool true))) (mPure .nx))
  (mSeq (mAsg (mCallV 2 fn_level_at (mCons (mVar 0) (mCons (mVar 1) (mPure [])))) (mStore 5))
  (mRet (mAnd (mBin eqD (mCallV 3 fn_stretch (mCons (mVar 0) (mCons (mVar 1) (mCons (mBinL addD 1 (mPure (.int 1))) (mPure []))))) (mTup (mCons (mTup (mCons (mVar 5) (mCons (mPure (.int 1)) (mPure [])))) (mPure [])))) (mBin eqD (mCallV 2 fn_is_in (mCons (mCallV 1 fn_highs (mCons (mVar 0) (mPure []))) (mCons (mVar 1) (mPure [])))) (mBinL eqD 5 (mPure (.int 1))))))))))))
def fn__law_cut_right : List D → Option (Rs D) := runV m__law_cut_right 6
abbrev s__law_cut_right : Stmt := topS 33
abbrev N__law_cut_right : List Str := ["_law_line_here", "_law_at", "_law_many", "_law_first", "_law_second", "_law_level"]
theorem sc__law_cut_right : FnScope N__law_cut_right ["_law_line_here", "_law_at"] (defScope s__law_cut_right) := ⟨rfl, rfl, rfl, by decide +kernel, rfl, by decide +kernel, by decide +kernel⟩
def C__law_turned_right_0 : M (List D) :=
  (mComp [3, 4] (mItems (mVar 0)) (gTupD 2 (gNamesD [3, 4])) (mPure true) (mVar 4))
def m__law_turned_right : M Fl :=
  (mSeq (mParEE 1 2 (mCallV 1 fn_long_of (mCons (mVar 0) (mPure []))) (mCallV 1 fn_turned (mCons (mVar 0) (mPure []))))
  (mSeq (mIf (mOrT (mBol (mBin neD (mCallV 1 fn_turned (mCons (mVar 2) (mPure []))) (mPeek 0))) (mOrT (mBol (mBin neD (mCallV 1 fn_rises (mCons (mVar 2) (mPure []))) (mCallV 1 fn_falls (mCons (mVar 0) (mPure []))))) ((mBol (mBin neD (mCallV 1 fn_falls (mCons (mVar 2) (mPure []))) (mCallV 1 fn_rises (mCons (mVar 0) (mPure [])))))))) (mRet (mPure (.bool false))) (mPure .nx))
  (mSeq (mIf (mOrT (mBol (mBin neD (mCallV 1 fn_highs (mCons (mVar 2) (mPure []))) (mCallV 2 fn_others (mCons (mCallV 1 fn_highs (mCons (mVar 0) (mPure []))) (mCons (mVar 1) (mPure [])))))) ((mBol (mBin neD (mCallV 2 fn_line_by (mCons (mCallV 1 fn_highs (mCons (mVar 2) (mPure []))) (mCons (mVar 1) (mPure [])))) (mPeek 2))))) (mRet (mPure (.bool false))) (mPure .nx))
  (mRet (mChain eqD eqD (mBin addD (mCallV 1 fn_how_many (mCons (mCallV 1 fn_highs (mCons (mVar 0) (mPure []))) (mPure []))) (mCallV 1 fn_how_many (mCons (mCallV 1 fn_highs (mCons (mVar 2) (mPure []))) (mPure [])))) (mVar 1) (mCall1 sumD (mVal C__law_turned_right_0)))))))
def fn__law_turned_right : List D → Option (Rs D) := runV m__law_turned_right 5
abbrev s__law_turned_right : Stmt := topS 34
abbrev N__law_turned_right : List Str := ["_law_line_here", "_law_many", "_law_other", "_law_level", "_law_wide"]
theorem sc__law_turned_right : FnScope N__law_turned_right ["_law_line_here"] (defScope s__law_turned_right) := ⟨rfl, rfl, rfl, by decide +kernel, rfl, by decide +kernel, by decide +kernel⟩
def C__law_slowed_right_0 : M (List D) :=
  (mComp [5] (mItems (mCallV 1 fn_rises (mCons (mVar 0) (mPure [])))) (mStore 5) (mPure true) (mBinL mulD 1 (mPeek 5)))
def C__law_slowed_right_1 : M (List D) :=
  (mComp [3, 4] (mItems (mCallV 1 fn_highs (mCons (mVar 0) (mPure [])))) (gTupD 2 (gNamesD [3, 4])) (mPure true) (mTup (mCons (mBinL mulD 1 (mPeek 3)) (mCons (mBinL mulD 1 (mPeek 4)) (mPure [])))))
def m__law_slowed_right : M Fl :=
  (mSeq (mAsg (mCallV 2 fn_slowed (mCons (mVar 0) (mCons (mVar 1) (mPure [])))) (mStore 2))
  (mSeq (mIf (mOrT (mBol (mBin neD (mCallV 1 fn_long_of (mCons (mVar 2) (mPure []))) (mBinL mulD 1 (mCallV 1 fn_long_of (mCons (mVar 0) (mPure [])))))) ((mBol (mBin neD (mCallV 1 fn_rises (mCons (mVar 2) (mPure []))) (mCall1 tupleD (mVal C__law_slowed_right_0)))))) (mRet (mPure (.bool false))) (mPure .nx))
  (mRet (mBin eqD (mCallV 1 fn_highs (mCons (mVar 2) (mPure []))) (mCall1 tupleD (mVal C__law_slowed_right_1))))))
def fn__law_slowed_right : List D → Option (Rs D) := runV m__law_slowed_right 6
abbrev s__law_slowed_right : Stmt := topS 35
abbrev N__law_slowed_right : List Str := ["_law_line_here", "_law_times", "_law_other", "_law_begin", "_law_end", "_law_t"]
theorem sc__law_slowed_right : FnScope N__law_slowed_right ["_law_line_here", "_law_times"] (defScope s__law_slowed_right) := ⟨rfl, rfl, rfl, by decide +kernel, rfl, by decide +kernel, by decide +kernel⟩
def L_law_0 : M Fl :=
  (mSeq (mAsg (mBin subD (mBin addD (mBinL ixD 6 (mCallB 2 2 fn__law_take (mCons (mCall1 lenD (mPeek 6)) (mPure [])))) (mCallB 2 2 fn__law_take (mCons (mPure (.int 3)) (mPure [])))) (mPure (.int 1))) (mStore 8))
  (mSeq (mAsg (mBin ixD (mLst (mCons (mCallN max2D (mCons (mPure (.int 0)) (mCons (mCallN min2D (mCons (mVar 5) (mCons (mVar 8) (mPure [])))) (mPure [])))) (mCons (mCallB 2 2 fn__law_take (mCons (mBinL addD 5 (mPure (.int 1))) (mPure []))) (mPure [])))) (mCallB 2 2 fn__law_take (mCons (mPure (.int 2)) (mPure [])))) (mStore 9))
  (mIf (mNotT (mTru (mCallV 2 fn__law_cut_right (mCons (mVar 3) (mCons (mVar 9) (mPure [])))))) (mRet (mPure (.bool false))) (mPure .nx))))
def R_law_0 : M Fl :=
  mFor (mRng1 (mCons (mPure (.int 5)) (mPure []))) (mStore 7) L_law_0
def L_law_1 : M Fl :=
  (mSeq (mAsgS 2 0 2 fn__law_box (mCons (mVar 1) (mPure [])))
  (mSeq (mAsg (mCallB 2 3 fn__law_line (mCons (mBin ixD (mLst (mCons (mPure (.int 9)) (mCons (mPure (.int 200)) (mPure [])))) (mCallB 2 2 fn__law_take (mCons (mPure (.int 2)) (mPure [])))) (mCons (mPure (.int 2000000)) (mPure [])))) (mStore 3))
  (mSeq (mParEE 4 5 (mCallB 2 3 fn__law_line (mCons (mPure (.int 9)) (mCons (mPure (.int 4000000)) (mPure [])))) (mCallV 1 fn_long_of (mCons (mVar 3) (mPure []))))
  (mSeq (mAsg (mBin addD (mBin addD (mBin addD (mLst (mCons (mPure (.int 0)) (mPure []))) (mVal (mCallN1 listD (mCallV 1 fn_rises (mCons (mVar 3) (mPure [])))))) (mVal (mCallN1 listD (mCallV 1 fn_falls (mCons (mVar 3) (mPure [])))))) (mLst (mCons (mVar 5) (mPure [])))) (mStore 6))
  (mSeq (R_law_0)
  (mSeq (mParEE 10 11 (mCallV 2 fn_joined (mCons (mVar 3) (mCons (mVar 4) (mPure [])))) (mVar 5))
  (mSeq (mIf (mOrT (mBol (mBin neD (mCallV 1 fn_highs (mCons (mVar 10) (mPure []))) (mCallV 2 fn_either_of (mCons (mCallV 1 fn_highs (mCons (mVar 3) (mPure []))) (mCons (mCallV 2 fn_later (mCons (mCallV 1 fn_highs (mCons (mVar 4) (mPure []))) (mCons (mVar 11) (mPure [])))) (mPure [])))))) ((mNotT (mTru (mCallV 1 fn_is_line (mCons (mVar 10) (mPure []))))))) (mRet (mPure (.bool false))) (mPure .nx))
  (mIf (mOrT (mNotT (mTru (mCallV 1 fn__law_turned_right (mCons (mVar 3) (mPure []))))) ((mNotT (mTru (mCallV 2 fn__law_slowed_right (mCons (mVar 3) (mCons (mBin addD (mPure (.int 1)) (mCallB 2 2 fn__law_take (mCons (mPure (.int 2)) (mPure [])))) (mPure [])))))))) (mRet (mPure (.bool false))) (mPure .nx)))))))))
def R_law_1 : M Fl :=
  mFor (mRng1 (mCons (mCallN max2D (mCons (mPure (.int 2)) (mCons (mCallN min2D (mCons (mPure (.int 5)) (mCons (mScrLen 0) (mPure [])))) (mPure [])))) (mPure []))) (mStore 1) L_law_1
def m_law : M Fl :=
  (mSeq (R_law_1)
  (mRet (mPure (.bool true))))
def fn_law : List Int → Option (Rs D) := runL m_law 12
abbrev s_law : Stmt := topS 36
abbrev N_law : List Str := ["_law_script", "_law_k", "_law_box_here", "_law_line_here", "_law_other", "_law_many", "_law_begins", "_law_turn", "_law_near", "_law_at", "_law_both", "_law_wide"]
theorem sc_law : FnScope N_law ["_law_script"] (defScope s_law) := ⟨rfl, rfl, rfl, by decide +kernel, rfl, by decide +kernel, by decide +kernel⟩
structure Tx (K : PySem.W.Frag) (mg : Str → Option Value) where
  a_is_whole : Addr
  fd_is_whole : FuncData
  F_is_whole : Fun K "is_whole" "is_whole" s_is_whole a_is_whole fd_is_whole
  g_is_whole : mg "is_whole" = some (.ref a_is_whole)
  b_is_whole : Binds K fd_is_whole ["thing"] []
  a__is_run : Addr
  fd__is_run : FuncData
  F__is_run : Fun K "_is_run" "_is_run" s__is_run a__is_run fd__is_run
  g__is_run : mg "_is_run" = some (.ref a__is_run)
  b__is_run : Binds K fd__is_run ["thing"] []
  a_is_line : Addr
  fd_is_line : FuncData
  F_is_line : Fun K "is_line" "is_line" s_is_line a_is_line fd_is_line
  g_is_line : mg "is_line" = some (.ref a_is_line)
  b_is_line : Binds K fd_is_line ["thing"] []
  a_long_of : Addr
  fd_long_of : FuncData
  F_long_of : Fun K "long_of" "long_of" s_long_of a_long_of fd_long_of
  g_long_of : mg "long_of" = some (.ref a_long_of)
  b_long_of : Binds K fd_long_of ["line"] []
  a_level_by : Addr
  fd_level_by : FuncData
  F_level_by : Fun K "level_by" "level_by" s_level_by a_level_by fd_level_by
  g_level_by : mg "level_by" = some (.ref a_level_by)
  b_level_by : Binds K fd_level_by ["line", "ends", "moment"] []
  a_ends_of : Addr
  fd_ends_of : FuncData
  F_ends_of : Fun K "ends_of" "ends_of" s_ends_of a_ends_of fd_ends_of
  g_ends_of : mg "ends_of" = some (.ref a_ends_of)
  b_ends_of : Binds K fd_ends_of ["line"] []
  a_level_at : Addr
  fd_level_at : FuncData
  F_level_at : Fun K "level_at" "level_at" s_level_at a_level_at fd_level_at
  g_level_at : mg "level_at" = some (.ref a_level_at)
  b_level_at : Binds K fd_level_at ["line", "moment"] []
  a_highs : Addr
  fd_highs : FuncData
  F_highs : Fun K "highs" "highs" s_highs a_highs fd_highs
  g_highs : mg "highs" = some (.ref a_highs)
  b_highs : Binds K fd_highs ["line"] []
  a_line_by : Addr
  fd_line_by : FuncData
  F_line_by : Fun K "line_by" "line_by" s_line_by a_line_by fd_line_by
  g_line_by : mg "line_by" = some (.ref a_line_by)
  b_line_by : Binds K fd_line_by ["some", "long"] []
  a__begins : Addr
  fd__begins : FuncData
  F__begins : Fun K "_begins" "_begins" s__begins a__begins fd__begins
  g__begins : mg "_begins" = some (.ref a__begins)
  b__begins : Binds K fd__begins ["line", "wanted"] []
  a_rises : Addr
  fd_rises : FuncData
  F_rises : Fun K "rises" "rises" s_rises a_rises fd_rises
  g_rises : mg "rises" = some (.ref a_rises)
  b_rises : Binds K fd_rises ["line"] []
  a_falls : Addr
  fd_falls : FuncData
  F_falls : Fun K "falls" "falls" s_falls a_falls fd_falls
  g_falls : mg "falls" = some (.ref a_falls)
  b_falls : Binds K fd_falls ["line"] []
  a_joined : Addr
  fd_joined : FuncData
  F_joined : Fun K "joined" "joined" s_joined a_joined fd_joined
  g_joined : mg "joined" = some (.ref a_joined)
  b_joined : Binds K fd_joined ["one", "other"] []
  a_stretch : Addr
  fd_stretch : FuncData
  F_stretch : Fun K "stretch" "stretch" s_stretch a_stretch fd_stretch
  g_stretch : mg "stretch" = some (.ref a_stretch)
  b_stretch : Binds K fd_stretch ["line", "begin", "end"] []
  a_turned : Addr
  fd_turned : FuncData
  F_turned : Fun K "turned" "turned" s_turned a_turned fd_turned
  g_turned : mg "turned" = some (.ref a_turned)
  b_turned : Binds K fd_turned ["line"] []
  a_slowed : Addr
  fd_slowed : FuncData
  F_slowed : Fun K "slowed" "slowed" s_slowed a_slowed fd_slowed
  g_slowed : mg "slowed" = some (.ref a_slowed)
  b_slowed : Binds K fd_slowed ["line", "times"] []
  a_spans_of : Addr
  fd_spans_of : FuncData
  F_spans_of : Fun K "spans_of" "spans_of" s_spans_of a_spans_of fd_spans_of
  g_spans_of : mg "spans_of" = some (.ref a_spans_of)
  b_spans_of : Binds K fd_spans_of ["pairs"] []
  a_both_of : Addr
  fd_both_of : FuncData
  F_both_of : Fun K "both_of" "both_of" s_both_of a_both_of fd_both_of
  g_both_of : mg "both_of" = some (.ref a_both_of)
  b_both_of : Binds K fd_both_of ["one", "other"] []
  a_either_of : Addr
  fd_either_of : FuncData
  F_either_of : Fun K "either_of" "either_of" s_either_of a_either_of fd_either_of
  g_either_of : mg "either_of" = some (.ref a_either_of)
  b_either_of : Binds K fd_either_of ["one", "other"] []
  a_others : Addr
  fd_others : FuncData
  F_others : Fun K "others" "others" s_others a_others fd_others
  g_others : mg "others" = some (.ref a_others)
  b_others : Binds K fd_others ["some", "below"] []
  a_later : Addr
  fd_later : FuncData
  F_later : Fun K "later" "later" s_later a_later fd_later
  g_later : mg "later" = some (.ref a_later)
  b_later : Binds K fd_later ["some", "n"] []
  a_between : Addr
  fd_between : FuncData
  F_between : Fun K "between" "between" s_between a_between fd_between
  g_between : mg "between" = some (.ref a_between)
  b_between : Binds K fd_between ["some", "begin", "end"] []
  a_is_in : Addr
  fd_is_in : FuncData
  F_is_in : Fun K "is_in" "is_in" s_is_in a_is_in fd_is_in
  g_is_in : mg "is_in" = some (.ref a_is_in)
  b_is_in : Binds K fd_is_in ["some", "moment"] []
  a_how_many : Addr
  fd_how_many : FuncData
  F_how_many : Fun K "how_many" "how_many" s_how_many a_how_many fd_how_many
  g_how_many : mg "how_many" = some (.ref a_how_many)
  b_how_many : Binds K fd_how_many ["some"] []
  a__law_box : Addr
  fd__law_box : FuncData
  F__law_box : Fun K "_law_box" "_law_box" s__law_box a__law_box fd__law_box
  g__law_box : mg "_law_box" = some (.ref a__law_box)
  b__law_box : Binds K fd__law_box ["_law_script", "_law_k"] []
  a__law_take : Addr
  fd__law_take : FuncData
  F__law_take : Fun K "_law_take" "_law_take" s__law_take a__law_take fd__law_take
  g__law_take : mg "_law_take" = some (.ref a__law_take)
  b__law_take : Binds K fd__law_take ["_law_box_here", "_law_many"] []
  a__law_line : Addr
  fd__law_line : FuncData
  F__law_line : Fun K "_law_line" "_law_line" s__law_line a__law_line fd__law_line
  g__law_line : mg "_law_line" = some (.ref a__law_line)
  b__law_line : Binds K fd__law_line ["_law_box_here", "_law_many", "_law_wide"] []
  a__law_cut_right : Addr
  fd__law_cut_right : FuncData
  F__law_cut_right : Fun K "_law_cut_right" "_law_cut_right" s__law_cut_right a__law_cut_right fd__law_cut_right
  g__law_cut_right : mg "_law_cut_right" = some (.ref a__law_cut_right)
  b__law_cut_right : Binds K fd__law_cut_right ["_law_line_here", "_law_at"] []
  a__law_turned_right : Addr
  fd__law_turned_right : FuncData
  F__law_turned_right : Fun K "_law_turned_right" "_law_turned_right" s__law_turned_right a__law_turned_right fd__law_turned_right
  g__law_turned_right : mg "_law_turned_right" = some (.ref a__law_turned_right)
  b__law_turned_right : Binds K fd__law_turned_right ["_law_line_here"] []
  a__law_slowed_right : Addr
  fd__law_slowed_right : FuncData
  F__law_slowed_right : Fun K "_law_slowed_right" "_law_slowed_right" s__law_slowed_right a__law_slowed_right fd__law_slowed_right
  g__law_slowed_right : mg "_law_slowed_right" = some (.ref a__law_slowed_right)
  b__law_slowed_right : Binds K fd__law_slowed_right ["_law_line_here", "_law_times"] []
  a_law : Addr
  fd_law : FuncData
  F_law : Fun K "law" "law" s_law a_law fd_law
  g_law : mg "law" = some (.ref a_law)
  b_law : Binds K fd_law ["_law_script"] []
  z_all : mg "all" = none
  z_any : mg "any" = none
  z_bool : mg "bool" = none
  z_int : mg "int" = none
  z_isinstance : mg "isinstance" = none
  z_len : mg "len" = none
  z_list : mg "list" = none
  z_max : mg "max" = none
  z_min : mg "min" = none
  z_range : mg "range" = none
  z_sorted : mg "sorted" = none
  z_sum : mg "sum" = none
  z_tuple : mg "tuple" = none
section
variable {P : Program} {w : World} {K : PySem.W.Frag} {mg : Str → Option Value} {base : Heap}
theorem ok_is_whole (T : Tx K mg) : FnOk P w K mg base (L2.CX P w) 1 T.a_is_whole T.fd_is_whole ["thing"] (spV K 1 fn_is_whole) := by
  have e : spV K 1 fn_is_whole = spV K ["thing"].length (runV m_is_whole N_is_whole.length) := rfl
  rw [e]
  refine okV2 (sc := ?sc) (bd := ?bd) (m := m_is_whole) T.F_is_whole sc_is_whole ?h1 ?h2 ?hb
  case h1 => conv => lhs; whnf
  case h2 => conv => lhs; whnf
  case hb => exact fun cdv A outer s H E hr => (by exact
    (dsOne (dRet (dAnd (dIsi (T.z_isinstance) (T.z_int) i_int (dpk 0) b_int) (dOne (dNot (dP (dIsi (T.z_isinstance) (T.z_bool) i_bool (dpk 0) b_bool))))))))
theorem ok__is_run (T : Tx K mg) : FnOk P w K mg base (L2.CX P w) 2 T.a__is_run T.fd__is_run ["thing"] (spV K 1 fn__is_run) := by
  have e : spV K 1 fn__is_run = spV K ["thing"].length (runV m__is_run N__is_run.length) := rfl
  rw [e]
  refine okV2 (sc := ?sc) (bd := ?bd) (m := m__is_run) T.F__is_run sc__is_run ?h1 ?h2 ?hb
  case h1 => conv => lhs; whnf
  case h2 => conv => lhs; whnf
  case hb => exact fun cdv A outer s H E hr => (by exact
    (dsCons (dIfS ((dwOr (dtNot (dTru (dP (dIsi (T.z_isinstance) (T.z_tuple) i_tuple (dpk 0) b_tuple)))) (dwOr1 (dtCmp (op_neD hr.units) opD_ne (nomark _) (dB1 cr_len cd_len (T.z_len) b_len (dpk 0)) (dP (dInt))))).pt) (dsOne (dRet (dBl))) dsNil)
      (dsCons (dAsg (dv 0) (dgTup rfl (dgsCons (dgName (i := 1) sc__is_run.nd) (dgsCons (dgName (i := 2) sc__is_run.nd) dgsNil2))))
      (dsOne (dRet (dAnd (dCallV (ok_is_whole T) (hr.mono (by decide)) T.g_is_whole T.F_is_whole.kp T.b_is_whole (takes_of rfl rfl rfl rfl) (dCons (dv 1) dNil)) (dAnd (dChain op_le opD_le op_le opD_le (dInt) (dv 1) (dP (dInt))) (dAnd (dCallV (ok_is_whole T) (hr.mono (by decide)) T.g_is_whole T.F_is_whole.kp T.b_is_whole (takes_of rfl rfl rfl rfl) (dCons (dv 2) dNil)) (dOne (dCmpL op_ge opD_ge (nomark _) (pv 2) (dP (dInt))))))))))))
theorem ok_is_line (T : Tx K mg) : FnOk P w K mg base (L2.CX P w) 3 T.a_is_line T.fd_is_line ["thing"] (spV K 1 fn_is_line) := by
  have e : spV K 1 fn_is_line = spV K ["thing"].length (runV m_is_line N_is_line.length) := rfl
  rw [e]
  refine okV2 (sc := ?sc) (bd := ?bd) (m := m_is_line) T.F_is_line sc_is_line ?h1 ?h2 ?hb
  case h1 => conv => lhs; whnf
  case h2 => conv => lhs; whnf
  case hb => exact fun cdv A outer s H E hr => (by exact
    (dsCons (dIfS ((dwOr (dtNot (dTru (dP (dIsi (T.z_isinstance) (T.z_tuple) i_tuple (dpk 0) b_tuple)))) (dwOr1 (dtNot (dTru (dP (dB1 (cr_all rfl) cd_all (T.z_all) b_all (dP (dVal (m := C_is_line_0) (dCompN (own := [("run", 2)]) rfl sc_is_line.nd (diSeq (dv 0)) (blkOk_by (N := N_is_line) (sc := defScope s_is_line) (by decide +kernel)) (fun _ _ _ _ _ => pg_name (i := 2) sc_is_line.nd rfl (by first | exact Or.inl rfl | exact Or.inr rfl)) (fun _ _ _ _ _ => pts_nil) (fun _ _ _ _ _ => (dCallV (ok__is_run T) (hr.mono (by decide)) T.g__is_run T.F__is_run.kp T.b__is_run takes0 (dCons (dv 2) dNil))) (ctName (by decide)) (fun _ _ _ => tYes_of)))))))))).pt) (dsOne (dRet (dBl))) dsNil)
      (dsOne (dRet (dB1 (cr_all rfl) cd_all (T.z_all) b_all (dP (dVal (m := C_is_line_1) (dCompN (own := [("at", 1)]) rfl sc_is_line.nd (diRng2 (T.z_range) (dCons (dInt) (dCons (dB1 cr_len cd_len (T.z_len) b_len (dpk 0)) dNil))) (blkOk_by (N := N_is_line) (sc := defScope s_is_line) (by decide +kernel)) (fun _ _ _ _ _ => pg_name (i := 1) sc_is_line.nd rfl (by first | exact Or.inl rfl | exact Or.inr rfl)) (fun _ _ _ _ _ => pts_nil) (fun _ _ _ _ _ => (dCmp (op_neD hr.units) opD_ne (nomark _) (dIx (dIxL (pv 0) (dpk 1)) (dP (dInt))) (dP (dIx (dIxL (pv 0) (dP (dOpL op_sub opD_sub (pv 1) (dP (dInt))))) (dP (dInt)))))) (ctName (by decide)) (fun _ _ _ => tYes_of)))))))))
theorem ok_long_of (T : Tx K mg) : FnOk P w K mg base (L2.CX P w) 1 T.a_long_of T.fd_long_of ["line"] (spV K 1 fn_long_of) := by
  have e : spV K 1 fn_long_of = spV K ["line"].length (runV m_long_of N_long_of.length) := rfl
  rw [e]
  refine okV2 (sc := ?sc) (bd := ?bd) (m := m_long_of) T.F_long_of sc_long_of ?h1 ?h2 ?hb
  case h1 => conv => lhs; whnf
  case h2 => conv => lhs; whnf
  case hb => exact fun cdv A outer s H E hr => (by exact
    (dsOne (dRet (dB1 (cr_sum rfl) cd_sum (T.z_sum) b_sum (dP (dVal (m := C_long_of_0) (dCompN (own := [("_", 1), ("long", 2)]) rfl sc_long_of.nd (diSeq (dv 0)) (blkOk_by (N := N_long_of) (sc := defScope s_long_of) (by decide +kernel)) (fun _ _ _ _ _ => pg_tup rfl (pgs_cons (pg_name (i := 1) sc_long_of.nd rfl (by first | exact Or.inl rfl | exact Or.inr rfl)) (pgs_cons (pg_name (i := 2) sc_long_of.nd rfl (by first | exact Or.inl rfl | exact Or.inr rfl)) pgs_nil))) (fun _ _ _ _ _ => pts_nil) (fun _ _ _ _ _ => (dv 2)) (ctTup (is := [1, 2]) (by decide)) (fun _ _ _ => tYes_of))))))))
theorem ok_level_by (T : Tx K mg) : FnOk P w K mg base (L2.CX P w) 1 T.a_level_by T.fd_level_by ["line", "ends", "moment"] (spV K 3 fn_level_by) := by
  have e : spV K 3 fn_level_by = spV K ["line", "ends", "moment"].length (runV m_level_by N_level_by.length) := rfl
  rw [e]
  refine okV2 (sc := ?sc) (bd := ?bd) (m := m_level_by) T.F_level_by sc_level_by ?h1 ?h2 ?hb
  case h1 => conv => lhs; whnf
  case h2 => conv => lhs; whnf
  case hb => exact fun cdv A outer s H E hr => (by exact
    (dsCons (dSet (i := 3) sc_level_by.nd (dInt))
      (dsCons (dSet (i := 4) sc_level_by.nd (dOp op_sub opD_sub (dB1 cr_len cd_len (T.z_len) b_len (dpk 1)) (dP (dInt))))
      (dsCons (dWhile (fuel := (fun _ => 1000)) (passes_of rfl) (dtCmpL op_lt opD_lt (nomark _) (pv 3) (dpk 4)) (mb := L_level_by_0) (dsCons (dSet (i := 5) sc_level_by.nd (dOp op_fdivW opD_div (dOpL or_addA opD_add (pv 3) (dpk 4)) (dP (dInt))))
      (dsOne (dIfS (dtCmpL op_lt opD_lt (nomark _) (pv 2) (dP (dIxL (pv 1) (dpk 5)))) (dsOne (dSet (i := 4) sc_level_by.nd (dv 5))) (dsOne (dSet (i := 3) sc_level_by.nd (dOpL or_addA opD_add (pv 5) (dP (dInt)))))))))
      (dsOne (dRet (dIx (dIxL (pv 0) (dpk 3)) (dP (dInt)))))))))
theorem ok_ends_of (T : Tx K mg) : FnOk P w K mg base (L2.CX P w) 1 T.a_ends_of T.fd_ends_of ["line"] (spV K 1 fn_ends_of) := by
  have e : spV K 1 fn_ends_of = spV K ["line"].length (runV m_ends_of N_ends_of.length) := rfl
  rw [e]
  refine okV2 (sc := ?sc) (bd := ?bd) (m := m_ends_of) T.F_ends_of sc_ends_of ?h1 ?h2 ?hb
  case h1 => conv => lhs; whnf
  case h2 => conv => lhs; whnf
  case hb => exact fun cdv A outer s H E hr => (by exact
    (dsCons (dsN (i := 1) sc_ends_of.nd (dLstN dNil))
      (dsCons (dSet (i := 2) sc_ends_of.nd (dInt))
      (dsCons (dFor (passes_of rfl) rfl (diSeq (dv 0)) (dgTup rfl (dgsCons (dgName (i := 3) sc_ends_of.nd) (dgsCons (dgName (i := 4) sc_ends_of.nd) dgsNil2))) (mb := L_ends_of_0) (dsCons (dAug (i := 2) sc_ends_of.nd iop_add opD_addI (dv 4))
      (dsOne (dExpr (PE.imp (pe_bm PySem.F.plainAttrs_list PySem.F.slot_list_append PySem.F.type_list_append mt_append (pv 1) (dCons (dv 2) dNil)) (fun _ _ _ => mut_of mut_app))))))
      (dsOne (dRet (dv 1)))))))
theorem ok_level_at (T : Tx K mg) : FnOk P w K mg base (L2.CX P w) 2 T.a_level_at T.fd_level_at ["line", "moment"] (spV K 2 fn_level_at) := by
  have e : spV K 2 fn_level_at = spV K ["line", "moment"].length (runV m_level_at N_level_at.length) := rfl
  rw [e]
  refine okV2 (sc := ?sc) (bd := ?bd) (m := m_level_at) T.F_level_at sc_level_at ?h1 ?h2 ?hb
  case h1 => conv => lhs; whnf
  case h2 => conv => lhs; whnf
  case hb => exact fun cdv A outer s H E hr => (by exact
    (dsCons (dIfS (dtNot (dtChain op_le opD_le op_lt opD_lt (dInt) (dv 1) (dP (dCallV (ok_long_of T) (hr.mono (by decide)) T.g_long_of T.F_long_of.kp T.b_long_of (takes_of rfl rfl rfl rfl) (dCons (dv 0) dNil))))) (dsOne (dNeverS)) dsNil)
      (dsOne (dRet (dCallV (ok_level_by T) (hr.mono (by decide)) T.g_level_by T.F_level_by.kp T.b_level_by (takes_of rfl rfl rfl rfl) (dCons (dv 0) (dCons (dCallV (ok_ends_of T) (hr.mono (by decide)) T.g_ends_of T.F_ends_of.kp T.b_ends_of (takes_of rfl rfl rfl rfl) (dCons (dv 0) dNil)) (dCons (dv 1) dNil))))))))
theorem ok_highs (T : Tx K mg) : FnOk P w K mg base (L2.CX P w) 1 T.a_highs T.fd_highs ["line"] (spV K 1 fn_highs) := by
  have e : spV K 1 fn_highs = spV K ["line"].length (runV m_highs N_highs.length) := rfl
  rw [e]
  refine okV2 (sc := ?sc) (bd := ?bd) (m := m_highs) T.F_highs sc_highs ?h1 ?h2 ?hb
  case h1 => conv => lhs; whnf
  case h2 => conv => lhs; whnf
  case hb => exact fun cdv A outer s H E hr => (by exact
    (dsCons (dsN (i := 1) sc_highs.nd (dLstN dNil))
      (dsCons (dSet (i := 2) sc_highs.nd (dInt))
      (dsCons (dFor (passes_of rfl) rfl (diSeq (dv 0)) (dgTup rfl (dgsCons (dgName (i := 3) sc_highs.nd) (dgsCons (dgName (i := 4) sc_highs.nd) dgsNil2))) (mb := L_highs_0) (dsCons (dIfS (dtCmpL (op_eqD hr.units) opD_eq (nomark _) (pv 3) (dP (dInt))) (dsOne (dExpr (PE.imp (pe_bm PySem.F.plainAttrs_list PySem.F.slot_list_append PySem.F.type_list_append mt_append (pv 1) (dCons (dTup (dCons (dv 2) (dCons (dOpL or_addA opD_add (pv 2) (dpk 4)) dNil))) dNil)) (fun _ _ _ => mut_of mut_app)))) dsNil)
      (dsOne (dAug (i := 2) sc_highs.nd iop_add opD_addI (dv 4)))))
      (dsOne (dRet (dTy1 call_tuple_of cd_tuple (T.z_tuple) b_tuple (dpk 1))))))))
theorem ok_line_by (T : Tx K mg) : FnOk P w K mg base (L2.CX P w) 1 T.a_line_by T.fd_line_by ["some", "long"] (spV K 2 fn_line_by) := by
  have e : spV K 2 fn_line_by = spV K ["some", "long"].length (runV m_line_by N_line_by.length) := rfl
  rw [e]
  refine okV2 (sc := ?sc) (bd := ?bd) (m := m_line_by) T.F_line_by sc_line_by ?h1 ?h2 ?hb
  case h1 => conv => lhs; whnf
  case h2 => conv => lhs; whnf
  case hb => exact fun cdv A outer s H E hr => (by exact
    (dsCons (dsN (i := 2) sc_line_by.nd (dLstN dNil))
      (dsCons (dSet (i := 3) sc_line_by.nd (dInt))
      (dsCons (dFor (passes_of rfl) rfl (diSeq (dv 0)) (dgTup rfl (dgsCons (dgName (i := 4) sc_line_by.nd) (dgsCons (dgName (i := 5) sc_line_by.nd) dgsNil2))) (mb := L_line_by_0) (dsCons (dIfS (dtCmpL op_lt opD_lt (nomark _) (pv 3) (dpk 4)) (dsOne (dExpr (PE.imp (pe_bm PySem.F.plainAttrs_list PySem.F.slot_list_append PySem.F.type_list_append mt_append (pv 2) (dCons (dTup (dCons (dInt) (dCons (dOpL op_sub opD_sub (pv 4) (dpk 3)) dNil))) dNil)) (fun _ _ _ => mut_of mut_app)))) dsNil)
      (dsCons (dExpr (PE.imp (pe_bm PySem.F.plainAttrs_list PySem.F.slot_list_append PySem.F.type_list_append mt_append (pv 2) (dCons (dTup (dCons (dInt) (dCons (dOpL op_sub opD_sub (pv 5) (dpk 4)) dNil))) dNil)) (fun _ _ _ => mut_of mut_app)))
      (dsOne (dSet (i := 3) sc_line_by.nd (dv 5))))))
      (dsCons (dIfS (dtCmpL op_lt opD_lt (nomark _) (pv 3) (dpk 1)) (dsOne (dExpr (PE.imp (pe_bm PySem.F.plainAttrs_list PySem.F.slot_list_append PySem.F.type_list_append mt_append (pv 2) (dCons (dTup (dCons (dInt) (dCons (dOpL op_sub opD_sub (pv 1) (dpk 3)) dNil))) dNil)) (fun _ _ _ => mut_of mut_app)))) dsNil)
      (dsOne (dRet (dTy1 call_tuple_of cd_tuple (T.z_tuple) b_tuple (dpk 2)))))))))
theorem ok__begins (T : Tx K mg) : FnOk P w K mg base (L2.CX P w) 1 T.a__begins T.fd__begins ["line", "wanted"] (spV K 2 fn__begins) := by
  have e : spV K 2 fn__begins = spV K ["line", "wanted"].length (runV m__begins N__begins.length) := rfl
  rw [e]
  refine okV2 (sc := ?sc) (bd := ?bd) (m := m__begins) T.F__begins sc__begins ?h1 ?h2 ?hb
  case h1 => conv => lhs; whnf
  case h2 => conv => lhs; whnf
  case hb => exact fun cdv A outer s H E hr => (by exact
    (dsCons (dsN (i := 2) sc__begins.nd (dLstN dNil))
      (dsCons (dSet (i := 3) sc__begins.nd (dInt))
      (dsCons (dFor (passes_of rfl) rfl (diSeq (dv 0)) (dgTup rfl (dgsCons (dgName (i := 4) sc__begins.nd) (dgsCons (dgName (i := 5) sc__begins.nd) dgsNil2))) (mb := L__begins_0) (dsCons (dIfS ((dwAnd (dtCmpL (op_eqD hr.units) opD_eq (nomark _) (pv 4) (dpk 1)) (dwAnd1 (dtCmpL op_gt opD_gt (nomark _) (pv 3) (dP (dInt))))).pt) (dsOne (dExpr (PE.imp (pe_bm PySem.F.plainAttrs_list PySem.F.slot_list_append PySem.F.type_list_append mt_append (pv 2) (dCons (dv 3) dNil)) (fun _ _ _ => mut_of mut_app)))) dsNil)
      (dsOne (dAug (i := 3) sc__begins.nd iop_add opD_addI (dv 5)))))
      (dsOne (dRet (dTy1 call_tuple_of cd_tuple (T.z_tuple) b_tuple (dpk 2))))))))
theorem ok_rises (T : Tx K mg) : FnOk P w K mg base (L2.CX P w) 2 T.a_rises T.fd_rises ["line"] (spV K 1 fn_rises) := by
  have e : spV K 1 fn_rises = spV K ["line"].length (runV m_rises N_rises.length) := rfl
  rw [e]
  refine okV2 (sc := ?sc) (bd := ?bd) (m := m_rises) T.F_rises sc_rises ?h1 ?h2 ?hb
  case h1 => conv => lhs; whnf
  case h2 => conv => lhs; whnf
  case hb => exact fun cdv A outer s H E hr => (by exact
    (dsOne (dRet (dCallV (ok__begins T) (hr.mono (by decide)) T.g__begins T.F__begins.kp T.b__begins (takes_of rfl rfl rfl rfl) (dCons (dv 0) (dCons (dInt) dNil))))))
theorem ok_falls (T : Tx K mg) : FnOk P w K mg base (L2.CX P w) 2 T.a_falls T.fd_falls ["line"] (spV K 1 fn_falls) := by
  have e : spV K 1 fn_falls = spV K ["line"].length (runV m_falls N_falls.length) := rfl
  rw [e]
  refine okV2 (sc := ?sc) (bd := ?bd) (m := m_falls) T.F_falls sc_falls ?h1 ?h2 ?hb
  case h1 => conv => lhs; whnf
  case h2 => conv => lhs; whnf
  case hb => exact fun cdv A outer s H E hr => (by exact
    (dsOne (dRet (dCallV (ok__begins T) (hr.mono (by decide)) T.g__begins T.F__begins.kp T.b__begins (takes_of rfl rfl rfl rfl) (dCons (dv 0) (dCons (dInt) dNil))))))
theorem ok_joined (T : Tx K mg) : FnOk P w K mg base (L2.CX P w) 1 T.a_joined T.fd_joined ["one", "other"] (spV K 2 fn_joined) := by
  have e : spV K 2 fn_joined = spV K ["one", "other"].length (runV m_joined N_joined.length) := rfl
  rw [e]
  refine okV2 (sc := ?sc) (bd := ?bd) (m := m_joined) T.F_joined sc_joined ?h1 ?h2 ?hb
  case h1 => conv => lhs; whnf
  case h2 => conv => lhs; whnf
  case hb => exact fun cdv A outer s H E hr => (by exact
    (dsCons (dIfS ((dwOr (dtNot (dTru (dpk 0))) (dwOr (dtNot (dTru (dpk 1))) (dwOr1 (dtCmp (op_neD hr.units) opD_ne (nomark _) (dIx (dIxL (pv 0) (dP (dNeg (dInt)))) (dP (dInt))) (dP (dIx (dIxL (pv 1) (dP (dInt))) (dP (dInt)))))))).pt) (dsOne (dRet (dTup (dStar (dpk 0) (dStar (dpk 1) dNil))))) dsNil)
      (dsCons (dAsg (dIxL (pv 0) (dP (dNeg (dInt)))) (dgTup rfl (dgsCons (dgName (i := 2) sc_joined.nd) (dgsCons (dgName (i := 3) sc_joined.nd) dgsNil2))))
      (dsOne (dRet (dTup (dStar (dP (dSlL (pv 0) dNoPart (dPart (dNeg (dInt))))) (dCons (dTup (dCons (dv 2) (dCons (dOpL or_addA opD_add (pv 3) (dP (dIx (dIxL (pv 1) (dP (dInt))) (dP (dInt))))) dNil))) (dStar (dP (dSlL (pv 1) (dPart (dInt)) dNoPart)) dNil)))))))))
theorem ok_stretch (T : Tx K mg) : FnOk P w K mg base (L2.CX P w) 1 T.a_stretch T.fd_stretch ["line", "begin", "end"] (spV K 3 fn_stretch) := by
  have e : spV K 3 fn_stretch = spV K ["line", "begin", "end"].length (runV m_stretch N_stretch.length) := rfl
  rw [e]
  refine okV2 (sc := ?sc) (bd := ?bd) (m := m_stretch) T.F_stretch sc_stretch ?h1 ?h2 ?hb
  case h1 => conv => lhs; whnf
  case h2 => conv => lhs; whnf
  case hb => exact fun cdv A outer s H E hr => (by exact
    (dsCons (dsN (i := 3) sc_stretch.nd (dLstN dNil))
      (dsCons (dSet (i := 4) sc_stretch.nd (dInt))
      (dsCons (dFor (passes_of rfl) rfl (diSeq (dv 0)) (dgTup rfl (dgsCons (dgName (i := 5) sc_stretch.nd) (dgsCons (dgName (i := 6) sc_stretch.nd) dgsNil2))) (mb := L_stretch_0) (dsCons (dSet (i := 7) sc_stretch.nd (dBn (call_max2 rfl) cd_max2 (T.z_max) b_max (dCons (dv 4) (dCons (dv 1) dNil))))
      (dsCons (dSet (i := 8) sc_stretch.nd (dBn (call_min2 rfl) cd_min2 (T.z_min) b_min (dCons (dOpL or_addA opD_add (pv 4) (dpk 6)) (dCons (dv 2) dNil))))
      (dsCons (dIfS (dtCmpL op_lt opD_lt (nomark _) (pv 7) (dpk 8)) (dsOne (dExpr (PE.imp (pe_bm PySem.F.plainAttrs_list PySem.F.slot_list_append PySem.F.type_list_append mt_append (pv 3) (dCons (dTup (dCons (dv 5) (dCons (dOpL op_sub opD_sub (pv 8) (dpk 7)) dNil))) dNil)) (fun _ _ _ => mut_of mut_app)))) dsNil)
      (dsOne (dAug (i := 4) sc_stretch.nd iop_add opD_addI (dv 6)))))))
      (dsOne (dRet (dTy1 call_tuple_of cd_tuple (T.z_tuple) b_tuple (dpk 3))))))))
theorem ok_turned (T : Tx K mg) : FnOk P w K mg base (L2.CX P w) 1 T.a_turned T.fd_turned ["line"] (spV K 1 fn_turned) := by
  have e : spV K 1 fn_turned = spV K ["line"].length (runV m_turned N_turned.length) := rfl
  rw [e]
  refine okV2 (sc := ?sc) (bd := ?bd) (m := m_turned) T.F_turned sc_turned ?h1 ?h2 ?hb
  case h1 => conv => lhs; whnf
  case h2 => conv => lhs; whnf
  case hb => exact fun cdv A outer s H E hr => (by exact
    (dsOne (dRet (dTy1 call_tuple_of cd_tuple (T.z_tuple) b_tuple (dP (dVal (m := C_turned_0) (dCompN (own := [("level", 1), ("long", 2)]) rfl sc_turned.nd (diSeq (dv 0)) (blkOk_by (N := N_turned) (sc := defScope s_turned) (by decide +kernel)) (fun _ _ _ _ _ => pg_tup rfl (pgs_cons (pg_name (i := 1) sc_turned.nd rfl (by first | exact Or.inl rfl | exact Or.inr rfl)) (pgs_cons (pg_name (i := 2) sc_turned.nd rfl (by first | exact Or.inl rfl | exact Or.inr rfl)) pgs_nil))) (fun _ _ _ _ _ => pts_nil) (fun _ _ _ _ _ => (dTup (dCons (dOp op_sub opD_sub (dInt) (dpk 1)) (dCons (dv 2) dNil)))) (ctTup (is := [1, 2]) (by decide)) (fun _ _ _ => tYes_of))))))))
theorem ok_slowed (T : Tx K mg) : FnOk P w K mg base (L2.CX P w) 1 T.a_slowed T.fd_slowed ["line", "times"] (spV K 2 fn_slowed) := by
  have e : spV K 2 fn_slowed = spV K ["line", "times"].length (runV m_slowed N_slowed.length) := rfl
  rw [e]
  refine okV2 (sc := ?sc) (bd := ?bd) (m := m_slowed) T.F_slowed sc_slowed ?h1 ?h2 ?hb
  case h1 => conv => lhs; whnf
  case h2 => conv => lhs; whnf
  case hb => exact fun cdv A outer s H E hr => (by exact
    (dsOne (dRet (dTy1 call_tuple_of cd_tuple (T.z_tuple) b_tuple (dP (dVal (m := C_slowed_0) (dCompN (own := [("level", 2), ("long", 3)]) rfl sc_slowed.nd (diSeq (dv 0)) (blkOk_by (N := N_slowed) (sc := defScope s_slowed) (by decide +kernel)) (fun _ _ _ _ _ => pg_tup rfl (pgs_cons (pg_name (i := 2) sc_slowed.nd rfl (by first | exact Or.inl rfl | exact Or.inr rfl)) (pgs_cons (pg_name (i := 3) sc_slowed.nd rfl (by first | exact Or.inl rfl | exact Or.inr rfl)) pgs_nil))) (fun _ _ _ _ _ => pts_nil) (fun _ _ _ _ _ => (dTup (dCons (dv 2) (dCons (dOpL or_mulA opD_mul (pv 3) (dpk 1)) dNil)))) (ctTup (is := [2, 3]) (by decide)) (fun _ _ _ => tYes_of))))))))
theorem ok_spans_of (T : Tx K mg) : FnOk P w K mg base (L2.CX P w) 1 T.a_spans_of T.fd_spans_of ["pairs"] (spV K 1 fn_spans_of) := by
  have e : spV K 1 fn_spans_of = spV K ["pairs"].length (runV m_spans_of N_spans_of.length) := rfl
  rw [e]
  refine okV2 (sc := ?sc) (bd := ?bd) (m := m_spans_of) T.F_spans_of sc_spans_of ?h1 ?h2 ?hb
  case h1 => conv => lhs; whnf
  case h2 => conv => lhs; whnf
  case hb => exact fun cdv A outer s H E hr => (by exact
    (dsCons (dsN (i := 1) sc_spans_of.nd (dLstN dNil))
      (dsCons (dFor (passes_of rfl) rfl (diSeq (dVal (dBN1 cr_sortDP cn_sort (T.z_sorted) b_sorted (dP (dVal (m := C_spans_of_0) (dCompN (own := [("pair", 4)]) rfl sc_spans_of.nd (diSeq (dv 0)) (blkOk_by (N := N_spans_of) (sc := defScope s_spans_of) (by decide +kernel)) (fun _ _ _ _ _ => pg_name (i := 4) sc_spans_of.nd rfl (by first | exact Or.inl rfl | exact Or.inr rfl)) (fun _ _ _ _ _ => pts_nil) (fun _ _ _ _ _ => (dTy1 call_tuple_of cd_tuple (T.z_tuple) b_tuple (dpk 4))) (ctName (by decide)) (fun _ _ _ => tYes_of))))))) (dgTup rfl (dgsCons (dgName (i := 2) sc_spans_of.nd) (dgsCons (dgName (i := 3) sc_spans_of.nd) dgsNil2))) (mb := L_spans_of_0) (dsOne (dIfS ((dwAnd (dTru (dpk 1)) (dwAnd1 (dtCmpL op_le opD_le (nomark _) (pv 2) (dP (dIx (dIxL (pv 1) (dP (dNeg (dInt)))) (dP (dInt))))))).pt) (dsOne (dAsg (dTup (dCons (dIx (dIxL (pv 1) (dP (dNeg (dInt)))) (dP (dInt))) (dCons (dBn (call_max2 rfl) cd_max2 (T.z_max) b_max (dCons (dIx (dIxL (pv 1) (dP (dNeg (dInt)))) (dP (dInt))) (dCons (dv 3) dNil))) dNil))) (dgSet (pv 1) (dNeg (dInt))))) (dsOne (dIfS (dtCmpL op_lt opD_lt (nomark _) (pv 2) (dpk 3)) (dsOne (dExpr (PE.imp (pe_bm PySem.F.plainAttrs_list PySem.F.slot_list_append PySem.F.type_list_append mt_append (pv 1) (dCons (dTup (dCons (dv 2) (dCons (dv 3) dNil))) dNil)) (fun _ _ _ => mut_of mut_app)))) dsNil)))))
      (dsOne (dRet (dTy1 call_tuple_of cd_tuple (T.z_tuple) b_tuple (dpk 1)))))))
theorem ok_both_of (T : Tx K mg) : FnOk P w K mg base (L2.CX P w) 1 T.a_both_of T.fd_both_of ["one", "other"] (spV K 2 fn_both_of) := by
  have e : spV K 2 fn_both_of = spV K ["one", "other"].length (runV m_both_of N_both_of.length) := rfl
  rw [e]
  refine okV2 (sc := ?sc) (bd := ?bd) (m := m_both_of) T.F_both_of sc_both_of ?h1 ?h2 ?hb
  case h1 => conv => lhs; whnf
  case h2 => conv => lhs; whnf
  case hb => exact fun cdv A outer s H E hr => (by exact
    (dsCons (dsN (i := 2) sc_both_of.nd (dLstN dNil))
      (dsCons (dSet (i := 3) sc_both_of.nd (dInt))
      (dsCons (dSet (i := 4) sc_both_of.nd (dInt))
      (dsCons (dWhile (fuel := (fun _ => 1000)) (passes_of rfl) ((dwAnd (dtCmpL op_lt opD_lt (nomark _) (pv 3) (dP (dB1 cr_len cd_len (T.z_len) b_len (dpk 0)))) (dwAnd1 (dtCmpL op_lt opD_lt (nomark _) (pv 4) (dP (dB1 cr_len cd_len (T.z_len) b_len (dpk 1)))))).pt) (mb := L_both_of_0) (dsCons (dSet (i := 5) sc_both_of.nd (dBn (call_max2 rfl) cd_max2 (T.z_max) b_max (dCons (dIx (dIxL (pv 0) (dpk 3)) (dP (dInt))) (dCons (dIx (dIxL (pv 1) (dpk 4)) (dP (dInt))) dNil))))
      (dsCons (dSet (i := 6) sc_both_of.nd (dBn (call_min2 rfl) cd_min2 (T.z_min) b_min (dCons (dIx (dIxL (pv 0) (dpk 3)) (dP (dInt))) (dCons (dIx (dIxL (pv 1) (dpk 4)) (dP (dInt))) dNil))))
      (dsCons (dIfS (dtCmpL op_lt opD_lt (nomark _) (pv 5) (dpk 6)) (dsOne (dExpr (PE.imp (pe_bm PySem.F.plainAttrs_list PySem.F.slot_list_append PySem.F.type_list_append mt_append (pv 2) (dCons (dTup (dCons (dv 5) (dCons (dv 6) dNil))) dNil)) (fun _ _ _ => mut_of mut_app)))) dsNil)
      (dsOne (dIfS (dtCmp op_lt opD_lt (nomark _) (dIx (dIxL (pv 0) (dpk 3)) (dP (dInt))) (dP (dIx (dIxL (pv 1) (dpk 4)) (dP (dInt))))) (dsOne (dAug (i := 3) sc_both_of.nd iop_add opD_addI (dInt))) (dsOne (dAug (i := 4) sc_both_of.nd iop_add opD_addI (dInt)))))))))
      (dsOne (dRet (dTy1 call_tuple_of cd_tuple (T.z_tuple) b_tuple (dpk 2)))))))))
theorem ok_either_of (T : Tx K mg) : FnOk P w K mg base (L2.CX P w) 2 T.a_either_of T.fd_either_of ["one", "other"] (spV K 2 fn_either_of) := by
  have e : spV K 2 fn_either_of = spV K ["one", "other"].length (runV m_either_of N_either_of.length) := rfl
  rw [e]
  refine okV2 (sc := ?sc) (bd := ?bd) (m := m_either_of) T.F_either_of sc_either_of ?h1 ?h2 ?hb
  case h1 => conv => lhs; whnf
  case h2 => conv => lhs; whnf
  case hb => exact fun cdv A outer s H E hr => (by exact
    (dsOne (dRet (dCallV (ok_spans_of T) (hr.mono (by decide)) T.g_spans_of T.F_spans_of.kp T.b_spans_of (takes_of rfl rfl rfl rfl) (dCons (dLst (dStar (dpk 0) (dStar (dpk 1) dNil))) dNil)))))
theorem ok_others (T : Tx K mg) : FnOk P w K mg base (L2.CX P w) 1 T.a_others T.fd_others ["some", "below"] (spV K 2 fn_others) := by
  have e : spV K 2 fn_others = spV K ["some", "below"].length (runV m_others N_others.length) := rfl
  rw [e]
  refine okV2 (sc := ?sc) (bd := ?bd) (m := m_others) T.F_others sc_others ?h1 ?h2 ?hb
  case h1 => conv => lhs; whnf
  case h2 => conv => lhs; whnf
  case hb => exact fun cdv A outer s H E hr => (by exact
    (dsCons (dsN (i := 2) sc_others.nd (dLstN dNil))
      (dsCons (dSet (i := 3) sc_others.nd (dInt))
      (dsCons (dFor (passes_of rfl) rfl (diSeq (dv 0)) (dgTup rfl (dgsCons (dgName (i := 4) sc_others.nd) (dgsCons (dgName (i := 5) sc_others.nd) dgsNil2))) (mb := L_others_0) (dsCons (dIfS (dtCmpL op_lt opD_lt (nomark _) (pv 3) (dP (dBn (call_min2 rfl) cd_min2 (T.z_min) b_min (dCons (dv 4) (dCons (dv 1) dNil))))) (dsOne (dExpr (PE.imp (pe_bm PySem.F.plainAttrs_list PySem.F.slot_list_append PySem.F.type_list_append mt_append (pv 2) (dCons (dTup (dCons (dv 3) (dCons (dBn (call_min2 rfl) cd_min2 (T.z_min) b_min (dCons (dv 4) (dCons (dv 1) dNil))) dNil))) dNil)) (fun _ _ _ => mut_of mut_app)))) dsNil)
      (dsOne (dSet (i := 3) sc_others.nd (dv 5)))))
      (dsCons (dIfS (dtCmpL op_lt opD_lt (nomark _) (pv 3) (dpk 1)) (dsOne (dExpr (PE.imp (pe_bm PySem.F.plainAttrs_list PySem.F.slot_list_append PySem.F.type_list_append mt_append (pv 2) (dCons (dTup (dCons (dv 3) (dCons (dv 1) dNil))) dNil)) (fun _ _ _ => mut_of mut_app)))) dsNil)
      (dsOne (dRet (dTy1 call_tuple_of cd_tuple (T.z_tuple) b_tuple (dpk 2)))))))))
theorem ok_later (T : Tx K mg) : FnOk P w K mg base (L2.CX P w) 1 T.a_later T.fd_later ["some", "n"] (spV K 2 fn_later) := by
  have e : spV K 2 fn_later = spV K ["some", "n"].length (runV m_later N_later.length) := rfl
  rw [e]
  refine okV2 (sc := ?sc) (bd := ?bd) (m := m_later) T.F_later sc_later ?h1 ?h2 ?hb
  case h1 => conv => lhs; whnf
  case h2 => conv => lhs; whnf
  case hb => exact fun cdv A outer s H E hr => (by exact
    (dsOne (dRet (dTy1 call_tuple_of cd_tuple (T.z_tuple) b_tuple (dP (dVal (m := C_later_0) (dCompN (own := [("begin", 2), ("end", 3)]) rfl sc_later.nd (diSeq (dv 0)) (blkOk_by (N := N_later) (sc := defScope s_later) (by decide +kernel)) (fun _ _ _ _ _ => pg_tup rfl (pgs_cons (pg_name (i := 2) sc_later.nd rfl (by first | exact Or.inl rfl | exact Or.inr rfl)) (pgs_cons (pg_name (i := 3) sc_later.nd rfl (by first | exact Or.inl rfl | exact Or.inr rfl)) pgs_nil))) (fun _ _ _ _ _ => pts_nil) (fun _ _ _ _ _ => (dTup (dCons (dOpL or_addA opD_add (pv 2) (dpk 1)) (dCons (dOpL or_addA opD_add (pv 3) (dpk 1)) dNil)))) (ctTup (is := [2, 3]) (by decide)) (fun _ _ _ => tYes_of))))))))
theorem ok_between (T : Tx K mg) : FnOk P w K mg base (L2.CX P w) 2 T.a_between T.fd_between ["some", "begin", "end"] (spV K 3 fn_between) := by
  have e : spV K 3 fn_between = spV K ["some", "begin", "end"].length (runV m_between N_between.length) := rfl
  rw [e]
  refine okV2 (sc := ?sc) (bd := ?bd) (m := m_between) T.F_between sc_between ?h1 ?h2 ?hb
  case h1 => conv => lhs; whnf
  case h2 => conv => lhs; whnf
  case hb => exact fun cdv A outer s H E hr => (by exact
    (dsOne (dRet (dCallV (ok_both_of T) (hr.mono (by decide)) T.g_both_of T.F_both_of.kp T.b_both_of (takes_of rfl rfl rfl rfl) (dCons (dv 0) (dCons (dCallV (ok_spans_of T) (hr.mono (by decide)) T.g_spans_of T.F_spans_of.kp T.b_spans_of (takes_of rfl rfl rfl rfl) (dCons (dLst (dCons (dTup (dCons (dv 1) (dCons (dv 2) dNil))) dNil)) dNil)) dNil))))))
theorem ok_is_in (T : Tx K mg) : FnOk P w K mg base (L2.CX P w) 1 T.a_is_in T.fd_is_in ["some", "moment"] (spV K 2 fn_is_in) := by
  have e : spV K 2 fn_is_in = spV K ["some", "moment"].length (runV m_is_in N_is_in.length) := rfl
  rw [e]
  refine okV2 (sc := ?sc) (bd := ?bd) (m := m_is_in) T.F_is_in sc_is_in ?h1 ?h2 ?hb
  case h1 => conv => lhs; whnf
  case h2 => conv => lhs; whnf
  case hb => exact fun cdv A outer s H E hr => (by exact
    (dsOne (dRet (dB1 (cr_any rfl) cd_any (T.z_any) b_any (dP (dVal (m := C_is_in_0) (dCompN (own := [("begin", 2), ("end", 3)]) rfl sc_is_in.nd (diSeq (dv 0)) (blkOk_by (N := N_is_in) (sc := defScope s_is_in) (by decide +kernel)) (fun _ _ _ _ _ => pg_tup rfl (pgs_cons (pg_name (i := 2) sc_is_in.nd rfl (by first | exact Or.inl rfl | exact Or.inr rfl)) (pgs_cons (pg_name (i := 3) sc_is_in.nd rfl (by first | exact Or.inl rfl | exact Or.inr rfl)) pgs_nil))) (fun _ _ _ _ _ => pts_nil) (fun _ _ _ _ _ => (dChain op_le opD_le op_lt opD_lt (dv 2) (dv 1) (dpk 3))) (ctTup (is := [2, 3]) (by decide)) (fun _ _ _ => tYes_of))))))))
theorem ok_how_many (T : Tx K mg) : FnOk P w K mg base (L2.CX P w) 1 T.a_how_many T.fd_how_many ["some"] (spV K 1 fn_how_many) := by
  have e : spV K 1 fn_how_many = spV K ["some"].length (runV m_how_many N_how_many.length) := rfl
  rw [e]
  refine okV2 (sc := ?sc) (bd := ?bd) (m := m_how_many) T.F_how_many sc_how_many ?h1 ?h2 ?hb
  case h1 => conv => lhs; whnf
  case h2 => conv => lhs; whnf
  case hb => exact fun cdv A outer s H E hr => (by exact
    (dsOne (dRet (dB1 (cr_sum rfl) cd_sum (T.z_sum) b_sum (dP (dVal (m := C_how_many_0) (dCompN (own := [("begin", 1), ("end", 2)]) rfl sc_how_many.nd (diSeq (dv 0)) (blkOk_by (N := N_how_many) (sc := defScope s_how_many) (by decide +kernel)) (fun _ _ _ _ _ => pg_tup rfl (pgs_cons (pg_name (i := 1) sc_how_many.nd rfl (by first | exact Or.inl rfl | exact Or.inr rfl)) (pgs_cons (pg_name (i := 2) sc_how_many.nd rfl (by first | exact Or.inl rfl | exact Or.inr rfl)) pgs_nil))) (fun _ _ _ _ _ => pts_nil) (fun _ _ _ _ _ => (dOpL op_sub opD_sub (pv 2) (dpk 1))) (ctTup (is := [1, 2]) (by decide)) (fun _ _ _ => tYes_of))))))))
theorem ok__law_box (T : Tx K mg) : FnOk P w K mg base (L2.CX P w) 1 T.a__law_box T.fd__law_box ["_law_script", "_law_k"] (spS K 2 fn__law_box) := by
  have e : spS K 2 fn__law_box = spS K ["_law_script", "_law_k"].length (runS m__law_box N__law_box.length) := rfl
  rw [e]
  refine okS2 (sc := ?sc) (bd := ?bd) (m := m__law_box) T.F__law_box sc__law_box ?h1 ?h2 ?hb
  case h1 => conv => lhs; whnf
  case h2 => conv => lhs; whnf
  case hb => exact fun cdv A outer s H E hr => (by exact
    (dsCons (dSet (i := 2) sc__law_box.nd (dOp or_addA opD_add (dOp or_mulA opD_mul (dInt) (dpk 1)) (dP (dInt))))
      (dsCons (dIfS (dtCmpL op_lt opD_lt (nomark _) (pv 1) (dP (dScrLen (T.z_len) (pv 0)))) (dsOne (dSet (i := 2) sc__law_box.nd (dScrIx (pv 0) (dv 1)))) (dsOne (dIfS (dtCmp op_gt opD_gt (nomark _) (dScrLen (T.z_len) (pv 0)) (dP (dInt))) (dsOne (dSet (i := 2) sc__law_box.nd (dOpL or_addA opD_add (pv 2) (dP (dOp or_mulA opD_mul (dOp op_mod opD_mod (dTy1 call_int1 cd_int (T.z_int) b_int (dP (dScrIx (pv 0) (dOp op_mod opD_mod (dTy1 call_int1 cd_int (T.z_int) b_int (dpk 1)) (dP (dScrLen (T.z_len) (pv 0))))))) (dP (dInt))) (dP (dInt))))))) dsNil)))
      (dsCons (dSet (i := 3) sc__law_box.nd (dOp or_addA opD_add (dOp op_mod opD_mod (dOp or_addA opD_add (dOp or_mulA opD_mul (dOp op_mod opD_mod (dTy1 call_int1 cd_int (T.z_int) b_int (dpk 2)) (dP (dInt))) (dP (dInt))) (dP (dOp or_mulA opD_mul (dInt) (dpk 1)))) (dP (dInt))) (dP (dInt))))
      (dsOne (dRetF (dCons (dIx (dLst (dCons (dInt) (dCons (dv 2) dNil))) (dP (dTy1 call_int1 cd_int (T.z_int) b_int (dP (dCmpL op_ge opD_ge (nomark _) (pv 2) (dP (dOp op_pow opD_pow (dInt) (dP (dInt))))))))) (dCons (dv 3) (dCons (dInt) dNil)))))))))
theorem ok__law_take (T : Tx K mg) : FnOk P w K mg base (L2.CX P w) 1 T.a__law_take T.fd__law_take ["_law_box_here", "_law_many"] (spB K 2 fn__law_take) := by
  have e : spB K 2 fn__law_take = spB K ["_law_box_here", "_law_many"].length (runB m__law_take N__law_take.length) := rfl
  rw [e]
  refine okB2 (sc := ?sc) (bd := ?bd) (m := m__law_take) T.F__law_take sc__law_take ?h1 ?h2 ?hb
  case h1 => conv => lhs; whnf
  case h2 => conv => lhs; whnf
  case hb => exact fun cdv A outer s H E hr => (by exact
    (dsCons (dIfS (dtCmp op_gt opD_gt (nomark _) (dIxL (pv 0) (dP (dInt))) (dP (dInt))) (dsCons (dSet (i := 2) sc__law_take.nd (dOp op_mod opD_mod (dTy1 call_int1 cd_int (T.z_int) b_int (dP (dIxL (pv 0) (dP (dInt))))) (dpk 1)))
      (dsCons (dAsg (dOp op_fdivW opD_div (dIxL (pv 0) (dP (dInt))) (dpk 1)) (dgSet (pv 0) (dInt)))
      (dsOne (dRet (dv 2))))) dsNil)
      (dsCons (dAsg (dOp or_addA opD_add (dIxL (pv 0) (dP (dInt))) (dP (dInt))) (dgSet (pv 0) (dInt)))
      (dsCons (dSet (i := 3) sc__law_take.nd (dOp op_mod opD_mod (dTy1 call_int1 cd_int (T.z_int) b_int (dP (dOp or_mulA opD_mul (dOp or_addA opD_add (dIxL (pv 0) (dP (dInt))) (dP (dOp or_mulA opD_mul (dInt) (dP (dIxL (pv 0) (dP (dInt))))))) (dP (dInt))))) (dP (dInt))))
      (dsCons (dAsg (dOp or_addA opD_add (dOp op_mod opD_mod (dOp or_addA opD_add (dOpL or_mulA opD_mul (pv 3) (dP (dInt))) (dP (dInt))) (dP (dInt))) (dP (dInt))) (dgSet (pv 0) (dInt)))
      (dsOne (dRet (dOp op_mod opD_mod (dOp op_fdivW opD_div (dOp or_addA opD_add (dOpL or_mulA opD_mul (pv 3) (dP (dInt))) (dP (dIxL (pv 0) (dP (dInt))))) (dP (dInt))) (dpk 1)))))))))
theorem ok__law_line (T : Tx K mg) : FnOk P w K mg base (L2.CX P w) 2 T.a__law_line T.fd__law_line ["_law_box_here", "_law_many", "_law_wide"] (spB K 3 fn__law_line) := by
  have e : spB K 3 fn__law_line = spB K ["_law_box_here", "_law_many", "_law_wide"].length (runB m__law_line N__law_line.length) := rfl
  rw [e]
  refine okB2 (sc := ?sc) (bd := ?bd) (m := m__law_line) T.F__law_line sc__law_line ?h1 ?h2 ?hb
  case h1 => conv => lhs; whnf
  case h2 => conv => lhs; whnf
  case hb => exact fun cdv A outer s H E hr => (by exact
    (dsCons (dParEN (i := 3) (j := 4) rfl sc__law_line.nd (by decide) (dCallB (ok__law_take T) (hr.mono (by decide)) T.g__law_take T.F__law_take.kp T.b__law_take (takes_of rfl rfl rfl rfl) (pv 0) (dCons (dInt) dNil)) (dLstN dNil))
      (dsCons (dFor (passes_of rfl) rfl (diRng1 (T.z_range) (dCons (dCallB (ok__law_take T) (hr.mono (by decide)) T.g__law_take T.F__law_take.kp T.b__law_take (takes_of rfl rfl rfl rfl) (pv 0) (dCons (dOpL or_addA opD_add (pv 1) (dP (dInt))) dNil)) dNil)) (dgName (i := 5) sc__law_line.nd) (mb := L__law_line_0) (dsOne (dExpr (PE.imp (pe_bm PySem.F.plainAttrs_list PySem.F.slot_list_append PySem.F.type_list_append mt_append (pv 4) (dCons (dTup (dCons (dOp op_mod opD_mod (dOpL or_addA opD_add (pv 3) (dpk 5)) (dP (dInt))) (dCons (dOp or_addA opD_add (dInt) (dP (dCallB (ok__law_take T) (hr.mono (by decide)) T.g__law_take T.F__law_take.kp T.b__law_take (takes_of rfl rfl rfl rfl) (pv 0) (dCons (dIx (dLst (dCons (dInt) (dCons (dInt) (dCons (dv 2) dNil)))) (dP (dCallB (ok__law_take T) (hr.mono (by decide)) T.g__law_take T.F__law_take.kp T.b__law_take (takes_of rfl rfl rfl rfl) (pv 0) (dCons (dInt) dNil)))) dNil)))) dNil))) dNil)) (fun _ _ _ => mut_of mut_app)))))
      (dsOne (dRet (dTy1 call_tuple_of cd_tuple (T.z_tuple) b_tuple (dpk 4)))))))
theorem ok__law_cut_right (T : Tx K mg) : FnOk P w K mg base (L2.CX P w) 4 T.a__law_cut_right T.fd__law_cut_right ["_law_line_here", "_law_at"] (spV K 2 fn__law_cut_right) := by
  have e : spV K 2 fn__law_cut_right = spV K ["_law_line_here", "_law_at"].length (runV m__law_cut_right N__law_cut_right.length) := rfl
  rw [e]
  refine okV2 (sc := ?sc) (bd := ?bd) (m := m__law_cut_right) T.F__law_cut_right sc__law_cut_right ?h1 ?h2 ?hb
  case h1 => conv => lhs; whnf
  case h2 => conv => lhs; whnf
  case hb => exact fun cdv A outer s H E hr => (by exact
    (dsCons (dSet (i := 2) sc__law_cut_right.nd (dCallV (ok_long_of T) (hr.mono (by decide)) T.g_long_of T.F_long_of.kp T.b_long_of (takes_of rfl rfl rfl rfl) (dCons (dv 0) dNil)))
      (dsCons (dParEE (i := 3) (j := 4) rfl sc__law_cut_right.nd (by decide) (dCallV (ok_stretch T) (hr.mono (by decide)) T.g_stretch T.F_stretch.kp T.b_stretch (takes_of rfl rfl rfl rfl) (dCons (dv 0) (dCons (dInt) (dCons (dv 1) dNil)))) (dCallV (ok_stretch T) (hr.mono (by decide)) T.g_stretch T.F_stretch.kp T.b_stretch (takes_of rfl rfl rfl rfl) (dCons (dv 0) (dCons (dv 1) (dCons (dv 2) dNil)))))
      (dsCons (dIfS ((dwOr (dtCmp (op_neD hr.units) opD_ne (nomark _) (dCallV (ok_joined T) (hr.mono (by decide)) T.g_joined T.F_joined.kp T.b_joined (takes_of rfl rfl rfl rfl) (dCons (dv 3) (dCons (dv 4) dNil))) (dpk 0)) (dwOr (dtCmp (op_neD hr.units) opD_ne (nomark _) (dCallV (ok_long_of T) (hr.mono (by decide)) T.g_long_of T.F_long_of.kp T.b_long_of (takes_of rfl rfl rfl rfl) (dCons (dv 3) dNil)) (dpk 1)) (dwOr (dtNot (dTru (dP (dCallV (ok_is_line T) (hr.mono (by decide)) T.g_is_line T.F_is_line.kp T.b_is_line (takes_of rfl rfl rfl rfl) (dCons (dv 3) dNil))))) (dwOr1 (dtNot (dTru (dP (dCallV (ok_is_line T) (hr.mono (by decide)) T.g_is_line T.F_is_line.kp T.b_is_line (takes_of rfl rfl rfl rfl) (dCons (dv 4) dNil))))))))).pt) (dsOne (dRet (dBl))) dsNil)
      (dsCons (dIfS ((dwOr (dtCmp (op_neD hr.units) opD_ne (nomark _) (dCallV (ok_highs T) (hr.mono (by decide)) T.g_highs T.F_highs.kp T.b_highs (takes_of rfl rfl rfl rfl) (dCons (dv 3) dNil)) (dP (dCallV (ok_between T) (hr.mono (by decide)) T.g_between T.F_between.kp T.b_between (takes_of rfl rfl rfl rfl) (dCons (dCallV (ok_highs T) (hr.mono (by decide)) T.g_highs T.F_highs.kp T.b_highs (takes_of rfl rfl rfl rfl) (dCons (dv 0) dNil)) (dCons (dInt) (dCons (dv 1) dNil)))))) (dwOr1 (dtCmp (op_neD hr.units) opD_ne (nomark _) (dCallV (ok_later T) (hr.mono (by decide)) T.g_later T.F_later.kp T.b_later (takes_of rfl rfl rfl rfl) (dCons (dCallV (ok_highs T) (hr.mono (by decide)) T.g_highs T.F_highs.kp T.b_highs (takes_of rfl rfl rfl rfl) (dCons (dv 4) dNil)) (dCons (dv 1) dNil))) (dP (dCallV (ok_between T) (hr.mono (by decide)) T.g_between T.F_between.kp T.b_between (takes_of rfl rfl rfl rfl) (dCons (dCallV (ok_highs T) (hr.mono (by decide)) T.g_highs T.F_highs.kp T.b_highs (takes_of rfl rfl rfl rfl) (dCons (dv 0) dNil)) (dCons (dv 1) (dCons (dv 2) dNil)))))))).pt) (dsOne (dRet (dBl))) dsNil)
      (dsCons (dIfS (dtCmpL (op_eqD hr.units) opD_eq (nomark _) (pv 1) (dpk 2)) (dsOne (dRet (dBl))) dsNil)
      (dsCons (dSet (i := 5) sc__law_cut_right.nd (dCallV (ok_level_at T) (hr.mono (by decide)) T.g_level_at T.F_level_at.kp T.b_level_at (takes_of rfl rfl rfl rfl) (dCons (dv 0) (dCons (dv 1) dNil))))
      (dsOne (dRet (dAnd (dCmp (op_eqD hr.units) opD_eq (nomark _) (dCallV (ok_stretch T) (hr.mono (by decide)) T.g_stretch T.F_stretch.kp T.b_stretch (takes_of rfl rfl rfl rfl) (dCons (dv 0) (dCons (dv 1) (dCons (dOpL or_addA opD_add (pv 1) (dP (dInt))) dNil)))) (dP (dTup (dCons (dTup (dCons (dv 5) (dCons (dInt) dNil))) dNil)))) (dOne (dCmp (op_eqD hr.units) opD_eq (nomark _) (dCallV (ok_is_in T) (hr.mono (by decide)) T.g_is_in T.F_is_in.kp T.b_is_in (takes_of rfl rfl rfl rfl) (dCons (dCallV (ok_highs T) (hr.mono (by decide)) T.g_highs T.F_highs.kp T.b_highs (takes_of rfl rfl rfl rfl) (dCons (dv 0) dNil)) (dCons (dv 1) dNil))) (dP (dCmpL (op_eqD hr.units) opD_eq (nomark _) (pv 5) (dP (dInt))))))))))))))))
theorem ok__law_turned_right (T : Tx K mg) : FnOk P w K mg base (L2.CX P w) 3 T.a__law_turned_right T.fd__law_turned_right ["_law_line_here"] (spV K 1 fn__law_turned_right) := by
  have e : spV K 1 fn__law_turned_right = spV K ["_law_line_here"].length (runV m__law_turned_right N__law_turned_right.length) := rfl
  rw [e]
  refine okV2 (sc := ?sc) (bd := ?bd) (m := m__law_turned_right) T.F__law_turned_right sc__law_turned_right ?h1 ?h2 ?hb
  case h1 => conv => lhs; whnf
  case h2 => conv => lhs; whnf
  case hb => exact fun cdv A outer s H E hr => (by exact
    (dsCons (dParEE (i := 1) (j := 2) rfl sc__law_turned_right.nd (by decide) (dCallV (ok_long_of T) (hr.mono (by decide)) T.g_long_of T.F_long_of.kp T.b_long_of (takes_of rfl rfl rfl rfl) (dCons (dv 0) dNil)) (dCallV (ok_turned T) (hr.mono (by decide)) T.g_turned T.F_turned.kp T.b_turned (takes_of rfl rfl rfl rfl) (dCons (dv 0) dNil)))
      (dsCons (dIfS ((dwOr (dtCmp (op_neD hr.units) opD_ne (nomark _) (dCallV (ok_turned T) (hr.mono (by decide)) T.g_turned T.F_turned.kp T.b_turned (takes_of rfl rfl rfl rfl) (dCons (dv 2) dNil)) (dpk 0)) (dwOr (dtCmp (op_neD hr.units) opD_ne (nomark _) (dCallV (ok_rises T) (hr.mono (by decide)) T.g_rises T.F_rises.kp T.b_rises (takes_of rfl rfl rfl rfl) (dCons (dv 2) dNil)) (dP (dCallV (ok_falls T) (hr.mono (by decide)) T.g_falls T.F_falls.kp T.b_falls (takes_of rfl rfl rfl rfl) (dCons (dv 0) dNil)))) (dwOr1 (dtCmp (op_neD hr.units) opD_ne (nomark _) (dCallV (ok_falls T) (hr.mono (by decide)) T.g_falls T.F_falls.kp T.b_falls (takes_of rfl rfl rfl rfl) (dCons (dv 2) dNil)) (dP (dCallV (ok_rises T) (hr.mono (by decide)) T.g_rises T.F_rises.kp T.b_rises (takes_of rfl rfl rfl rfl) (dCons (dv 0) dNil))))))).pt) (dsOne (dRet (dBl))) dsNil)
      (dsCons (dIfS ((dwOr (dtCmp (op_neD hr.units) opD_ne (nomark _) (dCallV (ok_highs T) (hr.mono (by decide)) T.g_highs T.F_highs.kp T.b_highs (takes_of rfl rfl rfl rfl) (dCons (dv 2) dNil)) (dP (dCallV (ok_others T) (hr.mono (by decide)) T.g_others T.F_others.kp T.b_others (takes_of rfl rfl rfl rfl) (dCons (dCallV (ok_highs T) (hr.mono (by decide)) T.g_highs T.F_highs.kp T.b_highs (takes_of rfl rfl rfl rfl) (dCons (dv 0) dNil)) (dCons (dv 1) dNil))))) (dwOr1 (dtCmp (op_neD hr.units) opD_ne (nomark _) (dCallV (ok_line_by T) (hr.mono (by decide)) T.g_line_by T.F_line_by.kp T.b_line_by (takes_of rfl rfl rfl rfl) (dCons (dCallV (ok_highs T) (hr.mono (by decide)) T.g_highs T.F_highs.kp T.b_highs (takes_of rfl rfl rfl rfl) (dCons (dv 2) dNil)) (dCons (dv 1) dNil))) (dpk 2)))).pt) (dsOne (dRet (dBl))) dsNil)
      (dsOne (dRet (dChain (op_eqD hr.units) opD_eq (op_eqD hr.units) opD_eq (dOp or_addA opD_add (dCallV (ok_how_many T) (hr.mono (by decide)) T.g_how_many T.F_how_many.kp T.b_how_many (takes_of rfl rfl rfl rfl) (dCons (dCallV (ok_highs T) (hr.mono (by decide)) T.g_highs T.F_highs.kp T.b_highs (takes_of rfl rfl rfl rfl) (dCons (dv 0) dNil)) dNil)) (dP (dCallV (ok_how_many T) (hr.mono (by decide)) T.g_how_many T.F_how_many.kp T.b_how_many (takes_of rfl rfl rfl rfl) (dCons (dCallV (ok_highs T) (hr.mono (by decide)) T.g_highs T.F_highs.kp T.b_highs (takes_of rfl rfl rfl rfl) (dCons (dv 2) dNil)) dNil)))) (dv 1) (dP (dB1 (cr_sum rfl) cd_sum (T.z_sum) b_sum (dP (dVal (m := C__law_turned_right_0) (dCompN (own := [("_law_level", 3), ("_law_wide", 4)]) rfl sc__law_turned_right.nd (diSeq (dv 0)) (blkOk_by (N := N__law_turned_right) (sc := defScope s__law_turned_right) (by decide +kernel)) (fun _ _ _ _ _ => pg_tup rfl (pgs_cons (pg_name (i := 3) sc__law_turned_right.nd rfl (by first | exact Or.inl rfl | exact Or.inr rfl)) (pgs_cons (pg_name (i := 4) sc__law_turned_right.nd rfl (by first | exact Or.inl rfl | exact Or.inr rfl)) pgs_nil))) (fun _ _ _ _ _ => pts_nil) (fun _ _ _ _ _ => (dv 4)) (ctTup (is := [3, 4]) (by decide)) (fun _ _ _ => tYes_of)))))))))))))
theorem ok__law_slowed_right (T : Tx K mg) : FnOk P w K mg base (L2.CX P w) 3 T.a__law_slowed_right T.fd__law_slowed_right ["_law_line_here", "_law_times"] (spV K 2 fn__law_slowed_right) := by
  have e : spV K 2 fn__law_slowed_right = spV K ["_law_line_here", "_law_times"].length (runV m__law_slowed_right N__law_slowed_right.length) := rfl
  rw [e]
  refine okV2 (sc := ?sc) (bd := ?bd) (m := m__law_slowed_right) T.F__law_slowed_right sc__law_slowed_right ?h1 ?h2 ?hb
  case h1 => conv => lhs; whnf
  case h2 => conv => lhs; whnf
  case hb => exact fun cdv A outer s H E hr => (by exact
    (dsCons (dSet (i := 2) sc__law_slowed_right.nd (dCallV (ok_slowed T) (hr.mono (by decide)) T.g_slowed T.F_slowed.kp T.b_slowed (takes_of rfl rfl rfl rfl) (dCons (dv 0) (dCons (dv 1) dNil))))
      (dsCons (dIfS ((dwOr (dtCmp (op_neD hr.units) opD_ne (nomark _) (dCallV (ok_long_of T) (hr.mono (by decide)) T.g_long_of T.F_long_of.kp T.b_long_of (takes_of rfl rfl rfl rfl) (dCons (dv 2) dNil)) (dP (dOpL or_mulA opD_mul (pv 1) (dP (dCallV (ok_long_of T) (hr.mono (by decide)) T.g_long_of T.F_long_of.kp T.b_long_of (takes_of rfl rfl rfl rfl) (dCons (dv 0) dNil)))))) (dwOr1 (dtCmp (op_neD hr.units) opD_ne (nomark _) (dCallV (ok_rises T) (hr.mono (by decide)) T.g_rises T.F_rises.kp T.b_rises (takes_of rfl rfl rfl rfl) (dCons (dv 2) dNil)) (dP (dTy1 call_tuple_of cd_tuple (T.z_tuple) b_tuple (dP (dVal (m := C__law_slowed_right_0) (dCompN (own := [("_law_t", 5)]) rfl sc__law_slowed_right.nd (diSeq (dCallV (ok_rises T) (hr.mono (by decide)) T.g_rises T.F_rises.kp T.b_rises (takes_of rfl rfl rfl rfl) (dCons (dv 0) dNil))) (blkOk_by (N := N__law_slowed_right) (sc := defScope s__law_slowed_right) (by decide +kernel)) (fun _ _ _ _ _ => pg_name (i := 5) sc__law_slowed_right.nd rfl (by first | exact Or.inl rfl | exact Or.inr rfl)) (fun _ _ _ _ _ => pts_nil) (fun _ _ _ _ _ => (dOpL or_mulA opD_mul (pv 1) (dpk 5))) (ctName (by decide)) (fun _ _ _ => tYes_of))))))))).pt) (dsOne (dRet (dBl))) dsNil)
      (dsOne (dRet (dCmp (op_eqD hr.units) opD_eq (nomark _) (dCallV (ok_highs T) (hr.mono (by decide)) T.g_highs T.F_highs.kp T.b_highs (takes_of rfl rfl rfl rfl) (dCons (dv 2) dNil)) (dP (dTy1 call_tuple_of cd_tuple (T.z_tuple) b_tuple (dP (dVal (m := C__law_slowed_right_1) (dCompN (own := [("_law_begin", 3), ("_law_end", 4)]) rfl sc__law_slowed_right.nd (diSeq (dCallV (ok_highs T) (hr.mono (by decide)) T.g_highs T.F_highs.kp T.b_highs (takes_of rfl rfl rfl rfl) (dCons (dv 0) dNil))) (blkOk_by (N := N__law_slowed_right) (sc := defScope s__law_slowed_right) (by decide +kernel)) (fun _ _ _ _ _ => pg_tup rfl (pgs_cons (pg_name (i := 3) sc__law_slowed_right.nd rfl (by first | exact Or.inl rfl | exact Or.inr rfl)) (pgs_cons (pg_name (i := 4) sc__law_slowed_right.nd rfl (by first | exact Or.inl rfl | exact Or.inr rfl)) pgs_nil))) (fun _ _ _ _ _ => pts_nil) (fun _ _ _ _ _ => (dTup (dCons (dOpL or_mulA opD_mul (pv 1) (dpk 3)) (dCons (dOpL or_mulA opD_mul (pv 1) (dpk 4)) dNil)))) (ctTup (is := [3, 4]) (by decide)) (fun _ _ _ => tYes_of))))))))))))
theorem ok_law (T : Tx K mg) : FnOk P w K mg base (L2.CX P w) 5 T.a_law T.fd_law ["_law_script"] (spL K fn_law) := by
  have e : spL K fn_law = spL K (runL m_law N_law.length) := rfl
  rw [e]
  refine okL2 (sc := ?sc) (bd := ?bd) (m := m_law) T.F_law rfl sc_law ?h1 ?h2 ?hb
  case h1 => conv => lhs; whnf
  case h2 => conv => lhs; whnf
  case hb => exact fun cdv A outer s H E hr => (by exact
    (dsCons (dFor (passes_of rfl) rfl (diRng1 (T.z_range) (dCons (dBn (call_max2 rfl) cd_max2 (T.z_max) b_max (dCons (dInt) (dCons (dBn (call_min2 rfl) cd_min2 (T.z_min) b_min (dCons (dInt) (dCons (dScrLen (T.z_len) (pv 0)) dNil))) dNil))) dNil)) (dgName (i := 1) sc_law.nd) (mb := L_law_1) (dsCons (dCallSt (i := 2) (ok__law_box T) (hr.mono (by decide)) T.g__law_box T.F__law_box.kp T.b__law_box (takes_of rfl rfl rfl rfl) sc_law.nd (pv 0) (dCons (dv 1) dNil))
      (dsCons (dSet (i := 3) sc_law.nd (dCallB (ok__law_line T) (hr.mono (by decide)) T.g__law_line T.F__law_line.kp T.b__law_line (takes_of rfl rfl rfl rfl) (pv 2) (dCons (dIx (dLst (dCons (dInt) (dCons (dInt) dNil))) (dP (dCallB (ok__law_take T) (hr.mono (by decide)) T.g__law_take T.F__law_take.kp T.b__law_take (takes_of rfl rfl rfl rfl) (pv 2) (dCons (dInt) dNil)))) (dCons (dInt) dNil))))
      (dsCons (dParEE (i := 4) (j := 5) rfl sc_law.nd (by decide) (dCallB (ok__law_line T) (hr.mono (by decide)) T.g__law_line T.F__law_line.kp T.b__law_line (takes_of rfl rfl rfl rfl) (pv 2) (dCons (dInt) (dCons (dInt) dNil))) (dCallV (ok_long_of T) (hr.mono (by decide)) T.g_long_of T.F_long_of.kp T.b_long_of (takes_of rfl rfl rfl rfl) (dCons (dv 3) dNil)))
      (dsCons (dSet (i := 6) sc_law.nd (dOp or_addA opD_add (dOp or_addA opD_add (dOp or_addA opD_add (dLst (dCons (dInt) dNil)) (dP (dVal (dTyN1 call_list_of cn_list (T.z_list) b_list (dP (dCallV (ok_rises T) (hr.mono (by decide)) T.g_rises T.F_rises.kp T.b_rises (takes_of rfl rfl rfl rfl) (dCons (dv 3) dNil))))))) (dP (dVal (dTyN1 call_list_of cn_list (T.z_list) b_list (dP (dCallV (ok_falls T) (hr.mono (by decide)) T.g_falls T.F_falls.kp T.b_falls (takes_of rfl rfl rfl rfl) (dCons (dv 3) dNil))))))) (dP (dLst (dCons (dv 5) dNil)))))
      (dsCons (dFor (passes_of rfl) rfl (diRng1 (T.z_range) (dCons (dInt) dNil)) (dgName (i := 7) sc_law.nd) (mb := L_law_0) (dsCons (dSet (i := 8) sc_law.nd (dOp op_sub opD_sub (dOp or_addA opD_add (dIxL (pv 6) (dP (dCallB (ok__law_take T) (hr.mono (by decide)) T.g__law_take T.F__law_take.kp T.b__law_take (takes_of rfl rfl rfl rfl) (pv 2) (dCons (dB1 cr_len cd_len (T.z_len) b_len (dpk 6)) dNil)))) (dP (dCallB (ok__law_take T) (hr.mono (by decide)) T.g__law_take T.F__law_take.kp T.b__law_take (takes_of rfl rfl rfl rfl) (pv 2) (dCons (dInt) dNil)))) (dP (dInt))))
      (dsCons (dSet (i := 9) sc_law.nd (dIx (dLst (dCons (dBn (call_max2 rfl) cd_max2 (T.z_max) b_max (dCons (dInt) (dCons (dBn (call_min2 rfl) cd_min2 (T.z_min) b_min (dCons (dv 5) (dCons (dv 8) dNil))) dNil))) (dCons (dCallB (ok__law_take T) (hr.mono (by decide)) T.g__law_take T.F__law_take.kp T.b__law_take (takes_of rfl rfl rfl rfl) (pv 2) (dCons (dOpL or_addA opD_add (pv 5) (dP (dInt))) dNil)) dNil))) (dP (dCallB (ok__law_take T) (hr.mono (by decide)) T.g__law_take T.F__law_take.kp T.b__law_take (takes_of rfl rfl rfl rfl) (pv 2) (dCons (dInt) dNil)))))
      (dsOne (dIfS (dtNot (dTru (dP (dCallV (ok__law_cut_right T) (hr.mono (by decide)) T.g__law_cut_right T.F__law_cut_right.kp T.b__law_cut_right (takes_of rfl rfl rfl rfl) (dCons (dv 3) (dCons (dv 9) dNil)))))) (dsOne (dRet (dBl))) dsNil)))))
      (dsCons (dParEE (i := 10) (j := 11) rfl sc_law.nd (by decide) (dCallV (ok_joined T) (hr.mono (by decide)) T.g_joined T.F_joined.kp T.b_joined (takes_of rfl rfl rfl rfl) (dCons (dv 3) (dCons (dv 4) dNil))) (dv 5))
      (dsCons (dIfS ((dwOr (dtCmp (op_neD hr.units) opD_ne (nomark _) (dCallV (ok_highs T) (hr.mono (by decide)) T.g_highs T.F_highs.kp T.b_highs (takes_of rfl rfl rfl rfl) (dCons (dv 10) dNil)) (dP (dCallV (ok_either_of T) (hr.mono (by decide)) T.g_either_of T.F_either_of.kp T.b_either_of (takes_of rfl rfl rfl rfl) (dCons (dCallV (ok_highs T) (hr.mono (by decide)) T.g_highs T.F_highs.kp T.b_highs (takes_of rfl rfl rfl rfl) (dCons (dv 3) dNil)) (dCons (dCallV (ok_later T) (hr.mono (by decide)) T.g_later T.F_later.kp T.b_later (takes_of rfl rfl rfl rfl) (dCons (dCallV (ok_highs T) (hr.mono (by decide)) T.g_highs T.F_highs.kp T.b_highs (takes_of rfl rfl rfl rfl) (dCons (dv 4) dNil)) (dCons (dv 11) dNil))) dNil))))) (dwOr1 (dtNot (dTru (dP (dCallV (ok_is_line T) (hr.mono (by decide)) T.g_is_line T.F_is_line.kp T.b_is_line (takes_of rfl rfl rfl rfl) (dCons (dv 10) dNil))))))).pt) (dsOne (dRet (dBl))) dsNil)
      (dsOne (dIfS ((dwOr (dtNot (dTru (dP (dCallV (ok__law_turned_right T) (hr.mono (by decide)) T.g__law_turned_right T.F__law_turned_right.kp T.b__law_turned_right (takes_of rfl rfl rfl rfl) (dCons (dv 3) dNil))))) (dwOr1 (dtNot (dTru (dP (dCallV (ok__law_slowed_right T) (hr.mono (by decide)) T.g__law_slowed_right T.F__law_slowed_right.kp T.b__law_slowed_right (takes_of rfl rfl rfl rfl) (dCons (dv 3) (dCons (dOp or_addA opD_add (dInt) (dP (dCallB (ok__law_take T) (hr.mono (by decide)) T.g__law_take T.F__law_take.kp T.b__law_take (takes_of rfl rfl rfl rfl) (pv 2) (dCons (dInt) dNil)))) dNil)))))))).pt) (dsOne (dRet (dBl))) dsNil))))))))))
      (dsOne (dRet (dBl)))))
end
end Pf

namespace Pf
open PySem PySem.Spec L2 Dd
/-! ### spans -/
abbrev Pr := Int × Int
def Inn (ss : List Pr) (m : Int) : Prop := ∃ s ∈ ss, s.1 ≤ m ∧ m < s.2
def Can (ss : List Pr) : Prop := (∀ s ∈ ss, s.1 < s.2) ∧ ss.Pairwise (fun s t => s.2 < t.1)
theorem Inn.nil {m : Int} : ¬ Inn [] m := fun ⟨_, h, _⟩ => by cases h
theorem inn_cons {s : Pr} {ss : List Pr} {m : Int} : Inn (s :: ss) m ↔ (s.1 ≤ m ∧ m < s.2) ∨ Inn ss m := by
  constructor
  · rintro ⟨t, h, q⟩
    rcases List.mem_cons.mp h with rfl | h
    · exact .inl q
    · exact .inr ⟨t, h, q⟩
  · rintro (q | ⟨t, h, q⟩)
    · exact ⟨s, List.mem_cons_self, q⟩
    · exact ⟨t, List.mem_cons_of_mem _ h, q⟩
theorem inn_app {a b : List Pr} {m : Int} : Inn (a ++ b) m ↔ Inn a m ∨ Inn b m := by
  constructor
  · rintro ⟨t, h, q⟩
    rcases List.mem_append.mp h with h | h
    · exact .inl ⟨t, h, q⟩
    · exact .inr ⟨t, h, q⟩
  · rintro (⟨t, h, q⟩ | ⟨t, h, q⟩)
    · exact ⟨t, List.mem_append.mpr (.inl h), q⟩
    · exact ⟨t, List.mem_append.mpr (.inr h), q⟩
theorem inn_one {s : Pr} {m : Int} : Inn [s] m ↔ s.1 ≤ m ∧ m < s.2 := by
  rw [inn_cons]
  exact ⟨fun h => h.elim id fun h => absurd h Inn.nil, .inl⟩
theorem inn_perm {a b : List Pr} (h : a.Perm b) (m : Int) : Inn a m ↔ Inn b m :=
  ⟨fun ⟨t, k, q⟩ => ⟨t, h.mem_iff.mp k, q⟩, fun ⟨t, k, q⟩ => ⟨t, h.mem_iff.mpr k, q⟩⟩
theorem Can.tail {s : Pr} {ss : List Pr} (h : Can (s :: ss)) : Can ss := ⟨fun t ht => h.1 t (List.mem_cons_of_mem _ ht), (List.pairwise_cons.mp h.2).2⟩
theorem Can.lt {s : Pr} {ss : List Pr} {m : Int} (h : Can (s :: ss)) (q : Inn ss m) : s.2 < m := by
  obtain ⟨t, ht, a, b⟩ := q
  have := (List.pairwise_cons.mp h.2).1 t ht
  omega
theorem can_uniq : ∀ {a b : List Pr}, Can a → Can b → (∀ m, Inn a m ↔ Inn b m) → a = b
  | [], [], _, _, _ => rfl
  | [], t :: q, _, hb, h => absurd ((h t.1).mpr (inn_cons.mpr (.inl ⟨Int.le_refl _, hb.1 t List.mem_cons_self⟩))) Inn.nil
  | s :: r, [], ha, _, h => absurd ((h s.1).mp (inn_cons.mpr (.inl ⟨Int.le_refl _, ha.1 s List.mem_cons_self⟩))) Inn.nil
  | s :: r, t :: q, ha, hb, h => by
    have s0 := ha.1 s List.mem_cons_self
    have t0 := hb.1 t List.mem_cons_self
    have e1 : s.1 = t.1 := by
      have k1 := (h s.1).mp (inn_cons.mpr (.inl ⟨Int.le_refl _, s0⟩))
      have k2 := (h t.1).mpr (inn_cons.mpr (.inl ⟨Int.le_refl _, t0⟩))
      rcases inn_cons.mp k1 with k1 | k1 <;> rcases inn_cons.mp k2 with k2 | k2
      · omega
      · have := ha.lt k2; omega
      · have := hb.lt k1; omega
      · have := ha.lt k2; have := hb.lt k1; omega
    have e2 : s.2 = t.2 := by
      rcases Int.lt_trichotomy s.2 t.2 with k | k | k
      · have k1 := (h s.2).mpr (inn_cons.mpr (.inl ⟨by omega, k⟩))
        rcases inn_cons.mp k1 with k1 | k1
        · omega
        · have := ha.lt k1; omega
      · exact k
      · have k1 := (h t.2).mp (inn_cons.mpr (.inl ⟨by omega, k⟩))
        rcases inn_cons.mp k1 with k1 | k1
        · omega
        · have := hb.lt k1; omega
    have e : s = t := Prod.ext e1 e2
    subst e
    rw [can_uniq ha.tail hb.tail fun m => ?_]
    constructor
    · intro k
      have k1 := ha.lt k
      rcases inn_cons.mp ((h m).mp (inn_cons.mpr (.inr k))) with k2 | k2
      · omega
      · exact k2
    · intro k
      have k1 := hb.lt k
      rcases inn_cons.mp ((h m).mpr (inn_cons.mpr (.inr k))) with k2 | k2
      · omega
      · exact k2
/-! ### putting pairs together, in order -/
def stepS (found : List Pr) (p : Pr) : List Pr := match found.getLast? with
  | some l => if p.1 ≤ l.2 then found.dropLast ++ [(l.1, if p.2 > l.2 then p.2 else l.2)] else if p.1 < p.2 then found ++ [p] else found
  | none => if p.1 < p.2 then found ++ [p] else found
theorem can_snoc {a : List Pr} {p : Pr} (h : Can a) (hp : p.1 < p.2) (hl : ∀ s ∈ a, s.2 < p.1) : Can (a ++ [p]) := by
  refine ⟨fun s hs => ?_, List.pairwise_append.mpr ⟨h.2, List.pairwise_singleton _ _, fun s hs t ht => ?_⟩⟩
  · rcases List.mem_append.mp hs with hs | hs
    · exact h.1 s hs
    · rw [List.mem_singleton.mp hs]; exact hp
  · rw [List.mem_singleton.mp ht]; exact hl s hs
theorem can_init {a : List Pr} {l : Pr} (h : Can (a ++ [l])) : Can a ∧ l.1 < l.2 ∧ ∀ s ∈ a, s.2 < l.1 := by
  obtain ⟨h1, h2⟩ := h
  obtain ⟨p1, _, p3⟩ := List.pairwise_append.mp h2
  exact ⟨⟨fun s hs => h1 s (List.mem_append.mpr (.inl hs)), p1⟩, h1 l (List.mem_append.mpr (.inr List.mem_cons_self)), fun s hs => p3 s hs l List.mem_cons_self⟩
theorem step_snoc (a : List Pr) (l p : Pr) : stepS (a ++ [l]) p = if p.1 ≤ l.2 then a ++ [(l.1, if p.2 > l.2 then p.2 else l.2)] else if p.1 < p.2 then a ++ [l] ++ [p] else a ++ [l] := by
  unfold stepS
  rw [List.getLast?_append]
  simp
theorem nil_or_snoc : ∀ (a : List Pr), a = [] ∨ ∃ b l, a = b ++ [l]
  | [] => .inl rfl
  | x :: a => by
    rcases nil_or_snoc a with rfl | ⟨b, l, rfl⟩
    · exact .inr ⟨[], x, rfl⟩
    · exact .inr ⟨x :: b, l, rfl⟩
theorem step_ok {found : List Pr} {p : Pr} (h : Can found) (hb : ∀ s ∈ found, s.1 ≤ p.1) : Can (stepS found p) ∧ (∀ s ∈ stepS found p, s.1 ≤ p.1) ∧ ∀ m, Inn (stepS found p) m ↔ Inn found m ∨ (p.1 ≤ m ∧ m < p.2) := by
  rcases nil_or_snoc found with rfl | ⟨a, l, rfl⟩
  · have e : stepS [] p = if p.1 < p.2 then [p] else [] := rfl
    rw [e]
    split
    · rename_i hp
      refine ⟨⟨fun s hs => by rw [List.mem_singleton.mp hs]; exact hp, List.pairwise_singleton _ _⟩, fun s hs => by rw [List.mem_singleton.mp hs]; exact Int.le_refl _, fun m => ?_⟩
      rw [inn_one]
      exact ⟨.inr, fun k => k.elim (fun k => absurd k Inn.nil) id⟩
    · rename_i hp
      refine ⟨h, hb, fun m => ⟨.inl, fun k => k.elim id fun k => by omega⟩⟩
  · obtain ⟨ha, hl, hal⟩ := can_init h
    have hlp : l.1 ≤ p.1 := hb l (List.mem_append.mpr (.inr List.mem_cons_self))
    have hap : ∀ s ∈ a, s.1 ≤ p.1 := fun s hs => hb s (List.mem_append.mpr (.inl hs))
    rw [step_snoc]
    split
    · rename_i hp
      refine ⟨can_snoc ha (by show l.1 < _; split <;> omega) hal, fun s hs => ?_, fun m => ?_⟩
      · rcases List.mem_append.mp hs with hs | hs
        · exact hap s hs
        · rw [List.mem_singleton.mp hs]; exact hlp
      · rw [inn_app, inn_app, inn_one, inn_one]
        have : (l.1 ≤ m ∧ m < (if p.2 > l.2 then p.2 else l.2)) ↔ ((l.1 ≤ m ∧ m < l.2) ∨ (p.1 ≤ m ∧ m < p.2)) := by
          split <;> omega
        show _ ∨ (l.1 ≤ m ∧ m < (if p.2 > l.2 then p.2 else l.2)) ↔ _
        rw [this, or_assoc]
    · rename_i hp
      split
      · rename_i hq
        refine ⟨can_snoc h hq fun s hs => ?_, fun s hs => ?_, fun m => ?_⟩
        · rcases List.mem_append.mp hs with hs | hs
          · have := hal s hs; omega
          · rw [List.mem_singleton.mp hs]; omega
        · rcases List.mem_append.mp hs with hs | hs
          · exact hb s hs
          · rw [List.mem_singleton.mp hs]; exact Int.le_refl _
        · rw [inn_app (b := [p]), inn_one]
      · rename_i hq
        exact ⟨h, hb, fun m => ⟨.inl, fun k => k.elim id fun k => by omega⟩⟩
def spansP (ps : List Pr) : List Pr := (sortP ps).foldl stepS []
theorem fold_ok : ∀ (qs found : List Pr), Can found → qs.Pairwise (fun a b => leP a b = true) → (∀ s ∈ found, ∀ q ∈ qs, s.1 ≤ q.1) → Can (qs.foldl stepS found) ∧ ∀ m, Inn (qs.foldl stepS found) m ↔ Inn found m ∨ Inn qs m
  | [], found, h, _, _ => ⟨h, fun m => ⟨.inl, fun k => k.elim id fun k => absurd k Inn.nil⟩⟩
  | q :: qs, found, h, hp, hb => by
    obtain ⟨p1, p2⟩ := List.pairwise_cons.mp hp
    obtain ⟨a1, a2, a3⟩ := step_ok h (fun s hs => hb s hs q List.mem_cons_self)
    obtain ⟨b1, b2⟩ := fold_ok qs (stepS found q) a1 p2 fun s hs t ht => by
      have := a2 s hs
      have := leP_iff.mp (p1 t ht)
      omega
    refine ⟨b1, fun m => ?_⟩
    show Inn (qs.foldl stepS (stepS found q)) m ↔ _
    rw [b2 m, a3 m, inn_cons, or_assoc]
theorem spansP_can (ps : List Pr) : Can (spansP ps) := (fold_ok (sortP ps) [] ⟨fun s hs => (by cases hs), List.Pairwise.nil⟩ (sortP_pw ps) fun s hs => by cases hs).1
theorem spansP_inn (ps : List Pr) (m : Int) : Inn (spansP ps) m ↔ Inn ps m := by
  rw [spansP, (fold_ok (sortP ps) [] ⟨fun s hs => (by cases hs), List.Pairwise.nil⟩ (sortP_pw ps) fun s hs => by cases hs).2 m]
  rw [inn_perm (sortP_perm ps) m]
  exact ⟨fun k => k.elim (fun k => absurd k Inn.nil) id, .inr⟩
theorem spansP_eq {ps ss : List Pr} (h : Can ss) (hm : ∀ m, Inn ps m ↔ Inn ss m) : spansP ps = ss := can_uniq (spansP_can ps) h fun m => (spansP_inn ps m).trans (hm m)
theorem step_len (found : List Pr) (p : Pr) : (stepS found p).length ≤ found.length + 1 := by
  rcases nil_or_snoc found with rfl | ⟨a, l, rfl⟩
  · have e : stepS [] p = if p.1 < p.2 then [p] else [] := rfl
    rw [e]; split <;> simp
  · rw [step_snoc]; split
    · simp
    · split <;> simp
/-! ### times a number, and so much later -/
def scaleP (t c : Int) (p : Pr) : Pr := (p.1 * t + c, p.2 * t + c)
theorem scale_can {t c : Int} (ht : 0 < t) {ss : List Pr} (h : Can ss) : Can (ss.map (scaleP t c)) := by
  refine ⟨fun s hs => ?_, List.pairwise_map.mpr (h.2.imp fun {x y} k => ?_)⟩
  · obtain ⟨u, hu, rfl⟩ := List.mem_map.mp hs
    have := h.1 u hu
    show u.1 * t + c < u.2 * t + c
    have := Int.mul_lt_mul_of_pos_right this ht
    omega
  · show x.2 * t + c < y.1 * t + c
    have := Int.mul_lt_mul_of_pos_right k ht
    omega
theorem scale_inn {t c : Int} (ht : 0 < t) (ss : List Pr) (m : Int) : Inn (ss.map (scaleP t c)) m ↔ Inn ss ((m - c) / t) := by
  constructor
  · rintro ⟨s, hs, a, b⟩
    obtain ⟨u, hu, rfl⟩ := List.mem_map.mp hs
    refine ⟨u, hu, ?_, ?_⟩
    · exact (Int.le_ediv_iff_mul_le ht).mpr (by have : u.1 * t + c ≤ m := a; omega)
    · exact (Int.ediv_lt_iff_lt_mul ht).mpr (by have : m < u.2 * t + c := b; omega)
  · rintro ⟨u, hu, a, b⟩
    refine ⟨_, List.mem_map.mpr ⟨u, hu, rfl⟩, ?_, ?_⟩
    · have := (Int.le_ediv_iff_mul_le ht).mp a
      show u.1 * t + c ≤ m
      omega
    · have := (Int.ediv_lt_iff_lt_mul ht).mp b
      show m < u.2 * t + c
      omega
end Pf

namespace Pf
open PySem PySem.Spec L2 Dd
/-! ### sets of spans put together -/
theorem can_nil : Can [] := ⟨fun s hs => (by cases hs), List.Pairwise.nil⟩
theorem can_cons {s : Pr} {ss : List Pr} (h : Can ss) (h1 : s.1 < s.2) (h2 : ∀ t ∈ ss, s.2 < t.1) : Can (s :: ss) :=
  ⟨fun t ht => (List.mem_cons.mp ht).elim (fun e => by rw [e]; exact h1) (h.1 t), List.pairwise_cons.mpr ⟨h2, h.2⟩⟩
theorem Can.hd {s : Pr} {ss : List Pr} (h : Can (s :: ss)) : s.1 < s.2 := h.1 s List.mem_cons_self
theorem Can.gap {s : Pr} {ss : List Pr} (h : Can (s :: ss)) : ∀ t ∈ ss, s.2 < t.1 := (List.pairwise_cons.mp h.2).1
def mxI (x y : Int) : Int := if y > x then y else x
def mnI (x y : Int) : Int := if y < x then y else x
theorem mxI_p (x y : Int) : x ≤ mxI x y ∧ y ≤ mxI x y ∧ (mxI x y = x ∨ mxI x y = y) := by unfold mxI; split <;> omega
theorem mnI_p (x y : Int) : mnI x y ≤ x ∧ mnI x y ≤ y ∧ (mnI x y = x ∨ mnI x y = y) := by unfold mnI; split <;> omega
def bothP : List Pr → List Pr → List Pr
  | a :: as, b :: bs => (if (mxI a.1 b.1) < (mnI a.2 b.2) then [((mxI a.1 b.1), (mnI a.2 b.2))] else []) ++ if a.2 < b.2 then bothP as (b :: bs) else bothP (a :: as) bs
  | _, _ => []
termination_by a b => a.length + b.length
theorem both_nil (b : List Pr) : bothP [] b = [] := by unfold bothP; rfl
theorem both_nil2 (a : List Pr) : bothP a [] = [] := by cases a <;> (unfold bothP; rfl)
theorem both_low (x : Int) : ∀ (n : Nat) (a b : List Pr), a.length + b.length ≤ n → Can a → Can b → ((∀ t ∈ a, x < t.1) ∨ (∀ t ∈ b, x < t.1)) → ∀ s ∈ bothP a b, x < s.1
  | n, [], b, _, _, _, _, s, hs => by rw [both_nil] at hs; cases hs
  | n, a :: as, [], _, _, _, _, s, hs => by rw [both_nil2] at hs; cases hs
  | 0, a :: as, b :: bs, hn, _, _, _, _, _ => by simp at hn
  | n + 1, a :: as, b :: bs, hn, ha, hb, hx, s, hs => by
    simp only [List.length_cons] at hn
    unfold bothP at hs
    rcases List.mem_append.mp hs with hs | hs
    · split at hs
      · rw [List.mem_singleton.mp hs]
        show x < (mxI a.1 b.1)
        have A := mxI_p a.1 b.1
        rcases hx with hx | hx
        · have := hx a List.mem_cons_self
          omega
        · have := hx b List.mem_cons_self
          omega
      · cases hs
    · split at hs
      · refine both_low x n as (b :: bs) (by simp only [List.length_cons]; omega) ha.tail hb ?_ s hs
        exact hx.imp (fun h t ht => h t (List.mem_cons_of_mem _ ht)) id
      · refine both_low x n (a :: as) bs (by simp only [List.length_cons]; omega) ha hb.tail ?_ s hs
        exact hx.imp id (fun h t ht => h t (List.mem_cons_of_mem _ ht))
theorem both_ok : ∀ (n : Nat) (a b : List Pr), a.length + b.length ≤ n → Can a → Can b → Can (bothP a b) ∧ ∀ m, Inn (bothP a b) m ↔ Inn a m ∧ Inn b m
  | n, [], b, _, _, _ => by
    rw [both_nil]
    exact ⟨can_nil, fun m => ⟨fun k => absurd k Inn.nil, fun k => k.1⟩⟩
  | n, a :: as, [], _, _, _ => by
    rw [both_nil2]
    exact ⟨can_nil, fun m => ⟨fun k => absurd k Inn.nil, fun k => k.2⟩⟩
  | 0, a :: as, b :: bs, hn, _, _ => by simp at hn
  | n + 1, a :: as, b :: bs, hn, ha, hb => by
    simp only [List.length_cons] at hn
    have ga := ha.gap
    have gb := hb.gap
    have a0 := ha.hd
    have b0 := hb.hd
    unfold bothP
    by_cases q : a.2 < b.2
    · rw [if_pos q]
      obtain ⟨r1, r2⟩ := both_ok n as (b :: bs) (by simp only [List.length_cons]; omega) ha.tail hb
      have low := both_low a.2 n as (b :: bs) (by simp only [List.length_cons]; omega) ha.tail hb (.inl ga)
      have A := mxI_p a.1 b.1
      have hmin : (mnI a.2 b.2) = a.2 := by have := mnI_p a.2 b.2; omega
      rw [hmin]
      have key : ∀ m, (Inn (a :: as) m ∧ Inn (b :: bs) m) ↔ (((mxI a.1 b.1) ≤ m ∧ m < a.2) ∨ (Inn as m ∧ Inn (b :: bs) m)) := fun m => by
        constructor
        · rintro ⟨h1, h2⟩
          rcases inn_cons.mp h1 with h1 | h1
          · rcases inn_cons.mp h2 with h2 | h2
            · exact .inl ⟨by omega, h1.2⟩
            · have := hb.lt h2; omega
          · exact .inr ⟨h1, h2⟩
        · rintro (⟨h1, h2⟩ | ⟨h1, h2⟩)
          · have : a.1 ≤ m ∧ b.1 ≤ m := by omega
            exact ⟨inn_cons.mpr (.inl ⟨this.1, h2⟩), inn_cons.mpr (.inl ⟨this.2, by omega⟩)⟩
          · exact ⟨inn_cons.mpr (.inr h1), h2⟩
      split
      · rename_i h
        refine ⟨can_cons r1 h low, fun m => ?_⟩
        rw [key m, ← r2 m]
        exact inn_cons
      · rename_i h
        refine ⟨r1, fun m => ?_⟩
        rw [key m, ← r2 m]
        exact ⟨.inr, fun k => k.elim (fun k => by omega) id⟩
    · rw [if_neg q]
      obtain ⟨r1, r2⟩ := both_ok n (a :: as) bs (by simp only [List.length_cons]; omega) ha hb.tail
      have low := both_low b.2 n (a :: as) bs (by simp only [List.length_cons]; omega) ha hb.tail (.inr gb)
      have A := mxI_p a.1 b.1
      have hmin : (mnI a.2 b.2) = b.2 := by have := mnI_p a.2 b.2; omega
      rw [hmin]
      have key : ∀ m, (Inn (a :: as) m ∧ Inn (b :: bs) m) ↔ (((mxI a.1 b.1) ≤ m ∧ m < b.2) ∨ (Inn (a :: as) m ∧ Inn bs m)) := fun m => by
        constructor
        · rintro ⟨h1, h2⟩
          rcases inn_cons.mp h2 with h2 | h2
          · rcases inn_cons.mp h1 with h1 | h1
            · exact .inl ⟨by omega, h2.2⟩
            · have := ha.lt h1; omega
          · exact .inr ⟨h1, h2⟩
        · rintro (⟨h1, h2⟩ | ⟨h1, h2⟩)
          · have : a.1 ≤ m ∧ b.1 ≤ m := by omega
            exact ⟨inn_cons.mpr (.inl ⟨this.1, by omega⟩), inn_cons.mpr (.inl ⟨this.2, h2⟩)⟩
          · exact ⟨h1, inn_cons.mpr (.inr h2)⟩
      split
      · rename_i h
        refine ⟨can_cons r1 h low, fun m => ?_⟩
        rw [key m, ← r2 m]
        exact inn_cons
      · rename_i h
        refine ⟨r1, fun m => ?_⟩
        rw [key m, ← r2 m]
        exact ⟨.inr, fun k => k.elim (fun k => by omega) id⟩
theorem both_can {a b : List Pr} (ha : Can a) (hb : Can b) : Can (bothP a b) := (both_ok _ a b (Nat.le_refl _) ha hb).1
theorem both_inn {a b : List Pr} (ha : Can a) (hb : Can b) (m : Int) : Inn (bothP a b) m ↔ Inn a m ∧ Inn b m := (both_ok _ a b (Nat.le_refl _) ha hb).2 m
/-- what is not in them, from at on, below a number -/
def othersP (below : Int) : Int → List Pr → List Pr
  | at', [] => if at' < below then [(at', below)] else []
  | at', s :: ss => (if at' < (mnI s.1 below) then [(at', mnI s.1 below)] else []) ++ othersP below s.2 ss
theorem others_ok (below : Int) : ∀ (ss : List Pr) (at' : Int), Can ss → (∀ s ∈ ss, at' ≤ s.1) → Can (othersP below at' ss) ∧ (∀ t ∈ othersP below at' ss, at' ≤ t.1) ∧ ∀ m, Inn (othersP below at' ss) m ↔ at' ≤ m ∧ m < below ∧ ¬ Inn ss m
  | [], at', _, _ => by
    unfold othersP
    split
    · rename_i h
      refine ⟨can_cons can_nil h (fun t ht => (by cases ht)), fun t ht => by rw [List.mem_singleton.mp ht]; exact Int.le_refl _, fun m => ?_⟩
      rw [inn_one]
      exact ⟨fun k => ⟨k.1, k.2, Inn.nil⟩, fun k => ⟨k.1, k.2.1⟩⟩
    · rename_i h
      exact ⟨can_nil, fun t ht => (by cases ht), fun m => ⟨fun k => absurd k Inn.nil, fun k => by omega⟩⟩
  | s :: ss, at', hc, hl => by
    have s0 := hc.hd
    have g := hc.gap
    have l := hl s List.mem_cons_self
    have A := mnI_p s.1 below
    obtain ⟨r1, r2, r3⟩ := others_ok below ss s.2 hc.tail fun t ht => by have := g t ht; omega
    unfold othersP
    have key : ∀ m, (at' ≤ m ∧ m < below ∧ ¬ Inn (s :: ss) m) ↔ ((at' ≤ m ∧ m < (mnI s.1 below)) ∨ (s.2 ≤ m ∧ m < below ∧ ¬ Inn ss m)) := fun m => by
      rw [inn_cons]
      constructor
      · rintro ⟨h1, h2, h3⟩
        by_cases q : m < s.1
        · exact .inl ⟨h1, by omega⟩
        · exact .inr ⟨by by_cases z : s.2 ≤ m; exact z; exact absurd (.inl ⟨by omega, by omega⟩) h3, h2, fun k => h3 (.inr k)⟩
      · rintro (⟨h1, h2⟩ | ⟨h1, h2, h3⟩)
        · have : m < below ∧ m < s.1 := by omega
          exact ⟨h1, this.1, fun k => k.elim (fun k => by omega) fun k => by have := hc.lt k; omega⟩
        · exact ⟨by omega, h2, fun k => k.elim (fun k => by omega) h3⟩
    split
    · rename_i h
      refine ⟨can_cons r1 h fun t ht => ?_, fun t ht => ?_, fun m => ?_⟩
      · have := r2 t ht
        show (mnI s.1 below) < t.1
        omega
      · rcases List.mem_cons.mp ht with rfl | ht
        · exact Int.le_refl _
        · have := r2 t ht; omega
      · rw [key m, ← r3 m]
        exact inn_cons
    · rename_i h
      refine ⟨r1, fun t ht => ?_, fun m => ?_⟩
      · have := r2 t ht
        show at' ≤ t.1
        omega
      · rw [key m, ← r3 m]
        exact ⟨.inr, fun k => k.elim (fun k => by omega) id⟩
def laterP (n : Int) (ss : List Pr) : List Pr := ss.map fun s => (s.1 + n, s.2 + n)
theorem later_can {n : Int} {ss : List Pr} (h : Can ss) : Can (laterP n ss) := by
  refine ⟨fun s hs => ?_, List.pairwise_map.mpr (h.2.imp fun {x y} k => ?_)⟩
  · obtain ⟨u, hu, rfl⟩ := List.mem_map.mp hs
    have := h.1 u hu
    show u.1 + n < u.2 + n
    omega
  · show x.2 + n < y.1 + n
    omega
theorem later_inn (n : Int) (ss : List Pr) (m : Int) : Inn (laterP n ss) m ↔ Inn ss (m - n) := by
  constructor
  · rintro ⟨s, hs, a, b⟩
    obtain ⟨u, hu, rfl⟩ := List.mem_map.mp hs
    exact ⟨u, hu, by have : u.1 + n ≤ m := a; omega, by have : m < u.2 + n := b; omega⟩
  · rintro ⟨u, hu, a, b⟩
    exact ⟨_, List.mem_map.mpr ⟨u, hu, rfl⟩, by show u.1 + n ≤ m; omega, by show m < u.2 + n; omega⟩
def grownP (n : Int) (ss : List Pr) : List Pr := spansP (ss.map fun s => (s.1, s.2 + n))
theorem grown_inn {n : Int} (hn : 0 ≤ n) {ss : List Pr} (h : Can ss) (m : Int) : Inn (grownP n ss) m ↔ ∃ k, 0 ≤ k ∧ k ≤ n ∧ Inn ss (m - k) := by
  unfold grownP
  rw [spansP_inn]
  constructor
  · rintro ⟨s, hs, a, b⟩
    obtain ⟨u, hu, rfl⟩ := List.mem_map.mp hs
    have u0 := h.1 u hu
    have a : u.1 ≤ m := a
    have b : m < u.2 + n := b
    by_cases q : m < u.2
    · exact ⟨0, by omega, by omega, u, hu, by omega, by omega⟩
    · exact ⟨m - (u.2 - 1), by omega, by omega, u, hu, by omega, by omega⟩
  · rintro ⟨k, k0, k1, u, hu, a, b⟩
    exact ⟨_, List.mem_map.mpr ⟨u, hu, rfl⟩, by show u.1 ≤ m; omega, by show m < u.2 + n; omega⟩
def wornP (n : Int) (ss : List Pr) : List Pr := (ss.filter fun s => decide (s.1 + n < s.2)).map fun s => (s.1 + n, s.2)
theorem worn_can {n : Int} (hn : 0 ≤ n) {ss : List Pr} (h : Can ss) : Can (wornP n ss) := by
  refine ⟨fun s hs => ?_, List.pairwise_map.mpr ((h.2.filter _).imp fun {x y} k => ?_)⟩
  · obtain ⟨u, hu, rfl⟩ := List.mem_map.mp hs
    exact of_decide_eq_true (List.mem_filter.mp hu).2
  · show x.2 < y.1 + n
    omega
theorem can_out {ss : List Pr} (h : Can ss) {s : Pr} (hs : s ∈ ss) : ¬ Inn ss s.2 := by
  induction ss with
  | nil => cases hs
  | cons t r ih =>
    intro k
    rcases List.mem_cons.mp hs with rfl | hs
    · rcases inn_cons.mp k with k | k
      · omega
      · have := h.lt k; omega
    · rcases inn_cons.mp k with k | k
      · have := h.gap s hs
        have := h.1 s (List.mem_cons_of_mem _ hs)
        omega
      · exact ih h.tail hs k
theorem worn_inn {n : Int} (hn : 0 ≤ n) {ss : List Pr} (h : Can ss) (m : Int) : Inn (wornP n ss) m ↔ ∀ k, 0 ≤ k → k ≤ n → Inn ss (m - k) := by
  constructor
  · rintro ⟨s, hs, a, b⟩ k k0 k1
    obtain ⟨u, hu, rfl⟩ := List.mem_map.mp hs
    exact ⟨u, (List.mem_filter.mp hu).1, by have : u.1 + n ≤ m := a; omega, by have : m < u.2 := b; omega⟩
  · intro hk
    obtain ⟨u, hu, a, b⟩ := hk n hn (Int.le_refl _)
    have : m < u.2 := by
      by_cases q : m < u.2
      · exact q
      · have k := hk (m - u.2) (by omega) (by omega)
        have e : m - (m - u.2) = u.2 := by omega
        rw [e] at k
        exact absurd k (can_out h hu)
    exact ⟨_, List.mem_map.mpr ⟨u, List.mem_filter.mpr ⟨hu, decide_eq_true (by omega)⟩, rfl⟩, by show u.1 + n ≤ m; omega, this⟩
end Pf

namespace Pf
open PySem PySem.Spec L2 Dd
/-! ### how many moments -/
def lenQ (ss : List Pr) : Int := (ss.map fun s => s.2 - s.1).sum
/-- how many of the n moments from lo on -/
def cnQ (p : Int → Bool) (lo : Int) : Nat → Int
  | 0 => 0
  | n + 1 => (if p lo = true then 1 else 0) + cnQ p (lo + 1) n
theorem cnQ_add (p : Int → Bool) : ∀ (a b : Nat) (lo : Int), cnQ p lo (a + b) = cnQ p lo a + cnQ p (lo + a) b
  | 0, b, lo => by rw [Nat.zero_add]; simp [cnQ]
  | a + 1, b, lo => by
    have e : a + 1 + b = (a + b) + 1 := by omega
    have e2 : lo + ((a + 1 : Nat) : Int) = lo + 1 + (a : Nat) := by omega
    rw [e, e2]
    show _ + cnQ p (lo + 1) (a + b) = (_ + cnQ p (lo + 1) a) + _
    rw [cnQ_add p a b (lo + 1)]
    omega
theorem cnQ_all (p : Int → Bool) (v : Bool) : ∀ (n : Nat) (lo : Int), (∀ m, lo ≤ m → m < lo + n → p m = v) → cnQ p lo n = if v = true then (n : Int) else 0
  | 0, lo, _ => by cases v <;> simp [cnQ]
  | n + 1, lo, h => by
    have ih := cnQ_all p v n (lo + 1) fun m a b => h m (by omega) (by omega)
    show (if p lo = true then 1 else 0) + cnQ p (lo + 1) n = _
    rw [ih, h lo (Int.le_refl _) (by omega)]
    cases v
    · simp
    · simp; omega
theorem cnQ_congr {p q : Int → Bool} : ∀ (n : Nat) (lo : Int), (∀ m, lo ≤ m → m < lo + n → p m = q m) → cnQ p lo n = cnQ q lo n
  | 0, lo, _ => rfl
  | n + 1, lo, h => by
    show (if p lo = true then 1 else 0) + cnQ p (lo + 1) n = (if q lo = true then 1 else 0) + cnQ q (lo + 1) n
    rw [cnQ_congr n (lo + 1) fun m a b => h m (by omega) (by omega), h lo (Int.le_refl _) (by omega)]
theorem cnQ_both (p q : Int → Bool) : ∀ (n : Nat) (lo : Int), cnQ (fun m => p m && q m) lo n + cnQ (fun m => p m || q m) lo n = cnQ p lo n + cnQ q lo n
  | 0, lo => rfl
  | n + 1, lo => by
    have ih := cnQ_both p q n (lo + 1)
    show ((if (p lo && q lo) = true then 1 else 0) + _) + ((if (p lo || q lo) = true then 1 else 0) + _) = ((if p lo = true then 1 else 0) + _) + ((if q lo = true then 1 else 0) + _)
    cases p lo <;> cases q lo <;> simp <;> omega
def inB (ss : List Pr) (m : Int) : Bool := ss.any fun s => decide (s.1 ≤ m) && decide (m < s.2)
theorem inB_iff (ss : List Pr) (m : Int) : inB ss m = true ↔ Inn ss m := by
  unfold inB Inn
  rw [List.any_eq_true]
  simp
theorem len_cn : ∀ (ss : List Pr) (lo : Int) (n : Nat), Can ss → (∀ s ∈ ss, lo ≤ s.1 ∧ s.2 ≤ lo + n) → lenQ ss = cnQ (inB ss) lo n
  | [], lo, n, _, _ => by
    rw [cnQ_all (inB []) false n lo fun m _ _ => rfl]; rfl
  | s :: ss, lo, n, hc, hb => by
    obtain ⟨b1, b2⟩ := hb s List.mem_cons_self
    have s0 := hc.hd
    have g := hc.gap
    obtain ⟨a, ha⟩ : ∃ a : Nat, (a : Int) = s.1 - lo := ⟨(s.1 - lo).toNat, Int.toNat_of_nonneg (by omega)⟩
    obtain ⟨b, hbb⟩ : ∃ b : Nat, (b : Int) = s.2 - s.1 := ⟨(s.2 - s.1).toNat, Int.toNat_of_nonneg (by omega)⟩
    obtain ⟨c, hcc⟩ : ∃ c : Nat, (c : Int) = lo + n - s.2 := ⟨(lo + n - s.2).toNat, Int.toNat_of_nonneg (by omega)⟩
    have e : n = a + (b + c) := by omega
    rw [e, cnQ_add, cnQ_add]
    have ih := len_cn ss s.2 c hc.tail fun t ht => ⟨by have := g t ht; omega, by have := (hb t (List.mem_cons_of_mem _ ht)).2; omega⟩
    have c1 : cnQ (inB (s :: ss)) lo a = 0 := by
      rw [cnQ_all (inB (s :: ss)) false a lo fun m m0 m1 => Bool.eq_false_iff.mpr fun k => ?_]; rfl
      rcases inn_cons.mp ((inB_iff _ _).mp k) with k | k
      · omega
      · have := hc.lt k; omega
    have c2 : cnQ (inB (s :: ss)) (lo + a) b = b := by
      rw [cnQ_all (inB (s :: ss)) true b (lo + a) fun m m0 m1 => (inB_iff _ _).mpr (inn_cons.mpr (.inl ⟨by omega, by omega⟩))]; rfl
    have c3 : cnQ (inB (s :: ss)) (lo + a + b) c = cnQ (inB ss) s.2 c := by
      have e3 : lo + (a : Int) + (b : Int) = s.2 := by omega
      rw [e3]
      refine cnQ_congr c s.2 fun m m0 m1 => ?_
      rw [Bool.eq_iff_iff, inB_iff, inB_iff, inn_cons]
      exact ⟨fun k => k.elim (fun k => by omega) id, .inr⟩
    rw [c1, c2, c3, ← ih]
    show (s.2 - s.1) + lenQ ss = _
    omega
/-- those in both and those in either are as many as in each -/
theorem len_both {a b : List Pr} {N : Nat} (ha : Can a) (hb : Can b) (ga : ∀ s ∈ a, 0 ≤ s.1 ∧ s.2 ≤ (N : Int)) (gb : ∀ s ∈ b, 0 ≤ s.1 ∧ s.2 ≤ (N : Int)) : lenQ (bothP a b) + lenQ (spansP (a ++ b)) = lenQ a + lenQ b := by
  have bd : ∀ {ss : List Pr}, Can ss → (∀ m, Inn ss m → 0 ≤ m ∧ m < N) → ∀ s ∈ ss, (0 : Int) ≤ s.1 ∧ s.2 ≤ 0 + N := fun {ss} hc h s hs => by
    have s0 := hc.1 s hs
    have k1 := h s.1 ⟨s, hs, Int.le_refl _, s0⟩
    have k2 := h (s.2 - 1) ⟨s, hs, by omega, by omega⟩
    omega
  have ia : ∀ m, Inn a m → 0 ≤ m ∧ m < N := fun m ⟨s, hs, x, y⟩ => by have := ga s hs; omega
  have ib : ∀ m, Inn b m → 0 ≤ m ∧ m < N := fun m ⟨s, hs, x, y⟩ => by have := gb s hs; omega
  have h1 := len_cn (bothP a b) 0 N (both_can ha hb) (bd (both_can ha hb) fun m k => ia m ((both_inn ha hb m).mp k).1)
  have h2 := len_cn (spansP (a ++ b)) 0 N (spansP_can _) (bd (spansP_can _) fun m k => (inn_app.mp ((spansP_inn _ m).mp k)).elim (ia m) (ib m))
  have h3 := len_cn a 0 N ha (bd ha ia)
  have h4 := len_cn b 0 N hb (bd hb ib)
  rw [h1, h2, h3, h4, ← cnQ_both (inB a) (inB b) N 0]
  congr 1
  · refine cnQ_congr N 0 fun m _ _ => ?_
    rw [Bool.eq_iff_iff, inB_iff, both_inn ha hb, Bool.and_eq_true, inB_iff, inB_iff]
  · refine cnQ_congr N 0 fun m _ _ => ?_
    rw [Bool.eq_iff_iff, inB_iff, spansP_inn, inn_app, Bool.or_eq_true, inB_iff, inB_iff]
end Pf

namespace Pf
open PySem PySem.Spec L2 Dd
/-! ### what holds of sets put together -/
theorem oth {ss : List Pr} {far : Int} (h : Can ss) (h0 : ∀ s ∈ ss, 0 ≤ s.1) : Can (othersP far 0 ss) ∧ (∀ t ∈ othersP far 0 ss, 0 ≤ t.1) ∧ ∀ m, Inn (othersP far 0 ss) m ↔ 0 ≤ m ∧ m < far ∧ ¬ Inn ss m := others_ok far ss 0 h h0
theorem inn_ge {ss : List Pr} {m : Int} (h0 : ∀ s ∈ ss, 0 ≤ s.1) (k : Inn ss m) : 0 ≤ m := by
  obtain ⟨s, hs, a, _⟩ := k
  have := h0 s hs
  omega
theorem ge_of_inn {ss : List Pr} (hc : Can ss) (h : ∀ m, Inn ss m → 0 ≤ m) : ∀ s ∈ ss, 0 ≤ s.1 := fun s hs => h s.1 ⟨s, hs, Int.le_refl _, hc.1 s hs⟩
theorem inn_span {b e m : Int} : Inn (spansP [(b, e)]) m ↔ b ≤ m ∧ m < e := by rw [spansP_inn, inn_one]
theorem id_others {a : List Pr} {far : Int} (ha : Can a) (a0 : ∀ s ∈ a, 0 ≤ s.1) : othersP far 0 (othersP far 0 a) = bothP a (spansP [(0, far)]) := by
  obtain ⟨c1, g1, i1⟩ := oth (far := far) ha a0
  obtain ⟨c2, g2, i2⟩ := oth (far := far) c1 g1
  refine can_uniq c2 (both_can ha (spansP_can _)) fun m => ?_
  rw [i2, i1, both_inn ha (spansP_can _), inn_span]
  by_cases k : Inn a m
  · have := inn_ge a0 k
    simp [k]
  · simp [k]
    omega
theorem id_none {a : List Pr} {far : Int} (ha : Can a) (a0 : ∀ s ∈ a, 0 ≤ s.1) : bothP a (othersP far 0 a) = [] := by
  obtain ⟨c1, g1, i1⟩ := oth (far := far) ha a0
  refine can_uniq (both_can ha c1) can_nil fun m => ?_
  rw [both_inn ha c1, i1]
  exact ⟨fun ⟨x, _, _, y⟩ => absurd x y, fun k => absurd k Inn.nil⟩
theorem id_morgan {a b : List Pr} {far : Int} (ha : Can a) (hb : Can b) (a0 : ∀ s ∈ a, 0 ≤ s.1) (b0 : ∀ s ∈ b, 0 ≤ s.1) : othersP far 0 (spansP (a ++ b)) = bothP (othersP far 0 a) (othersP far 0 b) := by
  obtain ⟨c1, g1, i1⟩ := oth (far := far) ha a0
  obtain ⟨c2, g2, i2⟩ := oth (far := far) hb b0
  have e0 : ∀ s ∈ spansP (a ++ b), 0 ≤ s.1 := ge_of_inn (spansP_can _) fun m k => (inn_app.mp ((spansP_inn _ m).mp k)).elim (inn_ge a0) (inn_ge b0)
  obtain ⟨c3, g3, i3⟩ := oth (far := far) (spansP_can (a ++ b)) e0
  refine can_uniq c3 (both_can c1 c2) fun m => ?_
  rw [i3, both_inn c1 c2, i1, i2, spansP_inn, inn_app]
  by_cases k : Inn a m <;> by_cases k2 : Inn b m <;> simp [k, k2]
theorem id_dist {a b c : List Pr} (ha : Can a) (hb : Can b) (hc : Can c) : bothP c (spansP (a ++ b)) = spansP (bothP c a ++ bothP c b) := by
  refine can_uniq (both_can hc (spansP_can _)) (spansP_can _) fun m => ?_
  rw [both_inn hc (spansP_can _), spansP_inn, spansP_inn, inn_app, inn_app, both_inn hc ha, both_inn hc hb]
  exact ⟨fun ⟨x, y⟩ => y.elim (fun y => .inl ⟨x, y⟩) fun y => .inr ⟨x, y⟩, fun k => k.elim (fun ⟨x, y⟩ => ⟨x, .inl y⟩) fun ⟨x, y⟩ => ⟨x, .inr y⟩⟩
theorem grown_can (n : Int) (ss : List Pr) : Can (grownP n ss) := spansP_can _
theorem id_grown {a : List Pr} {n k : Int} (ha : Can a) (hn : 0 ≤ n) (hk : 0 ≤ k) : grownP k (grownP n a) = grownP (n + k) a := by
  refine can_uniq (grown_can _ _) (grown_can _ _) fun m => ?_
  rw [grown_inn hk (grown_can _ _), grown_inn (by omega) ha]
  constructor
  · rintro ⟨x, x0, x1, h⟩
    obtain ⟨y, y0, y1, h⟩ := (grown_inn hn ha _).mp h
    exact ⟨x + y, by omega, by omega, by rw [show m - (x + y) = m - x - y by omega]; exact h⟩
  · rintro ⟨z, z0, z1, h⟩
    by_cases q : z ≤ k
    · exact ⟨z, z0, q, (grown_inn hn ha _).mpr ⟨0, by omega, hn, by rw [Int.sub_zero]; exact h⟩⟩
    · exact ⟨k, hk, by omega, (grown_inn hn ha _).mpr ⟨z - k, by omega, by omega, by rw [show m - k - (z - k) = m - z by omega]; exact h⟩⟩
theorem id_worn {a : List Pr} {n k : Int} (ha : Can a) (hn : 0 ≤ n) (hk : 0 ≤ k) : wornP k (wornP n a) = wornP (n + k) a := by
  refine can_uniq (worn_can hk (worn_can hn ha)) (worn_can (by omega) ha) fun m => ?_
  rw [worn_inn hk (worn_can hn ha), worn_inn (by omega) ha]
  constructor
  · intro h z z0 z1
    by_cases q : z ≤ k
    · have := (worn_inn hn ha _).mp (h z z0 q) 0 (by omega) hn
      rwa [Int.sub_zero] at this
    · have := (worn_inn hn ha _).mp (h k hk (by omega)) (z - k) (by omega) (by omega)
      rwa [show m - k - (z - k) = m - z by omega] at this
  · intro h x x0 x1
    refine (worn_inn hn ha _).mpr fun y y0 y1 => ?_
    rw [show m - x - y = m - (x + y) by omega]
    exact h (x + y) (by omega) (by omega)
theorem id_later {a b : List Pr} {n : Int} (ha : Can a) (hb : Can b) : bothP (laterP n a) (laterP n b) = laterP n (bothP a b) := by
  refine can_uniq (both_can (later_can ha) (later_can hb)) (later_can (both_can ha hb)) fun m => ?_
  rw [both_inn (later_can ha) (later_can hb), later_inn, later_inn, later_inn, both_inn ha hb]
theorem id_later_len (n : Int) : ∀ a : List Pr, lenQ (laterP n a) = lenQ a
  | [] => rfl
  | s :: ss => by
    have ih := id_later_len n ss
    show (s.2 + n - (s.1 + n)) + lenQ (laterP n ss) = (s.2 - s.1) + lenQ ss
    omega
theorem id_worn_in {a : List Pr} {n : Int} (ha : Can a) (hn : 0 ≤ n) : spansP (wornP n a ++ a) = a := spansP_eq ha fun m => by
  rw [inn_app, worn_inn hn ha]
  exact ⟨fun k => k.elim (fun k => by have := k 0 (by omega) hn; rwa [Int.sub_zero] at this) id, .inr⟩
theorem id_grown_in {a : List Pr} {n : Int} (ha : Can a) (hn : 0 ≤ n) : spansP (grownP n a ++ a) = grownP n a := spansP_eq (grown_can _ _) fun m => by
  rw [inn_app]
  exact ⟨fun k => k.elim id fun k => (grown_inn hn ha _).mpr ⟨0, by omega, hn, by rw [Int.sub_zero]; exact k⟩, .inl⟩
theorem grown_ge {a : List Pr} {n : Int} (ha : Can a) (hn : 0 ≤ n) (a0 : ∀ s ∈ a, 0 ≤ s.1) : ∀ s ∈ grownP n a, 0 ≤ s.1 := ge_of_inn (grown_can _ _) fun m k => by
  obtain ⟨x, x0, x1, h⟩ := (grown_inn hn ha _).mp k
  have := inn_ge a0 h
  omega
theorem id_turned {a : List Pr} {n far : Int} (ha : Can a) (hn : 0 ≤ n) (a0 : ∀ s ∈ a, 0 ≤ s.1) : bothP (othersP far 0 (grownP n a)) (spansP [(n, far)]) = bothP (wornP n (othersP far 0 a)) (spansP [(n, far)]) := by
  obtain ⟨c1, g1, i1⟩ := oth (far := far) (grown_can n a) (grown_ge ha hn a0)
  obtain ⟨c2, g2, i2⟩ := oth (far := far) ha a0
  have c3 := worn_can hn c2
  refine can_uniq (both_can c1 (spansP_can _)) (both_can c3 (spansP_can _)) fun m => ?_
  rw [both_inn c1 (spansP_can _), both_inn c3 (spansP_can _), i1, worn_inn hn c2, inn_span, grown_inn hn ha]
  constructor
  · rintro ⟨⟨m0, m1, h⟩, q0, q1⟩
    refine ⟨fun k k0 k1 => (i2 _).mpr ⟨by omega, by omega, fun z => h ⟨k, k0, k1, z⟩⟩, q0, q1⟩
  · rintro ⟨h, q0, q1⟩
    refine ⟨⟨by omega, q1, ?_⟩, q0, q1⟩
    rintro ⟨k, k0, k1, z⟩
    exact ((i2 _).mp (h k k0 k1)).2.2 z
/-! the first of either -/
def frst : List Pr → Option Int
  | [] => none
  | s :: _ => some s.1
theorem frst_min {ss : List Pr} (h : Can ss) {x : Int} (e : frst ss = some x) : Inn ss x ∧ ∀ m, Inn ss m → x ≤ m := by
  cases ss with
  | nil => cases e
  | cons s ss =>
    cases e
    refine ⟨inn_cons.mpr (.inl ⟨Int.le_refl _, h.hd⟩), fun m k => ?_⟩
    rcases inn_cons.mp k with k | k
    · exact k.1
    · have := h.lt k; have := h.hd; omega
theorem frst_none {ss : List Pr} (e : frst ss = none) : ss = [] := by
  cases ss with
  | nil => rfl
  | cons s ss => cases e
theorem frst_uniq {ss : List Pr} (h : Can ss) {x : Int} (k : Inn ss x) (l : ∀ m, Inn ss m → x ≤ m) : frst ss = some x := by
  cases e : frst ss with
  | none => rw [frst_none e] at k; exact absurd k Inn.nil
  | some y =>
    obtain ⟨a, b⟩ := frst_min h e
    have := b x k
    have := l y a
    rw [show x = y by omega]
def mnO : Option Int → Option Int → Option Int
  | some x, some y => some (mnI x y)
  | some x, none => some x
  | none, some y => some y
  | none, none => none
theorem frst_either {a b : List Pr} (ha : Can a) (hb : Can b) : frst (spansP (a ++ b)) = mnO (frst a) (frst b) := by
  have inn : ∀ m, Inn (spansP (a ++ b)) m ↔ Inn a m ∨ Inn b m := fun m => (spansP_inn _ m).trans inn_app
  cases ea : frst a with
  | none =>
    rw [frst_none ea, List.nil_append, spansP_eq hb fun m => Iff.rfl]
    cases frst b <;> rfl
  | some x =>
    obtain ⟨x1, x2⟩ := frst_min ha ea
    cases eb : frst b with
    | none =>
      have hn := frst_none eb
      subst hn
      rw [List.append_nil, spansP_eq ha fun m => Iff.rfl]
      exact ea
    | some y =>
      obtain ⟨y1, y2⟩ := frst_min hb eb
      have p := mnI_p x y
      refine frst_uniq (spansP_can _) ((inn _).mpr ?_) fun m k => ?_
      · rcases p.2.2 with q | q <;> rw [q]
        · exact .inl x1
        · exact .inr y1
      · rcases (inn m).mp k with k | k
        · have := x2 m k; omega
        · have := y2 m k; omega
end Pf

namespace Pf
open PySem PySem.Spec L2 Dd
/-! ### lines: runs (level, long) -/
def lv : List Pr → Int → Option Int
  | [], _ => none
  | r :: rs, m => if m < 0 then none else if m < r.2 then some r.1 else lv rs (m - r.2)
def tot : List Pr → Int
  | [] => 0
  | r :: rs => r.2 + tot rs
def Alt : List Pr → Prop
  | [] => True
  | r :: rs => (∀ q, rs.head? = some q → q.1 ≠ r.1) ∧ Alt rs
def Gd (rs : List Pr) : Prop := (∀ r ∈ rs, (r.1 = 0 ∨ r.1 = 1) ∧ 1 ≤ r.2) ∧ Alt rs
theorem gd_nil : Gd [] := ⟨fun _ h => (by cases h), trivial⟩
theorem Gd.tail {r : Pr} {rs : List Pr} (h : Gd (r :: rs)) : Gd rs := ⟨fun q hq => h.1 q (List.mem_cons_of_mem _ hq), h.2.2⟩
theorem Gd.hd {r : Pr} {rs : List Pr} (h : Gd (r :: rs)) : (r.1 = 0 ∨ r.1 = 1) ∧ 1 ≤ r.2 := h.1 r List.mem_cons_self
theorem gd_cons {r : Pr} {rs : List Pr} (h : Gd rs) (h1 : (r.1 = 0 ∨ r.1 = 1) ∧ 1 ≤ r.2) (h2 : ∀ q, rs.head? = some q → q.1 ≠ r.1) : Gd (r :: rs) :=
  ⟨fun q hq => (List.mem_cons.mp hq).elim (fun e => e ▸ h1) (h.1 q), h2, h.2⟩
theorem tot_nn : ∀ {rs : List Pr}, Gd rs → 0 ≤ tot rs
  | [], _ => Int.le_refl _
  | r :: rs, h => by
    have := tot_nn h.tail; have := h.hd.2
    show 0 ≤ r.2 + tot rs
    omega
theorem tot_pos {rs : List Pr} (h : Gd rs) (e : rs ≠ []) : 0 < tot rs := by
  cases rs with
  | nil => exact absurd rfl e
  | cons r rs =>
    have := tot_nn h.tail; have := h.hd.2
    show 0 < r.2 + tot rs
    omega
theorem lv_neg (rs : List Pr) {m : Int} (h : m < 0) : lv rs m = none := by
  cases rs with
  | nil => rfl
  | cons r rs => unfold lv; rw [if_pos h]
theorem lv_hd {r : Pr} {rs : List Pr} {m : Int} (h0 : 0 ≤ m) (h1 : m < r.2) : lv (r :: rs) m = some r.1 := by
  unfold lv; rw [if_neg (by omega), if_pos h1]
theorem lv_tl {r : Pr} {rs : List Pr} {m : Int} (h0 : 0 ≤ r.2) (h1 : r.2 ≤ m) : lv (r :: rs) m = lv rs (m - r.2) := by
  conv => lhs; unfold lv
  rw [if_neg (by omega), if_neg (by omega)]
theorem lv_some : ∀ {rs : List Pr} {m : Int}, Gd rs → 0 ≤ m → m < tot rs → ∃ l, lv rs m = some l ∧ (l = 0 ∨ l = 1)
  | [], m, _, h0, h1 => by simp [tot] at h1; omega
  | r :: rs, m, h, h0, h1 => by
    by_cases q : m < r.2
    · exact ⟨r.1, lv_hd h0 q, h.hd.1⟩
    · have := h.hd.2
      rw [lv_tl (by omega) (by omega)]
      exact lv_some h.tail (by omega) (by simp only [tot] at h1; omega)
theorem lv_none : ∀ {rs : List Pr} {m : Int}, Gd rs → tot rs ≤ m → lv rs m = none
  | [], m, _, _ => rfl
  | r :: rs, m, h, h1 => by
    have := h.hd.2; have := tot_nn h.tail
    simp only [tot] at h1
    rw [lv_tl (by omega) (by omega)]
    exact lv_none h.tail (by omega)
theorem lv_range {rs : List Pr} {m l : Int} (h : Gd rs) (e : lv rs m = some l) : 0 ≤ m ∧ m < tot rs := by
  rcases Int.lt_or_le m 0 with a | a
  · rw [lv_neg rs a] at e; cases e
  · rcases Int.lt_or_le m (tot rs) with b | b
    · exact ⟨a, b⟩
    · rw [lv_none h b] at e; cases e
theorem lv_uniq : ∀ {a b : List Pr}, Gd a → Gd b → (∀ m, lv a m = lv b m) → a = b
  | [], [], _, _, _ => rfl
  | [], r :: b, _, hb, e => by
    have := e 0
    rw [lv_hd (Int.le_refl _) (by have := hb.hd.2; omega)] at this
    cases this
  | r :: a, [], ha, _, e => by
    have := e 0
    rw [lv_hd (Int.le_refl _) (by have := ha.hd.2; omega)] at this
    cases this
  | r :: a, s :: b, ha, hb, e => by
    have r2 := ha.hd.2
    have s2 := hb.hd.2
    have l0 : r.1 = s.1 := by
      have := e 0
      rw [lv_hd (Int.le_refl _) (by omega), lv_hd (Int.le_refl _) (by omega)] at this
      exact Option.some.inj this
    have nx : ∀ {x y : Pr} {c d : List Pr}, Gd (x :: c) → Gd (y :: d) → x.1 = y.1 → 1 ≤ x.2 → (∀ m, lv (x :: c) m = lv (y :: d) m) → ¬ x.2 < y.2 := fun {x y c d} hx hy exy x2 e q => by
      have := e x.2
      rw [lv_tl (by omega) (Int.le_refl _), Int.sub_self, lv_hd (by omega) q] at this
      cases c with
      | nil => cases this
      | cons z c =>
        rw [lv_hd (Int.le_refl _) (by have := hx.tail.hd.2; omega)] at this
        exact hx.2.1 z rfl ((Option.some.inj this).trans exy.symm)
    have e2 : r.2 = s.2 := by
      have := nx ha hb l0 r2 e
      have := nx hb ha l0.symm s2 fun m => (e m).symm
      omega
    have er : r = s := Prod.ext l0 e2
    subst er
    rw [lv_uniq ha.tail hb.tail fun m => ?_]
    rcases Int.lt_or_le m 0 with q | q
    · rw [lv_neg a q, lv_neg b q]
    · have := e (m + r.2)
      rwa [lv_tl (by omega) (by omega), lv_tl (by omega) (by omega), show m + r.2 - r.2 = m by omega] at this
theorem lv_zero {rs : List Pr} (h : Gd rs) : lv rs 0 = rs.head?.map (·.1) := by
  cases rs with
  | nil => rfl
  | cons r rs => rw [lv_hd (Int.le_refl _) (by have := h.hd.2; omega)]; rfl
/-! one behind the other -/
def joinP : List Pr → List Pr → List Pr
  | [], b => b
  | [r], [] => [r]
  | [r], q :: b => if r.1 = q.1 then (r.1, r.2 + q.2) :: b else r :: q :: b
  | r :: s :: a, b => r :: joinP (s :: a) b
theorem join_ok : ∀ {a b : List Pr}, Gd a → Gd b → Gd (joinP a b) ∧ (a ≠ [] → (joinP a b).head?.map (·.1) = a.head?.map (·.1)) ∧ ∀ m, lv (joinP a b) m = if m < tot a then lv a m else lv b (m - tot a)
  | [], b, _, hb => ⟨hb, fun h => absurd rfl h, fun m => by
    show lv b m = if m < 0 then none else lv b (m - 0)
    by_cases q : m < 0
    · rw [if_pos q, lv_neg b q]
    · rw [if_neg q, Int.sub_zero]⟩
  | [r], [], ha, _ => ⟨ha, fun _ => rfl, fun m => by
    show lv [r] m = if m < tot [r] then lv [r] m else none
    by_cases q : m < tot [r]
    · rw [if_pos q]
    · rw [if_neg q, lv_none ha (by omega)]⟩
  | [r], q :: b, ha, hb => by
    have r2 := ha.hd.2
    have q2 := hb.hd.2
    by_cases e : r.1 = q.1
    · have eq : joinP [r] (q :: b) = (r.1, r.2 + q.2) :: b := by unfold joinP; rw [if_pos e]
      rw [eq]
      refine ⟨gd_cons hb.tail ⟨ha.hd.1, by show 1 ≤ r.2 + q.2; omega⟩ fun z hz => (by show z.1 ≠ r.1; rw [e]; exact hb.2.1 z hz), fun _ => rfl, fun m => ?_⟩
      show lv _ m = if m < r.2 + 0 then lv [r] m else lv (q :: b) (m - (r.2 + 0))
      rw [Int.add_zero]
      rcases Int.lt_or_le m 0 with c | c
      · rw [lv_neg _ c, if_pos (by omega), lv_neg _ c]
      · by_cases c1 : m < r.2
        · rw [if_pos c1, lv_hd c c1, lv_hd c (by show m < r.2 + q.2; omega)]
        · rw [if_neg c1]
          by_cases c2 : m < r.2 + q.2
          · rw [lv_hd c c2, lv_hd (by omega) (by omega), e]
          · rw [lv_tl (by show 0 ≤ r.2 + q.2; omega) (by show r.2 + q.2 ≤ m; omega), lv_tl (by omega) (by omega)]
            show lv b (m - (r.2 + q.2)) = _
            congr 1; omega
    · have eq : joinP [r] (q :: b) = r :: q :: b := by unfold joinP; rw [if_neg e]
      rw [eq]
      refine ⟨gd_cons hb ha.hd fun z hz => (by cases hz; exact fun h => e h.symm), fun _ => rfl, fun m => ?_⟩
      show lv _ m = if m < r.2 + 0 then lv [r] m else lv (q :: b) (m - (r.2 + 0))
      rw [Int.add_zero]
      rcases Int.lt_or_le m 0 with c | c
      · rw [lv_neg _ c, if_pos (by omega), lv_neg _ c]
      · by_cases c1 : m < r.2
        · rw [if_pos c1, lv_hd c c1, lv_hd c c1]
        · rw [if_neg c1, lv_tl (by omega) (by omega)]
  | r :: s :: a, b, ha, hb => by
    have r2 := ha.hd.2
    obtain ⟨g, hh, l⟩ := join_ok ha.tail hb
    have eq : joinP (r :: s :: a) b = r :: joinP (s :: a) b := rfl
    rw [eq]
    refine ⟨gd_cons g ha.hd fun z hz => ?_, fun _ => rfl, fun m => ?_⟩
    · have := hh (by simp)
      rw [hz] at this
      have q : z.1 = s.1 := by simpa using this
      rw [q]
      exact ha.2.1 s rfl
    · show lv _ m = if m < r.2 + tot (s :: a) then lv (r :: s :: a) m else lv b (m - (r.2 + tot (s :: a)))
      have t0 := tot_nn ha.tail
      rcases Int.lt_or_le m 0 with c | c
      · rw [lv_neg _ c, if_pos (by omega), lv_neg _ c]
      · by_cases c1 : m < r.2
        · rw [if_pos (by omega), lv_hd c c1, lv_hd c c1]
        · rw [lv_tl (by omega) (by omega), lv_tl (by omega) (by omega), l]
          by_cases c2 : m < r.2 + tot (s :: a)
          · rw [if_pos c2, if_pos (by omega)]
          · rw [if_neg c2, if_neg (by omega)]
            congr 1; omega
/-! a stretch -/
def strP (b e : Int) : Int → List Pr → List Pr
  | _, [] => []
  | a, r :: rs => (if mxI a b < mnI (a + r.2) e then [(r.1, mnI (a + r.2) e - mxI a b)] else []) ++ strP b e (a + r.2) rs
theorem str_end (b e : Int) : ∀ (rs : List Pr) (a : Int), Gd rs → e ≤ a → strP b e a rs = []
  | [], _, _, _ => rfl
  | r :: rs, a, h, q => by
    have r2 := h.hd.2
    have p := mxI_p a b
    have p2 := mnI_p (a + r.2) e
    show (if mxI a b < mnI (a + r.2) e then _ else []) ++ strP b e (a + r.2) rs = []
    rw [if_neg (by omega), str_end b e rs (a + r.2) h.tail (by omega)]; rfl
theorem str_head (b e : Int) {rs : List Pr} {a : Int} (h : Gd rs) (q : b ≤ a) : (strP b e a rs).head?.map (·.1) = if a < e then rs.head?.map (·.1) else none := by
  cases rs with
  | nil => show none = if a < e then none else none; split <;> rfl
  | cons r rs =>
    have r2 := h.hd.2
    have p := mxI_p a b
    have p2 := mnI_p (a + r.2) e
    by_cases c : a < e
    · show ((if mxI a b < mnI (a + r.2) e then [(r.1, mnI (a + r.2) e - mxI a b)] else []) ++ strP b e (a + r.2) rs).head?.map (·.1) = _
      rw [if_pos (by omega), if_pos c]; rfl
    · rw [str_end b e _ a h (by omega), if_neg c]; rfl
theorem str_ok (b e : Int) : ∀ (rs : List Pr) (a : Int), Gd rs → Gd (strP b e a rs) ∧ ∀ m, lv (strP b e a rs) m = if 0 ≤ m ∧ m + mxI a b < e then lv rs (m + mxI a b - a) else none
  | [], a, _ => ⟨gd_nil, fun m => by show none = if _ then none else none; split <;> rfl⟩
  | r :: rs, a, h => by
    have r2 := h.hd.2
    obtain ⟨g, l⟩ := str_ok b e rs (a + r.2) h.tail
    have p := mxI_p a b
    have p2 := mnI_p (a + r.2) e
    have p3 := mxI_p (a + r.2) b
    by_cases c : mxI a b < mnI (a + r.2) e
    · have eq : strP b e a (r :: rs) = (r.1, mnI (a + r.2) e - mxI a b) :: strP b e (a + r.2) rs := by
        show (if mxI a b < mnI (a + r.2) e then _ else []) ++ _ = _
        rw [if_pos c]; rfl
      rw [eq]
      refine ⟨gd_cons g ⟨h.hd.1, by show 1 ≤ mnI (a + r.2) e - mxI a b; omega⟩ fun q hq => ?_, fun m => ?_⟩
      · have hh := str_head b e (a := a + r.2) h.tail (by omega)
        rw [hq] at hh
        by_cases c2 : a + r.2 < e
        · rw [if_pos c2] at hh
          cases e2 : rs.head? with
          | none => rw [e2] at hh; cases hh
          | some z =>
            rw [e2] at hh
            have : q.1 = z.1 := by simpa using hh
            show q.1 ≠ r.1
            rw [this]
            exact h.2.1 z e2
        · rw [if_neg c2] at hh; cases hh
      · rcases Int.lt_or_le m 0 with d | d
        · rw [lv_neg _ d, if_neg (by omega)]
        · by_cases d1 : m < mnI (a + r.2) e - mxI a b
          · rw [lv_hd d d1, if_pos ⟨d, by omega⟩, lv_hd (by omega) (by omega)]
          · rw [lv_tl (by show 0 ≤ mnI (a + r.2) e - mxI a b; omega) (by show mnI (a + r.2) e - mxI a b ≤ m; omega), l]
            show (if 0 ≤ m - (mnI (a + r.2) e - mxI a b) ∧ m - (mnI (a + r.2) e - mxI a b) + mxI (a + r.2) b < e then lv rs (m - (mnI (a + r.2) e - mxI a b) + mxI (a + r.2) b - (a + r.2)) else none) = _
            by_cases d2 : m + mxI a b < e
            · have e1 : mnI (a + r.2) e = a + r.2 := by omega
              have e2 : mxI (a + r.2) b = a + r.2 := by omega
              rw [e1, e2, if_pos ⟨by omega, by omega⟩, if_pos ⟨d, d2⟩, lv_tl (by omega) (by omega)]
              congr 1; omega
            · rw [if_neg (c := 0 ≤ m ∧ m + mxI a b < e) (by omega), if_neg (by omega)]
    · have eq : strP b e a (r :: rs) = strP b e (a + r.2) rs := by
        show (if mxI a b < mnI (a + r.2) e then _ else []) ++ _ = _
        rw [if_neg c]; rfl
      rw [eq]
      refine ⟨g, fun m => ?_⟩
      rw [l]
      by_cases d : 0 ≤ m ∧ m + mxI a b < e
      · have e1 : mxI a b = b ∧ a + r.2 ≤ b := by omega
        have e2 : mxI (a + r.2) b = b := by omega
        rw [if_pos d, e2, if_pos (by omega), e1.1, lv_tl (by omega) (by omega)]
        congr 1; omega
      · rw [if_neg d]
        by_cases d3 : 0 ≤ m ∧ m + mxI (a + r.2) b < e
        · exact absurd d3 (by omega)
        · rw [if_neg d3]
/-! turned, slowed -/
def turnP (rs : List Pr) : List Pr := rs.map fun r => (1 - r.1, r.2)
theorem turn_gd : ∀ {rs : List Pr}, Gd rs → Gd (turnP rs)
  | [], _ => gd_nil
  | r :: rs, h => gd_cons (turn_gd h.tail) ⟨by show 1 - r.1 = 0 ∨ 1 - r.1 = 1; have := h.hd.1; omega, h.hd.2⟩ fun q hq => by
    cases rs with
    | nil => cases hq
    | cons z rs =>
      cases hq
      have := h.2.1 z rfl
      show 1 - z.1 ≠ 1 - r.1
      omega
theorem turn_lv : ∀ {rs : List Pr} (m : Int), Gd rs → lv (turnP rs) m = (lv rs m).map (1 - ·)
  | [], m, _ => rfl
  | r :: rs, m, h => by
    have r2 := h.hd.2
    show lv ((1 - r.1, r.2) :: turnP rs) m = _
    rcases Int.lt_or_le m 0 with c | c
    · rw [lv_neg _ c, lv_neg _ c]; rfl
    · by_cases c1 : m < r.2
      · rw [lv_hd c c1]; exact lv_hd (r := (1 - r.1, r.2)) c c1
      · rw [lv_tl (by show 0 ≤ r.2; omega) (by show r.2 ≤ m; omega), lv_tl (by omega) (by omega)]
        exact turn_lv _ h.tail
theorem turn_turn : ∀ {rs : List Pr}, turnP (turnP rs) = rs
  | [] => rfl
  | r :: rs => by
    show (1 - (1 - r.1), r.2) :: turnP (turnP rs) = _
    rw [turn_turn, show 1 - (1 - r.1) = r.1 by omega]
theorem turn_tot : ∀ (rs : List Pr), tot (turnP rs) = tot rs
  | [] => rfl
  | r :: rs => by show r.2 + tot (turnP rs) = r.2 + tot rs; rw [turn_tot]
def slowP (t : Int) (rs : List Pr) : List Pr := rs.map fun r => (r.1, r.2 * t)
theorem slow_gd {t : Int} (ht : 1 ≤ t) : ∀ {rs : List Pr}, Gd rs → Gd (slowP t rs)
  | [], _ => gd_nil
  | r :: rs, h => gd_cons (slow_gd ht h.tail) ⟨h.hd.1, by
      show 1 ≤ r.2 * t
      have := Int.mul_le_mul h.hd.2 ht (by omega) (by have := h.hd.2; omega)
      omega⟩ fun q hq => by
    cases rs with
    | nil => cases hq
    | cons z rs => cases hq; exact h.2.1 z rfl
theorem slow_lv {t : Int} (ht : 1 ≤ t) : ∀ {rs : List Pr} (m : Int), Gd rs → lv (slowP t rs) m = lv rs (m / t)
  | [], m, _ => rfl
  | r :: rs, m, h => by
    have r2 := h.hd.2
    have rt : 0 ≤ r.2 * t := Int.mul_nonneg (by omega) (by omega)
    show lv ((r.1, r.2 * t) :: slowP t rs) m = _
    rcases Int.lt_or_le m 0 with c | c
    · rw [lv_neg _ c, lv_neg _ (Int.ediv_neg_of_neg_of_pos c (by omega))]
    · by_cases c1 : m < r.2 * t
      · rw [lv_hd c c1, lv_hd (Int.ediv_nonneg c (by omega)) (Int.ediv_lt_of_lt_mul (by omega) c1)]
      · have c2 : r.2 ≤ m / t := (Int.le_ediv_iff_mul_le (by omega)).mpr (by omega)
        rw [lv_tl rt (by show r.2 * t ≤ m; omega), lv_tl (by omega) c2, slow_lv ht _ h.tail]
        show lv rs ((m - r.2 * t) / t) = _
        rw [Int.sub_mul_ediv_right m r.2 (by omega)]
theorem slow_tot (t : Int) : ∀ (rs : List Pr), tot (slowP t rs) = t * tot rs
  | [] => (Int.mul_zero t).symm
  | r :: rs => by
    show r.2 * t + tot (slowP t rs) = t * (r.2 + tot rs)
    rw [slow_tot t rs, Int.mul_add, Int.mul_comm r.2 t]
/-! where it is high -/
def highP : Int → List Pr → List Pr
  | _, [] => []
  | b, r :: rs => (if r.1 = 1 then [(b, b + r.2)] else []) ++ highP (b + r.2) rs
theorem high_ok : ∀ (rs : List Pr) (b : Int), Gd rs → Can (highP b rs) ∧ (∀ s ∈ highP b rs, b ≤ s.1) ∧ (∀ s ∈ highP b rs, rs.head?.map (·.1) = some 0 → b < s.1) ∧ ∀ m, Inn (highP b rs) m ↔ lv rs (m - b) = some 1
  | [], b, _ => ⟨can_nil, fun s hs => (by cases hs), fun s hs => (by cases hs), fun m => ⟨fun h => absurd h Inn.nil, fun h => (by cases h)⟩⟩
  | r :: rs, b, h => by
    have r2 := h.hd.2
    obtain ⟨c, g, g0, i⟩ := high_ok rs (b + r.2) h.tail
    have lve : ∀ m : Int, lv rs (m - (b + r.2)) = if m < b + r.2 then none else lv (r :: rs) (m - b) := fun m => by
      by_cases q : m < b + r.2
      · rw [if_pos q, lv_neg _ (by omega)]
      · rw [if_neg q, lv_tl (by omega) (by omega)]
        congr 1; omega
    by_cases q : r.1 = 1
    · have eq : highP b (r :: rs) = (b, b + r.2) :: highP (b + r.2) rs := by
        show (if r.1 = 1 then _ else []) ++ _ = _
        rw [if_pos q]; rfl
      rw [eq]
      refine ⟨can_cons c (by show b < b + r.2; omega) fun t ht => ?_, fun s hs => ?_, fun s hs k => ?_, fun m => ?_⟩
      · cases e : rs.head? with
        | none =>
          cases rs with
          | nil => cases ht
          | cons z rs => cases e
        | some z =>
          refine g0 t ht ?_
          rw [e]
          have := h.2.1 z e
          have hz : z ∈ rs := List.mem_of_mem_head? e
          have := (h.tail.1 z hz).1
          show some z.1 = some 0
          rw [show z.1 = 0 by omega]
      · rcases List.mem_cons.mp hs with rfl | hs
        · exact Int.le_refl _
        · have := g s hs; omega
      · have : r.1 = 0 := by simpa using k
        omega
      · rw [inn_cons, i, lve]
        constructor
        · rintro (⟨k1, k2⟩ | k)
          · rw [lv_hd (by show 0 ≤ m - b; have : b ≤ m := k1; omega) (by have : m < b + r.2 := k2; omega), q]
          · by_cases z : m < b + r.2
            · rw [if_pos z] at k; cases k
            · rwa [if_neg z] at k
        · intro k
          have kr := (lv_range h k).1
          by_cases z : m < b + r.2
          · exact .inl ⟨by show b ≤ m; omega, z⟩
          · rw [if_neg z]; exact .inr k
    · have eq : highP b (r :: rs) = highP (b + r.2) rs := by
        show (if r.1 = 1 then _ else []) ++ _ = _
        rw [if_neg q]; rfl
      rw [eq]
      refine ⟨c, fun s hs => by have := g s hs; omega, fun s hs _ => by have := g s hs; omega, fun m => ?_⟩
      rw [i, lve]
      by_cases z : m < b + r.2
      · rw [if_pos z]
        refine ⟨fun k => (by cases k), fun k => ?_⟩
        rw [lv_hd (lv_range h k).1 (by omega)] at k
        exact absurd (Option.some.inj k) q
      · rw [if_neg z]
theorem high_can {rs : List Pr} (h : Gd rs) : Can (highP 0 rs) := (high_ok rs 0 h).1
theorem high_ge {rs : List Pr} (h : Gd rs) : ∀ s ∈ highP 0 rs, 0 ≤ s.1 := (high_ok rs 0 h).2.1
theorem high_inn {rs : List Pr} (h : Gd rs) (m : Int) : Inn (highP 0 rs) m ↔ lv rs m = some 1 := by
  rw [(high_ok rs 0 h).2.2.2 m, Int.sub_zero]
theorem high_slow (t : Int) : ∀ (rs : List Pr) (b : Int), highP (t * b) (slowP t rs) = (highP b rs).map fun s => (t * s.1, t * s.2)
  | [], b => rfl
  | r :: rs, b => by
    show (if r.1 = 1 then [(t * b, t * b + r.2 * t)] else []) ++ highP (t * b + r.2 * t) (slowP t rs) = ((if r.1 = 1 then [(b, b + r.2)] else []) ++ highP (b + r.2) rs).map _
    have e : t * b + r.2 * t = t * (b + r.2) := by rw [Int.mul_add, Int.mul_comm r.2 t]
    rw [e, high_slow t rs, List.map_append]
    congr 1
    split <;> rfl
theorem high_len : ∀ (rs : List Pr) (b : Int), (highP b rs).length ≤ rs.length
  | [], _ => Nat.le_refl _
  | r :: rs, b => by
    have := high_len rs (b + r.2)
    show ((if r.1 = 1 then [(b, b + r.2)] else []) ++ highP (b + r.2) rs).length ≤ rs.length + 1
    rw [List.length_append]
    split <;> simp <;> omega
theorem high_both (rs : List Pr) : ∀ b : Int, Gd rs → lenQ (highP b rs) + lenQ (highP b (turnP rs)) = tot rs := by
  induction rs with
  | nil => intro b _; rfl
  | cons r rs ih =>
    intro b h
    have := ih (b + r.2) h.tail
    have ap : ∀ a c : List Pr, lenQ (a ++ c) = lenQ a + lenQ c := fun a c => by
      unfold lenQ; rw [List.map_append, List.sum_append]
    show lenQ ((if r.1 = 1 then [(b, b + r.2)] else []) ++ highP (b + r.2) rs) + lenQ ((if 1 - r.1 = 1 then [(b, b + r.2)] else []) ++ highP (b + r.2) (turnP rs)) = r.2 + tot rs
    rw [ap, ap]
    have e : lenQ [(b, b + r.2)] = r.2 := by show b + r.2 - b + 0 = r.2; omega
    rcases h.hd.1 with q | q
    · rw [if_neg (by omega), if_pos (by omega), e]
      show 0 + _ + _ = _
      omega
    · rw [if_pos q, if_neg (by omega), e]
      show _ + (0 + _) = _
      omega
/-! by spans -/
def lbyP (long : Int) : Int → List Pr → List Pr
  | a, [] => if a < long then [(0, long - a)] else []
  | a, s :: ss => (if a < s.1 then [(0, s.1 - a)] else []) ++ (1, s.2 - s.1) :: lbyP long s.2 ss
theorem lby_ok (long : Int) : ∀ (ss : List Pr) (a : Int), Can ss → (∀ s ∈ ss, a ≤ s.1 ∧ s.2 ≤ long) → Gd (lbyP long a ss) ∧ ((∀ s ∈ ss, a < s.1) → ∀ q, (lbyP long a ss).head? = some q → q.1 = 0) ∧ ∀ m, lv (lbyP long a ss) m = if 0 ≤ m ∧ m + a < long then some (if inB ss (m + a) = true then 1 else 0) else none
  | [], a, _, _ => by
    by_cases c : a < long
    · have eq : lbyP long a [] = [(0, long - a)] := by unfold lbyP; rw [if_pos c]
      rw [eq]
      refine ⟨gd_cons gd_nil ⟨.inl rfl, by show 1 ≤ long - a; omega⟩ fun q hq => (by cases hq), fun _ q hq => (by cases hq; rfl), fun m => ?_⟩
      rcases Int.lt_or_le m 0 with d | d
      · rw [lv_neg _ d, if_neg (by omega)]
      · by_cases d1 : m < long - a
        · rw [lv_hd d d1, if_pos ⟨d, by omega⟩]; rfl
        · rw [lv_tl (by show 0 ≤ long - a; omega) (by show long - a ≤ m; omega), if_neg (by omega)]; rfl
    · have eq : lbyP long a [] = [] := by unfold lbyP; rw [if_neg c]
      rw [eq]
      exact ⟨gd_nil, fun _ q hq => (by cases hq), fun m => by rw [if_neg (by omega)]; rfl⟩
  | s :: ss, a, hc, hb => by
    obtain ⟨b1, b2⟩ := hb s List.mem_cons_self
    have s0 := hc.hd
    have gp := hc.gap
    obtain ⟨g, hh, l⟩ := lby_ok long ss s.2 hc.tail fun t ht => ⟨by have := gp t ht; omega, (hb t (List.mem_cons_of_mem _ ht)).2⟩
    have g1 : Gd ((1, s.2 - s.1) :: lbyP long s.2 ss) := gd_cons g ⟨.inr rfl, by show 1 ≤ s.2 - s.1; omega⟩ fun q hq => by
      rw [hh gp q hq]; show (0 : Int) ≠ 1; decide
    have ib : ∀ m : Int, inB (s :: ss) m = ((decide (s.1 ≤ m) && decide (m < s.2)) || inB ss m) := fun m => rfl
    have ibn : ∀ m : Int, m ≤ s.2 → inB ss m = false := fun m hm => Bool.eq_false_iff.mpr fun k => by
      have := hc.lt ((inB_iff _ _).mp k); omega
    have l1 : ∀ m, lv ((1, s.2 - s.1) :: lbyP long s.2 ss) m = if 0 ≤ m ∧ m + s.1 < long then some (if inB (s :: ss) (m + s.1) = true then 1 else 0) else none := fun m => by
      rcases Int.lt_or_le m 0 with d | d
      · rw [lv_neg _ d, if_neg (by omega)]
      · by_cases d1 : m < s.2 - s.1
        · rw [lv_hd d d1, if_pos ⟨d, by omega⟩, ib]
          have z : (decide (s.1 ≤ m + s.1) && decide (m + s.1 < s.2)) = true := by
            rw [Bool.and_eq_true, decide_eq_true_eq, decide_eq_true_eq]; omega
          rw [z]; rfl
        · rw [lv_tl (by show 0 ≤ s.2 - s.1; omega) (by show s.2 - s.1 ≤ m; omega), l]
          show (if 0 ≤ m - (s.2 - s.1) ∧ m - (s.2 - s.1) + s.2 < long then some (if inB ss (m - (s.2 - s.1) + s.2) = true then 1 else 0) else none) = _
          rw [show m - (s.2 - s.1) + s.2 = m + s.1 by omega, ib]
          have z : (decide (s.1 ≤ m + s.1) && decide (m + s.1 < s.2)) = false := by
            rw [Bool.and_eq_false_iff, decide_eq_false_iff_not, decide_eq_false_iff_not]; omega
          rw [z, Bool.false_or]
          by_cases d2 : m + s.1 < long
          · rw [if_pos (show 0 ≤ m - (s.2 - s.1) ∧ m + s.1 < long from ⟨by omega, d2⟩), if_pos (show 0 ≤ m ∧ m + s.1 < long from ⟨d, d2⟩)]
          · rw [if_neg (show ¬ (0 ≤ m - (s.2 - s.1) ∧ m + s.1 < long) by omega), if_neg (show ¬ (0 ≤ m ∧ m + s.1 < long) by omega)]
    by_cases c : a < s.1
    · have eq : lbyP long a (s :: ss) = (0, s.1 - a) :: (1, s.2 - s.1) :: lbyP long s.2 ss := by
        show (if a < s.1 then _ else []) ++ _ = _
        rw [if_pos c]; rfl
      rw [eq]
      refine ⟨gd_cons g1 ⟨.inl rfl, by show 1 ≤ s.1 - a; omega⟩ fun q hq => (by cases hq; show (1 : Int) ≠ 0; decide), fun _ q hq => (by cases hq; rfl), fun m => ?_⟩
      rcases Int.lt_or_le m 0 with d | d
      · rw [lv_neg _ d, if_neg (by omega)]
      · by_cases d1 : m < s.1 - a
        · rw [lv_hd d d1, if_pos ⟨d, by omega⟩, ib, ibn _ (by omega)]
          have z : (decide (s.1 ≤ m + a) && decide (m + a < s.2)) = false := by
            rw [Bool.and_eq_false_iff, decide_eq_false_iff_not, decide_eq_false_iff_not]; omega
          rw [z]; rfl
        · rw [lv_tl (by show 0 ≤ s.1 - a; omega) (by show s.1 - a ≤ m; omega), l1]
          show (if 0 ≤ m - (s.1 - a) ∧ m - (s.1 - a) + s.1 < long then some (if inB (s :: ss) (m - (s.1 - a) + s.1) = true then 1 else 0) else none) = _
          rw [show m - (s.1 - a) + s.1 = m + a by omega]
          by_cases d2 : m + a < long
          · rw [if_pos (show 0 ≤ m - (s.1 - a) ∧ m + a < long from ⟨by omega, d2⟩), if_pos (show 0 ≤ m ∧ m + a < long from ⟨d, d2⟩)]
          · rw [if_neg (show ¬ (0 ≤ m - (s.1 - a) ∧ m + a < long) by omega), if_neg (show ¬ (0 ≤ m ∧ m + a < long) by omega)]
    · have ea : a = s.1 := by omega
      have eq : lbyP long a (s :: ss) = (1, s.2 - s.1) :: lbyP long s.2 ss := by
        show (if a < s.1 then _ else []) ++ _ = _
        rw [if_neg c]; rfl
      rw [eq]
      exact ⟨g1, fun k => absurd (k s List.mem_cons_self) c, by rw [ea]; exact l1⟩
/-! rises, falls -/
def begP (w : Int) : Int → List Pr → List Int
  | _, [] => []
  | b, r :: rs => (if r.1 = w ∧ 0 < b then [b] else []) ++ begP w (b + r.2) rs
theorem beg_turn (w : Int) : ∀ (rs : List Pr) (b : Int), begP w b (turnP rs) = begP (1 - w) b rs
  | [], _ => rfl
  | r :: rs, b => by
    show (if 1 - r.1 = w ∧ 0 < b then [b] else []) ++ begP w (b + r.2) (turnP rs) = (if r.1 = 1 - w ∧ 0 < b then [b] else []) ++ begP (1 - w) (b + r.2) rs
    rw [beg_turn w rs]
    by_cases c : r.1 = 1 - w ∧ 0 < b
    · rw [if_pos c, if_pos (by omega)]
    · rw [if_neg c, if_neg (by omega)]
theorem beg_slow (w : Int) {t : Int} (ht : 1 ≤ t) : ∀ (rs : List Pr) (b : Int), begP w (t * b) (slowP t rs) = (begP w b rs).map (t * ·)
  | [], _ => rfl
  | r :: rs, b => by
    show (if r.1 = w ∧ 0 < t * b then [t * b] else []) ++ begP w (t * b + r.2 * t) (slowP t rs) = ((if r.1 = w ∧ 0 < b then [b] else []) ++ begP w (b + r.2) rs).map _
    have e : t * b + r.2 * t = t * (b + r.2) := by rw [Int.mul_add, Int.mul_comm r.2 t]
    rw [e, beg_slow w ht rs, List.map_append]
    have q : 0 < t * b ↔ 0 < b := ⟨fun h => by
      rcases Int.lt_or_le 0 b with k | k
      · exact k
      · have := Int.mul_le_mul_of_nonneg_left k (show 0 ≤ t by omega)
        omega, fun h => Int.mul_pos (by omega) h⟩
    congr 1
    by_cases c : r.1 = w ∧ 0 < b
    · rw [if_pos c, if_pos ⟨c.1, q.mpr c.2⟩]; rfl
    · rw [if_neg c, if_neg fun k => c ⟨k.1, q.mp k.2⟩]; rfl
theorem beg_mem (w : Int) : ∀ (rs : List Pr) (b : Int), Gd rs → 0 ≤ b → ∀ m, m ∈ begP w b rs ↔ (b ≤ m ∧ 0 < m ∧ lv rs (m - b) = some w ∧ (m = b ∨ lv rs (m - 1 - b) ≠ some w))
  | [], b, _, _, m => ⟨fun h => (by cases h), fun ⟨_, _, h, _⟩ => by cases h⟩
  | r :: rs, b, h, b0, m => by
    have r2 := h.hd.2
    have ih := beg_mem w rs (b + r.2) h.tail (by omega) m
    show m ∈ (if r.1 = w ∧ 0 < b then [b] else []) ++ begP w (b + r.2) rs ↔ _
    rw [List.mem_append, ih]
    constructor
    · rintro (k | ⟨k1, k2, k3, k4⟩)
      · by_cases c : r.1 = w ∧ 0 < b
        · rw [if_pos c] at k
          have : m = b := by simpa using k
          subst this
          refine ⟨Int.le_refl _, c.2, ?_, .inl rfl⟩
          rw [Int.sub_self, lv_hd (Int.le_refl _) (by omega), c.1]
        · rw [if_neg c] at k; cases k
      · refine ⟨by omega, k2, ?_, .inr ?_⟩
        · rw [lv_tl (by omega) (by omega), show m - b - r.2 = m - (b + r.2) by omega]; exact k3
        · rcases k4 with k4 | k4
          · subst k4
            rw [lv_hd (by omega) (by omega)]
            intro q
            rw [Int.sub_self, lv_zero h.tail] at k3
            cases e : rs.head? with
            | none => rw [e] at k3; cases k3
            | some z =>
              rw [e] at k3
              exact h.2.1 z e ((Option.some.inj k3).trans (Option.some.inj q).symm)
          · by_cases q : m - 1 < b + r.2
            · have : m = b + r.2 := by omega
              subst this
              rw [lv_hd (by omega) (by omega)]
              intro q
              rw [Int.sub_self, lv_zero h.tail] at k3
              cases e : rs.head? with
              | none => rw [e] at k3; cases k3
              | some z =>
                rw [e] at k3
                exact h.2.1 z e ((Option.some.inj k3).trans (Option.some.inj q).symm)
            · rw [lv_tl (by omega) (by omega), show m - 1 - b - r.2 = m - 1 - (b + r.2) by omega]; exact k4
    · rintro ⟨k1, k2, k3, k4⟩
      by_cases c : m < b + r.2
      · rw [lv_hd (by omega) (by omega)] at k3
        have e := Option.some.inj k3
        have : m = b := by
          rcases k4 with k4 | k4
          · exact k4
          · rcases Int.lt_or_le b m with q | q
            · rw [lv_hd (by omega) (by omega)] at k4
              exact absurd k3 k4
            · omega
        subst this
        rw [if_pos ⟨e, k2⟩]
        exact .inl (by simp)
      · refine .inr ⟨by omega, k2, ?_, ?_⟩
        · rw [lv_tl (by omega) (by omega)] at k3
          rw [show m - (b + r.2) = m - b - r.2 by omega]; exact k3
        · by_cases q : m = b + r.2
          · exact .inl q
          · rcases k4 with k4 | k4
            · omega
            · rw [lv_tl (by omega) (by omega)] at k4
              exact .inr (by rw [show m - 1 - (b + r.2) = m - 1 - b - r.2 by omega]; exact k4)
theorem beg_low (w : Int) : ∀ (rs : List Pr) (b : Int), Gd rs → ∀ m ∈ begP w b rs, b ≤ m
  | [], b, _, m, hm => by cases hm
  | r :: rs, b, h, m, hm => by
    have r2 := h.hd.2
    rcases List.mem_append.mp hm with k | k
    · by_cases c : r.1 = w ∧ 0 < b
      · rw [if_pos c] at k; have : m = b := by simpa using k
        omega
      · rw [if_neg c] at k; cases k
    · have := beg_low w rs (b + r.2) h.tail m k; omega
theorem beg_pw (w : Int) : ∀ (rs : List Pr) (b : Int), Gd rs → (begP w b rs).Pairwise (· < ·)
  | [], b, _ => List.Pairwise.nil
  | r :: rs, b, h => by
    have r2 := h.hd.2
    show ((if r.1 = w ∧ 0 < b then [b] else []) ++ begP w (b + r.2) rs).Pairwise (· < ·)
    refine List.pairwise_append.mpr ⟨?_, beg_pw w rs (b + r.2) h.tail, fun x hx y hy => ?_⟩
    · split <;> simp
    · have := beg_low w rs (b + r.2) h.tail y hy
      split at hx
      · have : x = b := by simpa using hx
        omega
      · cases hx
theorem beg_len (w : Int) : ∀ (rs : List Pr) (b : Int), (begP w b rs).length ≤ rs.length
  | [], _ => Nat.le_refl _
  | r :: rs, b => by
    have := beg_len w rs (b + r.2)
    show ((if r.1 = w ∧ 0 < b then [b] else []) ++ begP w (b + r.2) rs).length ≤ rs.length + 1
    rw [List.length_append]
    split <;> simp <;> omega
theorem str_len (b e : Int) : ∀ (rs : List Pr) (a : Int), (strP b e a rs).length ≤ rs.length
  | [], _ => Nat.le_refl _
  | r :: rs, a => by
    have := str_len b e rs (a + r.2)
    show ((if mxI a b < mnI (a + r.2) e then [(r.1, mnI (a + r.2) e - mxI a b)] else []) ++ strP b e (a + r.2) rs).length ≤ rs.length + 1
    rw [List.length_append]
    split <;> simp <;> omega
theorem join_len : ∀ (a b : List Pr), (joinP a b).length ≤ a.length + b.length
  | [], b => by show b.length ≤ _; simp
  | [r], [] => by show 1 ≤ _; simp
  | [r], q :: b => by
    unfold joinP
    split <;> simp <;> omega
  | r :: s :: a, b => by
    have := join_len (s :: a) b
    show (joinP (s :: a) b).length + 1 ≤ _
    simp only [List.length_cons] at this ⊢
    omega
theorem lby_len (long : Int) : ∀ (ss : List Pr) (a : Int), (lbyP long a ss).length ≤ 2 * ss.length + 1
  | [], a => by unfold lbyP; split <;> simp
  | s :: ss, a => by
    have := lby_len long ss s.2
    show ((if a < s.1 then [(0, s.1 - a)] else []) ++ (1, s.2 - s.1) :: lbyP long s.2 ss).length ≤ _
    rw [List.length_append, List.length_cons, List.length_cons]
    split <;> simp <;> omega
end Pf

namespace Pf
open PySem PySem.Spec L2 Dd
/-! ### what holds of lines put together -/
theorem lv_is {x : List Pr} (h : Gd x) (m : Int) : lv x m ≠ none ↔ 0 ≤ m ∧ m < tot x := by
  constructor
  · intro k
    cases e : lv x m with
    | none => exact absurd e k
    | some l => exact lv_range h e
  · rintro ⟨a, b⟩ e
    obtain ⟨l, q, _⟩ := lv_some h a b
    rw [q] at e; cases e
theorem tot_of {x : List Pr} (h : Gd x) {T : Int} (T0 : 0 ≤ T) (e : ∀ m, lv x m ≠ none ↔ 0 ≤ m ∧ m < T) : tot x = T := by
  have t0 := tot_nn h
  have a := fun m => (lv_is h m).symm.trans (e m)
  have a1 := a (tot x)
  have a2 := a T
  omega
theorem str0_lv {rs : List Pr} (h : Gd rs) {b e : Int} (b0 : 0 ≤ b) (m : Int) : lv (strP b e 0 rs) m = if 0 ≤ m ∧ m + b < e then lv rs (m + b) else none := by
  rw [(str_ok b e rs 0 h).2 m]
  have p := mxI_p 0 b
  rw [show mxI 0 b = b by omega, Int.sub_zero]
theorem str0_gd {rs : List Pr} (h : Gd rs) (b e : Int) : Gd (strP b e 0 rs) := (str_ok b e rs 0 h).1
theorem str0_tot {rs : List Pr} (h : Gd rs) {b e : Int} (b0 : 0 ≤ b) (be : b ≤ e) (eN : e ≤ tot rs) : tot (strP b e 0 rs) = e - b := by
  refine tot_of (str0_gd h b e) (by omega) fun m => ?_
  rw [str0_lv h b0]
  by_cases c : 0 ≤ m ∧ m + b < e
  · rw [if_pos c, lv_is h]; omega
  · rw [if_neg c]
    exact ⟨fun k => absurd rfl k, fun k => absurd (show 0 ≤ m ∧ m + b < e by omega) c⟩
theorem join_tot {a b : List Pr} (ha : Gd a) (hb : Gd b) : tot (joinP a b) = tot a + tot b := by
  obtain ⟨g, _, l⟩ := join_ok ha hb
  have a0 := tot_nn ha
  have b0 := tot_nn hb
  refine tot_of g (by omega) fun m => ?_
  rw [l]
  by_cases c : m < tot a
  · rw [if_pos c, lv_is ha]; omega
  · rw [if_neg c, lv_is hb]; omega
theorem ln_cut {rs : List Pr} (h : Gd rs) {at' : Int} (a0 : 0 ≤ at') (a1 : at' ≤ tot rs) : joinP (strP 0 at' 0 rs) (strP at' (tot rs) 0 rs) = rs := by
  have g1 := str0_gd h 0 at'
  have g2 := str0_gd h at' (tot rs)
  obtain ⟨g, _, l⟩ := join_ok g1 g2
  refine lv_uniq g h fun m => ?_
  rw [l, str0_tot h (Int.le_refl _) a0 a1, Int.sub_zero, str0_lv h (Int.le_refl _), str0_lv h a0]
  rcases Int.lt_or_le m 0 with c | c
  · rw [if_pos (by omega), if_neg (by omega), lv_neg _ c]
  · by_cases c1 : m < at'
    · rw [if_pos c1, if_pos (by omega), Int.add_zero]
    · rw [if_neg c1]
      by_cases c2 : m < tot rs
      · rw [if_pos (by omega), show m - at' + at' = m by omega]
      · rw [if_neg (by omega), lv_none h (by omega)]
theorem ln_high1 {rs : List Pr} (h : Gd rs) {at' : Int} (a0 : 0 ≤ at') : highP 0 (strP 0 at' 0 rs) = bothP (highP 0 rs) (spansP [(0, at')]) := by
  refine can_uniq (high_can (str0_gd h _ _)) (both_can (high_can h) (spansP_can _)) fun m => ?_
  rw [high_inn (str0_gd h _ _), both_inn (high_can h) (spansP_can _), high_inn h, inn_span, str0_lv h (Int.le_refl _)]
  by_cases c : 0 ≤ m ∧ m + 0 < at'
  · rw [if_pos c, Int.add_zero]
    exact ⟨fun k => ⟨k, c.1, by omega⟩, fun k => k.1⟩
  · rw [if_neg c]
    exact ⟨fun k => (by cases k), fun k => absurd (show 0 ≤ m ∧ m + 0 < at' by omega) c⟩
theorem ln_high2 {rs : List Pr} (h : Gd rs) {at' e : Int} (a0 : 0 ≤ at') : laterP at' (highP 0 (strP at' e 0 rs)) = bothP (highP 0 rs) (spansP [(at', e)]) := by
  have g := str0_gd h at' e
  refine can_uniq (later_can (high_can g)) (both_can (high_can h) (spansP_can _)) fun m => ?_
  rw [later_inn, high_inn g, both_inn (high_can h) (spansP_can _), high_inn h, inn_span, str0_lv h a0]
  by_cases c : 0 ≤ m - at' ∧ m - at' + at' < e
  · rw [if_pos c, show m - at' + at' = m by omega]
    exact ⟨fun k => ⟨k, by omega, by omega⟩, fun k => k.1⟩
  · rw [if_neg c]
    exact ⟨fun k => (by cases k), fun k => absurd (show 0 ≤ m - at' ∧ m - at' + at' < e by omega) c⟩
theorem ln_one {rs : List Pr} (h : Gd rs) {at' l : Int} (a0 : 0 ≤ at') (e : lv rs at' = some l) : strP at' (at' + 1) 0 rs = [(l, 1)] := by
  have hl : l = 0 ∨ l = 1 := by
    obtain ⟨r0, r1⟩ := lv_range h e
    obtain ⟨k, q, r⟩ := lv_some h r0 r1
    rw [e] at q; cases q; exact r
  refine lv_uniq (str0_gd h _ _) (gd_cons gd_nil ⟨hl, Int.le_refl _⟩ fun q hq => by cases hq) fun m => ?_
  rw [str0_lv h a0]
  rcases Int.lt_or_le m 0 with c | c
  · rw [if_neg (by omega), lv_neg _ c]
  · by_cases c1 : m < 1
    · rw [if_pos (by omega), lv_hd c c1, show m + at' = at' by omega, e]
    · rw [if_neg (by omega), lv_tl (by show (0 : Int) ≤ 1; decide) (by show 1 ≤ m; omega)]; rfl
theorem ln_in {rs : List Pr} (h : Gd rs) {at' l : Int} (e : lv rs at' = some l) : inB (highP 0 rs) at' = decide (l = 1) := by
  rw [Bool.eq_iff_iff, inB_iff, high_inn h, e, decide_eq_true_eq]
  exact ⟨fun k => Option.some.inj k, fun k => by rw [k]⟩
theorem ln_join {a b : List Pr} (ha : Gd a) (hb : Gd b) : highP 0 (joinP a b) = spansP (highP 0 a ++ laterP (tot a) (highP 0 b)) := by
  obtain ⟨g, _, l⟩ := join_ok ha hb
  refine can_uniq (high_can g) (spansP_can _) fun m => ?_
  rw [high_inn g, spansP_inn, inn_app, later_inn, high_inn ha, high_inn hb, l]
  by_cases c : m < tot a
  · rw [if_pos c, lv_neg b (show m - tot a < 0 by omega)]
    exact ⟨.inl, fun k => k.elim id fun k => by cases k⟩
  · rw [if_neg c, lv_none ha (show tot a ≤ m by omega)]
    exact ⟨.inr, fun k => k.elim (fun k => by cases k) id⟩
theorem ln_turn {rs : List Pr} (h : Gd rs) : highP 0 (turnP rs) = othersP (tot rs) 0 (highP 0 rs) := by
  obtain ⟨c, g, i⟩ := oth (far := tot rs) (high_can h) (high_ge h)
  refine can_uniq (high_can (turn_gd h)) c fun m => ?_
  rw [high_inn (turn_gd h), i, high_inn h, turn_lv m h]
  by_cases q : 0 ≤ m ∧ m < tot rs
  · obtain ⟨l, e, k⟩ := lv_some h q.1 q.2
    rw [e]
    constructor
    · intro z
      have z' : 1 - l = 1 := Option.some.inj z
      exact ⟨q.1, q.2, fun y => by have := Option.some.inj y; omega⟩
    · rintro ⟨_, _, z⟩
      show some (1 - l) = some 1
      rcases k with k | k
      · rw [k]; rfl
      · exact absurd (by rw [k]) z
  · constructor
    · intro z
      cases e : lv rs m with
      | none => rw [e] at z; cases z
      | some l => exact absurd (lv_range h e) q
    · exact fun z => absurd ⟨z.1, z.2.1⟩ q
theorem high_bd {rs : List Pr} (h : Gd rs) : ∀ s ∈ highP 0 rs, 0 ≤ s.1 ∧ s.2 ≤ tot rs := fun s hs => by
  refine ⟨high_ge h s hs, ?_⟩
  have s0 := (high_can h).1 s hs
  have := lv_range h ((high_inn h (s.2 - 1)).mp ⟨s, hs, by omega, by omega⟩)
  omega
theorem ln_by {rs : List Pr} (h : Gd rs) : lbyP (tot rs) 0 (highP 0 rs) = rs := by
  obtain ⟨g, _, l⟩ := lby_ok (tot rs) (highP 0 rs) 0 (high_can h) (high_bd h)
  refine lv_uniq g h fun m => ?_
  rw [l, Int.add_zero]
  by_cases q : 0 ≤ m ∧ m < tot rs
  · obtain ⟨z, e, k⟩ := lv_some h q.1 q.2
    rw [if_pos q, e, ln_in h e]
    rcases k with k | k <;> subst k <;> rfl
  · rw [if_neg q]
    rcases Int.lt_or_le m 0 with c | c
    · rw [lv_neg _ c]
    · rw [lv_none h (by omega)]
end Pf

namespace Pf
open PySem PySem.Spec L2 Dd
/-! ### a run more -/
theorem alt_snoc : ∀ {a : List Pr} {r : Pr}, Alt a → (∀ q, a.getLast? = some q → q.1 ≠ r.1) → Alt (a ++ [r])
  | [], r, _, _ => ⟨fun q h => (by cases h), trivial⟩
  | [x], r, _, h => ⟨fun q hq => by cases hq; exact fun e => h x rfl e.symm, ⟨fun q h => (by cases h), trivial⟩⟩
  | x :: y :: a, r, h, hl => ⟨fun q hq => h.1 q hq, alt_snoc (a := y :: a) h.2 fun q hq => hl q (by rw [List.getLast?_cons_cons]; exact hq)⟩
theorem gd_snoc {a : List Pr} {r : Pr} (h : Gd a) (h1 : (r.1 = 0 ∨ r.1 = 1) ∧ 1 ≤ r.2) (hl : ∀ q, a.getLast? = some q → q.1 ≠ r.1) : Gd (a ++ [r]) :=
  ⟨fun q hq => (List.mem_append.mp hq).elim (h.1 q) fun e => by rw [List.mem_singleton.mp e]; exact h1, alt_snoc h.2 hl⟩
theorem tot_app : ∀ (a b : List Pr), tot (a ++ b) = tot a + tot b
  | [], b => (Int.zero_add _).symm
  | r :: a, b => by
    show r.2 + tot (a ++ b) = r.2 + tot a + tot b
    rw [tot_app a b, Int.add_assoc]
end Pf

namespace Pf
open PySem PySem.Spec L2 Dd
/-! ### spans_of -/
theorem ixN_last (n : Nat) : ixN (n + 1) (-1) = some n := by
  simp [ixN]; omega
theorem atI_last {α : Type} (a : List α) (x : α) : atI (a ++ [x]) (-1) = some x := by
  unfold atI
  rw [List.length_append, List.length_singleton, ixN_last]
  simp
theorem fit_of2 {n : Nat} (h : n ≤ 1000000) : fit n = true := decide_eq_true (by omega)
theorem set_last {α : Type} (a : List α) (x y : α) : (a ++ [x]).set a.length y = a ++ [y] := by
  rw [List.set_append_right _ _ (Nat.le_refl _), Nat.sub_self]; rfl
theorem step_run {P : D} {b e : Int} {fs : List Pr} (w : Sl) (hl : fs.length ≤ 16000000) :
    L_spans_of_0 [.val P, .own (fs.map pairD), .val (.int b), .val (.int e), w] = some (.ok .nx [.val P, .own ((stepS fs (b, e)).map pairD), .val (.int b), .val (.int e), w]) := by
  rcases nil_or_snoc fs with rfl | ⟨a, l, rfl⟩
  · have q : stepS [] (b, e) = if b < e then [(b, e)] else [] := rfl
    by_cases h : b < e <;> simp [L_spans_of_0, mSeq, mIf, mBol, mBin, mBinL, mBind, mLift, mPure, mPeek, mVar, ixD, iI, bolD, mAsg, mCall1, mCallN, intD, modD, iIc, cMod, mStore, mStoreO, mDone, gSet, mOwn, mPut, setD, mRet, mDrop, mStuck, mTru, truD, mOrT, mAndT, mNotT, mAnd, mOr, mNot, mIsi, isiT_eq, typD, lenD, mCons, mTup, mLst, mLstN, mVal, oOr, addD, subD, mulD, mulI, iIc, cMul, ltD, leD, gtD, geD, gTupD, gCons2, gsNil, mCallV, mCallB, mRs, tupleD, mRetF, mChain, mScr, mScrLen, mScrIx, mMut, appD, max2D, min2D, mRng1, mRng2, rngD1, rngD2, rngOk, mItems, itemsD, mAsgN, mParEE, mParEN, mUn, negD, mCallN1, listD, unsE, powD, cPow, divD, cDiv, mFor, mSl, mSlL, slD, mNoPart, mPart, intO, mSlN, mSlNL, slN, mRevN, revO, mParNC, q, h, fit, pairD]
  · obtain ⟨x, y⟩ := l
    rw [step_snoc]
    have q1 : atI (a.map pairD ++ [PyData.tuple [.int x, .int y]]) (-1) = some (.tuple [.int x, .int y]) := atI_last _ _
    have q2 : atI [PyData.int x, .int y] 0 = some (.int x) := rfl
    have q3 : atI [PyData.int x, .int y] 1 = some (.int y) := rfl
    have q4 : ixN (a.length + 1) (-1) = some a.length := ixN_last _
    have q5 : ∀ d : D, (a.map pairD ++ [PyData.tuple [.int x, .int y]]).set a.length d = a.map pairD ++ [d] := fun d => by
      have := set_last (a.map pairD) (PyData.tuple [.int x, .int y]) d
      rw [List.length_map] at this
      exact this
    have hl' : a.length + 1 ≤ 16000000 := by simpa using hl
    by_cases h : b ≤ y
    · by_cases h2 : e > y <;> simp [L_spans_of_0, mSeq, mIf, mBol, mBin, mBinL, mBind, mLift, mPure, mPeek, mVar, ixD, iI, bolD, mAsg, mCall1, mCallN, intD, modD, iIc, cMod, mStore, mStoreO, mDone, gSet, mOwn, mPut, setD, mRet, mDrop, mStuck, mTru, truD, mOrT, mAndT, mNotT, mAnd, mOr, mNot, mIsi, isiT_eq, typD, lenD, mCons, mTup, mLst, mLstN, mVal, oOr, addD, subD, mulD, mulI, iIc, cMul, ltD, leD, gtD, geD, gTupD, gCons2, gsNil, mCallV, mCallB, mRs, tupleD, mRetF, mChain, mScr, mScrLen, mScrIx, mMut, appD, max2D, min2D, mRng1, mRng2, rngD1, rngD2, rngOk, mItems, itemsD, mAsgN, mParEE, mParEN, mUn, negD, mCallN1, listD, unsE, powD, cPow, divD, cDiv, mFor, mSl, mSlL, slD, mNoPart, mPart, intO, mSlN, mSlNL, slN, mRevN, revO, mParNC, q1, q2, q3, q4, q5, h, h2, fit, pairD]
    · by_cases h2 : b < e <;> simp [L_spans_of_0, mSeq, mIf, mBol, mBin, mBinL, mBind, mLift, mPure, mPeek, mVar, ixD, iI, bolD, mAsg, mCall1, mCallN, intD, modD, iIc, cMod, mStore, mStoreO, mDone, gSet, mOwn, mPut, setD, mRet, mDrop, mStuck, mTru, truD, mOrT, mAndT, mNotT, mAnd, mOr, mNot, mIsi, isiT_eq, typD, lenD, mCons, mTup, mLst, mLstN, mVal, oOr, addD, subD, mulD, mulI, iIc, cMul, ltD, leD, gtD, geD, gTupD, gCons2, gsNil, mCallV, mCallB, mRs, tupleD, mRetF, mChain, mScr, mScrLen, mScrIx, mMut, appD, max2D, min2D, mRng1, mRng2, rngD1, rngD2, rngOk, mItems, itemsD, mAsgN, mParEE, mParEN, mUn, negD, mCallN1, listD, unsE, powD, cPow, divD, cDiv, mFor, mSl, mSlL, slD, mNoPart, mPart, intO, mSlN, mSlNL, slN, mRevN, revO, mParNC, q1, q2, q3, q4, q5, h, h2, hl', fit, pairD]
theorem foldl_loop {P : D} {w : Sl} : ∀ (ps fs : List Pr) (u v : Sl), fs.length + ps.length ≤ 16000000 → ∃ u' v', mForL (gTupD 2 (gCons2 (mStore 2) (gCons2 (mStore 3) gsNil))) L_spans_of_0 (ps.map pairD) [.val P, .own (fs.map pairD), u, v, w] = some (.ok .nx [.val P, .own ((ps.foldl stepS fs).map pairD), u', v', w])
  | [], fs, u, v, _ => ⟨u, v, rfl⟩
  | (b, e) :: ps, fs, u, v, hl => by
    simp only [List.length_cons] at hl
    have h1 : gTupD 2 (gCons2 (mStore 2) (gCons2 (mStore 3) gsNil)) (pairD (b, e)) [.val P, .own (fs.map pairD), u, v, w] = some (.ok () [.val P, .own (fs.map pairD), .val (.int b), .val (.int e), w]) := by
      simp [pairD, mSeq, mIf, mBol, mBin, mBinL, mBind, mLift, mPure, mPeek, mVar, ixD, iI, bolD, mAsg, mCall1, mCallN, intD, modD, iIc, cMod, mStore, mStoreO, mDone, gSet, mOwn, mPut, setD, mRet, mDrop, mStuck, mTru, truD, mOrT, mAndT, mNotT, mAnd, mOr, mNot, mIsi, isiT_eq, typD, lenD, mCons, mTup, mLst, mLstN, mVal, oOr, addD, subD, mulD, mulI, iIc, cMul, ltD, leD, gtD, geD, gTupD, gCons2, gsNil, mCallV, mCallB, mRs, tupleD, mRetF, mChain, mScr, mScrLen, mScrIx, mMut, appD, max2D, min2D, mRng1, mRng2, rngD1, rngD2, rngOk, mItems, itemsD, mAsgN, mParEE, mParEN, mUn, negD, mCallN1, listD, unsE, powD, cPow, divD, cDiv, mFor, mSl, mSlL, slD, mNoPart, mPart, intO, mSlN, mSlNL, slN, mRevN, revO, mParNC]
    have h2 := step_run (P := P) (b := b) (e := e) (fs := fs) w (by omega)
    have h3 := step_len fs (b, e)
    obtain ⟨u', v', h4⟩ := foldl_loop ps (stepS fs (b, e)) (.val (.int b)) (.val (.int e)) (by omega)
    refine ⟨u', v', ?_⟩
    rw [List.map_cons]
    unfold mForL
    rw [bind_is h1, bind_is h2]
    exact h4
theorem so_c0 (P : D) (ps : List Pr) (hP : itemsD P = some (ps.map pairD)) (hl : ps.length ≤ 1000000) : C_spans_of_0 [.val P, .own [], .un, .un, .un] = some (.ok (ps.map pairD) [.val P, .own [], .un, .un, .un]) := by
  have hm : (ps.map pairD).map id = ps.map pairD := List.map_id _
  rw [← hm]
  refine comp_is (ds := ps.map pairD) (ρ1 := [.val P, .own [], .un, .un, .un]) (ρe := [.val P, .own [], .un, .un, .un]) (by simp [mItems, mVar, mBind, mLift, hP]) (fit_of2 (by rw [List.length_map]; omega)) ?_
  refine go_map _ fun x hx => ?_
  obtain ⟨p, _, rfl⟩ := List.mem_map.mp hx
  refine ⟨[.val P, .own [], .un, .un, .val (pairD p)], [.val P, .own [], .un, .un, .val (pairD p)], by simp [mSeq, mIf, mBol, mBin, mBinL, mBind, mLift, mPure, mPeek, mVar, ixD, iI, bolD, mAsg, mCall1, mCallN, intD, modD, iIc, cMod, mStore, mStoreO, mDone, gSet, mOwn, mPut, setD, mRet, mDrop, mStuck, mTru, truD, mOrT, mAndT, mNotT, mAnd, mOr, mNot, mIsi, isiT_eq, typD, lenD, mCons, mTup, mLst, mLstN, mVal, oOr, addD, subD, mulD, mulI, iIc, cMul, ltD, leD, gtD, geD, gTupD, gCons2, gsNil, mCallV, mCallB, mRs, tupleD, mRetF, mChain, mScr, mScrLen, mScrIx, mMut, appD, max2D, min2D, mRng1, mRng2, rngD1, rngD2, rngOk, mItems, itemsD, mAsgN, mParEE, mParEN, mUn, negD, mCallN1, listD, unsE, powD, cPow, divD, cDiv, mFor, mSl, mSlL, slD, mNoPart, mPart, intO, mSlN, mSlNL, slN, mRevN, revO, mParNC], by simp [mSeq, mIf, mBol, mBin, mBinL, mBind, mLift, mPure, mPeek, mVar, ixD, iI, bolD, mAsg, mCall1, mCallN, intD, modD, iIc, cMod, mStore, mStoreO, mDone, gSet, mOwn, mPut, setD, mRet, mDrop, mStuck, mTru, truD, mOrT, mAndT, mNotT, mAnd, mOr, mNot, mIsi, isiT_eq, typD, lenD, mCons, mTup, mLst, mLstN, mVal, oOr, addD, subD, mulD, mulI, iIc, cMul, ltD, leD, gtD, geD, gTupD, gCons2, gsNil, mCallV, mCallB, mRs, tupleD, mRetF, mChain, mScr, mScrLen, mScrIx, mMut, appD, max2D, min2D, mRng1, mRng2, rngD1, rngD2, rngOk, mItems, itemsD, mAsgN, mParEE, mParEN, mUn, negD, mCallN1, listD, unsE, powD, cPow, divD, cDiv, mFor, mSl, mSlL, slD, mNoPart, mPart, intO, mSlN, mSlNL, slN, mRevN, revO, mParNC, pairD], by simp [unsE]⟩
theorem spans_of_ok (P : D) (ps : List Pr) (hP : itemsD P = some (ps.map pairD)) (hl : ps.length ≤ 1000000) : fn_spans_of [P] = some (.ok (.tuple ((spansP ps).map pairD))) := by
  have h1 := so_c0 P ps hP hl
  have hlen := (sortP_perm ps).length_eq
  obtain ⟨u, v, h2⟩ := foldl_loop (P := P) (w := .un) (sortP ps) [] .un .un (by simp only [List.length_nil]; omega)
  have h3 : R_spans_of_0 [.val P, .own [], .un, .un, .un] = some (.ok .nx [.val P, .own ((spansP ps).map pairD), u, v, .un]) := by
    unfold R_spans_of_0 mFor
    have e : mItems (mVal (mCallN1 sortD (mVal C_spans_of_0))) [.val P, .own [], .un, .un, .un] = some (.ok ((sortP ps).map pairD) [.val P, .own [], .un, .un, .un]) := by
      simp [mItems, mVal, mCallN1, mBind, mPure, mLift, h1, sortD, toPairs_map, itemsD]
    rw [bind_is e]
    exact h2
  simp [fn_spans_of, runV, m_spans_of, env0, mSeq, mIf, mBol, mBin, mBinL, mBind, mLift, mPure, mPeek, mVar, ixD, iI, bolD, mAsg, mCall1, mCallN, intD, modD, iIc, cMod, mStore, mStoreO, mDone, gSet, mOwn, mPut, setD, mRet, mDrop, mStuck, mTru, truD, mOrT, mAndT, mNotT, mAnd, mOr, mNot, mIsi, isiT_eq, typD, lenD, mCons, mTup, mLst, mLstN, mVal, oOr, addD, subD, mulD, mulI, iIc, cMul, ltD, leD, gtD, geD, gTupD, gCons2, gsNil, mCallV, mCallB, mRs, tupleD, mRetF, mChain, mScr, mScrLen, mScrIx, mMut, appD, max2D, min2D, mRng1, mRng2, rngD1, rngD2, rngOk, mItems, itemsD, mAsgN, mParEE, mParEN, mUn, negD, mCallN1, listD, unsE, powD, cPow, divD, cDiv, mFor, mSl, mSlL, slD, mNoPart, mPart, intO, mSlN, mSlNL, slN, mRevN, revO, mParNC, h3, fit]
theorem at_pair {as : List Pr} {i : Nat} {a : Pr} (h : as[i]? = some a) : atI (as.map pairD) (i : Int) = some (.tuple [.int a.1, .int a.2]) := atI_nat' (by omega) (by
  rw [Int.toNat_natCast, List.getElem?_map, h]; rfl)
theorem both_step {as bs F : List Pr} {i j : Nat} {a b : Pr} {u v : Sl} (ha : as[i]? = some a) (hb : bs[j]? = some b) (hF : F.length ≤ 16000000) :
    L_both_of_0 [.val (.tuple (as.map pairD)), .val (.tuple (bs.map pairD)), .own (F.map pairD), .val (.int (i : Nat)), .val (.int (j : Nat)), u, v] =
    some (.ok .nx [.val (.tuple (as.map pairD)), .val (.tuple (bs.map pairD)), .own ((F ++ if mxI a.1 b.1 < mnI a.2 b.2 then [(mxI a.1 b.1, mnI a.2 b.2)] else []).map pairD), .val (.int ((if a.2 < b.2 then i + 1 else i : Nat) : Int)), .val (.int ((if a.2 < b.2 then j else j + 1 : Nat) : Int)), .val (.int (mxI a.1 b.1)), .val (.int (mnI a.2 b.2))]) := by
  have q1 := at_pair ha
  have q2 := at_pair hb
  have z0 : ∀ p q : D, atI [p, q] 0 = some p := fun _ _ => rfl
  have z1 : ∀ p q : D, atI [p, q] 1 = some q := fun _ _ => rfl
  have hM : max2D [.int a.1, .int b.1] = some (.int (mxI a.1 b.1)) := rfl
  have hm : min2D [.int a.2, .int b.2] = some (.int (mnI a.2 b.2)) := rfl
  by_cases c1 : mxI a.1 b.1 < mnI a.2 b.2 <;> by_cases c2 : a.2 < b.2 <;> simp [L_both_of_0, mSeq, mIf, mBol, mBin, mBinL, mBind, mLift, mPure, mPeek, mVar, ixD, iI, bolD, mAsg, mCall1, mCallN, intD, modD, iIc, cMod, mStore, mStoreO, mDone, gSet, mOwn, mPut, setD, mRet, mDrop, mStuck, mTru, truD, mOrT, mAndT, mNotT, mAnd, mOr, mNot, mIsi, isiT_eq, typD, lenD, mCons, mTup, mLst, mLstN, mVal, oOr, addD, subD, mulD, mulI, iIc, cMul, ltD, leD, gtD, geD, gTupD, gCons2, gsNil, mCallV, mCallB, mRs, tupleD, mRetF, mChain, mScr, mScrLen, mScrIx, mMut, appD, mRng1, mRng2, rngD1, rngD2, rngOk, mItems, itemsD, mAsgN, mParEE, mParEN, mUn, negD, mCallN1, listD, unsE, powD, cPow, divD, cDiv, mFor, mSl, mSlL, slD, mNoPart, mPart, intO, mSlN, mSlNL, slN, mRevN, revO, mParNC, mAug, q1, q2, z0, z1, hM, hm, c1, c2, fit, hF, pairD]
theorem both_len : ∀ (n : Nat) (a b : List Pr), a.length + b.length ≤ n → (bothP a b).length ≤ n
  | n, [], b, _ => by rw [both_nil]; exact Nat.zero_le _
  | n, a :: as, [], _ => by rw [both_nil2]; exact Nat.zero_le _
  | 0, a :: as, b :: bs, hn => by simp at hn
  | n + 1, a :: as, b :: bs, hn => by
    simp only [List.length_cons] at hn
    unfold bothP
    rw [List.length_append]
    have h1 : (if mxI a.1 b.1 < mnI a.2 b.2 then [(mxI a.1 b.1, mnI a.2 b.2)] else []).length ≤ 1 := by split <;> simp
    have h2 : (if a.2 < b.2 then bothP as (b :: bs) else bothP (a :: as) bs).length ≤ n := by
      split
      · exact both_len n as (b :: bs) (by simp only [List.length_cons]; omega)
      · exact both_len n (a :: as) bs (by simp only [List.length_cons]; omega)
    omega
theorem both_loop {as bs : List Pr} (hl : as.length + bs.length ≤ 900) : ∀ (n i j : Nat) (F : List Pr) (u v : Sl), (as.length - i) + (bs.length - j) < n → i ≤ as.length → j ≤ bs.length → F.length ≤ i + j → ∃ x y u' v',
    mWhileN (mAndT (mBol (mBinL ltD 3 (mCall1 lenD (mPeek 0)))) ((mBol (mBinL ltD 4 (mCall1 lenD (mPeek 1)))))) L_both_of_0 n [.val (.tuple (as.map pairD)), .val (.tuple (bs.map pairD)), .own (F.map pairD), .val (.int (i : Nat)), .val (.int (j : Nat)), u, v] =
    some (.ok .nx [.val (.tuple (as.map pairD)), .val (.tuple (bs.map pairD)), .own ((F ++ bothP (as.drop i) (bs.drop j)).map pairD), x, y, u', v'])
  | 0, i, j, F, u, v, h, _, _, _ => by omega
  | n + 1, i, j, F, u, v, h, hi, hj, hF => by
    by_cases c : i < as.length ∧ j < bs.length
    · obtain ⟨c1, c2⟩ := c
      have ea : as[i]? = some as[i] := List.getElem?_eq_getElem c1
      have eb : bs[j]? = some bs[j] := List.getElem?_eq_getElem c2
      have st := both_step (u := u) (v := v) ea eb (F := F) (by omega)
      have hc : (mAndT (mBol (mBinL ltD 3 (mCall1 lenD (mPeek 0)))) ((mBol (mBinL ltD 4 (mCall1 lenD (mPeek 1)))))) [.val (.tuple (as.map pairD)), .val (.tuple (bs.map pairD)), .own (F.map pairD), .val (.int (i : Nat)), .val (.int (j : Nat)), u, v] = some (.ok true [.val (.tuple (as.map pairD)), .val (.tuple (bs.map pairD)), .own (F.map pairD), .val (.int (i : Nat)), .val (.int (j : Nat)), u, v]) := by
        simp [mSeq, mIf, mBol, mBin, mBinL, mBind, mLift, mPure, mPeek, mVar, ixD, iI, bolD, mAsg, mCall1, mCallN, intD, modD, iIc, cMod, mStore, mStoreO, mDone, gSet, mOwn, mPut, setD, mRet, mDrop, mStuck, mTru, truD, mOrT, mAndT, mNotT, mAnd, mOr, mNot, mIsi, isiT_eq, typD, lenD, mCons, mTup, mLst, mLstN, mVal, oOr, addD, subD, mulD, mulI, iIc, cMul, ltD, leD, gtD, geD, gTupD, gCons2, gsNil, mCallV, mCallB, mRs, tupleD, mRetF, mChain, mScr, mScrLen, mScrIx, mMut, appD, max2D, min2D, mRng1, mRng2, rngD1, rngD2, rngOk, mItems, itemsD, mAsgN, mParEE, mParEN, mUn, negD, mCallN1, listD, unsE, powD, cPow, divD, cDiv, mFor, mSl, mSlL, slD, mNoPart, mPart, intO, mSlN, mSlNL, slN, mRevN, revO, mParNC, c1, c2]
      have hF2 : (F ++ if mxI as[i].1 bs[j].1 < mnI as[i].2 bs[j].2 then [(mxI as[i].1 bs[j].1, mnI as[i].2 bs[j].2)] else []).length ≤ F.length + 1 := by
        rw [List.length_append]; split <;> simp
      unfold mWhileN
      rw [bind_is hc, if_pos rfl, bind_is st]
      rw [List.drop_eq_getElem_cons c1, List.drop_eq_getElem_cons c2]
      unfold bothP
      by_cases q : as[i].2 < bs[j].2
      · rw [if_pos q, if_pos q, if_pos q, ← List.drop_eq_getElem_cons c2, ← List.append_assoc]
        exact both_loop hl n (i + 1) j _ _ _ (by omega) (by omega) hj (by omega)
      · rw [if_neg q, if_neg q, if_neg q, ← List.drop_eq_getElem_cons c1, ← List.append_assoc]
        exact both_loop hl n i (j + 1) _ _ _ (by omega) hi (by omega) (by omega)
    · have hc : (mAndT (mBol (mBinL ltD 3 (mCall1 lenD (mPeek 0)))) ((mBol (mBinL ltD 4 (mCall1 lenD (mPeek 1)))))) [.val (.tuple (as.map pairD)), .val (.tuple (bs.map pairD)), .own (F.map pairD), .val (.int (i : Nat)), .val (.int (j : Nat)), u, v] = some (.ok false [.val (.tuple (as.map pairD)), .val (.tuple (bs.map pairD)), .own (F.map pairD), .val (.int (i : Nat)), .val (.int (j : Nat)), u, v]) := by
        by_cases c1 : i < as.length
        · have c2 : ¬ j < bs.length := fun k => c ⟨c1, k⟩
          simp [mSeq, mIf, mBol, mBin, mBinL, mBind, mLift, mPure, mPeek, mVar, ixD, iI, bolD, mAsg, mCall1, mCallN, intD, modD, iIc, cMod, mStore, mStoreO, mDone, gSet, mOwn, mPut, setD, mRet, mDrop, mStuck, mTru, truD, mOrT, mAndT, mNotT, mAnd, mOr, mNot, mIsi, isiT_eq, typD, lenD, mCons, mTup, mLst, mLstN, mVal, oOr, addD, subD, mulD, mulI, iIc, cMul, ltD, leD, gtD, geD, gTupD, gCons2, gsNil, mCallV, mCallB, mRs, tupleD, mRetF, mChain, mScr, mScrLen, mScrIx, mMut, appD, max2D, min2D, mRng1, mRng2, rngD1, rngD2, rngOk, mItems, itemsD, mAsgN, mParEE, mParEN, mUn, negD, mCallN1, listD, unsE, powD, cPow, divD, cDiv, mFor, mSl, mSlL, slD, mNoPart, mPart, intO, mSlN, mSlNL, slN, mRevN, revO, mParNC, c1, c2]
        · simp [mSeq, mIf, mBol, mBin, mBinL, mBind, mLift, mPure, mPeek, mVar, ixD, iI, bolD, mAsg, mCall1, mCallN, intD, modD, iIc, cMod, mStore, mStoreO, mDone, gSet, mOwn, mPut, setD, mRet, mDrop, mStuck, mTru, truD, mOrT, mAndT, mNotT, mAnd, mOr, mNot, mIsi, isiT_eq, typD, lenD, mCons, mTup, mLst, mLstN, mVal, oOr, addD, subD, mulD, mulI, iIc, cMul, ltD, leD, gtD, geD, gTupD, gCons2, gsNil, mCallV, mCallB, mRs, tupleD, mRetF, mChain, mScr, mScrLen, mScrIx, mMut, appD, max2D, min2D, mRng1, mRng2, rngD1, rngD2, rngOk, mItems, itemsD, mAsgN, mParEE, mParEN, mUn, negD, mCallN1, listD, unsE, powD, cPow, divD, cDiv, mFor, mSl, mSlL, slD, mNoPart, mPart, intO, mSlN, mSlNL, slN, mRevN, revO, mParNC, c1]
      have hz : bothP (as.drop i) (bs.drop j) = [] := by
        by_cases c1 : i < as.length
        · have c2 : ¬ j < bs.length := fun k => c ⟨c1, k⟩
          rw [List.drop_eq_nil_of_le (by omega : bs.length ≤ j), both_nil2]
        · rw [List.drop_eq_nil_of_le (by omega : as.length ≤ i), both_nil]
      refine ⟨.val (.int (i : Nat)), .val (.int (j : Nat)), u, v, ?_⟩
      unfold mWhileN
      rw [bind_is hc, if_neg (by decide), hz, List.append_nil]
      rfl
theorem both_of_ok {as bs : List Pr} (hl : as.length + bs.length ≤ 900) : fn_both_of [.tuple (as.map pairD), .tuple (bs.map pairD)] = some (.ok (.tuple ((bothP as bs).map pairD))) := by
  obtain ⟨x, y, u, v, h⟩ := both_loop hl 1000 0 0 [] .un .un (by omega) (by omega) (by omega) (by simp)
  have h2 : R_both_of_0 [.val (.tuple (as.map pairD)), .val (.tuple (bs.map pairD)), .own [], .val (.int 0), .val (.int 0), .un, .un] = some (.ok .nx [.val (.tuple (as.map pairD)), .val (.tuple (bs.map pairD)), .own ((bothP as bs).map pairD), x, y, u, v]) := h
  simp [fn_both_of, runV, m_both_of, env0, mSeq, mIf, mBol, mBin, mBinL, mBind, mLift, mPure, mPeek, mVar, ixD, iI, bolD, mAsg, mCall1, mCallN, intD, modD, iIc, cMod, mStore, mStoreO, mDone, gSet, mOwn, mPut, setD, mRet, mDrop, mStuck, mTru, truD, mOrT, mAndT, mNotT, mAnd, mOr, mNot, mIsi, isiT_eq, typD, lenD, mCons, mTup, mLst, mLstN, mVal, oOr, addD, subD, mulD, mulI, iIc, cMul, ltD, leD, gtD, geD, gTupD, gCons2, gsNil, mCallV, mCallB, mRs, tupleD, mRetF, mChain, mScr, mScrLen, mScrIx, mMut, appD, max2D, min2D, mRng1, mRng2, rngD1, rngD2, rngOk, mItems, itemsD, mAsgN, mParEE, mParEN, mUn, negD, mCallN1, listD, unsE, powD, cPow, divD, cDiv, mFor, mSl, mSlL, slD, mNoPart, mPart, intO, mSlN, mSlNL, slN, mRevN, revO, mParNC, h2, fit]
theorem either_of_ok {as bs : List Pr} (hl : as.length + bs.length ≤ 900) : fn_either_of [.tuple (as.map pairD), .tuple (bs.map pairD)] = some (.ok (.tuple ((spansP (as ++ bs)).map pairD))) := by
  have h := spans_of_ok (.list ((as ++ bs).map pairD)) (as ++ bs) rfl (by rw [List.length_append]; omega)
  have hz : as.length + bs.length ≤ 16000000 := by omega
  rw [List.map_append] at h
  simp [fn_either_of, runV, m_either_of, env0, mSeq, mIf, mBol, mBin, mBinL, mBind, mLift, mPure, mPeek, mVar, ixD, iI, bolD, mAsg, mCall1, mCallN, intD, modD, iIc, cMod, mStore, mStoreO, mDone, gSet, mOwn, mPut, setD, mRet, mDrop, mStuck, mTru, truD, mOrT, mAndT, mNotT, mAnd, mOr, mNot, mIsi, isiT_eq, typD, lenD, mCons, mTup, mLst, mLstN, mVal, oOr, addD, subD, mulD, mulI, iIc, cMul, ltD, leD, gtD, geD, gTupD, gCons2, gsNil, mCallV, mCallB, mRs, tupleD, mRetF, mChain, mScr, mScrLen, mScrIx, mMut, appD, max2D, min2D, mRng1, mRng2, rngD1, rngD2, rngOk, mItems, itemsD, mAsgN, mParEE, mParEN, mUn, negD, mCallN1, listD, unsE, powD, cPow, divD, cDiv, mFor, mSl, mSlL, slD, mNoPart, mPart, intO, mSlN, mSlNL, slN, mRevN, revO, mParNC, mStar, h, fit, hz]
theorem others_loop {P : D} {below : Int} : ∀ (ss F : List Pr) (at' : Int) (u v : Sl), F.length + ss.length ≤ 16000000 → ∃ (G : List Pr) (at2 : Int) (u' v' : Sl), othersP below at' ss = G ++ (if at2 < below then [(at2, below)] else []) ∧ G.length ≤ ss.length ∧
    mForL (gTupD 2 (gCons2 (mStore 4) (gCons2 (mStore 5) gsNil))) L_others_0 (ss.map pairD) [.val P, .val (.int below), .own (F.map pairD), .val (.int at'), u, v] = some (.ok .nx [.val P, .val (.int below), .own ((F ++ G).map pairD), .val (.int at2), u', v'])
  | [], F, at', u, v, _ => ⟨[], at', u, v, rfl, Nat.le_refl _, by rw [List.append_nil]; rfl⟩
  | (b, e) :: ss, F, at', u, v, hl => by
    simp only [List.length_cons] at hl
    have h1 : gTupD 2 (gCons2 (mStore 4) (gCons2 (mStore 5) gsNil)) (pairD (b, e)) [.val P, .val (.int below), .own (F.map pairD), .val (.int at'), u, v] = some (.ok () [.val P, .val (.int below), .own (F.map pairD), .val (.int at'), .val (.int b), .val (.int e)]) := by
      simp [pairD, mSeq, mIf, mBol, mBin, mBinL, mBind, mLift, mPure, mPeek, mVar, ixD, iI, bolD, mAsg, mCall1, mCallN, intD, modD, iIc, cMod, mStore, mStoreO, mDone, gSet, mOwn, mPut, setD, mRet, mDrop, mStuck, mTru, truD, mOrT, mAndT, mNotT, mAnd, mOr, mNot, mIsi, isiT_eq, typD, lenD, mCons, mTup, mLst, mLstN, mVal, oOr, addD, subD, mulD, mulI, iIc, cMul, ltD, leD, gtD, geD, gTupD, gCons2, gsNil, mCallV, mCallB, mRs, tupleD, mRetF, mChain, mScr, mScrLen, mScrIx, mMut, appD, max2D, min2D, mRng1, mRng2, rngD1, rngD2, rngOk, mItems, itemsD, mAsgN, mParEE, mParEN, mUn, negD, mCallN1, listD, unsE, powD, cPow, divD, cDiv, mFor, mSl, mSlL, slD, mNoPart, mPart, intO, mSlN, mSlNL, slN, mRevN, revO, mParNC]
    have hm : min2D [.int b, .int below] = some (.int (mnI b below)) := rfl
    have hF : F.length ≤ 16000000 := by omega
    have h2 : L_others_0 [.val P, .val (.int below), .own (F.map pairD), .val (.int at'), .val (.int b), .val (.int e)] = some (.ok .nx [.val P, .val (.int below), .own ((F ++ if at' < mnI b below then [(at', mnI b below)] else []).map pairD), .val (.int e), .val (.int b), .val (.int e)]) := by
      by_cases c : at' < mnI b below <;> simp [L_others_0, mSeq, mIf, mBol, mBin, mBinL, mBind, mLift, mPure, mPeek, mVar, ixD, iI, bolD, mAsg, mCall1, mCallN, intD, modD, iIc, cMod, mStore, mStoreO, mDone, gSet, mOwn, mPut, setD, mRet, mDrop, mStuck, mTru, truD, mOrT, mAndT, mNotT, mAnd, mOr, mNot, mIsi, isiT_eq, typD, lenD, mCons, mTup, mLst, mLstN, mVal, oOr, addD, subD, mulD, mulI, iIc, cMul, ltD, leD, gtD, geD, gTupD, gCons2, gsNil, mCallV, mCallB, mRs, tupleD, mRetF, mChain, mScr, mScrLen, mScrIx, mMut, appD, mRng1, mRng2, rngD1, rngD2, rngOk, mItems, itemsD, mAsgN, mParEE, mParEN, mUn, negD, mCallN1, listD, unsE, powD, cPow, divD, cDiv, mFor, mSl, mSlL, slD, mNoPart, mPart, intO, mSlN, mSlNL, slN, mRevN, revO, mParNC, hm, c, fit, hF, pairD]
    have hG : (if at' < mnI b below then [(at', mnI b below)] else []).length ≤ 1 := by split <;> simp
    obtain ⟨G, at2, u', v', g1, g2, g3⟩ := others_loop (P := P) (below := below) ss (F ++ if at' < mnI b below then [(at', mnI b below)] else []) e (.val (.int b)) (.val (.int e)) (by rw [List.length_append]; omega)
    refine ⟨(if at' < mnI b below then [(at', mnI b below)] else []) ++ G, at2, u', v', ?_, by rw [List.length_append, List.length_cons]; omega, ?_⟩
    · rw [List.append_assoc, ← g1]; rfl
    · rw [List.map_cons]
      unfold mForL
      rw [bind_is h1, bind_is h2, ← List.append_assoc]
      exact g3
theorem others_of_ok {ss : List Pr} {below : Int} (hl : ss.length ≤ 900) : fn_others [.tuple (ss.map pairD), .int below] = some (.ok (.tuple ((othersP below 0 ss).map pairD))) := by
  obtain ⟨G, at2, u, v, g1, g2, g3⟩ := others_loop (P := .tuple (ss.map pairD)) (below := below) ss [] 0 .un .un (by simp only [List.length_nil]; omega)
  have h : R_others_0 [.val (.tuple (ss.map pairD)), .val (.int below), .own [], .val (.int 0), .un, .un] = some (.ok .nx [.val (.tuple (ss.map pairD)), .val (.int below), .own (G.map pairD), .val (.int at2), u, v]) := by
    unfold R_others_0 mFor
    have e : mItems (mVar 0) [.val (.tuple (ss.map pairD)), .val (.int below), .own [], .val (.int 0), .un, .un] = some (.ok (ss.map pairD) [.val (.tuple (ss.map pairD)), .val (.int below), .own [], .val (.int 0), .un, .un]) := rfl
    rw [bind_is e]
    exact g3
  have hG : G.length ≤ 16000000 := by omega
  rw [g1]
  by_cases c : at2 < below <;> simp [fn_others, runV, m_others, env0, mSeq, mIf, mBol, mBin, mBinL, mBind, mLift, mPure, mPeek, mVar, ixD, iI, bolD, mAsg, mCall1, mCallN, intD, modD, iIc, cMod, mStore, mStoreO, mDone, gSet, mOwn, mPut, setD, mRet, mDrop, mStuck, mTru, truD, mOrT, mAndT, mNotT, mAnd, mOr, mNot, mIsi, isiT_eq, typD, lenD, mCons, mTup, mLst, mLstN, mVal, oOr, addD, subD, mulD, mulI, iIc, cMul, ltD, leD, gtD, geD, gTupD, gCons2, gsNil, mCallV, mCallB, mRs, tupleD, mRetF, mChain, mScr, mScrLen, mScrIx, mMut, appD, max2D, min2D, mRng1, mRng2, rngD1, rngD2, rngOk, mItems, itemsD, mAsgN, mParEE, mParEN, mUn, negD, mCallN1, listD, unsE, powD, cPow, divD, cDiv, mFor, mSl, mSlL, slD, mNoPart, mPart, intO, mSlN, mSlNL, slN, mRevN, revO, mParNC, h, c, fit, hG, pairD]
theorem later_of_ok {ss : List Pr} {n : Int} (hl : ss.length ≤ 900) : fn_later [.tuple (ss.map pairD), .int n] = some (.ok (.tuple ((laterP n ss).map pairD))) := by
  have h : C_later_0 [.val (.tuple (ss.map pairD)), .val (.int n), .un, .un] = some (.ok ((laterP n ss).map pairD) [.val (.tuple (ss.map pairD)), .val (.int n), .un, .un]) := by
    have e : (laterP n ss).map pairD = (ss.map pairD).map fun d => match toPair d with
        | some p => pairD (p.1 + n, p.2 + n)
        | none => .none := by
      unfold laterP
      rw [List.map_map, List.map_map]; rfl
    rw [e]
    refine comp_is (ds := ss.map pairD) (ρ1 := [.val (.tuple (ss.map pairD)), .val (.int n), .un, .un]) (ρe := [.val (.tuple (ss.map pairD)), .val (.int n), .un, .un]) (by simp [mSeq, mIf, mBol, mBin, mBinL, mBind, mLift, mPure, mPeek, mVar, ixD, iI, bolD, mAsg, mCall1, mCallN, intD, modD, iIc, cMod, mStore, mStoreO, mDone, gSet, mOwn, mPut, setD, mRet, mDrop, mStuck, mTru, truD, mOrT, mAndT, mNotT, mAnd, mOr, mNot, mIsi, isiT_eq, typD, lenD, mCons, mTup, mLst, mLstN, mVal, oOr, addD, subD, mulD, mulI, iIc, cMul, ltD, leD, gtD, geD, gTupD, gCons2, gsNil, mCallV, mCallB, mRs, tupleD, mRetF, mChain, mScr, mScrLen, mScrIx, mMut, appD, max2D, min2D, mRng1, mRng2, rngD1, rngD2, rngOk, mItems, itemsD, mAsgN, mParEE, mParEN, mUn, negD, mCallN1, listD, unsE, powD, cPow, divD, cDiv, mFor, mSl, mSlL, slD, mNoPart, mPart, intO, mSlN, mSlNL, slN, mRevN, revO, mParNC]) (fit_of2 (by rw [List.length_map]; omega)) ?_
    refine go_map _ fun x hx => ?_
    obtain ⟨⟨a, b⟩, _, rfl⟩ := List.mem_map.mp hx
    exact ⟨[.val (.tuple (ss.map pairD)), .val (.int n), .val (.int a), .val (.int b)], [.val (.tuple (ss.map pairD)), .val (.int n), .val (.int a), .val (.int b)], by simp [mSeq, mIf, mBol, mBin, mBinL, mBind, mLift, mPure, mPeek, mVar, ixD, iI, bolD, mAsg, mCall1, mCallN, intD, modD, iIc, cMod, mStore, mStoreO, mDone, gSet, mOwn, mPut, setD, mRet, mDrop, mStuck, mTru, truD, mOrT, mAndT, mNotT, mAnd, mOr, mNot, mIsi, isiT_eq, typD, lenD, mCons, mTup, mLst, mLstN, mVal, oOr, addD, subD, mulD, mulI, iIc, cMul, ltD, leD, gtD, geD, gTupD, gCons2, gsNil, mCallV, mCallB, mRs, tupleD, mRetF, mChain, mScr, mScrLen, mScrIx, mMut, appD, max2D, min2D, mRng1, mRng2, rngD1, rngD2, rngOk, mItems, itemsD, mAsgN, mParEE, mParEN, mUn, negD, mCallN1, listD, unsE, powD, cPow, divD, cDiv, mFor, mSl, mSlL, slD, mNoPart, mPart, intO, mSlN, mSlNL, slN, mRevN, revO, mParNC, gNamesD, pairD], by simp [mSeq, mIf, mBol, mBin, mBinL, mBind, mLift, mPure, mPeek, mVar, ixD, iI, bolD, mAsg, mCall1, mCallN, intD, modD, iIc, cMod, mStore, mStoreO, mDone, gSet, mOwn, mPut, setD, mRet, mDrop, mStuck, mTru, truD, mOrT, mAndT, mNotT, mAnd, mOr, mNot, mIsi, isiT_eq, typD, lenD, mCons, mTup, mLst, mLstN, mVal, oOr, addD, subD, mulD, mulI, iIc, cMul, ltD, leD, gtD, geD, gTupD, gCons2, gsNil, mCallV, mCallB, mRs, tupleD, mRetF, mChain, mScr, mScrLen, mScrIx, mMut, appD, max2D, min2D, mRng1, mRng2, rngD1, rngD2, rngOk, mItems, itemsD, mAsgN, mParEE, mParEN, mUn, negD, mCallN1, listD, unsE, powD, cPow, divD, cDiv, mFor, mSl, mSlL, slD, mNoPart, mPart, intO, mSlN, mSlNL, slN, mRevN, revO, mParNC, fit, pairD, toPair], by simp [unsE]⟩
  simp [fn_later, runV, m_later, env0, mSeq, mIf, mBol, mBin, mBinL, mBind, mLift, mPure, mPeek, mVar, ixD, iI, bolD, mAsg, mCall1, mCallN, intD, modD, iIc, cMod, mStore, mStoreO, mDone, gSet, mOwn, mPut, setD, mRet, mDrop, mStuck, mTru, truD, mOrT, mAndT, mNotT, mAnd, mOr, mNot, mIsi, isiT_eq, typD, lenD, mCons, mTup, mLst, mLstN, mVal, oOr, addD, subD, mulD, mulI, iIc, cMul, ltD, leD, gtD, geD, gTupD, gCons2, gsNil, mCallV, mCallB, mRs, tupleD, mRetF, mChain, mScr, mScrLen, mScrIx, mMut, appD, max2D, min2D, mRng1, mRng2, rngD1, rngD2, rngOk, mItems, itemsD, mAsgN, mParEE, mParEN, mUn, negD, mCallN1, listD, unsE, powD, cPow, divD, cDiv, mFor, mSl, mSlL, slD, mNoPart, mPart, intO, mSlN, mSlNL, slN, mRevN, revO, mParNC, h]
theorem between_ok {ss : List Pr} {b e : Int} (hl : ss.length ≤ 800) : fn_between [.tuple (ss.map pairD), .int b, .int e] = some (.ok (.tuple ((bothP ss (spansP [(b, e)])).map pairD))) := by
  have h := spans_of_ok (.list ([(b, e)].map pairD)) [(b, e)] rfl (by simp)
  have hs : (spansP [(b, e)]).length ≤ 1 := by
    have q : spansP [(b, e)] = if b < e then [(b, e)] else [] := rfl
    rw [q]; split <;> simp
  have h2 := both_of_ok (as := ss) (bs := spansP [(b, e)]) (by omega)
  obtain ⟨ts, hts⟩ : ∃ ts, ts = spansP [(b, e)] := ⟨_, rfl⟩
  rw [← hts] at h h2 ⊢
  have h3 : fn_spans_of [.list [.tuple [.int b, .int e]]] = some (.ok (.tuple (ts.map pairD))) := h
  simp [fn_between, runV, m_between, env0, mSeq, mIf, mBol, mBin, mBinL, mBind, mLift, mPure, mPeek, mVar, ixD, iI, bolD, mAsg, mCall1, mCallN, intD, modD, iIc, cMod, mStore, mStoreO, mDone, gSet, mOwn, mPut, setD, mRet, mDrop, mStuck, mTru, truD, mOrT, mAndT, mNotT, mAnd, mOr, mNot, mIsi, isiT_eq, typD, lenD, mCons, mTup, mLst, mLstN, mVal, oOr, addD, subD, mulD, mulI, iIc, cMul, ltD, leD, gtD, geD, gTupD, gCons2, gsNil, mCallV, mCallB, mRs, tupleD, mRetF, mChain, mScr, mScrLen, mScrIx, mMut, appD, max2D, min2D, mRng1, mRng2, rngD1, rngD2, rngOk, mItems, itemsD, mAsgN, mParEE, mParEN, mUn, negD, mCallN1, listD, unsE, powD, cPow, divD, cDiv, mFor, mSl, mSlL, slD, mNoPart, mPart, intO, mSlN, mSlNL, slN, mRevN, revO, mParNC, fit, h3, h2]

def Bx (bs : List D) : Prop := ∃ a s c : Int, bs = [.int a, .int s, .int c]
theorem take_ok {bs : List D} {m : Int} (hb : Bx bs) (h0 : 0 < m) (h1 : m < 1152921504606846976) : ∃ r bs', fn__law_take bs [.int m] = some (.ok (.int r), bs') ∧ 0 ≤ r ∧ r < m ∧ Bx bs' := by
  obtain ⟨a, s, c, rfl⟩ := hb
  have hm : m.natAbs < 1152921504606846976 := by omega
  by_cases ha : 0 < a
  · refine ⟨a % m, [.int (a / m), .int s, .int c], ?_, Int.emod_nonneg _ (by omega), Int.emod_lt_of_pos _ h0, _, _, _, rfl⟩
    simp [fn__law_take, runB, m__law_take, env0B, mSeq, mIf, mBol, mBin, mBinL, mBind, mLift, mPure, mPeek, mVar, ixD, iI, bolD, mAsg, mCall1, mCallN, intD, modD, iIc, cMod, mStore, mStoreO, mDone, gSet, mOwn, mPut, setD, mRet, mDrop, mStuck, mTru, truD, mOrT, mAndT, mNotT, mAnd, mOr, mNot, mIsi, isiT_eq, typD, lenD, mCons, mTup, mLst, mLstN, mVal, oOr, addD, subD, mulD, mulI, iIc, cMul, ltD, leD, gtD, geD, gTupD, gCons2, gsNil, mCallV, mCallB, mRs, tupleD, mRetF, mChain, mScr, mScrLen, mScrIx, mMut, appD, max2D, min2D, mRng1, mRng2, rngD1, rngD2, rngOk, mItems, itemsD, mAsgN, mParEE, mParEN, mUn, negD, mCallN1, listD, unsE, powD, cPow, divD, cDiv, mFor, mSl, mSlL, slD, mNoPart, mPart, intO, mSlN, mSlNL, slN, mRevN, revO, mParNC, atI, ixN, ha, h0, hm]
  · have hs : ∃ s' : Int, s' = ((s + 104729 * (c + 1)) * 69623) % 2147483647 * 48271 + 30103 := ⟨_, rfl⟩
    refine ⟨_, _, ?_, Int.emod_nonneg ((((s + 104729 * (c + 1)) * 69623) % 2147483647 * 2147483647 + ((((s + 104729 * (c + 1)) * 69623) % 2147483647 * 48271 + 30103) % 2147483629 + 1)) / 8191) (by omega : m ≠ 0), Int.emod_lt_of_pos _ h0, a, (((s + 104729 * (c + 1)) * 69623) % 2147483647 * 48271 + 30103) % 2147483629 + 1, c + 1, rfl⟩
    simp [fn__law_take, runB, m__law_take, env0B, mSeq, mIf, mBol, mBin, mBinL, mBind, mLift, mPure, mPeek, mVar, ixD, iI, bolD, mAsg, mCall1, mCallN, intD, modD, iIc, cMod, mStore, mStoreO, mDone, gSet, mOwn, mPut, setD, mRet, mDrop, mStuck, mTru, truD, mOrT, mAndT, mNotT, mAnd, mOr, mNot, mIsi, isiT_eq, typD, lenD, mCons, mTup, mLst, mLstN, mVal, oOr, addD, subD, mulD, mulI, iIc, cMul, ltD, leD, gtD, geD, gTupD, gCons2, gsNil, mCallV, mCallB, mRs, tupleD, mRetF, mChain, mScr, mScrLen, mScrIx, mMut, appD, max2D, min2D, mRng1, mRng2, rngD1, rngD2, rngOk, mItems, itemsD, mAsgN, mParEE, mParEN, mUn, negD, mCallN1, listD, unsE, powD, cPow, divD, cDiv, mFor, mSl, mSlL, slD, mNoPart, mPart, intO, mSlN, mSlNL, slN, mRevN, revO, mParNC, atI, ixN, ha, h0, hm]
theorem ix_in {ds : List D} {r : Int} (h0 : 0 ≤ r) (h1 : r < ds.length) : ∃ d ∈ ds, atI ds r = some d := by
  have h : r.toNat < ds.length := by omega
  exact ⟨ds[r.toNat], List.getElem_mem h, atI_nat' h0 (List.getElem?_eq_getElem h)⟩
theorem atI_ints {ns : List Int} {k : Int} (h0 : 0 ≤ k) (h1 : k < ns.length) : ∃ v, atI ns k = some v := by
  have h : k.toNat < ns.length := by omega
  exact ⟨ns[k.toNat], atI_nat' h0 (List.getElem?_eq_getElem h)⟩
theorem box_ok (ns : List Int) (k : Int) (h0 : 0 ≤ k) (h1 : k < 1000) : ∃ bs, fn__law_box ns [.int k] = some (.ok bs) ∧ Bx bs := by
  have hk : (k.natAbs < 18446744073709551616) := by omega
  have z0 : ∀ v, atI [PyData.int 0, .int v] 0 = some (.int 0) := fun _ => rfl
  have z1 : ∀ v, atI [PyData.int 0, .int v] 1 = some (.int v) := fun _ => rfl
  by_cases h : k < ns.length
  · obtain ⟨v, e⟩ := atI_ints h0 h
    by_cases hv : 1000000000000000000 ≤ v <;> simp [fn__law_box, runS, m__law_box, env0S, mSeq, mIf, mBol, mBin, mBinL, mBind, mLift, mPure, mPeek, mVar, ixD, iI, bolD, mAsg, mCall1, mCallN, intD, modD, iIc, cMod, mStore, mStoreO, mDone, gSet, mOwn, mPut, setD, mRet, mDrop, mStuck, mTru, truD, mOrT, mAndT, mNotT, mAnd, mOr, mNot, mIsi, isiT_eq, typD, lenD, mCons, mTup, mLst, mLstN, mVal, oOr, addD, subD, mulD, mulI, iIc, cMul, ltD, leD, gtD, geD, gTupD, gCons2, gsNil, mCallV, mCallB, mRs, tupleD, mRetF, mChain, mScr, mScrLen, mScrIx, mMut, appD, max2D, min2D, mRng1, mRng2, rngD1, rngD2, rngOk, mItems, itemsD, mAsgN, mParEE, mParEN, mUn, negD, mCallN1, listD, unsE, powD, cPow, divD, cDiv, mFor, mSl, mSlL, slD, mNoPart, mPart, intO, mSlN, mSlNL, slN, mRevN, revO, mParNC, hk, h, e, hv, fit, z0, z1] <;> exact ⟨_, _, _, rfl⟩
  · by_cases hn : 0 < ns.length
    · have q0 : 0 ≤ k % (ns.length : Int) := Int.emod_nonneg _ (by omega)
      have q1 : k % (ns.length : Int) < ns.length := Int.emod_lt_of_pos _ (by omega)
      obtain ⟨v, e⟩ := atI_ints q0 q1
      by_cases hv : 1000000000000000000 ≤ 5717 * k + 23 + v % 2147483629 * 69623 <;> simp [fn__law_box, runS, m__law_box, env0S, mSeq, mIf, mBol, mBin, mBinL, mBind, mLift, mPure, mPeek, mVar, ixD, iI, bolD, mAsg, mCall1, mCallN, intD, modD, iIc, cMod, mStore, mStoreO, mDone, gSet, mOwn, mPut, setD, mRet, mDrop, mStuck, mTru, truD, mOrT, mAndT, mNotT, mAnd, mOr, mNot, mIsi, isiT_eq, typD, lenD, mCons, mTup, mLst, mLstN, mVal, oOr, addD, subD, mulD, mulI, iIc, cMul, ltD, leD, gtD, geD, gTupD, gCons2, gsNil, mCallV, mCallB, mRs, tupleD, mRetF, mChain, mScr, mScrLen, mScrIx, mMut, appD, max2D, min2D, mRng1, mRng2, rngD1, rngD2, rngOk, mItems, itemsD, mAsgN, mParEE, mParEN, mUn, negD, mCallN1, listD, unsE, powD, cPow, divD, cDiv, mFor, mSl, mSlL, slD, mNoPart, mPart, intO, mSlN, mSlNL, slN, mRevN, revO, mParNC, hk, h, hn, e, hv, fit, z0, z1] <;> exact ⟨_, _, _, rfl⟩
    · by_cases hv : 1000000000000000000 ≤ 5717 * k + 23 <;> simp [fn__law_box, runS, m__law_box, env0S, mSeq, mIf, mBol, mBin, mBinL, mBind, mLift, mPure, mPeek, mVar, ixD, iI, bolD, mAsg, mCall1, mCallN, intD, modD, iIc, cMod, mStore, mStoreO, mDone, gSet, mOwn, mPut, setD, mRet, mDrop, mStuck, mTru, truD, mOrT, mAndT, mNotT, mAnd, mOr, mNot, mIsi, isiT_eq, typD, lenD, mCons, mTup, mLst, mLstN, mVal, oOr, addD, subD, mulD, mulI, iIc, cMul, ltD, leD, gtD, geD, gTupD, gCons2, gsNil, mCallV, mCallB, mRs, tupleD, mRetF, mChain, mScr, mScrLen, mScrIx, mMut, appD, max2D, min2D, mRng1, mRng2, rngD1, rngD2, rngOk, mItems, itemsD, mAsgN, mParEE, mParEN, mUn, negD, mCallN1, listD, unsE, powD, cPow, divD, cDiv, mFor, mSl, mSlL, slD, mNoPart, mPart, intO, mSlN, mSlNL, slN, mRevN, revO, mParNC, hk, h, hn, hv, fit, z0, z1] <;> exact ⟨_, _, _, rfl⟩

theorem pick3 {a b c r : Int} (h0 : 0 ≤ r) (h1 : r < 3) : ∃ m, atI [PyData.int a, .int b, .int c] r = some (.int m) ∧ (m = a ∨ m = b ∨ m = c) := by
  obtain ⟨d, hd, e⟩ := ix_in (ds := [PyData.int a, .int b, .int c]) h0 (by simpa using h1)
  simp at hd
  rcases hd with rfl | rfl | rfl
  · exact ⟨_, e, .inl rfl⟩
  · exact ⟨_, e, .inr (.inl rfl)⟩
  · exact ⟨_, e, .inr (.inr rfl)⟩
theorem pick4 {a b c d r : Int} (h0 : 0 ≤ r) (h1 : r < 4) : ∃ m, atI [PyData.int a, .int b, .int c, .int d] r = some (.int m) ∧ (m = a ∨ m = b ∨ m = c ∨ m = d) := by
  obtain ⟨x, hd, e⟩ := ix_in (ds := [PyData.int a, .int b, .int c, .int d]) h0 (by simpa using h1)
  simp only [List.mem_cons, List.not_mem_nil, or_false] at hd
  rcases hd with rfl | rfl | rfl | rfl
  · exact ⟨_, e, .inl rfl⟩
  · exact ⟨_, e, .inr (.inl rfl)⟩
  · exact ⟨_, e, .inr (.inr (.inl rfl))⟩
  · exact ⟨_, e, .inr (.inr (.inr rfl))⟩
theorem go_mapA {α : Type} {vs : List Nat} {g : D → M Unit} {te : M D} {ρ : En} (N O : α → D) : ∀ (as : List α), (∀ a ∈ as, ∃ ρ1 ρ3, g (N a) ρ = some (.ok () ρ1) ∧ te ρ1 = some (.ok (O a) ρ3) ∧ unsE ρ3 vs = ρ) → mGo vs g (mPure true) te (as.map N) ρ = some (.ok (as.map O) ρ)
  | [], _ => rfl
  | a :: as, h => by
    obtain ⟨ρ1, ρ3, e1, e2, e3⟩ := h a List.mem_cons_self
    have ih := go_mapA N O as fun x hx => h x (List.mem_cons_of_mem _ hx)
    have t1 : (mPure true : M Bool) ρ1 = some (.ok true ρ1) := rfl
    have e5 : (mBind te fun y => mPure [y]) ρ1 = some (.ok [O a] ρ3) := by rw [bind_is e2]; rfl
    have e6 : mUn_ vs ρ3 = some (.ok () ρ) := by unfold mUn_; rw [e3]
    rw [List.map_cons]
    unfold mGo
    rw [bind_is e1, bind_is t1, if_pos rfl, bind_is e5, bind_is e6, bind_is ih]; rfl
theorem fold_len : ∀ (qs F : List Pr), (qs.foldl stepS F).length ≤ F.length + qs.length
  | [], F => Nat.le_refl _
  | q :: qs, F => by
    have h := fold_len qs (stepS F q)
    have h2 := step_len F q
    show (qs.foldl stepS (stepS F q)).length ≤ _
    simp only [List.length_cons]
    omega
theorem spans_len (ps : List Pr) : (spansP ps).length ≤ ps.length := by
  have h := fold_len (sortP ps) []
  have := (sortP_perm ps).length_eq
  show ((sortP ps).foldl stepS []).length ≤ _
  simp only [List.length_nil] at h
  omega
theorem others_len (below : Int) : ∀ (ss : List Pr) (a : Int), (othersP below a ss).length ≤ ss.length + 1
  | [], a => by unfold othersP; split <;> simp
  | s :: ss, a => by
    have h := others_len below ss s.2
    unfold othersP
    rw [List.length_append, List.length_cons]
    have h1 : (if a < mnI s.1 below then [(a, mnI s.1 below)] else []).length ≤ 1 := by split <;> simp
    omega
theorem eqv_pairs (ps : List Pr) : PyData.eqvAll (ps.map pairD) (ps.map pairD) = true := eqvAll_refl _ fun d hd => by
  obtain ⟨p, _, rfl⟩ := List.mem_map.mp hd
  simp [pairD, PyData.eqv, PyData.eqvAll]
theorem sh_pair (p : Pr) : Sh 1 (pairD p) := Sh.tuple fun d hd => by
  simp only [List.mem_cons, List.not_mem_nil, or_false] at hd
  rcases hd with rfl | rfl <;> exact Sh.int _
theorem sh_pairs (ps : List Pr) : Sh 2 (.list (ps.map pairD)) := Sh.list fun d hd => by
  obtain ⟨p, _, rfl⟩ := List.mem_map.mp hd
  exact sh_pair p
theorem eq_tp (as : List Pr) : eqD (.tuple (as.map pairD)) (.tuple (as.map pairD)) = some (.bool true) := by
  have h : Sh 2 (.tuple (as.map pairD)) := Sh.tuple fun d hd => by
    obtain ⟨p, _, rfl⟩ := List.mem_map.mp hd
    exact sh_pair p
  rw [eq_sh h h (by omega) (by omega)]
  simp [PyData.eqv, eqv_pairs]
theorem ne_tp (as : List Pr) : neD (.tuple (as.map pairD)) (.tuple (as.map pairD)) = some (.bool false) := by
  have h : Sh 2 (.tuple (as.map pairD)) := Sh.tuple fun d hd => by
    obtain ⟨p, _, rfl⟩ := List.mem_map.mp hd
    exact sh_pair p
  rw [ne_sh h h (by omega) (by omega)]
  simp [PyData.eqv, eqv_pairs]
theorem both_len2 (a b : List Pr) : (bothP a b).length ≤ a.length + b.length := both_len _ a b (Nat.le_refl _)
theorem worn_len (n : Int) (ss : List Pr) : (wornP n ss).length ≤ ss.length := by
  unfold wornP; rw [List.length_map]; exact List.length_filter_le _ _
theorem later_len (n : Int) (ss : List Pr) : (laterP n ss).length = ss.length := by
  unfold laterP; rw [List.length_map]
theorem grown_len (n : Int) (ss : List Pr) : (grownP n ss).length ≤ ss.length := by
  have := spans_len (ss.map fun s : Pr => (s.1, s.2 + n))
  rw [List.length_map] at this
  exact this
/-- a comprehension whose turns change the box -/
theorem go_box {vs : List Nat} {g : D → M Unit} {te : M D} (E : List D → En) (P : D → Prop) : ∀ (xs : List D) (bs : List D), Bx bs →
    (∀ x ∈ xs, ∀ bs, Bx bs → ∃ y bs' ρ1 ρ3, P y ∧ Bx bs' ∧ g x (E bs) = some (.ok () ρ1) ∧ te ρ1 = some (.ok y ρ3) ∧ unsE ρ3 vs = E bs') →
    ∃ ys bs', Bx bs' ∧ (∀ y ∈ ys, P y) ∧ ys.length = xs.length ∧ mGo vs g (mPure true) te xs (E bs) = some (.ok ys (E bs'))
  | [], bs, hb, _ => ⟨[], bs, hb, fun _ h => (by cases h), rfl, rfl⟩
  | x :: xs, bs, hb, h => by
    obtain ⟨y, bs1, ρ1, ρ3, p, hb1, e1, e2, e3⟩ := h x List.mem_cons_self bs hb
    obtain ⟨ys, bs', hb', q, l, ih⟩ := go_box E P xs bs1 hb1 fun z hz => h z (List.mem_cons_of_mem _ hz)
    refine ⟨y :: ys, bs', hb', fun z hz => (List.mem_cons.mp hz).elim (fun e => e ▸ p) (q z), by rw [List.length_cons, List.length_cons, l], ?_⟩
    have t1 : (mPure true : M Bool) ρ1 = some (.ok true ρ1) := rfl
    have e5 : (mBind te fun y => mPure [y]) ρ1 = some (.ok [y] ρ3) := by rw [bind_is e2]; rfl
    have e6 : mUn_ vs ρ3 = some (.ok () (E bs')) ∨ mUn_ vs ρ3 = some (.ok () (E bs1)) := .inr (by unfold mUn_; rw [e3])
    have e6 : mUn_ vs ρ3 = some (.ok () (E bs1)) := by unfold mUn_; rw [e3]
    unfold mGo
    rw [bind_is e1, bind_is t1, if_pos rfl, bind_is e5, bind_is e6, bind_is ih]; rfl
theorem rngL_len (n : Nat) : (rngL 0 (n : Int)).length = n := by rw [rngL_length]; omega

theorem is_in_ok {ss : List Pr} {m : Int} (hl : ss.length ≤ 900) : fn_is_in [.tuple (ss.map pairD), .int m] = some (.ok (.bool (inB ss m))) := by
  obtain ⟨bl, hbl⟩ : ∃ bl : List Bool, bl = ss.map fun s => decide (s.1 ≤ m) && decide (m < s.2) := ⟨_, rfl⟩
  have h : C_is_in_0 [.val (.tuple (ss.map pairD)), .val (.int m), .un, .un] = some (.ok (bl.map PyData.bool) [.val (.tuple (ss.map pairD)), .val (.int m), .un, .un]) := by
    have e : bl.map PyData.bool = ss.map fun s => PyData.bool (decide (s.1 ≤ m) && decide (m < s.2)) := by rw [hbl, List.map_map]; rfl
    rw [e]
    refine comp_is (ds := ss.map pairD) (ρ1 := [.val (.tuple (ss.map pairD)), .val (.int m), .un, .un]) (ρe := [.val (.tuple (ss.map pairD)), .val (.int m), .un, .un]) (by simp [mSeq, mIf, mBol, mBin, mBinL, mBind, mLift, mPure, mPeek, mVar, ixD, iI, bolD, mAsg, mCall1, mCallN, intD, modD, iIc, cMod, mStore, mStoreO, mDone, gSet, mOwn, mPut, setD, mRet, mDrop, mStuck, mTru, truD, mOrT, mAndT, mNotT, mAnd, mOr, mNot, mIsi, isiT_eq, typD, lenD, mCons, mTup, mLst, mLstN, mVal, oOr, addD, subD, mulD, mulI, iIc, cMul, ltD, leD, gtD, geD, gTupD, gCons2, gsNil, mCallV, mCallB, mRs, tupleD, mRetF, mChain, mScr, mScrLen, mScrIx, mMut, appD, max2D, min2D, mRng1, mRng2, rngD1, rngD2, rngOk, mItems, itemsD, mAsgN, mParEE, mParEN, mUn, negD, mCallN1, listD, unsE, powD, cPow, divD, cDiv, mFor, mSl, mSlL, slD, mNoPart, mPart, intO, mSlN, mSlNL, slN, mRevN, revO, mParNC]) (fit_of2 (by rw [List.length_map]; omega)) ?_
    refine go_mapA pairD (fun s => PyData.bool (decide (s.1 ≤ m) && decide (m < s.2))) ss fun s _ => ?_
    obtain ⟨a, b⟩ := s
    refine ⟨[.val (.tuple (ss.map pairD)), .val (.int m), .val (.int a), .val (.int b)], [.val (.tuple (ss.map pairD)), .val (.int m), .val (.int a), .val (.int b)], by simp [mSeq, mIf, mBol, mBin, mBinL, mBind, mLift, mPure, mPeek, mVar, ixD, iI, bolD, mAsg, mCall1, mCallN, intD, modD, iIc, cMod, mStore, mStoreO, mDone, gSet, mOwn, mPut, setD, mRet, mDrop, mStuck, mTru, truD, mOrT, mAndT, mNotT, mAnd, mOr, mNot, mIsi, isiT_eq, typD, lenD, mCons, mTup, mLst, mLstN, mVal, oOr, addD, subD, mulD, mulI, iIc, cMul, ltD, leD, gtD, geD, gTupD, gCons2, gsNil, mCallV, mCallB, mRs, tupleD, mRetF, mChain, mScr, mScrLen, mScrIx, mMut, appD, max2D, min2D, mRng1, mRng2, rngD1, rngD2, rngOk, mItems, itemsD, mAsgN, mParEE, mParEN, mUn, negD, mCallN1, listD, unsE, powD, cPow, divD, cDiv, mFor, mSl, mSlL, slD, mNoPart, mPart, intO, mSlN, mSlNL, slN, mRevN, revO, mParNC, gNamesD, pairD], ?_, by simp [unsE]⟩
    by_cases c : a ≤ m <;> simp [mSeq, mIf, mBol, mBin, mBinL, mBind, mLift, mPure, mPeek, mVar, ixD, iI, bolD, mAsg, mCall1, mCallN, intD, modD, iIc, cMod, mStore, mStoreO, mDone, gSet, mOwn, mPut, setD, mRet, mDrop, mStuck, mTru, truD, mOrT, mAndT, mNotT, mAnd, mOr, mNot, mIsi, isiT_eq, typD, lenD, mCons, mTup, mLst, mLstN, mVal, oOr, addD, subD, mulD, mulI, iIc, cMul, ltD, leD, gtD, geD, gTupD, gCons2, gsNil, mCallV, mCallB, mRs, tupleD, mRetF, mChain, mScr, mScrLen, mScrIx, mMut, appD, max2D, min2D, mRng1, mRng2, rngD1, rngD2, rngOk, mItems, itemsD, mAsgN, mParEE, mParEN, mUn, negD, mCallN1, listD, unsE, powD, cPow, divD, cDiv, mFor, mSl, mSlL, slD, mNoPart, mPart, intO, mSlN, mSlNL, slN, mRevN, revO, mParNC, c]
  have e : inB ss m = bl.any id := by rw [hbl]; unfold inB; rw [List.any_map]; rfl
  simp [fn_is_in, runV, m_is_in, env0, mSeq, mIf, mBol, mBin, mBinL, mBind, mLift, mPure, mPeek, mVar, ixD, iI, bolD, mAsg, mCall1, mCallN, intD, modD, iIc, cMod, mStore, mStoreO, mDone, gSet, mOwn, mPut, setD, mRet, mDrop, mStuck, mTru, truD, mOrT, mAndT, mNotT, mAnd, mOr, mNot, mIsi, isiT_eq, typD, lenD, mCons, mTup, mLst, mLstN, mVal, oOr, addD, subD, mulD, mulI, iIc, cMul, ltD, leD, gtD, geD, gTupD, gCons2, gsNil, mCallV, mCallB, mRs, tupleD, mRetF, mChain, mScr, mScrLen, mScrIx, mMut, appD, max2D, min2D, mRng1, mRng2, rngD1, rngD2, rngOk, mItems, itemsD, mAsgN, mParEE, mParEN, mUn, negD, mCallN1, listD, unsE, powD, cPow, divD, cDiv, mFor, mSl, mSlL, slD, mNoPart, mPart, intO, mSlN, mSlNL, slN, mRevN, revO, mParNC, h, e, anyD, toBools_map]
theorem how_many_ok {ss : List Pr} (hl : ss.length ≤ 900) : fn_how_many [.tuple (ss.map pairD)] = some (.ok (.int (lenQ ss))) := by
  obtain ⟨bl, hbl⟩ : ∃ bl : List Int, bl = ss.map fun s => s.2 - s.1 := ⟨_, rfl⟩
  have h : C_how_many_0 [.val (.tuple (ss.map pairD)), .un, .un] = some (.ok (bl.map PyData.int) [.val (.tuple (ss.map pairD)), .un, .un]) := by
    have e : bl.map PyData.int = ss.map fun s => PyData.int (s.2 - s.1) := by rw [hbl, List.map_map]; rfl
    rw [e]
    refine comp_is (ds := ss.map pairD) (ρ1 := [.val (.tuple (ss.map pairD)), .un, .un]) (ρe := [.val (.tuple (ss.map pairD)), .un, .un]) (by simp [mSeq, mIf, mBol, mBin, mBinL, mBind, mLift, mPure, mPeek, mVar, ixD, iI, bolD, mAsg, mCall1, mCallN, intD, modD, iIc, cMod, mStore, mStoreO, mDone, gSet, mOwn, mPut, setD, mRet, mDrop, mStuck, mTru, truD, mOrT, mAndT, mNotT, mAnd, mOr, mNot, mIsi, isiT_eq, typD, lenD, mCons, mTup, mLst, mLstN, mVal, oOr, addD, subD, mulD, mulI, iIc, cMul, ltD, leD, gtD, geD, gTupD, gCons2, gsNil, mCallV, mCallB, mRs, tupleD, mRetF, mChain, mScr, mScrLen, mScrIx, mMut, appD, max2D, min2D, mRng1, mRng2, rngD1, rngD2, rngOk, mItems, itemsD, mAsgN, mParEE, mParEN, mUn, negD, mCallN1, listD, unsE, powD, cPow, divD, cDiv, mFor, mSl, mSlL, slD, mNoPart, mPart, intO, mSlN, mSlNL, slN, mRevN, revO, mParNC]) (fit_of2 (by rw [List.length_map]; omega)) ?_
    refine go_mapA pairD (fun s => PyData.int (s.2 - s.1)) ss fun s _ => ?_
    obtain ⟨a, b⟩ := s
    exact ⟨[.val (.tuple (ss.map pairD)), .val (.int a), .val (.int b)], [.val (.tuple (ss.map pairD)), .val (.int a), .val (.int b)], by simp [mSeq, mIf, mBol, mBin, mBinL, mBind, mLift, mPure, mPeek, mVar, ixD, iI, bolD, mAsg, mCall1, mCallN, intD, modD, iIc, cMod, mStore, mStoreO, mDone, gSet, mOwn, mPut, setD, mRet, mDrop, mStuck, mTru, truD, mOrT, mAndT, mNotT, mAnd, mOr, mNot, mIsi, isiT_eq, typD, lenD, mCons, mTup, mLst, mLstN, mVal, oOr, addD, subD, mulD, mulI, iIc, cMul, ltD, leD, gtD, geD, gTupD, gCons2, gsNil, mCallV, mCallB, mRs, tupleD, mRetF, mChain, mScr, mScrLen, mScrIx, mMut, appD, max2D, min2D, mRng1, mRng2, rngD1, rngD2, rngOk, mItems, itemsD, mAsgN, mParEE, mParEN, mUn, negD, mCallN1, listD, unsE, powD, cPow, divD, cDiv, mFor, mSl, mSlL, slD, mNoPart, mPart, intO, mSlN, mSlNL, slN, mRevN, revO, mParNC, gNamesD, pairD], by simp [mSeq, mIf, mBol, mBin, mBinL, mBind, mLift, mPure, mPeek, mVar, ixD, iI, bolD, mAsg, mCall1, mCallN, intD, modD, iIc, cMod, mStore, mStoreO, mDone, gSet, mOwn, mPut, setD, mRet, mDrop, mStuck, mTru, truD, mOrT, mAndT, mNotT, mAnd, mOr, mNot, mIsi, isiT_eq, typD, lenD, mCons, mTup, mLst, mLstN, mVal, oOr, addD, subD, mulD, mulI, iIc, cMul, ltD, leD, gtD, geD, gTupD, gCons2, gsNil, mCallV, mCallB, mRs, tupleD, mRetF, mChain, mScr, mScrLen, mScrIx, mMut, appD, max2D, min2D, mRng1, mRng2, rngD1, rngD2, rngOk, mItems, itemsD, mAsgN, mParEE, mParEN, mUn, negD, mCallN1, listD, unsE, powD, cPow, divD, cDiv, mFor, mSl, mSlL, slD, mNoPart, mPart, intO, mSlN, mSlNL, slN, mRevN, revO, mParNC], by simp [unsE]⟩
  have e : lenQ ss = bl.sum := by rw [hbl]; rfl
  simp [fn_how_many, runV, m_how_many, env0, mSeq, mIf, mBol, mBin, mBinL, mBind, mLift, mPure, mPeek, mVar, ixD, iI, bolD, mAsg, mCall1, mCallN, intD, modD, iIc, cMod, mStore, mStoreO, mDone, gSet, mOwn, mPut, setD, mRet, mDrop, mStuck, mTru, truD, mOrT, mAndT, mNotT, mAnd, mOr, mNot, mIsi, isiT_eq, typD, lenD, mCons, mTup, mLst, mLstN, mVal, oOr, addD, subD, mulD, mulI, iIc, cMul, ltD, leD, gtD, geD, gTupD, gCons2, gsNil, mCallV, mCallB, mRs, tupleD, mRetF, mChain, mScr, mScrLen, mScrIx, mMut, appD, max2D, min2D, mRng1, mRng2, rngD1, rngD2, rngOk, mItems, itemsD, mAsgN, mParEE, mParEN, mUn, negD, mCallN1, listD, unsE, powD, cPow, divD, cDiv, mFor, mSl, mSlL, slD, mNoPart, mPart, intO, mSlN, mSlNL, slN, mRevN, revO, mParNC, h, e, sumD, toInts_map]
def oD : Option Int → D
  | none => .none
  | some x => .int x

theorem is_whole_ok (d : D) : fn_is_whole [d] = some (.ok (.bool (match d with | .int _ => true | _ => false))) := by
  cases d <;> simp [fn_is_whole, runV, m_is_whole, env0, mSeq, mIf, mBol, mBin, mBinL, mBind, mLift, mPure, mPeek, mVar, ixD, iI, bolD, mAsg, mCall1, mCallN, intD, modD, iIc, cMod, mStore, mStoreO, mDone, gSet, mOwn, mPut, setD, mRet, mDrop, mStuck, mTru, truD, mOrT, mAndT, mNotT, mAnd, mOr, mNot, mIsi, isiT_eq, typD, lenD, mCons, mTup, mLst, mLstN, mVal, oOr, addD, subD, mulD, mulI, iIc, cMul, ltD, leD, gtD, geD, gTupD, gCons2, gsNil, mCallV, mCallB, mRs, tupleD, mRetF, mChain, mScr, mScrLen, mScrIx, mMut, appD, max2D, min2D, mRng1, mRng2, rngD1, rngD2, rngOk, mItems, itemsD, mAsgN, mParEE, mParEN, mUn, negD, mCallN1, listD, unsE, powD, cPow, divD, cDiv, mFor, mSl, mSlL, slD, mNoPart, mPart, intO, mSlN, mSlNL, slN, mRevN, revO, mParNC, isi_int_NoneType, isi_int_bool, isi_int_int, isi_int_str, isi_int_list, isi_int_tuple, isi_int_dict, isi_bool_NoneType, isi_bool_bool, isi_bool_int, isi_bool_str, isi_bool_list, isi_bool_tuple, isi_bool_dict, isi_str_NoneType, isi_str_bool, isi_str_int, isi_str_str, isi_str_list, isi_str_tuple, isi_str_dict, isi_list_NoneType, isi_list_bool, isi_list_int, isi_list_str, isi_list_list, isi_list_tuple, isi_list_dict, isi_tuple_NoneType, isi_tuple_bool, isi_tuple_int, isi_tuple_str, isi_tuple_list, isi_tuple_tuple, isi_tuple_dict, isi_dict_NoneType, isi_dict_bool, isi_dict_int, isi_dict_str, isi_dict_list, isi_dict_tuple, isi_dict_dict]
def isRun : D → Bool
  | .tuple [.int l, .int n] => decide (0 ≤ l) && decide (l ≤ 1) && decide (1 ≤ n)
  | _ => false
def lvl : D → Int
  | .tuple (.int l :: _) => l
  | _ => 0
def lvlAt (ds : List D) (k : Int) : Int := lvl (ds.getD k.toNat .none)
def chEl (ds : List D) : D → Bool
  | .int k => !decide (lvlAt ds k = lvlAt ds (k - 1))
  | _ => false
def chainB (ds : List D) : Bool := (rngL 1 (ds.length : Nat)).all (chEl ds)
def isLine : D → Bool
  | .tuple ds => ds.all isRun && chainB ds
  | _ => false
theorem is_run_ok (d : D) : fn__is_run [d] = some (.ok (.bool (isRun d))) := by
  cases d with
  | tuple ds =>
    match ds with
    | [] => simp [fn__is_run, runV, m__is_run, env0, mSeq, mIf, mBol, mBin, mBinL, mBind, mLift, mPure, mPeek, mVar, ixD, iI, bolD, mAsg, mCall1, mCallN, intD, modD, iIc, cMod, mStore, mStoreO, mDone, gSet, mOwn, mPut, setD, mRet, mDrop, mStuck, mTru, truD, mOrT, mAndT, mNotT, mAnd, mOr, mNot, mIsi, isiT_eq, typD, lenD, mCons, mTup, mLst, mLstN, mVal, oOr, addD, subD, mulD, mulI, iIc, cMul, ltD, leD, gtD, geD, gTupD, gCons2, gsNil, mCallV, mCallB, mRs, tupleD, mRetF, mChain, mScr, mScrLen, mScrIx, mMut, appD, max2D, min2D, mRng1, mRng2, rngD1, rngD2, rngOk, mItems, itemsD, mAsgN, mParEE, mParEN, mUn, negD, mCallN1, listD, unsE, powD, cPow, divD, cDiv, mFor, mSl, mSlL, slD, mNoPart, mPart, intO, mSlN, mSlNL, slN, mRevN, revO, mParNC, isi_int_NoneType, isi_int_bool, isi_int_int, isi_int_str, isi_int_list, isi_int_tuple, isi_int_dict, isi_bool_NoneType, isi_bool_bool, isi_bool_int, isi_bool_str, isi_bool_list, isi_bool_tuple, isi_bool_dict, isi_str_NoneType, isi_str_bool, isi_str_int, isi_str_str, isi_str_list, isi_str_tuple, isi_str_dict, isi_list_NoneType, isi_list_bool, isi_list_int, isi_list_str, isi_list_list, isi_list_tuple, isi_list_dict, isi_tuple_NoneType, isi_tuple_bool, isi_tuple_int, isi_tuple_str, isi_tuple_list, isi_tuple_tuple, isi_tuple_dict, isi_dict_NoneType, isi_dict_bool, isi_dict_int, isi_dict_str, isi_dict_list, isi_dict_tuple, isi_dict_dict, ne_int, isRun]
    | [x] => simp [fn__is_run, runV, m__is_run, env0, mSeq, mIf, mBol, mBin, mBinL, mBind, mLift, mPure, mPeek, mVar, ixD, iI, bolD, mAsg, mCall1, mCallN, intD, modD, iIc, cMod, mStore, mStoreO, mDone, gSet, mOwn, mPut, setD, mRet, mDrop, mStuck, mTru, truD, mOrT, mAndT, mNotT, mAnd, mOr, mNot, mIsi, isiT_eq, typD, lenD, mCons, mTup, mLst, mLstN, mVal, oOr, addD, subD, mulD, mulI, iIc, cMul, ltD, leD, gtD, geD, gTupD, gCons2, gsNil, mCallV, mCallB, mRs, tupleD, mRetF, mChain, mScr, mScrLen, mScrIx, mMut, appD, max2D, min2D, mRng1, mRng2, rngD1, rngD2, rngOk, mItems, itemsD, mAsgN, mParEE, mParEN, mUn, negD, mCallN1, listD, unsE, powD, cPow, divD, cDiv, mFor, mSl, mSlL, slD, mNoPart, mPart, intO, mSlN, mSlNL, slN, mRevN, revO, mParNC, isi_int_NoneType, isi_int_bool, isi_int_int, isi_int_str, isi_int_list, isi_int_tuple, isi_int_dict, isi_bool_NoneType, isi_bool_bool, isi_bool_int, isi_bool_str, isi_bool_list, isi_bool_tuple, isi_bool_dict, isi_str_NoneType, isi_str_bool, isi_str_int, isi_str_str, isi_str_list, isi_str_tuple, isi_str_dict, isi_list_NoneType, isi_list_bool, isi_list_int, isi_list_str, isi_list_list, isi_list_tuple, isi_list_dict, isi_tuple_NoneType, isi_tuple_bool, isi_tuple_int, isi_tuple_str, isi_tuple_list, isi_tuple_tuple, isi_tuple_dict, isi_dict_NoneType, isi_dict_bool, isi_dict_int, isi_dict_str, isi_dict_list, isi_dict_tuple, isi_dict_dict, ne_int, isRun]
    | [x, y] =>
      cases x with
      | int l =>
        cases y with
        | int n =>
          by_cases h1 : 0 ≤ l <;> by_cases h2 : l ≤ 1 <;> simp [fn__is_run, runV, m__is_run, env0, mSeq, mIf, mBol, mBin, mBinL, mBind, mLift, mPure, mPeek, mVar, ixD, iI, bolD, mAsg, mCall1, mCallN, intD, modD, iIc, cMod, mStore, mStoreO, mDone, gSet, mOwn, mPut, setD, mRet, mDrop, mStuck, mTru, truD, mOrT, mAndT, mNotT, mAnd, mOr, mNot, mIsi, isiT_eq, typD, lenD, mCons, mTup, mLst, mLstN, mVal, oOr, addD, subD, mulD, mulI, iIc, cMul, ltD, leD, gtD, geD, gTupD, gCons2, gsNil, mCallV, mCallB, mRs, tupleD, mRetF, mChain, mScr, mScrLen, mScrIx, mMut, appD, max2D, min2D, mRng1, mRng2, rngD1, rngD2, rngOk, mItems, itemsD, mAsgN, mParEE, mParEN, mUn, negD, mCallN1, listD, unsE, powD, cPow, divD, cDiv, mFor, mSl, mSlL, slD, mNoPart, mPart, intO, mSlN, mSlNL, slN, mRevN, revO, mParNC, isi_int_NoneType, isi_int_bool, isi_int_int, isi_int_str, isi_int_list, isi_int_tuple, isi_int_dict, isi_bool_NoneType, isi_bool_bool, isi_bool_int, isi_bool_str, isi_bool_list, isi_bool_tuple, isi_bool_dict, isi_str_NoneType, isi_str_bool, isi_str_int, isi_str_str, isi_str_list, isi_str_tuple, isi_str_dict, isi_list_NoneType, isi_list_bool, isi_list_int, isi_list_str, isi_list_list, isi_list_tuple, isi_list_dict, isi_tuple_NoneType, isi_tuple_bool, isi_tuple_int, isi_tuple_str, isi_tuple_list, isi_tuple_tuple, isi_tuple_dict, isi_dict_NoneType, isi_dict_bool, isi_dict_int, isi_dict_str, isi_dict_list, isi_dict_tuple, isi_dict_dict, ne_int, is_whole_ok, isRun, h1, h2]
        | _ => by_cases h1 : 0 ≤ l <;> by_cases h2 : l ≤ 1 <;> simp [fn__is_run, runV, m__is_run, env0, mSeq, mIf, mBol, mBin, mBinL, mBind, mLift, mPure, mPeek, mVar, ixD, iI, bolD, mAsg, mCall1, mCallN, intD, modD, iIc, cMod, mStore, mStoreO, mDone, gSet, mOwn, mPut, setD, mRet, mDrop, mStuck, mTru, truD, mOrT, mAndT, mNotT, mAnd, mOr, mNot, mIsi, isiT_eq, typD, lenD, mCons, mTup, mLst, mLstN, mVal, oOr, addD, subD, mulD, mulI, iIc, cMul, ltD, leD, gtD, geD, gTupD, gCons2, gsNil, mCallV, mCallB, mRs, tupleD, mRetF, mChain, mScr, mScrLen, mScrIx, mMut, appD, max2D, min2D, mRng1, mRng2, rngD1, rngD2, rngOk, mItems, itemsD, mAsgN, mParEE, mParEN, mUn, negD, mCallN1, listD, unsE, powD, cPow, divD, cDiv, mFor, mSl, mSlL, slD, mNoPart, mPart, intO, mSlN, mSlNL, slN, mRevN, revO, mParNC, isi_int_NoneType, isi_int_bool, isi_int_int, isi_int_str, isi_int_list, isi_int_tuple, isi_int_dict, isi_bool_NoneType, isi_bool_bool, isi_bool_int, isi_bool_str, isi_bool_list, isi_bool_tuple, isi_bool_dict, isi_str_NoneType, isi_str_bool, isi_str_int, isi_str_str, isi_str_list, isi_str_tuple, isi_str_dict, isi_list_NoneType, isi_list_bool, isi_list_int, isi_list_str, isi_list_list, isi_list_tuple, isi_list_dict, isi_tuple_NoneType, isi_tuple_bool, isi_tuple_int, isi_tuple_str, isi_tuple_list, isi_tuple_tuple, isi_tuple_dict, isi_dict_NoneType, isi_dict_bool, isi_dict_int, isi_dict_str, isi_dict_list, isi_dict_tuple, isi_dict_dict, ne_int, is_whole_ok, isRun, h1, h2]
      | _ => simp [fn__is_run, runV, m__is_run, env0, mSeq, mIf, mBol, mBin, mBinL, mBind, mLift, mPure, mPeek, mVar, ixD, iI, bolD, mAsg, mCall1, mCallN, intD, modD, iIc, cMod, mStore, mStoreO, mDone, gSet, mOwn, mPut, setD, mRet, mDrop, mStuck, mTru, truD, mOrT, mAndT, mNotT, mAnd, mOr, mNot, mIsi, isiT_eq, typD, lenD, mCons, mTup, mLst, mLstN, mVal, oOr, addD, subD, mulD, mulI, iIc, cMul, ltD, leD, gtD, geD, gTupD, gCons2, gsNil, mCallV, mCallB, mRs, tupleD, mRetF, mChain, mScr, mScrLen, mScrIx, mMut, appD, max2D, min2D, mRng1, mRng2, rngD1, rngD2, rngOk, mItems, itemsD, mAsgN, mParEE, mParEN, mUn, negD, mCallN1, listD, unsE, powD, cPow, divD, cDiv, mFor, mSl, mSlL, slD, mNoPart, mPart, intO, mSlN, mSlNL, slN, mRevN, revO, mParNC, isi_int_NoneType, isi_int_bool, isi_int_int, isi_int_str, isi_int_list, isi_int_tuple, isi_int_dict, isi_bool_NoneType, isi_bool_bool, isi_bool_int, isi_bool_str, isi_bool_list, isi_bool_tuple, isi_bool_dict, isi_str_NoneType, isi_str_bool, isi_str_int, isi_str_str, isi_str_list, isi_str_tuple, isi_str_dict, isi_list_NoneType, isi_list_bool, isi_list_int, isi_list_str, isi_list_list, isi_list_tuple, isi_list_dict, isi_tuple_NoneType, isi_tuple_bool, isi_tuple_int, isi_tuple_str, isi_tuple_list, isi_tuple_tuple, isi_tuple_dict, isi_dict_NoneType, isi_dict_bool, isi_dict_int, isi_dict_str, isi_dict_list, isi_dict_tuple, isi_dict_dict, ne_int, is_whole_ok, isRun]
    | x :: y :: z :: r =>
      have hl : ¬ ((r.length : Int) + 1 + 1 + 1 = 2) := by omega
      simp [fn__is_run, runV, m__is_run, env0, mSeq, mIf, mBol, mBin, mBinL, mBind, mLift, mPure, mPeek, mVar, ixD, iI, bolD, mAsg, mCall1, mCallN, intD, modD, iIc, cMod, mStore, mStoreO, mDone, gSet, mOwn, mPut, setD, mRet, mDrop, mStuck, mTru, truD, mOrT, mAndT, mNotT, mAnd, mOr, mNot, mIsi, isiT_eq, typD, lenD, mCons, mTup, mLst, mLstN, mVal, oOr, addD, subD, mulD, mulI, iIc, cMul, ltD, leD, gtD, geD, gTupD, gCons2, gsNil, mCallV, mCallB, mRs, tupleD, mRetF, mChain, mScr, mScrLen, mScrIx, mMut, appD, max2D, min2D, mRng1, mRng2, rngD1, rngD2, rngOk, mItems, itemsD, mAsgN, mParEE, mParEN, mUn, negD, mCallN1, listD, unsE, powD, cPow, divD, cDiv, mFor, mSl, mSlL, slD, mNoPart, mPart, intO, mSlN, mSlNL, slN, mRevN, revO, mParNC, isi_int_NoneType, isi_int_bool, isi_int_int, isi_int_str, isi_int_list, isi_int_tuple, isi_int_dict, isi_bool_NoneType, isi_bool_bool, isi_bool_int, isi_bool_str, isi_bool_list, isi_bool_tuple, isi_bool_dict, isi_str_NoneType, isi_str_bool, isi_str_int, isi_str_str, isi_str_list, isi_str_tuple, isi_str_dict, isi_list_NoneType, isi_list_bool, isi_list_int, isi_list_str, isi_list_list, isi_list_tuple, isi_list_dict, isi_tuple_NoneType, isi_tuple_bool, isi_tuple_int, isi_tuple_str, isi_tuple_list, isi_tuple_tuple, isi_tuple_dict, isi_dict_NoneType, isi_dict_bool, isi_dict_int, isi_dict_str, isi_dict_list, isi_dict_tuple, isi_dict_dict, ne_int, isRun, hl]
  | _ => simp [fn__is_run, runV, m__is_run, env0, mSeq, mIf, mBol, mBin, mBinL, mBind, mLift, mPure, mPeek, mVar, ixD, iI, bolD, mAsg, mCall1, mCallN, intD, modD, iIc, cMod, mStore, mStoreO, mDone, gSet, mOwn, mPut, setD, mRet, mDrop, mStuck, mTru, truD, mOrT, mAndT, mNotT, mAnd, mOr, mNot, mIsi, isiT_eq, typD, lenD, mCons, mTup, mLst, mLstN, mVal, oOr, addD, subD, mulD, mulI, iIc, cMul, ltD, leD, gtD, geD, gTupD, gCons2, gsNil, mCallV, mCallB, mRs, tupleD, mRetF, mChain, mScr, mScrLen, mScrIx, mMut, appD, max2D, min2D, mRng1, mRng2, rngD1, rngD2, rngOk, mItems, itemsD, mAsgN, mParEE, mParEN, mUn, negD, mCallN1, listD, unsE, powD, cPow, divD, cDiv, mFor, mSl, mSlL, slD, mNoPart, mPart, intO, mSlN, mSlNL, slN, mRevN, revO, mParNC, isi_int_NoneType, isi_int_bool, isi_int_int, isi_int_str, isi_int_list, isi_int_tuple, isi_int_dict, isi_bool_NoneType, isi_bool_bool, isi_bool_int, isi_bool_str, isi_bool_list, isi_bool_tuple, isi_bool_dict, isi_str_NoneType, isi_str_bool, isi_str_int, isi_str_str, isi_str_list, isi_str_tuple, isi_str_dict, isi_list_NoneType, isi_list_bool, isi_list_int, isi_list_str, isi_list_list, isi_list_tuple, isi_list_dict, isi_tuple_NoneType, isi_tuple_bool, isi_tuple_int, isi_tuple_str, isi_tuple_list, isi_tuple_tuple, isi_tuple_dict, isi_dict_NoneType, isi_dict_bool, isi_dict_int, isi_dict_str, isi_dict_list, isi_dict_tuple, isi_dict_dict, isRun]
theorem lvl_run {d : D} (h : isRun d = true) : ∃ l n : Int, d = .tuple [.int l, .int n] ∧ 0 ≤ l ∧ l ≤ 1 ∧ 1 ≤ n := by
  unfold isRun at h
  split at h
  · rename_i l n
    simp only [Bool.and_eq_true, decide_eq_true_eq] at h
    exact ⟨l, n, rfl, h.1.1, h.1.2, h.2⟩
  · cases h
theorem getD_get {ds : List D} {i : Nat} (h : i < ds.length) : ds[i]? = some (ds.getD i .none) := by
  rw [List.getD_eq_getElem?_getD, List.getElem?_eq_getElem h]; rfl
theorem fit_of {n : Nat} (h : n ≤ 16000000) : fit n = true := decide_eq_true h
theorem il_c0 (ds : List D) (hl : ds.length ≤ 1000) : C_is_line_0 [Sl.val (.tuple ds), .un, .un] = some (.ok (ds.map fun x => .bool (isRun x)) [Sl.val (.tuple ds), .un, .un]) := by
  refine comp_is (ds := ds) (ρ1 := [Sl.val (.tuple ds), .un, .un]) (ρe := [Sl.val (.tuple ds), .un, .un]) (by simp [mSeq, mIf, mBol, mBin, mBinL, mBind, mLift, mPure, mPeek, mVar, ixD, iI, bolD, mAsg, mCall1, mCallN, intD, modD, iIc, cMod, mStore, mStoreO, mDone, gSet, mOwn, mPut, setD, mRet, mDrop, mStuck, mTru, truD, mOrT, mAndT, mNotT, mAnd, mOr, mNot, mIsi, isiT_eq, typD, lenD, mCons, mTup, mLst, mLstN, mVal, oOr, addD, subD, mulD, mulI, iIc, cMul, ltD, leD, gtD, geD, gTupD, gCons2, gsNil, mCallV, mCallB, mRs, tupleD, mRetF, mChain, mScr, mScrLen, mScrIx, mMut, appD, max2D, min2D, mRng1, mRng2, rngD1, rngD2, rngOk, mItems, itemsD, mAsgN, mParEE, mParEN, mUn, negD, mCallN1, listD, unsE, powD, cPow, divD, cDiv, mFor, mSl, mSlL, slD, mNoPart, mPart, intO, mSlN, mSlNL, slN, mRevN, revO, mParNC]) (fit_of (by omega)) ?_
  refine go_map ds fun x hx => ⟨[Sl.val (.tuple ds), .un, .val x], [Sl.val (.tuple ds), .un, .val x], by simp [mSeq, mIf, mBol, mBin, mBinL, mBind, mLift, mPure, mPeek, mVar, ixD, iI, bolD, mAsg, mCall1, mCallN, intD, modD, iIc, cMod, mStore, mStoreO, mDone, gSet, mOwn, mPut, setD, mRet, mDrop, mStuck, mTru, truD, mOrT, mAndT, mNotT, mAnd, mOr, mNot, mIsi, isiT_eq, typD, lenD, mCons, mTup, mLst, mLstN, mVal, oOr, addD, subD, mulD, mulI, iIc, cMul, ltD, leD, gtD, geD, gTupD, gCons2, gsNil, mCallV, mCallB, mRs, tupleD, mRetF, mChain, mScr, mScrLen, mScrIx, mMut, appD, max2D, min2D, mRng1, mRng2, rngD1, rngD2, rngOk, mItems, itemsD, mAsgN, mParEE, mParEN, mUn, negD, mCallN1, listD, unsE, powD, cPow, divD, cDiv, mFor, mSl, mSlL, slD, mNoPart, mPart, intO, mSlN, mSlNL, slN, mRevN, revO, mParNC], by simp [mSeq, mIf, mBol, mBin, mBinL, mBind, mLift, mPure, mPeek, mVar, ixD, iI, bolD, mAsg, mCall1, mCallN, intD, modD, iIc, cMod, mStore, mStoreO, mDone, gSet, mOwn, mPut, setD, mRet, mDrop, mStuck, mTru, truD, mOrT, mAndT, mNotT, mAnd, mOr, mNot, mIsi, isiT_eq, typD, lenD, mCons, mTup, mLst, mLstN, mVal, oOr, addD, subD, mulD, mulI, iIc, cMul, ltD, leD, gtD, geD, gTupD, gCons2, gsNil, mCallV, mCallB, mRs, tupleD, mRetF, mChain, mScr, mScrLen, mScrIx, mMut, appD, max2D, min2D, mRng1, mRng2, rngD1, rngD2, rngOk, mItems, itemsD, mAsgN, mParEE, mParEN, mUn, negD, mCallN1, listD, unsE, powD, cPow, divD, cDiv, mFor, mSl, mSlL, slD, mNoPart, mPart, intO, mSlN, mSlNL, slN, mRevN, revO, mParNC, is_run_ok], by simp [unsE]⟩
theorem rng_len (n : Nat) (h : n ≤ 1000000) : rngOk ((n : Nat) : Int) = true := rngOk_le (by omega) (by omega)
theorem il_c1 (ds : List D) (hl : ds.length ≤ 1000) (hr : ds.all isRun = true) : C_is_line_1 [Sl.val (.tuple ds), .un, .un] = some (.ok ((rngL 1 (ds.length : Nat)).map fun d => .bool (chEl ds d)) [Sl.val (.tuple ds), .un, .un]) := by
  have hb1 := rng_len 1 (by omega)
  have hb2 := rng_len ds.length (by omega)
  refine comp_is (ds := rngL 1 (ds.length : Nat)) (ρ1 := [Sl.val (.tuple ds), .un, .un]) (ρe := [Sl.val (.tuple ds), .un, .un]) ?_ (fit_of (by rw [rngL_length]; omega)) ?_
  · exact rng2_is (by simp only [mCons, mCall1, lenD, mPeek, mBind, mPure, mLift, List.getElem?_cons_zero]) hb1 hb2
  refine go_map _ fun x hx => ?_
  obtain ⟨k, rfl, k0, k1⟩ := rngL_mem hx
  have g1 : k.toNat < ds.length := by omega
  have g2 : (k - 1).toNat < ds.length := by omega
  have e1 := getD_get g1
  have e2 := getD_get g2
  obtain ⟨l1, n1, q1, _⟩ := lvl_run (List.all_eq_true.mp hr _ (List.mem_of_getElem? e1))
  obtain ⟨l2, n2, q2, _⟩ := lvl_run (List.all_eq_true.mp hr _ (List.mem_of_getElem? e2))
  have a1 : atI ds k = some (.tuple [.int l1, .int n1]) := atI_nat' (by omega) (by rw [e1, q1])
  have a2 : atI ds (k - 1) = some (.tuple [.int l2, .int n2]) := atI_nat' (by omega) (by rw [e2, q2])
  have a3 : atI [PyData.int l1, .int n1] 0 = some (.int l1) := rfl
  have a4 : atI [PyData.int l2, .int n2] 0 = some (.int l2) := rfl
  refine ⟨[Sl.val (.tuple ds), .val (.int k), .un], [Sl.val (.tuple ds), .val (.int k), .un], by simp [mSeq, mIf, mBol, mBin, mBinL, mBind, mLift, mPure, mPeek, mVar, ixD, iI, bolD, mAsg, mCall1, mCallN, intD, modD, iIc, cMod, mStore, mStoreO, mDone, gSet, mOwn, mPut, setD, mRet, mDrop, mStuck, mTru, truD, mOrT, mAndT, mNotT, mAnd, mOr, mNot, mIsi, isiT_eq, typD, lenD, mCons, mTup, mLst, mLstN, mVal, oOr, addD, subD, mulD, mulI, iIc, cMul, ltD, leD, gtD, geD, gTupD, gCons2, gsNil, mCallV, mCallB, mRs, tupleD, mRetF, mChain, mScr, mScrLen, mScrIx, mMut, appD, max2D, min2D, mRng1, mRng2, rngD1, rngD2, rngOk, mItems, itemsD, mAsgN, mParEE, mParEN, mUn, negD, mCallN1, listD, unsE, powD, cPow, divD, cDiv, mFor, mSl, mSlL, slD, mNoPart, mPart, intO, mSlN, mSlNL, slN, mRevN, revO, mParNC], ?_, by simp [unsE]⟩
  have b1 : lvlAt ds k = l1 := by unfold lvlAt; rw [q1]; rfl
  have b2 : lvlAt ds (k - 1) = l2 := by unfold lvlAt; rw [q2]; rfl
  simp [mSeq, mIf, mBol, mBin, mBinL, mBind, mLift, mPure, mPeek, mVar, ixD, iI, bolD, mAsg, mCall1, mCallN, intD, modD, iIc, cMod, mStore, mStoreO, mDone, gSet, mOwn, mPut, setD, mRet, mDrop, mStuck, mTru, truD, mOrT, mAndT, mNotT, mAnd, mOr, mNot, mIsi, isiT_eq, typD, lenD, mCons, mTup, mLst, mLstN, mVal, oOr, addD, subD, mulD, mulI, iIc, cMul, ltD, leD, gtD, geD, gTupD, gCons2, gsNil, mCallV, mCallB, mRs, tupleD, mRetF, mChain, mScr, mScrLen, mScrIx, mMut, appD, max2D, min2D, mRng1, mRng2, rngD1, rngD2, rngOk, mItems, itemsD, mAsgN, mParEE, mParEN, mUn, negD, mCallN1, listD, unsE, powD, cPow, divD, cDiv, mFor, mSl, mSlL, slD, mNoPart, mPart, intO, mSlN, mSlNL, slN, mRevN, revO, mParNC, a1, a2, a3, a4, ne_int, chEl, b1, b2]
theorem is_line_ok (d : D) (hf : ∀ ds, d = .tuple ds → ds.length ≤ 1000) : fn_is_line [d] = some (.ok (.bool (isLine d))) := by
  cases d with
  | tuple ds =>
    have hl := hf ds rfl
    have c1 := il_c0 ds hl
    by_cases hr : ds.all isRun = true
    · have c2 := il_c1 ds hl hr
      have e : isLine (.tuple ds) = chainB ds := by simp only [isLine, hr, Bool.true_and]
      rw [e]
      simp [fn_is_line, runV, m_is_line, env0, mSeq, mIf, mBol, mBin, mBinL, mBind, mLift, mPure, mPeek, mVar, ixD, iI, bolD, mAsg, mCall1, mCallN, intD, modD, iIc, cMod, mStore, mStoreO, mDone, gSet, mOwn, mPut, setD, mRet, mDrop, mStuck, mTru, truD, mOrT, mAndT, mNotT, mAnd, mOr, mNot, mIsi, isiT_eq, typD, lenD, mCons, mTup, mLst, mLstN, mVal, oOr, addD, subD, mulD, mulI, iIc, cMul, ltD, leD, gtD, geD, gTupD, gCons2, gsNil, mCallV, mCallB, mRs, tupleD, mRetF, mChain, mScr, mScrLen, mScrIx, mMut, appD, max2D, min2D, mRng1, mRng2, rngD1, rngD2, rngOk, mItems, itemsD, mAsgN, mParEE, mParEN, mUn, negD, mCallN1, listD, unsE, powD, cPow, divD, cDiv, mFor, mSl, mSlL, slD, mNoPart, mPart, intO, mSlN, mSlNL, slN, mRevN, revO, mParNC, isi_int_NoneType, isi_int_bool, isi_int_int, isi_int_str, isi_int_list, isi_int_tuple, isi_int_dict, isi_bool_NoneType, isi_bool_bool, isi_bool_int, isi_bool_str, isi_bool_list, isi_bool_tuple, isi_bool_dict, isi_str_NoneType, isi_str_bool, isi_str_int, isi_str_str, isi_str_list, isi_str_tuple, isi_str_dict, isi_list_NoneType, isi_list_bool, isi_list_int, isi_list_str, isi_list_list, isi_list_tuple, isi_list_dict, isi_tuple_NoneType, isi_tuple_bool, isi_tuple_int, isi_tuple_str, isi_tuple_list, isi_tuple_tuple, isi_tuple_dict, isi_dict_NoneType, isi_dict_bool, isi_dict_int, isi_dict_str, isi_dict_list, isi_dict_tuple, isi_dict_dict, c1, c2, allD_mapf (chEl ds), allD_mapf isRun, hr, chainB]
    · have hr' : ds.all isRun = false := Bool.eq_false_iff.mpr hr
      have e : isLine (.tuple ds) = false := by simp only [isLine, hr', Bool.false_and]
      rw [e]
      simp [fn_is_line, runV, m_is_line, env0, mSeq, mIf, mBol, mBin, mBinL, mBind, mLift, mPure, mPeek, mVar, ixD, iI, bolD, mAsg, mCall1, mCallN, intD, modD, iIc, cMod, mStore, mStoreO, mDone, gSet, mOwn, mPut, setD, mRet, mDrop, mStuck, mTru, truD, mOrT, mAndT, mNotT, mAnd, mOr, mNot, mIsi, isiT_eq, typD, lenD, mCons, mTup, mLst, mLstN, mVal, oOr, addD, subD, mulD, mulI, iIc, cMul, ltD, leD, gtD, geD, gTupD, gCons2, gsNil, mCallV, mCallB, mRs, tupleD, mRetF, mChain, mScr, mScrLen, mScrIx, mMut, appD, max2D, min2D, mRng1, mRng2, rngD1, rngD2, rngOk, mItems, itemsD, mAsgN, mParEE, mParEN, mUn, negD, mCallN1, listD, unsE, powD, cPow, divD, cDiv, mFor, mSl, mSlL, slD, mNoPart, mPart, intO, mSlN, mSlNL, slN, mRevN, revO, mParNC, isi_int_NoneType, isi_int_bool, isi_int_int, isi_int_str, isi_int_list, isi_int_tuple, isi_int_dict, isi_bool_NoneType, isi_bool_bool, isi_bool_int, isi_bool_str, isi_bool_list, isi_bool_tuple, isi_bool_dict, isi_str_NoneType, isi_str_bool, isi_str_int, isi_str_str, isi_str_list, isi_str_tuple, isi_str_dict, isi_list_NoneType, isi_list_bool, isi_list_int, isi_list_str, isi_list_list, isi_list_tuple, isi_list_dict, isi_tuple_NoneType, isi_tuple_bool, isi_tuple_int, isi_tuple_str, isi_tuple_list, isi_tuple_tuple, isi_tuple_dict, isi_dict_NoneType, isi_dict_bool, isi_dict_int, isi_dict_str, isi_dict_list, isi_dict_tuple, isi_dict_dict, c1, allD_mapf isRun, hr']
  | _ => simp [fn_is_line, runV, m_is_line, env0, mSeq, mIf, mBol, mBin, mBinL, mBind, mLift, mPure, mPeek, mVar, ixD, iI, bolD, mAsg, mCall1, mCallN, intD, modD, iIc, cMod, mStore, mStoreO, mDone, gSet, mOwn, mPut, setD, mRet, mDrop, mStuck, mTru, truD, mOrT, mAndT, mNotT, mAnd, mOr, mNot, mIsi, isiT_eq, typD, lenD, mCons, mTup, mLst, mLstN, mVal, oOr, addD, subD, mulD, mulI, iIc, cMul, ltD, leD, gtD, geD, gTupD, gCons2, gsNil, mCallV, mCallB, mRs, tupleD, mRetF, mChain, mScr, mScrLen, mScrIx, mMut, appD, max2D, min2D, mRng1, mRng2, rngD1, rngD2, rngOk, mItems, itemsD, mAsgN, mParEE, mParEN, mUn, negD, mCallN1, listD, unsE, powD, cPow, divD, cDiv, mFor, mSl, mSlL, slD, mNoPart, mPart, intO, mSlN, mSlNL, slN, mRevN, revO, mParNC, isi_int_NoneType, isi_int_bool, isi_int_int, isi_int_str, isi_int_list, isi_int_tuple, isi_int_dict, isi_bool_NoneType, isi_bool_bool, isi_bool_int, isi_bool_str, isi_bool_list, isi_bool_tuple, isi_bool_dict, isi_str_NoneType, isi_str_bool, isi_str_int, isi_str_str, isi_str_list, isi_str_tuple, isi_str_dict, isi_list_NoneType, isi_list_bool, isi_list_int, isi_list_str, isi_list_list, isi_list_tuple, isi_list_dict, isi_tuple_NoneType, isi_tuple_bool, isi_tuple_int, isi_tuple_str, isi_tuple_list, isi_tuple_tuple, isi_tuple_dict, isi_dict_NoneType, isi_dict_bool, isi_dict_int, isi_dict_str, isi_dict_list, isi_dict_tuple, isi_dict_dict, isLine]
theorem is_run_pair {r : Pr} (h : (r.1 = 0 ∨ r.1 = 1) ∧ 1 ≤ r.2) : isRun (pairD r) = true := by
  show (decide (0 ≤ r.1) && decide (r.1 ≤ 1) && decide (1 ≤ r.2)) = true
  rw [Bool.and_eq_true, Bool.and_eq_true, decide_eq_true_eq, decide_eq_true_eq, decide_eq_true_eq]
  omega
theorem alt_at : ∀ {rs : List Pr}, Alt rs → ∀ {i : Nat} {a b : Pr}, rs[i]? = some a → rs[i + 1]? = some b → b.1 ≠ a.1
  | [], _, i, a, b, h, _ => by simp at h
  | r :: rs, h, 0, a, b, h1, h2 => by
    simp at h1
    subst h1
    refine h.1 b ?_
    rw [List.head?_eq_getElem?]
    simpa using h2
  | r :: rs, h, i + 1, a, b, h1, h2 => alt_at h.2 (i := i) (by simpa using h1) (by simpa using h2)
theorem is_line_gd {rs : List Pr} (h : Gd rs) : isLine (.tuple (rs.map pairD)) = true := by
  show ((rs.map pairD).all isRun && chainB (rs.map pairD)) = true
  rw [Bool.and_eq_true, List.all_eq_true]
  refine ⟨fun d hd => ?_, ?_⟩
  · obtain ⟨r, hr, rfl⟩ := List.mem_map.mp hd
    exact is_run_pair (h.1 r hr)
  · unfold chainB
    rw [List.all_eq_true]
    intro d hd
    obtain ⟨i, rfl, i0, i1⟩ := rngL_mem hd
    rw [List.length_map] at i1
    show (!decide (lvlAt (rs.map pairD) i = lvlAt (rs.map pairD) (i - 1))) = true
    rw [Bool.not_eq_true', decide_eq_false_iff_not]
    obtain ⟨j, hj⟩ : ∃ j : Nat, i = ((j + 1 : Nat) : Int) := ⟨(i - 1).toNat, by omega⟩
    subst hj
    have e1 : (((j + 1 : Nat) : Int)).toNat = j + 1 := by omega
    have e2 : (((j + 1 : Nat) : Int) - 1).toNat = j := by omega
    have l1 : j + 1 < rs.length := by omega
    have g1 : rs[j + 1]? = some rs[j + 1] := List.getElem?_eq_getElem l1
    have g2 : rs[j]? = some rs[j] := List.getElem?_eq_getElem (by omega)
    have q : ∀ k : Nat, ∀ (a : Pr), rs[k]? = some a → lvl ((rs.map pairD).getD k .none) = a.1 := fun k a e => by
      rw [List.getD_eq_getElem?_getD, List.getElem?_map, e]; rfl
    unfold lvlAt
    rw [e1, e2, q _ _ g1, q _ _ g2]
    exact alt_at h.2 g2 g1
theorem is_line_true {rs : List Pr} (h : Gd rs) (hl : rs.length ≤ 1000) : fn_is_line [.tuple (rs.map pairD)] = some (.ok (.bool true)) := by
  rw [is_line_ok _ (fun ds e => by cases e; rw [List.length_map]; exact hl), is_line_gd h]

/-! ### lines -/
theorem items_tp (ps : List Pr) : itemsD (.tuple (ps.map pairD)) = some (ps.map pairD) := rfl
theorem long_of_ok {rs : List Pr} (hl : rs.length ≤ 1000) : fn_long_of [.tuple (rs.map pairD)] = some (.ok (.int (tot rs))) := by
  obtain ⟨bl, hbl⟩ : ∃ bl : List Int, bl = rs.map fun s => s.2 := ⟨_, rfl⟩
  have h : C_long_of_0 [.val (.tuple (rs.map pairD)), .un, .un] = some (.ok (bl.map PyData.int) [.val (.tuple (rs.map pairD)), .un, .un]) := by
    have e : bl.map PyData.int = rs.map fun s => PyData.int s.2 := by rw [hbl, List.map_map]; rfl
    rw [e]
    refine comp_is (ds := rs.map pairD) (ρ1 := [.val (.tuple (rs.map pairD)), .un, .un]) (ρe := [.val (.tuple (rs.map pairD)), .un, .un]) (by simp [mSeq, mIf, mBol, mBin, mBinL, mBind, mLift, mPure, mPeek, mVar, ixD, iI, bolD, mAsg, mCall1, mCallN, intD, modD, iIc, cMod, mStore, mStoreO, mDone, gSet, mOwn, mPut, setD, mRet, mDrop, mStuck, mTru, truD, mOrT, mAndT, mNotT, mAnd, mOr, mNot, mIsi, isiT_eq, typD, lenD, mCons, mTup, mLst, mLstN, mVal, oOr, addD, subD, mulD, mulI, iIc, cMul, ltD, leD, gtD, geD, gTupD, gCons2, gsNil, mCallV, mCallB, mRs, tupleD, mRetF, mChain, mScr, mScrLen, mScrIx, mMut, appD, max2D, min2D, mRng1, mRng2, rngD1, rngD2, rngOk, mItems, itemsD, mAsgN, mParEE, mParEN, mUn, negD, mCallN1, listD, unsE, powD, cPow, divD, cDiv, mFor, mSl, mSlL, slD, mNoPart, mPart, intO, mSlN, mSlNL, slN, mRevN, revO, mParNC]) (fit_of2 (by rw [List.length_map]; omega)) ?_
    refine go_mapA pairD (fun s => PyData.int s.2) rs fun s _ => ?_
    obtain ⟨a, b⟩ := s
    exact ⟨[.val (.tuple (rs.map pairD)), .val (.int a), .val (.int b)], [.val (.tuple (rs.map pairD)), .val (.int a), .val (.int b)], by simp [mSeq, mIf, mBol, mBin, mBinL, mBind, mLift, mPure, mPeek, mVar, ixD, iI, bolD, mAsg, mCall1, mCallN, intD, modD, iIc, cMod, mStore, mStoreO, mDone, gSet, mOwn, mPut, setD, mRet, mDrop, mStuck, mTru, truD, mOrT, mAndT, mNotT, mAnd, mOr, mNot, mIsi, isiT_eq, typD, lenD, mCons, mTup, mLst, mLstN, mVal, oOr, addD, subD, mulD, mulI, iIc, cMul, ltD, leD, gtD, geD, gTupD, gCons2, gsNil, mCallV, mCallB, mRs, tupleD, mRetF, mChain, mScr, mScrLen, mScrIx, mMut, appD, max2D, min2D, mRng1, mRng2, rngD1, rngD2, rngOk, mItems, itemsD, mAsgN, mParEE, mParEN, mUn, negD, mCallN1, listD, unsE, powD, cPow, divD, cDiv, mFor, mSl, mSlL, slD, mNoPart, mPart, intO, mSlN, mSlNL, slN, mRevN, revO, mParNC, gNamesD, pairD], by simp [mSeq, mIf, mBol, mBin, mBinL, mBind, mLift, mPure, mPeek, mVar, ixD, iI, bolD, mAsg, mCall1, mCallN, intD, modD, iIc, cMod, mStore, mStoreO, mDone, gSet, mOwn, mPut, setD, mRet, mDrop, mStuck, mTru, truD, mOrT, mAndT, mNotT, mAnd, mOr, mNot, mIsi, isiT_eq, typD, lenD, mCons, mTup, mLst, mLstN, mVal, oOr, addD, subD, mulD, mulI, iIc, cMul, ltD, leD, gtD, geD, gTupD, gCons2, gsNil, mCallV, mCallB, mRs, tupleD, mRetF, mChain, mScr, mScrLen, mScrIx, mMut, appD, max2D, min2D, mRng1, mRng2, rngD1, rngD2, rngOk, mItems, itemsD, mAsgN, mParEE, mParEN, mUn, negD, mCallN1, listD, unsE, powD, cPow, divD, cDiv, mFor, mSl, mSlL, slD, mNoPart, mPart, intO, mSlN, mSlNL, slN, mRevN, revO, mParNC], by simp [unsE]⟩
  have e : ∀ rs : List Pr, tot rs = (rs.map fun s => s.2).sum := fun rs => by
    induction rs with
    | nil => rfl
    | cons r rs ih => show r.2 + tot rs = _; rw [ih]; rfl
  simp [fn_long_of, runV, m_long_of, env0, mSeq, mIf, mBol, mBin, mBinL, mBind, mLift, mPure, mPeek, mVar, ixD, iI, bolD, mAsg, mCall1, mCallN, intD, modD, iIc, cMod, mStore, mStoreO, mDone, gSet, mOwn, mPut, setD, mRet, mDrop, mStuck, mTru, truD, mOrT, mAndT, mNotT, mAnd, mOr, mNot, mIsi, isiT_eq, typD, lenD, mCons, mTup, mLst, mLstN, mVal, oOr, addD, subD, mulD, mulI, iIc, cMul, ltD, leD, gtD, geD, gTupD, gCons2, gsNil, mCallV, mCallB, mRs, tupleD, mRetF, mChain, mScr, mScrLen, mScrIx, mMut, appD, max2D, min2D, mRng1, mRng2, rngD1, rngD2, rngOk, mItems, itemsD, mAsgN, mParEE, mParEN, mUn, negD, mCallN1, listD, unsE, powD, cPow, divD, cDiv, mFor, mSl, mSlL, slD, mNoPart, mPart, intO, mSlN, mSlNL, slN, mRevN, revO, mParNC, h, e rs, ← hbl, sumD, toInts_map]
def endsP : Int → List Pr → List Int
  | _, [] => []
  | a, r :: rs => (a + r.2) :: endsP (a + r.2) rs
theorem ends_len : ∀ (rs : List Pr) (a : Int), (endsP a rs).length = rs.length
  | [], _ => rfl
  | r :: rs, a => by show (endsP (a + r.2) rs).length + 1 = rs.length + 1; rw [ends_len rs]
theorem ends_loop {P : D} : ∀ (rs : List Pr) (F : List D) (a : Int) (u v : Sl), F.length + rs.length ≤ 16000000 → ∃ a' u' v',
    mForL (gTupD 2 (gCons2 (mStore 3) (gCons2 (mStore 4) gsNil))) L_ends_of_0 (rs.map pairD) [.val P, .own F, .val (.int a), u, v] = some (.ok .nx [.val P, .own (F ++ (endsP a rs).map PyData.int), a', u', v'])
  | [], F, a, u, v, _ => ⟨.val (.int a), u, v, by show some _ = some _; rw [endsP, List.map_nil, List.append_nil]⟩
  | (b, e) :: rs, F, a, u, v, hl => by
    simp only [List.length_cons] at hl
    have h1 : gTupD 2 (gCons2 (mStore 3) (gCons2 (mStore 4) gsNil)) (pairD (b, e)) [.val P, .own F, .val (.int a), u, v] = some (.ok () [.val P, .own F, .val (.int a), .val (.int b), .val (.int e)]) := by
      simp [pairD, mSeq, mIf, mBol, mBin, mBinL, mBind, mLift, mPure, mPeek, mVar, ixD, iI, bolD, mAsg, mCall1, mCallN, intD, modD, iIc, cMod, mStore, mStoreO, mDone, gSet, mOwn, mPut, setD, mRet, mDrop, mStuck, mTru, truD, mOrT, mAndT, mNotT, mAnd, mOr, mNot, mIsi, isiT_eq, typD, lenD, mCons, mTup, mLst, mLstN, mVal, oOr, addD, subD, mulD, mulI, iIc, cMul, ltD, leD, gtD, geD, gTupD, gCons2, gsNil, mCallV, mCallB, mRs, tupleD, mRetF, mChain, mScr, mScrLen, mScrIx, mMut, appD, max2D, min2D, mRng1, mRng2, rngD1, rngD2, rngOk, mItems, itemsD, mAsgN, mParEE, mParEN, mUn, negD, mCallN1, listD, unsE, powD, cPow, divD, cDiv, mFor, mSl, mSlL, slD, mNoPart, mPart, intO, mSlN, mSlNL, slN, mRevN, revO, mParNC]
    have hF : F.length ≤ 16000000 := by omega
    have h2 : L_ends_of_0 [.val P, .own F, .val (.int a), .val (.int b), .val (.int e)] = some (.ok .nx [.val P, .own (F ++ [.int (a + e)]), .val (.int (a + e)), .val (.int b), .val (.int e)]) := by
      simp [L_ends_of_0, mSeq, mIf, mBol, mBin, mBinL, mBind, mLift, mPure, mPeek, mVar, ixD, iI, bolD, mAsg, mCall1, mCallN, intD, modD, iIc, cMod, mStore, mStoreO, mDone, gSet, mOwn, mPut, setD, mRet, mDrop, mStuck, mTru, truD, mOrT, mAndT, mNotT, mAnd, mOr, mNot, mIsi, isiT_eq, typD, lenD, mCons, mTup, mLst, mLstN, mVal, oOr, addD, subD, mulD, mulI, iIc, cMul, ltD, leD, gtD, geD, gTupD, gCons2, gsNil, mCallV, mCallB, mRs, tupleD, mRetF, mChain, mScr, mScrLen, mScrIx, mMut, appD, max2D, min2D, mRng1, mRng2, rngD1, rngD2, rngOk, mItems, itemsD, mAsgN, mParEE, mParEN, mUn, negD, mCallN1, listD, unsE, powD, cPow, divD, cDiv, mFor, mSl, mSlL, slD, mNoPart, mPart, intO, mSlN, mSlNL, slN, mRevN, revO, mParNC, mAug, fit, hF]
    obtain ⟨a', u', v', h3⟩ := ends_loop (P := P) rs (F ++ [.int (a + e)]) (a + e) (.val (.int b)) (.val (.int e)) (by rw [List.length_append, List.length_singleton]; omega)
    refine ⟨a', u', v', ?_⟩
    rw [List.map_cons]
    unfold mForL
    rw [bind_is h1, bind_is h2]
    rw [List.append_assoc] at h3
    exact h3
theorem ends_of_ok {rs : List Pr} (hl : rs.length ≤ 1000) : fn_ends_of [.tuple (rs.map pairD)] = some (.ok (.list ((endsP 0 rs).map PyData.int))) := by
  obtain ⟨a, u, v, h⟩ := ends_loop (P := .tuple (rs.map pairD)) rs [] 0 .un .un (by simp only [List.length_nil]; omega)
  have hR : R_ends_of_0 [.val (.tuple (rs.map pairD)), .own [], .val (.int 0), .un, .un] = some (.ok .nx [.val (.tuple (rs.map pairD)), .own ((endsP 0 rs).map PyData.int), a, u, v]) := by
    unfold R_ends_of_0 mFor
    have e : mItems (mVar 0) [.val (.tuple (rs.map pairD)), .own [], .val (.int 0), .un, .un] = some (.ok (rs.map pairD) [.val (.tuple (rs.map pairD)), .own [], .val (.int 0), .un, .un]) := rfl
    rw [bind_is e]
    exact h
  obtain ⟨es, hes⟩ : ∃ es, es = (endsP 0 rs).map PyData.int := ⟨_, rfl⟩
  rw [← hes] at hR ⊢
  simp [fn_ends_of, runV, m_ends_of, env0, mSeq, mIf, mBol, mBin, mBinL, mBind, mLift, mPure, mPeek, mVar, ixD, iI, bolD, mAsg, mCall1, mCallN, intD, modD, iIc, cMod, mStore, mStoreO, mDone, gSet, mOwn, mPut, setD, mRet, mDrop, mStuck, mTru, truD, mOrT, mAndT, mNotT, mAnd, mOr, mNot, mIsi, isiT_eq, typD, lenD, mCons, mTup, mLst, mLstN, mVal, oOr, addD, subD, mulD, mulI, iIc, cMul, ltD, leD, gtD, geD, gTupD, gCons2, gsNil, mCallV, mCallB, mRs, tupleD, mRetF, mChain, mScr, mScrLen, mScrIx, mMut, appD, max2D, min2D, mRng1, mRng2, rngD1, rngD2, rngOk, mItems, itemsD, mAsgN, mParEE, mParEN, mUn, negD, mCallN1, listD, unsE, powD, cPow, divD, cDiv, mFor, mSl, mSlL, slD, mNoPart, mPart, intO, mSlN, mSlNL, slN, mRevN, revO, mParNC, hR, fit]
theorem ends_at : ∀ {rs : List Pr} {a : Int} {i : Nat}, i < rs.length → (endsP a rs)[i]? = some (a + tot (rs.take (i + 1)))
  | [], a, i, h => by simp at h
  | r :: rs, a, 0, h => by show some (a + r.2) = some (a + (r.2 + 0)); rw [Int.add_zero]
  | r :: rs, a, i + 1, h => by
    show (endsP (a + r.2) rs)[i]? = some (a + (r.2 + tot (rs.take (i + 1))))
    rw [ends_at (by simpa using h), Int.add_assoc]
theorem lv_at : ∀ {rs : List Pr} {m : Int} {i : Nat} {r : Pr}, Gd rs → rs[i]? = some r → tot (rs.take i) ≤ m → m < tot (rs.take (i + 1)) → lv rs m = some r.1
  | [], m, i, r, _, h, _, _ => by simp at h
  | s :: rs, m, 0, r, g, h, h0, h1 => by
    simp at h
    subst h
    have h1' : m < s.2 + 0 := h1
    exact lv_hd h0 (by omega)
  | s :: rs, m, i + 1, r, g, h, h0, h1 => by
    have s2 := g.hd.2
    have h0' : s.2 + tot (rs.take i) ≤ m := h0
    have h1' : m < s.2 + tot (rs.take (i + 1)) := h1
    have t0 : 0 ≤ tot (rs.take i) := by
      have : ∀ (qs : List Pr), (∀ q ∈ qs, 1 ≤ q.2) → 0 ≤ tot qs := fun qs => by
        induction qs with
        | nil => intro _; exact Int.le_refl _
        | cons q qs ih => intro hq; have := hq q List.mem_cons_self; have := ih fun x hx => hq x (List.mem_cons_of_mem _ hx); show 0 ≤ q.2 + tot qs; omega
      exact this _ fun q hq => (g.tail.1 q (List.mem_of_mem_take hq)).2
    rw [lv_tl (by omega) (by omega)]
    exact lv_at g.tail (by simpa using h) (by omega) (by omega)
theorem lby_turn {P : D} {es : List Int} {m : Int} : ∀ (n lo hi : Nat) (u : Sl), lo ≤ hi → hi < es.length → hi - lo < n → (lo = 0 ∨ ∃ x, es[lo - 1]? = some x ∧ x ≤ m) → (∀ x, es[hi]? = some x → m < x) → ∃ i u', i < es.length ∧ (i = 0 ∨ ∃ x, es[i - 1]? = some x ∧ x ≤ m) ∧ (∀ x, es[i]? = some x → m < x) ∧
    mWhileN (mBol (mBinL ltD 3 (mPeek 4))) L_level_by_0 n [.val P, .val (.list (es.map PyData.int)), .val (.int m), .val (.int (lo : Nat)), .val (.int (hi : Nat)), u] = some (.ok .nx [.val P, .val (.list (es.map PyData.int)), .val (.int m), .val (.int (i : Nat)), .val (.int (i : Nat)), u'])
  | 0, lo, hi, u, _, _, h, _, _ => by omega
  | n + 1, lo, hi, u, h1, h2, h3, h4, h5 => by
    by_cases c : lo < hi
    · have hc : mBol (mBinL ltD 3 (mPeek 4)) [.val P, .val (.list (es.map PyData.int)), .val (.int m), .val (.int (lo : Nat)), .val (.int (hi : Nat)), u] = some (.ok true [.val P, .val (.list (es.map PyData.int)), .val (.int m), .val (.int (lo : Nat)), .val (.int (hi : Nat)), u]) := by
        simp [mSeq, mIf, mBol, mBin, mBinL, mBind, mLift, mPure, mPeek, mVar, ixD, iI, bolD, mAsg, mCall1, mCallN, intD, modD, iIc, cMod, mStore, mStoreO, mDone, gSet, mOwn, mPut, setD, mRet, mDrop, mStuck, mTru, truD, mOrT, mAndT, mNotT, mAnd, mOr, mNot, mIsi, isiT_eq, typD, lenD, mCons, mTup, mLst, mLstN, mVal, oOr, addD, subD, mulD, mulI, iIc, cMul, ltD, leD, gtD, geD, gTupD, gCons2, gsNil, mCallV, mCallB, mRs, tupleD, mRetF, mChain, mScr, mScrLen, mScrIx, mMut, appD, max2D, min2D, mRng1, mRng2, rngD1, rngD2, rngOk, mItems, itemsD, mAsgN, mParEE, mParEN, mUn, negD, mCallN1, listD, unsE, powD, cPow, divD, cDiv, mFor, mSl, mSlL, slD, mNoPart, mPart, intO, mSlN, mSlNL, slN, mRevN, revO, mParNC, c]
      obtain ⟨k, hk⟩ : ∃ k : Nat, ((lo : Int) + (hi : Int)) / 2 = (k : Int) := ⟨(lo + hi) / 2, by omega⟩
      have k0 : lo ≤ k := by omega
      have k1 : k < hi := by omega
      have ek : es[k]? = some es[k] := List.getElem?_eq_getElem (by omega)
      have ea : atI (es.map PyData.int) (k : Int) = some (.int es[k]) := atI_nat' (by omega) (by rw [Int.toNat_natCast, List.getElem?_map, ek]; rfl)
      by_cases q : m < es[k]
      · obtain ⟨i, u', r1, r2, r3, r4⟩ := lby_turn (P := P) (m := m) n lo k (.val (.int (k : Nat))) k0 (by omega) (by omega) h4 fun x hx => by rw [ek] at hx; cases hx; exact q
        refine ⟨i, u', r1, r2, r3, ?_⟩
        have hb : L_level_by_0 [.val P, .val (.list (es.map PyData.int)), .val (.int m), .val (.int (lo : Nat)), .val (.int (hi : Nat)), u] = some (.ok .nx [.val P, .val (.list (es.map PyData.int)), .val (.int m), .val (.int (lo : Nat)), .val (.int (k : Nat)), .val (.int (k : Nat))]) := by
          simp [L_level_by_0, mSeq, mIf, mBol, mBin, mBinL, mBind, mLift, mPure, mPeek, mVar, ixD, iI, bolD, mAsg, mCall1, mCallN, intD, modD, iIc, cMod, mStore, mStoreO, mDone, gSet, mOwn, mPut, setD, mRet, mDrop, mStuck, mTru, truD, mOrT, mAndT, mNotT, mAnd, mOr, mNot, mIsi, isiT_eq, typD, lenD, mCons, mTup, mLst, mLstN, mVal, oOr, addD, subD, mulD, mulI, iIc, cMul, ltD, leD, gtD, geD, gTupD, gCons2, gsNil, mCallV, mCallB, mRs, tupleD, mRetF, mChain, mScr, mScrLen, mScrIx, mMut, appD, max2D, min2D, mRng1, mRng2, rngD1, rngD2, rngOk, mItems, itemsD, mAsgN, mParEE, mParEN, mUn, negD, mCallN1, listD, unsE, powD, cPow, divD, cDiv, mFor, mSl, mSlL, slD, mNoPart, mPart, intO, mSlN, mSlNL, slN, mRevN, revO, mParNC, hk, ea, q]
        unfold mWhileN
        rw [bind_is hc, if_pos rfl, bind_is hb]
        exact r4
      · obtain ⟨i, u', r1, r2, r3, r4⟩ := lby_turn (P := P) (m := m) n (k + 1) hi (.val (.int (k : Nat))) (by omega) h2 (by omega) (.inr ⟨es[k], ek, by omega⟩) h5
        refine ⟨i, u', r1, r2, r3, ?_⟩
        have hb : L_level_by_0 [.val P, .val (.list (es.map PyData.int)), .val (.int m), .val (.int (lo : Nat)), .val (.int (hi : Nat)), u] = some (.ok .nx [.val P, .val (.list (es.map PyData.int)), .val (.int m), .val (.int ((k + 1 : Nat) : Int)), .val (.int (hi : Nat)), .val (.int (k : Nat))]) := by
          simp [L_level_by_0, mSeq, mIf, mBol, mBin, mBinL, mBind, mLift, mPure, mPeek, mVar, ixD, iI, bolD, mAsg, mCall1, mCallN, intD, modD, iIc, cMod, mStore, mStoreO, mDone, gSet, mOwn, mPut, setD, mRet, mDrop, mStuck, mTru, truD, mOrT, mAndT, mNotT, mAnd, mOr, mNot, mIsi, isiT_eq, typD, lenD, mCons, mTup, mLst, mLstN, mVal, oOr, addD, subD, mulD, mulI, iIc, cMul, ltD, leD, gtD, geD, gTupD, gCons2, gsNil, mCallV, mCallB, mRs, tupleD, mRetF, mChain, mScr, mScrLen, mScrIx, mMut, appD, max2D, min2D, mRng1, mRng2, rngD1, rngD2, rngOk, mItems, itemsD, mAsgN, mParEE, mParEN, mUn, negD, mCallN1, listD, unsE, powD, cPow, divD, cDiv, mFor, mSl, mSlL, slD, mNoPart, mPart, intO, mSlN, mSlNL, slN, mRevN, revO, mParNC, hk, ea, q]
        unfold mWhileN
        rw [bind_is hc, if_pos rfl, bind_is hb]
        exact r4
    · have hc : mBol (mBinL ltD 3 (mPeek 4)) [.val P, .val (.list (es.map PyData.int)), .val (.int m), .val (.int (lo : Nat)), .val (.int (hi : Nat)), u] = some (.ok false [.val P, .val (.list (es.map PyData.int)), .val (.int m), .val (.int (lo : Nat)), .val (.int (hi : Nat)), u]) := by
        simp [mSeq, mIf, mBol, mBin, mBinL, mBind, mLift, mPure, mPeek, mVar, ixD, iI, bolD, mAsg, mCall1, mCallN, intD, modD, iIc, cMod, mStore, mStoreO, mDone, gSet, mOwn, mPut, setD, mRet, mDrop, mStuck, mTru, truD, mOrT, mAndT, mNotT, mAnd, mOr, mNot, mIsi, isiT_eq, typD, lenD, mCons, mTup, mLst, mLstN, mVal, oOr, addD, subD, mulD, mulI, iIc, cMul, ltD, leD, gtD, geD, gTupD, gCons2, gsNil, mCallV, mCallB, mRs, tupleD, mRetF, mChain, mScr, mScrLen, mScrIx, mMut, appD, max2D, min2D, mRng1, mRng2, rngD1, rngD2, rngOk, mItems, itemsD, mAsgN, mParEE, mParEN, mUn, negD, mCallN1, listD, unsE, powD, cPow, divD, cDiv, mFor, mSl, mSlL, slD, mNoPart, mPart, intO, mSlN, mSlNL, slN, mRevN, revO, mParNC, c]
      have e : hi = lo := by omega
      subst e
      refine ⟨hi, u, h2, h4, h5, ?_⟩
      unfold mWhileN
      rw [bind_is hc, if_neg (by decide)]; rfl
theorem level_by_ok {rs : List Pr} {m l : Int} (g : Gd rs) (hl : rs.length ≤ 900) (e : lv rs m = some l) : fn_level_by [.tuple (rs.map pairD), .list ((endsP 0 rs).map PyData.int), .int m] = some (.ok (.int l)) := by
  obtain ⟨m0, m1⟩ := lv_range g e
  have hne : 0 < rs.length := by
    cases rs with
    | nil => simp [tot] at m1; omega
    | cons r rs => simp
  have hel := ends_len rs 0
  obtain ⟨i, u, i0, i1, i2, h⟩ := lby_turn (P := .tuple (rs.map pairD)) (es := endsP 0 rs) (m := m) 1000 0 (rs.length - 1) .un (by omega) (by omega) (by omega) (.inl rfl) fun x hx => by
    rw [ends_at (by omega), show rs.length - 1 + 1 = rs.length by omega, List.take_length] at hx
    have := Option.some.inj hx
    omega
  rw [hel] at i0
  have er : rs[i]? = some rs[i] := List.getElem?_eq_getElem i0
  have e2 : lv rs m = some rs[i].1 := by
    refine lv_at g er ?_ ?_
    · rcases i1 with i1 | ⟨x, hx, hx2⟩
      · subst i1; exact m0
      · cases i with
        | zero => exact m0
        | succ i =>
          rw [show i + 1 - 1 = i by omega, ends_at (by omega)] at hx
          have := Option.some.inj hx
          omega
    · have := i2 _ (ends_at i0)
      omega
  have el : l = rs[i].1 := by rw [e] at e2; exact Option.some.inj e2
  have ea : atI (rs.map pairD) (i : Int) = some (.tuple [.int rs[i].1, .int rs[i].2]) := atI_nat' (by omega) (by rw [Int.toNat_natCast, List.getElem?_map, er]; rfl)
  have e0 : atI [PyData.int rs[i].1, .int rs[i].2] 0 = some (.int rs[i].1) := rfl
  have hR : R_level_by_0 [.val (.tuple (rs.map pairD)), .val (.list ((endsP 0 rs).map PyData.int)), .val (.int m), .val (.int 0), .val (.int ((rs.length : Int) - 1)), .un] = some (.ok .nx [.val (.tuple (rs.map pairD)), .val (.list ((endsP 0 rs).map PyData.int)), .val (.int m), .val (.int (i : Nat)), .val (.int (i : Nat)), u]) := by
    have ec : ((rs.length : Int) - 1) = ((rs.length - 1 : Nat) : Int) := by omega
    rw [ec]
    exact h
  have hel2 : ((endsP 0 rs).length : Int) = (rs.length : Int) := by rw [hel]
  rw [el]
  generalize endsP 0 rs = es at *
  simp [fn_level_by, runV, m_level_by, env0, mSeq, mIf, mBol, mBin, mBinL, mBind, mLift, mPure, mPeek, mVar, ixD, iI, bolD, mAsg, mCall1, mCallN, intD, modD, iIc, cMod, mStore, mStoreO, mDone, gSet, mOwn, mPut, setD, mRet, mDrop, mStuck, mTru, truD, mOrT, mAndT, mNotT, mAnd, mOr, mNot, mIsi, isiT_eq, typD, lenD, mCons, mTup, mLst, mLstN, mVal, oOr, addD, subD, mulD, mulI, iIc, cMul, ltD, leD, gtD, geD, gTupD, gCons2, gsNil, mCallV, mCallB, mRs, tupleD, mRetF, mChain, mScr, mScrLen, mScrIx, mMut, appD, max2D, min2D, mRng1, mRng2, rngD1, rngD2, rngOk, mItems, itemsD, mAsgN, mParEE, mParEN, mUn, negD, mCallN1, listD, unsE, powD, cPow, divD, cDiv, mFor, mSl, mSlL, slD, mNoPart, mPart, intO, mSlN, mSlNL, slN, mRevN, revO, mParNC, hel2, hR, ea, e0]
theorem level_at_ok {rs : List Pr} {m l : Int} (g : Gd rs) (hl : rs.length ≤ 900) (e : lv rs m = some l) : fn_level_at [.tuple (rs.map pairD), .int m] = some (.ok (.int l)) := by
  obtain ⟨m0, m1⟩ := lv_range g e
  have h1 := long_of_ok (rs := rs) (by omega)
  have h2 := ends_of_ok (rs := rs) (by omega)
  have h3 := level_by_ok g hl e
  generalize (endsP 0 rs).map PyData.int = es at *
  simp [fn_level_at, runV, m_level_at, env0, mSeq, mIf, mBol, mBin, mBinL, mBind, mLift, mPure, mPeek, mVar, ixD, iI, bolD, mAsg, mCall1, mCallN, intD, modD, iIc, cMod, mStore, mStoreO, mDone, gSet, mOwn, mPut, setD, mRet, mDrop, mStuck, mTru, truD, mOrT, mAndT, mNotT, mAnd, mOr, mNot, mIsi, isiT_eq, typD, lenD, mCons, mTup, mLst, mLstN, mVal, oOr, addD, subD, mulD, mulI, iIc, cMul, ltD, leD, gtD, geD, gTupD, gCons2, gsNil, mCallV, mCallB, mRs, tupleD, mRetF, mChain, mScr, mScrLen, mScrIx, mMut, appD, max2D, min2D, mRng1, mRng2, rngD1, rngD2, rngOk, mItems, itemsD, mAsgN, mParEE, mParEN, mUn, negD, mCallN1, listD, unsE, powD, cPow, divD, cDiv, mFor, mSl, mSlL, slD, mNoPart, mPart, intO, mSlN, mSlNL, slN, mRevN, revO, mParNC, h1, h2, h3, m0, m1]
theorem highs_loop {P : D} : ∀ (rs F : List Pr) (a : Int) (u v : Sl), F.length + rs.length ≤ 16000000 → ∃ a' u' v',
    mForL (gTupD 2 (gCons2 (mStore 3) (gCons2 (mStore 4) gsNil))) L_highs_0 (rs.map pairD) [.val P, .own (F.map pairD), .val (.int a), u, v] = some (.ok .nx [.val P, .own ((F ++ highP a rs).map pairD), a', u', v'])
  | [], F, a, u, v, _ => ⟨_, u, v, by rw [highP, List.append_nil]; rfl⟩
  | (b, e) :: rs, F, a, u, v, hl => by
    simp only [List.length_cons] at hl
    have h1 : gTupD 2 (gCons2 (mStore 3) (gCons2 (mStore 4) gsNil)) (pairD (b, e)) [.val P, .own (F.map pairD), .val (.int a), u, v] = some (.ok () [.val P, .own (F.map pairD), .val (.int a), .val (.int b), .val (.int e)]) := by
      simp [pairD, mSeq, mIf, mBol, mBin, mBinL, mBind, mLift, mPure, mPeek, mVar, ixD, iI, bolD, mAsg, mCall1, mCallN, intD, modD, iIc, cMod, mStore, mStoreO, mDone, gSet, mOwn, mPut, setD, mRet, mDrop, mStuck, mTru, truD, mOrT, mAndT, mNotT, mAnd, mOr, mNot, mIsi, isiT_eq, typD, lenD, mCons, mTup, mLst, mLstN, mVal, oOr, addD, subD, mulD, mulI, iIc, cMul, ltD, leD, gtD, geD, gTupD, gCons2, gsNil, mCallV, mCallB, mRs, tupleD, mRetF, mChain, mScr, mScrLen, mScrIx, mMut, appD, max2D, min2D, mRng1, mRng2, rngD1, rngD2, rngOk, mItems, itemsD, mAsgN, mParEE, mParEN, mUn, negD, mCallN1, listD, unsE, powD, cPow, divD, cDiv, mFor, mSl, mSlL, slD, mNoPart, mPart, intO, mSlN, mSlNL, slN, mRevN, revO, mParNC]
    have hF : F.length ≤ 16000000 := by omega
    have h2 : L_highs_0 [.val P, .own (F.map pairD), .val (.int a), .val (.int b), .val (.int e)] = some (.ok .nx [.val P, .own ((F ++ if b = 1 then [(a, a + e)] else []).map pairD), .val (.int (a + e)), .val (.int b), .val (.int e)]) := by
      by_cases c : b = 1 <;> simp [L_highs_0, mSeq, mIf, mBol, mBin, mBinL, mBind, mLift, mPure, mPeek, mVar, ixD, iI, bolD, mAsg, mCall1, mCallN, intD, modD, iIc, cMod, mStore, mStoreO, mDone, gSet, mOwn, mPut, setD, mRet, mDrop, mStuck, mTru, truD, mOrT, mAndT, mNotT, mAnd, mOr, mNot, mIsi, isiT_eq, typD, lenD, mCons, mTup, mLst, mLstN, mVal, oOr, addD, subD, mulD, mulI, iIc, cMul, ltD, leD, gtD, geD, gTupD, gCons2, gsNil, mCallV, mCallB, mRs, tupleD, mRetF, mChain, mScr, mScrLen, mScrIx, mMut, appD, max2D, min2D, mRng1, mRng2, rngD1, rngD2, rngOk, mItems, itemsD, mAsgN, mParEE, mParEN, mUn, negD, mCallN1, listD, unsE, powD, cPow, divD, cDiv, mFor, mSl, mSlL, slD, mNoPart, mPart, intO, mSlN, mSlNL, slN, mRevN, revO, mParNC, mAug, eq_int, fit, hF, c, pairD]
    have hG : (if b = 1 then [(a, a + e)] else []).length ≤ 1 := by split <;> simp
    obtain ⟨a', u', v', h3⟩ := highs_loop (P := P) rs (F ++ if b = 1 then [(a, a + e)] else []) (a + e) (.val (.int b)) (.val (.int e)) (by rw [List.length_append]; omega)
    refine ⟨a', u', v', ?_⟩
    rw [List.map_cons]
    unfold mForL
    rw [bind_is h1, bind_is h2]
    rw [List.append_assoc] at h3
    exact h3
theorem highs_ok {rs : List Pr} (hl : rs.length ≤ 1000) : fn_highs [.tuple (rs.map pairD)] = some (.ok (.tuple ((highP 0 rs).map pairD))) := by
  obtain ⟨a, u, v, h⟩ := highs_loop (P := .tuple (rs.map pairD)) rs [] 0 .un .un (by simp only [List.length_nil]; omega)
  have hR : R_highs_0 [.val (.tuple (rs.map pairD)), .own [], .val (.int 0), .un, .un] = some (.ok .nx [.val (.tuple (rs.map pairD)), .own ((highP 0 rs).map pairD), a, u, v]) := by
    unfold R_highs_0 mFor
    have e : mItems (mVar 0) [.val (.tuple (rs.map pairD)), .own [], .val (.int 0), .un, .un] = some (.ok (rs.map pairD) [.val (.tuple (rs.map pairD)), .own [], .val (.int 0), .un, .un]) := rfl
    rw [bind_is e]
    exact h
  simp [fn_highs, runV, m_highs, env0, mSeq, mIf, mBol, mBin, mBinL, mBind, mLift, mPure, mPeek, mVar, ixD, iI, bolD, mAsg, mCall1, mCallN, intD, modD, iIc, cMod, mStore, mStoreO, mDone, gSet, mOwn, mPut, setD, mRet, mDrop, mStuck, mTru, truD, mOrT, mAndT, mNotT, mAnd, mOr, mNot, mIsi, isiT_eq, typD, lenD, mCons, mTup, mLst, mLstN, mVal, oOr, addD, subD, mulD, mulI, iIc, cMul, ltD, leD, gtD, geD, gTupD, gCons2, gsNil, mCallV, mCallB, mRs, tupleD, mRetF, mChain, mScr, mScrLen, mScrIx, mMut, appD, max2D, min2D, mRng1, mRng2, rngD1, rngD2, rngOk, mItems, itemsD, mAsgN, mParEE, mParEN, mUn, negD, mCallN1, listD, unsE, powD, cPow, divD, cDiv, mFor, mSl, mSlL, slD, mNoPart, mPart, intO, mSlN, mSlNL, slN, mRevN, revO, mParNC, hR, fit]
theorem line_by_loop {P L : D} {long : Int} : ∀ (ss F : List Pr) (a : Int) (u v : Sl), F.length + 2 * ss.length ≤ 16000000 → ∃ (G : List Pr) (a' : Int) (u' v' : Sl), lbyP long a ss = G ++ (if a' < long then [(0, long - a')] else []) ∧ G.length ≤ 2 * ss.length ∧
    mForL (gTupD 2 (gCons2 (mStore 4) (gCons2 (mStore 5) gsNil))) L_line_by_0 (ss.map pairD) [.val P, .val L, .own (F.map pairD), .val (.int a), u, v] = some (.ok .nx [.val P, .val L, .own ((F ++ G).map pairD), .val (.int a'), u', v'])
  | [], F, a, u, v, _ => ⟨[], a, u, v, rfl, Nat.le_refl _, by rw [List.append_nil]; rfl⟩
  | (b, e) :: ss, F, a, u, v, hl => by
    simp only [List.length_cons] at hl
    have h1 : gTupD 2 (gCons2 (mStore 4) (gCons2 (mStore 5) gsNil)) (pairD (b, e)) [.val P, .val L, .own (F.map pairD), .val (.int a), u, v] = some (.ok () [.val P, .val L, .own (F.map pairD), .val (.int a), .val (.int b), .val (.int e)]) := by
      simp [pairD, mSeq, mIf, mBol, mBin, mBinL, mBind, mLift, mPure, mPeek, mVar, ixD, iI, bolD, mAsg, mCall1, mCallN, intD, modD, iIc, cMod, mStore, mStoreO, mDone, gSet, mOwn, mPut, setD, mRet, mDrop, mStuck, mTru, truD, mOrT, mAndT, mNotT, mAnd, mOr, mNot, mIsi, isiT_eq, typD, lenD, mCons, mTup, mLst, mLstN, mVal, oOr, addD, subD, mulD, mulI, iIc, cMul, ltD, leD, gtD, geD, gTupD, gCons2, gsNil, mCallV, mCallB, mRs, tupleD, mRetF, mChain, mScr, mScrLen, mScrIx, mMut, appD, max2D, min2D, mRng1, mRng2, rngD1, rngD2, rngOk, mItems, itemsD, mAsgN, mParEE, mParEN, mUn, negD, mCallN1, listD, unsE, powD, cPow, divD, cDiv, mFor, mSl, mSlL, slD, mNoPart, mPart, intO, mSlN, mSlNL, slN, mRevN, revO, mParNC]
    have hF : F.length ≤ 16000000 := by omega
    have hF2 : F.length + 1 ≤ 16000000 := by omega
    have h2 : L_line_by_0 [.val P, .val L, .own (F.map pairD), .val (.int a), .val (.int b), .val (.int e)] = some (.ok .nx [.val P, .val L, .own ((F ++ ((if a < b then [(0, b - a)] else []) ++ [(1, e - b)])).map pairD), .val (.int e), .val (.int b), .val (.int e)]) := by
      by_cases c : a < b <;> simp [L_line_by_0, mSeq, mIf, mBol, mBin, mBinL, mBind, mLift, mPure, mPeek, mVar, ixD, iI, bolD, mAsg, mCall1, mCallN, intD, modD, iIc, cMod, mStore, mStoreO, mDone, gSet, mOwn, mPut, setD, mRet, mDrop, mStuck, mTru, truD, mOrT, mAndT, mNotT, mAnd, mOr, mNot, mIsi, isiT_eq, typD, lenD, mCons, mTup, mLst, mLstN, mVal, oOr, addD, subD, mulD, mulI, iIc, cMul, ltD, leD, gtD, geD, gTupD, gCons2, gsNil, mCallV, mCallB, mRs, tupleD, mRetF, mChain, mScr, mScrLen, mScrIx, mMut, appD, max2D, min2D, mRng1, mRng2, rngD1, rngD2, rngOk, mItems, itemsD, mAsgN, mParEE, mParEN, mUn, negD, mCallN1, listD, unsE, powD, cPow, divD, cDiv, mFor, mSl, mSlL, slD, mNoPart, mPart, intO, mSlN, mSlNL, slN, mRevN, revO, mParNC, fit, hF, hF2, c, pairD]
    have hG : ((if a < b then [(0, b - a)] else []) ++ [(1, e - b)] : List Pr).length ≤ 2 := by rw [List.length_append]; split <;> simp
    obtain ⟨G, a', u', v', g1, g2, g3⟩ := line_by_loop (P := P) (L := L) (long := long) ss (F ++ ((if a < b then [(0, b - a)] else []) ++ [(1, e - b)])) e (.val (.int b)) (.val (.int e)) (by rw [List.length_append]; omega)
    refine ⟨((if a < b then [(0, b - a)] else []) ++ [(1, e - b)]) ++ G, a', u', v', ?_, by rw [List.length_append, List.length_cons]; omega, ?_⟩
    · show (if a < b then [(0, b - a)] else []) ++ (1, e - b) :: lbyP long e ss = _
      rw [g1, List.append_assoc, List.append_assoc]; rfl
    · rw [List.map_cons]
      unfold mForL
      rw [bind_is h1, bind_is h2]
      rw [List.append_assoc] at g3
      exact g3
theorem line_by_ok {ss : List Pr} {long : Int} (hl : ss.length ≤ 1000) : fn_line_by [.tuple (ss.map pairD), .int long] = some (.ok (.tuple ((lbyP long 0 ss).map pairD))) := by
  obtain ⟨G, a, u, v, g1, g2, g3⟩ := line_by_loop (P := .tuple (ss.map pairD)) (L := .int long) (long := long) ss [] 0 .un .un (by simp only [List.length_nil]; omega)
  have hR : R_line_by_0 [.val (.tuple (ss.map pairD)), .val (.int long), .own [], .val (.int 0), .un, .un] = some (.ok .nx [.val (.tuple (ss.map pairD)), .val (.int long), .own (G.map pairD), .val (.int a), u, v]) := by
    unfold R_line_by_0 mFor
    have e : mItems (mVar 0) [.val (.tuple (ss.map pairD)), .val (.int long), .own [], .val (.int 0), .un, .un] = some (.ok (ss.map pairD) [.val (.tuple (ss.map pairD)), .val (.int long), .own [], .val (.int 0), .un, .un]) := rfl
    rw [bind_is e]
    exact g3
  have hG : G.length ≤ 16000000 := by omega
  rw [g1]
  by_cases c : a < long <;> simp [fn_line_by, runV, m_line_by, env0, mSeq, mIf, mBol, mBin, mBinL, mBind, mLift, mPure, mPeek, mVar, ixD, iI, bolD, mAsg, mCall1, mCallN, intD, modD, iIc, cMod, mStore, mStoreO, mDone, gSet, mOwn, mPut, setD, mRet, mDrop, mStuck, mTru, truD, mOrT, mAndT, mNotT, mAnd, mOr, mNot, mIsi, isiT_eq, typD, lenD, mCons, mTup, mLst, mLstN, mVal, oOr, addD, subD, mulD, mulI, iIc, cMul, ltD, leD, gtD, geD, gTupD, gCons2, gsNil, mCallV, mCallB, mRs, tupleD, mRetF, mChain, mScr, mScrLen, mScrIx, mMut, appD, max2D, min2D, mRng1, mRng2, rngD1, rngD2, rngOk, mItems, itemsD, mAsgN, mParEE, mParEN, mUn, negD, mCallN1, listD, unsE, powD, cPow, divD, cDiv, mFor, mSl, mSlL, slD, mNoPart, mPart, intO, mSlN, mSlNL, slN, mRevN, revO, mParNC, hR, c, fit, hG, pairD]
theorem begins_loop {P : D} {w : Int} : ∀ (rs : List Pr) (F : List Int) (a : Int) (u v : Sl), F.length + rs.length ≤ 16000000 → ∃ a' u' v',
    mForL (gTupD 2 (gCons2 (mStore 4) (gCons2 (mStore 5) gsNil))) L__begins_0 (rs.map pairD) [.val P, .val (.int w), .own (F.map PyData.int), .val (.int a), u, v] = some (.ok .nx [.val P, .val (.int w), .own ((F ++ begP w a rs).map PyData.int), a', u', v'])
  | [], F, a, u, v, _ => ⟨_, u, v, by rw [begP, List.append_nil]; rfl⟩
  | (b, e) :: rs, F, a, u, v, hl => by
    simp only [List.length_cons] at hl
    have h1 : gTupD 2 (gCons2 (mStore 4) (gCons2 (mStore 5) gsNil)) (pairD (b, e)) [.val P, .val (.int w), .own (F.map PyData.int), .val (.int a), u, v] = some (.ok () [.val P, .val (.int w), .own (F.map PyData.int), .val (.int a), .val (.int b), .val (.int e)]) := by
      simp [pairD, mSeq, mIf, mBol, mBin, mBinL, mBind, mLift, mPure, mPeek, mVar, ixD, iI, bolD, mAsg, mCall1, mCallN, intD, modD, iIc, cMod, mStore, mStoreO, mDone, gSet, mOwn, mPut, setD, mRet, mDrop, mStuck, mTru, truD, mOrT, mAndT, mNotT, mAnd, mOr, mNot, mIsi, isiT_eq, typD, lenD, mCons, mTup, mLst, mLstN, mVal, oOr, addD, subD, mulD, mulI, iIc, cMul, ltD, leD, gtD, geD, gTupD, gCons2, gsNil, mCallV, mCallB, mRs, tupleD, mRetF, mChain, mScr, mScrLen, mScrIx, mMut, appD, max2D, min2D, mRng1, mRng2, rngD1, rngD2, rngOk, mItems, itemsD, mAsgN, mParEE, mParEN, mUn, negD, mCallN1, listD, unsE, powD, cPow, divD, cDiv, mFor, mSl, mSlL, slD, mNoPart, mPart, intO, mSlN, mSlNL, slN, mRevN, revO, mParNC]
    have hF : F.length ≤ 16000000 := by omega
    have h2 : L__begins_0 [.val P, .val (.int w), .own (F.map PyData.int), .val (.int a), .val (.int b), .val (.int e)] = some (.ok .nx [.val P, .val (.int w), .own ((F ++ if b = w ∧ 0 < a then [a] else []).map PyData.int), .val (.int (a + e)), .val (.int b), .val (.int e)]) := by
      by_cases c : b = w <;> by_cases c2 : 0 < a <;> simp [L__begins_0, mSeq, mIf, mBol, mBin, mBinL, mBind, mLift, mPure, mPeek, mVar, ixD, iI, bolD, mAsg, mCall1, mCallN, intD, modD, iIc, cMod, mStore, mStoreO, mDone, gSet, mOwn, mPut, setD, mRet, mDrop, mStuck, mTru, truD, mOrT, mAndT, mNotT, mAnd, mOr, mNot, mIsi, isiT_eq, typD, lenD, mCons, mTup, mLst, mLstN, mVal, oOr, addD, subD, mulD, mulI, iIc, cMul, ltD, leD, gtD, geD, gTupD, gCons2, gsNil, mCallV, mCallB, mRs, tupleD, mRetF, mChain, mScr, mScrLen, mScrIx, mMut, appD, max2D, min2D, mRng1, mRng2, rngD1, rngD2, rngOk, mItems, itemsD, mAsgN, mParEE, mParEN, mUn, negD, mCallN1, listD, unsE, powD, cPow, divD, cDiv, mFor, mSl, mSlL, slD, mNoPart, mPart, intO, mSlN, mSlNL, slN, mRevN, revO, mParNC, mAug, eq_int, fit, hF, c, c2]
    have hG : (if b = w ∧ 0 < a then [a] else []).length ≤ 1 := by split <;> simp
    obtain ⟨a', u', v', h3⟩ := begins_loop (P := P) (w := w) rs (F ++ if b = w ∧ 0 < a then [a] else []) (a + e) (.val (.int b)) (.val (.int e)) (by rw [List.length_append]; omega)
    refine ⟨a', u', v', ?_⟩
    rw [List.map_cons]
    unfold mForL
    rw [bind_is h1, bind_is h2]
    rw [List.append_assoc] at h3
    exact h3
theorem begins_ok {rs : List Pr} {w : Int} (hl : rs.length ≤ 1000) : fn__begins [.tuple (rs.map pairD), .int w] = some (.ok (.tuple ((begP w 0 rs).map PyData.int))) := by
  obtain ⟨a, u, v, h⟩ := begins_loop (P := .tuple (rs.map pairD)) (w := w) rs [] 0 .un .un (by simp only [List.length_nil]; omega)
  have hR : R__begins_0 [.val (.tuple (rs.map pairD)), .val (.int w), .own [], .val (.int 0), .un, .un] = some (.ok .nx [.val (.tuple (rs.map pairD)), .val (.int w), .own ((begP w 0 rs).map PyData.int), a, u, v]) := by
    unfold R__begins_0 mFor
    have e : mItems (mVar 0) [.val (.tuple (rs.map pairD)), .val (.int w), .own [], .val (.int 0), .un, .un] = some (.ok (rs.map pairD) [.val (.tuple (rs.map pairD)), .val (.int w), .own [], .val (.int 0), .un, .un]) := rfl
    rw [bind_is e]
    exact h
  generalize (begP w 0 rs).map PyData.int = es at *
  simp [fn__begins, runV, m__begins, env0, mSeq, mIf, mBol, mBin, mBinL, mBind, mLift, mPure, mPeek, mVar, ixD, iI, bolD, mAsg, mCall1, mCallN, intD, modD, iIc, cMod, mStore, mStoreO, mDone, gSet, mOwn, mPut, setD, mRet, mDrop, mStuck, mTru, truD, mOrT, mAndT, mNotT, mAnd, mOr, mNot, mIsi, isiT_eq, typD, lenD, mCons, mTup, mLst, mLstN, mVal, oOr, addD, subD, mulD, mulI, iIc, cMul, ltD, leD, gtD, geD, gTupD, gCons2, gsNil, mCallV, mCallB, mRs, tupleD, mRetF, mChain, mScr, mScrLen, mScrIx, mMut, appD, max2D, min2D, mRng1, mRng2, rngD1, rngD2, rngOk, mItems, itemsD, mAsgN, mParEE, mParEN, mUn, negD, mCallN1, listD, unsE, powD, cPow, divD, cDiv, mFor, mSl, mSlL, slD, mNoPart, mPart, intO, mSlN, mSlNL, slN, mRevN, revO, mParNC, hR, fit]
theorem rises_ok {rs : List Pr} (hl : rs.length ≤ 1000) : fn_rises [.tuple (rs.map pairD)] = some (.ok (.tuple ((begP 1 0 rs).map PyData.int))) := by
  have h := begins_ok (rs := rs) (w := 1) hl
  generalize (begP 1 0 rs).map PyData.int = es at *
  simp [fn_rises, runV, m_rises, env0, mSeq, mIf, mBol, mBin, mBinL, mBind, mLift, mPure, mPeek, mVar, ixD, iI, bolD, mAsg, mCall1, mCallN, intD, modD, iIc, cMod, mStore, mStoreO, mDone, gSet, mOwn, mPut, setD, mRet, mDrop, mStuck, mTru, truD, mOrT, mAndT, mNotT, mAnd, mOr, mNot, mIsi, isiT_eq, typD, lenD, mCons, mTup, mLst, mLstN, mVal, oOr, addD, subD, mulD, mulI, iIc, cMul, ltD, leD, gtD, geD, gTupD, gCons2, gsNil, mCallV, mCallB, mRs, tupleD, mRetF, mChain, mScr, mScrLen, mScrIx, mMut, appD, max2D, min2D, mRng1, mRng2, rngD1, rngD2, rngOk, mItems, itemsD, mAsgN, mParEE, mParEN, mUn, negD, mCallN1, listD, unsE, powD, cPow, divD, cDiv, mFor, mSl, mSlL, slD, mNoPart, mPart, intO, mSlN, mSlNL, slN, mRevN, revO, mParNC, h]
theorem falls_ok {rs : List Pr} (hl : rs.length ≤ 1000) : fn_falls [.tuple (rs.map pairD)] = some (.ok (.tuple ((begP 0 0 rs).map PyData.int))) := by
  have h := begins_ok (rs := rs) (w := 0) hl
  generalize (begP 0 0 rs).map PyData.int = es at *
  simp [fn_falls, runV, m_falls, env0, mSeq, mIf, mBol, mBin, mBinL, mBind, mLift, mPure, mPeek, mVar, ixD, iI, bolD, mAsg, mCall1, mCallN, intD, modD, iIc, cMod, mStore, mStoreO, mDone, gSet, mOwn, mPut, setD, mRet, mDrop, mStuck, mTru, truD, mOrT, mAndT, mNotT, mAnd, mOr, mNot, mIsi, isiT_eq, typD, lenD, mCons, mTup, mLst, mLstN, mVal, oOr, addD, subD, mulD, mulI, iIc, cMul, ltD, leD, gtD, geD, gTupD, gCons2, gsNil, mCallV, mCallB, mRs, tupleD, mRetF, mChain, mScr, mScrLen, mScrIx, mMut, appD, max2D, min2D, mRng1, mRng2, rngD1, rngD2, rngOk, mItems, itemsD, mAsgN, mParEE, mParEN, mUn, negD, mCallN1, listD, unsE, powD, cPow, divD, cDiv, mFor, mSl, mSlL, slD, mNoPart, mPart, intO, mSlN, mSlNL, slN, mRevN, revO, mParNC, h]
theorem str_loop {P : D} {b e : Int} : ∀ (rs F : List Pr) (a : Int) (u v w x : Sl), F.length + rs.length ≤ 16000000 → ∃ a' u' v' w' x',
    mForL (gTupD 2 (gCons2 (mStore 5) (gCons2 (mStore 6) gsNil))) L_stretch_0 (rs.map pairD) [.val P, .val (.int b), .val (.int e), .own (F.map pairD), .val (.int a), u, v, w, x] = some (.ok .nx [.val P, .val (.int b), .val (.int e), .own ((F ++ strP b e a rs).map pairD), a', u', v', w', x'])
  | [], F, a, u, v, w, x, _ => ⟨_, u, v, w, x, by rw [strP, List.append_nil]; rfl⟩
  | (l, n) :: rs, F, a, u, v, w, x, hl => by
    simp only [List.length_cons] at hl
    have h1 : gTupD 2 (gCons2 (mStore 5) (gCons2 (mStore 6) gsNil)) (pairD (l, n)) [.val P, .val (.int b), .val (.int e), .own (F.map pairD), .val (.int a), u, v, w, x] = some (.ok () [.val P, .val (.int b), .val (.int e), .own (F.map pairD), .val (.int a), .val (.int l), .val (.int n), w, x]) := by
      simp [pairD, mSeq, mIf, mBol, mBin, mBinL, mBind, mLift, mPure, mPeek, mVar, ixD, iI, bolD, mAsg, mCall1, mCallN, intD, modD, iIc, cMod, mStore, mStoreO, mDone, gSet, mOwn, mPut, setD, mRet, mDrop, mStuck, mTru, truD, mOrT, mAndT, mNotT, mAnd, mOr, mNot, mIsi, isiT_eq, typD, lenD, mCons, mTup, mLst, mLstN, mVal, oOr, addD, subD, mulD, mulI, iIc, cMul, ltD, leD, gtD, geD, gTupD, gCons2, gsNil, mCallV, mCallB, mRs, tupleD, mRetF, mChain, mScr, mScrLen, mScrIx, mMut, appD, max2D, min2D, mRng1, mRng2, rngD1, rngD2, rngOk, mItems, itemsD, mAsgN, mParEE, mParEN, mUn, negD, mCallN1, listD, unsE, powD, cPow, divD, cDiv, mFor, mSl, mSlL, slD, mNoPart, mPart, intO, mSlN, mSlNL, slN, mRevN, revO, mParNC]
    have hF : F.length ≤ 16000000 := by omega
    have hM : max2D [.int a, .int b] = some (.int (mxI a b)) := rfl
    have hm : min2D [.int (a + n), .int e] = some (.int (mnI (a + n) e)) := rfl
    have h2 : L_stretch_0 [.val P, .val (.int b), .val (.int e), .own (F.map pairD), .val (.int a), .val (.int l), .val (.int n), w, x] = some (.ok .nx [.val P, .val (.int b), .val (.int e), .own ((F ++ if mxI a b < mnI (a + n) e then [(l, mnI (a + n) e - mxI a b)] else []).map pairD), .val (.int (a + n)), .val (.int l), .val (.int n), .val (.int (mxI a b)), .val (.int (mnI (a + n) e))]) := by
      by_cases c : mxI a b < mnI (a + n) e <;> simp [L_stretch_0, mSeq, mIf, mBol, mBin, mBinL, mBind, mLift, mPure, mPeek, mVar, ixD, iI, bolD, mAsg, mCall1, mCallN, intD, modD, iIc, cMod, mStore, mStoreO, mDone, gSet, mOwn, mPut, setD, mRet, mDrop, mStuck, mTru, truD, mOrT, mAndT, mNotT, mAnd, mOr, mNot, mIsi, isiT_eq, typD, lenD, mCons, mTup, mLst, mLstN, mVal, oOr, addD, subD, mulD, mulI, iIc, cMul, ltD, leD, gtD, geD, gTupD, gCons2, gsNil, mCallV, mCallB, mRs, tupleD, mRetF, mChain, mScr, mScrLen, mScrIx, mMut, appD, mRng1, mRng2, rngD1, rngD2, rngOk, mItems, itemsD, mAsgN, mParEE, mParEN, mUn, negD, mCallN1, listD, unsE, powD, cPow, divD, cDiv, mFor, mSl, mSlL, slD, mNoPart, mPart, intO, mSlN, mSlNL, slN, mRevN, revO, mParNC, mAug, hM, hm, fit, hF, c, pairD]
    have hG : (if mxI a b < mnI (a + n) e then [(l, mnI (a + n) e - mxI a b)] else []).length ≤ 1 := by split <;> simp
    obtain ⟨a', u', v', w', x', h3⟩ := str_loop (P := P) (b := b) (e := e) rs (F ++ if mxI a b < mnI (a + n) e then [(l, mnI (a + n) e - mxI a b)] else []) (a + n) (.val (.int l)) (.val (.int n)) (.val (.int (mxI a b))) (.val (.int (mnI (a + n) e))) (by rw [List.length_append]; omega)
    refine ⟨a', u', v', w', x', ?_⟩
    rw [List.map_cons]
    unfold mForL
    rw [bind_is h1, bind_is h2]
    rw [List.append_assoc] at h3
    exact h3
theorem stretch_ok {rs : List Pr} {b e : Int} (hl : rs.length ≤ 1000) : fn_stretch [.tuple (rs.map pairD), .int b, .int e] = some (.ok (.tuple ((strP b e 0 rs).map pairD))) := by
  obtain ⟨a, u, v, w, x, h⟩ := str_loop (P := .tuple (rs.map pairD)) (b := b) (e := e) rs [] 0 .un .un .un .un (by simp only [List.length_nil]; omega)
  have hR : R_stretch_0 [.val (.tuple (rs.map pairD)), .val (.int b), .val (.int e), .own [], .val (.int 0), .un, .un, .un, .un] = some (.ok .nx [.val (.tuple (rs.map pairD)), .val (.int b), .val (.int e), .own ((strP b e 0 rs).map pairD), a, u, v, w, x]) := by
    unfold R_stretch_0 mFor
    have q : mItems (mVar 0) [.val (.tuple (rs.map pairD)), .val (.int b), .val (.int e), .own [], .val (.int 0), .un, .un, .un, .un] = some (.ok (rs.map pairD) [.val (.tuple (rs.map pairD)), .val (.int b), .val (.int e), .own [], .val (.int 0), .un, .un, .un, .un]) := rfl
    rw [bind_is q]
    exact h
  simp [fn_stretch, runV, m_stretch, env0, mSeq, mIf, mBol, mBin, mBinL, mBind, mLift, mPure, mPeek, mVar, ixD, iI, bolD, mAsg, mCall1, mCallN, intD, modD, iIc, cMod, mStore, mStoreO, mDone, gSet, mOwn, mPut, setD, mRet, mDrop, mStuck, mTru, truD, mOrT, mAndT, mNotT, mAnd, mOr, mNot, mIsi, isiT_eq, typD, lenD, mCons, mTup, mLst, mLstN, mVal, oOr, addD, subD, mulD, mulI, iIc, cMul, ltD, leD, gtD, geD, gTupD, gCons2, gsNil, mCallV, mCallB, mRs, tupleD, mRetF, mChain, mScr, mScrLen, mScrIx, mMut, appD, max2D, min2D, mRng1, mRng2, rngD1, rngD2, rngOk, mItems, itemsD, mAsgN, mParEE, mParEN, mUn, negD, mCallN1, listD, unsE, powD, cPow, divD, cDiv, mFor, mSl, mSlL, slD, mNoPart, mPart, intO, mSlN, mSlNL, slN, mRevN, revO, mParNC, hR, fit]
theorem turned_ok {rs : List Pr} (hl : rs.length ≤ 1000) : fn_turned [.tuple (rs.map pairD)] = some (.ok (.tuple ((turnP rs).map pairD))) := by
  have h : C_turned_0 [.val (.tuple (rs.map pairD)), .un, .un] = some (.ok ((turnP rs).map pairD) [.val (.tuple (rs.map pairD)), .un, .un]) := by
    have e : (turnP rs).map pairD = rs.map fun r => pairD (1 - r.1, r.2) := by unfold turnP; rw [List.map_map]; rfl
    rw [e]
    refine comp_is (ds := rs.map pairD) (ρ1 := [.val (.tuple (rs.map pairD)), .un, .un]) (ρe := [.val (.tuple (rs.map pairD)), .un, .un]) (by simp [mSeq, mIf, mBol, mBin, mBinL, mBind, mLift, mPure, mPeek, mVar, ixD, iI, bolD, mAsg, mCall1, mCallN, intD, modD, iIc, cMod, mStore, mStoreO, mDone, gSet, mOwn, mPut, setD, mRet, mDrop, mStuck, mTru, truD, mOrT, mAndT, mNotT, mAnd, mOr, mNot, mIsi, isiT_eq, typD, lenD, mCons, mTup, mLst, mLstN, mVal, oOr, addD, subD, mulD, mulI, iIc, cMul, ltD, leD, gtD, geD, gTupD, gCons2, gsNil, mCallV, mCallB, mRs, tupleD, mRetF, mChain, mScr, mScrLen, mScrIx, mMut, appD, max2D, min2D, mRng1, mRng2, rngD1, rngD2, rngOk, mItems, itemsD, mAsgN, mParEE, mParEN, mUn, negD, mCallN1, listD, unsE, powD, cPow, divD, cDiv, mFor, mSl, mSlL, slD, mNoPart, mPart, intO, mSlN, mSlNL, slN, mRevN, revO, mParNC]) (fit_of2 (by rw [List.length_map]; omega)) ?_
    refine go_mapA pairD (fun r => pairD (1 - r.1, r.2)) rs fun s _ => ?_
    obtain ⟨a, b⟩ := s
    exact ⟨[.val (.tuple (rs.map pairD)), .val (.int a), .val (.int b)], [.val (.tuple (rs.map pairD)), .val (.int a), .val (.int b)], by simp [mSeq, mIf, mBol, mBin, mBinL, mBind, mLift, mPure, mPeek, mVar, ixD, iI, bolD, mAsg, mCall1, mCallN, intD, modD, iIc, cMod, mStore, mStoreO, mDone, gSet, mOwn, mPut, setD, mRet, mDrop, mStuck, mTru, truD, mOrT, mAndT, mNotT, mAnd, mOr, mNot, mIsi, isiT_eq, typD, lenD, mCons, mTup, mLst, mLstN, mVal, oOr, addD, subD, mulD, mulI, iIc, cMul, ltD, leD, gtD, geD, gTupD, gCons2, gsNil, mCallV, mCallB, mRs, tupleD, mRetF, mChain, mScr, mScrLen, mScrIx, mMut, appD, max2D, min2D, mRng1, mRng2, rngD1, rngD2, rngOk, mItems, itemsD, mAsgN, mParEE, mParEN, mUn, negD, mCallN1, listD, unsE, powD, cPow, divD, cDiv, mFor, mSl, mSlL, slD, mNoPart, mPart, intO, mSlN, mSlNL, slN, mRevN, revO, mParNC, gNamesD, pairD], by simp [mSeq, mIf, mBol, mBin, mBinL, mBind, mLift, mPure, mPeek, mVar, ixD, iI, bolD, mAsg, mCall1, mCallN, intD, modD, iIc, cMod, mStore, mStoreO, mDone, gSet, mOwn, mPut, setD, mRet, mDrop, mStuck, mTru, truD, mOrT, mAndT, mNotT, mAnd, mOr, mNot, mIsi, isiT_eq, typD, lenD, mCons, mTup, mLst, mLstN, mVal, oOr, addD, subD, mulD, mulI, iIc, cMul, ltD, leD, gtD, geD, gTupD, gCons2, gsNil, mCallV, mCallB, mRs, tupleD, mRetF, mChain, mScr, mScrLen, mScrIx, mMut, appD, max2D, min2D, mRng1, mRng2, rngD1, rngD2, rngOk, mItems, itemsD, mAsgN, mParEE, mParEN, mUn, negD, mCallN1, listD, unsE, powD, cPow, divD, cDiv, mFor, mSl, mSlL, slD, mNoPart, mPart, intO, mSlN, mSlNL, slN, mRevN, revO, mParNC, fit, pairD], by simp [unsE]⟩
  simp [fn_turned, runV, m_turned, env0, mSeq, mIf, mBol, mBin, mBinL, mBind, mLift, mPure, mPeek, mVar, ixD, iI, bolD, mAsg, mCall1, mCallN, intD, modD, iIc, cMod, mStore, mStoreO, mDone, gSet, mOwn, mPut, setD, mRet, mDrop, mStuck, mTru, truD, mOrT, mAndT, mNotT, mAnd, mOr, mNot, mIsi, isiT_eq, typD, lenD, mCons, mTup, mLst, mLstN, mVal, oOr, addD, subD, mulD, mulI, iIc, cMul, ltD, leD, gtD, geD, gTupD, gCons2, gsNil, mCallV, mCallB, mRs, tupleD, mRetF, mChain, mScr, mScrLen, mScrIx, mMut, appD, max2D, min2D, mRng1, mRng2, rngD1, rngD2, rngOk, mItems, itemsD, mAsgN, mParEE, mParEN, mUn, negD, mCallN1, listD, unsE, powD, cPow, divD, cDiv, mFor, mSl, mSlL, slD, mNoPart, mPart, intO, mSlN, mSlNL, slN, mRevN, revO, mParNC, h]
theorem slowed_ok {rs : List Pr} {t : Int} (hl : rs.length ≤ 1000) (ht : t.natAbs < 18446744073709551616) : fn_slowed [.tuple (rs.map pairD), .int t] = some (.ok (.tuple ((slowP t rs).map pairD))) := by
  have h : C_slowed_0 [.val (.tuple (rs.map pairD)), .val (.int t), .un, .un] = some (.ok ((slowP t rs).map pairD) [.val (.tuple (rs.map pairD)), .val (.int t), .un, .un]) := by
    have e : (slowP t rs).map pairD = rs.map fun r => pairD (r.1, r.2 * t) := by unfold slowP; rw [List.map_map]; rfl
    rw [e]
    refine comp_is (ds := rs.map pairD) (ρ1 := [.val (.tuple (rs.map pairD)), .val (.int t), .un, .un]) (ρe := [.val (.tuple (rs.map pairD)), .val (.int t), .un, .un]) (by simp [mSeq, mIf, mBol, mBin, mBinL, mBind, mLift, mPure, mPeek, mVar, ixD, iI, bolD, mAsg, mCall1, mCallN, intD, modD, iIc, cMod, mStore, mStoreO, mDone, gSet, mOwn, mPut, setD, mRet, mDrop, mStuck, mTru, truD, mOrT, mAndT, mNotT, mAnd, mOr, mNot, mIsi, isiT_eq, typD, lenD, mCons, mTup, mLst, mLstN, mVal, oOr, addD, subD, mulD, mulI, iIc, cMul, ltD, leD, gtD, geD, gTupD, gCons2, gsNil, mCallV, mCallB, mRs, tupleD, mRetF, mChain, mScr, mScrLen, mScrIx, mMut, appD, max2D, min2D, mRng1, mRng2, rngD1, rngD2, rngOk, mItems, itemsD, mAsgN, mParEE, mParEN, mUn, negD, mCallN1, listD, unsE, powD, cPow, divD, cDiv, mFor, mSl, mSlL, slD, mNoPart, mPart, intO, mSlN, mSlNL, slN, mRevN, revO, mParNC]) (fit_of2 (by rw [List.length_map]; omega)) ?_
    refine go_mapA pairD (fun r => pairD (r.1, r.2 * t)) rs fun s _ => ?_
    obtain ⟨a, b⟩ := s
    exact ⟨[.val (.tuple (rs.map pairD)), .val (.int t), .val (.int a), .val (.int b)], [.val (.tuple (rs.map pairD)), .val (.int t), .val (.int a), .val (.int b)], by simp [mSeq, mIf, mBol, mBin, mBinL, mBind, mLift, mPure, mPeek, mVar, ixD, iI, bolD, mAsg, mCall1, mCallN, intD, modD, iIc, cMod, mStore, mStoreO, mDone, gSet, mOwn, mPut, setD, mRet, mDrop, mStuck, mTru, truD, mOrT, mAndT, mNotT, mAnd, mOr, mNot, mIsi, isiT_eq, typD, lenD, mCons, mTup, mLst, mLstN, mVal, oOr, addD, subD, mulD, mulI, iIc, cMul, ltD, leD, gtD, geD, gTupD, gCons2, gsNil, mCallV, mCallB, mRs, tupleD, mRetF, mChain, mScr, mScrLen, mScrIx, mMut, appD, max2D, min2D, mRng1, mRng2, rngD1, rngD2, rngOk, mItems, itemsD, mAsgN, mParEE, mParEN, mUn, negD, mCallN1, listD, unsE, powD, cPow, divD, cDiv, mFor, mSl, mSlL, slD, mNoPart, mPart, intO, mSlN, mSlNL, slN, mRevN, revO, mParNC, gNamesD, pairD], by simp [mSeq, mIf, mBol, mBin, mBinL, mBind, mLift, mPure, mPeek, mVar, ixD, iI, bolD, mAsg, mCall1, mCallN, intD, modD, iIc, cMod, mStore, mStoreO, mDone, gSet, mOwn, mPut, setD, mRet, mDrop, mStuck, mTru, truD, mOrT, mAndT, mNotT, mAnd, mOr, mNot, mIsi, isiT_eq, typD, lenD, mCons, mTup, mLst, mLstN, mVal, oOr, addD, subD, mulD, mulI, iIc, cMul, ltD, leD, gtD, geD, gTupD, gCons2, gsNil, mCallV, mCallB, mRs, tupleD, mRetF, mChain, mScr, mScrLen, mScrIx, mMut, appD, max2D, min2D, mRng1, mRng2, rngD1, rngD2, rngOk, mItems, itemsD, mAsgN, mParEE, mParEN, mUn, negD, mCallN1, listD, unsE, powD, cPow, divD, cDiv, mFor, mSl, mSlL, slD, mNoPart, mPart, intO, mSlN, mSlNL, slN, mRevN, revO, mParNC, fit, pairD, ht], by simp [unsE]⟩
  simp [fn_slowed, runV, m_slowed, env0, mSeq, mIf, mBol, mBin, mBinL, mBind, mLift, mPure, mPeek, mVar, ixD, iI, bolD, mAsg, mCall1, mCallN, intD, modD, iIc, cMod, mStore, mStoreO, mDone, gSet, mOwn, mPut, setD, mRet, mDrop, mStuck, mTru, truD, mOrT, mAndT, mNotT, mAnd, mOr, mNot, mIsi, isiT_eq, typD, lenD, mCons, mTup, mLst, mLstN, mVal, oOr, addD, subD, mulD, mulI, iIc, cMul, ltD, leD, gtD, geD, gTupD, gCons2, gsNil, mCallV, mCallB, mRs, tupleD, mRetF, mChain, mScr, mScrLen, mScrIx, mMut, appD, max2D, min2D, mRng1, mRng2, rngD1, rngD2, rngOk, mItems, itemsD, mAsgN, mParEE, mParEN, mUn, negD, mCallN1, listD, unsE, powD, cPow, divD, cDiv, mFor, mSl, mSlL, slD, mNoPart, mPart, intO, mSlN, mSlNL, slN, mRevN, revO, mParNC, h]
theorem join_snoc (l q : Pr) (bs : List Pr) : ∀ as : List Pr, joinP (as ++ [l]) (q :: bs) = if l.1 = q.1 then as ++ (l.1, l.2 + q.2) :: bs else as ++ l :: q :: bs
  | [] => by show (if l.1 = q.1 then _ else _) = _; rfl
  | [a] => by
    show a :: joinP [l] (q :: bs) = _
    have := join_snoc l q bs []
    rw [List.nil_append] at this
    rw [this]
    split <;> rfl
  | a :: b :: as => by
    show a :: joinP (b :: (as ++ [l])) (q :: bs) = _
    have := join_snoc l q bs (b :: as)
    rw [List.cons_append] at this
    rw [this]
    split <;> rfl
theorem join_nilR : ∀ as : List Pr, joinP as [] = as
  | [] => rfl
  | [a] => rfl
  | a :: b :: as => by
    show a :: joinP (b :: as) [] = _
    rw [join_nilR (b :: as)]
theorem cut_init (as : List D) (l : D) : cutL (as ++ [l]) none (some (-1)) = as := by
  unfold cutL HT.sIx
  simp
  rw [show (-1 + ((as.length : Int) + 1)).toNat = as.length by omega, List.take_left']
  rfl
theorem cut_tail (q : D) (bs : List D) : cutL (q :: bs) (some 1) none = bs := by
  unfold cutL HT.sIx
  simp
theorem joined_ok {as bs : List Pr} (hl : as.length + bs.length ≤ 1000) : fn_joined [.tuple (as.map pairD), .tuple (bs.map pairD)] = some (.ok (.tuple ((joinP as bs).map pairD))) := by
  rcases nil_or_snoc as with rfl | ⟨as, l, rfl⟩
  · have hb : bs.length ≤ 16000000 := by simp at hl; omega
    have e : joinP [] bs = bs := rfl
    rw [e]
    simp [fn_joined, runV, m_joined, env0, mSeq, mIf, mBol, mBin, mBinL, mBind, mLift, mPure, mPeek, mVar, ixD, iI, bolD, mAsg, mCall1, mCallN, intD, modD, iIc, cMod, mStore, mStoreO, mDone, gSet, mOwn, mPut, setD, mRet, mDrop, mStuck, mTru, truD, mOrT, mAndT, mNotT, mAnd, mOr, mNot, mIsi, isiT_eq, typD, lenD, mCons, mTup, mLst, mLstN, mVal, oOr, addD, subD, mulD, mulI, iIc, cMul, ltD, leD, gtD, geD, gTupD, gCons2, gsNil, mCallV, mCallB, mRs, tupleD, mRetF, mChain, mScr, mScrLen, mScrIx, mMut, appD, max2D, min2D, mRng1, mRng2, rngD1, rngD2, rngOk, mItems, itemsD, mAsgN, mParEE, mParEN, mUn, negD, mCallN1, listD, unsE, powD, cPow, divD, cDiv, mFor, mSl, mSlL, slD, mNoPart, mPart, intO, mSlN, mSlNL, slN, mRevN, revO, mParNC, mStar, fit, hb]
  · cases bs with
    | nil =>
      rw [join_nilR]
      have hb : as.length + 1 ≤ 16000000 := by simp at hl; omega
      simp [fn_joined, runV, m_joined, env0, mSeq, mIf, mBol, mBin, mBinL, mBind, mLift, mPure, mPeek, mVar, ixD, iI, bolD, mAsg, mCall1, mCallN, intD, modD, iIc, cMod, mStore, mStoreO, mDone, gSet, mOwn, mPut, setD, mRet, mDrop, mStuck, mTru, truD, mOrT, mAndT, mNotT, mAnd, mOr, mNot, mIsi, isiT_eq, typD, lenD, mCons, mTup, mLst, mLstN, mVal, oOr, addD, subD, mulD, mulI, iIc, cMul, ltD, leD, gtD, geD, gTupD, gCons2, gsNil, mCallV, mCallB, mRs, tupleD, mRetF, mChain, mScr, mScrLen, mScrIx, mMut, appD, max2D, min2D, mRng1, mRng2, rngD1, rngD2, rngOk, mItems, itemsD, mAsgN, mParEE, mParEN, mUn, negD, mCallN1, listD, unsE, powD, cPow, divD, cDiv, mFor, mSl, mSlL, slD, mNoPart, mPart, intO, mSlN, mSlNL, slN, mRevN, revO, mParNC, mStar, fit, hb]
    | cons q bs =>
      simp at hl
      obtain ⟨l1, l2⟩ := l
      obtain ⟨q1, q2⟩ := q
      have e1 : atI (as.map pairD ++ [PyData.tuple [.int l1, .int l2]]) (-1) = some (.tuple [.int l1, .int l2]) := atI_last _ _
      have e2 : atI (PyData.tuple [.int q1, .int q2] :: bs.map pairD) 0 = some (.tuple [.int q1, .int q2]) := atI_nat' (by omega) rfl
      have z0 : ∀ p q : D, atI [p, q] 0 = some p := fun _ _ => rfl
      have z1 : ∀ p q : D, atI [p, q] 1 = some q := fun _ _ => rfl
      have c1 := cut_init (as.map pairD) (.tuple [.int l1, .int l2])
      have c2 := cut_tail (.tuple [.int q1, .int q2]) (bs.map pairD)
      rw [join_snoc]
      by_cases c : l1 = q1
      · subst c
        have hb : as.length + (bs.length + 1) ≤ 16000000 := by omega
        simp [fn_joined, runV, m_joined, env0, mSeq, mIf, mBol, mBin, mBinL, mBind, mLift, mPure, mPeek, mVar, ixD, iI, bolD, mAsg, mCall1, mCallN, intD, modD, iIc, cMod, mStore, mStoreO, mDone, gSet, mOwn, mPut, setD, mRet, mDrop, mStuck, mTru, truD, mOrT, mAndT, mNotT, mAnd, mOr, mNot, mIsi, isiT_eq, typD, lenD, mCons, mTup, mLst, mLstN, mVal, oOr, addD, subD, mulD, mulI, iIc, cMul, ltD, leD, gtD, geD, gTupD, gCons2, gsNil, mCallV, mCallB, mRs, tupleD, mRetF, mChain, mScr, mScrLen, mScrIx, mMut, appD, max2D, min2D, mRng1, mRng2, rngD1, rngD2, rngOk, mItems, itemsD, mAsgN, mParEE, mParEN, mUn, negD, mCallN1, listD, unsE, powD, cPow, divD, cDiv, mFor, mSl, mSlL, slD, mNoPart, mPart, intO, mSlN, mSlNL, slN, mRevN, revO, mParNC, mStar, fit, hb, pairD, e1, e2, z0, z1, ne_int, c1, c2]
      · have hb : as.length + (bs.length + 1 + 1) ≤ 16000000 := by omega
        simp [fn_joined, runV, m_joined, env0, mSeq, mIf, mBol, mBin, mBinL, mBind, mLift, mPure, mPeek, mVar, ixD, iI, bolD, mAsg, mCall1, mCallN, intD, modD, iIc, cMod, mStore, mStoreO, mDone, gSet, mOwn, mPut, setD, mRet, mDrop, mStuck, mTru, truD, mOrT, mAndT, mNotT, mAnd, mOr, mNot, mIsi, isiT_eq, typD, lenD, mCons, mTup, mLst, mLstN, mVal, oOr, addD, subD, mulD, mulI, iIc, cMul, ltD, leD, gtD, geD, gTupD, gCons2, gsNil, mCallV, mCallB, mRs, tupleD, mRetF, mChain, mScr, mScrLen, mScrIx, mMut, appD, max2D, min2D, mRng1, mRng2, rngD1, rngD2, rngOk, mItems, itemsD, mAsgN, mParEE, mParEN, mUn, negD, mCallN1, listD, unsE, powD, cPow, divD, cDiv, mFor, mSl, mSlL, slD, mNoPart, mPart, intO, mSlN, mSlNL, slN, mRevN, revO, mParNC, mStar, fit, hb, pairD, e1, e2, z0, z1, ne_int, c]

/-! ### the law's lines -/
def LL (N W l : Int) (n : Nat) (ρ : En) : Prop := ∃ (bs : List D) (F : List Pr) (t : Sl), Bx bs ∧ Gd F ∧ F.length = n ∧ (∀ q, F.getLast? = some q → q.1 = (l + n - 1) % 2) ∧ tot F ≤ n * 4000001 ∧ ρ = [.io bs, .val (.int N), .val (.int W), .val (.int l), .own (F.map pairD), t]
theorem line_turn {N W l : Int} {n : Nat} {ρ : En} {t : Int} (hW : 1 ≤ W) (hW2 : W ≤ 4000000) (l0 : 0 ≤ l) (l1 : l < 2) (hn : n ≤ 1000) (ht : t = (n : Int)) (h : LL N W l n ρ) : ∃ ρ1 ρ2, mStore 5 (.int t) ρ = some (.ok () ρ1) ∧ (L__law_line_0 ρ1 = some (.ok .nx ρ2) ∨ L__law_line_0 ρ1 = some (.ok .ct ρ2)) ∧ LL N W l (n + 1) ρ2 := by
  obtain ⟨bs, F, u, hb, g, hl, hq, htot, rfl⟩ := h
  subst ht
  obtain ⟨w, bs1, e1, w0, w1, hb1⟩ := take_ok (m := 3) hb (by omega) (by omega)
  obtain ⟨m, e2, hm⟩ := pick3 (a := 2) (b := 5) (c := W) w0 w1
  have hm2 : 0 < m ∧ m ≤ 4000000 := by rcases hm with rfl | rfl | rfl <;> omega
  obtain ⟨v, bs2, e3, v0, v1, hb2⟩ := take_ok (m := m) hb1 (by omega) (by omega)
  have hF : F.length ≤ 16000000 := by omega
  refine ⟨[.io bs, .val (.int N), .val (.int W), .val (.int l), .own (F.map pairD), .val (.int (n : Nat))], [.io bs2, .val (.int N), .val (.int W), .val (.int l), .own ((F ++ [((l + n) % 2, 1 + v)]).map pairD), .val (.int (n : Nat))], by simp [mStore], .inl ?_, bs2, _, _, hb2, gd_snoc g ⟨by show (l + n) % 2 = 0 ∨ (l + n) % 2 = 1; omega, by show 1 ≤ 1 + v; omega⟩ (fun q hq' => ?_), by rw [List.length_append, List.length_singleton, hl], fun q hq' => ?_, ?_, rfl⟩
  · simp [L__law_line_0, mSeq, mIf, mBol, mBin, mBinL, mBind, mLift, mPure, mPeek, mVar, ixD, iI, bolD, mAsg, mCall1, mCallN, intD, modD, iIc, cMod, mStore, mStoreO, mDone, gSet, mOwn, mPut, setD, mRet, mDrop, mStuck, mTru, truD, mOrT, mAndT, mNotT, mAnd, mOr, mNot, mIsi, isiT_eq, typD, lenD, mCons, mTup, mLst, mLstN, mVal, oOr, addD, subD, mulD, mulI, iIc, cMul, ltD, leD, gtD, geD, gTupD, gCons2, gsNil, mCallV, mCallB, mRs, tupleD, mRetF, mChain, mScr, mScrLen, mScrIx, mMut, appD, max2D, min2D, mRng1, mRng2, rngD1, rngD2, rngOk, mItems, itemsD, mAsgN, mParEE, mParEN, mUn, negD, mCallN1, listD, unsE, powD, cPow, divD, cDiv, mFor, mSl, mSlL, slD, mNoPart, mPart, intO, mSlN, mSlNL, slN, mRevN, revO, mParNC, e1, e2, e3, fit, hF, pairD]
  · have := hq q hq'
    show q.1 ≠ (l + n) % 2
    omega
  · rw [List.getLast?_append] at hq'
    have : q = ((l + n) % 2, 1 + v) := by simpa using hq'.symm
    rw [this]
    show (l + n) % 2 = (l + ((n + 1 : Nat) : Int) - 1) % 2
    congr 1; omega
  · rw [tot_app]
    show tot F + (1 + v + 0) ≤ ((n + 1 : Nat) : Int) * 4000001
    omega
theorem line_ok {bs : List D} {N W : Int} (hb : Bx bs) (N0 : 0 ≤ N) (N1 : N ≤ 900) (W0 : 1 ≤ W) (W1 : W ≤ 4000000) : ∃ rs bs', fn__law_line bs [.int N, .int W] = some (.ok (.tuple (rs.map pairD)), bs') ∧ Bx bs' ∧ Gd rs ∧ (rs.length : Int) ≤ N ∧ tot rs ≤ N * 4000001 := by
  obtain ⟨l, bs1, e1, l0, l1, hb1⟩ := take_ok (m := 2) hb (by omega) (by omega)
  obtain ⟨k, bs2, e2, k0, k1, hb2⟩ := take_ok (m := N + 1) hb1 (by omega) (by omega)
  have hr : mRng1 (mCons (mCallB 0 2 fn__law_take (mCons (mBinL addD 1 (mPure (.int 1))) (mPure []))) (mPure [])) [.io bs1, .val (.int N), .val (.int W), .val (.int l), .own [], .un] = some (.ok (rngL 0 k) [.io bs2, .val (.int N), .val (.int W), .val (.int l), .own [], .un]) := by
    refine rng1_is ?_ (rngOk_le (by omega) (by omega))
    simp [mSeq, mIf, mBol, mBin, mBinL, mBind, mLift, mPure, mPeek, mVar, ixD, iI, bolD, mAsg, mCall1, mCallN, intD, modD, iIc, cMod, mStore, mStoreO, mDone, gSet, mOwn, mPut, setD, mRet, mDrop, mStuck, mTru, truD, mOrT, mAndT, mNotT, mAnd, mOr, mNot, mIsi, isiT_eq, typD, lenD, mCons, mTup, mLst, mLstN, mVal, oOr, addD, subD, mulD, mulI, iIc, cMul, ltD, leD, gtD, geD, gTupD, gCons2, gsNil, mCallV, mCallB, mRs, tupleD, mRetF, mChain, mScr, mScrLen, mScrIx, mMut, appD, max2D, min2D, mRng1, mRng2, rngD1, rngD2, rngOk, mItems, itemsD, mAsgN, mParEE, mParEN, mUn, negD, mCallN1, listD, unsE, powD, cPow, divD, cDiv, mFor, mSl, mSlL, slD, mNoPart, mPart, intO, mSlN, mSlNL, slN, mRevN, revO, mParNC, e2]
  obtain ⟨ρ', h, bs3, F, u, hb3, g, hl, hq, htot, rfl⟩ := forL_ix (g := mStore 5) (body := L__law_line_0) (fun i ρ => LL N W l i ρ) (rngL 0 k) 0 [.io bs2, .val (.int N), .val (.int W), .val (.int l), .own [], .un] ⟨bs2, [], .un, hb2, gd_nil, rfl, fun _ h => (by cases h), by show (0 : Int) ≤ _; omega, rfl⟩ (by
    intro j d ρ e q
    obtain ⟨rfl, hj⟩ := rngL_get e
    have q' : LL N W l j ρ := by simpa using q
    have := line_turn (t := 0 + (j : Nat)) W0 W1 l0 l1 (by omega) (by omega) q'
    simpa using this)
  have hR : R__law_line_0 [.io bs1, .val (.int N), .val (.int W), .val (.int l), .own [], .un] = some (.ok .nx [.io bs3, .val (.int N), .val (.int W), .val (.int l), .own (F.map pairD), u]) := by
    unfold R__law_line_0 mFor
    rw [bind_is hr]; exact h
  rw [rngL_length] at hl htot
  refine ⟨F, bs3, ?_, hb3, g, by omega, ?_⟩
  · simp [fn__law_line, runB, m__law_line, env0B, mSeq, mIf, mBol, mBin, mBinL, mBind, mLift, mPure, mPeek, mVar, ixD, iI, bolD, mAsg, mCall1, mCallN, intD, modD, iIc, cMod, mStore, mStoreO, mDone, gSet, mOwn, mPut, setD, mRet, mDrop, mStuck, mTru, truD, mOrT, mAndT, mNotT, mAnd, mOr, mNot, mIsi, isiT_eq, typD, lenD, mCons, mTup, mLst, mLstN, mVal, oOr, addD, subD, mulD, mulI, iIc, cMul, ltD, leD, gtD, geD, gTupD, gCons2, gsNil, mCallV, mCallB, mRs, tupleD, mRetF, mChain, mScr, mScrLen, mScrIx, mMut, appD, max2D, min2D, mRng1, mRng2, rngD1, rngD2, rngOk, mItems, itemsD, mAsgN, mParEE, mParEN, mUn, negD, mCallN1, listD, unsE, powD, cPow, divD, cDiv, mFor, mSl, mSlL, slD, mNoPart, mPart, intO, mSlN, mSlNL, slN, mRevN, revO, mParNC, mParEN, e1, hR, fit]
  · have : (((0 + (k - 0).toNat : Nat)) : Int) * 4000001 ≤ N * 4000001 := Int.mul_le_mul_of_nonneg_right (by omega) (by omega)
    omega

theorem eqD_ref_ints (ns : List Int) : neD (.tuple (ns.map PyData.int)) (.tuple (ns.map PyData.int)) = some (.bool false) := by
  have h : Sh 1 (.tuple (ns.map PyData.int)) := Sh.tuple fun d hd => by
    obtain ⟨p, _, rfl⟩ := List.mem_map.mp hd
    exact Sh.int p
  have e : PyData.eqvAll (ns.map PyData.int) (ns.map PyData.int) = true := eqvAll_refl _ fun d hd => by
    obtain ⟨p, _, rfl⟩ := List.mem_map.mp hd
    simp [PyData.eqv]
  rw [ne_sh h h (by omega) (by omega)]
  simp [PyData.eqv, e]
theorem cut_right_ok {rs : List Pr} {a : Int} (g : Gd rs) (hl : rs.length ≤ 400) (a0 : 0 ≤ a) (a1 : a ≤ tot rs) : fn__law_cut_right [.tuple (rs.map pairD), .int a] = some (.ok (.bool true)) := by
  have g1 := str0_gd g 0 a
  have g2 := str0_gd g a (tot rs)
  have l1 := str_len 0 a rs 0
  have l2 := str_len a (tot rs) rs 0
  have l3 := high_len rs 0
  have l4 := high_len (strP a (tot rs) 0 rs) 0
  have e1 := long_of_ok (rs := rs) (by omega)
  have e2 := stretch_ok (rs := rs) (b := 0) (e := a) (by omega)
  have e3 := stretch_ok (rs := rs) (b := a) (e := tot rs) (by omega)
  have e4 := joined_ok (as := strP 0 a 0 rs) (bs := strP a (tot rs) 0 rs) (by omega)
  rw [ln_cut g a0 a1] at e4
  have e5 := long_of_ok (rs := strP 0 a 0 rs) (by omega)
  rw [str0_tot g (Int.le_refl _) a0 a1, Int.sub_zero] at e5
  have e6 := is_line_true g1 (by omega)
  have e7 := is_line_true g2 (by omega)
  have e8 := highs_ok (rs := strP 0 a 0 rs) (by omega)
  rw [ln_high1 g a0] at e8
  have e9 := highs_ok (rs := rs) (by omega)
  have e10 := between_ok (ss := highP 0 rs) (b := 0) (e := a) (by omega)
  have e11 := highs_ok (rs := strP a (tot rs) 0 rs) (by omega)
  have e12 := later_of_ok (ss := highP 0 (strP a (tot rs) 0 rs)) (n := a) (by omega)
  rw [ln_high2 g a0] at e12
  have e13 := between_ok (ss := highP 0 rs) (b := a) (e := tot rs) (by omega)
  have n1 := ne_tp rs
  have n2 := ne_tp (bothP (highP 0 rs) (spansP [(0, a)]))
  have n3 := ne_tp (bothP (highP 0 rs) (spansP [(a, tot rs)]))
  by_cases c : a = tot rs
  · generalize bothP (highP 0 rs) (spansP [(0, a)]) = v1 at *
    generalize bothP (highP 0 rs) (spansP [(a, tot rs)]) = v2 at *
    generalize highP 0 (strP a (tot rs) 0 rs) = v3 at *
    generalize strP a (tot rs) 0 rs = v4 at *
    generalize strP 0 a 0 rs = v5 at *
    generalize highP 0 rs = v6 at *
    clear g1 g2 l1 l2 l3 l4
    generalize tot rs = T at *
    subst c
    simp [fn__law_cut_right, runV, m__law_cut_right, env0, mSeq, mIf, mBol, mBin, mBinL, mBind, mLift, mPure, mPeek, mVar, ixD, iI, bolD, mAsg, mCall1, mCallN, intD, modD, iIc, cMod, mStore, mStoreO, mDone, gSet, mOwn, mPut, setD, mRet, mDrop, mStuck, mTru, truD, mOrT, mAndT, mNotT, mAnd, mOr, mNot, mIsi, isiT_eq, typD, lenD, mCons, mTup, mLst, mLstN, mVal, oOr, addD, subD, mulD, mulI, iIc, cMul, ltD, leD, gtD, geD, gTupD, gCons2, gsNil, mCallV, mCallB, mRs, tupleD, mRetF, mChain, mScr, mScrLen, mScrIx, mMut, appD, max2D, min2D, mRng1, mRng2, rngD1, rngD2, rngOk, mItems, itemsD, mAsgN, mParEE, mParEN, mUn, negD, mCallN1, listD, unsE, powD, cPow, divD, cDiv, mFor, mSl, mSlL, slD, mNoPart, mPart, intO, mSlN, mSlNL, slN, mRevN, revO, mParNC, e1, e2, e3, e4, e5, e6, e7, e8, e9, e10, e11, e12, e13, n1, n2, n3, ne_int, eq_int]
  · obtain ⟨l, el, _⟩ := lv_some g a0 (show a < tot rs by omega)
    have e14 := level_at_ok g (by omega) el
    have e15 := stretch_ok (rs := rs) (b := a) (e := a + 1) (by omega)
    rw [ln_one g a0 el] at e15
    have e15' : fn_stretch [.tuple (rs.map pairD), .int a, .int (a + 1)] = some (.ok (.tuple [.tuple [.int l, .int 1]])) := e15
    have e16 := is_in_ok (ss := highP 0 rs) (m := a) (by omega)
    rw [ln_in g el] at e16
    have n4 : eqD (.tuple [.tuple [.int l, .int 1]]) (.tuple [.tuple [.int l, .int 1]]) = some (.bool true) := eq_tp [(l, 1)]
    have n5 : eqD (.bool (decide (l = 1))) (.bool (decide (l = 1))) = some (.bool true) := by
      generalize decide (l = 1) = b
      cases b <;> simp [eqD, sh_bool] <;> decide +kernel
    generalize bothP (highP 0 rs) (spansP [(0, a)]) = v1 at *
    generalize bothP (highP 0 rs) (spansP [(a, tot rs)]) = v2 at *
    generalize highP 0 (strP a (tot rs) 0 rs) = v3 at *
    generalize strP a (tot rs) 0 rs = v4 at *
    generalize strP 0 a 0 rs = v5 at *
    generalize highP 0 rs = v6 at *
    simp [fn__law_cut_right, runV, m__law_cut_right, env0, mSeq, mIf, mBol, mBin, mBinL, mBind, mLift, mPure, mPeek, mVar, ixD, iI, bolD, mAsg, mCall1, mCallN, intD, modD, iIc, cMod, mStore, mStoreO, mDone, gSet, mOwn, mPut, setD, mRet, mDrop, mStuck, mTru, truD, mOrT, mAndT, mNotT, mAnd, mOr, mNot, mIsi, isiT_eq, typD, lenD, mCons, mTup, mLst, mLstN, mVal, oOr, addD, subD, mulD, mulI, iIc, cMul, ltD, leD, gtD, geD, gTupD, gCons2, gsNil, mCallV, mCallB, mRs, tupleD, mRetF, mChain, mScr, mScrLen, mScrIx, mMut, appD, max2D, min2D, mRng1, mRng2, rngD1, rngD2, rngOk, mItems, itemsD, mAsgN, mParEE, mParEN, mUn, negD, mCallN1, listD, unsE, powD, cPow, divD, cDiv, mFor, mSl, mSlL, slD, mNoPart, mPart, intO, mSlN, mSlNL, slN, mRevN, revO, mParNC, fit, e1, e2, e3, e4, e5, e6, e7, e8, e9, e10, e11, e12, e13, e14, e15', e16, n1, n2, n3, n4, n5, ne_int, eq_int, c]
theorem turned_right_ok {rs : List Pr} (g : Gd rs) (hl : rs.length ≤ 400) : fn__law_turned_right [.tuple (rs.map pairD)] = some (.ok (.bool true)) := by
  have gt := turn_gd g
  have lt : (turnP rs).length = rs.length := by unfold turnP; rw [List.length_map]
  have l3 := high_len rs 0
  have l4 := high_len (turnP rs) 0
  have e1 := long_of_ok (rs := rs) (by omega)
  have e2 := turned_ok (rs := rs) (by omega)
  have e3 := turned_ok (rs := turnP rs) (by omega)
  rw [turn_turn] at e3
  have e4 := rises_ok (rs := turnP rs) (by omega)
  have e5 := falls_ok (rs := turnP rs) (by omega)
  rw [beg_turn, show (1 : Int) - 1 = 0 by decide] at e4
  rw [beg_turn, show (1 : Int) - 0 = 1 by decide] at e5
  have e6 := rises_ok (rs := rs) (by omega)
  have e7 := falls_ok (rs := rs) (by omega)
  have e8 := highs_ok (rs := turnP rs) (by omega)
  have e9 := highs_ok (rs := rs) (by omega)
  have e10 := others_of_ok (ss := highP 0 rs) (below := tot rs) (by omega)
  rw [← ln_turn g] at e10
  have e11 := line_by_ok (ss := highP 0 (turnP rs)) (long := tot rs) (by omega)
  have q := ln_by gt
  rw [turn_tot] at q
  rw [q] at e11
  have e12 := how_many_ok (ss := highP 0 rs) (by omega)
  have e13 := how_many_ok (ss := highP 0 (turnP rs)) (by omega)
  have i1 := high_both rs 0 g
  have n1 := ne_tp rs
  have n2 := eqD_ref_ints (begP 0 0 rs)
  have n3 := eqD_ref_ints (begP 1 0 rs)
  have n4 := ne_tp (highP 0 (turnP rs))
  have n5 := ne_tp (turnP rs)
  obtain ⟨bl, hbl⟩ : ∃ bl : List Int, bl = rs.map fun s => s.2 := ⟨_, rfl⟩
  have et : ∀ rs : List Pr, tot rs = (rs.map fun s => s.2).sum := fun rs => by
    induction rs with
    | nil => rfl
    | cons r rs ih => show r.2 + tot rs = _; rw [ih]; rfl
  have e14 : C__law_turned_right_0 [.val (.tuple (rs.map pairD)), .val (.int (tot rs)), .val (.tuple ((turnP rs).map pairD)), .un, .un] = some (.ok (bl.map PyData.int) [.val (.tuple (rs.map pairD)), .val (.int (tot rs)), .val (.tuple ((turnP rs).map pairD)), .un, .un]) := by
    have e : bl.map PyData.int = rs.map fun s => PyData.int s.2 := by rw [hbl, List.map_map]; rfl
    rw [e]
    refine comp_is (ds := rs.map pairD) (ρ1 := [.val (.tuple (rs.map pairD)), .val (.int (tot rs)), .val (.tuple ((turnP rs).map pairD)), .un, .un]) (ρe := [.val (.tuple (rs.map pairD)), .val (.int (tot rs)), .val (.tuple ((turnP rs).map pairD)), .un, .un]) (by simp [mSeq, mIf, mBol, mBin, mBinL, mBind, mLift, mPure, mPeek, mVar, ixD, iI, bolD, mAsg, mCall1, mCallN, intD, modD, iIc, cMod, mStore, mStoreO, mDone, gSet, mOwn, mPut, setD, mRet, mDrop, mStuck, mTru, truD, mOrT, mAndT, mNotT, mAnd, mOr, mNot, mIsi, isiT_eq, typD, lenD, mCons, mTup, mLst, mLstN, mVal, oOr, addD, subD, mulD, mulI, iIc, cMul, ltD, leD, gtD, geD, gTupD, gCons2, gsNil, mCallV, mCallB, mRs, tupleD, mRetF, mChain, mScr, mScrLen, mScrIx, mMut, appD, max2D, min2D, mRng1, mRng2, rngD1, rngD2, rngOk, mItems, itemsD, mAsgN, mParEE, mParEN, mUn, negD, mCallN1, listD, unsE, powD, cPow, divD, cDiv, mFor, mSl, mSlL, slD, mNoPart, mPart, intO, mSlN, mSlNL, slN, mRevN, revO, mParNC]) (fit_of2 (by rw [List.length_map]; omega)) ?_
    refine go_mapA pairD (fun s => PyData.int s.2) rs fun s _ => ?_
    obtain ⟨a, b⟩ := s
    exact ⟨[.val (.tuple (rs.map pairD)), .val (.int (tot rs)), .val (.tuple ((turnP rs).map pairD)), .val (.int a), .val (.int b)], [.val (.tuple (rs.map pairD)), .val (.int (tot rs)), .val (.tuple ((turnP rs).map pairD)), .val (.int a), .val (.int b)], by simp [mSeq, mIf, mBol, mBin, mBinL, mBind, mLift, mPure, mPeek, mVar, ixD, iI, bolD, mAsg, mCall1, mCallN, intD, modD, iIc, cMod, mStore, mStoreO, mDone, gSet, mOwn, mPut, setD, mRet, mDrop, mStuck, mTru, truD, mOrT, mAndT, mNotT, mAnd, mOr, mNot, mIsi, isiT_eq, typD, lenD, mCons, mTup, mLst, mLstN, mVal, oOr, addD, subD, mulD, mulI, iIc, cMul, ltD, leD, gtD, geD, gTupD, gCons2, gsNil, mCallV, mCallB, mRs, tupleD, mRetF, mChain, mScr, mScrLen, mScrIx, mMut, appD, max2D, min2D, mRng1, mRng2, rngD1, rngD2, rngOk, mItems, itemsD, mAsgN, mParEE, mParEN, mUn, negD, mCallN1, listD, unsE, powD, cPow, divD, cDiv, mFor, mSl, mSlL, slD, mNoPart, mPart, intO, mSlN, mSlNL, slN, mRevN, revO, mParNC, gNamesD, pairD], by simp [mSeq, mIf, mBol, mBin, mBinL, mBind, mLift, mPure, mPeek, mVar, ixD, iI, bolD, mAsg, mCall1, mCallN, intD, modD, iIc, cMod, mStore, mStoreO, mDone, gSet, mOwn, mPut, setD, mRet, mDrop, mStuck, mTru, truD, mOrT, mAndT, mNotT, mAnd, mOr, mNot, mIsi, isiT_eq, typD, lenD, mCons, mTup, mLst, mLstN, mVal, oOr, addD, subD, mulD, mulI, iIc, cMul, ltD, leD, gtD, geD, gTupD, gCons2, gsNil, mCallV, mCallB, mRs, tupleD, mRetF, mChain, mScr, mScrLen, mScrIx, mMut, appD, max2D, min2D, mRng1, mRng2, rngD1, rngD2, rngOk, mItems, itemsD, mAsgN, mParEE, mParEN, mUn, negD, mCallN1, listD, unsE, powD, cPow, divD, cDiv, mFor, mSl, mSlL, slD, mNoPart, mPart, intO, mSlN, mSlNL, slN, mRevN, revO, mParNC], by simp [unsE]⟩
  have e15 : bl.sum = tot rs := by rw [hbl, et]
  generalize begP 0 0 rs = v1 at *
  generalize begP 1 0 rs = v2 at *
  generalize highP 0 (turnP rs) = v3 at *
  generalize turnP rs = v4 at *
  generalize highP 0 rs = v5 at *
  generalize v1.map PyData.int = w1 at *
  generalize v2.map PyData.int = w2 at *
  have s1 : sumD [.list (bl.map PyData.int)] = some (.int bl.sum) := by simp [sumD, toInts_map]
  generalize bl.map PyData.int = w3 at *
  simp [fn__law_turned_right, runV, m__law_turned_right, env0, mSeq, mIf, mBol, mBin, mBinL, mBind, mLift, mPure, mPeek, mVar, ixD, iI, bolD, mAsg, mCall1, mCallN, intD, modD, iIc, cMod, mStore, mStoreO, mDone, gSet, mOwn, mPut, setD, mRet, mDrop, mStuck, mTru, truD, mOrT, mAndT, mNotT, mAnd, mOr, mNot, mIsi, isiT_eq, typD, lenD, mCons, mTup, mLst, mLstN, mVal, oOr, addD, subD, mulD, mulI, iIc, cMul, ltD, leD, gtD, geD, gTupD, gCons2, gsNil, mCallV, mCallB, mRs, tupleD, mRetF, mChain, mScr, mScrLen, mScrIx, mMut, appD, max2D, min2D, mRng1, mRng2, rngD1, rngD2, rngOk, mItems, itemsD, mAsgN, mParEE, mParEN, mUn, negD, mCallN1, listD, unsE, powD, cPow, divD, cDiv, mFor, mSl, mSlL, slD, mNoPart, mPart, intO, mSlN, mSlNL, slN, mRevN, revO, mParNC, e1, e2, e3, e4, e5, e6, e7, e8, e9, e10, e11, e12, e13, n1, n2, n3, n4, n5, i1, e14, s1, e15, eq_int]
theorem slowed_right_ok {rs : List Pr} {t : Int} (g : Gd rs) (hl : rs.length ≤ 400) (t0 : 1 ≤ t) (t1 : t ≤ 10) : fn__law_slowed_right [.tuple (rs.map pairD), .int t] = some (.ok (.bool true)) := by
  have ls : (slowP t rs).length = rs.length := by unfold slowP; rw [List.length_map]
  have l3 := high_len rs 0
  have l4 := beg_len 1 rs 0
  have ht : t.natAbs < 18446744073709551616 := by omega
  have e1 := slowed_ok (rs := rs) (t := t) (by omega) ht
  have e2 := long_of_ok (rs := slowP t rs) (by omega)
  rw [slow_tot] at e2
  have e3 := long_of_ok (rs := rs) (by omega)
  have e4 := rises_ok (rs := slowP t rs) (by omega)
  have b1 := beg_slow 1 t0 rs 0
  rw [Int.mul_zero] at b1
  rw [b1] at e4
  have e5 := rises_ok (rs := rs) (by omega)
  have e6 := highs_ok (rs := slowP t rs) (by omega)
  have b2 := high_slow t rs 0
  rw [Int.mul_zero] at b2
  rw [b2] at e6
  have e7 := highs_ok (rs := rs) (by omega)
  obtain ⟨v1, h1⟩ : ∃ v, v = slowP t rs := ⟨_, rfl⟩
  rw [← h1] at e1 e2 e4 e6
  obtain ⟨v2, h2⟩ : ∃ v, v = begP 1 0 rs := ⟨_, rfl⟩
  rw [← h2] at e4 e5 l4
  obtain ⟨v3, h3⟩ : ∃ v, v = highP 0 rs := ⟨_, rfl⟩
  rw [← h3] at e6 e7 l3
  obtain ⟨v4, h4⟩ : ∃ v, v = v2.map (t * ·) := ⟨_, rfl⟩
  rw [← h4] at e4
  obtain ⟨v5, h5⟩ : ∃ v, v = v3.map fun s : Pr => (t * s.1, t * s.2) := ⟨_, rfl⟩
  rw [← h5] at e6
  have n1 := eqD_ref_ints v4
  have n2 := eq_tp v5
  have e8 : C__law_slowed_right_0 [.val (.tuple (rs.map pairD)), .val (.int t), .val (.tuple (v1.map pairD)), .un, .un, .un] = some (.ok (v4.map PyData.int) [.val (.tuple (rs.map pairD)), .val (.int t), .val (.tuple (v1.map pairD)), .un, .un, .un]) := by
    have e : v4.map PyData.int = v2.map fun s => PyData.int (t * s) := by rw [h4, List.map_map]; rfl
    rw [e]
    refine comp_is (ds := v2.map PyData.int) (ρ1 := [.val (.tuple (rs.map pairD)), .val (.int t), .val (.tuple (v1.map pairD)), .un, .un, .un]) (ρe := [.val (.tuple (rs.map pairD)), .val (.int t), .val (.tuple (v1.map pairD)), .un, .un, .un]) ?_ (fit_of2 (by rw [List.length_map]; omega)) ?_
    · generalize v2.map PyData.int = w at *
      simp [mSeq, mIf, mBol, mBin, mBinL, mBind, mLift, mPure, mPeek, mVar, ixD, iI, bolD, mAsg, mCall1, mCallN, intD, modD, iIc, cMod, mStore, mStoreO, mDone, gSet, mOwn, mPut, setD, mRet, mDrop, mStuck, mTru, truD, mOrT, mAndT, mNotT, mAnd, mOr, mNot, mIsi, isiT_eq, typD, lenD, mCons, mTup, mLst, mLstN, mVal, oOr, addD, subD, mulD, mulI, iIc, cMul, ltD, leD, gtD, geD, gTupD, gCons2, gsNil, mCallV, mCallB, mRs, tupleD, mRetF, mChain, mScr, mScrLen, mScrIx, mMut, appD, max2D, min2D, mRng1, mRng2, rngD1, rngD2, rngOk, mItems, itemsD, mAsgN, mParEE, mParEN, mUn, negD, mCallN1, listD, unsE, powD, cPow, divD, cDiv, mFor, mSl, mSlL, slD, mNoPart, mPart, intO, mSlN, mSlNL, slN, mRevN, revO, mParNC, e5]
    · refine go_mapA PyData.int (fun s => PyData.int (t * s)) v2 fun s _ => ?_
      exact ⟨[.val (.tuple (rs.map pairD)), .val (.int t), .val (.tuple (v1.map pairD)), .un, .un, .val (.int s)], [.val (.tuple (rs.map pairD)), .val (.int t), .val (.tuple (v1.map pairD)), .un, .un, .val (.int s)], by simp [mStore, unsE], by simp [mSeq, mIf, mBol, mBin, mBinL, mBind, mLift, mPure, mPeek, mVar, ixD, iI, bolD, mAsg, mCall1, mCallN, intD, modD, iIc, cMod, mStore, mStoreO, mDone, gSet, mOwn, mPut, setD, mRet, mDrop, mStuck, mTru, truD, mOrT, mAndT, mNotT, mAnd, mOr, mNot, mIsi, isiT_eq, typD, lenD, mCons, mTup, mLst, mLstN, mVal, oOr, addD, subD, mulD, mulI, iIc, cMul, ltD, leD, gtD, geD, gTupD, gCons2, gsNil, mCallV, mCallB, mRs, tupleD, mRetF, mChain, mScr, mScrLen, mScrIx, mMut, appD, max2D, min2D, mRng1, mRng2, rngD1, rngD2, rngOk, mItems, itemsD, mAsgN, mParEE, mParEN, mUn, negD, mCallN1, listD, unsE, powD, cPow, divD, cDiv, mFor, mSl, mSlL, slD, mNoPart, mPart, intO, mSlN, mSlNL, slN, mRevN, revO, mParNC, ht], by simp [unsE]⟩
  have e9 : C__law_slowed_right_1 [.val (.tuple (rs.map pairD)), .val (.int t), .val (.tuple (v1.map pairD)), .un, .un, .un] = some (.ok (v5.map pairD) [.val (.tuple (rs.map pairD)), .val (.int t), .val (.tuple (v1.map pairD)), .un, .un, .un]) := by
    have e : v5.map pairD = v3.map fun s => pairD (t * s.1, t * s.2) := by rw [h5, List.map_map]; rfl
    rw [e]
    refine comp_is (ds := v3.map pairD) (ρ1 := [.val (.tuple (rs.map pairD)), .val (.int t), .val (.tuple (v1.map pairD)), .un, .un, .un]) (ρe := [.val (.tuple (rs.map pairD)), .val (.int t), .val (.tuple (v1.map pairD)), .un, .un, .un]) ?_ (fit_of2 (by rw [List.length_map]; omega)) ?_
    · simp [mSeq, mIf, mBol, mBin, mBinL, mBind, mLift, mPure, mPeek, mVar, ixD, iI, bolD, mAsg, mCall1, mCallN, intD, modD, iIc, cMod, mStore, mStoreO, mDone, gSet, mOwn, mPut, setD, mRet, mDrop, mStuck, mTru, truD, mOrT, mAndT, mNotT, mAnd, mOr, mNot, mIsi, isiT_eq, typD, lenD, mCons, mTup, mLst, mLstN, mVal, oOr, addD, subD, mulD, mulI, iIc, cMul, ltD, leD, gtD, geD, gTupD, gCons2, gsNil, mCallV, mCallB, mRs, tupleD, mRetF, mChain, mScr, mScrLen, mScrIx, mMut, appD, max2D, min2D, mRng1, mRng2, rngD1, rngD2, rngOk, mItems, itemsD, mAsgN, mParEE, mParEN, mUn, negD, mCallN1, listD, unsE, powD, cPow, divD, cDiv, mFor, mSl, mSlL, slD, mNoPart, mPart, intO, mSlN, mSlNL, slN, mRevN, revO, mParNC, e7]
    · refine go_mapA pairD (fun s => pairD (t * s.1, t * s.2)) v3 fun s _ => ?_
      obtain ⟨a, b⟩ := s
      exact ⟨[.val (.tuple (rs.map pairD)), .val (.int t), .val (.tuple (v1.map pairD)), .val (.int a), .val (.int b), .un], [.val (.tuple (rs.map pairD)), .val (.int t), .val (.tuple (v1.map pairD)), .val (.int a), .val (.int b), .un], by simp [mSeq, mIf, mBol, mBin, mBinL, mBind, mLift, mPure, mPeek, mVar, ixD, iI, bolD, mAsg, mCall1, mCallN, intD, modD, iIc, cMod, mStore, mStoreO, mDone, gSet, mOwn, mPut, setD, mRet, mDrop, mStuck, mTru, truD, mOrT, mAndT, mNotT, mAnd, mOr, mNot, mIsi, isiT_eq, typD, lenD, mCons, mTup, mLst, mLstN, mVal, oOr, addD, subD, mulD, mulI, iIc, cMul, ltD, leD, gtD, geD, gTupD, gCons2, gsNil, mCallV, mCallB, mRs, tupleD, mRetF, mChain, mScr, mScrLen, mScrIx, mMut, appD, max2D, min2D, mRng1, mRng2, rngD1, rngD2, rngOk, mItems, itemsD, mAsgN, mParEE, mParEN, mUn, negD, mCallN1, listD, unsE, powD, cPow, divD, cDiv, mFor, mSl, mSlL, slD, mNoPart, mPart, intO, mSlN, mSlNL, slN, mRevN, revO, mParNC, gNamesD, pairD], by simp [mSeq, mIf, mBol, mBin, mBinL, mBind, mLift, mPure, mPeek, mVar, ixD, iI, bolD, mAsg, mCall1, mCallN, intD, modD, iIc, cMod, mStore, mStoreO, mDone, gSet, mOwn, mPut, setD, mRet, mDrop, mStuck, mTru, truD, mOrT, mAndT, mNotT, mAnd, mOr, mNot, mIsi, isiT_eq, typD, lenD, mCons, mTup, mLst, mLstN, mVal, oOr, addD, subD, mulD, mulI, iIc, cMul, ltD, leD, gtD, geD, gTupD, gCons2, gsNil, mCallV, mCallB, mRs, tupleD, mRetF, mChain, mScr, mScrLen, mScrIx, mMut, appD, max2D, min2D, mRng1, mRng2, rngD1, rngD2, rngOk, mItems, itemsD, mAsgN, mParEE, mParEN, mUn, negD, mCallN1, listD, unsE, powD, cPow, divD, cDiv, mFor, mSl, mSlL, slD, mNoPart, mPart, intO, mSlN, mSlNL, slN, mRevN, revO, mParNC, fit, ht, pairD], by simp [unsE]⟩
  generalize v2.map PyData.int = w2 at *
  generalize v4.map PyData.int = w4 at *
  simp [fn__law_slowed_right, runV, m__law_slowed_right, env0, mSeq, mIf, mBol, mBin, mBinL, mBind, mLift, mPure, mPeek, mVar, ixD, iI, bolD, mAsg, mCall1, mCallN, intD, modD, iIc, cMod, mStore, mStoreO, mDone, gSet, mOwn, mPut, setD, mRet, mDrop, mStuck, mTru, truD, mOrT, mAndT, mNotT, mAnd, mOr, mNot, mIsi, isiT_eq, typD, lenD, mCons, mTup, mLst, mLstN, mVal, oOr, addD, subD, mulD, mulI, iIc, cMul, ltD, leD, gtD, geD, gTupD, gCons2, gsNil, mCallV, mCallB, mRs, tupleD, mRetF, mChain, mScr, mScrLen, mScrIx, mMut, appD, max2D, min2D, mRng1, mRng2, rngD1, rngD2, rngOk, mItems, itemsD, mAsgN, mParEE, mParEN, mUn, negD, mCallN1, listD, unsE, powD, cPow, divD, cDiv, mFor, mSl, mSlL, slD, mNoPart, mPart, intO, mSlN, mSlNL, slN, mRevN, revO, mParNC, e1, e2, e3, e4, e5, e6, e7, e8, e9, n1, n2, ne_int, ht]

theorem begs_bd (w : Int) {rs : List Pr} (g : Gd rs) : ∀ m ∈ begP w 0 rs, 0 ≤ m ∧ m ≤ tot rs := fun m hm => by
  obtain ⟨a, b, c, _⟩ := (beg_mem w rs 0 g (Int.le_refl _) m).mp hm
  rw [Int.sub_zero] at c
  have := lv_range g c
  omega
def LS (ns : List Int) (k : D) (rs os : List Pr) (bl : List D) (ρ : En) : Prop := ∃ (bs : List D) (x y z u v : Sl), Bx bs ∧ ρ = [.scr ns, .val k, .own bs, .val (.tuple (rs.map pairD)), .val (.tuple (os.map pairD)), .val (.int (tot rs)), .val (.list bl), x, y, z, u, v]
theorem turn5 {ns : List Int} {k : D} {rs os : List Pr} {bl : List D} {ρ : En} {t : Int} (g : Gd rs) (hl : rs.length ≤ 400) (htot : tot rs ≤ 1000000000) (hb0 : bl.length ≤ 1000) (hb1 : 0 < bl.length) (hb : ∀ d ∈ bl, ∃ i : Int, d = .int i ∧ 0 ≤ i ∧ i ≤ tot rs) (h : LS ns k rs os bl ρ) : ∃ ρ1 ρ2, mStore 7 (.int t) ρ = some (.ok () ρ1) ∧ (L_law_0 ρ1 = some (.ok .nx ρ2) ∨ L_law_0 ρ1 = some (.ok .ct ρ2)) ∧ LS ns k rs os bl ρ2 := by
  obtain ⟨bs, x, y, z, u10, u11, hbx, rfl⟩ := h
  have t0 := tot_nn g
  obtain ⟨r, bs1, e1, r0, r1, hb1'⟩ := take_ok (m := (bl.length : Nat)) hbx (by omega) (by omega)
  obtain ⟨d, hd, e2⟩ := ix_in (ds := bl) r0 r1
  obtain ⟨i, rfl, i0, i1⟩ := hb d hd
  obtain ⟨q, bs2, e3, q0, q1, hb2⟩ := take_ok (m := 3) hb1' (by omega) (by omega)
  obtain ⟨v, bs3, e4, v0, v1, hb3⟩ := take_ok (m := tot rs + 1) hb2 (by omega) (by omega)
  obtain ⟨w, bs4, e5, w0, w1, hb4⟩ := take_ok (m := 2) hb3 (by omega) (by omega)
  have hm : min2D [.int (tot rs), .int (i + q - 1)] = some (.int (mnI (tot rs) (i + q - 1))) := rfl
  have hM : max2D [.int 0, .int (mnI (tot rs) (i + q - 1))] = some (.int (mxI 0 (mnI (tot rs) (i + q - 1)))) := rfl
  have p1 := mnI_p (tot rs) (i + q - 1)
  have p2 := mxI_p 0 (mnI (tot rs) (i + q - 1))
  have hA : ∃ A : Int, atI [PyData.int (mxI 0 (mnI (tot rs) (i + q - 1))), .int v] w = some (.int A) ∧ 0 ≤ A ∧ A ≤ tot rs := by
    obtain ⟨d, hd, e⟩ := ix_in (ds := [PyData.int (mxI 0 (mnI (tot rs) (i + q - 1))), .int v]) w0 (by simpa using w1)
    simp only [List.mem_cons, List.not_mem_nil, or_false] at hd
    rcases hd with rfl | rfl
    · exact ⟨_, e, by omega, by omega⟩
    · exact ⟨_, e, by omega, by omega⟩
  obtain ⟨A, e6, A0, A1⟩ := hA
  have e7 := cut_right_ok g hl A0 A1
  refine ⟨[.scr ns, .val k, .own bs, .val (.tuple (rs.map pairD)), .val (.tuple (os.map pairD)), .val (.int (tot rs)), .val (.list bl), .val (.int t), y, z, u10, u11], [.scr ns, .val k, .own bs4, .val (.tuple (rs.map pairD)), .val (.tuple (os.map pairD)), .val (.int (tot rs)), .val (.list bl), .val (.int t), .val (.int (i + q - 1)), .val (.int A), u10, u11], by simp [mStore], .inl ?_, bs4, _, _, _, _, _, hb4, rfl⟩
  simp [L_law_0, mSeq, mIf, mBol, mBin, mBinL, mBind, mLift, mPure, mPeek, mVar, ixD, iI, bolD, mAsg, mCall1, mCallN, intD, modD, iIc, cMod, mStore, mStoreO, mDone, gSet, mOwn, mPut, setD, mRet, mDrop, mStuck, mTru, truD, mOrT, mAndT, mNotT, mAnd, mOr, mNot, mIsi, isiT_eq, typD, lenD, mCons, mTup, mLst, mLstN, mVal, oOr, addD, subD, mulD, mulI, iIc, cMul, ltD, leD, gtD, geD, gTupD, gCons2, gsNil, mCallV, mCallB, mRs, tupleD, mRetF, mChain, mScr, mScrLen, mScrIx, mMut, appD, mRng1, mRng2, rngD1, rngD2, rngOk, mItems, itemsD, mAsgN, mParEE, mParEN, mUn, negD, mCallN1, listD, unsE, powD, cPow, divD, cDiv, mFor, mSl, mSlL, slD, mNoPart, mPart, intO, mSlN, mSlNL, slN, mRevN, revO, mParNC, fit, e1, e2, e3, e4, e5, hm, hM, e6, e7]
theorem cell_ok {ns : List Int} {k : Int} (a b c d e f g h i j : Sl) (h0 : 0 ≤ k) (h1 : k < 1000) : ∃ a' b' c' d' e' f' g' h' i' j', L_law_1 [.scr ns, .val (.int k), a, b, c, d, e, f, g, h, i, j] = some (.ok .nx [.scr ns, .val (.int k), a', b', c', d', e', f', g', h', i', j']) := by
  obtain ⟨bx, e1, hb⟩ := box_ok ns k h0 h1
  obtain ⟨r, bx1, e2, r0, r1, hb1⟩ := take_ok (m := 2) hb (by omega) (by omega)
  have hN : ∃ N : Int, atI [PyData.int 9, .int 200] r = some (.int N) ∧ 0 ≤ N ∧ N ≤ 200 := by
    obtain ⟨d, hd, q⟩ := ix_in (ds := [PyData.int 9, .int 200]) r0 (by simpa using r1)
    simp only [List.mem_cons, List.not_mem_nil, or_false] at hd
    rcases hd with rfl | rfl
    · exact ⟨_, q, by omega, by omega⟩
    · exact ⟨_, q, by omega, by omega⟩
  obtain ⟨N, e3, N0, N1⟩ := hN
  obtain ⟨rs, bx2, e4, hb2, gr, lr, tr⟩ := line_ok (N := N) (W := 2000000) hb1 N0 (by omega) (by omega) (by omega)
  obtain ⟨os, bx3, e5, hb3, go, lo, to⟩ := line_ok (N := 9) (W := 4000000) hb2 (by omega) (by omega) (by omega) (by omega)
  have tr0 := tot_nn gr
  have e6 := long_of_ok (rs := rs) (by omega)
  have e7 := rises_ok (rs := rs) (by omega)
  have e8 := falls_ok (rs := rs) (by omega)
  have lb1 := beg_len 1 rs 0
  have lb0 := beg_len 0 rs 0
  have bd1 := begs_bd 1 gr
  have bd0 := begs_bd 0 gr
  obtain ⟨b1, hb1e⟩ : ∃ v, v = (begP 1 0 rs).map PyData.int := ⟨_, rfl⟩
  obtain ⟨b0, hb0e⟩ : ∃ v, v = (begP 0 0 rs).map PyData.int := ⟨_, rfl⟩
  have ll1 : b1.length = (begP 1 0 rs).length := by rw [hb1e, List.length_map]
  have ll0 : b0.length = (begP 0 0 rs).length := by rw [hb0e, List.length_map]
  rw [← hb1e] at e7
  rw [← hb0e] at e8
  obtain ⟨bl, hbl⟩ : ∃ bl : List D, bl = PyData.int 0 :: (b1 ++ (b0 ++ [PyData.int (tot rs)])) := ⟨_, rfl⟩
  have hl : bl.length = 1 + (b1.length + (b0.length + 1)) := by rw [hbl]; simp; omega
  obtain ⟨ρ5, h5, bx4, x, y, z, u, v, hb4, rfl⟩ := forL_inv (g := mStore 7) (body := L_law_0) (LS ns (.int k) rs os bl) (rngL 0 5) [.scr ns, .val (.int k), .own bx3, .val (.tuple (rs.map pairD)), .val (.tuple (os.map pairD)), .val (.int (tot rs)), .val (.list bl), f, g, h, i, j] ⟨bx3, f, g, h, i, j, hb3, rfl⟩ (by
    intro d ρ hd q
    obtain ⟨t, rfl, _, _⟩ := rngL_mem hd
    refine turn5 gr (by omega) (by omega) (by omega) (by omega) (fun d hd => ?_) q
    rw [hbl] at hd
    rcases List.mem_cons.mp hd with rfl | hd
    · exact ⟨0, rfl, by omega, by omega⟩
    · rcases List.mem_append.mp hd with hd | hd
      · rw [hb1e] at hd
        obtain ⟨m, hm, rfl⟩ := List.mem_map.mp hd
        exact ⟨m, rfl, bd1 m hm⟩
      · rcases List.mem_append.mp hd with hd | hd
        · rw [hb0e] at hd
          obtain ⟨m, hm, rfl⟩ := List.mem_map.mp hd
          exact ⟨m, rfl, bd0 m hm⟩
        · rw [List.mem_singleton.mp hd]
          exact ⟨tot rs, rfl, by omega, by omega⟩)
  have hR : R_law_0 [.scr ns, .val (.int k), .own bx3, .val (.tuple (rs.map pairD)), .val (.tuple (os.map pairD)), .val (.int (tot rs)), .val (.list bl), f, g, h, i, j] = some (.ok .nx [.scr ns, .val (.int k), .own bx4, .val (.tuple (rs.map pairD)), .val (.tuple (os.map pairD)), .val (.int (tot rs)), .val (.list bl), x, y, z, u, v]) := by
    have hr : mRng1 (mCons (mPure (.int 5)) (mPure [])) [.scr ns, .val (.int k), .own bx3, .val (.tuple (rs.map pairD)), .val (.tuple (os.map pairD)), .val (.int (tot rs)), .val (.list bl), f, g, h, i, j] = some (.ok (rngL 0 5) [.scr ns, .val (.int k), .own bx3, .val (.tuple (rs.map pairD)), .val (.tuple (os.map pairD)), .val (.int (tot rs)), .val (.list bl), f, g, h, i, j]) := rng1_is (by simp [mCons, mBind, mPure]) (rngOk_le (by omega) (by omega))
    unfold R_law_0 mFor
    rw [bind_is hr]
    exact h5
  have lj := join_len rs os
  have lh1 := high_len rs 0
  have lh2 := high_len os 0
  have ll := later_len (tot rs) (highP 0 os)
  have e9 := joined_ok (as := rs) (bs := os) (by omega)
  have e10 := highs_ok (rs := joinP rs os) (by omega)
  rw [ln_join gr go] at e10
  have e11 := highs_ok (rs := rs) (by omega)
  have e12 := highs_ok (rs := os) (by omega)
  have e13 := later_of_ok (ss := highP 0 os) (n := tot rs) (by omega)
  have e14 := either_of_ok (as := highP 0 rs) (bs := laterP (tot rs) (highP 0 os)) (by omega)
  have e15 := is_line_true (join_ok gr go).1 (by omega)
  have e16 := turned_right_ok gr (by omega)
  obtain ⟨q, bx5, e17, q0, q1, hb5⟩ := take_ok (m := 2) hb4 (by omega) (by omega)
  have e18 := slowed_right_ok (t := 1 + q) gr (by omega) (by omega) (by omega)
  have n1 := ne_tp (spansP (highP 0 rs ++ laterP (tot rs) (highP 0 os)))
  generalize spansP (highP 0 rs ++ laterP (tot rs) (highP 0 os)) = v1 at *
  generalize laterP (tot rs) (highP 0 os) = v2 at *
  generalize highP 0 rs = v3 at *
  generalize highP 0 os = v4 at *
  generalize joinP rs os = v5 at *
  refine ⟨.own bx5, .val (.tuple (rs.map pairD)), .val (.tuple (os.map pairD)), .val (.int (tot rs)), .val (.list bl), x, y, z, .val (.tuple (v5.map pairD)), .val (.int (tot rs)), ?_⟩
  have f1 : 1 + b1.length ≤ 16000000 := by omega
  have f2 : 1 + b1.length + b0.length ≤ 16000000 := by omega
  have f3 : 1 + b1.length + b0.length + 1 ≤ 16000000 := by omega
  have g1 : b1.length + 1 ≤ 16000000 := by omega
  have g2 : b1.length + 1 + b0.length ≤ 16000000 := by omega
  have g3 : b1.length + b0.length + 1 ≤ 16000000 := by omega
  have g4 : b1.length + b0.length + 1 + 1 ≤ 16000000 := by omega
  have g5 : b1.length + (b0.length + 1) + 1 ≤ 16000000 := by omega
  have g6 : b1.length + 1 + (b0.length + 1) ≤ 16000000 := by omega
  simp [L_law_1, mAsgS, mSeq, mIf, mBol, mBin, mBinL, mBind, mLift, mPure, mPeek, mVar, ixD, iI, bolD, mAsg, mCall1, mCallN, intD, modD, iIc, cMod, mStore, mStoreO, mDone, gSet, mOwn, mPut, setD, mRet, mDrop, mStuck, mTru, truD, mOrT, mAndT, mNotT, mAnd, mOr, mNot, mIsi, isiT_eq, typD, lenD, mCons, mTup, mLst, mLstN, mVal, oOr, addD, subD, mulD, mulI, iIc, cMul, ltD, leD, gtD, geD, gTupD, gCons2, gsNil, mCallV, mCallB, mRs, tupleD, mRetF, mChain, mScr, mScrLen, mScrIx, mMut, appD, max2D, min2D, mRng1, mRng2, rngD1, rngD2, rngOk, mItems, itemsD, mAsgN, mParEE, mParEN, mUn, negD, mCallN1, listD, unsE, powD, cPow, divD, cDiv, mFor, mSl, mSlL, slD, mNoPart, mPart, intO, mSlN, mSlNL, slN, mRevN, revO, mParNC, fit, e1, e2, e3, e4, e5, e6, e7, e8, catL, f1, f2, f3, g1, g2, g3, g4, g5, g6]
  simp only [← hbl, hR]
  simp [mSeq, mIf, mBol, mBin, mBinL, mBind, mLift, mPure, mPeek, mVar, ixD, iI, bolD, mAsg, mCall1, mCallN, intD, modD, iIc, cMod, mStore, mStoreO, mDone, gSet, mOwn, mPut, setD, mRet, mDrop, mStuck, mTru, truD, mOrT, mAndT, mNotT, mAnd, mOr, mNot, mIsi, isiT_eq, typD, lenD, mCons, mTup, mLst, mLstN, mVal, oOr, addD, subD, mulD, mulI, iIc, cMul, ltD, leD, gtD, geD, gTupD, gCons2, gsNil, mCallV, mCallB, mRs, tupleD, mRetF, mChain, mScr, mScrLen, mScrIx, mMut, appD, max2D, min2D, mRng1, mRng2, rngD1, rngD2, rngOk, mItems, itemsD, mAsgN, mParEE, mParEN, mUn, negD, mCallN1, listD, unsE, powD, cPow, divD, cDiv, mFor, mSl, mSlL, slD, mNoPart, mPart, intO, mSlN, mSlNL, slN, mRevN, revO, mParNC, e9, e10, e11, e12, e13, e14, e15, e16, e17, e18, n1]
theorem law_true (ns : List Int) (hn : ns.length ≤ 63) : fn_law ns = some (.ok (.bool true)) := by
  have hM : ∃ M : Int, 0 ≤ M ∧ M ≤ 5 ∧ mRng1 (mCons (mCallN max2D (mCons (mPure (.int 2)) (mCons (mCallN min2D (mCons (mPure (.int 5)) (mCons (mScrLen 0) (mPure [])))) (mPure [])))) (mPure [])) [.scr ns, .un, .un, .un, .un, .un, .un, .un, .un, .un, .un, .un] = some (.ok (rngL 0 M) [.scr ns, .un, .un, .un, .un, .un, .un, .un, .un, .un, .un, .un]) := by
    have h0 : ∃ M : Int, 0 ≤ M ∧ M ≤ 5 ∧ max2D [.int 2, .int (if (ns.length : Int) < 5 then (ns.length : Int) else 5)] = some (.int M) :=
      ⟨_, by split <;> split <;> omega, by split <;> split <;> omega, rfl⟩
    obtain ⟨M, h1, h2, h3⟩ := h0
    refine ⟨M, h1, h2, rng1_is ?_ (rngOk_le (by omega) (by omega))⟩
    simp [mCons, mCallN, min2D, mBind, mPure, mLift, mScrLen, mScr, h3]
  obtain ⟨M, h1, h2, hr⟩ := hM
  obtain ⟨ρ', h, _⟩ := forL_inv (g := mStore 1) (body := L_law_1) (fun ρ => ∃ z a b c d e f g h i j, ρ = [.scr ns, z, a, b, c, d, e, f, g, h, i, j]) (rngL 0 M) [.scr ns, .un, .un, .un, .un, .un, .un, .un, .un, .un, .un, .un] ⟨_, _, _, _, _, _, _, _, _, _, _, rfl⟩ (by
    rintro x ρ hd ⟨z, a, b, c, d, e, f, g, h, i, j, rfl⟩
    obtain ⟨t, rfl, t0, t1⟩ := rngL_mem hd
    obtain ⟨a', b', c', d', e', f', g', h', i', j', q⟩ := cell_ok (ns := ns) (k := t) a b c d e f g h i j t0 (by omega)
    exact ⟨_, _, by simp [mStore], Or.inl q, _, _, _, _, _, _, _, _, _, _, _, rfl⟩)
  have hR : R_law_1 [.scr ns, .un, .un, .un, .un, .un, .un, .un, .un, .un, .un, .un] = some (.ok .nx ρ') := by
    unfold R_law_1 mFor
    rw [bind_is hr]
    exact h
  simp [fn_law, runL, m_law, env0S, mSeq, mIf, mBol, mBin, mBinL, mBind, mLift, mPure, mPeek, mVar, ixD, iI, bolD, mAsg, mCall1, mCallN, intD, modD, iIc, cMod, mStore, mStoreO, mDone, gSet, mOwn, mPut, setD, mRet, mDrop, mStuck, mTru, truD, mOrT, mAndT, mNotT, mAnd, mOr, mNot, mIsi, isiT_eq, typD, lenD, mCons, mTup, mLst, mLstN, mVal, oOr, addD, subD, mulD, mulI, iIc, cMul, ltD, leD, gtD, geD, gTupD, gCons2, gsNil, mCallV, mCallB, mRs, tupleD, mRetF, mChain, mScr, mScrLen, mScrIx, mMut, appD, max2D, min2D, mRng1, mRng2, rngD1, rngD2, rngOk, mItems, itemsD, mAsgN, mParEE, mParEN, mUn, negD, mCallN1, listD, unsE, powD, cPow, divD, cDiv, mFor, mSl, mSlL, slD, mNoPart, mPart, intO, mSlN, mSlNL, slN, mRevN, revO, mParNC, hR]

end Pf
namespace Pf
open PySem PySem.Spec L2 Dd
theorem all_mk {l : PySem.W.OpenLaw} {w : World} {K : PySem.W.Frag} {h : Heap} {mg : Str → Option Value} {fa f1 f2 f3 f4 f5 f6 f7 f8 f9 f10 f11 f12 f13 f14 f15 f16 f17 f18 f19 f20 f21 f22 f23 f24 f25 f26 f27 f28 f29 f30 f31 : Addr} (X : K.In h) (G : h.Ns mainGlobals mg) (hfa : mg "law" = some (.ref fa))
    {od1 an1 od2 an2 od3 an3 od4 an4 od5 an5 od6 an6 od7 an7 od8 an8 od9 an9 od10 an10 od11 an11 od12 an12 od13 an13 od14 an14 od15 an15 od16 an16 od17 an17 od18 an18 od19 an19 od20 an20 od21 an21 od22 an22 od23 an23 od24 an24 od25 an25 od26 an26 od27 an27 od28 an28 od29 an29 od30 an30 od31 an31 : Option Addr} {sl1 sl2 sl3 sl4 sl5 sl6 sl7 sl8 sl9 sl10 sl11 sl12 sl13 sl14 sl15 sl16 sl17 sl18 sl19 sl20 sl21 sl22 sl23 sl24 sl25 sl26 sl27 sl28 sl29 sl30 sl31 : Array (Option Value)} {oc1 kV1 dc1 pm1 cd1 ct1 oc2 kV2 dc2 pm2 cd2 ct2 oc3 kV3 dc3 pm3 cd3 ct3 oc4 kV4 dc4 pm4 cd4 ct4 oc5 kV5 dc5 pm5 cd5 ct5 oc6 kV6 dc6 pm6 cd6 ct6 oc7 kV7 dc7 pm7 cd7 ct7 oc8 kV8 dc8 pm8 cd8 ct8 oc9 kV9 dc9 pm9 cd9 ct9 oc10 kV10 dc10 pm10 cd10 ct10 oc11 kV11 dc11 pm11 cd11 ct11 oc12 kV12 dc12 pm12 cd12 ct12 oc13 kV13 dc13 pm13 cd13 ct13 oc14 kV14 dc14 pm14 cd14 ct14 oc15 kV15 dc15 pm15 cd15 ct15 oc16 kV16 dc16 pm16 cd16 ct16 oc17 kV17 dc17 pm17 cd17 ct17 oc18 kV18 dc18 pm18 cd18 ct18 oc19 kV19 dc19 pm19 cd19 ct19 oc20 kV20 dc20 pm20 cd20 ct20 oc21 kV21 dc21 pm21 cd21 ct21 oc22 kV22 dc22 pm22 cd22 ct22 oc23 kV23 dc23 pm23 cd23 ct23 oc24 kV24 dc24 pm24 cd24 ct24 oc25 kV25 dc25 pm25 cd25 ct25 oc26 kV26 dc26 pm26 cd26 ct26 oc27 kV27 dc27 pm27 cd27 ct27 oc28 kV28 dc28 pm28 cd28 ct28 oc29 kV29 dc29 pm29 cd29 ct29 oc30 kV30 dc30 pm30 cd30 ct30 oc31 kV31 dc31 pm31 cd31 ct31 : Value}
    (a1 : PySem.W.nsIn K mainGlobals "is_whole" = some (some (.ref f1))) (l1 : K.lookup f1 = some ⟨oc1, od1, .func (PySem.W.fnOf "is_whole" "is_whole" (defArgs s_is_whole) (defBody s_is_whole) (defScope s_is_whole) .none kV1 dc1 pm1 an1 cd1 ct1), sl1⟩) (c1 : PySem.W.codeIn K cd1 "is_whole" = true) (k1 : PySem.W.keepIn K (.ref f1) = true)
    (a2 : PySem.W.nsIn K mainGlobals "_is_run" = some (some (.ref f2))) (l2 : K.lookup f2 = some ⟨oc2, od2, .func (PySem.W.fnOf "_is_run" "_is_run" (defArgs s__is_run) (defBody s__is_run) (defScope s__is_run) .none kV2 dc2 pm2 an2 cd2 ct2), sl2⟩) (c2 : PySem.W.codeIn K cd2 "_is_run" = true) (k2 : PySem.W.keepIn K (.ref f2) = true)
    (a3 : PySem.W.nsIn K mainGlobals "is_line" = some (some (.ref f3))) (l3 : K.lookup f3 = some ⟨oc3, od3, .func (PySem.W.fnOf "is_line" "is_line" (defArgs s_is_line) (defBody s_is_line) (defScope s_is_line) .none kV3 dc3 pm3 an3 cd3 ct3), sl3⟩) (c3 : PySem.W.codeIn K cd3 "is_line" = true) (k3 : PySem.W.keepIn K (.ref f3) = true)
    (a4 : PySem.W.nsIn K mainGlobals "long_of" = some (some (.ref f4))) (l4 : K.lookup f4 = some ⟨oc4, od4, .func (PySem.W.fnOf "long_of" "long_of" (defArgs s_long_of) (defBody s_long_of) (defScope s_long_of) .none kV4 dc4 pm4 an4 cd4 ct4), sl4⟩) (c4 : PySem.W.codeIn K cd4 "long_of" = true) (k4 : PySem.W.keepIn K (.ref f4) = true)
    (a5 : PySem.W.nsIn K mainGlobals "level_by" = some (some (.ref f5))) (l5 : K.lookup f5 = some ⟨oc5, od5, .func (PySem.W.fnOf "level_by" "level_by" (defArgs s_level_by) (defBody s_level_by) (defScope s_level_by) .none kV5 dc5 pm5 an5 cd5 ct5), sl5⟩) (c5 : PySem.W.codeIn K cd5 "level_by" = true) (k5 : PySem.W.keepIn K (.ref f5) = true)
    (a6 : PySem.W.nsIn K mainGlobals "ends_of" = some (some (.ref f6))) (l6 : K.lookup f6 = some ⟨oc6, od6, .func (PySem.W.fnOf "ends_of" "ends_of" (defArgs s_ends_of) (defBody s_ends_of) (defScope s_ends_of) .none kV6 dc6 pm6 an6 cd6 ct6), sl6⟩) (c6 : PySem.W.codeIn K cd6 "ends_of" = true) (k6 : PySem.W.keepIn K (.ref f6) = true)
    (a7 : PySem.W.nsIn K mainGlobals "level_at" = some (some (.ref f7))) (l7 : K.lookup f7 = some ⟨oc7, od7, .func (PySem.W.fnOf "level_at" "level_at" (defArgs s_level_at) (defBody s_level_at) (defScope s_level_at) .none kV7 dc7 pm7 an7 cd7 ct7), sl7⟩) (c7 : PySem.W.codeIn K cd7 "level_at" = true) (k7 : PySem.W.keepIn K (.ref f7) = true)
    (a8 : PySem.W.nsIn K mainGlobals "highs" = some (some (.ref f8))) (l8 : K.lookup f8 = some ⟨oc8, od8, .func (PySem.W.fnOf "highs" "highs" (defArgs s_highs) (defBody s_highs) (defScope s_highs) .none kV8 dc8 pm8 an8 cd8 ct8), sl8⟩) (c8 : PySem.W.codeIn K cd8 "highs" = true) (k8 : PySem.W.keepIn K (.ref f8) = true)
    (a9 : PySem.W.nsIn K mainGlobals "line_by" = some (some (.ref f9))) (l9 : K.lookup f9 = some ⟨oc9, od9, .func (PySem.W.fnOf "line_by" "line_by" (defArgs s_line_by) (defBody s_line_by) (defScope s_line_by) .none kV9 dc9 pm9 an9 cd9 ct9), sl9⟩) (c9 : PySem.W.codeIn K cd9 "line_by" = true) (k9 : PySem.W.keepIn K (.ref f9) = true)
    (a10 : PySem.W.nsIn K mainGlobals "_begins" = some (some (.ref f10))) (l10 : K.lookup f10 = some ⟨oc10, od10, .func (PySem.W.fnOf "_begins" "_begins" (defArgs s__begins) (defBody s__begins) (defScope s__begins) .none kV10 dc10 pm10 an10 cd10 ct10), sl10⟩) (c10 : PySem.W.codeIn K cd10 "_begins" = true) (k10 : PySem.W.keepIn K (.ref f10) = true)
    (a11 : PySem.W.nsIn K mainGlobals "rises" = some (some (.ref f11))) (l11 : K.lookup f11 = some ⟨oc11, od11, .func (PySem.W.fnOf "rises" "rises" (defArgs s_rises) (defBody s_rises) (defScope s_rises) .none kV11 dc11 pm11 an11 cd11 ct11), sl11⟩) (c11 : PySem.W.codeIn K cd11 "rises" = true) (k11 : PySem.W.keepIn K (.ref f11) = true)
    (a12 : PySem.W.nsIn K mainGlobals "falls" = some (some (.ref f12))) (l12 : K.lookup f12 = some ⟨oc12, od12, .func (PySem.W.fnOf "falls" "falls" (defArgs s_falls) (defBody s_falls) (defScope s_falls) .none kV12 dc12 pm12 an12 cd12 ct12), sl12⟩) (c12 : PySem.W.codeIn K cd12 "falls" = true) (k12 : PySem.W.keepIn K (.ref f12) = true)
    (a13 : PySem.W.nsIn K mainGlobals "joined" = some (some (.ref f13))) (l13 : K.lookup f13 = some ⟨oc13, od13, .func (PySem.W.fnOf "joined" "joined" (defArgs s_joined) (defBody s_joined) (defScope s_joined) .none kV13 dc13 pm13 an13 cd13 ct13), sl13⟩) (c13 : PySem.W.codeIn K cd13 "joined" = true) (k13 : PySem.W.keepIn K (.ref f13) = true)
    (a14 : PySem.W.nsIn K mainGlobals "stretch" = some (some (.ref f14))) (l14 : K.lookup f14 = some ⟨oc14, od14, .func (PySem.W.fnOf "stretch" "stretch" (defArgs s_stretch) (defBody s_stretch) (defScope s_stretch) .none kV14 dc14 pm14 an14 cd14 ct14), sl14⟩) (c14 : PySem.W.codeIn K cd14 "stretch" = true) (k14 : PySem.W.keepIn K (.ref f14) = true)
    (a15 : PySem.W.nsIn K mainGlobals "turned" = some (some (.ref f15))) (l15 : K.lookup f15 = some ⟨oc15, od15, .func (PySem.W.fnOf "turned" "turned" (defArgs s_turned) (defBody s_turned) (defScope s_turned) .none kV15 dc15 pm15 an15 cd15 ct15), sl15⟩) (c15 : PySem.W.codeIn K cd15 "turned" = true) (k15 : PySem.W.keepIn K (.ref f15) = true)
    (a16 : PySem.W.nsIn K mainGlobals "slowed" = some (some (.ref f16))) (l16 : K.lookup f16 = some ⟨oc16, od16, .func (PySem.W.fnOf "slowed" "slowed" (defArgs s_slowed) (defBody s_slowed) (defScope s_slowed) .none kV16 dc16 pm16 an16 cd16 ct16), sl16⟩) (c16 : PySem.W.codeIn K cd16 "slowed" = true) (k16 : PySem.W.keepIn K (.ref f16) = true)
    (a17 : PySem.W.nsIn K mainGlobals "spans_of" = some (some (.ref f17))) (l17 : K.lookup f17 = some ⟨oc17, od17, .func (PySem.W.fnOf "spans_of" "spans_of" (defArgs s_spans_of) (defBody s_spans_of) (defScope s_spans_of) .none kV17 dc17 pm17 an17 cd17 ct17), sl17⟩) (c17 : PySem.W.codeIn K cd17 "spans_of" = true) (k17 : PySem.W.keepIn K (.ref f17) = true)
    (a18 : PySem.W.nsIn K mainGlobals "both_of" = some (some (.ref f18))) (l18 : K.lookup f18 = some ⟨oc18, od18, .func (PySem.W.fnOf "both_of" "both_of" (defArgs s_both_of) (defBody s_both_of) (defScope s_both_of) .none kV18 dc18 pm18 an18 cd18 ct18), sl18⟩) (c18 : PySem.W.codeIn K cd18 "both_of" = true) (k18 : PySem.W.keepIn K (.ref f18) = true)
    (a19 : PySem.W.nsIn K mainGlobals "either_of" = some (some (.ref f19))) (l19 : K.lookup f19 = some ⟨oc19, od19, .func (PySem.W.fnOf "either_of" "either_of" (defArgs s_either_of) (defBody s_either_of) (defScope s_either_of) .none kV19 dc19 pm19 an19 cd19 ct19), sl19⟩) (c19 : PySem.W.codeIn K cd19 "either_of" = true) (k19 : PySem.W.keepIn K (.ref f19) = true)
    (a20 : PySem.W.nsIn K mainGlobals "others" = some (some (.ref f20))) (l20 : K.lookup f20 = some ⟨oc20, od20, .func (PySem.W.fnOf "others" "others" (defArgs s_others) (defBody s_others) (defScope s_others) .none kV20 dc20 pm20 an20 cd20 ct20), sl20⟩) (c20 : PySem.W.codeIn K cd20 "others" = true) (k20 : PySem.W.keepIn K (.ref f20) = true)
    (a21 : PySem.W.nsIn K mainGlobals "later" = some (some (.ref f21))) (l21 : K.lookup f21 = some ⟨oc21, od21, .func (PySem.W.fnOf "later" "later" (defArgs s_later) (defBody s_later) (defScope s_later) .none kV21 dc21 pm21 an21 cd21 ct21), sl21⟩) (c21 : PySem.W.codeIn K cd21 "later" = true) (k21 : PySem.W.keepIn K (.ref f21) = true)
    (a22 : PySem.W.nsIn K mainGlobals "between" = some (some (.ref f22))) (l22 : K.lookup f22 = some ⟨oc22, od22, .func (PySem.W.fnOf "between" "between" (defArgs s_between) (defBody s_between) (defScope s_between) .none kV22 dc22 pm22 an22 cd22 ct22), sl22⟩) (c22 : PySem.W.codeIn K cd22 "between" = true) (k22 : PySem.W.keepIn K (.ref f22) = true)
    (a23 : PySem.W.nsIn K mainGlobals "is_in" = some (some (.ref f23))) (l23 : K.lookup f23 = some ⟨oc23, od23, .func (PySem.W.fnOf "is_in" "is_in" (defArgs s_is_in) (defBody s_is_in) (defScope s_is_in) .none kV23 dc23 pm23 an23 cd23 ct23), sl23⟩) (c23 : PySem.W.codeIn K cd23 "is_in" = true) (k23 : PySem.W.keepIn K (.ref f23) = true)
    (a24 : PySem.W.nsIn K mainGlobals "how_many" = some (some (.ref f24))) (l24 : K.lookup f24 = some ⟨oc24, od24, .func (PySem.W.fnOf "how_many" "how_many" (defArgs s_how_many) (defBody s_how_many) (defScope s_how_many) .none kV24 dc24 pm24 an24 cd24 ct24), sl24⟩) (c24 : PySem.W.codeIn K cd24 "how_many" = true) (k24 : PySem.W.keepIn K (.ref f24) = true)
    (a25 : PySem.W.nsIn K mainGlobals "_law_box" = some (some (.ref f25))) (l25 : K.lookup f25 = some ⟨oc25, od25, .func (PySem.W.fnOf "_law_box" "_law_box" (defArgs s__law_box) (defBody s__law_box) (defScope s__law_box) .none kV25 dc25 pm25 an25 cd25 ct25), sl25⟩) (c25 : PySem.W.codeIn K cd25 "_law_box" = true) (k25 : PySem.W.keepIn K (.ref f25) = true)
    (a26 : PySem.W.nsIn K mainGlobals "_law_take" = some (some (.ref f26))) (l26 : K.lookup f26 = some ⟨oc26, od26, .func (PySem.W.fnOf "_law_take" "_law_take" (defArgs s__law_take) (defBody s__law_take) (defScope s__law_take) .none kV26 dc26 pm26 an26 cd26 ct26), sl26⟩) (c26 : PySem.W.codeIn K cd26 "_law_take" = true) (k26 : PySem.W.keepIn K (.ref f26) = true)
    (a27 : PySem.W.nsIn K mainGlobals "_law_line" = some (some (.ref f27))) (l27 : K.lookup f27 = some ⟨oc27, od27, .func (PySem.W.fnOf "_law_line" "_law_line" (defArgs s__law_line) (defBody s__law_line) (defScope s__law_line) .none kV27 dc27 pm27 an27 cd27 ct27), sl27⟩) (c27 : PySem.W.codeIn K cd27 "_law_line" = true) (k27 : PySem.W.keepIn K (.ref f27) = true)
    (a28 : PySem.W.nsIn K mainGlobals "_law_cut_right" = some (some (.ref f28))) (l28 : K.lookup f28 = some ⟨oc28, od28, .func (PySem.W.fnOf "_law_cut_right" "_law_cut_right" (defArgs s__law_cut_right) (defBody s__law_cut_right) (defScope s__law_cut_right) .none kV28 dc28 pm28 an28 cd28 ct28), sl28⟩) (c28 : PySem.W.codeIn K cd28 "_law_cut_right" = true) (k28 : PySem.W.keepIn K (.ref f28) = true)
    (a29 : PySem.W.nsIn K mainGlobals "_law_turned_right" = some (some (.ref f29))) (l29 : K.lookup f29 = some ⟨oc29, od29, .func (PySem.W.fnOf "_law_turned_right" "_law_turned_right" (defArgs s__law_turned_right) (defBody s__law_turned_right) (defScope s__law_turned_right) .none kV29 dc29 pm29 an29 cd29 ct29), sl29⟩) (c29 : PySem.W.codeIn K cd29 "_law_turned_right" = true) (k29 : PySem.W.keepIn K (.ref f29) = true)
    (a30 : PySem.W.nsIn K mainGlobals "_law_slowed_right" = some (some (.ref f30))) (l30 : K.lookup f30 = some ⟨oc30, od30, .func (PySem.W.fnOf "_law_slowed_right" "_law_slowed_right" (defArgs s__law_slowed_right) (defBody s__law_slowed_right) (defScope s__law_slowed_right) .none kV30 dc30 pm30 an30 cd30 ct30), sl30⟩) (c30 : PySem.W.codeIn K cd30 "_law_slowed_right" = true) (k30 : PySem.W.keepIn K (.ref f30) = true)
    (a31 : PySem.W.nsIn K mainGlobals "law" = some (some (.ref f31))) (l31 : K.lookup f31 = some ⟨oc31, od31, .func (PySem.W.fnOf "law" "law" (defArgs s_law) (defBody s_law) (defScope s_law) .none kV31 dc31 pm31 an31 cd31 ct31), sl31⟩) (c31 : PySem.W.codeIn K cd31 "law" = true) (k31 : PySem.W.keepIn K (.ref f31) = true)
    (z1 : PySem.W.nsIn K mainGlobals "all" = some none)
    (z2 : PySem.W.nsIn K mainGlobals "any" = some none)
    (z3 : PySem.W.nsIn K mainGlobals "bool" = some none)
    (z4 : PySem.W.nsIn K mainGlobals "int" = some none)
    (z5 : PySem.W.nsIn K mainGlobals "isinstance" = some none)
    (z6 : PySem.W.nsIn K mainGlobals "len" = some none)
    (z7 : PySem.W.nsIn K mainGlobals "list" = some none)
    (z8 : PySem.W.nsIn K mainGlobals "max" = some none)
    (z9 : PySem.W.nsIn K mainGlobals "min" = some none)
    (z10 : PySem.W.nsIn K mainGlobals "range" = some none)
    (z11 : PySem.W.nsIn K mainGlobals "sorted" = some none)
    (z12 : PySem.W.nsIn K mainGlobals "sum" = some none)
    (z13 : PySem.W.nsIn K mainGlobals "tuple" = some none) :
    ∃ fd : FuncData, (∀ (s : Shared) (v : Value), BindsTo s fd ⟨[v], []⟩ [("_law_script", v)]) ∧ ∀ base : Heap, K.In base → base.Ns mainGlobals mg → FnOk l.prog w K mg base (L2.CX l.prog w) 5 fa fd ["_law_script"] (spL K fn_law) := by
  have e := hfa.symm.trans (PySem.W.mg_of X G a31)
  cases e
  have F1 := fun_mk (st := s_is_whole) l1 c1 k1
  have b1 := F1.binds (ps := ["thing"]) fun _ _ _ _ _ _ us hl => match us, hl with | [_], _ => rfl
  have F2 := fun_mk (st := s__is_run) l2 c2 k2
  have b2 := F2.binds (ps := ["thing"]) fun _ _ _ _ _ _ us hl => match us, hl with | [_], _ => rfl
  have F3 := fun_mk (st := s_is_line) l3 c3 k3
  have b3 := F3.binds (ps := ["thing"]) fun _ _ _ _ _ _ us hl => match us, hl with | [_], _ => rfl
  have F4 := fun_mk (st := s_long_of) l4 c4 k4
  have b4 := F4.binds (ps := ["line"]) fun _ _ _ _ _ _ us hl => match us, hl with | [_], _ => rfl
  have F5 := fun_mk (st := s_level_by) l5 c5 k5
  have b5 := F5.binds (ps := ["line", "ends", "moment"]) fun _ _ _ _ _ _ us hl => match us, hl with | [_, _, _], _ => rfl
  have F6 := fun_mk (st := s_ends_of) l6 c6 k6
  have b6 := F6.binds (ps := ["line"]) fun _ _ _ _ _ _ us hl => match us, hl with | [_], _ => rfl
  have F7 := fun_mk (st := s_level_at) l7 c7 k7
  have b7 := F7.binds (ps := ["line", "moment"]) fun _ _ _ _ _ _ us hl => match us, hl with | [_, _], _ => rfl
  have F8 := fun_mk (st := s_highs) l8 c8 k8
  have b8 := F8.binds (ps := ["line"]) fun _ _ _ _ _ _ us hl => match us, hl with | [_], _ => rfl
  have F9 := fun_mk (st := s_line_by) l9 c9 k9
  have b9 := F9.binds (ps := ["some", "long"]) fun _ _ _ _ _ _ us hl => match us, hl with | [_, _], _ => rfl
  have F10 := fun_mk (st := s__begins) l10 c10 k10
  have b10 := F10.binds (ps := ["line", "wanted"]) fun _ _ _ _ _ _ us hl => match us, hl with | [_, _], _ => rfl
  have F11 := fun_mk (st := s_rises) l11 c11 k11
  have b11 := F11.binds (ps := ["line"]) fun _ _ _ _ _ _ us hl => match us, hl with | [_], _ => rfl
  have F12 := fun_mk (st := s_falls) l12 c12 k12
  have b12 := F12.binds (ps := ["line"]) fun _ _ _ _ _ _ us hl => match us, hl with | [_], _ => rfl
  have F13 := fun_mk (st := s_joined) l13 c13 k13
  have b13 := F13.binds (ps := ["one", "other"]) fun _ _ _ _ _ _ us hl => match us, hl with | [_, _], _ => rfl
  have F14 := fun_mk (st := s_stretch) l14 c14 k14
  have b14 := F14.binds (ps := ["line", "begin", "end"]) fun _ _ _ _ _ _ us hl => match us, hl with | [_, _, _], _ => rfl
  have F15 := fun_mk (st := s_turned) l15 c15 k15
  have b15 := F15.binds (ps := ["line"]) fun _ _ _ _ _ _ us hl => match us, hl with | [_], _ => rfl
  have F16 := fun_mk (st := s_slowed) l16 c16 k16
  have b16 := F16.binds (ps := ["line", "times"]) fun _ _ _ _ _ _ us hl => match us, hl with | [_, _], _ => rfl
  have F17 := fun_mk (st := s_spans_of) l17 c17 k17
  have b17 := F17.binds (ps := ["pairs"]) fun _ _ _ _ _ _ us hl => match us, hl with | [_], _ => rfl
  have F18 := fun_mk (st := s_both_of) l18 c18 k18
  have b18 := F18.binds (ps := ["one", "other"]) fun _ _ _ _ _ _ us hl => match us, hl with | [_, _], _ => rfl
  have F19 := fun_mk (st := s_either_of) l19 c19 k19
  have b19 := F19.binds (ps := ["one", "other"]) fun _ _ _ _ _ _ us hl => match us, hl with | [_, _], _ => rfl
  have F20 := fun_mk (st := s_others) l20 c20 k20
  have b20 := F20.binds (ps := ["some", "below"]) fun _ _ _ _ _ _ us hl => match us, hl with | [_, _], _ => rfl
  have F21 := fun_mk (st := s_later) l21 c21 k21
  have b21 := F21.binds (ps := ["some", "n"]) fun _ _ _ _ _ _ us hl => match us, hl with | [_, _], _ => rfl
  have F22 := fun_mk (st := s_between) l22 c22 k22
  have b22 := F22.binds (ps := ["some", "begin", "end"]) fun _ _ _ _ _ _ us hl => match us, hl with | [_, _, _], _ => rfl
  have F23 := fun_mk (st := s_is_in) l23 c23 k23
  have b23 := F23.binds (ps := ["some", "moment"]) fun _ _ _ _ _ _ us hl => match us, hl with | [_, _], _ => rfl
  have F24 := fun_mk (st := s_how_many) l24 c24 k24
  have b24 := F24.binds (ps := ["some"]) fun _ _ _ _ _ _ us hl => match us, hl with | [_], _ => rfl
  have F25 := fun_mk (st := s__law_box) l25 c25 k25
  have b25 := F25.binds (ps := ["_law_script", "_law_k"]) fun _ _ _ _ _ _ us hl => match us, hl with | [_, _], _ => rfl
  have F26 := fun_mk (st := s__law_take) l26 c26 k26
  have b26 := F26.binds (ps := ["_law_box_here", "_law_many"]) fun _ _ _ _ _ _ us hl => match us, hl with | [_, _], _ => rfl
  have F27 := fun_mk (st := s__law_line) l27 c27 k27
  have b27 := F27.binds (ps := ["_law_box_here", "_law_many", "_law_wide"]) fun _ _ _ _ _ _ us hl => match us, hl with | [_, _, _], _ => rfl
  have F28 := fun_mk (st := s__law_cut_right) l28 c28 k28
  have b28 := F28.binds (ps := ["_law_line_here", "_law_at"]) fun _ _ _ _ _ _ us hl => match us, hl with | [_, _], _ => rfl
  have F29 := fun_mk (st := s__law_turned_right) l29 c29 k29
  have b29 := F29.binds (ps := ["_law_line_here"]) fun _ _ _ _ _ _ us hl => match us, hl with | [_], _ => rfl
  have F30 := fun_mk (st := s__law_slowed_right) l30 c30 k30
  have b30 := F30.binds (ps := ["_law_line_here", "_law_times"]) fun _ _ _ _ _ _ us hl => match us, hl with | [_, _], _ => rfl
  have F31 := fun_mk (st := s_law) l31 c31 k31
  have b31 := F31.binds (ps := ["_law_script"]) fun _ _ _ _ _ _ us hl => match us, hl with | [_], _ => rfl
  let T : Tx K mg := ⟨_, _, F1, PySem.W.mg_of X G a1, b1, _, _, F2, PySem.W.mg_of X G a2, b2, _, _, F3, PySem.W.mg_of X G a3, b3, _, _, F4, PySem.W.mg_of X G a4, b4, _, _, F5, PySem.W.mg_of X G a5, b5, _, _, F6, PySem.W.mg_of X G a6, b6, _, _, F7, PySem.W.mg_of X G a7, b7, _, _, F8, PySem.W.mg_of X G a8, b8, _, _, F9, PySem.W.mg_of X G a9, b9, _, _, F10, PySem.W.mg_of X G a10, b10, _, _, F11, PySem.W.mg_of X G a11, b11, _, _, F12, PySem.W.mg_of X G a12, b12, _, _, F13, PySem.W.mg_of X G a13, b13, _, _, F14, PySem.W.mg_of X G a14, b14, _, _, F15, PySem.W.mg_of X G a15, b15, _, _, F16, PySem.W.mg_of X G a16, b16, _, _, F17, PySem.W.mg_of X G a17, b17, _, _, F18, PySem.W.mg_of X G a18, b18, _, _, F19, PySem.W.mg_of X G a19, b19, _, _, F20, PySem.W.mg_of X G a20, b20, _, _, F21, PySem.W.mg_of X G a21, b21, _, _, F22, PySem.W.mg_of X G a22, b22, _, _, F23, PySem.W.mg_of X G a23, b23, _, _, F24, PySem.W.mg_of X G a24, b24, _, _, F25, PySem.W.mg_of X G a25, b25, _, _, F26, PySem.W.mg_of X G a26, b26, _, _, F27, PySem.W.mg_of X G a27, b27, _, _, F28, PySem.W.mg_of X G a28, b28, _, _, F29, PySem.W.mg_of X G a29, b29, _, _, F30, PySem.W.mg_of X G a30, b30, _, _, F31, PySem.W.mg_of X G a31, b31, PySem.W.mg_none_of X G z1, PySem.W.mg_none_of X G z2, PySem.W.mg_none_of X G z3, PySem.W.mg_none_of X G z4, PySem.W.mg_none_of X G z5, PySem.W.mg_none_of X G z6, PySem.W.mg_none_of X G z7, PySem.W.mg_none_of X G z8, PySem.W.mg_none_of X G z9, PySem.W.mg_none_of X G z10, PySem.W.mg_none_of X G z11, PySem.W.mg_none_of X G z12, PySem.W.mg_none_of X G z13⟩
  exact ⟨_, fun s v => .of_eq rfl, fun base _ _ => ok_law T⟩
end Pf
open PySem PySem.W PyProof.Rows
set_option maxRecDepth 100000 in
set_option maxHeartbeats 0 in
theorem PySem.Challenge.cw_wirelooker_k07_whole_great_lines_holds : PySem.Challenge.rw_wirelooker_k07_whole_great_lines.Holds := by
  w_on; o_law; k_head; (case hw => w_witness2)
  k_fill
  refine L2.walk_of (l := PySem.Challenge.rw_wirelooker_k07_whole_great_lines) (n := 63) (k := 5) (x := "_law_script") (CX := fun w => L2.CX PySem.Challenge.rw_wirelooker_k07_whole_great_lines.prog w) (sp := fun w => Dd.spL _ Pf.fn_law) rfl (by decide) rfl ⟨rfl, by decide, by decide⟩ (fun w h Y => PySem.W.kIn_of Y) ?F (fun _ _ a ns hl _ hS => ⟨a, ns, rfl, hS, Pf.law_true ns hl, fun _ => rfl⟩) (fun _ _ _ _ _ h => Dd.hCX0 h)
  case F =>
    intro w mg fa h KX G hmg
    refine' Pf.all_mk KX G hmg ?a1 ?l1 ?c1 ?k1 ?a2 ?l2 ?c2 ?k2 ?a3 ?l3 ?c3 ?k3 ?a4 ?l4 ?c4 ?k4 ?a5 ?l5 ?c5 ?k5 ?a6 ?l6 ?c6 ?k6 ?a7 ?l7 ?c7 ?k7 ?a8 ?l8 ?c8 ?k8 ?a9 ?l9 ?c9 ?k9 ?a10 ?l10 ?c10 ?k10 ?a11 ?l11 ?c11 ?k11 ?a12 ?l12 ?c12 ?k12 ?a13 ?l13 ?c13 ?k13 ?a14 ?l14 ?c14 ?k14 ?a15 ?l15 ?c15 ?k15 ?a16 ?l16 ?c16 ?k16 ?a17 ?l17 ?c17 ?k17 ?a18 ?l18 ?c18 ?k18 ?a19 ?l19 ?c19 ?k19 ?a20 ?l20 ?c20 ?k20 ?a21 ?l21 ?c21 ?k21 ?a22 ?l22 ?c22 ?k22 ?a23 ?l23 ?c23 ?k23 ?a24 ?l24 ?c24 ?k24 ?a25 ?l25 ?c25 ?k25 ?a26 ?l26 ?c26 ?k26 ?a27 ?l27 ?c27 ?k27 ?a28 ?l28 ?c28 ?k28 ?a29 ?l29 ?c29 ?k29 ?a30 ?l30 ?c30 ?k30 ?a31 ?l31 ?c31 ?k31 ?z1 ?z2 ?z3 ?z4 ?z5 ?z6 ?z7 ?z8 ?z9 ?z10 ?z11 ?z12 ?z13
    (case a1 => k_is); (case l1 => k_is); (case c1 => k_is); (case k1 => k_is); (case a2 => k_is); (case l2 => k_is); (case c2 => k_is); (case k2 => k_is); (case a3 => k_is); (case l3 => k_is); (case c3 => k_is); (case k3 => k_is); (case a4 => k_is); (case l4 => k_is); (case c4 => k_is); (case k4 => k_is); (case a5 => k_is); (case l5 => k_is); (case c5 => k_is); (case k5 => k_is); (case a6 => k_is); (case l6 => k_is); (case c6 => k_is); (case k6 => k_is); (case a7 => k_is); (case l7 => k_is); (case c7 => k_is); (case k7 => k_is); (case a8 => k_is); (case l8 => k_is); (case c8 => k_is); (case k8 => k_is); (case a9 => k_is); (case l9 => k_is); (case c9 => k_is); (case k9 => k_is); (case a10 => k_is); (case l10 => k_is); (case c10 => k_is); (case k10 => k_is); (case a11 => k_is); (case l11 => k_is); (case c11 => k_is); (case k11 => k_is); (case a12 => k_is); (case l12 => k_is); (case c12 => k_is); (case k12 => k_is); (case a13 => k_is); (case l13 => k_is); (case c13 => k_is); (case k13 => k_is); (case a14 => k_is); (case l14 => k_is); (case c14 => k_is); (case k14 => k_is); (case a15 => k_is); (case l15 => k_is); (case c15 => k_is); (case k15 => k_is); (case a16 => k_is); (case l16 => k_is); (case c16 => k_is); (case k16 => k_is); (case a17 => k_is); (case l17 => k_is); (case c17 => k_is); (case k17 => k_is); (case a18 => k_is); (case l18 => k_is); (case c18 => k_is); (case k18 => k_is); (case a19 => k_is); (case l19 => k_is); (case c19 => k_is); (case k19 => k_is); (case a20 => k_is); (case l20 => k_is); (case c20 => k_is); (case k20 => k_is); (case a21 => k_is); (case l21 => k_is); (case c21 => k_is); (case k21 => k_is); (case a22 => k_is); (case l22 => k_is); (case c22 => k_is); (case k22 => k_is); (case a23 => k_is); (case l23 => k_is); (case c23 => k_is); (case k23 => k_is); (case a24 => k_is); (case l24 => k_is); (case c24 => k_is); (case k24 => k_is); (case a25 => k_is); (case l25 => k_is); (case c25 => k_is); (case k25 => k_is); (case a26 => k_is); (case l26 => k_is); (case c26 => k_is); (case k26 => k_is); (case a27 => k_is); (case l27 => k_is); (case c27 => k_is); (case k27 => k_is); (case a28 => k_is); (case l28 => k_is); (case c28 => k_is); (case k28 => k_is); (case a29 => k_is); (case l29 => k_is); (case c29 => k_is); (case k29 => k_is); (case a30 => k_is); (case l30 => k_is); (case c30 => k_is); (case k30 => k_is); (case a31 => k_is); (case l31 => k_is); (case c31 => k_is); (case k31 => k_is); (case z1 => k_is); (case z2 => k_is); (case z3 => k_is); (case z4 => k_is); (case z5 => k_is); (case z6 => k_is); (case z7 => k_is); (case z8 => k_is); (case z9 => k_is); (case z10 => k_is); (case z11 => k_is); (case z12 => k_is); (case z13 => k_is)
