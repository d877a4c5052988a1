import PyProof.Rows.All
import PySem.Challenge.RW_wirelooker_k51_calls_read
import Wide.All
import OpenK.AllK
import Wide.FinOn
import PyProof.EqAt
import PyProof.EqKinds
import PyProof.TupleCall
import HandS.Base
import HandS.Call
import HandS.List
import HandS.Comp
import HandS.Iter
import HandS.Text
import HandS.Words
import HandS.Exc
import HandS.IsInst
import HandS.Flow
import HandS.Wide
import HandS.RaiseMore
import HandS.Zip
import HandS.CallSlots
import HandS.WordsExc
import HandS.ExcOwn
import HandS.SortInts
import HandS.TupMul
import HandS.Star
import HandS.Conv
import HandS.More
import HandS.SortRule
import HandS.TryOnly
import HandS.SortKw
import KE.DataMinMax
import ObjForm.LawKit
import HandS.TupAny
import HandS.Style
import PyProof.ReprRoads
import HandS.Ends
import PyProof.WalksMore
import PyProof.Rows.SumAny
import KE.GoesMore
import KE.GoesZip
import HandS.ExcField
import KE.KExcInit
import KE.KExcIs
import KE.KIsAll
import PyProof.ExcBaseAll.IndexError
import PyProof.ExcBaseAll.LookupError
import HandS.Defaults
import KE.KRevSl
import KE.GoesEnum
set_option Elab.async false
set_option linter.all false
set_option maxRecDepth 100000
set_option maxHeartbeats 4000000
namespace Dd
open PySem PySem.Spec L2
abbrev D := PyData
inductive Sl where
  | un
  | val (d : D)
  | own (ds : List D)
  | io (ds : List D)
  | scr (ns : List Int)
abbrev En := List Sl
mutual
inductive Dp (K : PySem.W.Frag) (H : Hp) : V → D → Prop
  | non : Dp K H .non .none
  | bl (b : Bool) : Dp K H (.bl b) (.bool b)
  | int (i : Int) : Dp K H (.int i) (.int i)
  | str (x : Str) : Dp K H (.str x) (.str x)
  | lst {a : Addr} {xs : List V} {ds : List D} : Rd H a (.lst xs) → DpAll K H xs ds → Dp K H (.ref a) (.list ds)
  | tup {a : Addr} {xs : List V} {ds : List D} : SqT K H a xs → DpAll K H xs ds → Dp K H (.ref a) (.tuple ds)
inductive DpAll (K : PySem.W.Frag) (H : Hp) : List V → List D → Prop
  | nil : DpAll K H [] []
  | cons {v : V} {vs : List V} {d : D} {ds : List D} : Dp K H v d → DpAll K H vs ds → DpAll K H (v :: vs) (d :: ds)
end
mutual
theorem Dp.l2 {K : PySem.W.Frag} {F : Hp} : ∀ {v : V} {d : D}, Dp K F v d → L2.Dp K F v d
  | _, _, .non => .non
  | _, _, .bl b => .bl b
  | _, _, .int i => .int i
  | _, _, .str x => .str x
  | _, _, .lst h t => .lst (.inl h) (DpAll.l2 t)
  | _, _, .tup h t => .tup h (DpAll.l2 t)
theorem DpAll.l2 {K : PySem.W.Frag} {F : Hp} : ∀ {vs : List V} {ds : List D}, DpAll K F vs ds → L2.DpAll K F vs ds
  | _, _, .nil => .nil
  | _, _, .cons h t => .cons (Dp.l2 h) (DpAll.l2 t)
end
structure Ct where
  F0 : Hp
  H0 : Hp
  io : Option Addr
  pr : Hp
structure Ok (K : PySem.W.Frag) (c : Ct) (σ : St) (H F : Hp) (ρ : En) : Prop where
  len : σ.length = ρ.length
  sub : Same F H
  ge : Same c.F0 F
  fe : ∀ b o, F b = some o → c.F0 b = some o ∨ c.H0 b = none
  keep : ∀ b o, c.H0 b = some o → c.io ≠ some b → H b = some o
  iod : ∀ p, c.io = some p → F p = none ∧ c.H0 p ≠ none ∧ c.pr p = none ∧ ∃ xs, H p = some (.lst xs)
  prt : ∀ b o, c.pr b = some o → H b = some o ∧ F b = none ∧ c.H0 b = none
  val : ∀ (i : Nat) (d : D), ρ[i]? = some (.val d) → ∃ v, σ[i]? = some (some v) ∧ Dp K F v d
  own : ∀ (i : Nat) (ds : List D), ρ[i]? = some (.own ds) → ∃ p vs, σ[i]? = some (some (.ref p)) ∧ H p = some (.lst vs) ∧ DpAll K F vs ds ∧ F p = none ∧ c.H0 p = none ∧ c.pr p = none
  ios : ∀ (i : Nat) (ds : List D), ρ[i]? = some (.io ds) → i = 0 ∧ ∃ p vs, c.io = some p ∧ σ[i]? = some (some (.ref p)) ∧ H p = some (.lst vs) ∧ DpAll K F vs ds
  scr : ∀ (i : Nat) (ns : List Int), ρ[i]? = some (.scr ns) → c.io = none ∧ ∃ a, σ[i]? = some (some (.ref a)) ∧ SqL K c.H0 a (ns.map V.int)
  sep : ∀ (i j : Nat) (ds es : List D) (p : Addr), ρ[i]? = some (.own ds) → ρ[j]? = some (.own es) → σ[i]? = some (some (.ref p)) → σ[j]? = some (some (.ref p)) → i = j

section
variable {K : PySem.W.Frag} {F F' : Hp}
theorem Rd.mono {a : Addr} {u : HO} (s : Same F F') (h : Rd F a u) : Rd F' a u := by
  rcases h with h | ⟨o, h⟩
  · exact .inl (s _ _ h)
  · exact .inr ⟨o, s _ _ h⟩
theorem SqL.mono {a : Addr} {xs : List V} (s : Same F F') (h : SqL K F a xs) : SqL K F' a xs := h.imp (Rd.mono s) id
theorem SqT.mono {a : Addr} {xs : List V} (s : Same F F') (h : SqT K F a xs) : SqT K F' a xs := h.imp (Rd.mono s) id
mutual
theorem Dp.mono (s : Same F F') : ∀ {v : V} {d : D}, Dp K F v d → Dp K F' v d
  | _, _, .non => .non
  | _, _, .bl b => .bl b
  | _, _, .int i => .int i
  | _, _, .str x => .str x
  | _, _, .lst h t => .lst (Rd.mono s h) (DpAll.mono s t)
  | _, _, .tup h t => .tup (SqT.mono s h) (DpAll.mono s t)
theorem DpAll.mono (s : Same F F') : ∀ {vs : List V} {ds : List D}, DpAll K F vs ds → DpAll K F' vs ds
  | _, _, .nil => .nil
  | _, _, .cons h t => .cons (Dp.mono s h) (DpAll.mono s t)
end
theorem DpAll.length : ∀ {vs : List V} {ds : List D}, DpAll K F vs ds → vs.length = ds.length
  | _, _, .nil => rfl
  | _, _, .cons _ t => by simp [DpAll.length t]
theorem DpAll.get : ∀ {vs : List V} {ds : List D} {i : Nat} {v : V}, DpAll K F vs ds → vs[i]? = some v → ∃ d, ds[i]? = some d ∧ Dp K F v d
  | _, _, _, _, .nil, e => by simp at e
  | _, _, 0, v, .cons h t, e => by
    simp at e; subst e
    exact ⟨_, rfl, h⟩
  | _, _, i + 1, v, .cons h t, e => by
    obtain ⟨d, q, r⟩ := DpAll.get (i := i) (v := v) t (by simpa using e)
    exact ⟨d, by simpa using q, r⟩
theorem DpAll.getd : ∀ {vs : List V} {ds : List D} {i : Nat} {d : D}, DpAll K F vs ds → ds[i]? = some d → ∃ v, vs[i]? = some v ∧ Dp K F v d
  | _, _, _, _, .nil, e => by simp at e
  | _, _, 0, v, .cons h t, e => by
    simp at e; subst e
    exact ⟨_, rfl, h⟩
  | _, _, i + 1, v, .cons h t, e => by
    obtain ⟨d, q, r⟩ := DpAll.getd (i := i) (d := v) t (by simpa using e)
    exact ⟨d, by simpa using q, r⟩
theorem DpAll.append : ∀ {vs ws : List V} {ds es : List D}, DpAll K F vs ds → DpAll K F ws es → DpAll K F (vs ++ ws) (ds ++ es)
  | _, _, _, _, .nil, s => s
  | _, _, _, _, .cons h t, s => .cons h (DpAll.append t s)
theorem DpAll.set {v : V} {d : D} (r : Dp K F v d) : ∀ {vs : List V} {ds : List D} (i : Nat), DpAll K F vs ds → DpAll K F (vs.set i v) (ds.set i d)
  | _, _, _, .nil => .nil
  | _, _, 0, .cons _ t => .cons r t
  | _, _, i + 1, .cons h t => .cons h (DpAll.set r i t)
theorem DpAll.take : ∀ {vs : List V} {ds : List D} (n : Nat), DpAll K F vs ds → DpAll K F (vs.take n) (ds.take n)
  | _, _, 0, _ => .nil
  | _, _, _ + 1, .nil => .nil
  | _, _, n + 1, .cons h t => .cons h (DpAll.take n t)
theorem DpAll.drop : ∀ {vs : List V} {ds : List D} (n : Nat), DpAll K F vs ds → DpAll K F (vs.drop n) (ds.drop n)
  | _, _, 0, h => h
  | _, _, _ + 1, .nil => .nil
  | _, _, n + 1, .cons _ t => DpAll.drop n t
theorem DpAll.eraseIdx : ∀ {vs : List V} {ds : List D} (i : Nat), DpAll K F vs ds → DpAll K F (vs.eraseIdx i) (ds.eraseIdx i)
  | _, _, _, .nil => .nil
  | _, _, 0, .cons _ t => t
  | _, _, i + 1, .cons h t => .cons h (DpAll.eraseIdx i t)
theorem DpAll.one {v : V} {d : D} (h : Dp K F v d) : DpAll K F [v] [d] := .cons h .nil
theorem DpAll.reverse : ∀ {vs : List V} {ds : List D}, DpAll K F vs ds → DpAll K F vs.reverse ds.reverse
  | _, _, .nil => .nil
  | _, _, .cons h t => by
    rw [List.reverse_cons, List.reverse_cons]
    exact DpAll.append (DpAll.reverse t) (DpAll.one h)
theorem DpAll.ints : ∀ {vs : List V} {ns : List Int}, DpAll K F vs (ns.map PyData.int) → vs = ns.map V.int
  | _, [], .nil => rfl
  | _, n :: ns, .cons h t => by
    cases h
    rw [DpAll.ints t]; rfl
theorem DpAll.bls : ∀ {vs : List V} {ns : List Bool}, DpAll K F vs (ns.map PyData.bool) → vs = ns.map V.bl
  | _, [], .nil => rfl
  | _, n :: ns, .cons h t => by
    cases h
    rw [DpAll.bls t]; rfl
theorem DpAll.strs : ∀ {vs : List V} {ns : List Str}, DpAll K F vs (ns.map PyData.str) → vs = ns.map V.str
  | _, [], .nil => rfl
  | _, n :: ns, .cons h t => by
    cases h
    rw [DpAll.strs t]; rfl
theorem DpAll.ofInts : ∀ (ns : List Int), DpAll K F (ns.map V.int) (ns.map PyData.int)
  | [] => .nil
  | n :: ns => .cons (.int n) (DpAll.ofInts ns)
theorem DpAll.ofStrs : ∀ (ns : List Str), DpAll K F (ns.map V.str) (ns.map PyData.str)
  | [] => .nil
  | n :: ns => .cons (.str n) (DpAll.ofStrs ns)
theorem Same.updN {p : Addr} {o : HO} (h : F p = none) : Same F (upd F p o) := fun b u e => by
  rw [upd_ne (ne_of_none e h)]; exact e
theorem Same.upd2 {H : Hp} {p : Addr} {o : HO} (h : Same F H) : Same (upd F p o) (upd H p o) := fun b u e => by
  by_cases hb : b = p
  · subst hb; rw [upd_same] at e ⊢; exact e
  · rw [upd_ne hb] at e ⊢; exact h _ _ e
end

/-! ### the heap grows -/
section
variable {K : PySem.W.Frag} {c : Ct} {σ : St} {H F : Hp} {ρ : En} {p : Addr} {o : HO}
theorem Ok.new (ok : Ok K c σ H F ρ) (h : H p = none) : F p = none ∧ c.H0 p = none ∧ c.pr p = none ∧ c.F0 p = none ∧ c.io ≠ some p := by
  have hF : F p = none := ok.sub.free h
  have hio : c.io ≠ some p := fun e => by
    obtain ⟨_, _, _, xs, q⟩ := ok.iod p e
    rw [h] at q; cases q
  refine ⟨hF, ?_, ?_, ok.ge.free hF, hio⟩
  · cases q : c.H0 p with
    | none => rfl
    | some u => rw [ok.keep p u q hio] at h; cases h
  · cases q : c.pr p with
    | none => rfl
    | some u => rw [(ok.prt p u q).1] at h; cases h
/-- a new object, seen by all -/
theorem Ok.alloc (ok : Ok K c σ H F ρ) (h : H p = none) : Ok K c σ (upd H p o) (upd F p o) ρ := by
  obtain ⟨hF, h0, hp, hF0, hio⟩ := ok.new h
  have s : Same F (upd F p o) := Same.updN hF
  have k : ∀ b u, H b = some u → upd H p o b = some u := Same.updN h
  refine ⟨ok.len, Same.upd2 ok.sub, ok.ge.trans s, fun b u e => ?_, fun b u e n => k _ _ (ok.keep b u e n), fun q e => ?_, fun b u e => ?_, fun i d e => ?_, fun i ds e => ?_, fun i ds e => ?_, ok.scr, ok.sep⟩
  · by_cases hb : b = p
    · subst hb; exact .inr h0
    · rw [upd_ne hb] at e; exact ok.fe b u e
  · obtain ⟨a1, a2, a3, xs, a4⟩ := ok.iod q e
    refine ⟨?_, a2, a3, xs, k _ _ a4⟩
    rw [upd_ne (ne_of_none a4 h)]; exact a1
  · obtain ⟨a1, a2, a3⟩ := ok.prt b u e
    refine ⟨k _ _ a1, ?_, a3⟩
    rw [upd_ne (ne_of_none a1 h)]; exact a2
  · obtain ⟨v, a1, a2⟩ := ok.val i d e
    exact ⟨v, a1, Dp.mono s a2⟩
  · obtain ⟨q, vs, a1, a2, a3, a4, a5, a6⟩ := ok.own i ds e
    refine ⟨q, vs, a1, k _ _ a2, DpAll.mono s a3, ?_, a5, a6⟩
    rw [upd_ne (ne_of_none a2 h)]; exact a4
  · obtain ⟨z, q, vs, a1, a2, a3, a4⟩ := ok.ios i ds e
    exact ⟨z, q, vs, a1, a2, k _ _ a3, DpAll.mono s a4⟩
abbrev Ct.put (c : Ct) (p : Addr) (o : HO) : Ct := { c with pr := upd c.pr p o }
/-- a new object, kept apart -/
theorem Ok.allocP (ok : Ok K c σ H F ρ) (h : H p = none) : Ok K (c.put p o) σ (upd H p o) F ρ := by
  obtain ⟨hF, h0, hp, hF0, hio⟩ := ok.new h
  have k : ∀ b u, H b = some u → upd H p o b = some u := Same.updN h
  refine ⟨ok.len, fun b u e => k _ _ (ok.sub b u e), ok.ge, ok.fe, fun b u e n => k _ _ (ok.keep b u e n), fun q e => ?_, fun b u e => ?_, ok.val, fun i ds e => ?_, fun i ds e => ?_, ok.scr, ok.sep⟩
  · obtain ⟨a1, a2, a3, xs, a4⟩ := ok.iod q e
    refine ⟨a1, a2, ?_, xs, k _ _ a4⟩
    show upd c.pr p o q = none
    rw [upd_ne (ne_of_none a4 h)]; exact a3
  · by_cases hb : b = p
    · subst hb
      refine ⟨?_, hF, h0⟩
      rw [upd_same]; exact (upd_same (H := c.pr)).symm.trans e
    · have e' : c.pr b = some u := by rw [← e]; exact (upd_ne hb).symm
      obtain ⟨a1, a2, a3⟩ := ok.prt b u e'
      exact ⟨k _ _ a1, a2, a3⟩
  · obtain ⟨q, vs, a1, a2, a3, a4, a5, a6⟩ := ok.own i ds e
    refine ⟨q, vs, a1, k _ _ a2, a3, a4, a5, ?_⟩
    show upd c.pr p o q = none
    rw [upd_ne (ne_of_none a2 h)]; exact a6
  · obtain ⟨z, q, vs, a1, a2, a3, a4⟩ := ok.ios i ds e
    exact ⟨z, q, vs, a1, a2, k _ _ a3, a4⟩
/-- what is kept apart is changed -/
theorem Ok.putP {o' : HO} (ok : Ok K (c.put p o) σ H F ρ) : Ok K (c.put p o') σ (upd H p o') F ρ := by
  obtain ⟨hH, hF, h0⟩ := ok.prt p o upd_same
  have hio : c.io ≠ some p := fun e => by
    obtain ⟨_, a2, _⟩ := ok.iod p e
    exact a2 h0
  refine ⟨ok.len, fun b u e => ?_, ok.ge, ok.fe, fun b u e n => ?_, fun q e => ?_, fun b u e => ?_, ok.val, fun i ds e => ?_, fun i ds e => ?_, ok.scr, ok.sep⟩
  · rw [upd_ne (ne_of_none e hF)]; exact ok.sub b u e
  · rw [upd_ne (ne_of_none e h0)]; exact ok.keep b u e n
  · obtain ⟨a1, a2, a3, xs, a4⟩ := ok.iod q e
    have ne : q ≠ p := fun z => by subst z; exact a2 h0
    refine ⟨a1, a2, ?_, xs, by rw [upd_ne ne]; exact a4⟩
    show upd c.pr p o' q = none
    rw [upd_ne ne]; exact (upd_ne ne).symm.trans a3
  · by_cases hb : b = p
    · subst hb
      refine ⟨?_, hF, h0⟩
      rw [upd_same]; exact (upd_same (H := c.pr)).symm.trans e
    · have e' : (c.put p o).pr b = some u := (upd_ne hb).trans ((upd_ne hb).symm.trans e)
      obtain ⟨a1, a2, a3⟩ := ok.prt b u e'
      exact ⟨by rw [upd_ne hb]; exact a1, a2, a3⟩
  · obtain ⟨q, vs, a1, a2, a3, a4, a5, a6⟩ := ok.own i ds e
    have ne : q ≠ p := fun z => by
      subst z
      have a6' : upd c.pr q o q = none := a6
      rw [upd_same] at a6'; cases a6'
    refine ⟨q, vs, a1, by rw [upd_ne ne]; exact a2, a3, a4, a5, ?_⟩
    show upd c.pr p o' q = none
    rw [upd_ne ne]; exact (upd_ne ne).symm.trans a6
  · obtain ⟨z, q, vs, a1, a2, a3, a4⟩ := ok.ios i ds e
    have ne : q ≠ p := fun z => by subst z; exact hio a1
    exact ⟨z, q, vs, a1, a2, by rw [upd_ne ne]; exact a3, a4⟩
/-- what was kept apart is seen by all -/
theorem Ok.freeP (ok : Ok K (c.put p o) σ H F ρ) (hp : c.pr p = none) : Ok K c σ H (upd F p o) ρ := by
  obtain ⟨hH, hF, h0⟩ := ok.prt p o upd_same
  have s : Same F (upd F p o) := Same.updN hF
  refine ⟨ok.len, fun b u e => ?_, ok.ge.trans s, fun b u e => ?_, ok.keep, fun q e => ?_, fun b u e => ?_, fun i d e => ?_, fun i ds e => ?_, fun i ds e => ?_, ok.scr, ok.sep⟩
  · by_cases hb : b = p
    · subst hb; rw [upd_same] at e; cases e; exact hH
    · rw [upd_ne hb] at e; exact ok.sub b u e
  · by_cases hb : b = p
    · subst hb; exact .inr h0
    · rw [upd_ne hb] at e; exact ok.fe b u e
  · obtain ⟨a1, a2, a3, xs, a4⟩ := ok.iod q e
    have ne : q ≠ p := fun z => by subst z; exact a2 h0
    exact ⟨by rw [upd_ne ne]; exact a1, a2, (upd_ne ne).symm.trans a3, xs, a4⟩
  · have ne : b ≠ p := fun z => by subst z; rw [hp] at e; cases e
    obtain ⟨a1, a2, a3⟩ := ok.prt b u ((upd_ne ne).trans e)
    exact ⟨a1, by rw [upd_ne ne]; exact a2, a3⟩
  · obtain ⟨v, a1, a2⟩ := ok.val i d e
    exact ⟨v, a1, Dp.mono s a2⟩
  · obtain ⟨q, vs, a1, a2, a3, a4, a5, a6⟩ := ok.own i ds e
    have ne : q ≠ p := fun z => by
      subst z
      have a6' : upd c.pr q o q = none := a6
      rw [upd_same] at a6'; cases a6'
    exact ⟨q, vs, a1, a2, DpAll.mono s a3, by rw [upd_ne ne]; exact a4, a5, (upd_ne ne).symm.trans a6⟩
  · obtain ⟨z, q, vs, a1, a2, a3, a4⟩ := ok.ios i ds e
    exact ⟨z, q, vs, a1, a2, a3, DpAll.mono s a4⟩

/-! ### slots -/
def notIo : Option Sl → Bool
  | some (.io _) => false
  | _ => true
theorem get_set {α : Type} {l : List α} {i j : Nat} {a : α} (h : i < l.length) : (l.set i a)[j]? = if i = j then some a else l[j]? := by
  by_cases e : i = j
  · subst e; simp [h]
  · rw [List.getElem?_set_ne e, if_neg e]
/-- slot i gets any value; u says what is known of it -/
theorem Ok.set {v : Option V} {u : Sl} {i : Nat} (ok : Ok K c σ H F ρ) (hi : i < ρ.length)
    (hv : ∀ d, u = .val d → ∃ w, v = some w ∧ Dp K F w d)
    (ho : ∀ ds, u = .own ds → ∃ p vs, v = some (.ref p) ∧ H p = some (.lst vs) ∧ DpAll K F vs ds ∧ F p = none ∧ c.H0 p = none ∧ c.pr p = none ∧ ∀ (j : Nat) (es : List D), ρ[j]? = some (.own es) → σ[j]? = some (some (.ref p)) → j = i)
    (hio : ∀ ds, u ≠ .io ds) (hsc : ∀ ns, u ≠ .scr ns) : Ok K c (σ.set i v) H F (ρ.set i u) := by
  have hs : i < σ.length := by rw [ok.len]; exact hi
  refine ⟨by rw [List.length_set, List.length_set]; exact ok.len, ok.sub, ok.ge, ok.fe, ok.keep, ok.iod, ok.prt, fun j d e => ?_, fun j ds e => ?_, fun j ds e => ?_, fun j ns e => ?_, fun j k ds es p a b x y => ?_⟩
  · rw [get_set hi] at e
    rw [get_set hs]
    by_cases q : i = j
    · rw [if_pos q] at e ⊢
      obtain ⟨w, e1, e2⟩ := hv d (Option.some.inj e)
      exact ⟨w, by rw [e1], e2⟩
    · rw [if_neg q] at e ⊢
      exact ok.val j d e
  · rw [get_set hi] at e
    rw [get_set hs]
    by_cases q : i = j
    · rw [if_pos q] at e ⊢
      obtain ⟨p, vs, e1, e2, e3, e4, e5, e6, _⟩ := ho ds (Option.some.inj e)
      exact ⟨p, vs, by rw [e1], e2, e3, e4, e5, e6⟩
    · rw [if_neg q] at e ⊢
      exact ok.own j ds e
  · rw [get_set hi] at e
    rw [get_set hs]
    by_cases q : i = j
    · rw [if_pos q] at e
      exact absurd (Option.some.inj e) (hio ds)
    · rw [if_neg q] at e ⊢
      exact ok.ios j ds e
  · rw [get_set hi] at e
    rw [get_set hs]
    by_cases q : i = j
    · rw [if_pos q] at e
      exact absurd (Option.some.inj e) (hsc ns)
    · rw [if_neg q] at e ⊢
      exact ok.scr j ns e
  · rw [get_set hi] at a b
    rw [get_set hs] at x y
    by_cases q : i = j
    · rw [if_pos q] at a x
      obtain ⟨p', vs, e1, _, _, _, _, _, e7⟩ := ho ds (Option.some.inj a)
      have ep : p' = p := by
        have z := Option.some.inj x
        rw [e1] at z
        cases z; rfl
      subst ep
      by_cases q2 : i = k
      · rw [← q, q2]
      · rw [if_neg q2] at b y
        rw [e7 k es b y]; exact q.symm
    · rw [if_neg q] at a x
      by_cases q2 : i = k
      · rw [if_pos q2] at b y
        obtain ⟨p', vs, e1, _, _, _, _, _, e7⟩ := ho es (Option.some.inj b)
        have ep : p' = p := by
          have z := Option.some.inj y
          rw [e1] at z
          cases z; rfl
        subst ep
        rw [e7 j ds a x]; exact q2
      · rw [if_neg q2] at b y
        exact ok.sep j k ds es p a b x y
theorem Ok.setV {v : V} {d : D} {i : Nat} (ok : Ok K c σ H F ρ) (hi : i < ρ.length) (h : Dp K F v d) : Ok K c (σ.set i (some v)) H F (ρ.set i (.val d)) :=
  ok.set hi (fun d' e => ⟨v, rfl, by cases e; exact h⟩) (fun _ e => by cases e) (fun _ e => by cases e) (fun _ e => by cases e)
theorem Ok.setU {v : Option V} {i : Nat} (ok : Ok K c σ H F ρ) (hi : i < ρ.length) : Ok K c (σ.set i v) H F (ρ.set i .un) :=
  ok.set hi (fun d' e => by cases e) (fun _ e => by cases e) (fun _ e => by cases e) (fun _ e => by cases e)
/-- what was kept apart becomes a slot's own -/
theorem Ok.ownP {xs : List V} {ds : List D} {i : Nat} (ok : Ok K (c.put p (.lst xs)) σ H F ρ) (hp : c.pr p = none) (hd : DpAll K F xs ds) (hi : i < ρ.length) : Ok K c (σ.set i (some (.ref p))) H F (ρ.set i (.own ds)) := by
  obtain ⟨hH, hF, h0⟩ := ok.prt p _ upd_same
  have nown : ∀ {q : Addr}, (c.put p (.lst xs)).pr q = none → q ≠ p := fun {q} a z => by
    subst z
    have a' : upd c.pr q (.lst xs) q = none := a
    rw [upd_same] at a'; cases a'
  have ok' : Ok K c σ H F ρ := by
    refine ⟨ok.len, ok.sub, ok.ge, ok.fe, ok.keep, fun q e => ?_, fun b u e => ?_, ok.val, fun j es e => ?_, ok.ios, ok.scr, ok.sep⟩
    · obtain ⟨a1, a2, a3, a4⟩ := ok.iod q e
      exact ⟨a1, a2, (upd_ne (nown a3)).symm.trans a3, a4⟩
    · have ne : b ≠ p := fun z => by subst z; rw [hp] at e; cases e
      exact ok.prt b u ((upd_ne ne).trans e)
    · obtain ⟨q, vs, a1, a2, a3, a4, a5, a6⟩ := ok.own j es e
      exact ⟨q, vs, a1, a2, a3, a4, a5, (upd_ne (nown a6)).symm.trans a6⟩
  refine ok'.set hi (fun d' e => by cases e) (fun es e => ?_) (fun _ e => by cases e) (fun _ e => by cases e)
  cases e
  refine ⟨p, xs, rfl, hH, hd, hF, h0, hp, fun j es a b => ?_⟩
  obtain ⟨q, vs, a1, _, _, _, _, a6⟩ := ok.own j es a
  rw [b] at a1
  have z : p = q := by cases a1; rfl
  exact absurd z.symm (nown a6)
/-- a slot's own list is from now on seen by all -/
theorem Ok.frz {i : Nat} {ds : List D} (ok : Ok K c σ H F ρ) (e : ρ[i]? = some (.own ds)) : ∃ (F' : Hp) (p : Addr), Same F F' ∧ σ[i]? = some (some (.ref p)) ∧ Dp K F' (.ref p) (.list ds) ∧ Ok K c σ H F' (ρ.set i (.val (.list ds))) := by
  obtain ⟨p, vs, a1, a2, a3, a4, a5, a6⟩ := ok.own i ds e
  have hi : i < ρ.length := by
    rcases Nat.lt_or_ge i ρ.length with h | h
    · exact h
    · rw [List.getElem?_eq_none h] at e; cases e
  have s : Same F (upd F p (.lst vs)) := Same.updN a4
  have dp : Dp K (upd F p (.lst vs)) (.ref p) (.list ds) := .lst (.inl upd_same) (DpAll.mono s a3)
  refine ⟨upd F p (.lst vs), p, s, a1, dp, ?_⟩
  refine ⟨by rw [List.length_set]; exact ok.len, fun b u q => ?_, ok.ge.trans s, fun b u q => ?_, ok.keep, fun q z => ?_, fun b u q => ?_, fun j d q => ?_, fun j es q => ?_, fun j es q => ?_, fun j ns q => ?_, fun j k es fs q x y u w => ?_⟩
  · by_cases hb : b = p
    · subst hb; rw [upd_same] at q; cases q; exact a2
    · rw [upd_ne hb] at q; exact ok.sub b u q
  · by_cases hb : b = p
    · subst hb; exact .inr a5
    · rw [upd_ne hb] at q; exact ok.fe b u q
  · obtain ⟨b1, b2, b3, b4⟩ := ok.iod q z
    have ne : q ≠ p := fun z => by subst z; exact b2 a5
    exact ⟨by rw [upd_ne ne]; exact b1, b2, b3, b4⟩
  · have ne : b ≠ p := fun z => by subst z; rw [a6] at q; cases q
    obtain ⟨b1, b2, b3⟩ := ok.prt b u q
    exact ⟨b1, by rw [upd_ne ne]; exact b2, b3⟩
  · rw [get_set hi] at q
    by_cases z : i = j
    · rw [if_pos z] at q
      subst z
      cases q
      exact ⟨_, a1, dp⟩
    · rw [if_neg z] at q
      obtain ⟨v, b1, b2⟩ := ok.val j d q
      exact ⟨v, b1, Dp.mono s b2⟩
  · rw [get_set hi] at q
    by_cases z : i = j
    · rw [if_pos z] at q; cases q
    · rw [if_neg z] at q
      obtain ⟨r, ws, b1, b2, b3, b4, b5, b6⟩ := ok.own j es q
      have ne : r ≠ p := fun y => by
        subst y
        exact z (ok.sep i j ds es r e q a1 b1)
      exact ⟨r, ws, b1, b2, DpAll.mono s b3, by rw [upd_ne ne]; exact b4, b5, b6⟩
  · rw [get_set hi] at q
    by_cases z : i = j
    · rw [if_pos z] at q; cases q
    · rw [if_neg z] at q
      obtain ⟨y, r, ws, b1, b2, b3, b4⟩ := ok.ios j es q
      exact ⟨y, r, ws, b1, b2, b3, DpAll.mono s b4⟩
  · rw [get_set hi] at q
    by_cases z : i = j
    · rw [if_pos z] at q; cases q
    · rw [if_neg z] at q
      exact ok.scr j ns q
  · rw [get_set hi] at x y
    by_cases z : i = j
    · rw [if_pos z] at x; cases x
    · rw [if_neg z] at x
      by_cases z2 : i = k
      · rw [if_pos z2] at y; cases y
      · rw [if_neg z2] at y
        exact ok.sep j k es fs q x y u w
/-- a slot's own list is changed -/
theorem Ok.change {i : Nat} {ds ds' : List D} {vs' : List V} (ok : Ok K c σ H F ρ) (e : ρ[i]? = some (.own ds)) (p : Addr) (hp : σ[i]? = some (some (.ref p))) (hd : DpAll K F vs' ds') : Ok K c σ (upd H p (.lst vs')) F (ρ.set i (.own ds')) := by
  obtain ⟨p', vs, a1, a2, a3, a4, a5, a6⟩ := ok.own i ds e
  have hpp : p' = p := by rw [hp] at a1; cases a1; rfl
  subst hpp
  have hi : i < ρ.length := by
    rcases Nat.lt_or_ge i ρ.length with h | h
    · exact h
    · rw [List.getElem?_eq_none h] at e; cases e
  refine ⟨by rw [List.length_set]; exact ok.len, fun b u q => ?_, ok.ge, ok.fe, fun b u q n => ?_, fun q z => ?_, fun b u q => ?_, fun j d q => ?_, fun j es q => ?_, fun j es q => ?_, fun j ns q => ?_, fun j k es fs q x y u w => ?_⟩
  · rw [upd_ne (ne_of_none q a4)]; exact ok.sub b u q
  · rw [upd_ne (ne_of_none q a5)]; exact ok.keep b u q n
  · obtain ⟨b1, b2, b3, xs, b4⟩ := ok.iod q z
    have ne : q ≠ p' := fun z => by subst z; exact b2 a5
    exact ⟨b1, b2, b3, xs, by rw [upd_ne ne]; exact b4⟩
  · have ne : b ≠ p' := fun z => by subst z; rw [a6] at q; cases q
    obtain ⟨b1, b2, b3⟩ := ok.prt b u q
    exact ⟨by rw [upd_ne ne]; exact b1, b2, b3⟩
  · rw [get_set hi] at q
    by_cases z : i = j
    · rw [if_pos z] at q; cases q
    · rw [if_neg z] at q
      exact ok.val j d q
  · rw [get_set hi] at q
    by_cases z : i = j
    · rw [if_pos z] at q
      subst z
      cases q
      exact ⟨p', vs', a1, upd_same, hd, a4, a5, a6⟩
    · rw [if_neg z] at q
      obtain ⟨r, ws, b1, b2, b3, b4, b5, b6⟩ := ok.own j es q
      have ne : r ≠ p' := fun y => by
        subst y
        exact z (ok.sep i j ds es r e q a1 b1)
      exact ⟨r, ws, b1, by rw [upd_ne ne]; exact b2, b3, b4, b5, b6⟩
  · rw [get_set hi] at q
    by_cases z : i = j
    · rw [if_pos z] at q; cases q
    · rw [if_neg z] at q
      obtain ⟨y, r, ws, b1, b2, b3, b4⟩ := ok.ios j es q
      have ne : r ≠ p' := fun y => by
        subst y
        obtain ⟨_, c2, _⟩ := ok.iod r b1
        exact c2 a5
      exact ⟨y, r, ws, b1, b2, by rw [upd_ne ne]; exact b3, b4⟩
  · rw [get_set hi] at q
    by_cases z : i = j
    · rw [if_pos z] at q; cases q
    · rw [if_neg z] at q
      exact ok.scr j ns q
  · rw [get_set hi] at x y
    by_cases z : i = j
    · subst z
      by_cases z2 : i = k
      · exact z2
      · rw [if_neg z2] at y
        exact ok.sep i k ds fs q e y u w
    · rw [if_neg z] at x
      by_cases z2 : i = k
      · subst z2
        exact ok.sep j i es ds q x e u w
      · rw [if_neg z2] at y
        exact ok.sep j k es fs q x y u w
/-- the caller's list is changed -/
theorem Ok.changeI {i : Nat} {ds ds' : List D} {vs' : List V} (ok : Ok K c σ H F ρ) (e : ρ[i]? = some (.io ds)) (p : Addr) (hp : σ[i]? = some (some (.ref p))) (hd : DpAll K F vs' ds') : Ok K c σ (upd H p (.lst vs')) F (ρ.set i (.io ds')) := by
  obtain ⟨i0, p', vs, a1, a2, a3, a4⟩ := ok.ios i ds e
  have hpp : p' = p := by rw [hp] at a2; cases a2; rfl
  subst hpp
  obtain ⟨b1, b2, b3, xs, b4⟩ := ok.iod p' a1
  have hi : i < ρ.length := by
    rcases Nat.lt_or_ge i ρ.length with h | h
    · exact h
    · rw [List.getElem?_eq_none h] at e; cases e
  have noi : ∀ {q : Addr}, c.io = some q → q = p' := fun {q} z => by rw [a1] at z; cases z; rfl
  refine ⟨by rw [List.length_set]; exact ok.len, fun b u q => ?_, ok.ge, ok.fe, fun b u q n => ?_, fun q z => ?_, fun b u q => ?_, fun j d q => ?_, fun j es q => ?_, fun j es q => ?_, fun j ns q => ?_, fun j k es fs q x y u w => ?_⟩
  · rw [upd_ne (ne_of_none q b1)]; exact ok.sub b u q
  · have ne : b ≠ p' := fun z => by subst z; exact n a1
    rw [upd_ne ne]; exact ok.keep b u q n
  · have := noi z
    subst this
    exact ⟨b1, b2, b3, vs', upd_same⟩
  · have ne : b ≠ p' := fun z => by subst z; rw [b3] at q; cases q
    obtain ⟨c1, c2, c3⟩ := ok.prt b u q
    exact ⟨by rw [upd_ne ne]; exact c1, c2, c3⟩
  · rw [get_set hi] at q
    by_cases z : i = j
    · rw [if_pos z] at q; cases q
    · rw [if_neg z] at q
      exact ok.val j d q
  · rw [get_set hi] at q
    by_cases z : i = j
    · rw [if_pos z] at q; cases q
    · rw [if_neg z] at q
      obtain ⟨r, ws, c1, c2, c3, c4, c5, c6⟩ := ok.own j es q
      have ne : r ≠ p' := fun y => by
        subst y
        exact b2 c5
      exact ⟨r, ws, c1, by rw [upd_ne ne]; exact c2, c3, c4, c5, c6⟩
  · rw [get_set hi] at q
    by_cases z : i = j
    · rw [if_pos z] at q
      subst z
      cases q
      exact ⟨i0, p', vs', a1, a2, upd_same, hd⟩
    · rw [if_neg z] at q
      obtain ⟨y, _⟩ := ok.ios j es q
      exact absurd (i0.trans y.symm) z
  · rw [get_set hi] at q
    by_cases z : i = j
    · rw [if_pos z] at q; cases q
    · rw [if_neg z] at q
      exact ok.scr j ns q
  · rw [get_set hi] at x y
    by_cases z : i = j
    · rw [if_pos z] at x; cases x
    · rw [if_neg z] at x
      by_cases z2 : i = k
      · rw [if_pos z2] at y; cases y
      · rw [if_neg z2] at y
        exact ok.sep j k es fs q x y u w
end
end Dd

namespace Dd
open PySem PySem.Spec L2
/-- an error: its class, its fields -/
structure Ex where
  C : Str
  fs : List (Str × D)
inductive R (α : Type) where
  | ok (a : α) (ρ : En)
  | ex (e : Ex) (ρ : En)
abbrev M (α : Type) := En → Option (R α)
def mPure {α : Type} (a : α) : M α := fun ρ => some (.ok a ρ)
def mBind {α β : Type} (m : M α) (f : α → M β) : M β := fun ρ => match m ρ with
  | none => none
  | some (.ok a ρ') => f a ρ'
  | some (.ex e ρ') => some (.ex e ρ')
def mLift {α : Type} (o : Option α) : M α := fun ρ => match o with
  | none => none
  | some a => some (.ok a ρ)
def mStuck {α : Type} : M α := fun _ => none

def ExR (K : PySem.W.Frag) (e : Ex) (cls : Value) (x : Option Addr) (F' H' : Hp) : Prop :=
  ∃ Ca : Addr, PySem.W.nsIn K mainGlobals e.C = some (some (.ref Ca)) ∧ cls = .ref Ca ∧ ∃ (dd : Addr) (vs : List (Str × V)), x = some dd ∧ F' dd = some (.xd vs) ∧ vs.map (·.1) = e.fs.map (·.1) ∧ DpAll K F' (vs.map (·.2)) (e.fs.map (·.2))

def post {α : Type} (K : PySem.W.Frag) (W : WX) (c : Ct) (σ : St) (F : Hp) (G : α → Hp → Hp → Prop) : Option (R α) → Prop
  | none => False
  | some (.ok a ρ') => ∀ H' F', Ok K c σ H' F' ρ' → Same F F' → G a H' F'
  | some (.ex e ρ') => ∀ cls x H' F', Ok K c σ H' F' ρ' → Same F F' → ExR K e cls x F' H' → W cls x σ H'
section
variable {α β : Type} {K : PySem.W.Frag} {W : WX} {c : Ct} {σ : St} {F H : Hp} {ρ : En}
theorem post_weak {G : α → Hp → Hp → Prop} {F1 : Hp} (s : Same F F1) : ∀ {r : Option (R α)}, post K W c σ F G r → post K W c σ F1 G r
  | some (.ok a ρ'), h => fun H' F' ok s' => h H' F' ok (s.trans s')
  | some (.ex e ρ'), h => fun cls x H' F' ok s' => h cls x H' F' ok (s.trans s')
theorem post_mono {G G' : α → Hp → Hp → Prop} (k : ∀ a H' F', Same F F' → G a H' F' → G' a H' F') : ∀ {r : Option (R α)}, post K W c σ F G r → post K W c σ F G' r
  | some (.ok a ρ'), h => fun H' F' ok s => k a H' F' s (h H' F' ok s)
  | some (.ex e ρ'), h => h
theorem post_bind {G : β → Hp → Hp → Prop} {m : M α} {f : α → M β} (h : post K W c σ F G (mBind m f ρ)) :
    post K W c σ F (fun a H1 F1 => ∃ ρ1, Ok K c σ H1 F1 ρ1 ∧ Same F F1 ∧ post K W c σ F1 G (f a ρ1)) (m ρ) := by
  unfold mBind at h
  cases e : m ρ with
  | none => rw [e] at h; exact h
  | some r =>
    rw [e] at h
    cases r with
    | ok a ρ' => exact fun H' F' ok s => ⟨ρ', ok, s, post_weak s h⟩
    | ex x ρ' => exact h
theorem post_ok {G : α → Hp → Hp → Prop} {a : α} (h : post K W c σ F G (some (.ok a ρ))) (ok : Ok K c σ H F ρ) : G a H F := h H F ok (Same.refl F)
theorem post_lift {G : α → Hp → Hp → Prop} {o : Option α} (h : post K W c σ F G (mLift o ρ)) : ∃ a, o = some a ∧ post K W c σ F G (some (.ok a ρ)) := by
  unfold mLift at h
  cases o with
  | none => exact h.elim
  | some a => exact ⟨a, rfl, h⟩
end
/-! ### the judgements -/
abbrev qE (K : PySem.W.Frag) (Q : VK) : D → Hp → Hp → Prop := fun d H' F' => ∀ v, Dp K F' v d → Q v H'
abbrev qT (Q : Bool → Hp → Prop) : Bool → Hp → Hp → Prop := fun b H' _ => Q b H'
abbrev qA (K : PySem.W.Frag) (Q : List V → Hp → Prop) : List D → Hp → Hp → Prop := fun ds H' F' => ∀ vs, DpAll K F' vs ds → Q vs H'
def Pk (K : PySem.W.Frag) (H F : Hp) (x : V) (a : D) : Prop := Dp K F x a ∨ ∃ (p : Addr) (vs : List V) (ds : List D), x = .ref p ∧ a = .list ds ∧ H p = some (.lst vs) ∧ DpAll K F vs ds
abbrev qP (K : PySem.W.Frag) (Q : VK) : D → Hp → Hp → Prop := fun d H' F' => ∀ v, Pk K H' F' v d → Q v H'
def tE (K : PySem.W.Frag) (W : WX) (m : M D) : TE := fun σ H Q => ∃ c F ρ, Ok K c σ H F ρ ∧ post K W c σ F (qE K Q) (m ρ)
/-- a value that may be a slot's own list: looked at, then gone -/
def tP (K : PySem.W.Frag) (W : WX) (m : M D) : TE := fun σ H Q => ∃ c F ρ, Ok K c σ H F ρ ∧ post K W c σ F (qP K Q) (m ρ)
def tT (K : PySem.W.Frag) (W : WX) (m : M Bool) : TT := fun σ H Q => ∃ c F ρ, Ok K c σ H F ρ ∧ post K W c σ F (qT Q) (m ρ)
def tA (K : PySem.W.Frag) (W : WX) (m : M (List D)) : TA := fun σ H Q => ∃ c F ρ, Ok K c σ H F ρ ∧ post K W c σ F (qA K Q) (m ρ)
inductive Fl where
  | nx | bk | ct
  | rt (d : D)
  | rf (ds : List D)
def postS (K : PySem.W.Frag) (W : WX) (c : Ct) (F : Hp) (Dn : Ends) : Option (R Fl) → Prop
  | none => False
  | some (.ok .nx ρ') => ∀ σ' H' F', Ok K c σ' H' F' ρ' → Same F F' → Dn.nx σ' H'
  | some (.ok .bk ρ') => ∀ σ' H' F', Ok K c σ' H' F' ρ' → Same F F' → Dn.bk σ' H'
  | some (.ok .ct ρ') => ∀ σ' H' F', Ok K c σ' H' F' ρ' → Same F F' → Dn.ct σ' H'
  | some (.ok (.rt d) ρ') => ∀ σ' v H' F', Ok K c σ' H' F' ρ' → Same F F' → Dp K F' v d → Dn.rt v H'
  | some (.ok (.rf ds) ρ') => ∀ σ' p vs H' F', Ok K c σ' H' F' ρ' → Same F F' → H' p = some (.lst vs) → DpAll K F' vs ds → F' p = none → c.H0 p = none → Dn.rt (.ref p) H'
  | some (.ex e ρ') => ∀ σ' cls x H' F', Ok K c σ' H' F' ρ' → Same F F' → ExR K e cls x F' H' → W cls x σ' H'
def tS (K : PySem.W.Frag) (W : WX) (m : M Fl) : TS := fun Dn σ H => ∃ c F ρ, Ok K c σ H F ρ ∧ postS K W c F Dn (m ρ)
/-- a store: of a value, by a target -/
def postG (K : PySem.W.Frag) (W : WX) (c : Ct) (F : Hp) (Q : St → Hp → Prop) : Option (R Unit) → Prop
  | none => False
  | some (.ok _ ρ') => ∀ σ' H' F', Ok K c σ' H' F' ρ' → Same F F' → Q σ' H'
  | some (.ex e ρ') => ∀ σ' cls x H' F', Ok K c σ' H' F' ρ' → Same F F' → ExR K e cls x F' H' → W cls x σ' H'
def tG (K : PySem.W.Frag) (W : WX) (g : D → M Unit) : TG := fun v σ H Q => ∃ c F ρ d, Ok K c σ H F ρ ∧ Dp K F v d ∧ postG K W c F Q (g d ρ)
def tGs (K : PySem.W.Frag) (W : WX) (g : List D → M Unit) : TGs := fun vs σ H Q => ∃ c F ρ ds, Ok K c σ H F ρ ∧ DpAll K F vs ds ∧ postG K W c F Q (g ds ρ)
section
variable {X : Cx} {e : Expr} {es : List Expr} {st : Stmt} {sts : List Stmt}
theorem PE.imp {t t' : TE} (h : PE X e t) (k : ∀ σ H Q, t' σ H Q → t σ H Q) : PE X e t' := ⟨fun pins s σ H Q I q => h.run pins s σ H Q I (k σ H Q q)⟩
theorem PT.imp {t t' : TT} (h : PT X e t) (k : ∀ σ H Q, t' σ H Q → t σ H Q) : PT X e t' := ⟨fun pins s σ H Q I q => h.run pins s σ H Q I (k σ H Q q)⟩
theorem PA.imp {t t' : TA} (h : PA X es t) (k : ∀ σ H Q, t' σ H Q → t σ H Q) : PA X es t' := ⟨fun pos pins s σ H Q I q => h.run pos pins s σ H Q I (k σ H Q q)⟩
theorem PS.imp {t t' : TS} (h : PS X st t) (k : ∀ Dn σ H, t' Dn σ H → t Dn σ H) : PS X st t' := ⟨fun pins s σ H Dn I q => h.run pins s σ H Dn I (k Dn σ H q)⟩
theorem PSs.imp {t t' : TS} (h : PSs X sts t) (k : ∀ Dn σ H, t' Dn σ H → t Dn σ H) : PSs X sts t' := ⟨fun pins s σ H Dn I q => h.run pins s σ H Dn I (k Dn σ H q)⟩
theorem PG.imp {t t' : TG} (h : PG X e t) (k : ∀ v σ H Q, t' v σ H Q → t v σ H Q) : PG X e t' := ⟨fun pins s σ H v u Q I r q => h.run pins s σ H v u Q I r (k v σ H Q q)⟩
theorem PGs.imp {t t' : TGs} (h : PGs X es t) (k : ∀ v σ H Q, t' v σ H Q → t v σ H Q) : PGs X es t' := ⟨fun pins s σ H v u Q I r q => h.run pins s σ H v u Q I r (k v σ H Q q)⟩
theorem PI.imp {tg : Expr} {t t' : TI} (h : PI X tg e t) (k : ∀ σ H Q, t' σ H Q → t σ H Q) : PI X tg e t' := ⟨fun pins s σ H Q I q => h.run pins s σ H Q I (k σ H Q q)⟩
end
section
variable {K : PySem.W.Frag} {W : WX} {c : Ct} {σ : St} {F H : Hp} {ρ : En}
theorem postS_weak {Dn : Ends} {F1 : Hp} (s : Same F F1) : ∀ {r : Option (R Fl)}, postS K W c F Dn r → postS K W c F1 Dn r
  | some (.ok .nx ρ'), h => fun σ' H' F' ok s' => h σ' H' F' ok (s.trans s')
  | some (.ok .bk ρ'), h => fun σ' H' F' ok s' => h σ' H' F' ok (s.trans s')
  | some (.ok .ct ρ'), h => fun σ' H' F' ok s' => h σ' H' F' ok (s.trans s')
  | some (.ok (.rt d) ρ'), h => fun σ' v H' F' ok s' => h σ' v H' F' ok (s.trans s')
  | some (.ok (.rf d) ρ'), h => fun σ' p v H' F' ok s' => h σ' p v H' F' ok (s.trans s')
  | some (.ex e ρ'), h => fun σ' cls x H' F' ok s' => h σ' cls x H' F' ok (s.trans s')
theorem postG_weak {Q : St → Hp → Prop} {F1 : Hp} (s : Same F F1) : ∀ {r : Option (R Unit)}, postG K W c F Q r → postG K W c F1 Q r
  | some (.ok _ ρ'), h => fun σ' H' F' ok s' => h σ' H' F' ok (s.trans s')
  | some (.ex e ρ'), h => fun σ' cls x H' F' ok s' => h σ' cls x H' F' ok (s.trans s')
/-- an expression ahead of what is stated of a statement -/
theorem postS_bind {α : Type} {Dn : Ends} {m : M α} {f : α → M Fl} (h : postS K W c F Dn (mBind m f ρ)) :
    post K W c σ F (fun a H1 F1 => ∃ ρ1, Ok K c σ H1 F1 ρ1 ∧ Same F F1 ∧ postS K W c F1 Dn (f a ρ1)) (m ρ) := by
  unfold mBind at h
  cases e : m ρ with
  | none => rw [e] at h; exact h.elim
  | some r =>
    rw [e] at h
    cases r with
    | ok a ρ' => exact fun H' F' ok s => ⟨ρ', ok, s, postS_weak s h⟩
    | ex x ρ' => exact fun cls y H' F' ok s q => h σ cls y H' F' ok s q
theorem postG_bind {α : Type} {Q : St → Hp → Prop} {m : M α} {f : α → M Unit} (h : postG K W c F Q (mBind m f ρ)) :
    post K W c σ F (fun a H1 F1 => ∃ ρ1, Ok K c σ H1 F1 ρ1 ∧ Same F F1 ∧ postG K W c F1 Q (f a ρ1)) (m ρ) := by
  unfold mBind at h
  cases e : m ρ with
  | none => rw [e] at h; exact h.elim
  | some r =>
    rw [e] at h
    cases r with
    | ok a ρ' => exact fun H' F' ok s => ⟨ρ', ok, s, postG_weak s h⟩
    | ex x ρ' => exact fun cls y H' F' ok s q => h σ cls y H' F' ok s q
/-- a store ahead of what is stated of a statement, of a store -/
theorem postG_mono {Q Q' : St → Hp → Prop} (k : ∀ σ' H', Q σ' H' → Q' σ' H') : ∀ {r : Option (R Unit)}, postG K W c F Q r → postG K W c F Q' r
  | some (.ok _ ρ'), h => fun σ' H' F' ok s' => k _ _ (h σ' H' F' ok s')
  | some (.ex e ρ'), h => h
theorem postS_bindG {Dn : Ends} {m : M Unit} {f : Unit → M Fl} (h : postS K W c F Dn (mBind m f ρ)) :
    postG K W c F (fun σ1 H1 => ∃ F1 ρ1, Ok K c σ1 H1 F1 ρ1 ∧ Same F F1 ∧ postS K W c F1 Dn (f () ρ1)) (m ρ) := by
  unfold mBind at h
  cases e : m ρ with
  | none => rw [e] at h; exact h.elim
  | some r =>
    rw [e] at h
    cases r with
    | ok a ρ' => exact fun σ' H' F' ok s => ⟨F', ρ', ok, s, postS_weak s h⟩
    | ex x ρ' => exact h
theorem postG_bindG {Q : St → Hp → Prop} {m : M Unit} {f : Unit → M Unit} (h : postG K W c F Q (mBind m f ρ)) :
    postG K W c F (fun σ1 H1 => ∃ F1 ρ1, Ok K c σ1 H1 F1 ρ1 ∧ Same F F1 ∧ postG K W c F1 Q (f () ρ1)) (m ρ) := by
  unfold mBind at h
  cases e : m ρ with
  | none => rw [e] at h; exact h.elim
  | some r =>
    rw [e] at h
    cases r with
    | ok a ρ' => exact fun σ' H' F' ok s => ⟨F', ρ', ok, s, postG_weak s h⟩
    | ex x ρ' => exact h
end

/-! ### what a looked-at value is -/
section
variable {K : PySem.W.Frag} {c : Ct} {σ : St} {F H : Hp} {ρ : En} {x : V}
theorem Pk.of {a : D} (h : Dp K F x a) : Pk K H F x a := .inl h
theorem Pk.dp {a : D} (s : Same F H) (h : Pk K H F x a) : L2.Dp K H x a := by
  rcases h with h | ⟨p, vs, ds, rfl, rfl, h, r⟩
  · exact Dp.l2 (Dp.mono s h)
  · exact .lst (SqL.of h) (DpAll.l2 (DpAll.mono s r))
theorem Pk.rd {ds : List D} (s : Same F H) (h : Pk K H F x (.list ds)) : ∃ p vs, x = .ref p ∧ Rd H p (.lst vs) ∧ DpAll K F vs ds := by
  rcases h with h | ⟨p, vs, es, rfl, e, h, r⟩
  · cases h with
    | lst h r => exact ⟨_, _, rfl, Rd.mono s h, r⟩
  · cases e
    exact ⟨p, vs, rfl, .inl h, r⟩
theorem Pk.lst {ds : List D} (s : Same F H) (h : Pk K H F x (.list ds)) : ∃ p vs, x = .ref p ∧ SqL K H p vs ∧ DpAll K F vs ds := by
  rcases h with h | ⟨p, vs, es, rfl, e, h, r⟩
  · cases h with
    | lst h r => exact ⟨_, _, rfl, .inl (Rd.mono s h), r⟩
  · cases e
    exact ⟨p, vs, rfl, SqL.of h, r⟩
theorem Pk.tup {ds : List D} (s : Same F H) (h : Pk K H F x (.tuple ds)) : ∃ p vs, x = .ref p ∧ SqT K H p vs ∧ DpAll K F vs ds := by
  rcases h with h | ⟨p, vs, es, rfl, e, h, r⟩
  · cases h with
    | tup h r => exact ⟨_, _, rfl, SqT.mono s h, r⟩
  · cases e
theorem Pk.int {i : Int} (h : Pk K H F x (.int i)) : x = .int i := by
  rcases h with h | ⟨p, vs, es, rfl, e, h, r⟩
  · cases h; rfl
  · cases e
theorem Pk.bool {i : Bool} (h : Pk K H F x (.bool i)) : x = .bl i := by
  rcases h with h | ⟨p, vs, es, rfl, e, h, r⟩
  · cases h; rfl
  · cases e
theorem Pk.str {i : Str} (h : Pk K H F x (.str i)) : x = .str i := by
  rcases h with h | ⟨p, vs, es, rfl, e, h, r⟩
  · cases h; rfl
  · cases e
theorem Pk.none (h : Pk K H F x .none) : x = .non := by
  rcases h with h | ⟨p, vs, es, rfl, e, h, r⟩
  · cases h; rfl
  · cases e
end

/-! ### names -/
def mVar (i : Nat) : M D := fun ρ => match ρ[i]? with
  | some (.val d) => some (.ok d ρ)
  | some (.own ds) => some (.ok (.list ds) (ρ.set i (.val (.list ds))))
  | _ => none
def mPeek (i : Nat) : M D := fun ρ => match ρ[i]? with
  | some (.val d) => some (.ok d ρ)
  | some (.own ds) => some (.ok (.list ds) ρ)
  | some (.io ds) => some (.ok (.list ds) ρ)
  | _ => none
section
variable {X : Cx} {K : PySem.W.Frag} {W : WX} {c : Ct} {σ : St} {F H : Hp} {ρ : En}
theorem peek_at {i : Nat} {Q : VK} (ok : Ok K c σ H F ρ) (h : post K W c σ F (qP K Q) (mPeek i ρ)) : ∃ v d, σ[i]? = some (some v) ∧ Pk K H F v d ∧ mPeek i ρ = some (.ok d ρ) ∧ Q v H := by
  unfold mPeek at h ⊢
  split at h
  · rename_i d e
    obtain ⟨v, a1, a2⟩ := ok.val i d e
    exact ⟨v, d, a1, .inl a2, rfl, h H F ok (Same.refl F) v (.inl a2)⟩
  · rename_i ds e
    obtain ⟨p, vs, a1, a2, a3, _⟩ := ok.own i ds e
    have q : Pk K H F (.ref p) (.list ds) := .inr ⟨p, vs, ds, rfl, rfl, a2, a3⟩
    exact ⟨.ref p, _, a1, q, rfl, h H F ok (Same.refl F) _ q⟩
  · rename_i ds e
    obtain ⟨_, p, vs, _, a1, a2, a3⟩ := ok.ios i ds e
    have q : Pk K H F (.ref p) (.list ds) := .inr ⟨p, vs, ds, rfl, rfl, a2, a3⟩
    exact ⟨.ref p, _, a1, q, rfl, h H F ok (Same.refl F) _ q⟩
  · exact h.elim
theorem tVar_of {i : Nat} {Q : VK} (h : tE K W (mVar i) σ H Q) : tVar i σ H Q := by
  obtain ⟨c, F, ρ, ok, h⟩ := h
  unfold mVar at h
  split at h
  · rename_i d e
    obtain ⟨v, a1, a2⟩ := ok.val i d e
    exact ⟨v, a1, h H F ok (Same.refl F) v a2⟩
  · rename_i ds e
    obtain ⟨F', p, s, a1, a2, ok'⟩ := ok.frz e
    exact ⟨.ref p, a1, h H F' ok' s _ a2⟩
  · exact h.elim
theorem tVar_ofP {i : Nat} {Q : VK} (h : tP K W (mPeek i) σ H Q) : tVar i σ H Q := by
  obtain ⟨c, F, ρ, ok, h⟩ := h
  obtain ⟨v, d, a1, _, _, q⟩ := peek_at ok h
  exact ⟨v, a1, q⟩
theorem tP_of {m : M D} {Q : VK} (h : tP K W m σ H Q) : tE K W m σ H Q := by
  obtain ⟨c, F, ρ, ok, h⟩ := h
  exact ⟨c, F, ρ, ok, post_mono (fun a H' F' _ q v r => q v (.inl r)) h⟩
theorem dv (i : Nat) {x : Str} {pos : Pos} (hN : X.N[i]? = some x := by rfl) (hv : Vis X.env.scope x := by first | exact Or.inl rfl | exact Or.inr (Or.inl rfl) | exact Or.inr (Or.inr rfl)) (hd : (x == ("__debug__" : Str)) = false := by decide)
    (hcd : (x == ("__classdict__" : Str)) = false := by decide) : PE X (.Name x pos) (tE K W (mVar i)) := PE.imp (pe_var hN hv hd hcd) fun _ _ _ => tVar_of
theorem dpk (i : Nat) {x : Str} {pos : Pos} (hN : X.N[i]? = some x := by rfl) (hv : Vis X.env.scope x := by first | exact Or.inl rfl | exact Or.inr (Or.inl rfl) | exact Or.inr (Or.inr rfl)) (hd : (x == ("__debug__" : Str)) = false := by decide)
    (hcd : (x == ("__classdict__" : Str)) = false := by decide) : PE X (.Name x pos) (tP K W (mPeek i)) := PE.imp (pe_var hN hv hd hcd) fun _ _ _ => tVar_ofP
/-- any value may be looked at -/
theorem dP {e : Expr} {m : M D} (h : PE X e (tE K W m)) : PE X e (tP K W m) := PE.imp h fun _ _ _ => tP_of
/-! constants -/
theorem tC_of {v : V} {d : D} {Q : VK} (r : ∀ F, Dp K F v d) (h : tE K W (mPure d) σ H Q) : tC v σ H Q := by
  obtain ⟨c, F, ρ, ok, h⟩ := h
  exact h H F ok (Same.refl F) v (r F)
theorem dInt {i : Int} {j pos} : PE X (.Constant (.int i) j pos) (tE K W (mPure (.int i))) := PE.imp pe_int fun _ _ _ => tC_of fun _ => .int i
theorem dBl {b : Bool} {j pos} : PE X (.Constant (.bool b) j pos) (tE K W (mPure (.bool b))) := PE.imp pe_bl fun _ _ _ => tC_of fun _ => .bl b
theorem dNon {j pos} : PE X (.Constant .none j pos) (tE K W (mPure .none)) := PE.imp pe_non fun _ _ _ => tC_of fun _ => .non
theorem dStr {x : Str} {j pos} : PE X (.Constant (.str x) j pos) (tE K W (mPure (.str x))) := PE.imp pe_str fun _ _ _ => tC_of fun _ => .str x
/-- what the run never comes to -/
theorem dNever {e : Expr} : PE X e (tE K W mStuck) := ⟨fun _ _ _ _ _ _ h => by obtain ⟨_, _, _, _, h⟩ := h; exact h.elim⟩
theorem dNeverS {st : Stmt} : PS X st (tS K W mStuck) := ⟨fun _ _ _ _ _ _ h => by obtain ⟨_, _, _, _, h⟩ := h; exact h.elim⟩

/-! ### two values, and what comes of them -/
/-- a rule of the layer serves g -/
def OpD (K : PySem.W.Frag) (r : R2) (g : D → D → Option D) : Prop :=
  ∀ {W : WX} {c : Ct} {σ : St} {H F : Hp} {ρ : En} {x y : V} {a b d : D} {Q : VK}, Ok K c σ H F ρ → Pk K H F x a → Pk K H F y b → g a b = some d → post K W c σ F (qE K Q) (some (.ok d ρ)) → r x y H Q
def mBin (g : D → D → Option D) (ma mb : M D) : M D := mBind ma fun a => mBind mb fun b => mLift (g a b)
theorem post_peek {α : Type} {i : Nat} {G : α → Hp → Hp → Prop} {f : D → M α} (ok : Ok K c σ H F ρ) (h : post K W c σ F G (mBind (mPeek i) f ρ)) : ∃ v d, σ[i]? = some (some v) ∧ Pk K H F v d ∧ post K W c σ F G (f d ρ) := by
  unfold mBind mPeek at h
  cases e : ρ[i]? with
  | none => rw [e] at h; exact h.elim
  | some u =>
    rw [e] at h
    cases u with
    | un => exact h.elim
    | val d =>
      obtain ⟨v, a1, a2⟩ := ok.val i d e
      exact ⟨v, d, a1, .inl a2, h⟩
    | own ds =>
      obtain ⟨p, vs, a1, a2, a3, _⟩ := ok.own i ds e
      exact ⟨.ref p, _, a1, .inr ⟨p, vs, ds, rfl, rfl, a2, a3⟩, h⟩
    | io ds =>
      obtain ⟨_, p, vs, _, a1, a2, a3⟩ := ok.ios i ds e
      exact ⟨.ref p, _, a1, .inr ⟨p, vs, ds, rfl, rfl, a2, a3⟩, h⟩
    | scr ns => exact h.elim
/-- the left one is a slot, read behind the right one -/
def mBinL (g : D → D → Option D) (i : Nat) (mb : M D) : M D := mBind (mPeek i) fun _ => mBind mb fun b => mBind (mPeek i) fun a => mLift (g a b)
theorem tOp_of {r : R2} {g : D → D → Option D} (ho : OpD K r g) {ma mb : M D} {Q : VK} (h : tE K W (mBin g ma mb) σ H Q) : tOp r (tE K W ma) (tP K W mb) σ H Q := by
  obtain ⟨c, F, ρ, ok, h⟩ := h
  refine ⟨c, F, ρ, ok, post_mono ?_ (post_bind h)⟩
  rintro a H1 F1 _ ⟨ρ1, ok1, s1, h1⟩ x rx
  refine ⟨c, F1, ρ1, ok1, post_mono ?_ (post_bind h1)⟩
  rintro b H2 F2 s2' ⟨ρ2, ok2, s2, h2⟩ y ry
  obtain ⟨d, e, h3⟩ := post_lift h2
  exact ho ok2 (.inl (Dp.mono s2 rx)) ry e h3
theorem tOp_ofL {r : R2} {g : D → D → Option D} (ho : OpD K r g) {i : Nat} {mb : M D} {Q : VK} (h : tE K W (mBinL g i mb) σ H Q) : tOp r (tVar i) (tP K W mb) σ H Q := by
  obtain ⟨c, F, ρ, ok, h⟩ := h
  obtain ⟨v, _, ev, _, h⟩ := post_peek ok h
  refine ⟨v, ev, c, F, ρ, ok, post_mono ?_ (post_bind h)⟩
  rintro b H2 F2 _ ⟨ρ2, ok2, s2, h2⟩ y ry
  obtain ⟨v', a, ev', pk, h3⟩ := post_peek ok2 h2
  obtain ⟨d, e, h4⟩ := post_lift h3
  have ee : v' = v := by rw [ev] at ev'; cases ev'; rfl
  subst ee
  exact ho ok2 pk ry e h4
end
end Dd

namespace Dd
open PySem PySem.Spec L2
section
variable {K : PySem.W.Frag}
/-! ### operators -/
def fit (n : Nat) : Bool := decide (n ≤ 16000000)
theorem fit_le {n : Nat} (h : fit n = true) : n ≤ sizeLine := by
  have := of_decide_eq_true h
  rw [sizeLine_eq]; omega
theorem fit_lt {n : Nat} (h : fit n = true) : n < sizeLine := by
  have := of_decide_eq_true h
  rw [sizeLine_eq]; omega
/-- ints -/
def iI (f : Int → Int → D) : D → D → Option D
  | .int i, .int j => some (f i j)
  | _, _ => none
def iIc (C : Int → Int → Bool) (f : Int → Int → D) : D → D → Option D
  | .int i, .int j => if C i j = true then some (f i j) else none
  | _, _ => none
theorem opD_I {g : Int → Int → V} {f : Int → Int → D} (h : ∀ F i j, Dp K F (g i j) (f i j)) : OpD K (rI0 g) (iI f) := by
  intro W c σ H F ρ x y a b d Q ok rx ry e q
  unfold iI at e
  split at e
  · rename_i i j
    cases e
    exact ⟨i, j, rx.int, ry.int, post_ok q ok _ (h F i j)⟩
  · cases e
theorem opD_Ic {Cp : Int → Int → Prop} {C : Int → Int → Bool} {g : Int → Int → V} {f : Int → Int → D} (hC : ∀ i j, C i j = true → Cp i j) (h : ∀ F i j, Dp K F (g i j) (f i j)) : OpD K (rI Cp g) (iIc C f) := by
  intro W c σ H F ρ x y a b d Q ok rx ry e q
  unfold iIc at e
  split at e
  · rename_i i j
    split at e
    · rename_i hc
      cases e
      exact ⟨i, j, rx.int, ry.int, hC i j hc, post_ok q ok _ (h F i j)⟩
    · cases e
  · cases e
/-- one rule or another -/
def oOr (g g' : D → D → Option D) : D → D → Option D := fun a b => match g a b with
  | some d => some d
  | none => g' a b
theorem opD_or {r r' : R2} {g g' : D → D → Option D} (h : OpD K r g) (h' : OpD K r' g') : OpD K (fun x y H Q => r x y H Q ∨ r' x y H Q) (oOr g g') := by
  intro W c σ H F ρ x y a b d Q ok rx ry e q
  unfold oOr at e
  split at e
  · rename_i d' e'
    cases e
    exact .inl (h ok rx ry e' q)
  · exact .inr (h' ok rx ry e q)
/-- a new list, a new tuple -/
theorem new_lst {W : WX} {c : Ct} {σ : St} {H F : Hp} {ρ : En} {Q : VK} {vs : List V} {ds : List D} (ok : Ok K c σ H F ρ) (hd : DpAll K F vs ds) (q : post K W c σ F (qE K Q) (some (.ok (.list ds) ρ))) (p : Addr) (hp : H p = none) :
    Q (.ref p) (upd H p (.lst vs)) :=
  q _ _ (ok.alloc hp) (Same.updN (ok.new hp).1) _ (.lst (.inl upd_same) (DpAll.mono (Same.updN (ok.new hp).1) hd))
theorem new_tup {W : WX} {c : Ct} {σ : St} {H F : Hp} {ρ : En} {Q : VK} {vs : List V} {ds : List D} (ok : Ok K c σ H F ρ) (hd : DpAll K F vs ds) (q : post K W c σ F (qE K Q) (some (.ok (.tuple ds) ρ))) (p : Addr) (hp : H p = none) :
    Q (.ref p) (upd H p (.tup vs)) :=
  q _ _ (ok.alloc hp) (Same.updN (ok.new hp).1) _ (.tup (SqT.of upd_same) (DpAll.mono (Same.updN (ok.new hp).1) hd))

theorem sq_raw {X : Cx} {pins : List (Addr × Obj)} {σ : St} {H : Hp} {s : Shared} {a : Addr} {xs : List V} (I : Inv X pins σ H s) (h : Rd H a (.lst xs)) :
    xs.length ≤ sizeLine ∧ ∃ (its : List Value) (n : Nat), Vals xs its ∧ xs.length = its.length ∧ s.heap.get? a = some { cls := .type "list", data := .seq its.toArray n } := by
  have q : ObjOk X.prog X.w H s.heap a (.lst xs) := h.ok I.hok
  obtain ⟨z, its, n, r, e⟩ := q
  exact ⟨z, its, n, r, r.length, e⟩
/-- list + list, any -/
def rCatS : R2 := fun x y H Q => ∃ l b xs zs, x = .ref l ∧ y = .ref b ∧ Rd H l (.lst xs) ∧ Rd H b (.lst zs) ∧ xs.length + zs.length ≤ sizeLine ∧ ∀ p, H p = none → Q (.ref p) (upd H p (.lst (xs ++ zs)))
theorem op_catS {X : Cx} : OpR X (binaryOp .Add) rCatS := by
  intro pins s σ H x y v u Q I rx ry h
  obtain ⟨l, b, xs, zs, rfl, rfl, hH, hB, hz, q⟩ := h
  cases rx
  cases ry
  obtain ⟨z, its, n, r, hl, e⟩ := sq_raw I hH
  obtain ⟨z2, its2, n2, r2, hl2, e2⟩ := sq_raw I hB
  refine PySem.P.add_list e e2 ?_ (by rw [List.size_toArray, List.size_toArray]; omega)
  have ea : its.toArray ++ its2.toArray = (its ++ its2).toArray := by simp
  rw [ea]
  exact ⟨.ref _, _, I.lnew (t' := s.toks) (r.append r2) (by rw [List.length_append]; omega), rfl, q _ I.fresh⟩
def catL : D → D → Option D
  | .list xs, .list ys => if fit (xs.length + ys.length) = true then some (.list (xs ++ ys)) else none
  | _, _ => none
def catT : D → D → Option D
  | .tuple xs, .tuple ys => if (!xs.isEmpty && fit (xs.length + ys.length)) = true then some (.tuple (xs ++ ys)) else none
  | _, _ => none
def catS : D → D → Option D
  | .str x, .str y => if fit (x.length + y.length) = true then some (.str (x ++ y)) else none
  | _, _ => none
theorem opD_catL : OpD K rCatS catL := by
  intro W c σ H F ρ x y a b d Q ok rx ry e q
  unfold catL at e
  split at e
  · rename_i xs ys
    split at e
    · rename_i hc
      cases e
      obtain ⟨p, vs, rfl, hp, dp⟩ := Pk.rd ok.sub rx
      obtain ⟨p2, vs2, rfl, hp2, dp2⟩ := Pk.rd ok.sub ry
      exact ⟨p, p2, vs, vs2, rfl, rfl, hp, hp2, by rw [DpAll.length dp, DpAll.length dp2]; exact fit_le hc, fun p hp => new_lst ok (DpAll.append dp dp2) q p hp⟩
    · cases e
  · cases e
theorem opD_catT : OpD K (rCatT K) catT := by
  intro W c σ H F ρ x y a b d Q ok rx ry e q
  unfold catT at e
  split at e
  · rename_i xs ys
    split at e
    · rename_i hc
      cases e
      obtain ⟨p, vs, rfl, hp, dp⟩ := Pk.tup ok.sub rx
      obtain ⟨p2, vs2, rfl, hp2, dp2⟩ := Pk.tup ok.sub ry
      rw [Bool.and_eq_true] at hc
      refine ⟨p, p2, vs, vs2, rfl, rfl, hp, hp2, fun z => ?_, by rw [DpAll.length dp, DpAll.length dp2]; exact fit_le hc.2, fun z => ?_, fun z p hp => new_tup ok (DpAll.append dp dp2) q p hp⟩
      · subst z
        cases dp
        simp at hc
      · subst z
        cases dp2
        rw [List.append_nil] at q
        rcases rx with rx | ⟨_, _, _, _, e, _⟩
        · exact post_ok q ok _ rx
        · cases e
    · cases e
  · cases e
def rAddStr : R2 := fun x y H Q => ∃ i j, x = .str i ∧ y = .str j ∧ i.length + j.length ≤ sizeLine ∧ Q (.str (i ++ j)) H
theorem opD_catS : OpD K rAddStr catS := by
  intro W c σ H F ρ x y a b d Q ok rx ry e q
  unfold catS at e
  split at e
  · rename_i i j
    split at e
    · rename_i hc
      cases e
      exact ⟨i, j, rx.str, ry.str, fit_le hc, post_ok q ok _ (.str _)⟩
    · cases e
  · cases e
def addD : D → D → Option D := oOr (iI fun i j => .int (i + j)) (oOr catL (oOr catT catS))
def rAddA (K : PySem.W.Frag) : R2 := fun x y H Q => rI0 (fun i j => .int (i + j)) x y H Q ∨ (rCatS x y H Q ∨ (rCatT K x y H Q ∨ rAddStr x y H Q))
theorem opD_add : OpD K (rAddA K) addD := opD_or (opD_I fun _ _ _ => .int _) (opD_or opD_catL (opD_or opD_catT opD_catS))
theorem or_addA {X : Cx} : OpR X (binaryOp .Add) (rAddA X.K) := OpR.or op_add (OpR.or op_catS (OpR.or op_catT op_add_str))
def subD : D → D → Option D := iI fun i j => .int (i - j)
theorem opD_sub : OpD K (rI0 fun i j => .int (i - j)) subD := opD_I fun _ _ _ => .int _
/-- * of ints, one of them small; of a list by an int -/
def cMul (i j : Int) : Bool := decide (i.natAbs < 18446744073709551616) || decide (j.natAbs < 18446744073709551616)
theorem cMul_ok (i j : Int) (h : cMul i j = true) : CMul i j := by
  unfold cMul at h
  simp only [Bool.or_eq_true, decide_eq_true_eq] at h
  exact h.imp (fun q => by omega) (fun q => by omega)
def mulI : D → D → Option D := iIc cMul fun i j => .int (i * j)
def cDiv (_ j : Int) : Bool := decide (0 < j) && decide (j.natAbs < 1152921504606846976)
theorem cDiv_ok (i j : Int) (h : cDiv i j = true) : CDivW i j := by
  unfold cDiv at h
  simp only [Bool.and_eq_true, decide_eq_true_eq] at h
  exact wide_div (b := 60) h.1 h.2 (by decide) (by decide)
def divD : D → D → Option D := iIc cDiv fun i j => .int (i / j)
theorem opD_div : OpD K (rI CDivW fun i j => .int (i / j)) divD := opD_Ic cDiv_ok fun _ _ _ => .int _
def cMod (_ j : Int) : Bool := decide (0 < j)
def modD : D → D → Option D := iIc cMod fun i j => .int (i % j)
theorem opD_mod : OpD K (rI (fun _ j => 0 < j) fun i j => .int (i % j)) modD := opD_Ic (fun _ _ h => of_decide_eq_true h) fun _ _ _ => .int _
def cPow (i j : Int) : Bool := decide (0 ≤ j) && decide (j ≤ 1000000) && decide (i.natAbs < 2 ^ 64)
def powD : D → D → Option D := iIc cPow fun i j => .int (i ^ j.toNat)
theorem opD_pow : OpD K (rI CPow fun i j => .int (i ^ j.toNat)) powD := opD_Ic (fun i j h => by
  unfold cPow at h
  simp only [Bool.and_eq_true, decide_eq_true_eq] at h
  exact ⟨h.1.1, h.1.2, h.2⟩) fun _ _ _ => .int _
def rRepL : R2 := fun x y H Q => ∃ l k xs, x = .ref l ∧ y = .int k ∧ H l = some (.lst xs) ∧ -(2 ^ 63) ≤ k ∧ k < 2 ^ 63 ∧ xs.length * k.toNat ≤ sizeLine ∧
  ∀ p, H p = none → Q (.ref p) (upd H p (.lst (List.replicate k.toNat xs).flatten))
/-- comparing -/
def ltD : D → D → Option D := iI fun i j => .bool (decide (i < j))
def leD : D → D → Option D := iI fun i j => .bool (decide (i ≤ j))
def gtD : D → D → Option D := iI fun i j => .bool (decide (j < i))
def geD : D → D → Option D := iI fun i j => .bool (decide (j ≤ i))
theorem opD_lt : OpD K (rI0 fun i j => .bl (decide (i < j))) ltD := opD_I fun _ _ _ => .bl _
theorem opD_le : OpD K (rI0 fun i j => .bl (decide (i ≤ j))) leD := opD_I fun _ _ _ => .bl _
theorem opD_gt : OpD K (rI0 fun i j => .bl (decide (j < i))) gtD := opD_I fun _ _ _ => .bl _
theorem opD_ge : OpD K (rI0 fun i j => .bl (decide (j ≤ i))) geD := opD_I fun _ _ _ => .bl _
def eqD (a b : D) : Option D := if (SeqAt.shaped a && SeqAt.shaped b) = true then some (.bool (PyData.eqv a b)) else none
def neD (a b : D) : Option D := if (SeqAt.shaped a && SeqAt.shaped b) = true then some (.bool (!PyData.eqv a b)) else none
theorem opD_eq : OpD K (rEqD K) eqD := by
  intro W c σ H F ρ x y a b d Q ok rx ry e q
  unfold eqD at e
  split at e
  · rename_i hc
    cases e
    rw [Bool.and_eq_true] at hc
    exact ⟨a, b, Pk.dp ok.sub rx, Pk.dp ok.sub ry, hc.1, hc.2, post_ok q ok _ (.bl _)⟩
  · cases e
theorem opD_ne : OpD K (rNeD K) neD := by
  intro W c σ H F ρ x y a b d Q ok rx ry e q
  unfold neD at e
  split at e
  · rename_i hc
    cases e
    rw [Bool.and_eq_true] at hc
    exact ⟨a, b, Pk.dp ok.sub rx, Pk.dp ok.sub ry, hc.1, hc.2, post_ok q ok _ (.bl _)⟩
  · cases e
def isNon : D → Bool
  | .none => true
  | _ => false
theorem isNon_of {H F : Hp} {x : V} {a : D} (h : Pk K H F x a) : decide (x = .non) = isNon a := by
  rcases h with h | ⟨p, vs, es, rfl, rfl, h, r⟩
  · cases h <;> rfl
  · rfl
def isD : D → D → Option D
  | a, .none => some (.bool (isNon a))
  | _, _ => none
def isntD : D → D → Option D
  | a, .none => some (.bool (!isNon a))
  | _, _ => none
theorem opD_is : OpD K (fun x y H Q => y = .non ∧ Q (.bl (decide (x = .non))) H) isD := by
  intro W c σ H F ρ x y a b d Q ok rx ry e q
  unfold isD at e
  split at e
  · cases e
    refine ⟨ry.none, post_ok q ok _ ?_⟩
    rw [isNon_of rx]; exact .bl _
  · cases e
theorem opD_isnt : OpD K (fun x y H Q => y = .non ∧ Q (.bl (!decide (x = .non))) H) isntD := by
  intro W c σ H F ρ x y a b d Q ok rx ry e q
  unfold isntD at e
  split at e
  · cases e
    refine ⟨ry.none, post_ok q ok _ ?_⟩
    rw [isNon_of rx]; exact .bl _
  · cases e
/-- in a list, a tuple of plain things -/
def toV : D → V
  | .none => .non
  | .bool b => .bl b
  | .int i => .int i
  | .str x => .str x
  | _ => .non
def flatD : D → Bool
  | .none | .bool _ | .int _ | .str _ => true
  | _ => false
theorem flat_of {F : Hp} {x : V} {a : D} (h : Dp K F x a) (f : flatD a = true) : x = toV a := by
  cases h <;> first | rfl | cases f
theorem flats_of {F : Hp} : ∀ {vs : List V} {ds : List D}, DpAll K F vs ds → ds.all flatD = true → vs = ds.map toV
  | _, _, .nil, _ => rfl
  | _, _, .cons h t, f => by
    simp only [List.all_cons, Bool.and_eq_true] at f
    rw [flat_of h f.1, flats_of t f.2]; rfl
def inFlat (a : D) (ds : List D) : Bool := inV (toV a) (ds.map toV)
def inOk (a : D) (ds : List D) : Bool := flatD a && ds.all flatD && flatV (toV a) && (ds.map toV).all flatV
def inD (neg : Bool) : D → D → Option D
  | a, .list ds => if inOk a ds = true then some (.bool (if neg then !inFlat a ds else inFlat a ds)) else none
  | a, .tuple ds => if inOk a ds = true then some (.bool (if neg then !inFlat a ds else inFlat a ds)) else none
  | _, _ => none
theorem opD_in (neg : Bool) : OpD K (rIn K neg) (inD neg) := by
  intro W c σ H F ρ x y a b d Q ok rx ry e q
  have go : ∀ (ds : List D) (p : Addr) (vs : List V), inOk a ds = true → DpAll K F vs ds → d = .bool (if neg then !inFlat a ds else inFlat a ds) → (SqL K H p vs ∨ SqT K H p vs) → y = .ref p → rIn K neg x y H Q := by
    intro ds p vs hc dp ed hs ey
    unfold inOk at hc
    simp only [Bool.and_eq_true] at hc
    obtain ⟨⟨⟨h1, h2⟩, h3⟩, h4⟩ := hc
    have ex : x = toV a := by
      rcases rx with rx | ⟨_, _, _, _, e', _⟩
      · exact flat_of rx h1
      · subst e'; cases h1
    have ev : vs = ds.map toV := flats_of dp h2
    subst ex ev ed
    exact ⟨p, _, ey, hs, h3, h4, post_ok q ok _ (.bl _)⟩
  unfold inD at e
  split at e
  · split at e
    · rename_i hc
      cases e
      obtain ⟨p, vs, ey, hp, dp⟩ := Pk.lst ok.sub ry
      exact go _ p vs hc dp rfl (.inl hp) ey
    · cases e
  · split at e
    · rename_i hc
      cases e
      obtain ⟨p, vs, ey, hp, dp⟩ := Pk.tup ok.sub ry
      exact go _ p vs hc dp rfl (.inr hp) ey
    · cases e
  · cases e
/-- an item by its place -/
def ixD : D → D → Option D
  | .list ds, .int i => atI ds i
  | .tuple ds, .int i => atI ds i
  | .str z, .int i => if fit z.length = true then (atI z.cps.toList i).map fun c => .str ⟨#[c]⟩ else none
  | _, _ => none
theorem atI_D {F : Hp} {vs : List V} {ds : List D} {i : Int} {d : D} (h : DpAll K F vs ds) (e : atI ds i = some d) : ∃ v, atI vs i = some v ∧ Dp K F v d := by
  unfold atI at e ⊢
  rw [DpAll.length h]
  cases q : ixN ds.length i with
  | none => rw [q] at e; cases e
  | some j =>
    rw [q] at e
    exact DpAll.getd h e
theorem opD_ix : OpD K (rIx K) ixD := by
  intro W c σ H F ρ x y a b d Q ok rx ry e q
  unfold ixD at e
  split at e
  · rename_i ds i
    obtain ⟨p, vs, rfl, hp, dp⟩ := Pk.lst ok.sub rx
    obtain ⟨v, e1, e2⟩ := atI_D dp e
    exact .inl ⟨p, vs, i, v, rfl, ry.int, hp, e1, post_ok q ok _ e2⟩
  · rename_i ds i
    obtain ⟨p, vs, rfl, hp, dp⟩ := Pk.tup ok.sub rx
    obtain ⟨v, e1, e2⟩ := atI_D dp e
    exact .inr (.inl ⟨p, vs, i, v, rfl, ry.int, hp, e1, post_ok q ok _ e2⟩)
  · rename_i z i
    split at e
    · rename_i hf
      cases q' : atI z.cps.toList i with
      | none => rw [q'] at e; cases e
      | some c' =>
        rw [q'] at e
        cases e
        exact .inr (.inr ⟨z, i, c', rx.str, ry.int, fit_le hf, q', post_ok q ok _ (.str _)⟩)
    · cases e
  · cases e
end
end Dd

namespace Dd
open PySem PySem.Spec L2
section
variable {X : Cx} {W : WX} {a b c' : Expr} {ma mb mc : M D} {pos : Pos} {σ : St} {H : Hp} {K : PySem.W.Frag}
/-! ### operators in an expression -/
theorem dOp {op : Operator} {r : R2} {g : D → D → Option D} (ho : OpR X (binaryOp op) r) (hd : OpD X.K r g) (ha : PE X a (tE X.K W ma)) (hb : PE X b (tP X.K W mb)) : PE X (.BinOp a op b pos) (tE X.K W (mBin g ma mb)) :=
  PE.imp (pe_op ho ha hb) fun _ _ _ => tOp_of hd
theorem dOpL {op : Operator} {r : R2} {g : D → D → Option D} {i : Nat} (ho : OpR X (binaryOp op) r) (hd : OpD X.K r g) (ha : PE X a (tVar i)) (hb : PE X b (tP X.K W mb)) : PE X (.BinOp a op b pos) (tE X.K W (mBinL g i mb)) :=
  PE.imp (pe_op ho ha hb) fun _ _ _ => tOp_ofL hd
theorem dCmp {op : CmpOp} {r : R2} {g : D → D → Option D} (ho : OpR X (compareOp op) r) (hd : OpD X.K r g) (hm : behindInMarks op b = false) (ha : PE X a (tE X.K W ma)) (hb : PE X b (tP X.K W mb)) : PE X (.Compare a [op] [b] pos) (tE X.K W (mBin g ma mb)) :=
  PE.imp (pe_cmpR ho ha hb hm) fun _ _ _ => tOp_of hd
theorem dCmpL {op : CmpOp} {r : R2} {g : D → D → Option D} {i : Nat} (ho : OpR X (compareOp op) r) (hd : OpD X.K r g) (hm : behindInMarks op b = false) (ha : PE X a (tVar i)) (hb : PE X b (tP X.K W mb)) : PE X (.Compare a [op] [b] pos) (tE X.K W (mBinL g i mb)) :=
  PE.imp (pe_cmpR ho ha hb hm) fun _ _ _ => tOp_ofL hd
theorem dIx (ha : PE X a (tE X.K W ma)) (hb : PE X b (tP X.K W mb)) (hs : PlainIx b := by exact fun _ _ => rfl) : PE X (.Subscript a b pos) (tE X.K W (mBin ixD ma mb)) := PE.imp (pe_ix ix_seq ha hb hs) fun _ _ _ => tOp_of opD_ix
theorem dIxL {i : Nat} (ha : PE X a (tVar i)) (hb : PE X b (tP X.K W mb)) (hs : PlainIx b := by exact fun _ _ => rfl) : PE X (.Subscript a b pos) (tE X.K W (mBinL ixD i mb)) := PE.imp (pe_ix ix_seq ha hb hs) fun _ _ _ => tOp_ofL opD_ix
/-- one value -/
def mUn (g : D → Option D) (ma : M D) : M D := mBind ma fun a => mLift (g a)
def negD : D → Option D
  | .int i => some (.int (-i))
  | _ => none
theorem dNeg (ha : PE X a (tE X.K W ma)) : PE X (.UnaryOp .USub a pos) (tE X.K W (mUn negD ma)) := by
  refine PE.imp (pe_un un_neg ha) ?_
  rintro σ H Q ⟨c, F, ρ, ok, h⟩
  refine ⟨c, F, ρ, ok, post_mono ?_ (post_bind h)⟩
  rintro d H1 F1 _ ⟨ρ1, ok1, s1, h1⟩ x rx
  obtain ⟨d', e, h2⟩ := post_lift h1
  unfold negD at e
  split at e
  · cases e
    cases rx
    exact ⟨_, rfl, post_ok (W := W) h2 ok1 _ (.int _)⟩
  · cases e
/-! ### truth -/
def truD : D → Option Bool
  | .none => some false
  | .bool b => some b
  | .int i => some (i != 0)
  | .str x => if fit x.length = true then some ((x.length : Int) != 0) else none
  | .list ds => some (!ds.isEmpty)
  | .tuple ds => some (!ds.isEmpty)
  | .dict _ => none
theorem isEmpty_dp {F : Hp} {vs : List V} {ds : List D} (h : DpAll K F vs ds) : vs.isEmpty = ds.isEmpty := by cases h <;> rfl
theorem tru_of {c : Ct} {F : Hp} {ρ : En} (ok : Ok K c σ H F ρ) {x : V} {d : D} {k : Bool} (r : Pk K H F x d) (e : truD d = some k) : TruV K x H k := by
  cases d with
  | none => cases r.none; cases e; rfl
  | bool b => cases r.bool; cases e; rfl
  | int i => cases r.int; cases e; rfl
  | str z =>
    cases r.str
    have e : (if fit z.length = true then some ((z.length : Int) != 0) else none) = some k := e
    split at e
    · rename_i hf
      cases e
      exact ⟨fit_le hf, rfl⟩
    · cases e
  | list ds =>
    obtain ⟨p, vs, rfl, hp, dp⟩ := Pk.lst ok.sub r
    cases e
    exact .inl ⟨vs, hp, by rw [isEmpty_dp dp]⟩
  | tuple ds =>
    obtain ⟨p, vs, rfl, hp, dp⟩ := Pk.tup ok.sub r
    cases e
    exact .inr (.inl ⟨vs, hp, by rw [isEmpty_dp dp]⟩)
  | dict _ => cases e
def mTru (m : M D) : M Bool := mBind m fun d => mLift (truD d)
/-- any expression but comparisons, and, or, not: by its value's truth -/
theorem dTru (ha : PE X a (tP X.K W ma)) (he : ∀ whole, isTrue a X.env whole = (do let v ← whole; standAt a.pos; holding [v] (truthy v)) := by exact fun _ => rfl) : PT X a (tT X.K W (mTru ma)) := by
  refine PT.imp (pt_truth ha he) ?_
  rintro σ H Q ⟨c, F, ρ, ok, h⟩
  refine ⟨c, F, ρ, ok, post_mono ?_ (post_bind h)⟩
  rintro d H1 F1 _ ⟨ρ1, ok1, s1, h1⟩ x rx
  obtain ⟨k, e, h2⟩ := post_lift h1
  exact ⟨k, tru_of ok1 rx e, post_ok (W := W) h2 ok1⟩
def bolD : D → Option Bool
  | .bool b => some b
  | _ => none
def mBol (m : M D) : M Bool := mBind m fun d => mLift (bolD d)
theorem tTest_of {t : TE} {m : M D} (ht : ∀ σ H Q, tE K W m σ H Q → t σ H Q) {Q : Bool → Hp → Prop} (h : tT K W (mBol m) σ H Q) : tTest t σ H Q := by
  obtain ⟨c, F, ρ, ok, h⟩ := h
  refine ht _ _ _ ⟨c, F, ρ, ok, post_mono ?_ (post_bind h)⟩
  rintro d H1 F1 _ ⟨ρ1, ok1, s1, h1⟩ x rx
  obtain ⟨k, e, h2⟩ := post_lift h1
  unfold bolD at e
  split at e
  · cases e
    cases rx
    exact ⟨_, rfl, post_ok (W := W) h2 ok1⟩
  · cases e
theorem dtCmp {op : CmpOp} {r : R2} {g : D → D → Option D} (ho : OpR X (compareOp op) r) (hd : OpD X.K r g) (hm : behindInMarks op b = false) (ha : PE X a (tE X.K W ma)) (hb : PE X b (tP X.K W mb)) : PT X (.Compare a [op] [b] pos) (tT X.K W (mBol (mBin g ma mb))) :=
  PT.imp (pt_cmpR ho ha hb hm) fun _ _ _ => tTest_of fun _ _ _ => tOp_of hd
theorem dtCmpL {op : CmpOp} {r : R2} {g : D → D → Option D} {i : Nat} (ho : OpR X (compareOp op) r) (hd : OpD X.K r g) (hm : behindInMarks op b = false) (ha : PE X a (tVar i)) (hb : PE X b (tP X.K W mb)) : PT X (.Compare a [op] [b] pos) (tT X.K W (mBol (mBinL g i mb))) :=
  PT.imp (pt_cmpR ho ha hb hm) fun _ _ _ => tTest_of fun _ _ _ => tOp_ofL hd
/-- a < b < c -/
def mChain (g g' : D → D → Option D) (ma mb mc : M D) : M D := mBind ma fun a => mBind mb fun b => mBind (mLift (g a b)) fun r => mBind (mLift (bolD r)) fun k => if k = true then mBind mc fun c => mLift (g' b c) else mPure (.bool false)
theorem tChain_of {r r' : R2} {g g' : D → D → Option D} (ho : OpD K r g) (ho' : OpD K r' g') {Q : VK} (h : tE K W (mChain g g' ma mb mc) σ H Q) : tChain r r' (tE K W ma) (tE K W mb) (tP K W mc) σ H Q := by
  obtain ⟨c, F, ρ, ok, h⟩ := h
  refine ⟨c, F, ρ, ok, post_mono ?_ (post_bind h)⟩
  rintro a H1 F1 _ ⟨ρ1, ok1, s1, h1⟩ x rx
  refine ⟨c, F1, ρ1, ok1, post_mono ?_ (post_bind h1)⟩
  rintro b H2 F2 s2' ⟨ρ2, ok2, s2, h2⟩ y ry
  obtain ⟨d, e, h3⟩ := post_lift (o := g a b) (by exact post_mono (fun _ _ _ _ q => q) (post_bind h2))
  obtain ⟨ρ3, ok3, s3, h4⟩ := post_ok (W := W) h3 ok2
  refine ho (W := W) ok3 (.inl (Dp.mono (s2.trans s3) rx)) (.inl (Dp.mono s3 ry)) e ?_
  obtain ⟨k, ek, h5⟩ := post_lift (o := bolD d) (by exact post_mono (fun _ _ _ _ q => q) (post_bind h4))
  unfold bolD at ek
  split at ek
  · rename_i k'
    cases ek
    intro H' F' ok' s' v rv
    obtain ⟨ρ4, ok4, s4, h6⟩ := h5 H' F' ok' s'
    cases rv
    refine ⟨k, rfl, ?_⟩
    cases k with
    | false =>
      rw [if_neg (by decide)] at h6 ⊢
      exact post_ok (W := W) h6 ok4 _ (.bl _)
    | true =>
      rw [if_pos rfl] at h6 ⊢
      refine ⟨c, F', ρ4, ok4, post_mono ?_ (post_bind h6)⟩
      rintro z H5 F5 _ ⟨ρ5, ok5, s5, h7⟩ w' rw'
      obtain ⟨d', e', h8⟩ := post_lift h7
      exact ho' ok5 (.inl (Dp.mono ((s3.trans s').trans s5) ry)) rw' e' h8
  · cases ek
theorem dChain {op op' : CmpOp} {r r' : R2} {g g' : D → D → Option D} (ho : OpR X (compareOp op) r) (hd : OpD X.K r g) (ho' : OpR X (compareOp op') r') (hd' : OpD X.K r' g') (ha : PE X a (tE X.K W ma)) (hb : PE X b (tE X.K W mb)) (hc : PE X c' (tP X.K W mc)) (hm : lastMarks [op, op'] [b, c'] = false := by with_unfolding_all rfl) :
    PE X (.Compare a [op, op'] [b, c'] pos) (tE X.K W (mChain g g' ma mb mc)) := PE.imp (pe_chain ho ho' ha hb hc hm) fun _ _ _ => tChain_of hd hd'
theorem dtChain {op op' : CmpOp} {r r' : R2} {g g' : D → D → Option D} (ho : OpR X (compareOp op) r) (hd : OpD X.K r g) (ho' : OpR X (compareOp op') r') (hd' : OpD X.K r' g') (ha : PE X a (tE X.K W ma)) (hb : PE X b (tE X.K W mb)) (hc : PE X c' (tP X.K W mc)) (hm : lastMarks [op, op'] [b, c'] = false := by with_unfolding_all rfl) :
    PT X (.Compare a [op, op'] [b, c'] pos) (tT X.K W (mBol (mChain g g' ma mb mc))) := PT.imp (pt_chain ho ho' ha hb hc hm) fun _ _ _ => tTest_of fun _ _ _ => tChain_of hd hd'
/-! ### and, or, not -/
def mIf {α : Type} (mc : M Bool) (ma mb : M α) : M α := mBind mc fun k => if k = true then ma else mb
def mAndT (ma mb : M Bool) : M Bool := mBind ma fun k => if k = true then mb else mPure false
def mOrT (ma mb : M Bool) : M Bool := mBind ma fun k => if k = true then mPure true else mb
def mNotT (ma : M Bool) : M Bool := mBind ma fun k => mPure (!k)
variable {ta tb : M Bool} {rest : List Expr}
theorem dtNot (ha : PT X a (tT X.K W ta)) : PT X (.UnaryOp .Not a pos) (tT X.K W (mNotT ta)) := by
  refine PT.imp (pt_not ha) ?_
  rintro σ H Q ⟨c, F, ρ, ok, h⟩
  refine ⟨c, F, ρ, ok, post_mono ?_ (post_bind h)⟩
  rintro k H1 F1 _ ⟨ρ1, ok1, s1, h1⟩
  exact post_ok (W := W) h1 ok1
theorem PW.imp {e : Expr} {t t' : TT} (h : PW X e t) (k : ∀ σ H Q, t' σ H Q → t σ H Q) : PW X e t' := ⟨fun wh pins s σ H Q I q => h.run wh pins s σ H Q I (k σ H Q q)⟩
theorem dwAnd1 (ha : PT X a (tT X.K W ta)) : PW X (.BoolOp .And [a] pos) (tT X.K W ta) := pw_and1 ha
theorem dwOr1 (ha : PT X a (tT X.K W ta)) : PW X (.BoolOp .Or [a] pos) (tT X.K W ta) := pw_or1 ha
theorem dwAnd (ha : PT X a (tT X.K W ta)) (hb : PW X (.BoolOp .And (b :: rest) pos) (tT X.K W tb)) : PW X (.BoolOp .And (a :: b :: rest) pos) (tT X.K W (mAndT ta tb)) := by
  refine PW.imp (pw_and ha hb) ?_
  rintro σ H Q ⟨c, F, ρ, ok, h⟩
  refine ⟨c, F, ρ, ok, post_mono ?_ (post_bind h)⟩
  rintro k H1 F1 _ ⟨ρ1, ok1, s1, h1⟩
  cases k with
  | true => exact ⟨c, F1, ρ1, ok1, h1⟩
  | false => exact post_ok (W := W) h1 ok1
theorem dwOr (ha : PT X a (tT X.K W ta)) (hb : PW X (.BoolOp .Or (b :: rest) pos) (tT X.K W tb)) : PW X (.BoolOp .Or (a :: b :: rest) pos) (tT X.K W (mOrT ta tb)) := by
  refine PW.imp (pw_or ha hb) ?_
  rintro σ H Q ⟨c, F, ρ, ok, h⟩
  refine ⟨c, F, ρ, ok, post_mono ?_ (post_bind h)⟩
  rintro k H1 F1 _ ⟨ρ1, ok1, s1, h1⟩
  cases k with
  | true => exact post_ok (W := W) h1 ok1
  | false => exact ⟨c, F1, ρ1, ok1, h1⟩
/-- .. as values -/
def mAnd (ma mb : M D) : M D := mBind ma fun a => mBind (mLift (truD a)) fun k => if k = true then mb else mPure a
def mOr (ma mb : M D) : M D := mBind ma fun a => mBind (mLift (truD a)) fun k => if k = true then mPure a else mb
def mNot (ma : M D) : M D := mBind ma fun a => mBind (mLift (truD a)) fun k => mPure (.bool (!k))
theorem dOne {op : BoolOp} (ha : PE X a (tE X.K W ma)) : PE X (.BoolOp op [a] pos) (tE X.K W ma) := pe_one ha
theorem dAnd (ha : PE X a (tE X.K W ma)) (hb : PE X (.BoolOp .And (b :: rest) pos) (tE X.K W mb)) : PE X (.BoolOp .And (a :: b :: rest) pos) (tE X.K W (mAnd ma mb)) := by
  refine PE.imp (pe_andT ha hb) ?_
  rintro σ H Q ⟨c, F, ρ, ok, h⟩
  refine ⟨c, F, ρ, ok, post_mono ?_ (post_bind h)⟩
  rintro a H1 F1 _ ⟨ρ1, ok1, s1, h1⟩ x rx
  obtain ⟨k, e, h2⟩ := post_lift (o := truD a) (by exact post_mono (fun _ _ _ _ q => q) (post_bind h1))
  obtain ⟨ρ2, ok2, s2, h3⟩ := post_ok (W := W) h2 ok1
  refine ⟨k, tru_of ok1 (.inl rx) e, ?_⟩
  cases k with
  | true => exact ⟨c, F1, ρ2, ok2, h3⟩
  | false => exact post_ok (W := W) h3 ok2 _ rx
theorem dOr (ha : PE X a (tE X.K W ma)) (hb : PE X (.BoolOp .Or (b :: rest) pos) (tE X.K W mb)) : PE X (.BoolOp .Or (a :: b :: rest) pos) (tE X.K W (mOr ma mb)) := by
  refine PE.imp (pe_orT ha hb) ?_
  rintro σ H Q ⟨c, F, ρ, ok, h⟩
  refine ⟨c, F, ρ, ok, post_mono ?_ (post_bind h)⟩
  rintro a H1 F1 _ ⟨ρ1, ok1, s1, h1⟩ x rx
  obtain ⟨k, e, h2⟩ := post_lift (o := truD a) (by exact post_mono (fun _ _ _ _ q => q) (post_bind h1))
  obtain ⟨ρ2, ok2, s2, h3⟩ := post_ok (W := W) h2 ok1
  refine ⟨k, tru_of ok1 (.inl rx) e, ?_⟩
  cases k with
  | true => exact post_ok (W := W) h3 ok2 _ rx
  | false => exact ⟨c, F1, ρ2, ok2, h3⟩
theorem dNot (ha : PE X a (tP X.K W ma)) : PE X (.UnaryOp .Not a pos) (tE X.K W (mNot ma)) := by
  refine PE.imp (pe_notT ha) ?_
  rintro σ H Q ⟨c, F, ρ, ok, h⟩
  refine ⟨c, F, ρ, ok, post_mono ?_ (post_bind h)⟩
  rintro a H1 F1 _ ⟨ρ1, ok1, s1, h1⟩ x rx
  obtain ⟨k, e, h2⟩ := post_lift (o := truD a) (by exact post_mono (fun _ _ _ _ q => q) (post_bind h1))
  obtain ⟨ρ2, ok2, s2, h3⟩ := post_ok (W := W) h2 ok1
  exact ⟨k, tru_of ok1 rx e, post_ok (W := W) h3 ok2 _ (.bl _)⟩
theorem dIf {cnd : Expr} {mc : M Bool} (hc : PT X cnd (tT X.K W mc)) (ha : PE X a (tE X.K W ma)) (hb : PE X b (tE X.K W mb)) : PE X (.IfExp cnd a b pos) (tE X.K W (mIf mc ma mb)) := by
  refine PE.imp (pe_ifExp hc ha hb) ?_
  rintro σ H Q ⟨c, F, ρ, ok, h⟩
  refine ⟨c, F, ρ, ok, post_mono ?_ (post_bind h)⟩
  rintro k H1 F1 _ ⟨ρ1, ok1, s1, h1⟩
  cases k with
  | true => exact ⟨c, F1, ρ1, ok1, h1⟩
  | false => exact ⟨c, F1, ρ1, ok1, h1⟩
/-! ### argument lists, displays -/
variable {es : List Expr} {ms : M (List D)}
def mCons (m : M D) (ms : M (List D)) : M (List D) := mBind m fun d => mBind ms fun ds => mPure (d :: ds)
theorem dNil : PA X [] (tA X.K W (mPure [])) := PA.imp pa_nil (by
  rintro σ H Q ⟨c, F, ρ, ok, h⟩
  exact post_ok (W := W) h ok _ .nil)
theorem dCons (ha : PE X a (tE X.K W ma)) (hr : PA X es (tA X.K W ms)) (hs : starEach (a :: es) X.env = (false, eval a X.env) :: starEach es X.env := by rfl) : PA X (a :: es) (tA X.K W (mCons ma ms)) := by
  refine PA.imp (pa_cons ha hr hs) ?_
  rintro σ H Q ⟨c, F, ρ, ok, h⟩
  refine ⟨c, F, ρ, ok, post_mono ?_ (post_bind h)⟩
  rintro d H1 F1 _ ⟨ρ1, ok1, s1, h1⟩ x rx
  refine ⟨c, F1, ρ1, ok1, post_mono ?_ (post_bind h1)⟩
  rintro ds H2 F2 _ ⟨ρ2, ok2, s2, h2⟩ xs rxs
  exact post_ok (W := W) h2 ok2 _ (.cons (Dp.mono s2 rx) rxs)
def mTup (ms : M (List D)) : M D := mBind ms fun ds => mLift (if fit ds.length = true then some (.tuple ds) else none)
def mLst (ms : M (List D)) : M D := mBind ms fun ds => mLift (if fit ds.length = true then some (.list ds) else none)
theorem dTup {x1} (h : PA X es (tA X.K W ms)) : PE X (.Tuple es x1 pos) (tE X.K W (mTup ms)) := by
  refine PE.imp (pe_tup h) ?_
  rintro σ H Q ⟨c, F, ρ, ok, h⟩
  refine ⟨c, F, ρ, ok, post_mono ?_ (post_bind h)⟩
  rintro ds H1 F1 _ ⟨ρ1, ok1, s1, h1⟩ xs rx
  obtain ⟨d, e, h2⟩ := post_lift h1
  split at e
  · rename_i hf
    cases e
    exact ⟨by rw [DpAll.length rx]; exact fit_le hf, fun p hp => new_tup ok1 rx h2 p hp⟩
  · cases e
theorem dLst (h : PA X es (tA X.K W ms)) : PE X (.List es pos) (tE X.K W (mLst ms)) := by
  refine PE.imp (pe_lst h) ?_
  rintro σ H Q ⟨c, F, ρ, ok, h⟩
  refine ⟨c, F, ρ, ok, post_mono ?_ (post_bind h)⟩
  rintro ds H1 F1 _ ⟨ρ1, ok1, s1, h1⟩ xs rx
  obtain ⟨d, e, h2⟩ := post_lift h1
  split at e
  · rename_i hf
    cases e
    exact ⟨by rw [DpAll.length rx]; exact fit_le hf, fun p hp => new_lst ok1 rx h2 p hp⟩
  · cases e
/-! ### built-ins by name -/
inductive PkAll (K : PySem.W.Frag) (H F : Hp) : List V → List D → Prop
  | nil : PkAll K H F [] []
  | cons {v : V} {vs : List V} {d : D} {ds : List D} : Pk K H F v d → PkAll K H F vs ds → PkAll K H F (v :: vs) (d :: ds)
theorem PkAll.of {F : Hp} : ∀ {vs : List V} {ds : List D}, DpAll K F vs ds → PkAll K H F vs ds
  | _, _, .nil => .nil
  | _, _, .cons h t => .cons (.inl h) (PkAll.of t)
def CallD (K : PySem.W.Frag) (r : List V → Hp → VK → Prop) (g : List D → Option D) : Prop :=
  ∀ {W : WX} {c : Ct} {σ : St} {H F : Hp} {ρ : En} {xs : List V} {ds : List D} {d : D} {Q : VK}, Ok K c σ H F ρ → PkAll K H F xs ds → g ds = some d → post K W c σ F (qE K Q) (some (.ok d ρ)) → r xs H Q
def mCall1 (g : List D → Option D) (m : M D) : M D := mBind m fun d => mLift (g [d])
def mCallN (g : List D → Option D) (ms : M (List D)) : M D := mBind ms fun ds => mLift (g ds)
variable {x : Str} {p : Pos} {id T : String} {r : List V → Hp → VK → Prop} {g : List D → Option D}
theorem tCB1 (hd : CallD K r g) {Q : VK} (h : tE K W (mCall1 g ma) σ H Q) : tCB r (tCons (tP K W ma) tNil) σ H Q := by
  obtain ⟨c, F, ρ, ok, h⟩ := h
  refine ⟨c, F, ρ, ok, post_mono ?_ (post_bind h)⟩
  rintro d H1 F1 _ ⟨ρ1, ok1, s1, h1⟩ x rx
  obtain ⟨d', e, h2⟩ := post_lift h1
  exact hd ok1 (.cons rx .nil) e h2
theorem tCBn (hd : CallD K r g) {Q : VK} (h : tE K W (mCallN g ms) σ H Q) : tCB r (tA K W ms) σ H Q := by
  obtain ⟨c, F, ρ, ok, h⟩ := h
  refine ⟨c, F, ρ, ok, post_mono ?_ (post_bind h)⟩
  rintro ds H1 F1 _ ⟨ρ1, ok1, s1, h1⟩ xs rx
  obtain ⟨d', e, h2⟩ := post_lift h1
  exact hd ok1 (.of rx) e h2
theorem dB1 (hc : CallR X (.builtin id) r) (hd : CallD X.K r g) (hm : X.mg x = none) (hv : bootBuiltins x = some (.builtin id)) (ha : PE X a (tP X.K W ma)) (hg : Gl X x := by rfl) (hs : starEach (a :: []) X.env = (false, eval a X.env) :: starEach [] X.env := by rfl) (hn : x ≠ "__name__" := by decide) (hdb : (x == ("__debug__" : Str)) = false := by decide)
    (hpl : (backTo pos (starEach [] X.env)).any (·.1) = false := by rfl) : PE X (.Call (.Name x p) [a] [] pos) (tE X.K W (mCall1 g ma)) :=
  PE.imp (pe_callB hc hg hm hv (pa_cons ha pa_nil hs) hn hdb hs hpl) fun _ _ _ => tCB1 hd
theorem dTy1 (hc : CallR X (.type T) r) (hd : CallD X.K r g) (hm : X.mg x = none) (hv : bootBuiltins x = some (.type T)) (ha : PE X a (tP X.K W ma)) (hg : Gl X x := by rfl) (hs : starEach (a :: []) X.env = (false, eval a X.env) :: starEach [] X.env := by rfl) (hn : x ≠ "__name__" := by decide) (hdb : (x == ("__debug__" : Str)) = false := by decide)
    (hpl : (backTo pos (starEach [] X.env)).any (·.1) = false := by rfl) : PE X (.Call (.Name x p) [a] [] pos) (tE X.K W (mCall1 g ma)) :=
  PE.imp (pe_callTy hc hg hm hv (pa_cons ha pa_nil hs) hn hdb hs hpl) fun _ _ _ => tCB1 hd
theorem dBn (hc : CallR X (.builtin id) r) (hd : CallD X.K r g) (hm : X.mg x = none) (hv : bootBuiltins x = some (.builtin id)) (ha : PA X (a :: es) (tA X.K W ms)) (hg : Gl X x := by rfl) (hs : starEach (a :: es) X.env = (false, eval a X.env) :: starEach es X.env := by rfl) (hn : x ≠ "__name__" := by decide) (hdb : (x == ("__debug__" : Str)) = false := by decide)
    (hpl : (backTo pos (starEach es X.env)).any (·.1) = false := by rfl) : PE X (.Call (.Name x p) (a :: es) [] pos) (tE X.K W (mCallN g ms)) :=
  PE.imp (pe_callB hc hg hm hv ha hn hdb hs hpl) fun _ _ _ => tCBn hd
end
end Dd

namespace Dd
open PySem PySem.Spec L2
section
variable {X : Cx} {W : WX} {K : PySem.W.Frag} {e tg : Expr} {st : Stmt} {sts : List Stmt} {m : M D} {pos : Pos} {m1 m2 : M Fl}
/-! ### statements -/
def mSeq (m1 m2 : M Fl) : M Fl := mBind m1 fun f => match f with
  | .nx => m2
  | o => mPure o
theorem bind_ok {α β : Type} {m : M α} {f : α → M β} {ρ ρ' : En} {b : β} (h : mBind m f ρ = some (.ok b ρ')) : ∃ a ρ1, m ρ = some (.ok a ρ1) ∧ f a ρ1 = some (.ok b ρ') := by
  unfold mBind at h
  cases e : m ρ with
  | none => rw [e] at h; cases h
  | some r =>
    rw [e] at h
    cases r with
    | ok a ρ1 => exact ⟨a, ρ1, rfl, h⟩
    | ex x ρ1 => cases h
theorem seq_post {c : Ct} {F : Hp} {Dn : Ends} {ρ : En} (h : postS K W c F Dn (mSeq m1 m2 ρ)) : postS K W c F { Dn with nx := tS K W m2 Dn } (m1 ρ) := by
  unfold mSeq mBind at h
  cases e : m1 ρ with
  | none => rw [e] at h; exact h
  | some r =>
    rw [e] at h
    cases r with
    | ex x ρ1 => exact h
    | ok f ρ1 =>
      cases f with
      | nx => exact fun σ' H' F' ok s => ⟨c, F', ρ1, ok, postS_weak s h⟩
      | bk => exact h
      | ct => exact h
      | rt d => exact h
      | rf ds => exact h
theorem dsCons (h1 : PS X st (tS X.K W m1)) (h2 : PSs X sts (tS X.K W m2)) : PSs X (st :: sts) (tS X.K W (mSeq m1 m2)) :=
  PSs.imp (pss_cons h1 h2) fun Dn σ H ⟨c, F, ρ, ok, h⟩ => ⟨c, F, ρ, ok, seq_post h⟩
theorem dsOne (h1 : PS X st (tS X.K W m1)) : PSs X [st] (tS X.K W m1) := pss_one h1
theorem dsNil : PSs X [] (tS X.K W (mPure .nx)) := PSs.imp pss_nil fun Dn σ H ⟨c, F, ρ, ok, h⟩ => h σ H F ok (Same.refl F)
theorem dPass : PS X (.Pass pos) (tS X.K W (mPure .nx)) := PS.imp ps_pass fun Dn σ H ⟨c, F, ρ, ok, h⟩ => h σ H F ok (Same.refl F)
theorem dBreak : PS X (.Break pos) (tS X.K W (mPure .bk)) := PS.imp ps_break fun Dn σ H ⟨c, F, ρ, ok, h⟩ => h σ H F ok (Same.refl F)
theorem dCont : PS X (.Continue pos) (tS X.K W (mPure .ct)) := PS.imp ps_continue fun Dn σ H ⟨c, F, ρ, ok, h⟩ => h σ H F ok (Same.refl F)
def mRet (m : M D) : M Fl := mBind m fun d => mPure (.rt d)
theorem dRet (he : PE X e (tE X.K W m)) : PS X (.Return (some e) pos) (tS X.K W (mRet m)) := PS.imp (ps_ret he) (by
  rintro Dn σ H ⟨c, F, ρ, ok, h⟩
  refine ⟨c, F, ρ, ok, post_mono ?_ (postS_bind h)⟩
  rintro d H1 F1 _ ⟨ρ1, ok1, s1, h1⟩ v rv
  exact h1 σ v H1 F1 ok1 (Same.refl F1) rv)
theorem dRetN : PS X (.Return none pos) (tS X.K W (mPure (.rt .none))) := PS.imp ps_retN (by
  rintro Dn σ H ⟨c, F, ρ, ok, h⟩
  exact h σ .non H F ok (Same.refl F) .non)
/-- a new list is handed back, the caller's own -/
def mRetF (ms : M (List D)) : M Fl := mBind ms fun ds => mBind (mLift (if fit ds.length = true then some ds else none)) fun ds => mPure (.rf ds)
theorem dRetF {es : List Expr} {lp : Pos} {ms : M (List D)} (h : PA X es (tA X.K W ms)) : PS X (.Return (some (.List es lp)) pos) (tS X.K W (mRetF ms)) := PS.imp (ps_ret (pe_lst h)) (by
  rintro Dn σ H ⟨c, F, ρ, ok, h⟩
  refine ⟨c, F, ρ, ok, post_mono ?_ (postS_bind h)⟩
  rintro ds H1 F1 _ ⟨ρ1, ok1, s1, h1⟩ xs rx
  have h2 := postS_bind (σ := σ) h1
  obtain ⟨d, e, h3⟩ := post_lift h2
  split at e
  · rename_i hf
    cases e
    refine ⟨by rw [DpAll.length rx]; exact fit_le hf, fun p hp => ?_⟩
    obtain ⟨a1, a2, a3, a4, a5⟩ := ok1.new hp
    have k : Same H1 (upd H1 p (.lst xs)) := Same.updN hp
    have ok2 : Ok X.K c σ (upd H1 p (.lst xs)) F1 ρ1 := by
      obtain ok' := ok1.allocP (o := .lst xs) hp
      refine ⟨ok'.len, ok'.sub, ok'.ge, ok'.fe, ok'.keep, fun q z => ?_, fun b u z => ?_, ok'.val, fun i es z => ?_, ok'.ios, ok'.scr, ok'.sep⟩
      · obtain ⟨b1, b2, b3, xs', b4⟩ := ok1.iod q z
        exact ⟨b1, b2, b3, xs', k _ _ b4⟩
      · obtain ⟨b1, b2, b3⟩ := ok1.prt b u z
        exact ⟨k _ _ b1, b2, b3⟩
      · obtain ⟨q, vs, b1, b2, b3, b4, b5, b6⟩ := ok1.own i es z
        exact ⟨q, vs, b1, k _ _ b2, b3, b4, b5, b6⟩
    obtain ⟨ρ2, ok3, s3, h4⟩ := h3 _ _ ok2 (Same.refl F1)
    exact h4 σ p xs _ _ ok3 (Same.refl F1) upd_same rx a1 a2
  · cases e)
def mDrop (m : M D) : M Fl := mBind m fun _ => mPure .nx
theorem dExpr (he : PE X e (tE X.K W m)) (hs : swapsWith e none pos.line X.env = pure false := by rfl) : PS X (.Expr e pos) (tS X.K W (mDrop m)) := PS.imp (ps_expr he hs) (by
  rintro Dn σ H ⟨c, F, ρ, ok, h⟩
  refine ⟨c, F, ρ, ok, post_mono ?_ (postS_bind h)⟩
  rintro d H1 F1 _ ⟨ρ1, ok1, s1, h1⟩ v rv
  exact h1 σ H1 F1 ok1 (Same.refl F1))
theorem dIfS {cnd : Expr} {a b : List Stmt} {mc : M Bool} (hc : PT X cnd (tT X.K W mc)) (ha : PSs X a (tS X.K W m1)) (hb : PSs X b (tS X.K W m2)) : PS X (.If cnd a b pos) (tS X.K W (mIf mc m1 m2)) := PS.imp (ps_if hc ha hb) (by
  rintro Dn σ H ⟨c, F, ρ, ok, h⟩
  refine ⟨c, F, ρ, ok, post_mono ?_ (postS_bind h)⟩
  rintro k H1 F1 _ ⟨ρ1, ok1, s1, h1⟩
  cases k with
  | true => exact ⟨c, F1, ρ1, ok1, h1⟩
  | false => exact ⟨c, F1, ρ1, ok1, h1⟩)
/-! ### stores -/
def mStore (i : Nat) (d : D) : M Unit := fun ρ => if i < ρ.length then some (.ok () (ρ.set i (.val d))) else none
def mDone : M Fl := mPure .nx
theorem dgName {i : Nat} {x : Str} {p : Pos} (hN : X.N.Nodup) (hi : X.N[i]? = some x := by rfl) (hx : Loc X.env.scope x := by first | exact Or.inl rfl | exact Or.inr rfl) (hf : X.fn x = true ∨ X.env.scope.names.lookup x = some .local := by first | exact .inl rfl | exact .inr rfl) : PG X (.Name x p) (tG X.K W (mStore i)) := PG.imp (pg_name hN hi hx hf) (by
  rintro v σ H Q ⟨c, F, ρ, d, ok, r, h⟩
  unfold mStore at h
  split at h
  · rename_i hl
    exact h _ H F (ok.setV hl r) (Same.refl F)
  · exact h.elim)
theorem dgsNil : PGs X [] (tGs X.K W fun ds => match ds with | [] => mPure () | _ => mStuck) := PGs.imp pgs_nil (by
  rintro vs σ H Q ⟨c, F, ρ, ds, ok, r, h⟩
  cases r with
  | nil => exact ⟨rfl, h σ H F ok (Same.refl F)⟩
  | cons _ _ => exact h.elim)
def gCons2 (g : D → M Unit) (gs : List D → M Unit) : List D → M Unit
  | [] => mStuck
  | d :: ds => mBind (g d) fun _ => gs ds
theorem dgsCons {es : List Expr} {g : D → M Unit} {gs : List D → M Unit} (h1 : PG X e (tG X.K W g)) (h2 : PGs X es (tGs X.K W gs)) (hs : (assignEach (e :: es) X.env).map (·.2) = assign e X.env :: (assignEach es X.env).map (·.2) := by rfl) : PGs X (e :: es) (tGs X.K W (gCons2 g gs)) :=
  PGs.imp (pgs_cons h1 h2 hs) (by
  rintro vs σ H Q ⟨c, F, ρ, ds, ok, r, h⟩
  cases r with
  | nil => exact h.elim
  | cons r rr =>
    refine ⟨_, _, rfl, c, F, ρ, _, ok, r, postG_mono ?_ (postG_bindG h)⟩
    rintro σ1 H1 ⟨F1, ρ1, ok1, s1, h1⟩
    exact ⟨c, F1, ρ1, _, ok1, DpAll.mono s1 rr, h1⟩)
def gTupD (n : Nat) (gs : List D → M Unit) : D → M Unit
  | .tuple ds => if ds.length = n then gs ds else mStuck
  | _ => mStuck
theorem dgTup {es : List Expr} {k : Nat} {gs : List D → M Unit} {n : Nat} (hc : X.calm = true) (h : PGs X es (tGs X.K W gs)) (hn : (assignEach es X.env).length = n := by rfl) (hst : (assignEach es X.env).findIdx? (·.1) = none := by rfl) : PG X (.Tuple es k pos) (tG X.K W (gTupD n gs)) :=
  PG.imp (pg_tup hc h hn hst) (by
  rintro v σ H Q ⟨c, F, ρ, d, ok, r, h⟩
  unfold gTupD at h
  split at h
  · split at h
    · rename_i hl
      obtain ⟨p, vs, rfl, hp, dp⟩ := Pk.tup ok.sub (.inl r)
      exact ⟨p, vs, rfl, hp, by rw [DpAll.length dp]; exact hl, c, F, ρ, _, ok, dp, h⟩
    · exact h.elim
  · exact h.elim)
/-- a slot's own list (or the caller's): what it holds; it is changed -/
def mOwn (i : Nat) : M (List D) := fun ρ => match ρ[i]? with
  | some (.own ds) => some (.ok ds ρ)
  | some (.io ds) => some (.ok ds ρ)
  | _ => none
def mPut (i : Nat) (ds : List D) : M Unit := fun ρ => match ρ[i]? with
  | some (.own _) => some (.ok () (ρ.set i (.own ds)))
  | some (.io _) => some (.ok () (ρ.set i (.io ds)))
  | _ => none
theorem own_at {c : Ct} {σ : St} {H F : Hp} {ρ : En} {i : Nat} {α : Type} {G : α → Hp → Hp → Prop} {f : List D → M α} (ok : Ok K c σ H F ρ) (h : post K W c σ F G (mBind (mOwn i) f ρ)) :
    ∃ p vs ds, σ[i]? = some (some (.ref p)) ∧ H p = some (.lst vs) ∧ DpAll K F vs ds ∧ F p = none ∧ post K W c σ F G (f ds ρ) := by
  unfold mBind mOwn at h
  cases e : ρ[i]? with
  | none => rw [e] at h; exact h.elim
  | some u =>
    rw [e] at h
    cases u with
    | own ds =>
      obtain ⟨p, vs, a1, a2, a3, a4, _⟩ := ok.own i ds e
      exact ⟨p, vs, ds, a1, a2, a3, a4, h⟩
    | io ds =>
      obtain ⟨_, p, vs, a0, a1, a2, a3⟩ := ok.ios i ds e
      exact ⟨p, vs, ds, a1, a2, a3, (ok.iod p a0).1, h⟩
    | un => exact h.elim
    | val _ => exact h.elim
    | scr _ => exact h.elim
theorem own_atG {c : Ct} {σ : St} {H F : Hp} {ρ : En} {i : Nat} {Q : St → Hp → Prop} {f : List D → M Unit} (ok : Ok K c σ H F ρ) (h : postG K W c F Q (mBind (mOwn i) f ρ)) :
    ∃ p vs ds, σ[i]? = some (some (.ref p)) ∧ H p = some (.lst vs) ∧ DpAll K F vs ds ∧ F p = none ∧ postG K W c F Q (f ds ρ) := by
  unfold mBind mOwn at h
  cases e : ρ[i]? with
  | none => rw [e] at h; exact h.elim
  | some u =>
    rw [e] at h
    cases u with
    | own ds =>
      obtain ⟨p, vs, a1, a2, a3, a4, _⟩ := ok.own i ds e
      exact ⟨p, vs, ds, a1, a2, a3, a4, h⟩
    | io ds =>
      obtain ⟨_, p, vs, a0, a1, a2, a3⟩ := ok.ios i ds e
      exact ⟨p, vs, ds, a1, a2, a3, (ok.iod p a0).1, h⟩
    | un => exact h.elim
    | val _ => exact h.elim
    | scr _ => exact h.elim
theorem put_ok {c : Ct} {σ : St} {H F : Hp} {ρ : En} {i : Nat} {ds : List D} {vs' : List V} {p : Addr} {α : Type} {G : α → Hp → Hp → Prop} {f : Unit → M α} (ok : Ok K c σ H F ρ) (hp : σ[i]? = some (some (.ref p))) (hd : DpAll K F vs' ds)
    (h : post K W c σ F G (mBind (mPut i ds) f ρ)) : ∃ ρ', Ok K c σ (upd H p (.lst vs')) F ρ' ∧ post K W c σ F G (f () ρ') := by
  unfold mBind mPut at h
  cases e : ρ[i]? with
  | none => rw [e] at h; exact h.elim
  | some u =>
    rw [e] at h
    cases u with
    | own es => exact ⟨_, ok.change e p hp hd, h⟩
    | io es => exact ⟨_, ok.changeI e p hp hd, h⟩
    | un => exact h.elim
    | val _ => exact h.elim
    | scr _ => exact h.elim
theorem put_okG {c : Ct} {σ : St} {H F : Hp} {ρ : En} {i : Nat} {ds : List D} {vs' : List V} {p : Addr} {Q : St → Hp → Prop} (ok : Ok K c σ H F ρ) (hp : σ[i]? = some (some (.ref p))) (hd : DpAll K F vs' ds)
    (h : postG K W c F Q (mPut i ds ρ)) : Q σ (upd H p (.lst vs')) := by
  unfold mPut at h
  cases e : ρ[i]? with
  | none => rw [e] at h; exact h.elim
  | some u =>
    rw [e] at h
    cases u with
    | own es => exact h _ _ _ (ok.change e p hp hd) (Same.refl F)
    | io es => exact h _ _ _ (ok.changeI e p hp hd) (Same.refl F)
    | un => exact h.elim
    | val _ => exact h.elim
    | scr _ => exact h.elim
/-- x[k] = value, x a slot's own list -/
def setD : List D → D → D → Option (List D)
  | ds, .int k, d => (ixN ds.length k).map fun j => ds.set j d
  | _, _, _ => none
def gSet (i : Nat) (mk : M D) (d : D) : M Unit := mBind (mOwn i) fun _ => mBind mk fun k => mBind (mOwn i) fun ds => mBind (mLift (setD ds k d)) fun es => mPut i es
theorem dgSet {i : Nat} {o k : Expr} {mk : M D} (ho : PE X o (tVar i)) (hk : PE X k (tE X.K W mk))
    (ha : ∀ v, assign (.Subscript o k pos) X.env v = (do
      let ov ← holding [v] (eval o X.env)
      let iv ← holding [v, ov] (eval k X.env)
      standAt pos
      holding [v, ov, iv] (setItem ov iv v)
      release [v, ov, iv] []) := by exact fun _ => rfl) : PG X (.Subscript o k pos) (tG X.K W (gSet i mk)) := PG.imp (pg_sub ho hk set_list ha) (by
  rintro v σ H Q ⟨c, F, ρ, d, ok, r, h⟩
  obtain ⟨p, vs, ds, a1, a2, a3, a4, h⟩ := own_atG ok h
  refine ⟨.ref p, a1, c, F, ρ, ok, post_mono ?_ (postG_bind h)⟩
  rintro kd H1 F1 _ ⟨ρ1, ok1, s1, h1⟩ kv rk
  obtain ⟨p', vs1, ds1, b1, b2, b3, b4, h1⟩ := own_atG ok1 h1
  have ep : p' = p := by rw [a1] at b1; cases b1; rfl
  subst ep
  have h2 := postG_bind (σ := σ) h1
  obtain ⟨es, e, h3⟩ := post_lift h2
  obtain ⟨ρ2, ok2, s2, h4⟩ := h3 H1 F1 ok1 (Same.refl F1)
  cases kd with
  | int z =>
    cases rk
    have e : (ixN ds1.length z).map (fun j => ds1.set j d) = some es := e
    cases q : ixN ds1.length z with
    | none => rw [q] at e; cases e
    | some j =>
      rw [q] at e
      cases e
      refine ⟨p', vs1, z, j, rfl, rfl, b2, by rw [DpAll.length b3]; exact q, ?_⟩
      exact put_okG ok2 b1 (DpAll.set (Dp.mono s1 r) j b3) h4
  | none => cases e
  | bool _ => cases e
  | str _ => cases e
  | list _ => cases e
  | tuple _ => cases e
  | dict _ => cases e)
def mAsg (m : M D) (g : D → M Unit) : M Fl := mBind m fun d => mBind (g d) fun _ => mDone
theorem asg_of {Dn : Ends} {σ : St} {H : Hp} {g : D → M Unit} (h : tS K W (mAsg m g) Dn σ H) : tAsg (tE K W m) (tG K W g) Dn σ H := by
  obtain ⟨c, F, ρ, ok, h⟩ := h
  refine ⟨c, F, ρ, ok, post_mono ?_ (postS_bind h)⟩
  rintro d H1 F1 _ ⟨ρ1, ok1, s1, h1⟩ v rv
  refine ⟨c, F1, ρ1, d, ok1, rv, postG_mono ?_ (postS_bindG h1)⟩
  rintro σ2 H2 ⟨F2, ρ2, ok2, s2, h2⟩
  exact h2 σ2 H2 F2 ok2 (Same.refl F2)
theorem dAsg {g : D → M Unit} (he : PE X e (tE X.K W m)) (hg : PG X tg (tG X.K W g)) (hs : swapsWithSole [tg] e pos.line X.env = pure false := by rfl) (hw : swappedStores [tg] e X.env = pure none := by rfl)
    (h1 : (assignEach [tg] X.env).map (·.2) = [assign tg X.env] := by rfl) : PS X (.Assign [tg] e pos) (tS X.K W (mAsg m g)) := PS.imp (ps_asg he hg hs hw h1) fun _ _ _ => asg_of
/-- name = value -/
theorem dSet {i : Nat} {x : Str} {pos' : Pos} (hN : X.N.Nodup) (he : PE X e (tE X.K W m)) (hi : X.N[i]? = some x := by rfl) (hx : Loc X.env.scope x := by first | exact Or.inl rfl | exact Or.inr rfl) (hs : swapsWith e (some (.Name x pos')) pos.line X.env = pure false := by rfl)
    (hf : X.fn x = true ∨ X.env.scope.names.lookup x = some .local := by first | exact .inl rfl | exact .inr rfl) : PS X (.Assign [.Name x pos'] e pos) (tS X.K W (mAsg m (mStore i))) := PS.imp (ps_set hN hi hx he hs hf) (by
  rintro Dn σ H h
  obtain ⟨c, F, ρ, ok, h⟩ := h
  refine ⟨c, F, ρ, ok, post_mono ?_ (postS_bind h)⟩
  rintro d H1 F1 _ ⟨ρ1, ok1, s1, h1⟩ v rv
  have h2 := postS_bindG h1
  unfold mStore at h2
  split at h2
  · rename_i hl
    obtain ⟨F2, ρ2, ok2, s2, h3⟩ := h2 _ H1 F1 (ok1.setV hl rv) (Same.refl F1)
    exact h3 _ _ _ ok2 (Same.refl F2)
  · exact h2.elim)
/-- name = [..], its own -/
def mStoreO (i : Nat) (ds : List D) : M Unit := fun ρ => if i < ρ.length then some (.ok () (ρ.set i (.own ds))) else none
def mAsgO (ms : M (List D)) (i : Nat) : M Fl := mBind ms fun ds => mBind (mLift (if fit ds.length = true then some ds else none)) fun ds => mBind (mStoreO i ds) fun _ => mDone
theorem dSetO {i : Nat} {x : Str} {pos' lp : Pos} {es : List Expr} {ms : M (List D)} (hN : X.N.Nodup) (he : PA X es (tA X.K W ms)) (hi : X.N[i]? = some x := by rfl) (hx : Loc X.env.scope x := by first | exact Or.inl rfl | exact Or.inr rfl)
    (hs : swapsWith (.List es lp) (some (.Name x pos')) pos.line X.env = pure false := by rfl)
    (hf : X.fn x = true ∨ X.env.scope.names.lookup x = some .local := by first | exact .inl rfl | exact .inr rfl) : PS X (.Assign [.Name x pos'] (.List es lp) pos) (tS X.K W (mAsgO ms i)) := PS.imp (ps_set hN hi hx (pe_lst he) hs hf) (by
  rintro Dn σ H h
  obtain ⟨c, F, ρ, ok, h⟩ := h
  refine ⟨c, F, ρ, ok, post_mono ?_ (postS_bind h)⟩
  rintro ds H1 F1 _ ⟨ρ1, ok1, s1, h1⟩ xs rx
  have h2 := postS_bind (σ := σ) h1
  obtain ⟨d, e, h3⟩ := post_lift h2
  split at e
  · rename_i hf
    cases e
    refine ⟨by rw [DpAll.length rx]; exact fit_le hf, fun p hp => ?_⟩
    obtain ⟨ρ2, ok2, s2, h4⟩ := h3 H1 F1 ok1 (Same.refl F1)
    have hpr : c.pr p = none := (ok2.new hp).2.2.1
    have h5 := postS_bindG h4
    unfold mStoreO at h5
    split at h5
    · rename_i hl
      obtain ⟨F3, ρ3, ok3, s3, h6⟩ := h5 _ _ _ ((ok2.allocP (o := .lst xs) hp).ownP hpr rx hl) (Same.refl F1)
      exact h6 _ _ _ ok3 (Same.refl F3)
    · exact h5.elim
  · cases e)
/-- name op= value -/
def mAug (i : Nat) (g : D → D → Option D) (m : M D) : M Fl := mBind (mPeek i) fun _ => mBind m fun b => mBind (mPeek i) fun a => mBind (mLift (g a b)) fun d => mBind (mStore i d) fun _ => mDone
theorem peekS {c : Ct} {σ : St} {H F : Hp} {ρ : En} {i : Nat} {Dn : Ends} {f : D → M Fl} (ok : Ok K c σ H F ρ) (h : postS K W c F Dn (mBind (mPeek i) f ρ)) : ∃ v d, σ[i]? = some (some v) ∧ Pk K H F v d ∧ postS K W c F Dn (f d ρ) := by
  unfold mBind mPeek at h
  cases e : ρ[i]? with
  | none => rw [e] at h; exact h.elim
  | some u =>
    rw [e] at h
    cases u with
    | un => exact h.elim
    | val d =>
      obtain ⟨v, a1, a2⟩ := ok.val i d e
      exact ⟨v, d, a1, .inl a2, h⟩
    | own ds =>
      obtain ⟨p, vs, a1, a2, a3, _⟩ := ok.own i ds e
      exact ⟨.ref p, _, a1, .inr ⟨p, vs, ds, rfl, rfl, a2, a3⟩, h⟩
    | io ds =>
      obtain ⟨_, p, vs, _, a1, a2, a3⟩ := ok.ios i ds e
      exact ⟨.ref p, _, a1, .inr ⟨p, vs, ds, rfl, rfl, a2, a3⟩, h⟩
    | scr ns => exact h.elim
theorem dAug {i : Nat} {x : Str} {op : Operator} {r : R2} {g : D → D → Option D} {pos' : Pos} (hN : X.N.Nodup) (ho : OpR X (inplaceOp op) r) (hd : OpD X.K r g) (he : PE X e (tE X.K W m)) (hi : X.N[i]? = some x := by rfl) (hx : Loc X.env.scope x := by first | exact Or.inl rfl | exact Or.inr rfl)
    (hf : X.fn x = true ∨ X.env.scope.names.lookup x = some .local := by first | exact .inl rfl | exact .inr rfl) : PS X (.AugAssign (.Name x pos') op e pos) (tS X.K W (mAug i g m)) := PS.imp (ps_aug hN hi hx he (ti := r) ho hf) (by
  rintro Dn σ H ⟨c, F, ρ, ok, h⟩
  obtain ⟨v, _, ev, _, h⟩ := peekS ok h
  refine ⟨v, ev, c, F, ρ, ok, post_mono ?_ (postS_bind h)⟩
  rintro b H1 F1 _ ⟨ρ1, ok1, s1, h1⟩ y ry
  obtain ⟨v', a, ev', pk, h2⟩ := peekS ok1 h1
  have ee : v' = v := by rw [ev] at ev'; cases ev'; rfl
  subst ee
  obtain ⟨d, e, h3⟩ := post_lift (postS_bind (σ := σ) h2)
  refine hd (W := W) ok1 pk (.inl ry) e ?_
  intro H2 F2 ok2' s2' z rz
  obtain ⟨ρ2, ok2, s2, h4⟩ := h3 H2 F2 ok2' s2'
  have h5 := postS_bindG h4
  unfold mStore at h5
  split at h5
  · rename_i hl
    obtain ⟨F3, ρ3, ok3, s3, h6⟩ := h5 _ H2 F2 (ok2.setV hl rz) (Same.refl F2)
    exact h6 _ _ _ ok3 (Same.refl F3)
  · exact h5.elim)
/-! ### methods that change a slot's own list -/
def MutD (K : PySem.W.Frag) (r : V → List V → Hp → VK → Prop) (g : List D → List D → Option (List D × D)) : Prop :=
  ∀ {H F : Hp} {l : Addr} {xs vs : List V} {ds as ds' : List D} {d : D} {Q : VK}, Same F H → F l = none → H l = some (.lst xs) → DpAll K F xs ds → DpAll K F vs as → g ds as = some (ds', d) →
    (∀ xs' v, DpAll K F xs' ds' → Dp K F v d → Q v (upd H l (.lst xs'))) → r (.ref l) vs H Q
def mMut (i : Nat) (g : List D → List D → Option (List D × D)) (ms : M (List D)) : M D := mBind (mOwn i) fun _ => mBind ms fun as => mBind (mOwn i) fun ds => mBind (mLift (g ds as)) fun q => mBind (mPut i q.1) fun _ => mPure q.2
theorem mut_of {i : Nat} {r : V → List V → Hp → VK → Prop} {g : List D → List D → Option (List D × D)} (hd : MutD K r g) {ms : M (List D)} {σ : St} {H : Hp} {Q : VK} (h : tE K W (mMut i g ms) σ H Q) : tBM K "list" r (tVar i) (tA K W ms) σ H Q := by
  obtain ⟨c, F, ρ, ok, h⟩ := h
  obtain ⟨p, vs, ds, a1, a2, a3, a4, h⟩ := own_at ok h
  refine ⟨.ref p, a1, .inl ⟨rfl, vs, SqL.of a2⟩, c, F, ρ, ok, post_mono ?_ (post_bind h)⟩
  rintro as H1 F1 _ ⟨ρ1, ok1, s1, h1⟩ ws rw'
  obtain ⟨p', vs1, ds1, b1, b2, b3, b4, h1⟩ := own_at ok1 h1
  have ep : p' = p := by rw [a1] at b1; cases b1; rfl
  subst ep
  obtain ⟨⟨ds', d⟩, e, h2⟩ := post_lift (post_bind h1)
  obtain ⟨ρ2, ok2, s2, h3⟩ := h2 H1 F1 ok1 (Same.refl F1)
  refine hd ok1.sub b4 b2 b3 rw' e fun xs' v dx dv => ?_
  obtain ⟨ρ3, ok3, h4⟩ := put_ok ok2 b1 dx h3
  exact h4 _ _ ok3 (Same.refl F1) v dv
theorem mut_of0 {i : Nat} {r : V → List V → Hp → VK → Prop} {g : List D → List D → Option (List D × D)} (hd : MutD K r g) {σ : St} {H : Hp} {Q : VK} (h : tE K W (mMut i g (mPure [])) σ H Q) : tBM0 K "list" r (tVar i) σ H Q := by
  obtain ⟨c, F, ρ, ok, h⟩ := h
  obtain ⟨p, vs, ds, a1, a2, a3, a4, h⟩ := own_at ok h
  refine ⟨.ref p, a1, .inl ⟨rfl, vs, SqL.of a2⟩, ?_⟩
  obtain ⟨ρ1, ok1, s1, h1⟩ := (post_bind h) H F ok (Same.refl F)
  obtain ⟨p', vs1, ds1, b1, b2, b3, b4, h1⟩ := own_at ok1 h1
  have ep : p' = p := by rw [a1] at b1; cases b1; rfl
  subst ep
  obtain ⟨⟨ds', d⟩, e, h2⟩ := post_lift (post_bind h1)
  obtain ⟨ρ2, ok2, s2, h3⟩ := h2 H F ok1 (Same.refl F)
  refine hd ok1.sub b4 b2 b3 .nil e fun xs' v dx dv => ?_
  obtain ⟨ρ3, ok3, h4⟩ := put_ok ok2 b1 dx h3
  exact h4 _ _ ok3 (Same.refl F) v dv
def appD : List D → List D → Option (List D × D)
  | ds, [d] => if fit ds.length = true then some (ds ++ [d], .none) else none
  | _, _ => none
theorem mut_app : MutD K rAppend appD := by
  intro H F l xs vs ds as ds' d Q s hF hl hx hv e k
  cases hv with
  | nil => cases e
  | cons h t =>
    cases t with
    | cons _ _ => cases e
    | nil =>
      rename_i v0 d0
      have e : (if fit ds.length = true then some (ds ++ [d0], PyData.none) else none) = some (ds', d) := e
      by_cases hf : fit ds.length = true
      · rw [if_pos hf] at e
        cases e
        exact ⟨l, xs, _, rfl, rfl, hl, by rw [DpAll.length hx]; exact fit_lt hf, k _ _ (DpAll.append hx (.one h)) .non⟩
      · rw [if_neg hf] at e
        cases e
def popAtD : List D → List D → Option (List D × D)
  | ds, [.int i] => if decide (i.natAbs < 9223372036854775808) = true then (seqIndex? i ds.length).bind fun k => (ds[k]?).map fun d => (ds.eraseIdx k, d) else none
  | _, _ => none
theorem mut_popAt : MutD K rPopAt popAtD := by
  intro H F l xs vs ds as ds' d Q s hF hl hx hv e k
  unfold popAtD at e
  split at e
  · rename_i i
    cases hv with
    | cons h t =>
      cases t
      cases h
      split at e
      · rename_i hb
        have hb := of_decide_eq_true hb
        cases q : seqIndex? i ds.length with
        | none => rw [q] at e; cases e
        | some j =>
          rw [q] at e
          cases q2 : ds[j]? with
          | none => simp only [Option.bind_some] at e; rw [q2] at e; cases e
          | some y =>
            simp only [Option.bind_some] at e
            rw [q2] at e
            cases e
            obtain ⟨v, e1, e2⟩ := DpAll.getd hx q2
            exact ⟨l, xs, i, j, v, rfl, rfl, hl, by omega, by omega, by rw [DpAll.length hx]; exact q, e1, k _ _ (DpAll.eraseIdx j hx) e2⟩
      · cases e
  · cases e
def revD : List D → List D → Option (List D × D)
  | ds, [] => some (ds.reverse, .none)
  | _, _ => none
theorem mut_rev : MutD K rReverse revD := by
  intro H F l xs vs ds as ds' d Q s hF hl hx hv e k
  cases hv with
  | cons _ _ => cases e
  | nil =>
    cases e
    exact ⟨l, xs, rfl, rfl, hl, k _ _ (DpAll.reverse hx) .non⟩
end
end Dd

namespace Dd
open PySem PySem.Spec L2
section
variable {X : Cx} {W : WX} {K : PySem.W.Frag} {e tg : Expr} {m : M D} {pos : Pos}
/-! ### what is walked -/
structure ItD (K : PySem.W.Frag) (F : Hp) (J : It) (ds : List D) : Prop where
  go : ∀ H i, Same F H → i < ds.length → J.go i H
  stop : ∀ H i, Same F H → ds.length ≤ i → J.stop i H
  yld : ∀ H i x H' d, Same F H → ds[i]? = some d → J.yld i H x H' → (H' = H ∧ Dp K F x d) ∨ (∃ T xs es, d = .tuple es ∧ x = .ref T ∧ H T = none ∧ H' = upd H T (.tup xs) ∧ DpAll K F xs es)
def tI (K : PySem.W.Frag) (W : WX) (m : M (List D)) : TI := fun σ H R => ∃ c F ρ, Ok K c σ H F ρ ∧ post K W c σ F (fun ds H1 F1 => ∀ J, ItD K F1 J ds → R J H1) (m ρ)
theorem seq_inj_l {H : Hp} {a : Addr} {xs ys : List V} (h1 : H a = some (.lst xs) ∨ ∃ o, H a = some (.frz o (.lst xs))) (h2 : Rd H a (.lst ys)) : xs = ys := by
  rcases h1 with h1 | ⟨o, h1⟩ <;> rcases h2 with h2 | ⟨o', h2⟩ <;> (rw [h1] at h2; first | (cases h2; rfl) | (cases h2))
/-- a list or a tuple -/
def iSeq (K : PySem.W.Frag) (tl : TE) : TI := fun σ H R => tl σ H fun x H1 => ∃ a, x = .ref a ∧ (((∃ xs, SqL K H1 a xs) ∧ R (Itl K a) H1) ∨ ((∃ xs, SqT K H1 a xs) ∧ R (Itt K a) H1))
theorem pi_seq {l : Expr} {tl : TE} (hl : PE X l tl) : PI X tg l (iSeq X.K tl) := by
  refine ⟨fun pins s σ H R I h => ?_⟩
  refine thn (hl.run pins s σ H _ I h) fun v s1 ⟨x, H1, I1, r1, q1⟩ => ?_
  obtain ⟨a, e, ⟨⟨xs, hq⟩, q⟩ | ⟨⟨xs, hq⟩, q⟩⟩ := q1
  · subst e
    cases r1
    obtain ⟨its, rv, p, hz⟩ := I1.list hq
    refine wpAny_pyIter_list p.isList ?_
    refine ⟨s1.heap.objs.size, [s1.heap.objs.size], _, _, H1, rfl, I1.kept (t' := s1.toks) fun b o e => Heap.get?_push_of_some _ e, turn_list a _, ⟨_, Heap.get?_push_size _ rfl, rfl, rfl⟩, fun b hb => ?_, q⟩
    have e : b = s1.heap.objs.size := by simpa using hb
    subst e
    exact I1.fpOk (Nat.le_refl _) (I1.hok.fresh (Nat.le_refl _))
  · subst e
    cases r1
    obtain ⟨its, rv, p, hz⟩ := I1.tuple hq
    refine wpAny_pyIter_tuple (show s1.heap.IsTuple a its.toArray from p) ?_
    refine ⟨s1.heap.objs.size, [s1.heap.objs.size], _, _, H1, rfl, I1.kept (t' := s1.toks) fun b o e => Heap.get?_push_of_some _ e, turn_tuple a _, ⟨_, Heap.get?_push_size _ rfl, rfl, rfl⟩, fun b hb => ?_, q⟩
    have e : b = s1.heap.objs.size := by simpa using hb
    subst e
    exact I1.fpOk (Nat.le_refl _) (I1.hok.fresh (Nat.le_refl _))
/-- a value that is walked: a list's, a tuple's items -/
def itemsD : D → Option (List D)
  | .list ds => some ds
  | .tuple ds => some ds
  | _ => none
def mItems (m : M D) : M (List D) := mBind m fun d => mLift (itemsD d)
end
section
variable {X : Cx} {W : WX} {K : PySem.W.Frag} {e tg : Expr} {m : M D} {pos : Pos}
theorem lst_same {H : Hp} {a : Addr} {xs ys : List V} (h : Rd H a (.lst xs)) (h2 : Rd H a (.lst ys)) : xs = ys := by
  rcases h with h1 | ⟨o, h1⟩ <;> rcases h2 with h2 | ⟨o', h2⟩ <;> (rw [h1] at h2; first | (cases h2; rfl) | (cases h2))
/-- two readings of one sequence agree: by the machine's own heap -/
theorem itl_D {F : Hp} {a : Addr} {xs : List V} {ds : List D} (h : Rd F a (.lst xs)) (hd : DpAll K F xs ds) : ItD K F (Itl K a) ds where
  go := fun H i s hi => by
    obtain ⟨x, q⟩ : ∃ x, xs[i]? = some x := ⟨xs[i]'(by rw [DpAll.length hd]; exact hi), by simp⟩
    exact ⟨xs, x, .inl (Rd.mono s h), q⟩
  stop := fun H i s hi => ⟨xs, .inl (Rd.mono s h), by rw [DpAll.length hd]; exact hi⟩
  yld := fun H i x H' d s q y => by
    obtain ⟨e, y⟩ := y
    obtain ⟨v, q1, q2⟩ := DpAll.getd hd q
    have q3 := y xs (.inl (Rd.mono s h))
    rw [q3] at q1
    cases q1
    exact .inl ⟨e, q2⟩
theorem itt_D {F : Hp} {a : Addr} {xs : List V} {ds : List D} (h : SqT K F a xs) (hd : DpAll K F xs ds) : ItD K F (Itt K a) ds where
  go := fun H i s hi => by
    obtain ⟨x, q⟩ : ∃ x, xs[i]? = some x := ⟨xs[i]'(by rw [DpAll.length hd]; exact hi), by simp⟩
    exact ⟨xs, x, SqT.mono s h, q⟩
  stop := fun H i s hi => ⟨xs, SqT.mono s h, by rw [DpAll.length hd]; exact hi⟩
  yld := fun H i x H' d s q y => by
    obtain ⟨e, y⟩ := y
    obtain ⟨v, q1, q2⟩ := DpAll.getd hd q
    have q3 := y xs (SqT.mono s h)
    rw [q3] at q1
    cases q1
    exact .inl ⟨e, q2⟩
theorem diSeq (he : PE X e (tE X.K W m)) : PI X tg e (tI X.K W (mItems m)) := PI.imp (pi_seq he) (by
  rintro σ H R ⟨c, F, ρ, ok, h⟩
  refine ⟨c, F, ρ, ok, post_mono ?_ (post_bind h)⟩
  rintro d H1 F1 _ ⟨ρ1, ok1, s1, h1⟩ v rv
  obtain ⟨ds, e, h2⟩ := post_lift h1
  unfold itemsD at e
  split at e
  · cases e
    cases rv with
    | lst hr hd => exact ⟨_, rfl, .inl ⟨⟨_, .inl (Rd.mono ok1.sub hr)⟩, h2 H1 F1 ok1 (Same.refl F1) _ (itl_D hr hd)⟩⟩
  · cases e
    cases rv with
    | tup hr hd => exact ⟨_, rfl, .inr ⟨⟨_, SqT.mono ok1.sub hr⟩, h2 H1 F1 ok1 (Same.refl F1) _ (itt_D hr hd)⟩⟩
  · cases e)
/-- range -/
def rngL (lo hi : Int) : List D := (List.range (hi - lo).toNat).map fun i => .int (lo + (i : Nat))
def rngOk (i : Int) : Bool := decide (i.natAbs < 4611686018427387904)
def rngD1 : List D → Option (List D)
  | [.int j] => if rngOk j = true then some (rngL 0 j) else none
  | _ => none
def rngD2 : List D → Option (List D)
  | [.int i, .int j] => if (rngOk i && rngOk j) = true then some (rngL i j) else none
  | _ => none
theorem rngL_get {lo hi : Int} {i : Nat} {d : D} (h : (rngL lo hi)[i]? = some d) : d = .int (lo + (i : Nat)) ∧ i < (hi - lo).toNat := by
  unfold rngL at h
  rw [List.getElem?_map] at h
  by_cases q : i < (hi - lo).toNat
  · rw [List.getElem?_range q] at h
    cases h
    exact ⟨rfl, q⟩
  · rw [List.getElem?_eq_none (by simpa using q)] at h
    cases h
theorem rngL_length (lo hi : Int) : (rngL lo hi).length = (hi - lo).toNat := by simp [rngL]
theorem itr_D {F : Hp} {lo hi : Int} : ItD K F (Itr lo (hi - lo).toNat) (rngL lo hi) where
  go := fun H i s hi => by rw [rngL_length] at hi; exact hi
  stop := fun H i s hi => by rw [rngL_length] at hi; exact hi
  yld := fun H i x H' d s q y => by
    obtain ⟨e1, e2⟩ := y
    obtain ⟨e3, _⟩ := rngL_get q
    subst e1 e2 e3
    exact .inl ⟨rfl, .int _⟩
def mRng1 (ms : M (List D)) : M (List D) := mBind ms fun ds => mLift (rngD1 ds)
def mRng2 (ms : M (List D)) : M (List D) := mBind ms fun ds => mLift (rngD2 ds)
variable {a b : Expr} {ms : M (List D)} {p : Pos}
theorem rngOk_of {i : Int} (h : rngOk i = true) : -(2 ^ 62) ≤ i ∧ i < 2 ^ 62 := by
  unfold rngOk at h
  have h := of_decide_eq_true h
  exact ⟨by omega, by omega⟩
theorem diRng1 (hm : X.mg "range" = none) (ha : PA X [a] (tA X.K W ms)) (hg : Gl X "range" := by rfl) (hs : starEach [a] X.env = [(false, eval a X.env)] := by rfl) : PI X tg (.Call (.Name "range" p) [a] [] pos) (tI X.K W (mRng1 ms)) := PI.imp (pi_range1 hg hm ha hs) (by
  rintro σ H R ⟨c, F, ρ, ok, h⟩
  refine ⟨c, F, ρ, ok, post_mono ?_ (post_bind h)⟩
  rintro ds H1 F1 _ ⟨ρ1, ok1, s1, h1⟩ vs rv
  obtain ⟨out, e, h2⟩ := post_lift h1
  unfold rngD1 at e
  split at e
  · rename_i j
    split at e
    · rename_i hb
      cases e
      cases rv with
      | cons r t =>
        cases t
        cases r
        obtain ⟨b1, b2⟩ := rngOk_of hb
        refine ⟨j, rfl, b1, b2, h2 H1 F1 ok1 (Same.refl F1) _ ?_⟩
        have q := itr_D (K := X.K) (F := F1) (lo := 0) (hi := j)
        rw [Int.sub_zero] at q
        exact q
    · cases e
  · cases e)
theorem diRng2 (hm : X.mg "range" = none) (ha : PA X [a, b] (tA X.K W ms)) (hg : Gl X "range" := by rfl) (hs : starEach [a, b] X.env = [(false, eval a X.env), (false, eval b X.env)] := by rfl) (hs2 : starEach [b] X.env = [(false, eval b X.env)] := by rfl) : PI X tg (.Call (.Name "range" p) [a, b] [] pos) (tI X.K W (mRng2 ms)) := PI.imp (pi_range2 hg hm ha hs hs2) (by
  rintro σ H R ⟨c, F, ρ, ok, h⟩
  refine ⟨c, F, ρ, ok, post_mono ?_ (post_bind h)⟩
  rintro ds H1 F1 _ ⟨ρ1, ok1, s1, h1⟩ vs rv
  obtain ⟨out, e, h2⟩ := post_lift h1
  unfold rngD2 at e
  split at e
  · rename_i i j
    split at e
    · rename_i hb
      cases e
      cases rv with
      | cons r t =>
        cases t with
        | cons r' t' =>
          cases t'
          cases r
          cases r'
          rw [Bool.and_eq_true] at hb
          obtain ⟨b1, b2⟩ := rngOk_of hb.1
          obtain ⟨b3, b4⟩ := rngOk_of hb.2
          exact ⟨i, j, rfl, ⟨b1, b2, b3, b4⟩, h2 H1 F1 ok1 (Same.refl F1) _ itr_D⟩
    · cases e
  · cases e)
/-- enumerate of a list; zip of two lists, of two tuples -/
def enumL (ds : List D) : List D := (List.range ds.length).map fun i => .tuple [.int (i : Nat), ds.getD i .none]
def enumD : List D → Option (List D)
  | [.list ds] => some (enumL ds)
  | _ => none
theorem enumL_get {ds : List D} {i : Nat} {d : D} (h : (enumL ds)[i]? = some d) : ∃ y, ds[i]? = some y ∧ d = .tuple [.int (i : Nat), y] := by
  unfold enumL at h
  rw [List.getElem?_map] at h
  by_cases q : i < ds.length
  · rw [List.getElem?_range q] at h
    have e : ds[i]? = some ds[i] := List.getElem?_eq_getElem q
    refine ⟨ds[i], e, ?_⟩
    have h' := Option.some.inj h
    rw [← h']
    show PyData.tuple [PyData.int (i : Nat), ds.getD i PyData.none] = _
    rw [List.getD_eq_getElem?_getD, e]; rfl
  · rw [List.getElem?_eq_none (by simpa using q)] at h
    cases h
theorem enumL_length (ds : List D) : (enumL ds).length = ds.length := by simp [enumL]
theorem ite_D {F : Hp} {a : Addr} {xs : List V} {ds : List D} (h : Rd F a (.lst xs)) (hd : DpAll K F xs ds) : ItD K F (Ite K a) (enumL ds) where
  go := fun H i s hi => by
    rw [enumL_length] at hi
    obtain ⟨x, q⟩ : ∃ x, xs[i]? = some x := ⟨xs[i]'(by rw [DpAll.length hd]; exact hi), by simp⟩
    exact ⟨xs, x, .inl (Rd.mono s h), q⟩
  stop := fun H i s hi => ⟨xs, .inl (Rd.mono s h), by rw [enumL_length] at hi; rw [DpAll.length hd]; exact hi⟩
  yld := fun H i x H' d s q y => by
    obtain ⟨T, z, e1, e2, e3, y⟩ := y
    obtain ⟨yd, q1, e4⟩ := enumL_get q
    obtain ⟨v, q2, q3⟩ := DpAll.getd hd q1
    have q4 := y xs (.inl (Rd.mono s h))
    rw [q4] at q2
    cases q2
    exact .inr ⟨T, _, _, e4, e1, e2, e3, .cons (.int _) (.one q3)⟩
def mEnum (ms : M (List D)) : M (List D) := mBind ms fun ds => mLift (enumD ds)
variable {elts : List Expr} {kk : Nat} {tpos : Pos}
theorem diEnum (hm : X.mg "enumerate" = none) (ha : PA X [e] (tA X.K W ms)) (hg : Gl X "enumerate" := by rfl) (hs : starEach [e] X.env = [(false, eval e X.env)] := by rfl) : PI X (.Tuple elts kk tpos) (.Call (.Name "enumerate" p) [e] [] pos) (tI X.K W (mEnum ms)) := PI.imp (pi_enum hg hm ha hs) (by
  rintro σ H R ⟨c, F, ρ, ok, h⟩
  refine ⟨c, F, ρ, ok, post_mono ?_ (post_bind h)⟩
  rintro ds H1 F1 _ ⟨ρ1, ok1, s1, h1⟩ vs rv
  obtain ⟨out, e, h2⟩ := post_lift h1
  unfold enumD at e
  split at e
  · cases e
    cases rv with
    | cons r t =>
      cases t
      cases r with
      | lst hr hd => exact ⟨_, _, rfl, .inl (Rd.mono ok1.sub hr), h2 H1 F1 ok1 (Same.refl F1) _ (ite_D hr hd)⟩
  · cases e)
def zipL (ds es : List D) : List D := List.zipWith (fun x y => .tuple [x, y]) ds es
def zipD : List D → Option (List D)
  | [.list ds, .list es] => some (zipL ds es)
  | [.tuple ds, .tuple es] => some (zipL ds es)
  | _ => none
theorem zipL_get {ds es : List D} {i : Nat} {d : D} (h : (zipL ds es)[i]? = some d) : ∃ y z, ds[i]? = some y ∧ es[i]? = some z ∧ d = .tuple [y, z] := by
  unfold zipL at h
  rw [List.getElem?_zipWith] at h
  cases q1 : ds[i]? with
  | none => rw [q1] at h; cases h
  | some y =>
    cases q2 : es[i]? with
    | none => rw [q1, q2] at h; cases h
    | some z =>
      rw [q1, q2] at h
      cases h
      exact ⟨y, z, rfl, rfl, rfl⟩
theorem itz_D {F : Hp} {a b : Addr} {xs ys : List V} {ds es : List D} (h : Rd F a (.lst xs)) (hd : DpAll K F xs ds) (h2 : Rd F b (.lst ys)) (hd2 : DpAll K F ys es) : ItD K F (Itz K a b) (zipL ds es) where
  go := fun H i s hi => by
    have hl : i < ds.length ∧ i < es.length := by simp [zipL] at hi; omega
    obtain ⟨x, q⟩ : ∃ x, xs[i]? = some x := ⟨xs[i]'(by rw [DpAll.length hd]; exact hl.1), by simp⟩
    obtain ⟨y, q'⟩ : ∃ x, ys[i]? = some x := ⟨ys[i]'(by rw [DpAll.length hd2]; exact hl.2), by simp⟩
    exact ⟨xs, ys, x, y, .inl (Rd.mono s h), .inl (Rd.mono s h2), q, q'⟩
  stop := fun H i s hi => ⟨xs, ys, .inl (Rd.mono s h), .inl (Rd.mono s h2), by rw [DpAll.length hd, DpAll.length hd2]; simp [zipL] at hi; omega⟩
  yld := fun H i x H' d s q y => by
    obtain ⟨T, z, z2, e1, e2, e3, y, y2⟩ := y
    obtain ⟨yd, zd, q1, q1', e4⟩ := zipL_get q
    obtain ⟨v, q2, q3⟩ := DpAll.getd hd q1
    obtain ⟨v2, q2', q3'⟩ := DpAll.getd hd2 q1'
    have q4 := y xs (.inl (Rd.mono s h))
    have q5 := y2 ys (.inl (Rd.mono s h2))
    rw [q4] at q2
    rw [q5] at q2'
    cases q2
    cases q2'
    exact .inr ⟨T, _, _, e4, e1, e2, e3, .cons q3 (.one q3')⟩
theorem itzT_D {F : Hp} {a b : Addr} {xs ys : List V} {ds es : List D} (h : SqT K F a xs) (hd : DpAll K F xs ds) (h2 : SqT K F b ys) (hd2 : DpAll K F ys es) : ItD K F (RZ.ItzT K a b) (zipL ds es) where
  go := fun H i s hi => by
    have hl : i < ds.length ∧ i < es.length := by simp [zipL] at hi; omega
    obtain ⟨x, q⟩ : ∃ x, xs[i]? = some x := ⟨xs[i]'(by rw [DpAll.length hd]; exact hl.1), by simp⟩
    obtain ⟨y, q'⟩ : ∃ x, ys[i]? = some x := ⟨ys[i]'(by rw [DpAll.length hd2]; exact hl.2), by simp⟩
    exact ⟨xs, ys, x, y, SqT.mono s h, SqT.mono s h2, q, q'⟩
  stop := fun H i s hi => ⟨xs, ys, SqT.mono s h, SqT.mono s h2, by rw [DpAll.length hd, DpAll.length hd2]; simp [zipL] at hi; omega⟩
  yld := fun H i x H' d s q y => by
    obtain ⟨T, z, z2, e1, e2, e3, y, y2⟩ := y
    obtain ⟨yd, zd, q1, q1', e4⟩ := zipL_get q
    obtain ⟨v, q2, q3⟩ := DpAll.getd hd q1
    obtain ⟨v2, q2', q3'⟩ := DpAll.getd hd2 q1'
    have q4 := y xs (SqT.mono s h)
    have q5 := y2 ys (SqT.mono s h2)
    rw [q4] at q2
    rw [q5] at q2'
    cases q2
    cases q2'
    exact .inr ⟨T, _, _, e4, e1, e2, e3, .cons q3 (.one q3')⟩
def mZip (ms : M (List D)) : M (List D) := mBind ms fun ds => mLift (zipD ds)
theorem diZip (hm : X.mg "zip" = none) (ha : PA X [a, b] (tA X.K W ms)) (hg : Gl X "zip" := by rfl) (hs : starEach [a, b] X.env = (false, eval a X.env) :: starEach [b] X.env := by rfl) (hpl : (backTo pos (starEach [b] X.env)).any (·.1) = false := by rfl) :
    PI X (.Tuple elts kk tpos) (.Call (.Name "zip" p) [a, b] [] pos) (tI X.K W (mZip ms)) := PI.imp (RZ.pi_zipA hg hm ha hs hpl) (by
  rintro σ H R ⟨c, F, ρ, ok, h⟩
  refine ⟨c, F, ρ, ok, post_mono ?_ (post_bind h)⟩
  rintro ds H1 F1 _ ⟨ρ1, ok1, s1, h1⟩ vs rv
  obtain ⟨out, e, h2⟩ := post_lift h1
  unfold zipD at e
  split at e
  · cases e
    cases rv with
    | cons r t =>
      cases t with
      | cons r' t' =>
        cases t'
        cases r with
        | lst hr hd =>
          cases r' with
          | lst hr' hd' => exact ⟨_, _, _, _, rfl, .inl ⟨.inl (Rd.mono ok1.sub hr), .inl (Rd.mono ok1.sub hr'), h2 H1 F1 ok1 (Same.refl F1) _ (itz_D hr hd hr' hd')⟩⟩
  · cases e
    cases rv with
    | cons r t =>
      cases t with
      | cons r' t' =>
        cases t'
        cases r with
        | tup hr hd =>
          cases r' with
          | tup hr' hd' => exact ⟨_, _, _, _, rfl, .inr ⟨SqT.mono ok1.sub hr, SqT.mono ok1.sub hr', h2 H1 F1 ok1 (Same.refl F1) _ (itzT_D hr hd hr' hd')⟩⟩
  · cases e)
end
/-! ### for, while -/
def mForL (g : D → M Unit) (body : M Fl) : List D → M Fl
  | [] => mPure .nx
  | d :: ds => mBind (g d) fun _ => mBind body fun f => match f with
    | .nx => mForL g body ds
    | .ct => mForL g body ds
    | .bk => mPure .nx
    | o => mPure o
def mFor (mi : M (List D)) (g : D → M Unit) (body : M Fl) : M Fl := mBind mi fun ds => mForL g body ds
section
variable {X : Cx} {W : WX} {K : PySem.W.Frag} {e tg : Expr} {pos : Pos}
theorem yld_ok {c : Ct} {σ : St} {H F : Hp} {ρ : En} {J : It} {ds : List D} {i : Nat} {x : V} {H' : Hp} {d : D} (ok : Ok K c σ H F ρ) (hJ : ∀ H x H' d, Same F H → ds[i]? = some d → J.yld i H x H' → (H' = H ∧ Dp K F x d) ∨ (∃ T xs es, d = .tuple es ∧ x = .ref T ∧ H T = none ∧ H' = upd H T (.tup xs) ∧ DpAll K F xs es)) (e : ds[i]? = some d) (y : J.yld i H x H') :
    ∃ F', Ok K c σ H' F' ρ ∧ Same F F' ∧ Dp K F' x d := by
  rcases hJ H x H' d ok.sub e y with ⟨rfl, r⟩ | ⟨T, xs, es, rfl, rfl, hT, rfl, r⟩
  · exact ⟨F, ok, Same.refl F, r⟩
  · have s : Same F (upd F T (.tup xs)) := Same.updN (ok.new hT).1
    exact ⟨_, ok.alloc hT, s, .tup (SqT.of upd_same) (DpAll.mono s r)⟩
theorem ItD.mono {F F' : Hp} {J : It} {ds : List D} (s : Same F F') (h : ItD K F J ds) : ∀ (i : Nat) H x H' d, Same F' H → ds[i]? = some d → J.yld i H x H' → (H' = H ∧ Dp K F' x d) ∨ (∃ T xs es, d = .tuple es ∧ x = .ref T ∧ H T = none ∧ H' = upd H T (.tup xs) ∧ DpAll K F' xs es) := fun i H x H' d s' e y => by
  rcases h.yld H i x H' d (s.trans s') e y with ⟨a1, a2⟩ | ⟨T, xs, es, a1, a2, a3, a4, a5⟩
  · exact .inl ⟨a1, Dp.mono s a2⟩
  · exact .inr ⟨T, xs, es, a1, a2, a3, a4, DpAll.mono s a5⟩
theorem for_post {c : Ct} {F : Hp} {Dn : Ends} {ρ : En} {mb rest : M Fl} {N : St → Hp → Prop} (h : postS K W c F Dn (mBind mb (fun f => match f with
    | .nx => rest
    | .ct => rest
    | .bk => mPure .nx
    | o => mPure o) ρ)) (hN : ∀ σ' H' F' ρ', Ok K c σ' H' F' ρ' → Same F F' → postS K W c F' Dn (rest ρ') → N σ' H') : postS K W c F { Dn with nx := N, ct := N, bk := Dn.nx } (mb ρ) := by
  unfold mBind at h
  cases e : mb ρ with
  | none => rw [e] at h; exact h
  | some r =>
    rw [e] at h
    cases r with
    | ex x ρ1 => exact h
    | ok f ρ1 =>
      cases f with
      | nx => exact fun σ' H' F' ok s => hN σ' H' F' ρ1 ok s (postS_weak s h)
      | ct => exact fun σ' H' F' ok s => hN σ' H' F' ρ1 ok s (postS_weak s h)
      | bk => exact h
      | rt d => exact h
      | rf ds => exact h
theorem dFor {iter : Expr} {body : List Stmt} {mi : M (List D)} {g : D → M Unit} {mb : M Fl} (hp : PassesOwn (model X.prog X.w) X.A X.env X.xe) (hc : X.calm = true) (hi : PI X tg iter (tI X.K W mi)) (hg : PG X tg (tG X.K W g)) (hb : PSs X body (tS X.K W mb))
    (hs : ∀ x, foldedSetIterable iter X.env x = pure x := by exact fun _ => rfl) : PS X (.For tg iter body [] pos) (tS X.K W (mFor mi g mb)) := PS.imp (ps_for hp hc hi hg hb hs) (by
  rintro Dn σ H ⟨c, F, ρ, ok, h⟩
  refine ⟨c, F, ρ, ok, post_mono ?_ (postS_bind h)⟩
  rintro ds H1 F1 _ ⟨ρ1, ok1, s1, h1⟩ J hJ
  refine ⟨fun i n σ' H' => i + n = ds.length ∧ ∃ F' ρ', Ok X.K c σ' H' F' ρ' ∧ Same F1 F' ∧ postS X.K W c F' Dn (mForL g mb (ds.drop i) ρ'), ⟨ds.length, by omega, F1, ρ1, ok1, Same.refl F1, h1⟩, ?_⟩
  rintro i n σ' H' ⟨en, F', ρ', ok', s', h'⟩
  by_cases hi : i < ds.length
  · obtain ⟨d, ed⟩ : ∃ d, ds[i]? = some d := ⟨ds[i], List.getElem?_eq_getElem hi⟩
    have edr : ds.drop i = d :: ds.drop (i + 1) := by
      rw [List.drop_eq_getElem_cons hi]
      have := List.getElem?_eq_getElem hi
      rw [ed] at this
      rw [Option.some.inj this]
    rw [edr] at h'
    refine .inr ⟨hJ.go H' i (s'.trans ok'.sub) hi, fun σ3 H3 => ∃ F3 ρ3, Ok X.K c σ3 H3 F3 ρ3 ∧ Same F1 F3 ∧ postS X.K W c F3 Dn (mForL g mb (ds.drop (i + 1)) ρ3), fun σ3 H3 w => ⟨n - 1, by omega, by omega, w⟩, fun x H2 y => ?_⟩
    obtain ⟨F2, ok2, s2, r2⟩ := yld_ok ok' (hJ.mono s' i) ed y
    refine ⟨c, F2, ρ', d, ok2, r2, postG_mono ?_ (postG_weak s2 (postS_bindG h'))⟩
    rintro σ4 H4 ⟨F4, ρ4, ok4, s4, h4⟩
    exact ⟨c, F4, ρ4, ok4, for_post h4 fun σ5 H5 F5 ρ5 ok5 s5 h5 => ⟨F5, ρ5, ok5, (s'.trans s4).trans s5, h5⟩⟩
  · have ei : ds.drop i = [] := List.drop_eq_nil_of_le (by omega)
    rw [ei] at h'
    exact .inl ⟨hJ.stop H' i (s'.trans ok'.sub) (by omega), h' σ' H' F' ok' (Same.refl F')⟩)
end
end Dd

namespace Dd
open PySem PySem.Spec L2
/-! ### while -/
def mWhileN (c : M Bool) (body : M Fl) : Nat → M Fl
  | 0 => mStuck
  | n + 1 => mBind c fun k => if k = true then mBind body fun f => match f with
    | .nx => mWhileN c body n
    | .ct => mWhileN c body n
    | .bk => mPure .nx
    | o => mPure o
    else mPure .nx
def mWhile (fuel : En → Nat) (c : M Bool) (body : M Fl) : M Fl := fun ρ => mWhileN c body (fuel ρ) ρ
section
variable {X : Cx} {W : WX} {K : PySem.W.Frag} {e tg : Expr} {pos : Pos}
theorem dWhile {cnd : Expr} {body : List Stmt} {mc : M Bool} {mb : M Fl} {fuel : En → Nat} (hp : PassesOwn (model X.prog X.w) X.A X.env X.xe) (hc : PT X cnd (tT X.K W mc)) (hb : PSs X body (tS X.K W mb)) : PS X (.While cnd body [] pos) (tS X.K W (mWhile fuel mc mb)) := PS.imp (ps_while hp hc hb) (by
  rintro Dn σ H ⟨c, F, ρ, ok, h⟩
  refine ⟨fun n σ' H' => ∃ F' ρ', Ok X.K c σ' H' F' ρ' ∧ Same F F' ∧ postS X.K W c F' Dn (mWhileN mc mb n ρ'), ⟨fuel ρ, F, ρ, ok, Same.refl F, h⟩, ?_⟩
  rintro n σ' H' ⟨F', ρ', ok', s', h'⟩
  cases n with
  | zero => exact h'.elim
  | succ n =>
    refine ⟨c, F', ρ', ok', post_mono ?_ (postS_bind h')⟩
    rintro k H1 F1 _ ⟨ρ1, ok1, s1, h1⟩
    cases k with
    | false => exact h1 σ' H1 F1 ok1 (Same.refl F1)
    | true =>
      refine ⟨fun σ3 H3 => ∃ F3 ρ3, Ok X.K c σ3 H3 F3 ρ3 ∧ Same F F3 ∧ postS X.K W c F3 Dn (mWhileN mc mb n ρ3), fun σ3 H3 w => ⟨n, Nat.lt_succ_self n, w⟩, ?_⟩
      exact ⟨c, F1, ρ1, ok1, for_post h1 fun σ5 H5 F5 ρ5 ok5 s5 h5 => ⟨F5, ρ5, ok5, (s'.trans s1).trans s5, h5⟩⟩)
/-! ### comprehensions -/
def WF : WX := fun _ _ _ _ => False
/-- the stores of a comprehension's target: one name, or a tuple of names -/
def unsE (ρ : En) : List Nat → En
  | [] => ρ
  | i :: is => (unsE ρ is).set i .un
def mUn_ (vs : List Nat) : M Unit := fun ρ => some (.ok () (unsE ρ vs))
theorem unsE_length (ρ : En) : ∀ vs, (unsE ρ vs).length = ρ.length
  | [] => rfl
  | v :: vs => by unfold unsE; rw [List.length_set, unsE_length ρ vs]
theorem ok_wipe {c : Ct} {σ : St} {H F : Hp} {ρ : En} (ok : Ok K c σ H F ρ) : ∀ vs : List Nat, Ok K c (wipe σ vs) H F (unsE ρ vs)
  | [] => ok
  | v :: vs => by
    have ok' := ok_wipe ok vs
    unfold wipe unsE
    by_cases h : v < (unsE ρ vs).length
    · exact ok'.setU h
    · have h1 : (unsE ρ vs).set v .un = unsE ρ vs := List.set_eq_of_length_le (by omega)
      have h2 : (wipe σ vs).set v none = wipe σ vs := List.set_eq_of_length_le (by rw [ok'.len]; omega)
      rw [h1, h2]; exact ok'
theorem unsE_at {ρ : En} {i : Nat} : ∀ {vs : List Nat}, i ∈ vs → (unsE ρ vs)[i]? = some .un ∨ (unsE ρ vs)[i]? = none
  | v :: vs, h => by
    unfold unsE
    by_cases e : v = i
    · subst e
      by_cases hl : v < (unsE ρ vs).length
      · left; simp [hl]
      · right; simp only [List.getElem?_eq_none_iff, List.length_set]; omega
    · rw [List.getElem?_set_ne e]
      exact unsE_at (by cases h with
        | head => exact absurd rfl e
        | tail _ h => exact h)
/-- nothing is known of the wiped slots: they may be what they were -/
theorem ok_unwipe {c : Ct} {σ : St} {H F : Hp} {ρ : En} {vs : List Nat} (ok : Ok K c (wipe σ vs) H F (unsE ρ vs)) : Ok K c σ H F (unsE ρ vs) := by
  have out : ∀ {i : Nat} {u : Sl}, (unsE ρ vs)[i]? = some u → u ≠ .un → (wipe σ vs)[i]? = σ[i]? := fun {i u} e n => by
    by_cases h : i ∈ vs
    · rcases unsE_at (ρ := ρ) h with q | q
      · rw [q] at e; exact absurd (Option.some.inj e).symm n
      · rw [q] at e; cases e
    · exact wipe_out h
  refine ⟨by rw [← ok.len, wipe_length], ok.sub, ok.ge, ok.fe, ok.keep, ok.iod, ok.prt, fun i d e => ?_, fun i ds e => ?_, fun i ds e => ?_, fun i ns e => ?_, fun i j ds es p a b x y => ?_⟩
  · obtain ⟨v, a1, a2⟩ := ok.val i d e
    exact ⟨v, by rw [← out e (by intro z; cases z)]; exact a1, a2⟩
  · obtain ⟨p, w, a1, a2⟩ := ok.own i ds e
    exact ⟨p, w, by rw [← out e (by intro z; cases z)]; exact a1, a2⟩
  · obtain ⟨z, p, w, a0, a1, a2⟩ := ok.ios i ds e
    exact ⟨z, p, w, a0, by rw [← out e (by intro z; cases z)]; exact a1, a2⟩
  · obtain ⟨z, p, a1, a2⟩ := ok.scr i ns e
    exact ⟨z, p, by rw [← out e (by intro z; cases z)]; exact a1, a2⟩
  · exact ok.sep i j ds es p a b (by rw [out a (by intro z; cases z)]; exact x) (by rw [out b (by intro z; cases z)]; exact y)
theorem unsE_self {ρ : En} : ∀ {vs : List Nat}, unsE (unsE ρ vs) vs = unsE ρ vs := fun {vs} => by
  apply List.ext_getElem?
  intro i
  by_cases h : i ∈ vs
  · rcases unsE_at (ρ := unsE ρ vs) h with q | q <;> rcases unsE_at (ρ := ρ) h with q' | q' <;> rw [q, q']
    · have := List.getElem?_eq_none_iff.mp q'
      have h2 : i < (unsE (unsE ρ vs) vs).length := by
        rcases Nat.lt_or_ge i (unsE (unsE ρ vs) vs).length with z | z
        · exact z
        · rw [List.getElem?_eq_none z] at q; cases q
      rw [unsE_length] at h2
      omega
    · have := List.getElem?_eq_none_iff.mp q
      rw [unsE_length] at this
      have h2 : i < (unsE ρ vs).length := by
        rcases Nat.lt_or_ge i (unsE ρ vs).length with z | z
        · exact z
        · rw [List.getElem?_eq_none z] at q'; cases q'
      omega
  · have o : ∀ (ρ : En) (vs : List Nat), i ∉ vs → (unsE ρ vs)[i]? = ρ[i]? := fun ρ vs => by
      induction vs with
      | nil => intro _; rfl
      | cons v vs ih =>
        intro h
        unfold unsE
        rw [List.getElem?_set_ne (fun z => h (by rw [z]; exact List.mem_cons_self)), ih fun z => h (List.mem_cons_of_mem _ z)]
    rw [o _ _ h]
/-- the target of a comprehension's for: where it stores, and that it stores nowhere else -/
structure CTg (K : PySem.W.Frag) (vs : List Nat) (g : TG) (gD : D → M Unit) : Prop where
  run : ∀ {c : Ct} {σ : St} {H F : Hp} {ρ : En} {v : V} {d : D} {u : Unit} {ρ' : En} {Q : St → Hp → Prop}, Ok K c σ H F ρ → Dp K F v d → gD d ρ = some (.ok u ρ') →
    (∀ σ', Ok K c σ' H F ρ' → wipe σ' vs = wipe σ vs → Q σ' H) → g v σ H Q
theorem wipe_set {σ : St} {i : Nat} {v : Option V} : ∀ {vs : List Nat}, i ∈ vs → wipe (σ.set i v) vs = wipe σ vs := fun {vs} h => by
  have o : ∀ (vs : List Nat) (σ : St), (wipe (σ.set i v) vs) = (wipe σ vs).set i v ∨ i ∈ vs := fun vs => by
    induction vs with
    | nil => intro σ; exact .inl rfl
    | cons w vs ih =>
      intro σ
      by_cases e : i = w
      · exact .inr (e ▸ List.mem_cons_self)
      · rcases ih σ with q | q
        · left; unfold wipe; rw [q, List.set_comm _ _ e]
        · exact .inr (List.mem_cons_of_mem _ q)
  induction vs with
  | nil => cases h
  | cons w vs ih =>
    unfold wipe
    by_cases e : i = w
    · subst e
      by_cases h' : i ∈ vs
      · rw [ih h']
      · rcases o vs σ with q | q
        · rw [q, List.set_set]
        · exact absurd q h'
    · have h' : i ∈ vs := by cases h with
        | head => exact absurd rfl e
        | tail _ h => exact h
      rw [ih h']
theorem ctName {vs : List Nat} {i : Nat} (h : i ∈ vs) : CTg K vs (gName i) (mStore i) := ⟨fun {c σ H F ρ v d u ρ' Q} ok r e k => by
  unfold mStore at e
  split at e
  · rename_i hl
    cases e
    exact k _ (ok.setV hl r) (wipe_set h)
  · cases e⟩
def gNamesT : List Nat → TGs
  | [] => gNil
  | i :: is => gCons (gName i) (gNamesT is)
def gNamesD : List Nat → List D → M Unit
  | [], [] => mPure ()
  | i :: is, d :: ds => mBind (mStore i d) fun _ => gNamesD is ds
  | _, _ => mStuck
theorem names_run {vs : List Nat} {c : Ct} {H F : Hp} : ∀ {is : List Nat} {xs : List V} {ds : List D} {σ : St} {ρ : En} {u : Unit} {ρ' : En} {Q : St → Hp → Prop}, (∀ i ∈ is, i ∈ vs) → Ok K c σ H F ρ → DpAll K F xs ds → gNamesD is ds ρ = some (.ok u ρ') →
    (∀ σ', Ok K c σ' H F ρ' → wipe σ' vs = wipe σ vs → Q σ' H) → gNamesT is xs σ H Q
  | [], _, _, σ, ρ, u, ρ', Q, hv, ok, .nil, e, k => by
    cases e
    exact ⟨rfl, k σ ok rfl⟩
  | [], _, _, σ, ρ, u, ρ', Q, hv, ok, .cons _ _, e, k => by cases e
  | i :: is, _, _, σ, ρ, u, ρ', Q, hv, ok, .nil, e, k => by cases e
  | i :: is, _, _, σ, ρ, u, ρ', Q, hv, ok, .cons (v := x) (vs := xs) (d := d) (ds := ds) r rr, e, k => by
    obtain ⟨_, ρ1, e1, e2⟩ := bind_ok e
    refine ⟨x, xs, rfl, ?_⟩
    unfold mStore at e1
    split at e1
    · rename_i hl
      cases e1
      refine names_run (vs := vs) (fun j hj => hv j (List.mem_cons_of_mem _ hj)) (ok.setV hl r) rr e2 fun σ' ok' w => k σ' ok' ?_
      rw [w, wipe_set (hv i List.mem_cons_self)]
    · cases e1
theorem ctTup {vs is : List Nat} (h : ∀ i ∈ is, i ∈ vs) : CTg K vs (gTup K is.length (gNamesT is)) (gTupD is.length (gNamesD is)) := ⟨fun {c σ H F ρ v d u ρ' Q} ok r e k => by
  unfold gTupD at e
  split at e
  · split at e
    · rename_i hl
      obtain ⟨p, xs, rfl, hp, dp⟩ := Pk.tup ok.sub (.inl r)
      exact ⟨p, xs, rfl, hp, by rw [DpAll.length dp]; exact hl, names_run h ok dp e k⟩
    · cases e
  · cases e⟩
def mGo (vs : List Nat) (g : D → M Unit) (tt : M Bool) (te : M D) : List D → M (List D)
  | [] => mPure []
  | d :: ds => mBind (g d) fun _ => mBind tt fun k => mBind (if k = true then mBind te fun y => mPure [y] else mPure []) fun es => mBind (mUn_ vs) fun _ => mBind (mGo vs g tt te ds) fun rest => mPure (es ++ rest)
/-- nothing is raised out of a comprehension -/
def mRest (vs : List Nat) (g : D → M Unit) (tt : M Bool) (te : M D) (ds : List D) : M (List D) := fun ρ => match mGo vs g tt te ds (unsE ρ vs) with
  | some (.ok out ρe) => if fit ds.length = true then some (.ok out (unsE ρe vs)) else none
  | _ => none
def mComp (vs : List Nat) (mi : M (List D)) (g : D → M Unit) (tt : M Bool) (te : M D) : M (List D) := mBind mi (mRest vs g tt te)
theorem go_length {vs : List Nat} {g : D → M Unit} {tt : M Bool} {te : M D} : ∀ {ds out : List D} {ρ ρ' : En}, mGo vs g tt te ds ρ = some (.ok out ρ') → out.length ≤ ds.length
  | [], out, ρ, ρ', h => by cases h; exact Nat.le_refl _
  | d :: ds, out, ρ, ρ', h => by
    obtain ⟨_, ρ1, h1, h⟩ := bind_ok h
    obtain ⟨k, ρ2, h2, h⟩ := bind_ok h
    obtain ⟨es, ρ3, h3, h⟩ := bind_ok h
    obtain ⟨_, ρ4, h4, h⟩ := bind_ok h
    obtain ⟨rest, ρ5, h5, h⟩ := bind_ok h
    cases h
    have l := go_length h5
    have l2 : es.length ≤ 1 := by
      cases k with
      | true =>
        obtain ⟨y, _, _, h3⟩ := bind_ok h3
        cases h3; exact Nat.le_refl _
      | false => cases h3; exact Nat.zero_le _
    rw [List.length_append, List.length_cons]
    omega
theorem wipe_wipe {σ : St} {vs : List Nat} : wipe (wipe σ vs) vs = wipe σ vs := by
  have o : ∀ (ws : List Nat), (∀ i ∈ ws, i ∈ vs) → wipe (wipe σ ws) vs = wipe σ vs := fun ws => by
    induction ws with
    | nil => intro _; rfl
    | cons w ws ih =>
      intro h
      show wipe ((wipe σ ws).set w none) vs = _
      rw [wipe_set (h w List.mem_cons_self), ih fun i hi => h i (List.mem_cons_of_mem _ hi)]
  exact o vs fun _ h => h
/-- the heart: the loop of a comprehension, the new list kept apart -/
theorem comp_core {mi : M (List D)} {vs : List Nat} {g : TG} {gD : D → M Unit} {mt : M Bool} {me : M D} (hg : CTg K vs g gD) {σ : St} {H : Hp} {Q : VK}
    {tt : TT} (ht : ∀ σ H Q, tT K WF mt σ H Q → tt σ H Q) {c : Ct} {F : Hp} {ρ : En} (ok : Ok K c σ H F ρ)
    (h : post K W c σ F (fun ds H1 F1 => ∃ ρ1, Ok K c σ H1 F1 ρ1 ∧ fit ds.length = true ∧ ∃ out ρe, mGo vs gD mt me ds (unsE ρ1 vs) = some (.ok out ρe) ∧
      ∀ p acc H2 F2, c.pr p = none → Ok K (c.put p (.lst acc)) σ H2 F2 (unsE ρe vs) → Same F1 F2 → DpAll K F2 acc out → Q (.ref p) H2) (mi ρ)) : tLc (tI K W mi) g tt (tE K WF me) vs σ H Q := by
  refine ⟨c, F, ρ, ok, post_mono ?_ h⟩
  rintro ds H1 F1 _ ⟨ρ1, ok1, hf, out, ρe, hgo, k⟩ J hJ p hp
  have hpr : c.pr p = none := (ok1.new hp).2.2.1
  refine ⟨fun i n H => i + n = ds.length ∧ ∃ acc o1 F2 ρ2 rest, Ok K (c.put p (.lst acc)) (wipe σ vs) H F2 (unsE ρ2 vs) ∧ Same F1 F2 ∧ DpAll K F2 acc o1 ∧ o1.length ≤ i ∧ mGo vs gD mt me (ds.drop i) (unsE ρ2 vs) = some (.ok rest ρe) ∧ out = o1 ++ rest,
    ⟨ds.length, by omega, [], [], F1, ρ1, out, ok_wipe (ok1.allocP hp) vs, Same.refl F1, .nil, Nat.le_refl _, hgo, rfl⟩, ?_⟩
  rintro i n H2 ⟨en, acc, o1, F2, ρ2, rest, ok2, s2, da, hl, hgo2, eo⟩
  by_cases hi : i < ds.length
  · obtain ⟨d, ed⟩ : ∃ d, ds[i]? = some d := ⟨ds[i], List.getElem?_eq_getElem hi⟩
    have edr : ds.drop i = d :: ds.drop (i + 1) := by
      rw [List.drop_eq_getElem_cons hi]
      have := List.getElem?_eq_getElem hi
      rw [ed] at this
      rw [Option.some.inj this]
    rw [edr] at hgo2
    obtain ⟨_, ρa, e1, g1⟩ := bind_ok hgo2
    obtain ⟨b, ρb, e2, g2⟩ := bind_ok g1
    obtain ⟨es, ρc, e3, g3⟩ := bind_ok g2
    obtain ⟨_, ρd, e4, g4⟩ := bind_ok g3
    obtain ⟨rest', ρf, e5, g5⟩ := bind_ok g4
    cases e4
    cases g5
    have hz : acc.length < sizeLine := by
      rw [DpAll.length da]
      have := of_decide_eq_true hf
      rw [sizeLine_eq]; omega
    refine .inr ⟨hJ.go H2 i (s2.trans ok2.sub) hi, fun H' => ∃ acc o1 F2 ρ2 rest, Ok K (c.put p (.lst acc)) (wipe σ vs) H' F2 (unsE ρ2 vs) ∧ Same F1 F2 ∧ DpAll K F2 acc o1 ∧ o1.length ≤ i + 1 ∧ mGo vs gD mt me (ds.drop (i + 1)) (unsE ρ2 vs) = some (.ok rest ρe) ∧ out = o1 ++ rest,
      fun H' w => ⟨n - 1, by omega, by omega, w⟩, fun x H' y => ?_⟩
    obtain ⟨F3, ok3, s3, r3⟩ := yld_ok ok2 (hJ.mono s2 i) ed y
    refine hg.run ok3 r3 e1 fun σ' ok4 hw => ?_
    rw [wipe_wipe] at hw
    refine ⟨hw, ht _ _ _ ⟨_, F3, ρa, ok4, ?_⟩⟩
    rw [e2]
    intro H5 F5 ok5 s5
    cases b with
    | false =>
      rw [if_neg (by decide)] at e3
      cases e3
      refine iteF ?_
      refine ⟨acc, o1, F5, ρb, rest', ?_, (s2.trans s3).trans s5, DpAll.mono (s3.trans s5) da, by omega, e5, by rw [eo]; rfl⟩
      have q := ok_wipe ok5 vs
      rw [hw] at q
      exact q
    | true =>
      rw [if_pos rfl] at e3
      obtain ⟨yd, ρy, e6, e7⟩ := bind_ok e3
      cases e7
      refine iteT ?_
      refine ⟨_, F5, ρb, ok5, ?_⟩
      rw [e6]
      intro H6 F6 ok6 s6 v rv
      refine ⟨acc, (ok6.prt p _ upd_same).1, hz, acc ++ [v], o1 ++ [yd], F6, _, rest', ?_, ((s2.trans s3).trans s5).trans s6, DpAll.append (DpAll.mono ((s3.trans s5).trans s6) da) (.one rv), by rw [List.length_append]; exact Nat.succ_le_succ hl, e5, by rw [eo]; simp⟩
      have q := ok_wipe (ok6.putP (o' := .lst (acc ++ [v]))) vs
      rw [hw] at q
      exact q
  · have ei : ds.drop i = [] := List.drop_eq_nil_of_le (by omega)
    rw [ei] at hgo2
    cases hgo2
    refine .inl ⟨hJ.stop H2 i (s2.trans ok2.sub) (by omega), ?_⟩
    rw [List.append_nil] at eo
    subst eo
    refine k p acc H2 F2 hpr ?_ s2 da
    rw [unsE_self]
    exact ok_unwipe ok2
theorem comp_read {α : Type} {vs : List Nat} {gD : D → M Unit} {mt : M Bool} {me : M D} {ds : List D} {ρ1 : En} {c : Ct} {σ : St} {F : Hp} {G : α → Hp → Hp → Prop} {f : List D → M α}
    (h : post K W c σ F G (mBind (mRest vs gD mt me ds) f ρ1)) :
    fit ds.length = true ∧ ∃ out ρe, mGo vs gD mt me ds (unsE ρ1 vs) = some (.ok out ρe) ∧ post K W c σ F G (f out (unsE ρe vs)) := by
  unfold mBind mRest at h
  cases q : mGo vs gD mt me ds (unsE ρ1 vs) with
  | none => rw [q] at h; exact h.elim
  | some r =>
    rw [q] at h
    cases r with
    | ex x ρ' => exact h.elim
    | ok out ρe =>
      by_cases hf : fit ds.length = true
      · simp only [if_pos hf] at h
        exact ⟨hf, out, ρe, rfl, h⟩
      · simp only [if_neg hf] at h
        exact h.elim
theorem bind_assoc {α β γ : Type} (m : M α) (f : α → M β) (g : β → M γ) (ρ : En) : mBind (mBind m f) g ρ = mBind m (fun a => mBind (f a) g) ρ := by
  unfold mBind
  cases m ρ with
  | none => rfl
  | some r => cases r <;> rfl
def mCompV (vs : List Nat) (mi : M (List D)) (g : D → M Unit) (tt : M Bool) (te : M D) : M D := mBind (mComp vs mi g tt te) fun out => mPure (.list out)
theorem comp_val {mi : M (List D)} {vs : List Nat} {g : TG} {gD : D → M Unit} {mt : M Bool} {me : M D} (hg : CTg K vs g gD) {σ : St} {H : Hp} {Q : VK}
    {tt : TT} (ht : ∀ σ H Q, tT K WF mt σ H Q → tt σ H Q) (h : tE K W (mCompV vs mi gD mt me) σ H Q) : tLc (tI K W mi) g tt (tE K WF me) vs σ H Q := by
  obtain ⟨c, F, ρ, ok, h⟩ := h
  refine comp_core hg ht ok ?_
  unfold mCompV mComp at h
  rw [bind_assoc] at h
  refine post_mono ?_ (post_bind h)
  rintro ds H1 F1 _ ⟨ρ1, ok1, s1, h1⟩
  obtain ⟨hf, out, ρe, hgo, h2⟩ := comp_read h1
  refine ⟨ρ1, ok1, hf, out, ρe, hgo, fun p acc H2 F2 hpr ok2 s2 da => ?_⟩
  obtain ⟨hH, hF, h0⟩ := ok2.prt p _ upd_same
  have s : Same F2 (upd F2 p (.lst acc)) := Same.updN hF
  exact h2 _ _ (ok2.freeP hpr) (s2.trans s) _ (.lst (.inl upd_same) (DpAll.mono s da))
/-- [..] as a value -/
theorem dComp {elt iter : Expr} {ifs : List Expr} {scope : Scope} {own : List (Str × Nat)} {mi : M (List D)} {g : TG} {gD : D → M Unit} {mt : M Bool} {me : M D} {tt : TT} (hc : X.calm = true) (hN : X.N.Nodup) (hi : PI X tg iter (tI X.K W mi)) (ok : BlkOk X.N X.env.scope scope own)
    (hg : ∀ (s : Shared) (H : Hp) (C : Addr) (cl : List (Str × Addr)) (fp : List Addr), PG (X.blk s H scope (compEnvC scope cl C X.env) fp) tg g) (ht : ∀ (s : Shared) (H : Hp) (C : Addr) (cl : List (Str × Addr)) (fp : List Addr), PTs (X.blk s H scope (compEnvC scope cl C X.env) fp) ifs tt)
    (he : ∀ (s : Shared) (H : Hp) (C : Addr) (cl : List (Str × Addr)) (fp : List Addr), PE (X.blk s H scope (compEnvC scope cl C X.env) fp) elt (tE X.K WF me)) (hG : CTg X.K (own.map (·.2)) g gD) (hT : ∀ σ H Q, tT X.K WF mt σ H Q → tt σ H Q)
    (hs : ∀ x, foldedSetIterable iter X.env x = pure x := by exact fun _ => rfl) : PE X (.ListComp elt [⟨tg, iter, ifs, 0⟩] scope pos) (tE X.K W (mCompV (own.map (·.2)) mi gD mt me)) :=
  PE.imp (pe_lc hc hN hi ok hg ht he hs) fun _ _ _ => comp_val hG hT
theorem tYes_of {σ : St} {H : Hp} {Q : Bool → Hp → Prop} (h : tT K WF (mPure true) σ H Q) : tYes σ H Q := by
  obtain ⟨c, F, ρ, ok, h⟩ := h
  exact h H F ok (Same.refl F)
/-- name = [..]: its own -/
def mAsgC (m : M (List D)) (i : Nat) : M Fl := mBind m fun ds => mBind (mStoreO i ds) fun _ => mDone
end
end Dd

namespace Dd
open PySem PySem.Spec L2
/-! ### what a def promises -/
structure Ext (F H F' H' : Hp) : Prop where
  ff : Same F F'
  fh : Same F' H'
  fe : ∀ b o, F' b = some o → F b = some o ∨ H b = none
  hh : Same H H'
structure ExtB (p : Addr) (F H F' H' : Hp) : Prop where
  ff : Same F F'
  fh : Same F' H'
  fe : ∀ b o, F' b = some o → F b = some o ∨ H b = none
  hh : ∀ b o, b ≠ p → H b = some o → H' b = some o
  fp : F' p = none
abbrev Rs (α : Type) := Except Ex α
def spV (K : PySem.W.Frag) (n : Nat) (f : List D → Option (Rs D)) : Sp := fun vs H Q E => ∃ F ds, Same F H ∧ DpAll K F vs ds ∧ ds.length = n ∧ match f ds with
  | none => False
  | some (.ok d) => ∀ v F' H', Ext F H F' H' → Dp K F' v d → Q v H'
  | some (.error e) => ∀ cls x F' H', Ext F H F' H' → ExR K e cls x F' H' → E cls x H'
def spF (K : PySem.W.Frag) (n : Nat) (f : List D → Option (Rs (List D))) : Sp := fun vs H Q E => ∃ F ds, Same F H ∧ DpAll K F vs ds ∧ ds.length = n ∧ match f ds with
  | none => False
  | some (.ok es) => ∀ p xs F' H', Ext F H F' H' → H p = none → F' p = none → H' p = some (.lst xs) → DpAll K F' xs es → Q (.ref p) H'
  | some (.error e) => ∀ cls x F' H', Ext F H F' H' → ExR K e cls x F' H' → E cls x H'
def spB (K : PySem.W.Frag) (n : Nat) (f : List D → List D → Option (Rs D × List D)) : Sp := fun vs H Q E => ∃ F p bs0 bs rest ds, vs = .ref p :: rest ∧ Same F H ∧ F p = none ∧ H p = some (.lst bs0) ∧ DpAll K F bs0 bs ∧ DpAll K F rest ds ∧ ds.length + 1 = n ∧ match f bs ds with
  | none => False
  | some (.ok d, bs') => ∀ v bs1 F' H', ExtB p F H F' H' → H' p = some (.lst bs1) → DpAll K F' bs1 bs' → Dp K F' v d → Q v H'
  | some (.error e, bs') => ∀ cls x bs1 F' H', ExtB p F H F' H' → H' p = some (.lst bs1) → DpAll K F' bs1 bs' → ExR K e cls x F' H' → E cls x H'
def spS (K : PySem.W.Frag) (n : Nat) (f : List Int → List D → Option (Rs (List D))) : Sp := fun vs H Q E => ∃ F a ns rest ds, vs = .ref a :: rest ∧ Same F H ∧ SqL K H a (ns.map V.int) ∧ DpAll K F rest ds ∧ ds.length + 1 = n ∧ match f ns ds with
  | none => False
  | some (.ok es) => ∀ p xs F' H', Ext F H F' H' → H p = none → F' p = none → H' p = some (.lst xs) → DpAll K F' xs es → Q (.ref p) H'
  | some (.error e) => ∀ cls x F' H', Ext F H F' H' → ExR K e cls x F' H' → E cls x H'
/-- the law: a list of ints, True -/
def spL (K : PySem.W.Frag) (f : List Int → Option (Rs D)) : Sp := fun vs H Q E => ∃ a ns, vs = [.ref a] ∧ SqL K H a (ns.map V.int) ∧ f ns = some (.ok (.bool true)) ∧ ∀ H', Q (.bl true) H'
def env0 (n : Nat) (ds : List D) : En := ds.map .val ++ List.replicate (n - ds.length) .un
def runV (m : M Fl) (n : Nat) (ds : List D) : Option (Rs D) := match m (env0 n ds) with
  | some (.ok (.rt d) _) => some (.ok d)
  | some (.ok .nx _) => some (.ok .none)
  | some (.ex e _) => some (.error e)
  | _ => none
def runF (m : M Fl) (n : Nat) (ds : List D) : Option (Rs (List D)) := match m (env0 n ds) with
  | some (.ok (.rf d) _) => some (.ok d)
  | some (.ex e _) => some (.error e)
  | _ => none
def env0B (n : Nat) (bs : List D) (ds : List D) : En := .io bs :: (ds.map .val ++ List.replicate (n - (ds.length + 1)) .un)
def runB (m : M Fl) (n : Nat) (bs : List D) (ds : List D) : Option (Rs D × List D) := match m (env0B n bs ds) with
  | some (.ok (.rt d) (.io bs' :: _)) => some (.ok d, bs')
  | some (.ok .nx (.io bs' :: _)) => some (.ok .none, bs')
  | some (.ex e (.io bs' :: _)) => some (.error e, bs')
  | _ => none
def env0S (n : Nat) (ns : List Int) (ds : List D) : En := .scr ns :: (ds.map .val ++ List.replicate (n - (ds.length + 1)) .un)
def runS (m : M Fl) (n : Nat) (ns : List Int) (ds : List D) : Option (Rs (List D)) := match m (env0S n ns ds) with
  | some (.ok (.rf d) _) => some (.ok d)
  | some (.ex e _) => some (.error e)
  | _ => none
def runL (m : M Fl) (n : Nat) (ns : List Int) : Option (Rs D) := match m (env0S n ns []) with
  | some (.ok (.rt d) _) => some (.ok d)
  | some (.ex e _) => some (.error e)
  | _ => none
section
variable {K : PySem.W.Frag} {F H : Hp}
abbrev noPr : Hp := fun _ => none
theorem start_get {N : List Str} {vs : List V} {i : Nat} {v : V} (h : vs[i]? = some v) : (L2.start N vs)[i]? = some (some v) := by
  unfold L2.start
  have hl : i < vs.length := by
    rcases Nat.lt_or_ge i vs.length with z | z
    · exact z
    · rw [List.getElem?_eq_none z] at h; cases h
  rw [List.getElem?_append_left (by simpa using hl), List.getElem?_map, h]; rfl
theorem start_len {N : List Str} {vs : List V} (h : vs.length ≤ N.length) : (L2.start N vs).length = N.length := by
  unfold L2.start
  rw [List.length_append, List.length_map, List.length_replicate]; omega
theorem env0_get {n : Nat} {ds : List D} {i : Nat} {u : Sl} (h : (env0 n ds)[i]? = some u) : (∃ d, ds[i]? = some d ∧ u = .val d) ∨ u = .un := by
  unfold env0 at h
  rcases Nat.lt_or_ge i ds.length with z | z
  · rw [List.getElem?_append_left (by simpa using z), List.getElem?_map] at h
    obtain ⟨d, e⟩ : ∃ d, ds[i]? = some d := ⟨ds[i], List.getElem?_eq_getElem z⟩
    rw [e] at h
    cases h
    exact .inl ⟨d, e, rfl⟩
  · rw [List.getElem?_append_right (by simpa using z)] at h
    rw [List.getElem?_replicate] at h
    split at h
    · cases h; exact .inr rfl
    · cases h
theorem start_ok {N : List Str} {vs : List V} {ds : List D} (s : Same F H) (r : DpAll K F vs ds) (h : ds.length ≤ N.length) : Ok K ⟨F, H, none, noPr⟩ (L2.start N vs) H F (env0 N.length ds) := by
  have hl := DpAll.length r
  refine ⟨?_, s, Same.refl F, fun b o e => .inl e, fun b o e _ => e, fun p e => (by cases e), fun b o e => (by cases e), fun i d e => ?_, fun i es e => ?_, fun i es e => ?_, fun i es e => ?_, fun i j es fs p e _ _ _ => ?_⟩
  · rw [start_len (by omega)]
    unfold env0
    rw [List.length_append, List.length_map, List.length_replicate]; omega
  · rcases env0_get e with ⟨d', e1, e2⟩ | e2
    · cases e2
      obtain ⟨v, q1, q2⟩ := DpAll.getd r e1
      exact ⟨v, start_get q1, q2⟩
    · cases e2
  all_goals
    rcases env0_get e with ⟨d', e1, e2⟩ | e2 <;> cases e2
theorem env0B_get {n : Nat} {u0 : Sl} {ds : List D} {i : Nat} {u : Sl} (h : (u0 :: (ds.map Sl.val ++ List.replicate (n - (ds.length + 1)) Sl.un))[i]? = some u) : (i = 0 ∧ u = u0) ∨ (∃ j d, i = j + 1 ∧ ds[j]? = some d ∧ u = .val d) ∨ u = .un := by
  cases i with
  | zero =>
    have h' : u0 = u := by simpa using h
    exact .inl ⟨rfl, h'.symm⟩
  | succ j =>
    have h' : (env0 (n - 1) ds)[j]? = some u := by
      unfold env0
      have e : n - 1 - ds.length = n - (ds.length + 1) := by omega
      rw [e]
      simpa using h
    rcases env0_get h' with ⟨d, e1, e2⟩ | e2
    · exact .inr (.inl ⟨j, d, rfl, e1, e2⟩)
    · exact .inr (.inr e2)
theorem startB_ok {N : List Str} {p : Addr} {bs0 rest : List V} {bs ds : List D} (s : Same F H) (hF : F p = none) (hp : H p = some (.lst bs0)) (rb : DpAll K F bs0 bs) (r : DpAll K F rest ds) (h : ds.length + 1 ≤ N.length) :
    Ok K ⟨F, H, some p, noPr⟩ (L2.start N (.ref p :: rest)) H F (env0B N.length bs ds) := by
  have hl := DpAll.length r
  refine ⟨?_, s, Same.refl F, fun b o e => .inl e, fun b o e _ => e, fun q e => ?_, fun b o e => (by cases e), fun i d e => ?_, fun i es e => ?_, fun i es e => ?_, fun i es e => ?_, fun i j es fs q e _ _ _ => ?_⟩
  · rw [start_len (by simp only [List.length_cons]; omega)]
    unfold env0B
    rw [List.length_cons, List.length_append, List.length_map, List.length_replicate]; omega
  · have e' : some p = some q := e
    cases e'
    exact ⟨hF, by show H p ≠ none; rw [hp]; exact Option.some_ne_none _, rfl, bs0, hp⟩
  · rcases env0B_get e with ⟨_, e2⟩ | ⟨j, d', rfl, e1, e2⟩ | e2 <;> cases e2
    obtain ⟨v, q1, q2⟩ := DpAll.getd r e1
    exact ⟨v, start_get (by simpa using q1), q2⟩
  · rcases env0B_get e with ⟨_, e2⟩ | ⟨j, d', rfl, e1, e2⟩ | e2 <;> cases e2
  · rcases env0B_get e with ⟨rfl, e2⟩ | ⟨j, d', rfl, e1, e2⟩ | e2 <;> cases e2
    exact ⟨rfl, p, bs0, rfl, start_get rfl, hp, rb⟩
  · rcases env0B_get e with ⟨_, e2⟩ | ⟨j, d', rfl, e1, e2⟩ | e2 <;> cases e2
  · rcases env0B_get e with ⟨_, e2⟩ | ⟨j, d', rfl, e1, e2⟩ | e2 <;> cases e2
theorem startS_ok {N : List Str} {a : Addr} {ns : List Int} {rest : List V} {ds : List D} (s : Same F H) (hp : SqL K H a (ns.map V.int)) (r : DpAll K F rest ds) (h : ds.length + 1 ≤ N.length) :
    Ok K ⟨F, H, none, noPr⟩ (L2.start N (.ref a :: rest)) H F (env0S N.length ns ds) := by
  have hl := DpAll.length r
  refine ⟨?_, s, Same.refl F, fun b o e => .inl e, fun b o e _ => e, fun q e => (by cases e), fun b o e => (by cases e), fun i d e => ?_, fun i es e => ?_, fun i es e => ?_, fun i es e => ?_, fun i j es fs q e _ _ _ => ?_⟩
  · rw [start_len (by simp only [List.length_cons]; omega)]
    unfold env0S
    rw [List.length_cons, List.length_append, List.length_map, List.length_replicate]; omega
  · rcases env0B_get e with ⟨_, e2⟩ | ⟨j, d', rfl, e1, e2⟩ | e2 <;> cases e2
    obtain ⟨v, q1, q2⟩ := DpAll.getd r e1
    exact ⟨v, start_get (by simpa using q1), q2⟩
  · rcases env0B_get e with ⟨_, e2⟩ | ⟨j, d', rfl, e1, e2⟩ | e2 <;> cases e2
  · rcases env0B_get e with ⟨_, e2⟩ | ⟨j, d', rfl, e1, e2⟩ | e2 <;> cases e2
  · rcases env0B_get e with ⟨rfl, e2⟩ | ⟨j, d', rfl, e1, e2⟩ | e2 <;> cases e2
    exact ⟨rfl, a, start_get rfl, hp⟩
  · rcases env0B_get e with ⟨_, e2⟩ | ⟨j, d', rfl, e1, e2⟩ | e2 <;> cases e2
theorem Ok.ext {σ : St} {F' H' : Hp} {ρ : En} {pr : Hp} (ok : Ok K ⟨F, H, none, pr⟩ σ H' F' ρ) : Ext F H F' H' := ⟨ok.ge, ok.sub, ok.fe, fun b o e => ok.keep b o e (by simp)⟩
theorem Ok.extB {σ : St} {F' H' : Hp} {ρ : En} {pr : Hp} {p : Addr} (ok : Ok K ⟨F, H, some p, pr⟩ σ H' F' ρ) : ExtB p F H F' H' :=
  ⟨ok.ge, ok.sub, ok.fe, fun b o n e => ok.keep b o e (by intro z; cases z; exact n rfl), (ok.iod p rfl).1⟩
/-! ### behind a call -/
theorem Ok.call {c : Ct} {σ : St} {F' H' : Hp} {ρ : En} (ok : Ok K c σ H F ρ) (x : Ext F H F' H') : Ok K c σ H' F' ρ := by
  have nf : ∀ {b o}, H b = some o → F b = none → F' b = none := fun {b o} h n => by
    cases q : F' b with
    | none => rfl
    | some u =>
      rcases x.fe b u q with z | z
      · rw [n] at z; cases z
      · rw [h] at z; cases z
  refine ⟨ok.len, x.fh, ok.ge.trans x.ff, fun b o e => ?_, fun b o e n => x.hh _ _ (ok.keep b o e n), fun p e => ?_, fun b o e => ?_, fun i d e => ?_, fun i ds e => ?_, fun i ds e => ?_, ok.scr, ok.sep⟩
  · rcases x.fe b o e with z | z
    · exact ok.fe b o z
    · exact .inr (ok.new z).2.1
  · obtain ⟨a1, a2, a3, xs, a4⟩ := ok.iod p e
    exact ⟨nf a4 a1, a2, a3, xs, x.hh _ _ a4⟩
  · obtain ⟨a1, a2, a3⟩ := ok.prt b o e
    exact ⟨x.hh _ _ a1, nf a1 a2, a3⟩
  · obtain ⟨v, a1, a2⟩ := ok.val i d e
    exact ⟨v, a1, Dp.mono x.ff a2⟩
  · obtain ⟨p, vs, a1, a2, a3, a4, a5, a6⟩ := ok.own i ds e
    exact ⟨p, vs, a1, x.hh _ _ a2, DpAll.mono x.ff a3, nf a2 a4, a5, a6⟩
  · obtain ⟨z, p, vs, a0, a1, a2, a3⟩ := ok.ios i ds e
    exact ⟨z, p, vs, a0, a1, x.hh _ _ a2, DpAll.mono x.ff a3⟩
/-- the list at p, a slot's own or the caller's, was changed by a call -/
theorem Ok.callB {c : Ct} {σ : St} {F' H' : Hp} {ρ : En} {i : Nat} {p : Addr} {bs0 bs1 : List V} {bs bs' : List D} (ok : Ok K c σ H F ρ) (hi : ρ[i]? = some (.own bs) ∨ ρ[i]? = some (.io bs)) (hp : σ[i]? = some (some (.ref p))) (x : ExtB p F H F' H') (hb : H' p = some (.lst bs1)) (rb : DpAll K F' bs1 bs') :
    ∃ ρ', mPut i bs' ρ = some (.ok () ρ') ∧ Ok K c σ H' F' ρ' := by
  -- the heap with p as it was ahead of the call
  have nf : ∀ {b o}, H b = some o → F b = none → F' b = none := fun {b o} h n => by
    cases q : F' b with
    | none => rfl
    | some u =>
      rcases x.fe b u q with z | z
      · rw [n] at z; cases z
      · rw [h] at z; cases z
  have hpH : ∃ vs, H p = some (.lst vs) ∧ DpAll K F vs bs := by
    rcases hi with hi | hi
    · obtain ⟨q, vs, a1, a2, a3, _⟩ := ok.own i bs hi
      rw [hp] at a1; cases a1; exact ⟨vs, a2, a3⟩
    · obtain ⟨_, q, vs, _, a1, a2, a3⟩ := ok.ios i bs hi
      rw [hp] at a1; cases a1; exact ⟨vs, a2, a3⟩
  obtain ⟨vs0, hpH, r0⟩ := hpH
  have x0 : Ext F H F' (upd H' p (.lst vs0)) := ⟨x.ff, fun b o e => by rw [upd_ne (ne_of_none e x.fp)]; exact x.fh b o e, x.fe, fun b o e => by
    by_cases hb' : b = p
    · subst hb'; rw [upd_same]; rw [hpH] at e; exact e
    · rw [upd_ne hb']; exact x.hh b o hb' e⟩
  have ok1 := ok.call x0
  have back : upd (upd H' p (.lst vs0)) p (.lst bs1) = H' := by
    rw [upd_upd]
    funext b
    unfold upd
    split
    · rename_i h; rw [h, hb]
    · rfl
  rcases hi with hi | hi
  · have q := ok1.change hi p hp rb
    rw [back] at q
    exact ⟨_, by unfold mPut; rw [hi], q⟩
  · have q := ok1.changeI hi p hp rb
    rw [back] at q
    exact ⟨_, by unfold mPut; rw [hi], q⟩
end
/-! ### calls of defs -/
section
variable {X : Cx} {W : WX} {K : PySem.W.Frag} {ms : M (List D)} {n : Nat} {σ : St} {H : Hp}
def mRs (o : Option (Rs D)) : M D := fun ρ => match o with
  | none => none
  | some (.ok d) => some (.ok d ρ)
  | some (.error e) => some (.ex e ρ)
def mCallV (n : Nat) (f : List D → Option (Rs D)) (ms : M (List D)) : M D := mBind ms fun ds => if ds.length = n then mRs (f ds) else mStuck
theorem callV_of {f : List D → Option (Rs D)} {Q : VK} (h : tE K W (mCallV n f ms) σ H Q) : tCallS (spV K n f) (WE W) (tA K W ms) σ H Q := by
  obtain ⟨c, F, ρ, ok, h⟩ := h
  refine ⟨c, F, ρ, ok, post_mono ?_ (post_bind h)⟩
  rintro ds H1 F1 _ ⟨ρ1, ok1, s1, h1⟩ vs rv
  split at h1
  · rename_i hl
    refine ⟨F1, ds, ok1.sub, rv, hl, ?_⟩
    unfold mRs at h1
    cases e : f ds with
    | none => rw [e] at h1; exact h1
    | some r =>
      rw [e] at h1
      cases r with
      | ok d => exact fun v F' H' x r => h1 H' F' (ok1.call x) x.ff v r
      | error e => exact fun cls y F' H' x r => h1 cls y H' F' (ok1.call x) x.ff r
  · exact h1.elim
/-- a call that changes a slot's own list -/
def mCallB (i n : Nat) (f : List D → List D → Option (Rs D × List D)) (ms : M (List D)) : M D := mBind (mOwn i) fun _ => mBind ms fun ds => mBind (mOwn i) fun bs => if ds.length + 1 = n then (match f bs ds with
  | none => mStuck
  | some (r, bs') => mBind (mPut i bs') fun _ => mRs (some r)) else mStuck
theorem own_is {α : Type} {ρ : En} {i : Nat} {r : R (List D)} (h : mOwn i ρ = some r) : ∃ ds, r = .ok ds ρ ∧ (ρ[i]? = some (.own ds) ∨ ρ[i]? = some (.io ds)) := by
  unfold mOwn at h
  split at h
  · rename_i ds e; cases h; exact ⟨ds, rfl, .inl e⟩
  · rename_i ds e; cases h; exact ⟨ds, rfl, .inr e⟩
  · cases h
theorem callB_of {i : Nat} {f : List D → List D → Option (Rs D × List D)} {Q : VK} (h : tE K W (mCallB i n f ms) σ H Q) : tCallS (spB K n f) (WE W) (tCons (tVar i) (tA K W ms)) σ H Q := by
  obtain ⟨c, F, ρ, ok, h⟩ := h
  obtain ⟨p, vs, ds0, a1, a2, a3, a4, h⟩ := own_at ok h
  refine ⟨.ref p, a1, c, F, ρ, ok, post_mono ?_ (post_bind h)⟩
  rintro ds H1 F1 _ ⟨ρ1, ok1, s1, h1⟩ ws rw'
  have hw : ∃ bs, (ρ1[i]? = some (.own bs) ∨ ρ1[i]? = some (.io bs)) ∧ post K W c σ F1 (qE K Q) ((if ds.length + 1 = n then (match f bs ds with
      | none => mStuck
      | some (r, bs') => mBind (mPut i bs') fun _ => mRs (some r)) else mStuck) ρ1) := by
    unfold mBind at h1
    cases e : mOwn i ρ1 with
    | none => rw [e] at h1; exact h1.elim
    | some r =>
      obtain ⟨bs, rfl, e2⟩ := own_is (α := D) e
      rw [e] at h1
      exact ⟨bs, e2, h1⟩
  obtain ⟨bs, hi, h2⟩ := hw
  obtain ⟨p', vs1, b1, b2, b3, b4⟩ : ∃ p vs, σ[i]? = some (some (.ref p)) ∧ H1 p = some (.lst vs) ∧ DpAll K F1 vs bs ∧ F1 p = none := by
    rcases hi with hi | hi
    · obtain ⟨q, vs, c1, c2, c3, c4, _⟩ := ok1.own i bs hi
      exact ⟨q, vs, c1, c2, c3, c4⟩
    · obtain ⟨_, q, vs, c0, c1, c2, c3⟩ := ok1.ios i bs hi
      exact ⟨q, vs, c1, c2, c3, (ok1.iod q c0).1⟩
  have ep : p' = p := by rw [a1] at b1; cases b1; rfl
  subst ep
  split at h2
  · rename_i hl
    refine ⟨F1, p', vs1, bs, ws, ds, rfl, ok1.sub, b4, b2, b3, rw', hl, ?_⟩
    cases e : f bs ds with
    | none => rw [e] at h2; exact h2
    | some q =>
      rw [e] at h2
      obtain ⟨r, bs'⟩ := q
      cases r with
      | ok d =>
        intro v bs1 F' H' x hb rb rv
        obtain ⟨ρ2, e2, ok2⟩ := ok1.callB (bs0 := vs1) hi b1 x hb rb
        have h3 := post_bind h2
        rw [e2] at h3
        obtain ⟨ρ3, ok3, s3, h4⟩ := h3 H' F' ok2 x.ff
        exact h4 H' F' ok3 (Same.refl F') v rv
      | error ex =>
        intro cls y bs1 F' H' x hb rb rv
        obtain ⟨ρ2, e2, ok2⟩ := ok1.callB (bs0 := vs1) hi b1 x hb rb
        have h3 := post_bind h2
        rw [e2] at h3
        obtain ⟨ρ3, ok3, s3, h4⟩ := h3 H' F' ok2 x.ff
        exact h4 cls y H' F' ok3 (Same.refl F') rv
  · exact h2.elim
/-- name = f(..), f hands back a new list: its own -/
def mAsgF (i n : Nat) (f : List D → Option (Rs (List D))) (ms : M (List D)) : M Fl := mBind ms fun ds => if ds.length = n then (match f ds with
  | none => mStuck
  | some (.ok es) => mBind (mStoreO i es) fun _ => mDone
  | some (.error e) => fun ρ => some (.ex e ρ)) else mStuck
theorem ok_fresh {c : Ct} {F F' H' : Hp} {ρ : En} {p : Addr} {xs : List V} {es : List D} {i : Nat} (ok : Ok K c σ H F ρ) (x : Ext F H F' H') (hp : H p = none) (hf : F' p = none) (hl : H' p = some (.lst xs)) (r : DpAll K F' xs es) (hi : i < ρ.length) :
    Ok K c (σ.set i (some (.ref p))) H' F' (ρ.set i (.own es)) := by
  have ok1 := ok.call x
  obtain ⟨b1, b2, b3, b4, b5⟩ := ok.new hp
  refine ok1.set hi (fun d' e => by cases e) (fun fs e => ?_) (fun _ e => by cases e) (fun _ e => by cases e)
  cases e
  refine ⟨p, xs, rfl, hl, r, hf, b2, b3, fun j fs a b => ?_⟩
  obtain ⟨q, vs, a1, a2, _⟩ := ok.own j fs a
  rw [b] at a1
  have z : p = q := by cases a1; rfl
  subst z
  rw [hp] at a2; cases a2
theorem asgF_of {i : Nat} {f : List D → Option (Rs (List D))} {Dn : Ends} (h : tS K W (mAsgF i n f ms) Dn σ H) : tAsg (tCallS (spF K n f) (WE W) (tA K W ms)) (gName i) Dn σ H := by
  obtain ⟨c, F, ρ, ok, h⟩ := h
  refine ⟨c, F, ρ, ok, post_mono ?_ (postS_bind h)⟩
  rintro ds H1 F1 _ ⟨ρ1, ok1, s1, h1⟩ vs rv
  split at h1
  · rename_i hl
    refine ⟨F1, ds, ok1.sub, rv, hl, ?_⟩
    cases e : f ds with
    | none => rw [e] at h1; exact h1
    | some r =>
      rw [e] at h1
      cases r with
      | error e => exact fun cls y F' H' x r => h1 σ cls y H' F' (ok1.call x) x.ff r
      | ok es =>
        intro p xs F' H' x hp hf hl' rx
        have h2 := postS_bindG h1
        unfold mStoreO at h2
        split at h2
        · rename_i hi
          obtain ⟨F3, ρ3, ok3, s3, h6⟩ := h2 _ H' F' (ok_fresh ok1 x hp hf hl' rx hi) x.ff
          exact h6 _ _ _ ok3 (Same.refl F3)
        · exact h2.elim
  · exact h1.elim
/-- name = _law_box(script, ..) -/
def mScr (j : Nat) : M (List Int) := fun ρ => match ρ[j]? with
  | some (.scr ns) => some (.ok ns ρ)
  | _ => none
def mAsgS (i j n : Nat) (f : List Int → List D → Option (Rs (List D))) (ms : M (List D)) : M Fl := mBind (mScr j) fun ns => mBind ms fun ds => if ds.length + 1 = n then (match f ns ds with
  | none => mStuck
  | some (.ok es) => mBind (mStoreO i es) fun _ => mDone
  | some (.error e) => fun ρ => some (.ex e ρ)) else mStuck
theorem Ok.scrH {c : Ct} {F : Hp} {ρ : En} {j : Nat} {ns : List Int} (ok : Ok K c σ H F ρ) (e : ρ[j]? = some (.scr ns)) : c.io = none ∧ ∃ a, σ[j]? = some (some (.ref a)) ∧ SqL K c.H0 a (ns.map V.int) ∧ SqL K H a (ns.map V.int) := by
  obtain ⟨a0, a, a1, a2⟩ := ok.scr j ns e
  exact ⟨a0, a, a1, a2, SqL.mono (fun b o q => ok.keep b o q (by rw [a0]; simp)) a2⟩
theorem asgS_of {i j : Nat} {f : List Int → List D → Option (Rs (List D))} {Dn : Ends} (h : tS K W (mAsgS i j n f ms) Dn σ H) : tAsg (tCallS (spS K n f) (WE W) (tCons (tVar j) (tA K W ms))) (gName i) Dn σ H := by
  obtain ⟨c, F, ρ, ok, h⟩ := h
  have hj : ∃ ns, ρ[j]? = some (.scr ns) ∧ postS K W c F Dn (mBind ms (fun ds => if ds.length + 1 = n then (match f ns ds with
      | none => mStuck
      | some (.ok es) => mBind (mStoreO i es) fun _ => mDone
      | some (.error e) => fun ρ => some (.ex e ρ)) else mStuck) ρ) := by
    unfold mAsgS mBind mScr at h
    cases e : ρ[j]? with
    | none => rw [e] at h; exact h.elim
    | some u =>
      rw [e] at h
      cases u with
      | scr ns => exact ⟨ns, rfl, h⟩
      | un => exact h.elim
      | val _ => exact h.elim
      | own _ => exact h.elim
      | io _ => exact h.elim
  obtain ⟨ns, ej, h⟩ := hj
  obtain ⟨a0, a, a1, a2, a3⟩ := ok.scrH ej
  refine ⟨.ref a, a1, c, F, ρ, ok, post_mono ?_ (postS_bind h)⟩
  rintro ds H1 F1 _ ⟨ρ1, ok1, s1, h1⟩ vs rv
  have a4 : SqL K H1 a (ns.map V.int) := SqL.mono (fun b o q => ok1.keep b o q (by rw [a0]; simp)) a2
  split at h1
  · rename_i hl
    refine ⟨F1, a, ns, vs, ds, rfl, ok1.sub, a4, rv, hl, ?_⟩
    cases e : f ns ds with
    | none => rw [e] at h1; exact h1
    | some r =>
      rw [e] at h1
      cases r with
      | error e => exact fun cls y F' H' x r => h1 σ cls y H' F' (ok1.call x) x.ff r
      | ok es =>
        intro p xs F' H' x hp hf hl' rx
        have h2 := postS_bindG h1
        unfold mStoreO at h2
        split at h2
        · rename_i hi
          obtain ⟨F3, ρ3, ok3, s3, h6⟩ := h2 _ H' F' (ok_fresh ok1 x hp hf hl' rx hi) x.ff
          exact h6 _ _ _ ok3 (Same.refl F3)
        · exact h2.elim
  · exact h1.elim
/-- len(script), script[..] -/
def mScrLen (j : Nat) : M D := mBind (mScr j) fun ns => mPure (.int (ns.length : Nat))
def mScrIx (j : Nat) (m : M D) : M D := mBind (mScr j) fun ns => mBind m fun d => mLift (match d with
  | .int i => (atI ns i).map PyData.int
  | _ => none)
theorem scr_at {α : Type} {c : Ct} {F : Hp} {ρ : En} {j : Nat} {G : α → Hp → Hp → Prop} {f : List Int → M α} (h : post K W c σ F G (mBind (mScr j) f ρ)) : ∃ ns, ρ[j]? = some (.scr ns) ∧ post K W c σ F G (f ns ρ) := by
  unfold mBind mScr at h
  cases e : ρ[j]? with
  | none => rw [e] at h; exact h.elim
  | some u =>
    rw [e] at h
    cases u with
    | scr ns => exact ⟨ns, rfl, h⟩
    | un => exact h.elim
    | val _ => exact h.elim
    | own _ => exact h.elim
    | io _ => exact h.elim
variable {pos p : Pos} {a : Expr} {m : M D}
theorem dScrLen {j : Nat} (hm : X.mg "len" = none) (ha : PE X a (tVar j)) (hg : Gl X "len" := by rfl) (hs : starEach (a :: []) X.env = (false, eval a X.env) :: starEach [] X.env := by rfl) (hpl : (backTo pos (starEach [] X.env)).any (·.1) = false := by rfl) : PE X (.Call (.Name "len" p) [a] [] pos) (tE X.K W (mScrLen j)) :=
  PE.imp (pe_callB call_len_seq hg hm PySem.boot_len (pa_cons ha pa_nil hs) (by decide) (by decide) hs hpl) (by
  rintro σ H Q ⟨c, F, ρ, ok, h⟩
  obtain ⟨ns, ej, h⟩ := scr_at h
  obtain ⟨a0, a, a1, a2, a3⟩ := ok.scrH ej
  refine ⟨.ref a, a1, a, _, rfl, .inl a3, ?_⟩
  rw [List.length_map]
  exact h H F ok (Same.refl F) _ (.int _))
theorem dScrIx {j : Nat} {b : Expr} (ha : PE X a (tVar j)) (hb : PE X b (tE X.K W m)) (hs : PlainIx b := by exact fun _ _ => rfl) : PE X (.Subscript a b pos) (tE X.K W (mScrIx j m)) := PE.imp (pe_ix ix_list ha hb hs) (by
  rintro σ H Q ⟨c, F, ρ, ok, h⟩
  obtain ⟨ns, ej, h⟩ := scr_at h
  obtain ⟨a0, a, a1, a2, a3⟩ := ok.scrH ej
  refine ⟨.ref a, a1, c, F, ρ, ok, post_mono ?_ (post_bind h)⟩
  rintro d H1 F1 _ ⟨ρ1, ok1, s1, h1⟩ v rv
  obtain ⟨d', e, h2⟩ := post_lift h1
  split at e
  · rename_i i
    cases rv
    cases q : atI ns i with
    | none => rw [q] at e; cases e
    | some z =>
      rw [q] at e
      cases e
      refine ⟨a, _, i, .int z, rfl, rfl, SqL.mono (fun b o q => ok1.keep b o q (by rw [a0]; simp)) a2, ?_, h2 H1 F1 ok1 (Same.refl F1) _ (.int z)⟩
      unfold atI at q ⊢
      rw [List.length_map]
      cases q2 : ixN ns.length i with
      | none => rw [q2] at q; cases q
      | some k =>
        rw [q2] at q
        show (ns.map V.int)[k]? = _
        rw [List.getElem?_map, show ns[k]? = some z from q]; rfl
  · cases e)
end
/-! ### a def by its body -/
section
variable {P : Program} {w : World} {K : PySem.W.Frag} {mg : Str → Option Value} {base : Heap} {x qual : Str} {st : Stmt} {f : Addr} {fd : FuncData} {N ps : List Str} {k : Nat} {m : M Fl}
abbrev Body (P : Program) (w : World) (K : PySem.W.Frag) (mg : Str → Option Value) (base : Heap) (qual : Str) (st : Stmt) (f : Addr) (N : List Str) (k : Nat) (m : M Fl) : Prop :=
  ∀ (cdv : Value) (A : Around) (outer : List Env) (s : Shared) (H : Hp) (E : XK), Room k (A.deeper (PyProof.Rows.envOfC qual (defScope st) s.heap.objs.size f cdv)) →
    PSs (cxOf (L2.CX P w) P w K mg base N qual (defScope st) f cdv A outer s H E) (defBody st) (tS K (fun cls d _ H => E cls d H) m)
theorem FnScope.le {sc : Scope} (S : FnScope N ps sc) : ps.length ≤ N.length := by
  have := congrArg List.length S.pre
  rw [List.length_take] at this
  omega
theorem okV (Fn : Fun K x qual st f fd) (S : FnScope N ps (defScope st)) (hb : Body P w K mg base qual st f N k m) : FnOk P w K mg base (L2.CX P w) (k + 1) f fd ps (spV K ps.length (runV m N.length)) := by
  refine Fn.okX S (fun vs H Q E h => ?_) (fun cdv A outer s H vs Q E hr h => ⟨_, hb cdv A outer s H E hr, ?_⟩)
  · obtain ⟨F, ds, _, r, hl, _⟩ := h
    rw [DpAll.length r]; exact hl
  · obtain ⟨F, ds, s', r, hl, h⟩ := h
    refine ⟨_, F, _, start_ok s' r (by rw [hl]; exact FnScope.le S), ?_⟩
    unfold runV at h
    cases e : m (env0 N.length ds) with
    | none => rw [e] at h; exact h
    | some q =>
      rw [e] at h
      cases q with
      | ex y ρ' => exact fun σ' cls z H' F' ok _ r' => h cls z F' H' ok.ext r'
      | ok fl ρ' =>
        cases fl with
        | nx => exact fun σ' H' F' ok _ => h .non F' H' ok.ext .non
        | rt d => exact fun σ' v H' F' ok _ r' => h v F' H' ok.ext r'
        | bk => exact h.elim
        | ct => exact h.elim
        | rf _ => exact h.elim
theorem okF (Fn : Fun K x qual st f fd) (S : FnScope N ps (defScope st)) (hb : Body P w K mg base qual st f N k m) : FnOk P w K mg base (L2.CX P w) (k + 1) f fd ps (spF K ps.length (runF m N.length)) := by
  refine Fn.okX S (fun vs H Q E h => ?_) (fun cdv A outer s H vs Q E hr h => ⟨_, hb cdv A outer s H E hr, ?_⟩)
  · obtain ⟨F, ds, _, r, hl, _⟩ := h
    rw [DpAll.length r]; exact hl
  · obtain ⟨F, ds, s', r, hl, h⟩ := h
    refine ⟨_, F, _, start_ok s' r (by rw [hl]; exact FnScope.le S), ?_⟩
    unfold runF at h
    cases e : m (env0 N.length ds) with
    | none => rw [e] at h; exact h
    | some q =>
      rw [e] at h
      cases q with
      | ex y ρ' => exact fun σ' cls z H' F' ok _ r' => h cls z F' H' ok.ext r'
      | ok fl ρ' =>
        cases fl with
        | nx => exact h.elim
        | rt d => exact h.elim
        | bk => exact h.elim
        | ct => exact h.elim
        | rf es => exact fun σ' p xs H' F' ok _ hp r' hf h0 => h p xs F' H' ok.ext h0 hf hp r'
theorem okB (Fn : Fun K x qual st f fd) (S : FnScope N ps (defScope st)) (hb : Body P w K mg base qual st f N k m) : FnOk P w K mg base (L2.CX P w) (k + 1) f fd ps (spB K ps.length (runB m N.length)) := by
  refine Fn.okX S (fun vs H Q E h => ?_) (fun cdv A outer s H vs Q E hr h => ⟨_, hb cdv A outer s H E hr, ?_⟩)
  · obtain ⟨F, p, bs0, bs, rest, ds, rfl, _, _, _, _, r, hl, _⟩ := h
    rw [List.length_cons, DpAll.length r]; exact hl
  · obtain ⟨F, p, bs0, bs, rest, ds, rfl, s', hF, hp, rb, r, hl, h⟩ := h
    refine ⟨_, F, _, startB_ok s' hF hp rb r (by rw [hl]; exact FnScope.le S), ?_⟩
    have fin : ∀ {σ' H' F' ρ' bs'}, Ok K ⟨F, H, some p, noPr⟩ σ' H' F' (.io bs' :: ρ') → ∃ bs1, H' p = some (.lst bs1) ∧ DpAll K F' bs1 bs' := fun {σ' H' F' ρ' bs'} ok => by
      obtain ⟨_, q, vs, c0, c1, c2, c3⟩ := ok.ios 0 bs' rfl
      have e : some p = some q := c0
      cases e
      exact ⟨vs, c2, c3⟩
    unfold runB at h
    cases e : m (env0B N.length bs ds) with
    | none => rw [e] at h; exact h
    | some q =>
      rw [e] at h
      cases q with
      | ex y ρ' =>
        intro σ' cls z H' F' ok _ r'
        cases ρ' with
        | nil => exact h.elim
        | cons u ρ' =>
          cases u with
          | io bs' =>
            obtain ⟨bs1, b1, b2⟩ := fin ok
            exact h cls z bs1 F' H' ok.extB b1 b2 r'
          | un => exact h.elim
          | val _ => exact h.elim
          | own _ => exact h.elim
          | scr _ => exact h.elim
      | ok fl ρ' =>
        cases fl with
        | nx =>
          intro σ' H' F' ok _
          cases ρ' with
          | nil => exact h.elim
          | cons u ρ' =>
            cases u with
            | io bs' =>
              obtain ⟨bs1, b1, b2⟩ := fin ok
              exact h .non bs1 F' H' ok.extB b1 b2 .non
            | un => exact h.elim
            | val _ => exact h.elim
            | own _ => exact h.elim
            | scr _ => exact h.elim
        | rt d =>
          intro σ' v H' F' ok _ r'
          cases ρ' with
          | nil => exact h.elim
          | cons u ρ' =>
            cases u with
            | io bs' =>
              obtain ⟨bs1, b1, b2⟩ := fin ok
              exact h v bs1 F' H' ok.extB b1 b2 r'
            | un => exact h.elim
            | val _ => exact h.elim
            | own _ => exact h.elim
            | scr _ => exact h.elim
        | bk => exact h.elim
        | ct => exact h.elim
        | rf _ => exact h.elim
theorem okS (Fn : Fun K x qual st f fd) (S : FnScope N ps (defScope st)) (hb : Body P w K mg base qual st f N k m) : FnOk P w K mg base (L2.CX P w) (k + 1) f fd ps (spS K ps.length (runS m N.length)) := by
  refine Fn.okX S (fun vs H Q E h => ?_) (fun cdv A outer s H vs Q E hr h => ⟨_, hb cdv A outer s H E hr, ?_⟩)
  · obtain ⟨F, a, ns, rest, ds, rfl, _, _, r, hl, _⟩ := h
    rw [List.length_cons, DpAll.length r]; exact hl
  · obtain ⟨F, a, ns, rest, ds, rfl, s', hp, r, hl, h⟩ := h
    refine ⟨_, F, _, startS_ok s' hp r (by rw [hl]; exact FnScope.le S), ?_⟩
    unfold runS at h
    cases e : m (env0S N.length ns ds) with
    | none => rw [e] at h; exact h
    | some q =>
      rw [e] at h
      cases q with
      | ex y ρ' => exact fun σ' cls z H' F' ok _ r' => h cls z F' H' ok.ext r'
      | ok fl ρ' =>
        cases fl with
        | nx => exact h.elim
        | rt d => exact h.elim
        | bk => exact h.elim
        | ct => exact h.elim
        | rf es => exact fun σ' p xs H' F' ok _ hp r' hf h0 => h p xs F' H' ok.ext h0 hf hp r'
theorem okL (Fn : Fun K x qual st f fd) (hps : ps.length = 1) (S : FnScope N ps (defScope st)) (hb : Body P w K mg base qual st f N k m) : FnOk P w K mg base (L2.CX P w) (k + 1) f fd ps (spL K (runL m N.length)) := by
  refine Fn.okX S (fun vs H Q E h => ?_) (fun cdv A outer s H vs Q E hr h => ⟨_, hb cdv A outer s H E hr, ?_⟩)
  · obtain ⟨a, ns, rfl, _⟩ := h
    rw [hps]; rfl
  · obtain ⟨a, ns, rfl, hp, h, hQ⟩ := h
    refine ⟨_, fun _ => none, _, startS_ok (F := fun _ => none) (ds := []) (fun b o e => by cases e) hp .nil (by have := FnScope.le S; rw [hps] at this; exact this), ?_⟩
    unfold runL at h
    cases e : m (env0S N.length ns []) with
    | none => rw [e] at h; cases h
    | some q =>
      rw [e] at h
      cases q with
      | ex y ρ' => cases h
      | ok fl ρ' =>
        cases fl with
        | nx => cases h
        | rt d =>
          cases h
          intro σ' v H' F' ok _ r'
          cases r'
          exact hQ H'
        | bk => cases h
        | ct => cases h
        | rf es => cases h
end
end Dd

namespace Dd
open PySem PySem.Spec L2
section
variable {X : Cx} {W : WX} {K : PySem.W.Frag}
/-! ### built-ins -/
def rOr (r r' : List V → Hp → VK → Prop) : List V → Hp → VK → Prop := fun xs H Q => r xs H Q ∨ r' xs H Q
def cOr (g g' : List D → Option D) : List D → Option D := fun ds => match g ds with
  | some d => some d
  | none => g' ds
theorem callD_or {r r' : List V → Hp → VK → Prop} {g g' : List D → Option D} (h : CallD K r g) (h' : CallD K r' g') : CallD K (rOr r r') (cOr g g') := by
  intro W c σ H F ρ xs ds d Q ok rx e q
  unfold cOr at e
  split at e
  · rename_i d' e'
    cases e
    exact .inl (h ok rx e' q)
  · exact .inr (h' ok rx e q)
theorem pk1 {H F : Hp} {xs : List V} {d : D} (h : PkAll K H F xs [d]) : ∃ x, xs = [x] ∧ Pk K H F x d := by
  cases h with
  | cons r t => cases t; exact ⟨_, rfl, r⟩
theorem pk2 {H F : Hp} {xs : List V} {d e : D} (h : PkAll K H F xs [d, e]) : ∃ x y, xs = [x, y] ∧ Pk K H F x d ∧ Pk K H F y e := by
  cases h with
  | cons r t =>
    obtain ⟨y, rfl, r'⟩ := pk1 t
    exact ⟨_, y, rfl, r, r'⟩
def lenD : List D → Option D
  | [.list ds] => some (.int (ds.length : Nat))
  | [.tuple ds] => some (.int (ds.length : Nat))
  | [.str z] => if fit z.length = true then some (.int (z.length : Nat)) else none
  | _ => none
def rLen (K : PySem.W.Frag) : List V → Hp → VK → Prop := rOr (fun xs H Q => ∃ p ys, xs = [.ref p] ∧ (SqL K H p ys ∨ SqT K H p ys) ∧ Q (.int ys.length) H) (fun xs H Q => ∃ z, xs = [.str z] ∧ z.length ≤ sizeLine ∧ Q (.int z.length) H)
theorem cr_len : CallR X (.builtin "len") (rLen X.K) := CallR.or call_len_seq call_len_str
theorem cd_len : CallD K (rLen K) lenD := by
  intro W c σ H F ρ xs ds d Q ok rx e q
  unfold lenD at e
  split at e
  · cases e
    obtain ⟨x, rfl, r⟩ := pk1 rx
    obtain ⟨p, vs, rfl, hp, dp⟩ := Pk.lst ok.sub r
    exact .inl ⟨p, vs, rfl, .inl hp, by rw [DpAll.length dp]; exact post_ok q ok _ (.int _)⟩
  · cases e
    obtain ⟨x, rfl, r⟩ := pk1 rx
    obtain ⟨p, vs, rfl, hp, dp⟩ := Pk.tup ok.sub r
    exact .inl ⟨p, vs, rfl, .inr hp, by rw [DpAll.length dp]; exact post_ok q ok _ (.int _)⟩
  · split at e
    · rename_i hf
      cases e
      obtain ⟨x, rfl, r⟩ := pk1 rx
      cases r.str
      exact .inr ⟨_, rfl, fit_le hf, post_ok q ok _ (.int _)⟩
    · cases e
  · cases e
def intD : List D → Option D
  | [.int i] => some (.int i)
  | [.bool k] => some (.int (if k then 1 else 0))
  | _ => none
theorem cd_int : CallD K (fun xs H Q => (∃ i, xs = [.int i] ∧ Q (.int i) H) ∨ ∃ k, xs = [.bl k] ∧ Q (.int (if k then 1 else 0)) H) intD := by
  intro W c σ H F ρ xs ds d Q ok rx e q
  unfold intD at e
  split at e
  · cases e
    obtain ⟨x, rfl, r⟩ := pk1 rx
    cases r.int
    exact .inl ⟨_, rfl, post_ok q ok _ (.int _)⟩
  · cases e
    obtain ⟨x, rfl, r⟩ := pk1 rx
    cases r.bool
    exact .inr ⟨_, rfl, post_ok q ok _ (.int _)⟩
  · cases e
def max2D : List D → Option D
  | [.int i, .int j] => some (.int (if j > i then j else i))
  | _ => none
def min2D : List D → Option D
  | [.int i, .int j] => some (.int (if j < i then j else i))
  | _ => none
theorem cd_max2 : CallD K (fun xs H Q => ∃ i j, xs = [.int i, .int j] ∧ Q (.int (if j > i then j else i)) H) max2D := by
  intro W c σ H F ρ xs ds d Q ok rx e q
  unfold max2D at e
  split at e
  · cases e
    obtain ⟨x, y, rfl, r, r'⟩ := pk2 rx
    cases r.int
    cases r'.int
    exact ⟨_, _, rfl, post_ok q ok _ (.int _)⟩
  · cases e
theorem cd_min2 : CallD K (fun xs H Q => ∃ i j, xs = [.int i, .int j] ∧ Q (.int (if j < i then j else i)) H) min2D := by
  intro W c σ H F ρ xs ds d Q ok rx e q
  unfold min2D at e
  split at e
  · cases e
    obtain ⟨x, y, rfl, r, r'⟩ := pk2 rx
    cases r.int
    cases r'.int
    exact ⟨_, _, rfl, post_ok q ok _ (.int _)⟩
  · cases e
def tupleD : List D → Option D
  | [.list ds] => some (.tuple ds)
  | [.tuple ds] => some (.tuple ds)
  | _ => none
theorem cd_tuple : CallD K (fun xs H Q => ∃ p ys, xs = [.ref p] ∧ ((SqL K H p ys ∧ ∀ l, H l = none → Q (.ref l) (upd H l (.tup ys))) ∨ (SqT K H p ys ∧ Q (.ref p) H))) tupleD := by
  intro W c σ H F ρ xs ds d Q ok rx e q
  unfold tupleD at e
  split at e
  · cases e
    obtain ⟨x, rfl, r⟩ := pk1 rx
    obtain ⟨p, vs, rfl, hp, dp⟩ := Pk.lst ok.sub r
    exact ⟨p, vs, rfl, .inl ⟨hp, fun l hl => new_tup ok dp q l hl⟩⟩
  · cases e
    obtain ⟨x, rfl, r⟩ := pk1 rx
    obtain ⟨p, vs, rfl, hp, dp⟩ := Pk.tup ok.sub r
    refine ⟨p, vs, rfl, .inr ⟨hp, ?_⟩⟩
    rcases r with r | ⟨_, _, _, _, e, _⟩
    · exact post_ok q ok _ r
    · cases e
  · cases e
/-- ints, bools of a list -/
def toInts : List D → Option (List Int)
  | [] => some []
  | .int i :: ds => (toInts ds).map (i :: ·)
  | _ => none
theorem toInts_eq : ∀ {ds : List D} {ns : List Int}, toInts ds = some ns → ds = ns.map PyData.int
  | [], ns, h => by cases h; rfl
  | d :: ds, ns, h => by
    cases d with
    | int i =>
      have h : (toInts ds).map (i :: ·) = some ns := h
      cases q : toInts ds with
      | none => rw [q] at h; cases h
      | some ms =>
        rw [q] at h
        cases h
        rw [toInts_eq q]; rfl
    | none => cases h
    | bool _ => cases h
    | str _ => cases h
    | list _ => cases h
    | tuple _ => cases h
    | dict _ => cases h
theorem toInts_map : ∀ (ns : List Int), toInts (ns.map PyData.int) = some ns
  | [] => rfl
  | n :: ns => by
    show (toInts (ns.map PyData.int)).map (n :: ·) = _
    rw [toInts_map ns]; rfl
def toBools : List D → Option (List Bool)
  | [] => some []
  | .bool i :: ds => (toBools ds).map (i :: ·)
  | _ => none
theorem toBools_eq : ∀ {ds : List D} {ns : List Bool}, toBools ds = some ns → ds = ns.map PyData.bool
  | [], ns, h => by cases h; rfl
  | d :: ds, ns, h => by
    cases d with
    | bool i =>
      have h : (toBools ds).map (i :: ·) = some ns := h
      cases q : toBools ds with
      | none => rw [q] at h; cases h
      | some ms =>
        rw [q] at h
        cases h
        rw [toBools_eq q]; rfl
    | none => cases h
    | int _ => cases h
    | str _ => cases h
    | list _ => cases h
    | tuple _ => cases h
    | dict _ => cases h
theorem toBools_map : ∀ (ns : List Bool), toBools (ns.map PyData.bool) = some ns
  | [] => rfl
  | n :: ns => by
    show (toBools (ns.map PyData.bool)).map (n :: ·) = _
    rw [toBools_map ns]; rfl
def sumD : List D → Option D
  | [.list ds] => (toInts ds).map fun ns => .int ns.sum
  | _ => none
def allD : List D → Option D
  | [.list ds] => (toBools ds).map fun bs => .bool (bs.all id)
  | _ => none
def anyD : List D → Option D
  | [.list ds] => (toBools ds).map fun bs => .bool (bs.any id)
  | _ => none
theorem cd_sum : CallD K (rSum K) sumD := by
  intro W c σ H F ρ xs ds d Q ok rx e q
  unfold sumD at e
  split at e
  · rename_i es
    cases q2 : toInts es with
    | none => rw [q2] at e; cases e
    | some ns =>
      rw [q2] at e
      cases e
      obtain ⟨x, rfl, r⟩ := pk1 rx
      obtain ⟨p, vs, rfl, hp, dp⟩ := Pk.lst ok.sub r
      rw [toInts_eq q2] at dp
      rw [DpAll.ints dp] at hp
      exact ⟨p, ns, rfl, hp, post_ok q ok _ (.int _)⟩
  · cases e
theorem cd_all : CallD K (rAll K) allD := by
  intro W c σ H F ρ xs ds d Q ok rx e q
  unfold allD at e
  split at e
  · rename_i es
    cases q2 : toBools es with
    | none => rw [q2] at e; cases e
    | some ns =>
      rw [q2] at e
      cases e
      obtain ⟨x, rfl, r⟩ := pk1 rx
      obtain ⟨p, vs, rfl, hp, dp⟩ := Pk.lst ok.sub r
      rw [toBools_eq q2] at dp
      rw [DpAll.bls dp] at hp
      exact ⟨p, ns, rfl, hp, post_ok q ok _ (.bl _)⟩
  · cases e
theorem cd_any : CallD K (rAny K) anyD := by
  intro W c σ H F ρ xs ds d Q ok rx e q
  unfold anyD at e
  split at e
  · rename_i es
    cases q2 : toBools es with
    | none => rw [q2] at e; cases e
    | some ns =>
      rw [q2] at e
      cases e
      obtain ⟨x, rfl, r⟩ := pk1 rx
      obtain ⟨p, vs, rfl, hp, dp⟩ := Pk.lst ok.sub r
      rw [toBools_eq q2] at dp
      rw [DpAll.bls dp] at hp
      exact ⟨p, ns, rfl, hp, post_ok q ok _ (.bl _)⟩
  · cases e
/-- repr of what is plain -/
def reprD : List D → Option D
  | [.none] => some (.str "None")
  | [.bool b] => some (.str (if b then "True" else "False"))
  | [.int i] => if i.natAbs.log2 < 1920 then some (.str (toString i)) else none
  | [.str x] => if fit (reprText x).length = true then some (.str (reprText x)) else none
  | _ => none
def rRepr : List V → Hp → VK → Prop := fun xs H Q => (xs = [.non] ∧ Q (.str "None") H) ∨ (∃ b : Bool, xs = [.bl b] ∧ Q (.str (if b then "True" else "False")) H) ∨ (∃ i : Int, xs = [.int i] ∧ i.natAbs.log2 < 1920 ∧ Q (.str (toString i)) H) ∨ ∃ x, xs = [.str x] ∧ (reprText x).length ≤ sizeLine ∧ Q (.str (reprText x)) H
theorem cr_repr : CallR X (.builtin "repr") rRepr := by
  intro pins s σ H xs us Q I r h
  rcases h with ⟨rfl, q⟩ | ⟨b, rfl, q⟩ | ⟨i, rfl, hi, q⟩ | ⟨x, rfl, hx, q⟩
  · obtain ⟨u, rfl, ru⟩ := vals1 r
    cases ru
    exact PySem.P.repr_of_none ⟨.str "None", H, I.tok _, ⟨_, rfl⟩, q⟩
  · obtain ⟨u, rfl, ru⟩ := vals1 r
    cases ru
    exact PySem.P.repr_of_bool ⟨.str _, H, I.tok _, ⟨_, rfl⟩, q⟩
  · obtain ⟨u, rfl, ru⟩ := vals1 r
    obtain ⟨t, rfl⟩ := ru
    exact PySem.P.repr_of_int hi ⟨.str _, H, I.tok _, ⟨_, rfl⟩, q⟩
  · obtain ⟨u, rfl, ru⟩ := vals1 r
    obtain ⟨t, rfl⟩ := ru
    exact PySem.P.repr_of_str ⟨.str _, H, I.tok _, ⟨_, rfl⟩, q⟩ hx
theorem cd_repr : CallD K rRepr reprD := by
  intro W c σ H F ρ xs ds d Q ok rx e q
  unfold reprD at e
  split at e
  · cases e
    obtain ⟨x, rfl, r⟩ := pk1 rx
    cases r.none
    exact .inl ⟨rfl, post_ok q ok _ (.str _)⟩
  · cases e
    obtain ⟨x, rfl, r⟩ := pk1 rx
    cases r.bool
    exact .inr (.inl ⟨_, rfl, post_ok q ok _ (.str _)⟩)
  · split at e
    · rename_i hf
      cases e
      obtain ⟨x, rfl, r⟩ := pk1 rx
      cases r.int
      exact .inr (.inr (.inl ⟨_, rfl, hf, post_ok q ok _ (.str _)⟩))
    · cases e
  · split at e
    · rename_i hf
      cases e
      obtain ⟨x, rfl, r⟩ := pk1 rx
      cases r.str
      exact .inr (.inr (.inr ⟨_, rfl, fit_le hf, post_ok q ok _ (.str _)⟩))
    · cases e
  · cases e
/-! ### isinstance -/
def typD : D → String
  | .none => "NoneType"
  | .bool _ => "bool"
  | .int _ => "int"
  | .str _ => "str"
  | .list _ => "list"
  | .tuple _ => "tuple"
  | .dict _ => "dict"
theorem typ_of {c : Ct} {σ : St} {H F : Hp} {ρ : En} (ok : Ok K c σ H F ρ) {x : V} {d : D} (r : Pk K H F x d) : TyX K H x (.type (typD d)) := by
  cases d with
  | none => cases r.none; exact .base .non
  | bool b => cases r.bool; exact .base (.bl b)
  | int i => cases r.int; exact .base (.int i)
  | str z => cases r.str; exact .base (.str z)
  | list ds =>
    obtain ⟨p, vs, rfl, hp, dp⟩ := Pk.rd ok.sub r
    rcases hp with hp | ⟨o, hp⟩
    · exact .base (.lst hp)
    · exact .base (.frz hp)
  | tuple ds =>
    obtain ⟨p, vs, rfl, hp, dp⟩ := Pk.tup ok.sub r
    rcases hp with (hp | ⟨o, hp⟩) | ⟨o, its, n, h1, h2, _⟩
    · exact .base (.tup hp)
    · exact .fTuple hp
    · exact .kTuple h1 h2
  | dict _ =>
    rcases r with r | ⟨_, _, _, _, e, _⟩
    · cases r
    · cases e
def isiT (T : String) (d : D) : Bool := match kitB (typD d) T with
  | some b => b
  | none => false
def isiOk (T : String) : Bool := (kitB "NoneType" T).isSome && (kitB "bool" T).isSome && (kitB "int" T).isSome && (kitB "str" T).isSome && (kitB "list" T).isSome && (kitB "tuple" T).isSome && (kitB "dict" T).isSome
theorem isi_kit {T : String} (h : isiOk T = true) (d : D) : PySem.W.kitOne K (.type (typD d)) (.type T) = some (isiT T d) := by
  unfold isiOk at h
  simp only [Bool.and_eq_true] at h
  obtain ⟨⟨⟨⟨⟨⟨h1, h2⟩, h3⟩, h4⟩, h5⟩, h6⟩, h7⟩ := h
  refine kit_ty ?_
  unfold isiT
  cases d <;> (unfold typD; first
    | (obtain ⟨b, e⟩ := Option.isSome_iff_exists.mp h1; rw [e])
    | (obtain ⟨b, e⟩ := Option.isSome_iff_exists.mp h2; rw [e])
    | (obtain ⟨b, e⟩ := Option.isSome_iff_exists.mp h3; rw [e])
    | (obtain ⟨b, e⟩ := Option.isSome_iff_exists.mp h4; rw [e])
    | (obtain ⟨b, e⟩ := Option.isSome_iff_exists.mp h5; rw [e])
    | (obtain ⟨b, e⟩ := Option.isSome_iff_exists.mp h6; rw [e])
    | (obtain ⟨b, e⟩ := Option.isSome_iff_exists.mp h7; rw [e]))
def mIsi (T : String) (m : M D) : M D := mBind m fun d => mPure (.bool (isiT T d))
variable {a : Expr} {m : M D} {p q pos : Pos} {tn : Str} {T : String}
theorem dIsi (hm : X.mg "isinstance" = none) (hmT : X.mg tn = none) (hT : isiOk T = true) (ha : PE X a (tP X.K W m)) (hv : bootBuiltins tn = some (.type T)) (hg : Gl X "isinstance" := by rfl) (hgT : Gl X tn := by rfl)
    (hn : tn ≠ "__name__" := by decide) (hdb : (tn == ("__debug__" : Str)) = false := by decide) (hs : starEach [a, .Name tn q] X.env = (false, eval a X.env) :: starEach [.Name tn q] X.env := by rfl) (hs2 : starEach [.Name tn q] X.env = (false, eval (.Name tn q) X.env) :: starEach [] X.env := by rfl) (hpl : (backTo pos (starEach [.Name tn q] X.env)).any (·.1) = false := by rfl)
    (hbi : bootBuiltins "isinstance" = some (.builtin "isinstance") := by decide +kernel) : PE X (.Call (.Name "isinstance" p) [a, .Name tn q] [] pos) (tE X.K W (mIsi T m)) :=
  PE.imp (pe_callB call_isi hg hm hbi (pa_cons ha (pa_cons (pe_bltn hgT hmT hv (hn := hn) (hd := hdb) (r := (show RelV (V.ty T) (Value.type T) from rfl))) pa_nil hs2) hs) (by decide) (by decide) hs hpl) (by
  rintro σ H Q ⟨c, F, ρ, ok, h⟩
  refine ⟨c, F, ρ, ok, post_mono ?_ (post_bind h)⟩
  rintro d H1 F1 _ ⟨ρ1, ok1, s1, h1⟩ v rv
  exact ⟨v, _, _, _, _, rfl, .ty T, typ_of ok1 rv, isi_kit hT d, h1 H1 F1 ok1 (Same.refl F1) _ (.bl _)⟩)
end
/-! ### a new list, not yet anyone's -/
def postN (K : PySem.W.Frag) (W : WX) (c : Ct) (σ : St) (F : Hp) (Q : VK) : Option (R (List D)) → Prop
  | none => False
  | some (.ok out ρ') => ∀ p xs H' F', Ok K (c.put p (.lst xs)) σ H' F' ρ' → c.pr p = none → Same F F' → DpAll K F' xs out → Q (.ref p) H'
  | some (.ex e ρ') => ∀ cls x H' F', Ok K c σ H' F' ρ' → Same F F' → ExR K e cls x F' H' → W cls x σ H'
def tN (K : PySem.W.Frag) (W : WX) (m : M (List D)) : TE := fun σ H Q => ∃ c F ρ, Ok K c σ H F ρ ∧ postN K W c σ F Q (m ρ)
section
variable {X : Cx} {W : WX} {K : PySem.W.Frag} {σ : St} {H F : Hp} {ρ : En} {c : Ct}
theorem postN_weak {Q : VK} {F1 : Hp} (s : Same F F1) : ∀ {r : Option (R (List D))}, postN K W c σ F Q r → postN K W c σ F1 Q r
  | some (.ok a ρ'), h => fun p xs H' F' ok hp s' => h p xs H' F' ok hp (s.trans s')
  | some (.ex e ρ'), h => fun cls x H' F' ok s' => h cls x H' F' ok (s.trans s')
theorem postN_bind {α : Type} {Q : VK} {m : M α} {f : α → M (List D)} (h : postN K W c σ F Q (mBind m f ρ)) :
    post K W c σ F (fun a H1 F1 => ∃ ρ1, Ok K c σ H1 F1 ρ1 ∧ Same F F1 ∧ postN K W c σ F1 Q (f a ρ1)) (m ρ) := by
  unfold mBind at h
  cases e : m ρ with
  | none => rw [e] at h; exact h
  | some r =>
    rw [e] at h
    cases r with
    | ok a ρ' => exact fun H' F' ok s => ⟨ρ', ok, s, postN_weak s h⟩
    | ex x ρ' => exact h
theorem new_N {Q : VK} {vs : List V} {ds : List D} (ok : Ok K c σ H F ρ) (hd : DpAll K F vs ds) (q : postN K W c σ F Q (some (.ok ds ρ))) (p : Addr) (hp : H p = none) : Q (.ref p) (upd H p (.lst vs)) :=
  q p vs _ F (ok.allocP hp) (ok.new hp).2.2.1 (Same.refl F) hd
theorem postN_lift {Q : VK} {o : Option (List D)} (h : postN K W c σ F Q (mLift o ρ)) : ∃ a, o = some a ∧ postN K W c σ F Q (some (.ok a ρ)) := by
  unfold mLift at h
  cases o with
  | none => exact h.elim
  | some a => exact ⟨a, rfl, h⟩
def mVal (m : M (List D)) : M D := mBind m fun ds => mPure (.list ds)
theorem tE_N {m : M (List D)} {Q : VK} (h : tE K W (mVal m) σ H Q) : tN K W m σ H Q := by
  obtain ⟨c, F, ρ, ok, h⟩ := h
  refine ⟨c, F, ρ, ok, ?_⟩
  unfold mVal mBind at h
  cases e : m ρ with
  | none => rw [e] at h; exact h
  | some r =>
    rw [e] at h
    cases r with
    | ex x ρ' => exact h
    | ok out ρ' =>
      intro p xs H' F' ok' hp s' r
      obtain ⟨hH, hF, h0⟩ := ok'.prt p _ upd_same
      have s : Same F' (upd F' p (.lst xs)) := Same.updN hF
      exact h H' _ (ok'.freeP hp) (s'.trans s) _ (.lst (.inl upd_same) (DpAll.mono s r))
theorem dVal {e : Expr} {m : M (List D)} (h : PE X e (tN X.K W m)) : PE X e (tE X.K W (mVal m)) := PE.imp h fun _ _ _ => tE_N
def mAsgN (m : M (List D)) (i : Nat) : M Fl := mBind m fun ds => mBind (mStoreO i ds) fun _ => mDone
theorem asgN_of {m : M (List D)} {i : Nat} {Dn : Ends} (h : tS K W (mAsgN m i) Dn σ H) : tAsg (tN K W m) (gName i) Dn σ H := by
  obtain ⟨c, F, ρ, ok, h⟩ := h
  refine ⟨c, F, ρ, ok, ?_⟩
  unfold mAsgN mBind at h
  cases e : m ρ with
  | none => rw [e] at h; exact h.elim
  | some r =>
    rw [e] at h
    cases r with
    | ex x ρ' => exact fun cls y H' F' ok s r => h σ cls y H' F' ok s r
    | ok out ρ' =>
      intro p xs H' F' ok' hp s' r
      have h5 : postS K W c F Dn (mBind (mStoreO i out) (fun _ => mDone) ρ') := h
      have h6 := postS_bindG h5
      unfold mStoreO at h6
      split at h6
      · rename_i hl
        obtain ⟨F3, ρ3, ok3, s3, h7⟩ := h6 _ H' F' (ok'.ownP hp r hl) s'
        exact h7 _ _ _ ok3 (Same.refl F3)
      · exact h6.elim
theorem dsN {i : Nat} {x : Str} {pos pos' : Pos} {e : Expr} {m : M (List D)} (hN : X.N.Nodup) (he : PE X e (tN X.K W m)) (hi : X.N[i]? = some x := by rfl) (hx : Loc X.env.scope x := by first | exact Or.inl rfl | exact Or.inr rfl)
    (hs : swapsWith e (some (.Name x pos')) pos.line X.env = pure false := by rfl)
    (hf : X.fn x = true ∨ X.env.scope.names.lookup x = some .local := by first | exact .inl rfl | exact .inr rfl) : PS X (.Assign [.Name x pos'] e pos) (tS X.K W (mAsgN m i)) := PS.imp (ps_set hN hi hx he hs hf) fun _ _ _ => asgN_of
/-- a comprehension, as a new list; on one line with its name -/
theorem comp_N {mi : M (List D)} {vs : List Nat} {g : TG} {gD : D → M Unit} {mt : M Bool} {me : M D} (hg : CTg K vs g gD) {Q : VK}
    {tt : TT} (ht : ∀ σ H Q, tT K WF mt σ H Q → tt σ H Q) (h : tN K W (mComp vs mi gD mt me) σ H Q) : tLc (tI K W mi) g tt (tE K WF me) vs σ H Q := by
  obtain ⟨c, F, ρ, ok, h⟩ := h
  refine comp_core hg ht ok ?_
  unfold mComp at h
  refine post_mono ?_ (postN_bind h)
  rintro ds H1 F1 _ ⟨ρ1, ok1, s1, h1⟩
  unfold mRest at h1
  cases q : mGo vs gD mt me ds (unsE ρ1 vs) with
  | none => rw [q] at h1; exact h1.elim
  | some r =>
    rw [q] at h1
    cases r with
    | ex x ρ' => exact h1.elim
    | ok out ρe =>
      by_cases hf : fit ds.length = true
      · simp only [if_pos hf] at h1
        exact ⟨ρ1, ok1, hf, out, ρe, q, fun p acc H2 F2 hpr ok2 s2 da => h1 p acc H2 F2 ok2 hpr s2 da⟩
      · simp only [if_neg hf] at h1
        exact h1.elim
theorem dCompN {elt iter tg : Expr} {ifs : List Expr} {scope : Scope} {own : List (Str × Nat)} {pos : Pos} {mi : M (List D)} {g : TG} {gD : D → M Unit} {mt : M Bool} {me : M D} {tt : TT} (hc : X.calm = true) (hN : X.N.Nodup) (hi : PI X tg iter (tI X.K W mi)) (ok : BlkOk X.N X.env.scope scope own)
    (hg : ∀ (s : Shared) (H : Hp) (C : Addr) (cl : List (Str × Addr)) (fp : List Addr), PG (X.blk s H scope (compEnvC scope cl C X.env) fp) tg g) (ht : ∀ (s : Shared) (H : Hp) (C : Addr) (cl : List (Str × Addr)) (fp : List Addr), PTs (X.blk s H scope (compEnvC scope cl C X.env) fp) ifs tt)
    (he : ∀ (s : Shared) (H : Hp) (C : Addr) (cl : List (Str × Addr)) (fp : List Addr), PE (X.blk s H scope (compEnvC scope cl C X.env) fp) elt (tE X.K WF me)) (hG : CTg X.K (own.map (·.2)) g gD) (hT : ∀ σ H Q, tT X.K WF mt σ H Q → tt σ H Q)
    (hs : ∀ x, foldedSetIterable iter X.env x = pure x := by exact fun _ => rfl) : PE X (.ListComp elt [⟨tg, iter, ifs, 0⟩] scope pos) (tN X.K W (mComp (own.map (·.2)) mi gD mt me)) :=
  PE.imp (pe_lc hc hN hi ok hg ht he hs) fun _ _ _ => comp_N hG hT
theorem dsCompN {i : Nat} {y : Str} {py spos : Pos} {elt iter tg : Expr} {ifs : List Expr} {scope : Scope} {own : List (Str × Nat)} {pos : Pos} {mi : M (List D)} {g : TG} {gD : D → M Unit} {mt : M Bool} {me : M D} {tt : TT} (hc : X.calm = true) (hN : X.N.Nodup)
    (hsw : swapsWith (.ListComp elt [⟨tg, iter, ifs, 0⟩] scope pos) (some (.Name y py)) spos.line X.env = pure true) (hi : PI X tg iter (tI X.K W mi)) (ok : BlkOk X.N X.env.scope scope own)
    (hg : ∀ (s : Shared) (H : Hp) (C : Addr) (cl : List (Str × Addr)) (fp : List Addr), PG (X.blk s H scope (compEnvC scope cl C X.env) fp) tg g) (ht : ∀ (s : Shared) (H : Hp) (C : Addr) (cl : List (Str × Addr)) (fp : List Addr), PTs (X.blk s H scope (compEnvC scope cl C X.env) fp) ifs tt)
    (he : ∀ (s : Shared) (H : Hp) (C : Addr) (cl : List (Str × Addr)) (fp : List Addr), PE (X.blk s H scope (compEnvC scope cl C X.env) fp) elt (tE X.K WF me)) (hG : CTg X.K (own.map (·.2)) g gD) (hT : ∀ σ H Q, tT X.K WF mt σ H Q → tt σ H Q)
    (hy : X.N[i]? = some y := by rfl) (hyl : X.env.scope.names.lookup y = some .local := by rfl)
    (hs : ∀ x, foldedSetIterable iter X.env x = pure x := by exact fun _ => rfl) : PS X (.Assign [.Name y py] (.ListComp elt [⟨tg, iter, ifs, 0⟩] scope pos) spos) (tS X.K W (mAsgN (mComp (own.map (·.2)) mi gD mt me) i)) :=
  PS.imp (ps_setLc hc hN hy hyl hsw hi ok hg ht he hs) fun Dn σ H h => by
    have q := asgN_of h
    exact comp_N hG hT q
/-- list(..), sorted(..), .. -/
def CallN (K : PySem.W.Frag) (r : List V → Hp → VK → Prop) (g : List D → Option (List D)) : Prop :=
  ∀ {W : WX} {c : Ct} {σ : St} {H F : Hp} {ρ : En} {xs : List V} {ds : List D} {out : List D} {Q : VK}, Ok K c σ H F ρ → PkAll K H F xs ds → g ds = some out → postN K W c σ F Q (some (.ok out ρ)) → r xs H Q
def mCallN1 (g : List D → Option (List D)) (m : M D) : M (List D) := mBind m fun d => mLift (g [d])
variable {a : Expr} {ma mb : M D} {x : Str} {p pos : Pos} {id T : String} {r : List V → Hp → VK → Prop} {g : List D → Option (List D)}
theorem tCBN1 (hd : CallN K r g) {Q : VK} (h : tN K W (mCallN1 g ma) σ H Q) : tCB r (tCons (tP K W ma) tNil) σ H Q := by
  obtain ⟨c, F, ρ, ok, h⟩ := h
  refine ⟨c, F, ρ, ok, post_mono ?_ (postN_bind h)⟩
  rintro d H1 F1 _ ⟨ρ1, ok1, s1, h1⟩ x rx
  obtain ⟨d', e, h2⟩ := postN_lift h1
  exact hd ok1 (.cons rx .nil) e h2
theorem dBN1 (hc : CallR X (.builtin id) r) (hd : CallN X.K r g) (hm : X.mg x = none) (hv : bootBuiltins x = some (.builtin id)) (ha : PE X a (tP X.K W ma)) (hg : Gl X x := by rfl) (hs : starEach (a :: []) X.env = (false, eval a X.env) :: starEach [] X.env := by rfl) (hn : x ≠ "__name__" := by decide) (hdb : (x == ("__debug__" : Str)) = false := by decide)
    (hpl : (backTo pos (starEach [] X.env)).any (·.1) = false := by rfl) : PE X (.Call (.Name x p) [a] [] pos) (tN X.K W (mCallN1 g ma)) :=
  PE.imp (pe_callB hc hg hm hv (pa_cons ha pa_nil hs) hn hdb hs hpl) fun _ _ _ => tCBN1 hd
theorem dTyN1 (hc : CallR X (.type T) r) (hd : CallN X.K r g) (hm : X.mg x = none) (hv : bootBuiltins x = some (.type T)) (ha : PE X a (tP X.K W ma)) (hg : Gl X x := by rfl) (hs : starEach (a :: []) X.env = (false, eval a X.env) :: starEach [] X.env := by rfl) (hn : x ≠ "__name__" := by decide) (hdb : (x == ("__debug__" : Str)) = false := by decide)
    (hpl : (backTo pos (starEach [] X.env)).any (·.1) = false := by rfl) : PE X (.Call (.Name x p) [a] [] pos) (tN X.K W (mCallN1 g ma)) :=
  PE.imp (pe_callTy hc hg hm hv (pa_cons ha pa_nil hs) hn hdb hs hpl) fun _ _ _ => tCBN1 hd
def listD : List D → Option (List D)
  | [.list ds] => some ds
  | [.tuple ds] => some ds
  | _ => none
theorem cn_list : CallN K (fun xs H Q => ∃ p ys, xs = [.ref p] ∧ (SqL K H p ys ∨ SqT K H p ys) ∧ ∀ l, H l = none → Q (.ref l) (upd H l (.lst ys))) listD := by
  intro W c σ H F ρ xs ds d Q ok rx e q
  unfold listD at e
  split at e
  · cases e
    obtain ⟨x, rfl, r⟩ := pk1 rx
    obtain ⟨p, vs, rfl, hp, dp⟩ := Pk.lst ok.sub r
    exact ⟨p, vs, rfl, .inl hp, fun l hl => new_N ok dp q l hl⟩
  · cases e
    obtain ⟨x, rfl, r⟩ := pk1 rx
    obtain ⟨p, vs, rfl, hp, dp⟩ := Pk.tup ok.sub r
    exact ⟨p, vs, rfl, .inr hp, fun l hl => new_N ok dp q l hl⟩
  · cases e
end
end Dd

namespace Dd
open PySem PySem.Spec L2
section
variable {X : Cx} {W : WX} {K : PySem.W.Frag} {σ : St} {H F : Hp} {ρ : En} {c : Ct}
/-! ### a tuple by 0, by 1 -/
theorem tuple_mul0 (l : Addr) (items : Array Value) (n : Nat) (dd : Option Addr) (sl : Array (Option Value)) (u : Tok) (c1 : items.isEmpty = false) :
    Meets (Builtin.«tuple.__mul__» ⟨[.ref l, .int 0 u], []⟩) (fun _ R s => s.heap.get? l = some { cls := .type "tuple", dict := dd, data := .seq items n, slots := sl } ∧
      R (.ok (.ret (Value.ref s.heap.objs.size))) { s with heap := s.heap.push { cls := Value.type "tuple", data := Data.seq #[] }, toks := s.toks }) :=
  .of_wp fun prog w A R s h => by
    obtain ⟨hp, g, d, tk, os⟩ := s
    obtain ⟨hl, h⟩ := h
    have f1 := AutoSeq1.idx_int
    have c1' : (items.isEmpty || (0 : Int) == 1) = false := by rw [c1]; rfl
    wp_walk using wpAny_loadPart' hl
    repeat (first
      | (refine wpAny_ite_false (decide_eq_false (by rw [c1']; exact Bool.false_ne_true)) ?_; wp_walk using wpAny_loadPart' hl))
    exact ⟨_, rfl, h⟩
theorem tuple_mul1 (l : Addr) (items : Array Value) (n : Nat) (dd : Option Addr) (sl : Array (Option Value)) (u : Tok) :
    Meets (Builtin.«tuple.__mul__» ⟨[.ref l, .int 1 u], []⟩) (fun _ R s => s.heap.get? l = some { cls := .type "tuple", dict := dd, data := .seq items n, slots := sl } ∧
      R (.ok (.ret (Value.ref l))) s) :=
  .of_wp fun prog w A R s h => by
    obtain ⟨hp, g, d, tk, os⟩ := s
    obtain ⟨hl, h⟩ := h
    have f1 := AutoSeq1.idx_int
    have c1' : (items.isEmpty || (1 : Int) == 1) = true := by simp
    wp_walk using wpAny_loadPart' hl
    repeat (first
      | (refine wpAny_ite_true (decide_eq_true (by rw [c1'])) ?_; wp_walk using wpAny_loadPart' hl))
    exact ⟨_, rfl, h⟩

def rRep01 (K : PySem.W.Frag) : R2 := fun x y H Q => ∃ l xs, x = .ref l ∧ SqT K H l xs ∧ xs ≠ [] ∧ ((y = .int 0 ∧ ∀ p, H p = none → Q (.ref p) (upd H p (.tup []))) ∨ (y = .int 1 ∧ Q (.ref l) H))
theorem op_rep01 : OpR X (binaryOp .Mult) (rRep01 X.K) := by
  intro pins s σ H vx vy v u Q I rx ry hh
  obtain ⟨l, xs, rfl, hT, hne, hh⟩ := hh
  cases rx
  obtain ⟨its, rr, ⟨⟨cls, dd, data, sl⟩, hob, hcl, n, hdt⟩, hsz⟩ := I.tuple hT
  simp only at hcl hdt
  subst hcl hdt
  have hemp : its.toArray.isEmpty = false := by
    cases its with
    | nil => exact absurd (List.eq_nil_of_length_eq_zero (by rw [rr.length]; rfl)) hne
    | cons _ _ => rfl
  rcases hh with ⟨rfl, q⟩ | ⟨rfl, q⟩
  · obtain ⟨t, rfl⟩ := ry
    refine wpAny_binaryOp_repeat_ref (T := "tuple") (U := "int") (by decide) ⟨_, hob, rfl⟩ (fun s' => typeIs_int s' 0 t) noFill_tuple_mul F.fills_int_mul F.slot_int_rmul repeat_tuple F.slot_int_index.lookup
      (call_meets F.slot_int_rmul (typeIs_int s 0 t) F.entry_int_rmul (F.args_int_rmul_2 _ _) (int_rmul_tuple 0 t l its.toArray n dd sl)
        ⟨hob, rfl, ⟨_, hob, rfl⟩, call_meets F.slot_tuple_mul ⟨_, hob, rfl⟩ F.entry_tuple_mul (F.args_tuple_mul_2 _ _) (tuple_mul0 l its.toArray n dd sl t hemp) ⟨hob, ?_⟩⟩)
    refine ⟨.ref s.heap.objs.size, _, I.laid (t' := s.toks) (o := .tup []) (fun b ob qq => Heap.get?_push_of_some _ qq) (Nat.le_refl _) ?_, rfl, q _ (I.hok.fresh (Nat.le_refl _))⟩
    exact ⟨Nat.zero_le _, [], .nil, PyProof.Rows.IsTup.new _ _⟩
  · obtain ⟨t, rfl⟩ := ry
    refine wpAny_binaryOp_repeat_ref (T := "tuple") (U := "int") (by decide) ⟨_, hob, rfl⟩ (fun s' => typeIs_int s' 1 t) noFill_tuple_mul F.fills_int_mul F.slot_int_rmul repeat_tuple F.slot_int_index.lookup
      (call_meets F.slot_int_rmul (typeIs_int s 1 t) F.entry_int_rmul (F.args_int_rmul_2 _ _) (int_rmul_tuple 1 t l its.toArray n dd sl)
        ⟨hob, rfl, ⟨_, hob, rfl⟩, call_meets F.slot_tuple_mul ⟨_, hob, rfl⟩ F.entry_tuple_mul (F.args_tuple_mul_2 _ _) (tuple_mul1 l its.toArray n dd sl t) ⟨hob, ?_⟩⟩)
    exact ⟨.ref l, H, I.tok _, rfl, q⟩
def repT : D → D → Option D
  | .tuple ds, .int k => if ds.isEmpty = true then none else if k = 0 then some (.tuple []) else if k = 1 then some (.tuple ds) else none
  | _, _ => none
theorem opD_repT : OpD K (rRep01 K) repT := by
  intro W c σ H F ρ x y a b d Q ok rx ry e q
  unfold repT at e
  split at e
  · rename_i ds k
    obtain ⟨p, vs, rfl, hp, dp⟩ := Pk.tup ok.sub rx
    by_cases he : ds.isEmpty = true
    · rw [if_pos he] at e; cases e
    · rw [if_neg he] at e
      have hne : vs ≠ [] := fun z => by
        subst z
        cases dp
        exact he rfl
      by_cases h0 : k = 0
      · rw [if_pos h0] at e
        cases e
        subst h0
        exact ⟨p, vs, rfl, hp, hne, .inl ⟨ry.int, fun l hl => new_tup ok .nil q l hl⟩⟩
      · rw [if_neg h0] at e
        by_cases h1 : k = 1
        · rw [if_pos h1] at e
          cases e
          subst h1
          refine ⟨p, vs, rfl, hp, hne, .inr ⟨ry.int, ?_⟩⟩
          rcases rx with rx | ⟨_, _, _, _, e, _⟩
          · exact post_ok q ok _ rx
          · cases e
        · rw [if_neg h1] at e
          cases e
  · cases e
/-- a list by an int -/
theorem DpAll.rep {vs : List V} {ds : List D} (h : DpAll K F vs ds) : ∀ k : Nat, DpAll K F (List.replicate k vs).flatten (List.replicate k ds).flatten
  | 0 => .nil
  | k + 1 => by
    rw [List.replicate_succ, List.replicate_succ, List.flatten_cons, List.flatten_cons]
    exact DpAll.append h (DpAll.rep h k)
def repLD : D → D → Option (List D)
  | .list ds, .int k => if (decide (k.natAbs < 9223372036854775808) && fit (ds.length * k.toNat)) = true then some (List.replicate k.toNat ds).flatten else none
  | _, _ => none
/-- [..] * k: the list is a display -/
def mRepN (ms : M (List D)) (mk : M D) : M (List D) := mBind ms fun ds => mBind (mLift (if fit ds.length = true then some ds else none)) fun ds => mBind mk fun k => mLift (repLD (.list ds) k)
theorem ok_unput {p : Addr} {o : HO} (ok : Ok K (c.put p o) σ H F ρ) (hp : c.pr p = none) : Ok K c σ H F ρ := by
  have nown : ∀ {q : Addr}, (c.put p o).pr q = none → q ≠ p := fun {q} a z => by
    subst z
    have a' : upd c.pr q o q = none := a
    rw [upd_same] at a'; cases a'
  refine ⟨ok.len, ok.sub, ok.ge, ok.fe, ok.keep, fun q e => ?_, fun b u e => ?_, ok.val, fun j es e => ?_, ok.ios, ok.scr, ok.sep⟩
  · obtain ⟨a1, a2, a3, a4⟩ := ok.iod q e
    exact ⟨a1, a2, (upd_ne (nown a3)).symm.trans a3, a4⟩
  · have ne : b ≠ p := fun z => by subst z; rw [hp] at e; cases e
    exact ok.prt b u ((upd_ne ne).trans e)
  · obtain ⟨q, vs, a1, a2, a3, a4, a5, a6⟩ := ok.own j es e
    exact ⟨q, vs, a1, a2, a3, a4, a5, (upd_ne (nown a6)).symm.trans a6⟩
theorem rep_of {ms : M (List D)} {mk : M D} {Q : VK} (h : tN K W (mRepN ms mk) σ H Q) : tOp rRep (tLst (tA K W ms)) (tE K W mk) σ H Q := by
  obtain ⟨c, F, ρ, ok, h⟩ := h
  refine ⟨c, F, ρ, ok, post_mono ?_ (postN_bind h)⟩
  rintro ds H1 F1 _ ⟨ρ1, ok1, s1, h1⟩ xs rx
  obtain ⟨ds', e, h2⟩ := post_lift (postN_bind h1)
  split at e
  · rename_i hf
    cases e
    refine ⟨by rw [DpAll.length rx]; exact fit_le hf, fun p hp => ?_⟩
    obtain ⟨ρ2, ok2, s2, h3⟩ := h2 H1 F1 ok1 (Same.refl F1)
    have hpr := (ok2.new hp).2.2.1
    refine ⟨c.put p (.lst xs), F1, ρ2, ok2.allocP hp, ?_⟩
    have h4 := postN_bind h3
    cases e2 : mk ρ2 with
    | none => rw [e2] at h4; exact h4.elim
    | some r =>
      rw [e2] at h4
      cases r with
      | ex y ρ3 => exact fun cls z H' F' ok' s' r => h4 cls z H' F' (ok_unput ok' hpr) s' r
      | ok kd ρ3 =>
        intro H' F' ok' s' kv rk
        obtain ⟨ρ4, ok4, s4, h5⟩ := h4 H' F' (ok_unput ok' hpr) s'
        obtain ⟨out, e3, h6⟩ := postN_lift h5
        cases kd with
        | int k =>
          cases rk
          unfold repLD at e3
          simp only at e3
          split at e3
          · rename_i hb
            cases e3
            simp only [Bool.and_eq_true] at hb
            refine ⟨p, k, xs, rfl, rfl, (ok'.prt p _ upd_same).1, by have := of_decide_eq_true hb.1; omega, by have := of_decide_eq_true hb.1; omega, by rw [DpAll.length rx]; exact fit_le hb.2, fun l hl => ?_⟩
            exact new_N ok4 (DpAll.rep (DpAll.mono s' rx) k.toNat) h6 l hl
          · cases e3
        | none => cases e3
        | bool _ => cases e3
        | str _ => cases e3
        | list _ => cases e3
        | tuple _ => cases e3
        | dict _ => cases e3
  · cases e
theorem dRepN {es : List Expr} {lp pos : Pos} {b : Expr} {ms : M (List D)} {mk : M D} (ha : PA X es (tA X.K W ms)) (hb : PE X b (tE X.K W mk)) : PE X (.BinOp (.List es lp) .Mult b pos) (tN X.K W (mRepN ms mk)) := PE.imp (pe_op op_rep (pe_lst ha) hb) fun _ _ _ => rep_of
def mulD : D → D → Option D := oOr mulI repT
def rMulA (K : PySem.W.Frag) : R2 := fun x y H Q => rI CMul (fun i j => .int (i * j)) x y H Q ∨ rRep01 K x y H Q
theorem opD_mul : OpD K (rMulA K) mulD := opD_or (opD_Ic cMul_ok fun _ _ _ => .int _) opD_repT
theorem or_mulA : OpR X (binaryOp .Mult) (rMulA X.K) := OpR.or op_mul op_rep01
/-! ### a, b = x, y -/
variable {i j : Nat} {x y : Str} {a b : Expr} {ma mb : M D} {px py pt pos : Pos} {kt k2 : Nat} {pt2 : Pos}
def mParEE (i j : Nat) (ma mb : M D) : M Fl := mBind ma fun a => mBind mb fun b => mBind (mStore i a) fun _ => mBind (mStore j b) fun _ => mDone
theorem parEE_of {Dn : Ends} (h : tS K W (mParEE i j ma mb) Dn σ H) : tPar i j (tCons (tE K W ma) (tCons (tE K W mb) tNil)) Dn σ H := by
  obtain ⟨c, F, ρ, ok, h⟩ := h
  refine ⟨c, F, ρ, ok, post_mono ?_ (postS_bind h)⟩
  rintro d1 H1 F1 _ ⟨ρ1, ok1, s1, h1⟩ v1 r1
  refine ⟨c, F1, ρ1, ok1, post_mono ?_ (postS_bind h1)⟩
  rintro d2 H2 F2 _ ⟨ρ2, ok2, s2, h2⟩ v2 r2
  refine ⟨v1, v2, rfl, ?_⟩
  have h3 := postS_bindG h2
  unfold mStore at h3
  split at h3
  · rename_i hl
    obtain ⟨F3, ρ3, ok3, s3, h4⟩ := h3 _ H2 F2 (ok2.setV hl (Dp.mono s2 r1)) (Same.refl F2)
    have h5 := postS_bindG h4
    unfold mStore at h5
    split at h5
    · rename_i hl2
      obtain ⟨F4, ρ4, ok4, s4, h6⟩ := h5 _ H2 F3 (ok3.setV hl2 (Dp.mono s3 r2)) (Same.refl F3)
      exact h6 _ _ _ ok4 (Same.refl F4)
    · exact h5.elim
  · exact h3.elim
theorem dParEE (hc : X.calm = true) (hN : X.N.Nodup) (hij : i ≠ j) (ha : PE X a (tE X.K W ma)) (hb : PE X b (tE X.K W mb)) (hi : X.N[i]? = some x := by rfl) (hj : X.N[j]? = some y := by rfl)
    (hx : X.env.scope.names.lookup x = some .local := by rfl) (hy : X.env.scope.names.lookup y = some .local := by rfl)
    (hw : swappedStores [.Tuple [.Name x px, .Name y py] kt pt] (.Tuple [a, b] k2 pt2) X.env = pure (some [x, y]) := by rfl)
    (hs : swapsWithSole [.Tuple [.Name x px, .Name y py] kt pt] (.Tuple [a, b] k2 pt2) pos.line X.env = pure false := by rfl)
    (hs1 : starEach [a, b] X.env = (false, eval a X.env) :: starEach [b] X.env := by rfl) (hs2 : starEach [b] X.env = (false, eval b X.env) :: starEach [] X.env := by rfl) :
    PS X (.Assign [.Tuple [.Name x px, .Name y py] kt pt] (.Tuple [a, b] k2 pt2) pos) (tS X.K W (mParEE i j ma mb)) :=
  PS.imp (ps_par hc hN hi hj hij hx hy (pa_cons ha (pa_cons hb pa_nil hs2) hs1) hw hs) fun _ _ _ => parEE_of
/-- .. the second a new list -/
def mParEN (i j : Nat) (ma : M D) (mb : M (List D)) : M Fl := mBind ma fun a => mBind mb fun b => mBind (mStore i a) fun _ => mBind (mStoreO j b) fun _ => mDone
theorem parEN_of {mn : M (List D)} {Dn : Ends} (h : tS K W (mParEN i j ma mn) Dn σ H) : tPar i j (tCons (tE K W ma) (tCons (tN K W mn) tNil)) Dn σ H := by
  obtain ⟨c, F, ρ, ok, h⟩ := h
  refine ⟨c, F, ρ, ok, post_mono ?_ (postS_bind h)⟩
  rintro d1 H1 F1 _ ⟨ρ1, ok1, s1, h1⟩ v1 r1
  refine ⟨c, F1, ρ1, ok1, ?_⟩
  unfold mBind at h1
  cases e : mn ρ1 with
  | none => rw [e] at h1; exact h1.elim
  | some r =>
    rw [e] at h1
    cases r with
    | ex y ρ' => exact fun cls z H' F' ok s r => h1 σ cls z H' F' ok s r
    | ok out ρ2 =>
      intro p xs H' F' ok' hp s' rx
      refine ⟨v1, .ref p, rfl, ?_⟩
      have h2 : postS K W c F1 Dn (mBind (mStore i d1) (fun _ => mBind (mStoreO j out) fun _ => mDone) ρ2) := h1
      have h3 := postS_bindG h2
      unfold mStore at h3
      split at h3
      · rename_i hl
        have okA := ok'.setV hl (Dp.mono s' r1)
        have h4 : postS K W c F1 Dn (mBind (mStoreO j out) (fun _ => mDone) (ρ2.set i (.val d1))) := by
          unfold mBind mStore at h2
          simp only [if_pos hl] at h2
          exact h2
        have h5 := postS_bindG h4
        unfold mStoreO at h5
        split at h5
        · rename_i hl2
          obtain ⟨F4, ρ4, ok4, s4, h6⟩ := h5 _ H' F' (okA.ownP hp rx hl2) s'
          exact h6 _ _ _ ok4 (Same.refl F4)
        · exact h5.elim
      · exact h3.elim
theorem dParEN {mn : M (List D)} (hc : X.calm = true) (hN : X.N.Nodup) (hij : i ≠ j) (ha : PE X a (tE X.K W ma)) (hb : PE X b (tN X.K W mn)) (hi : X.N[i]? = some x := by rfl) (hj : X.N[j]? = some y := by rfl)
    (hx : X.env.scope.names.lookup x = some .local := by rfl) (hy : X.env.scope.names.lookup y = some .local := by rfl)
    (hw : swappedStores [.Tuple [.Name x px, .Name y py] kt pt] (.Tuple [a, b] k2 pt2) X.env = pure (some [x, y]) := by rfl)
    (hs : swapsWithSole [.Tuple [.Name x px, .Name y py] kt pt] (.Tuple [a, b] k2 pt2) pos.line X.env = pure false := by rfl)
    (hs1 : starEach [a, b] X.env = (false, eval a X.env) :: starEach [b] X.env := by rfl) (hs2 : starEach [b] X.env = (false, eval b X.env) :: starEach [] X.env := by rfl) :
    PS X (.Assign [.Tuple [.Name x px, .Name y py] kt pt] (.Tuple [a, b] k2 pt2) pos) (tS X.K W (mParEN i j ma mn)) :=
  PS.imp (ps_par hc hN hi hj hij hx hy (pa_cons ha (pa_cons hb pa_nil hs2) hs1) hw hs) fun _ _ _ => parEN_of
/-- a new list, written -/
theorem dLstN {es : List Expr} {ms : M (List D)} {pos : Pos} (h : PA X es (tA X.K W ms)) : PE X (.List es pos) (tN X.K W (mBind ms fun ds => mLift (if fit ds.length = true then some ds else none))) := PE.imp (pe_lst h) (by
  rintro σ H Q ⟨c, F, ρ, ok, h⟩
  refine ⟨c, F, ρ, ok, post_mono ?_ (postN_bind h)⟩
  rintro ds H1 F1 _ ⟨ρ1, ok1, s1, h1⟩ xs rx
  obtain ⟨d, e, h2⟩ := postN_lift h1
  split at e
  · rename_i hf
    cases e
    exact ⟨by rw [DpAll.length rx]; exact fit_le hf, fun p hp => new_N ok1 rx h2 p hp⟩
  · cases e)
end
/-! ### calls, in short -/
section
variable {X : Cx} {W : WX} {k n : Nat} {f : Addr} {fd : FuncData} {ps : List Str} {x : Str} {p pos : Pos} {e : Expr} {es : List Expr} {ms : M (List D)}
theorem dCallV {g : List D → Option (Rs D)} (F : FnOk X.prog X.w X.K X.mg X.base (L2.CX X.prog X.w) k f fd ps (spV X.K n g)) (hr : Room k X.A) (hm : X.mg x = some (.ref f)) (hk : PySem.W.keepIn X.K (.ref f) = true) (hb : Binds X.K fd ps []) (tk : Takes X W)
    (ha : PA X (e :: es) (tA X.K W ms)) (hg : Gl X x := by rfl) (hdb : (x == ("__debug__" : Str)) = false := by decide) (he : starEach (e :: es) X.env = (false, eval e X.env) :: starEach es X.env := by rfl) (hpl : (backTo pos (starEach es X.env)).any (·.1) = false := by rfl) :
    PE X (.Call (.Name x p) (e :: es) [] pos) (tE X.K W (mCallV n g ms)) := PE.imp (pe_callS F hr hg hm hk hb (fun σ => passAt tk σ) ha hdb he hpl) fun _ _ _ => callV_of
theorem dCallB {i : Nat} {g : List D → List D → Option (Rs D × List D)} (F : FnOk X.prog X.w X.K X.mg X.base (L2.CX X.prog X.w) k f fd ps (spB X.K n g)) (hr : Room k X.A) (hm : X.mg x = some (.ref f)) (hk : PySem.W.keepIn X.K (.ref f) = true) (hb : Binds X.K fd ps []) (tk : Takes X W)
    (h1 : PE X e (tVar i)) (ha : PA X es (tA X.K W ms)) (hg : Gl X x := by rfl) (hdb : (x == ("__debug__" : Str)) = false := by decide) (he : starEach (e :: es) X.env = (false, eval e X.env) :: starEach es X.env := by rfl) (hpl : (backTo pos (starEach es X.env)).any (·.1) = false := by rfl) :
    PE X (.Call (.Name x p) (e :: es) [] pos) (tE X.K W (mCallB i n g ms)) := PE.imp (pe_callS F hr hg hm hk hb (fun σ => passAt tk σ) (pa_cons h1 ha he) hdb he hpl) fun _ _ _ => callB_of
theorem dCallSt {i j : Nat} {y : Str} {pos' spos : Pos} {g : List Int → List D → Option (Rs (List D))} (F : FnOk X.prog X.w X.K X.mg X.base (L2.CX X.prog X.w) k f fd ps (spS X.K n g)) (hr : Room k X.A) (hm : X.mg x = some (.ref f)) (hk : PySem.W.keepIn X.K (.ref f) = true) (hb : Binds X.K fd ps []) (tk : Takes X W) (hN : X.N.Nodup)
    (h1 : PE X e (tVar j)) (ha : PA X es (tA X.K W ms)) (hg : Gl X x := by rfl) (hdb : (x == ("__debug__" : Str)) = false := by decide) (he : starEach (e :: es) X.env = (false, eval e X.env) :: starEach es X.env := by rfl) (hpl : (backTo pos (starEach es X.env)).any (·.1) = false := by rfl)
    (hi : X.N[i]? = some y := by rfl) (hx : Loc X.env.scope y := by first | exact Or.inl rfl | exact Or.inr rfl)
    (hs : swapsWith (.Call (.Name x p) (e :: es) [] pos) (some (.Name y pos')) spos.line X.env = pure false := by rfl)
    (hf : X.fn y = true ∨ X.env.scope.names.lookup y = some .local := by first | exact .inl rfl | exact .inr rfl) :
    PS X (.Assign [.Name y pos'] (.Call (.Name x p) (e :: es) [] pos) spos) (tS X.K W (mAsgS i j n g ms)) := PS.imp (ps_set hN hi hx (pe_callS F hr hg hm hk hb (fun σ => passAt tk σ) (pa_cons h1 ha he) hdb he hpl) hs hf) fun _ _ _ => asgS_of
end
theorem hCX0 {P : Program} {w : World} {H : Hp} {s : Shared} {e : Value} {s' : Shared} (h : L2.CX P w [] H s (fun _ _ _ => False) e s') : False := by
  obtain ⟨_, _, _, _, _, _, _, _, _, _, _, _, z⟩ := h
  exact z
theorem b_len : bootBuiltins "len" = some (.builtin "len") := by decide +kernel
theorem b_int : bootBuiltins "int" = some (.type "int") := by decide +kernel
theorem b_bool : bootBuiltins "bool" = some (.type "bool") := by decide +kernel
theorem b_str : bootBuiltins "str" = some (.type "str") := by decide +kernel
theorem b_tuple : bootBuiltins "tuple" = some (.type "tuple") := by decide +kernel
theorem b_list : bootBuiltins "list" = some (.type "list") := by decide +kernel
theorem b_dict : bootBuiltins "dict" = some (.type "dict") := by decide +kernel
theorem b_sum : bootBuiltins "sum" = some (.builtin "sum") := by decide +kernel
theorem b_all : bootBuiltins "all" = some (.builtin "all") := by decide +kernel
theorem b_any : bootBuiltins "any" = some (.builtin "any") := by decide +kernel
theorem b_min : bootBuiltins "min" = some (.builtin "min") := by decide +kernel
theorem b_max : bootBuiltins "max" = some (.builtin "max") := by decide +kernel
theorem b_repr : bootBuiltins "repr" = some (.builtin "repr") := by decide +kernel
theorem b_sorted : bootBuiltins "sorted" = some (.builtin "sorted") := by decide +kernel
theorem i_int : isiOk "int" = true := by decide +kernel
theorem i_bool : isiOk "bool" = true := by decide +kernel
theorem i_str : isiOk "str" = true := by decide +kernel
theorem i_tuple : isiOk "tuple" = true := by decide +kernel
theorem i_list : isiOk "list" = true := by decide +kernel
theorem i_dict : isiOk "dict" = true := by decide +kernel
end Dd

namespace Dd
open PySem PySem.Spec L2
def gsNil : List D → M Unit
  | [] => mPure ()
  | _ => mStuck
def mLstN (ms : M (List D)) : M (List D) := mBind ms fun ds => mLift (if fit ds.length = true then some ds else none)
section
variable {X : Cx} {W : WX} {K : PySem.W.Frag}
theorem dgsNil2 : PGs X [] (tGs X.K W gsNil) := PGs.imp pgs_nil (by
  rintro vs σ H Q ⟨c, F, ρ, ds, ok, r, h⟩
  cases r with
  | nil => exact ⟨rfl, h σ H F ok (Same.refl F)⟩
  | cons _ _ => exact h.elim)
def insD : List D → List D → Option (List D × D)
  | ds, [.int i, d] => if (fit ds.length && decide (0 ≤ i) && decide (i.natAbs < 9223372036854775808)) = true then some (ds.take i.toNat ++ [d] ++ ds.drop i.toNat, .none) else none
  | _, _ => none
def rIns : V → List V → Hp → VK → Prop := fun x vs H Q => ∃ (l : Addr) (xs : List V) (i : Int) (y : V), x = .ref l ∧ vs = [.int i, y] ∧ H l = some (.lst xs) ∧ xs.length < sizeLine ∧ 0 ≤ i ∧ i < 2 ^ 63 ∧ Q .non (upd H l (.lst (xs.take i.toNat ++ [y] ++ xs.drop i.toNat)))
theorem mut_ins : MutD K rIns insD := by
  intro H F l xs vs ds as ds' d Q s hF hl hx hv e k
  unfold insD at e
  split at e
  · rename_i i y
    split at e
    · rename_i hb
      cases e
      simp only [Bool.and_eq_true] at hb
      cases hv with
      | cons h t =>
        cases t with
        | cons h' t' =>
          cases t'
          cases h
          exact ⟨l, xs, i, _, rfl, rfl, hl, by rw [DpAll.length hx]; exact fit_lt hb.1.1, of_decide_eq_true hb.1.2, by have := of_decide_eq_true hb.2; omega, k _ _ (DpAll.append (DpAll.append (DpAll.take _ hx) (.one h')) (DpAll.drop _ hx)) .non⟩
    · cases e
  · cases e
theorem opD_addI : OpD K (rI0 fun i j => .int (i + j)) (iI fun i j => .int (i + j)) := opD_I fun _ _ _ => .int _
end
end Dd

namespace Dd
open PySem PySem.Spec L2
/-! ### a def by its body, its scope and its statements spelled out -/
section
variable {P : Program} {w : World} {K : PySem.W.Frag} {mg : Str → Option Value} {base : Heap} {x qual : Str} {st : Stmt} {f : Addr} {fd : FuncData} {N ps : List Str} {k : Nat} {m : M Fl} {sc : Scope} {bd : List Stmt}
abbrev BodyL (P : Program) (w : World) (K : PySem.W.Frag) (mg : Str → Option Value) (base : Heap) (qual : Str) (sc : Scope) (bd : List Stmt) (f : Addr) (N : List Str) (k : Nat) (m : M Fl) : Prop :=
  ∀ (cdv : Value) (A : Around) (outer : List Env) (s : Shared) (H : Hp) (E : XK), Room k (A.deeper (PyProof.Rows.envOfC qual sc s.heap.objs.size f cdv)) →
    PSs (cxOf (L2.CX P w) P w K mg base N qual sc f cdv A outer s H E) bd (tS K (fun cls d _ H => E cls d H) m)
theorem okV2 (Fn : Fun K x qual st f fd) (S : FnScope N ps (defScope st)) (h1 : defScope st = sc) (h2 : defBody st = bd) (hb : BodyL P w K mg base qual sc bd f N k m) : FnOk P w K mg base (L2.CX P w) (k + 1) f fd ps (spV K ps.length (runV m N.length)) := by
  subst h1 h2
  exact okV Fn S hb
theorem okF2 (Fn : Fun K x qual st f fd) (S : FnScope N ps (defScope st)) (h1 : defScope st = sc) (h2 : defBody st = bd) (hb : BodyL P w K mg base qual sc bd f N k m) : FnOk P w K mg base (L2.CX P w) (k + 1) f fd ps (spF K ps.length (runF m N.length)) := by
  subst h1 h2
  exact okF Fn S hb
theorem okB2 (Fn : Fun K x qual st f fd) (S : FnScope N ps (defScope st)) (h1 : defScope st = sc) (h2 : defBody st = bd) (hb : BodyL P w K mg base qual sc bd f N k m) : FnOk P w K mg base (L2.CX P w) (k + 1) f fd ps (spB K ps.length (runB m N.length)) := by
  subst h1 h2
  exact okB Fn S hb
theorem okS2 (Fn : Fun K x qual st f fd) (S : FnScope N ps (defScope st)) (h1 : defScope st = sc) (h2 : defBody st = bd) (hb : BodyL P w K mg base qual sc bd f N k m) : FnOk P w K mg base (L2.CX P w) (k + 1) f fd ps (spS K ps.length (runS m N.length)) := by
  subst h1 h2
  exact okS Fn S hb
theorem okL2 (Fn : Fun K x qual st f fd) (hps : ps.length = 1) (S : FnScope N ps (defScope st)) (h1 : defScope st = sc) (h2 : defBody st = bd) (hb : BodyL P w K mg base qual sc bd f N k m) : FnOk P w K mg base (L2.CX P w) (k + 1) f fd ps (spL K (runL m N.length)) := by
  subst h1 h2
  exact okL Fn hps S hb
end
end Dd

namespace Dd
open PySem PySem.Spec L2
/-! ### reasoning about runs -/
theorem bind_is {α β : Type} {m : M α} {f : α → M β} {ρ ρ' : En} {a : α} (h : m ρ = some (.ok a ρ')) : mBind m f ρ = f a ρ' := by
  unfold mBind; rw [h]
theorem seq_nx {m1 m2 : M Fl} {ρ ρ' : En} (h : m1 ρ = some (.ok .nx ρ')) : mSeq m1 m2 ρ = m2 ρ' := bind_is h
/-- a loop by an invariant over its turns; no turn leaves it -/
theorem forL_ix {g : D → M Unit} {body : M Fl} (P : Nat → En → Prop) : ∀ (ds : List D) (i : Nat) (ρ : En), P i ρ →
    (∀ j d ρ, ds[j]? = some d → P (i + j) ρ → ∃ ρ1 ρ2, g d ρ = some (.ok () ρ1) ∧ (body ρ1 = some (.ok .nx ρ2) ∨ body ρ1 = some (.ok .ct ρ2)) ∧ P (i + j + 1) ρ2) →
    ∃ ρ', mForL g body ds ρ = some (.ok .nx ρ') ∧ P (i + ds.length) ρ'
  | [], i, ρ, p, _ => ⟨ρ, rfl, p⟩
  | d :: ds, i, ρ, p, h => by
    obtain ⟨ρ1, ρ2, e1, e2, p2⟩ := h 0 d ρ rfl p
    obtain ⟨ρ', e3, p3⟩ := forL_ix P ds (i + 1) ρ2 p2 fun j d' ρ' e q => by
      obtain ⟨a, b, c1, c2, c3⟩ := h (j + 1) d' ρ' (by simpa using e) (by rw [show i + (j + 1) = i + 1 + j from by omega]; exact q)
      exact ⟨a, b, c1, c2, by rw [show i + 1 + j + 1 = i + (j + 1) + 1 from by omega]; exact c3⟩
    refine ⟨ρ', ?_, by rw [List.length_cons, show i + (ds.length + 1) = i + 1 + ds.length from by omega]; exact p3⟩
    unfold mForL
    rw [bind_is e1]
    rcases e2 with e2 | e2 <;> (rw [bind_is e2]; exact e3)
theorem forL_inv {g : D → M Unit} {body : M Fl} (P : En → Prop) (ds : List D) (ρ : En) (p : P ρ)
    (h : ∀ d ρ, d ∈ ds → P ρ → ∃ ρ1 ρ2, g d ρ = some (.ok () ρ1) ∧ (body ρ1 = some (.ok .nx ρ2) ∨ body ρ1 = some (.ok .ct ρ2)) ∧ P ρ2) :
    ∃ ρ', mForL g body ds ρ = some (.ok .nx ρ') ∧ P ρ' := by
  obtain ⟨ρ', e, q⟩ := forL_ix (fun _ => P) ds 0 ρ p fun j d ρ e q => h d ρ (List.mem_of_getElem? e) q
  exact ⟨ρ', e, q⟩
/-- a comprehension whose turns leave the slots as they were -/
theorem go_filter {vs : List Nat} {g : D → M Unit} {tt : M Bool} {te : M D} {ρ : En} {p : D → Bool} {f : D → D} : ∀ (ds : List D),
    (∀ d ∈ ds, ∃ ρ1 ρ2, g d ρ = some (.ok () ρ1) ∧ tt ρ1 = some (.ok (p d) ρ2) ∧ (p d = true → ∃ ρ3, te ρ2 = some (.ok (f d) ρ3) ∧ unsE ρ3 vs = ρ) ∧ (p d = false → unsE ρ2 vs = ρ)) →
    mGo vs g tt te ds ρ = some (.ok ((ds.filter p).map f) ρ)
  | [], _ => rfl
  | d :: ds, h => by
    obtain ⟨ρ1, ρ2, e1, e2, h3, h4⟩ := h d List.mem_cons_self
    have ih := go_filter (vs := vs) (g := g) (tt := tt) (te := te) ds fun d' h' => h d' (List.mem_cons_of_mem _ h')
    unfold mGo
    rw [bind_is e1, bind_is e2]
    cases q : p d with
    | true =>
      obtain ⟨ρ3, e3, e4⟩ := h3 q
      rw [if_pos rfl]
      have e5 : (mBind te fun y => mPure [y]) ρ2 = some (.ok [f d] ρ3) := by rw [bind_is e3]; rfl
      rw [bind_is e5]
      have e6 : mUn_ vs ρ3 = some (.ok () ρ) := by unfold mUn_; rw [e4]
      rw [bind_is e6, bind_is ih, List.filter_cons_of_pos q]; rfl
    | false =>
      rw [if_neg (by decide)]
      have e5 : (mPure ([] : List D)) ρ2 = some (.ok [] ρ2) := rfl
      rw [bind_is e5]
      have e6 : mUn_ vs ρ2 = some (.ok () ρ) := by unfold mUn_; rw [h4 q]
      rw [bind_is e6, bind_is ih, List.filter_cons_of_neg (by rw [q]; decide)]; rfl
theorem go_map {vs : List Nat} {g : D → M Unit} {te : M D} {ρ : En} {f : D → D} (ds : List D)
    (h : ∀ d ∈ ds, ∃ ρ1 ρ3, g d ρ = some (.ok () ρ1) ∧ te ρ1 = some (.ok (f d) ρ3) ∧ unsE ρ3 vs = ρ) :
    mGo vs g (mPure true) te ds ρ = some (.ok (ds.map f) ρ) := by
  have q := go_filter (vs := vs) (g := g) (tt := mPure true) (te := te) (ρ := ρ) (p := fun _ => true) (f := f) ds fun d hd => by
    obtain ⟨ρ1, ρ3, e1, e2, e3⟩ := h d hd
    exact ⟨ρ1, ρ1, e1, rfl, fun _ => ⟨ρ3, e2, e3⟩, fun z => by cases z⟩
  rw [q, List.filter_eq_self.mpr (fun _ _ => rfl)]
theorem comp_is {vs : List Nat} {mi : M (List D)} {g : D → M Unit} {tt : M Bool} {te : M D} {ρ ρ1 ρe : En} {ds out : List D} (h1 : mi ρ = some (.ok ds ρ1)) (h2 : fit ds.length = true) (h3 : mGo vs g tt te ds (unsE ρ1 vs) = some (.ok out ρe)) :
    mComp vs mi g tt te ρ = some (.ok out (unsE ρe vs)) := by
  unfold mComp
  rw [bind_is h1]
  unfold mRest
  rw [h3]
  simp only [if_pos h2]
theorem atI_nat' {α : Type} {xs : List α} {i : Int} {v : α} (h0 : 0 ≤ i) (h : xs[i.toNat]? = some v) : atI xs i = some v := by
  have := atI_nat h
  rwa [Int.toNat_of_nonneg h0] at this
theorem rngL_mem {lo hi : Int} {d : D} (h : d ∈ rngL lo hi) : ∃ i : Int, d = .int i ∧ lo ≤ i ∧ i < hi := by
  obtain ⟨i, e⟩ := List.getElem?_of_mem h
  obtain ⟨e1, e2⟩ := rngL_get e
  exact ⟨_, e1, by omega, by omega⟩
def isiS (T t : String) : Bool := match kitB t T with
  | some b => b
  | none => false
theorem isiT_eq {T : String} {d : D} : isiT T d = isiS T (typD d) := rfl
theorem isi_int_NoneType : isiS "int" "NoneType" = false := by decide +kernel
theorem isi_int_bool : isiS "int" "bool" = true := by decide +kernel
theorem isi_int_int : isiS "int" "int" = true := by decide +kernel
theorem isi_int_str : isiS "int" "str" = false := by decide +kernel
theorem isi_int_list : isiS "int" "list" = false := by decide +kernel
theorem isi_int_tuple : isiS "int" "tuple" = false := by decide +kernel
theorem isi_int_dict : isiS "int" "dict" = false := by decide +kernel
theorem isi_bool_NoneType : isiS "bool" "NoneType" = false := by decide +kernel
theorem isi_bool_bool : isiS "bool" "bool" = true := by decide +kernel
theorem isi_bool_int : isiS "bool" "int" = false := by decide +kernel
theorem isi_bool_str : isiS "bool" "str" = false := by decide +kernel
theorem isi_bool_list : isiS "bool" "list" = false := by decide +kernel
theorem isi_bool_tuple : isiS "bool" "tuple" = false := by decide +kernel
theorem isi_bool_dict : isiS "bool" "dict" = false := by decide +kernel
theorem isi_str_NoneType : isiS "str" "NoneType" = false := by decide +kernel
theorem isi_str_bool : isiS "str" "bool" = false := by decide +kernel
theorem isi_str_int : isiS "str" "int" = false := by decide +kernel
theorem isi_str_str : isiS "str" "str" = true := by decide +kernel
theorem isi_str_list : isiS "str" "list" = false := by decide +kernel
theorem isi_str_tuple : isiS "str" "tuple" = false := by decide +kernel
theorem isi_str_dict : isiS "str" "dict" = false := by decide +kernel
theorem isi_list_NoneType : isiS "list" "NoneType" = false := by decide +kernel
theorem isi_list_bool : isiS "list" "bool" = false := by decide +kernel
theorem isi_list_int : isiS "list" "int" = false := by decide +kernel
theorem isi_list_str : isiS "list" "str" = false := by decide +kernel
theorem isi_list_list : isiS "list" "list" = true := by decide +kernel
theorem isi_list_tuple : isiS "list" "tuple" = false := by decide +kernel
theorem isi_list_dict : isiS "list" "dict" = false := by decide +kernel
theorem isi_tuple_NoneType : isiS "tuple" "NoneType" = false := by decide +kernel
theorem isi_tuple_bool : isiS "tuple" "bool" = false := by decide +kernel
theorem isi_tuple_int : isiS "tuple" "int" = false := by decide +kernel
theorem isi_tuple_str : isiS "tuple" "str" = false := by decide +kernel
theorem isi_tuple_list : isiS "tuple" "list" = false := by decide +kernel
theorem isi_tuple_tuple : isiS "tuple" "tuple" = true := by decide +kernel
theorem isi_tuple_dict : isiS "tuple" "dict" = false := by decide +kernel
theorem isi_dict_NoneType : isiS "dict" "NoneType" = false := by decide +kernel
theorem isi_dict_bool : isiS "dict" "bool" = false := by decide +kernel
theorem isi_dict_int : isiS "dict" "int" = false := by decide +kernel
theorem isi_dict_str : isiS "dict" "str" = false := by decide +kernel
theorem isi_dict_list : isiS "dict" "list" = false := by decide +kernel
theorem isi_dict_tuple : isiS "dict" "tuple" = false := by decide +kernel
theorem isi_dict_dict : isiS "dict" "dict" = true := by decide +kernel
theorem toBools_mapf {α : Type} (p : α → Bool) : ∀ (ds : List α), toBools (ds.map fun x => PyData.bool (p x)) = some (ds.map p)
  | [] => rfl
  | d :: ds => by
    show (toBools (ds.map fun x => PyData.bool (p x))).map (p d :: ·) = _
    rw [toBools_mapf p ds]; rfl
theorem allD_mapf {α : Type} (p : α → Bool) (ds : List α) : allD [.list (ds.map fun x => PyData.bool (p x))] = some (.bool (ds.all p)) := by
  show (toBools (ds.map fun x => PyData.bool (p x))).map _ = _
  rw [toBools_mapf]
  show some (PyData.bool ((ds.map p).all id)) = _
  rw [List.all_map]; rfl
theorem anyD_mapf {α : Type} (p : α → Bool) (ds : List α) : anyD [.list (ds.map fun x => PyData.bool (p x))] = some (.bool (ds.any p)) := by
  show (toBools (ds.map fun x => PyData.bool (p x))).map _ = _
  rw [toBools_mapf]
  show some (PyData.bool ((ds.map p).any id)) = _
  rw [List.any_map]; rfl
theorem sh_int (i : Int) : SeqAt.shaped (.int i) = true := by simp [SeqAt.shaped, PyData.canLay0, PyData.depth]
theorem sh_bool (i : Bool) : SeqAt.shaped (.bool i) = true := by simp [SeqAt.shaped, PyData.canLay0, PyData.depth]
theorem sh_none : SeqAt.shaped .none = true := by simp [SeqAt.shaped, PyData.canLay0, PyData.depth]
theorem eq_int (i j : Int) : eqD (.int i) (.int j) = some (.bool (decide (i = j))) := by
  have e : PyData.eqv (.int i) (.int j) = decide (i = j) := by
    simp only [PyData.eqv]
    by_cases h : i = j <;> simp [h]
  simp [eqD, sh_int, e]
theorem ne_int (i j : Int) : neD (.int i) (.int j) = some (.bool (!decide (i = j))) := by
  have e : PyData.eqv (.int i) (.int j) = decide (i = j) := by
    simp only [PyData.eqv]
    by_cases h : i = j <;> simp [h]
  simp [neD, sh_int, e]
/-- data whose lists go at most n deep, all texts laid -/
def Sh (n : Nat) (d : D) : Prop := d.canLay0 = true ∧ d.depth ≤ n
theorem Sh.shaped {n : Nat} {d : D} (h : Sh n d) (hn : n ≤ 64) : SeqAt.shaped d = true := by
  simp only [SeqAt.shaped, Bool.and_eq_true, decide_eq_true_eq]
  exact ⟨h.1, by have := h.2; omega⟩
theorem Sh.mono {n m : Nat} {d : D} (h : Sh n d) (hn : n ≤ m) : Sh m d := ⟨h.1, Nat.le_trans h.2 hn⟩
theorem Sh.int (i : Int) : Sh 0 (.int i) := ⟨by simp [PyData.canLay0], by simp [PyData.depth]⟩
theorem Sh.bool (i : Bool) : Sh 0 (.bool i) := ⟨by simp [PyData.canLay0], by simp [PyData.depth]⟩
theorem Sh.none : Sh 0 .none := ⟨by simp [PyData.canLay0], by simp [PyData.depth]⟩
theorem sh_all {n : Nat} : ∀ {ds : List D}, (∀ d ∈ ds, Sh n d) → PyData.canLayAll0 ds = true ∧ PyData.depthAll ds ≤ n
  | [], _ => ⟨by simp [PyData.canLayAll0], by simp [PyData.depthAll]⟩
  | d :: ds, h => by
    obtain ⟨a, b⟩ := h d List.mem_cons_self
    obtain ⟨a', b'⟩ := sh_all (ds := ds) fun x hx => h x (List.mem_cons_of_mem _ hx)
    refine ⟨by simp only [PyData.canLayAll0, a, a', Bool.and_self], ?_⟩
    simp only [PyData.depthAll]
    omega
theorem Sh.list {n : Nat} {ds : List D} (h : ∀ d ∈ ds, Sh n d) : Sh (n + 1) (.list ds) := by
  obtain ⟨a, b⟩ := sh_all h
  exact ⟨by simp only [PyData.canLay0, a], by simp only [PyData.depth]; omega⟩
theorem Sh.tuple {n : Nat} {ds : List D} (h : ∀ d ∈ ds, Sh n d) : Sh (n + 1) (.tuple ds) := by
  obtain ⟨a, b⟩ := sh_all h
  exact ⟨by simp only [PyData.canLay0, a], by simp only [PyData.depth]; omega⟩
theorem Sh.ints (ns : List Int) : Sh 1 (.list (ns.map PyData.int)) := Sh.list fun d hd => by
  obtain ⟨i, _, rfl⟩ := List.mem_map.mp hd
  exact Sh.int i
theorem eq_sh {n m : Nat} {a b : D} (ha : Sh n a) (hb : Sh m b) (hn : n ≤ 64) (hm : m ≤ 64) : eqD a b = some (.bool (PyData.eqv a b)) := by
  simp [eqD, ha.shaped hn, hb.shaped hm]
theorem ne_sh {n m : Nat} {a b : D} (ha : Sh n a) (hb : Sh m b) (hn : n ≤ 64) (hm : m ≤ 64) : neD a b = some (.bool (!PyData.eqv a b)) := by
  simp [neD, ha.shaped hn, hb.shaped hm]
theorem eqvAll_refl : ∀ (ds : List D), (∀ d ∈ ds, PyData.eqv d d = true) → PyData.eqvAll ds ds = true
  | [], _ => by simp [PyData.eqvAll]
  | d :: ds, h => by
    simp only [PyData.eqvAll, Bool.and_eq_true]
    exact ⟨h d List.mem_cons_self, eqvAll_refl ds fun x hx => h x (List.mem_cons_of_mem _ hx)⟩
/-- repr of truths -/
def reprB (b : Bool) : D := .str (if b then "True" else "False")
theorem repr_bool (b : Bool) : reprD [.bool b] = some (reprB b) := rfl
theorem ne_reprB (a b : Bool) : neD (reprB a) (reprB b) = some (.bool (!decide (a = b))) := by
  have h1 : ∀ b, SeqAt.shaped (reprB b) = true := fun b => by cases b <;> decide +kernel
  have h2 : PyData.eqv (reprB a) (reprB b) = decide (a = b) := by cases a <;> cases b <;> decide +kernel
  simp [neD, h1, h2]
theorem rng2_is {ms : M (List D)} {ρ ρ1 : En} {i j : Int} (h : ms ρ = some (.ok [.int i, .int j] ρ1)) (hi : rngOk i = true) (hj : rngOk j = true) : mRng2 ms ρ = some (.ok (rngL i j) ρ1) := by
  unfold mRng2
  rw [bind_is h]
  have e : rngD2 [.int i, .int j] = some (rngL i j) := by
    show (if (rngOk i && rngOk j) = true then some (rngL i j) else none) = _
    rw [hi, hj]; rfl
  rw [e]; rfl
theorem rng1_is {ms : M (List D)} {ρ ρ1 : En} {j : Int} (h : ms ρ = some (.ok [.int j] ρ1)) (hj : rngOk j = true) : mRng1 ms ρ = some (.ok (rngL 0 j) ρ1) := by
  unfold mRng1
  rw [bind_is h]
  have e : rngD1 [.int j] = some (rngL 0 j) := by
    show (if rngOk j = true then some (rngL 0 j) else none) = _
    rw [hj]; rfl
  rw [e]; rfl
theorem rngOk_le {i : Int} (h0 : -1000000000000 ≤ i) (h1 : i ≤ 1000000000000) : rngOk i = true := by
  unfold rngOk
  exact decide_eq_true (by omega)
end Dd

namespace Dd
open PySem PySem.Spec L2
section
variable {X : Cx} {W : WX} {K : PySem.W.Frag}
/-! ### isinstance by several types -/
inductive TyNs (X : Cx) : List Expr → List String → Prop
  | nil : TyNs X [] []
  | cons {tn : Str} {T : String} {q : Pos} {es : List Expr} {Ts : List String} (h : PE X (.Name tn q) (tC (.ty T))) (hT : isiOk T = true) (r : TyNs X es Ts) (hs : starEach (.Name tn q :: es) X.env = (false, eval (.Name tn q) X.env) :: starEach es X.env) : TyNs X (.Name tn q :: es) (T :: Ts)
theorem tys {tn : Str} {T : String} {q : Pos} {es : List Expr} {Ts : List String} (hmT : X.mg tn = none) (hT : isiOk T = true) (hv : bootBuiltins tn = some (.type T)) (r : TyNs X es Ts) (hgT : Gl X tn := by rfl)
    (hn : tn ≠ "__name__" := by decide) (hdb : (tn == ("__debug__" : Str)) = false := by decide) (hs : starEach (.Name tn q :: es) X.env = (false, eval (.Name tn q) X.env) :: starEach es X.env := by rfl) : TyNs X (.Name tn q :: es) (T :: Ts) :=
  .cons (pe_bltn hgT hmT hv (hn := hn) (hd := hdb) (r := (show RelV (V.ty T) (Value.type T) from rfl))) hT r hs
def tTys (Ts : List String) : TA := fun _ H Q => Q (Ts.map V.ty) H
theorem pa_tys : ∀ {es : List Expr} {Ts : List String}, TyNs X es Ts → PA X es (tTys Ts)
  | _, _, .nil => pa_nil
  | _, _, .cons h _ r hs => pa_cons h (pa_tys r) hs
theorem tys_ok : ∀ {es : List Expr} {Ts : List String}, TyNs X es Ts → ∀ T ∈ Ts, isiOk T = true
  | _, _, .nil, T, h => by cases h
  | _, _, .cons _ hT r _, T, h => by
    rcases List.mem_cons.mp h with rfl | h
    · exact hT
    · exact tys_ok r T h
theorem tys_pair : ∀ Ts : List String, Paired ClsV (Ts.map V.ty) (Ts.map Value.type)
  | [] => .nil
  | T :: Ts => .cons (.ty T) (tys_pair Ts)
def isiA (Ts : List String) (d : D) : Bool := Ts.any fun T => isiT T d
theorem isiA_kit : ∀ {Ts : List String}, (∀ T ∈ Ts, isiOk T = true) → ∀ d : D, PySem.W.kitAny K (.type (typD d)) (Ts.map Value.type) = some (isiA Ts d)
  | [], _, d => kitAny_nil
  | T :: Ts, h, d => by
    refine kitAny_cons (isi_kit (h T List.mem_cons_self) d) (fun e => ?_) fun e => ?_
    · rw [isiA_kit (fun T' h' => h T' (List.mem_cons_of_mem _ h')) d]
      show some (Ts.any fun T => isiT T d) = some ((T :: Ts).any fun T => isiT T d)
      rw [List.any_cons, e, Bool.false_or]
    · show ((T :: Ts).any fun T => isiT T d) = true
      rw [List.any_cons, e, Bool.true_or]
theorem pk_alloc {c : Ct} {σ : St} {H F : Hp} {ρ : En} {x : V} {d : D} {p : Addr} {o : HO} (ok : Ok K c σ H F ρ) (h : H p = none) (r : Pk K H F x d) : Pk K (upd H p o) (upd F p o) x d := by
  have s : Same F (upd F p o) := Same.updN (ok.new h).1
  rcases r with r | ⟨q, vs, ds, rfl, rfl, hq, r⟩
  · exact .inl (Dp.mono s r)
  · exact .inr ⟨q, vs, ds, rfl, rfl, Same.updN h _ _ hq, DpAll.mono s r⟩
def mIsiA (Ts : List String) (m : M D) : M D := mBind m fun d => mPure (.bool (isiA Ts d))
variable {a : Expr} {m : M D} {p pos tpos : Pos} {es : List Expr} {Ts : List String} {k : Nat}
theorem dIsiA (hm : X.mg "isinstance" = none) (ht : TyNs X es Ts) (ha : PE X a (tP X.K W m)) (hl : Ts.length ≤ 100 := by decide) (hg : Gl X "isinstance" := by rfl)
    (hs : starEach [a, .Tuple es k tpos] X.env = (false, eval a X.env) :: starEach [.Tuple es k tpos] X.env := by rfl) (hs2 : starEach [.Tuple es k tpos] X.env = (false, eval (.Tuple es k tpos) X.env) :: starEach [] X.env := by rfl) (hpl : (backTo pos (starEach [.Tuple es k tpos] X.env)).any (·.1) = false := by rfl)
    (hbi : bootBuiltins "isinstance" = some (.builtin "isinstance") := by decide +kernel) : PE X (.Call (.Name "isinstance" p) [a, .Tuple es k tpos] [] pos) (tE X.K W (mIsiA Ts m)) :=
  PE.imp (pe_callB call_isiT hg hm hbi (pa_cons ha (pa_cons (pe_tup (pa_tys ht)) pa_nil hs2) hs) (by decide) (by decide) hs hpl) (by
  rintro σ H Q ⟨c, F, ρ, ok, h⟩
  refine ⟨c, F, ρ, ok, post_mono ?_ (post_bind h)⟩
  rintro d H1 F1 _ ⟨ρ1, ok1, s1, h1⟩ v rv
  show (Ts.map V.ty).length ≤ sizeLine ∧ ∀ q, H1 q = none → rIsiT X.K [v, .ref q] (upd H1 q (.tup (Ts.map V.ty))) Q
  refine ⟨by rw [List.length_map, sizeLine_eq]; omega, fun q hq => ?_⟩
  have ok2 := ok1.alloc (o := .tup (Ts.map V.ty)) hq
  exact ⟨v, q, _, _, _, _, rfl, upd_same, tys_pair Ts, typ_of ok2 (pk_alloc ok1 hq rv), isiA_kit (tys_ok ht) d, h1 _ _ ok2 (Same.updN (ok1.new hq).1) _ (.bl _)⟩)
end
/-! ### a def that calls itself -/
section
variable {P : Program} {w : World} {K : PySem.W.Frag} {mg : Str → Option Value} {base : Heap} {j n : Nat} {f : Addr} {fd : FuncData} {ps : List Str}
theorem okV0 {g : List D → Option (Rs D)} (hg : ∀ ds, g ds = none) : FnOk P w K mg base (L2.CX P w) j f fd ps (spV K n g) := by
  have no : ∀ vs H Q E, ¬ spV K n g vs H Q E := fun vs H Q E h => by
    obtain ⟨F, ds, _, _, _, h⟩ := h
    simp only [hg] at h
  exact ⟨fun vs H Q E h => absurd h (no _ _ _ _), fun A outer s H args us vs Q E _ _ _ _ h => absurd h (no _ _ _ _)⟩
end
end Dd

namespace Dd
open PySem PySem.Spec L2
/-! ### sorted: lists of pairs of ints -/
def leP (p q : Int × Int) : Bool := !SrtO.lexB q p
theorem leP_iff {p q : Int × Int} : leP p q = true ↔ p.1 < q.1 ∨ (p.1 = q.1 ∧ p.2 ≤ q.2) := by
  unfold leP
  rw [Bool.not_eq_true', SrtO.lexB_no]
  omega
/-- sorted(xs), xs a list whose members stand for pairs of ints by R -/
def rSortDP (K : PySem.W.Frag) : List V → Hp → VK → Prop := fun vs H Q => ∃ (R : V → Int × Int → Prop) (a : Addr) (xs : List V) (ps : List (Int × Int)), vs = [V.ref a] ∧ SqL K H a xs ∧ Paired R xs ps ∧ (∀ x p, R x p → ∃ t, x = V.ref t ∧ SqT K H t [.int p.1, .int p.2]) ∧
  ∀ ys qs l, Paired R ys qs → qs.Perm ps → qs.Pairwise (fun p q => leP p q = true) → H l = none → Q (.ref l) (upd H l (.lst ys))
theorem isPair_inj {h : Heap} {v : Value} {a b c d : Int} (p : Srt.IsPair h v a b) (q : Srt.IsPair h v c d) : a = c ∧ b = d := by
  obtain ⟨t, o, t1, t2, n, e, ho, hc, hd⟩ := p
  obtain ⟨t', o', t1', t2', n', e', ho', hc', hd'⟩ := q
  subst e
  cases e'
  rw [ho] at ho'
  cases ho'
  rw [hd] at hd'
  injection hd' with h1 _
  injection h1 with h1
  injection h1 with h2 h3
  injection h3 with h3 _
  injection h2 with h2 _
  injection h3 with h3 _
  exact ⟨h2, h3⟩
open Classical in
noncomputable def pairOf (h : Heap) (u : Value) : Int × Int := if e : ∃ p : Int × Int, Srt.IsPair h u p.1 p.2 then Classical.choose e else (0, 0)
theorem pairOf_is {h : Heap} {u : Value} {p : Int × Int} (e : Srt.IsPair h u p.1 p.2) : pairOf h u = p := by
  have e' : ∃ p : Int × Int, Srt.IsPair h u p.1 p.2 := ⟨p, e⟩
  unfold pairOf
  rw [dif_pos e']
  obtain ⟨a, b⟩ := isPair_inj (Classical.choose_spec e') e
  exact Prod.ext a b
theorem paired_left {α β : Type} {R : α → β → Prop} : ∀ {xs : List α} {ps : List β}, Paired R xs ps → ∀ x ∈ xs, ∃ p, R x p
  | _, _, .nil, x, h => by cases h
  | _, _, .cons r t, x, h => by
    rcases List.mem_cons.mp h with rfl | h
    · exact ⟨_, r⟩
    · exact paired_left t x h
theorem paired_map {α β γ : Type} {R : α → β → Prop} {f : γ → α} {g : γ → β} : ∀ {us : List γ}, (∀ u ∈ us, R (f u) (g u)) → Paired R (us.map f) (us.map g)
  | [], _ => .nil
  | u :: us, h => .cons (h u List.mem_cons_self) (paired_map fun v hv => h v (List.mem_cons_of_mem _ hv))
theorem paired_fn {α β γ : Type} {R : α → β → Prop} {f : γ → α} {g : γ → β} : ∀ {us : List γ} {ps : List β}, Paired R (us.map f) ps → (∀ u ∈ us, ∀ p, R (f u) p → g u = p) → ps = us.map g
  | [], _, .nil, _ => rfl
  | u :: us, _, .cons r t, h => by
    rw [List.map_cons, h u List.mem_cons_self _ r, paired_fn t fun v hv => h v (List.mem_cons_of_mem _ hv)]
section
variable {X : Cx} {K : PySem.W.Frag}
theorem cr_sortDP : CallR X (.builtin "sorted") (rSortDP X.K) := by
  intro pins s σ H vs us Q I r h
  obtain ⟨R, a, xs, ps, rfl, hs, hx, hR, q⟩ := h
  obtain ⟨its, rv, hl, hz⟩ := I.list hs
  obtain ⟨u, rfl, ru⟩ := vals1 r
  obtain rfl : u = Value.ref a := ru
  obtain ⟨e1, e2⟩ := refs_back rv fun x m => by
    obtain ⟨p, hp⟩ := paired_left hx x m
    obtain ⟨t, e, _⟩ := hR x p hp
    exact ⟨t, e⟩
  have isP : ∀ v ∈ its, ∀ p, R (backV v) p → Srt.IsPair s.heap v p.1 p.2 := fun v hv p hp => by
    obtain ⟨t, rfl⟩ := e2 v hv
    obtain ⟨t', e, hT⟩ := hR _ p hp
    cases e
    obtain ⟨its2, r2, ⟨o, ho, hc, n, hd⟩, _⟩ := I.tuple hT
    obtain ⟨u1, u2, rfl, ri, rj⟩ := vals2 r2
    obtain ⟨t1, rfl⟩ := ri
    obtain ⟨t2, rfl⟩ := rj
    exact ⟨t, o, t1, t2, n, rfl, ho, hc, hd⟩
  have hk : ∀ v ∈ its, ∀ p, R (backV v) p → pairOf s.heap v = p := fun v hv p hp => pairOf_is (isP v hv p hp)
  have hg : ∀ v ∈ its, R (backV v) (pairOf s.heap v) := fun v hv => by
    have hm : backV v ∈ xs := by rw [e1]; exact List.mem_map.mpr ⟨_, hv, rfl⟩
    obtain ⟨p, hp⟩ := paired_left hx _ hm
    rw [hk v hv p hp]; exact hp
  have hps : ps = its.map (pairOf s.heap) := by
    rw [e1] at hx
    exact paired_fn hx hk
  refine SrtO.sorted_pairsO (k := pairOf s.heap) hl.isList (by rw [← rv.length]; exact hz) (fun v hv => isP v hv _ (hg v hv)) fun h' d out h1 h2 kp hd hn => ?_
  have h3 : ∀ u ∈ out, ∃ a, u = Value.ref a := fun u hu => e2 u (h2.perm.mem_iff.mp hu)
  obtain ⟨n, hn⟩ := hn
  refine ⟨.ref d, upd H d (.lst (out.map backV)), I.laid (t' := s.toks) kp hd ⟨?_, out, n, vals_back h3, hn⟩, rfl, q _ (out.map (pairOf s.heap)) d (paired_map fun u hu => hg u (h2.perm.mem_iff.mp hu)) ?_ ?_ (I.hok.fresh hd)⟩
  · rw [List.length_map, h2.perm.length_eq, ← rv.length]
    exact hz
  · rw [hps]
    exact h2.perm.map _
  · refine List.pairwise_map.mpr (h1.imp fun {x y} h => ?_)
    have h' : SrtO.lexB (pairOf s.heap y) (pairOf s.heap x) = false := h
    unfold leP
    rw [h']; rfl
end
/-! ### the sorted list is one -/
theorem sorted_uniq {α : Type} (le : α → α → Bool) (anti : ∀ a b, le a b = true → le b a = true → a = b) : ∀ {l m : List α}, l.Perm m → l.Pairwise (fun a b => le a b = true) → m.Pairwise (fun a b => le a b = true) → l = m
  | [], m, h, _, _ => (List.Perm.nil_eq h)
  | x :: l, [], h, _, _ => absurd h.length_eq (by simp)
  | x :: l, y :: m, h, hl, hm => by
    have hxy : x = y := by
      rcases List.mem_cons.mp (h.mem_iff.mp (List.mem_cons_self (a := x) (l := l))) with e | hx
      · exact e
      · rcases List.mem_cons.mp (h.mem_iff.mpr (List.mem_cons_self (a := y) (l := m))) with e | hy
        · exact e.symm
        · exact anti _ _ ((List.pairwise_cons.mp hl).1 y hy) ((List.pairwise_cons.mp hm).1 x hx)
    subst hxy
    rw [sorted_uniq le anti h.cons_inv (List.pairwise_cons.mp hl).2 (List.pairwise_cons.mp hm).2]
def insP (p : Int × Int) : List (Int × Int) → List (Int × Int)
  | [] => [p]
  | q :: qs => if leP p q = true then p :: q :: qs else q :: insP p qs
def sortP : List (Int × Int) → List (Int × Int)
  | [] => []
  | p :: ps => insP p (sortP ps)
theorem insP_perm (p : Int × Int) : ∀ qs, (insP p qs).Perm (p :: qs)
  | [] => List.Perm.refl _
  | q :: qs => by
    unfold insP
    split
    · exact List.Perm.refl _
    · exact ((insP_perm p qs).cons q).trans (List.Perm.swap p q qs)
theorem sortP_perm : ∀ ps, (sortP ps).Perm ps
  | [] => List.Perm.refl _
  | p :: ps => (insP_perm p (sortP ps)).trans ((sortP_perm ps).cons p)
theorem leP_tot (p q : Int × Int) (h : ¬ leP p q = true) : leP q p = true := by
  rw [leP_iff] at h ⊢
  omega
theorem leP_trans {p q r : Int × Int} (h1 : leP p q = true) (h2 : leP q r = true) : leP p r = true := by
  rw [leP_iff] at h1 h2 ⊢
  omega
theorem insP_pw (p : Int × Int) : ∀ {qs}, qs.Pairwise (fun a b => leP a b = true) → (insP p qs).Pairwise (fun a b => leP a b = true)
  | [], _ => List.pairwise_singleton _ _
  | q :: qs, h => by
    unfold insP
    obtain ⟨h1, h2⟩ := List.pairwise_cons.mp h
    split
    · rename_i hp
      refine List.pairwise_cons.mpr ⟨fun r hr => ?_, h⟩
      rcases List.mem_cons.mp hr with rfl | hr
      · exact hp
      · exact leP_trans hp (h1 r hr)
    · rename_i hp
      refine List.pairwise_cons.mpr ⟨fun r hr => ?_, insP_pw p h2⟩
      rcases List.mem_cons.mp ((insP_perm p qs).mem_iff.mp hr) with rfl | hr
      · exact leP_tot _ _ hp
      · exact h1 r hr
theorem sortP_pw : ∀ ps, (sortP ps).Pairwise (fun a b => leP a b = true)
  | [] => List.Pairwise.nil
  | p :: ps => insP_pw p (sortP_pw ps)
theorem leP_anti (a b : Int × Int) (h1 : leP a b = true) (h2 : leP b a = true) : a = b := by
  rw [leP_iff] at h1 h2
  exact Prod.ext (by omega) (by omega)
theorem sortP_eq {qs ps : List (Int × Int)} (h : qs.Perm ps) (hq : qs.Pairwise (fun a b => leP a b = true)) : qs = sortP ps :=
  sorted_uniq leP leP_anti (h.trans (sortP_perm ps).symm) hq (sortP_pw ps)
def toPair : D → Option (Int × Int)
  | .tuple [.int a, .int b] => some (a, b)
  | _ => none
def toPairs : List D → Option (List (Int × Int))
  | [] => some []
  | d :: ds => match toPair d with
    | some p => (toPairs ds).map (p :: ·)
    | none => none
def pairD (p : Int × Int) : D := .tuple [.int p.1, .int p.2]
theorem toPair_eq {d : D} {p : Int × Int} (h : toPair d = some p) : d = pairD p := by
  unfold toPair at h
  split at h
  · cases h; rfl
  · cases h
theorem toPairs_eq : ∀ {ds : List D} {ps : List (Int × Int)}, toPairs ds = some ps → ds = ps.map pairD
  | [], _, h => by cases h; rfl
  | d :: ds, ps, h => by
    unfold toPairs at h
    split at h
    · rename_i p e
      cases q : toPairs ds with
      | none => rw [q] at h; cases h
      | some qs =>
        rw [q] at h; cases h
        rw [List.map_cons, ← toPair_eq e, ← toPairs_eq q]
    · cases h
theorem toPairs_map : ∀ ps : List (Int × Int), toPairs (ps.map pairD) = some ps
  | [] => rfl
  | p :: ps => by
    show (toPairs (ps.map pairD)).map (p :: ·) = _
    rw [toPairs_map ps]; rfl
def sortD : List D → Option (List D)
  | [.list ds] => (toPairs ds).map fun ps => (sortP ps).map pairD
  | _ => none
section
variable {K : PySem.W.Frag}
abbrev RP (K : PySem.W.Frag) (F : Hp) (x : V) (p : Int × Int) : Prop := Dp K F x (pairD p)
theorem rp_all {F : Hp} : ∀ {xs : List V} {ps : List (Int × Int)}, DpAll K F xs (ps.map pairD) → Paired (RP K F) xs ps
  | _, [], .nil => .nil
  | _, _ :: _, .cons h t => .cons h (rp_all t)
theorem all_rp {F : Hp} : ∀ {xs : List V} {ps : List (Int × Int)}, Paired (RP K F) xs ps → DpAll K F xs (ps.map pairD)
  | _, _, .nil => .nil
  | _, _, .cons h t => .cons h (all_rp t)
theorem cn_sort : CallN K (rSortDP K) sortD := by
  intro W c σ H F ρ xs ds out Q ok rx e q
  unfold sortD at e
  split at e
  · rename_i es
    cases e2 : toPairs es with
    | none => rw [e2] at e; cases e
    | some ps =>
      rw [e2] at e; cases e
      obtain ⟨x, rfl, r⟩ := pk1 rx
      obtain ⟨p, vs, rfl, hp, dp⟩ := Pk.lst ok.sub r
      have e3 := toPairs_eq e2
      subst e3
      refine ⟨RP K F, p, vs, ps, rfl, hp, rp_all dp, fun x p h => ?_, fun ys qs l hy hperm hpw hl => ?_⟩
      · have h2 : Dp K H x (pairD p) := Dp.mono ok.sub h
        unfold pairD at h2
        cases h2 with
        | tup h t =>
          cases t with
          | cons a t =>
            cases t with
            | cons b t =>
              cases t; cases a; cases b
              exact ⟨_, rfl, h⟩
      · have e4 := sortP_eq hperm hpw
        subst e4
        exact new_N ok (all_rp hy) q l hl
  · cases e
end
end Dd

namespace Dd
open PySem PySem.Spec L2
/-! ### a, b = a new list, a constant -/
section
variable {X : Cx} {W : WX} {K : PySem.W.Frag} {σ : St} {H : Hp} {i j : Nat} {x y : Str} {a b : Expr} {mn : M (List D)} {px py pt pos : Pos} {kt k2 : Nat} {pt2 : Pos} {v : V} {d : D}
def mParNC (i j : Nat) (mn : M (List D)) (d : D) : M Fl := mBind mn fun out => mBind (mStoreO i out) fun _ => mBind (mStore j d) fun _ => mDone
theorem parNC_of (hd : ∀ F, Dp K F v d) {Dn : Ends} (h : tS K W (mParNC i j mn d) Dn σ H) : tPar i j (tCons (tN K W mn) (tCons (tC v) tNil)) Dn σ H := by
  obtain ⟨c, F, ρ, ok, h⟩ := h
  refine ⟨c, F, ρ, ok, ?_⟩
  unfold mParNC mBind at h
  cases e : mn ρ with
  | none => rw [e] at h; exact h.elim
  | some r =>
    rw [e] at h
    cases r with
    | ex y ρ' => exact fun cls z H' F' ok s r => h σ cls z H' F' ok s r
    | ok out ρ2 =>
      intro p xs H' F' ok' hp s' rx
      refine ⟨.ref p, v, rfl, ?_⟩
      have h2 : postS K W c F Dn (mBind (mStoreO i out) (fun _ => mBind (mStore j d) fun _ => mDone) ρ2) := h
      have h3 := postS_bindG h2
      unfold mStoreO at h3
      split at h3
      · rename_i hl
        obtain ⟨F4, ρ4, ok4, s4, h4⟩ := h3 _ H' F' (ok'.ownP hp rx hl) s'
        have h5 := postS_bindG h4
        unfold mStore at h5
        split at h5
        · rename_i hl2
          obtain ⟨F5, ρ5, ok5, s5, h6⟩ := h5 _ H' F4 (ok4.setV hl2 (hd _)) (Same.refl _)
          exact h6 _ _ _ ok5 (Same.refl _)
        · exact h5.elim
      · exact h3.elim
theorem dParNC (hc : X.calm = true) (hN : X.N.Nodup) (hij : i ≠ j) (ha : PE X a (tN X.K W mn)) (hb : PE X b (tC v)) (hd : ∀ F, Dp X.K F v d) (hi : X.N[i]? = some x := by rfl) (hj : X.N[j]? = some y := by rfl)
    (hx : X.env.scope.names.lookup x = some .local := by rfl) (hy : X.env.scope.names.lookup y = some .local := by rfl)
    (hw : swappedStores [.Tuple [.Name x px, .Name y py] kt pt] (.Tuple [a, b] k2 pt2) X.env = pure (some [x, y]) := by rfl)
    (hs : swapsWithSole [.Tuple [.Name x px, .Name y py] kt pt] (.Tuple [a, b] k2 pt2) pos.line X.env = pure false := by rfl)
    (hs1 : starEach [a, b] X.env = (false, eval a X.env) :: starEach [b] X.env := by rfl) (hs2 : starEach [b] X.env = (false, eval b X.env) :: starEach [] X.env := by rfl) :
    PS X (.Assign [.Tuple [.Name x px, .Name y py] kt pt] (.Tuple [a, b] k2 pt2) pos) (tS X.K W (mParNC i j mn d)) :=
  PS.imp (ps_par hc hN hi hj hij hx hy (pa_cons ha (pa_cons hb pa_nil hs2) hs1) hw hs) fun _ _ _ => parNC_of hd
end
/-! ### range, downwards -/
section
variable {X : Cx} {W : WX} {K : PySem.W.Frag} {tg a b e : Expr} {ms : M (List D)} {p pos : Pos}
def rngDn (i j : Int) : List D := (List.range (i - j).toNat).map fun k => .int (i - (k : Nat))
def rngD3 : List D → Option (List D)
  | [.int i, .int j, .int c] => if (rngOk i && rngOk j && decide (c = -1)) = true then some (rngDn i j) else none
  | _ => none
theorem rngDn_get {i j : Int} {k : Nat} {d : D} (h : (rngDn i j)[k]? = some d) : d = .int (i - (k : Nat)) ∧ k < (i - j).toNat := by
  unfold rngDn at h
  rw [List.getElem?_map] at h
  by_cases q : k < (i - j).toNat
  · rw [List.getElem?_range q] at h
    cases h
    exact ⟨rfl, q⟩
  · rw [List.getElem?_eq_none (by simpa using q)] at h
    cases h
theorem rngDn_length (i j : Int) : (rngDn i j).length = (i - j).toNat := by simp [rngDn]
theorem itc_D {F : Hp} {i j : Int} : ItD K F (Itc i (-1) (i - j).toNat) (rngDn i j) where
  go := fun H k s hi => by rw [rngDn_length] at hi; exact hi
  stop := fun H k s hi => by rw [rngDn_length] at hi; exact hi
  yld := fun H k x H' d s q y => by
    obtain ⟨e1, e2⟩ := y
    obtain ⟨e3, _⟩ := rngDn_get q
    subst e1 e2 e3
    refine .inl ⟨rfl, ?_⟩
    have e : i + (k : Nat) * (-1) = i - (k : Nat) := by omega
    rw [e]
    exact .int _
def mRng3 (ms : M (List D)) : M (List D) := mBind ms fun ds => mLift (rngD3 ds)
theorem diRng3 {c : Expr} (hm : X.mg "range" = none) (ha : PA X [a, b, c] (tA X.K W ms)) (hg : Gl X "range" := by rfl) (hs : starEach [a, b, c] X.env = (false, eval a X.env) :: starEach [b, c] X.env := by rfl) (hpl : (backTo pos (starEach [b, c] X.env)).any (·.1) = false := by rfl) : PI X tg (.Call (.Name "range" p) [a, b, c] [] pos) (tI X.K W (mRng3 ms)) := PI.imp (pi_range3 hg hm ha hs hpl) (by
  rintro σ H R ⟨c, F, ρ, ok, h⟩
  refine ⟨c, F, ρ, ok, post_mono ?_ (post_bind h)⟩
  rintro ds H1 F1 _ ⟨ρ1, ok1, s1, h1⟩ vs rv
  obtain ⟨out, e, h2⟩ := post_lift h1
  unfold rngD3 at e
  split at e
  · rename_i i j c'
    split at e
    · rename_i hb
      cases e
      simp only [Bool.and_eq_true, decide_eq_true_eq] at hb
      obtain ⟨⟨hb1, hb2⟩, hc⟩ := hb
      subst hc
      cases rv with
      | cons r t =>
        cases t with
        | cons r' t' =>
          cases t' with
          | cons r'' t'' =>
            cases t''
            cases r
            cases r'
            cases r''
            obtain ⟨b1, b2⟩ := rngOk_of hb1
            obtain ⟨b3, b4⟩ := rngOk_of hb2
            exact ⟨i, j, -1, _, rfl, RgC.neg b1 b2 b3 b4, h2 H1 F1 ok1 (Same.refl F1) _ itc_D⟩
    · cases e
  · cases e)
end
end Dd

namespace Dd
open PySem PySem.Spec L2
/-! ### *e in a display -/
section
variable {X : Cx} {W : WX} {K : PySem.W.Frag} {a : Expr} {es : List Expr} {p : Pos} {ma : M D} {mr : M (List D)}
def mStar (ma : M D) (mr : M (List D)) : M (List D) := mBind ma fun d => mBind (mLift (itemsD d)) fun xs => mBind mr fun ys => mPure (xs ++ ys)
theorem dStar (ha : PE X a (tP X.K W ma)) (hr : PA X es (tA X.K W mr)) (hs : starEach (.Starred a p :: es) X.env = (true, eval a X.env) :: starEach es X.env := by rfl) : PA X (.Starred a p :: es) (tA X.K W (mStar ma mr)) := by
  refine PA.imp (StX.pa_star ha hr hs) ?_
  rintro σ H Q ⟨c, F, ρ, ok, h⟩
  refine ⟨c, F, ρ, ok, post_mono ?_ (post_bind h)⟩
  rintro d H1 F1 _ ⟨ρ1, ok1, s1, h1⟩ v rv
  have main : ∀ (q : Addr) (vs : List V) (ds : List D), v = .ref q → (SqT X.K H1 q vs ∨ SqL X.K H1 q vs) → DpAll X.K F1 vs ds → post X.K W c σ F1 (qA X.K Q) ((mBind mr fun ys => mPure (ds ++ ys)) ρ1) → ∃ p xs, v = V.ref p ∧ (SqT X.K H1 p xs ∨ SqL X.K H1 p xs) ∧ tA X.K W mr σ H1 fun ys H2 => Q (xs ++ ys) H2 := by
    intro q vs ds hv hq hd h2
    refine ⟨q, vs, hv, hq, c, F1, ρ1, ok1, post_mono ?_ (post_bind h2)⟩
    rintro ys H2 F2 _ ⟨ρ2, ok2, s2, h3⟩ ws rw'
    exact post_ok (W := W) h3 ok2 _ (DpAll.append (DpAll.mono s2 hd) rw')
  cases d with
  | list ds =>
    obtain ⟨q, vs, rfl, hp, dp⟩ := Pk.lst ok1.sub rv
    exact main q vs ds rfl (.inr hp) dp h1
  | tuple ds =>
    obtain ⟨q, vs, rfl, hp, dp⟩ := Pk.tup ok1.sub rv
    exact main q vs ds rfl (.inl hp) dp h1
  | _ => exact (h1 : False).elim
end
end Dd

namespace Dd
open PySem PySem.Spec L2
/-! ### a, b, .. = a list -/
section
variable {X : Cx} {W : WX} {pos : Pos}
def gLstD (n : Nat) (gs : List D → M Unit) : D → M Unit
  | .list ds => if ds.length = n then gs ds else mStuck
  | _ => mStuck
theorem dgLst {es : List Expr} {k : Nat} {gs : List D → M Unit} {n : Nat} (hc : X.calm = true) (h : PGs X es (tGs X.K W gs)) (hn : (assignEach es X.env).length = n := by rfl) (hst : (assignEach es X.env).findIdx? (·.1) = none := by rfl) : PG X (.Tuple es k pos) (tG X.K W (gLstD n gs)) :=
  PG.imp (pg_lst hc h hn hst) (by
  rintro v σ H Q ⟨c, F, ρ, d, ok, r, h⟩
  unfold gLstD at h
  split at h
  · split at h
    · rename_i hl
      obtain ⟨p, vs, rfl, hp, dp⟩ := Pk.lst ok.sub (.inl r)
      exact ⟨p, vs, rfl, hp, by rw [DpAll.length dp]; exact hl, c, F, ρ, _, ok, dp, h⟩
    · exact h.elim
  · exact h.elim)
end
end Dd

namespace Dd
open PySem PySem.Spec L2 PySem.W
/-! ### min(a list of ints, default=d) -/
def rMinDef (K : PySem.W.Frag) : List V → List V → Hp → VK → Prop := fun vs zs H Q => ∃ (a : Addr) (ns : List Int) (d : V), vs = [V.ref a] ∧ zs = [d] ∧ SqL K H a (ns.map V.int) ∧
  Q (match ns with | [] => d | n :: r => .int (r.foldl min n)) H
theorem alikeAll_ints (ns : List Int) : AlikeAll (ns.map PyData.int) := by
  refine ⟨fun x hx y hy => ?_, fun x hx => ?_⟩
  · obtain ⟨i, _, rfl⟩ := List.mem_map.mp hx
    obtain ⟨j, _, rfl⟩ := List.mem_map.mp hy
    rfl
  · obtain ⟨i, _, rfl⟩ := List.mem_map.mp hx
    exact fun z => by cases z
theorem depth_ints : ∀ ns : List Int, PyData.depthAll (ns.map PyData.int) = 0
  | [] => by simp [PyData.depthAll]
  | n :: ns => by
    rw [List.map_cons]
    simp [PyData.depthAll, PyData.depth, depth_ints ns]
section
variable {X : Cx}
theorem cr_minDef (hc : X.calm = true) (hu : X.A.units + 64 < cLine) : CallRK X (.builtin "min") [Str.ofString "default"] (rMinDef X.K) := by
  intro pins s σ H xs zs us ws Q I rx rz h
  obtain ⟨a, ns, d, rfl, rfl, hs, q⟩ := h
  obtain ⟨its, rv, hl, hz⟩ := I.list hs
  obtain ⟨u, rfl, ru⟩ := vals1 rx
  obtain rfl : u = Value.ref a := ru
  obtain ⟨w, rfl, rw'⟩ := vals1 rz
  have hi := rv.ints
  show wpAny _ _ (call (.builtin "min") [.ref a] [(Str.ofString "default", w)]) _ _ s
  refine min_list_default (I.ok.hd hc) hl.isList (xs := ns.map PyData.int) (as := []) (PyProof.Rows.ints_readAll s.heap hi) (alikeAll_ints ns) (by rw [depth_ints]; omega) (fun e h' tk hk => ?_) fun y ys i v h' tk bs e hv hr hk => ?_
  · have e' : ns = [] := by cases ns with
      | nil => rfl
      | cons n r => cases e
    subst e'
    exact ⟨d, H, I.kept (t' := tk) hk, rw', q⟩
  · cases ns with
    | nil => cases e
    | cons n r =>
      injection e with e1 e2
      subst e1 e2
      rw [minD_ints] at hr
      cases hr
      exact ⟨.int (r.foldl min n), H, I.kept (t' := tk) hk, ⟨_, rfl⟩, q⟩
def minDefD : D → Option D
  | .list ds => (toInts ds).map fun ns => match ns with
    | [] => .none
    | n :: r => .int (r.foldl min n)
  | _ => none
variable {W : WX} {a : Expr} {m : M D} {p pos kp np : Pos} {jj : Nat}
def mMinDef (m : M D) : M D := mBind m fun d => mLift (minDefD d)
theorem dMinDef (hc : X.calm = true) (hu : X.A.units + 64 < cLine) (hm : X.mg "min" = none) (ha : PE X a (tP X.K W m)) (hg : Gl X "min" := by rfl) (hbi : bootBuiltins "min" = some (.builtin "min") := by decide +kernel)
    (hs : starEach (a :: []) X.env = (false, eval a X.env) :: starEach [] X.env := by rfl)
    (he : backTo pos (starEach (a :: []) X.env) = (false, eval a X.env) :: backTo pos (starEach [] X.env) := by rfl) (hpl : (backTo pos (starEach (a :: []) X.env)).any (·.1) = false := by rfl)
    (hall : (backToKw pos (keywordEach [⟨some "default", .Constant .none jj np, kp⟩] X.env)).all (·.1.isSome) = true := by rfl) (hnone : (backToKw pos (keywordEach [⟨some "default", .Constant .none jj np, kp⟩] X.env)).any (·.1.isNone) = false := by rfl) (hks : (backToKw pos (keywordEach [⟨some "default", .Constant .none jj np, kp⟩] X.env)).filterMap (·.1) = [Str.ofString "default"] := by rfl) :
    PE X (.Call (.Name "min" p) [a] [⟨some "default", .Constant .none jj np, kp⟩] pos) (tE X.K W (mMinDef m)) :=
  PE.imp (pe_callBK (cr_minDef hc hu) hg hm hbi (pa_cons ha pa_nil hs) (pk_cons pe_non pk_nil) (by decide) (by decide) he hpl hall hnone hks) (by
  rintro σ H Q ⟨c, F, ρ, ok, h⟩
  refine ⟨c, F, ρ, ok, post_mono ?_ (post_bind h)⟩
  rintro d H1 F1 _ ⟨ρ1, ok1, s1, h1⟩ v rv
  show rMinDef X.K [v] [.non] H1 Q
  obtain ⟨d', e, h2⟩ := post_lift h1
  unfold minDefD at e
  split at e
  · rename_i ds
    cases e2 : toInts ds with
    | none => rw [e2] at e; cases e
    | some ns =>
      rw [e2] at e
      cases e
      obtain ⟨q, vs, rfl, hp, dp⟩ := Pk.lst ok1.sub rv
      rw [toInts_eq e2] at dp
      rw [DpAll.ints dp] at hp
      refine ⟨q, ns, .non, rfl, rfl, hp, ?_⟩
      cases ns with
      | nil => exact h2 H1 F1 ok1 (Same.refl F1) _ .non
      | cons n r => exact h2 H1 F1 ok1 (Same.refl F1) _ (.int _)
  · cases e)
end
end Dd

namespace Dd
open PySem PySem.Spec L2
/-! ### slices -/
def cutL (ds : List D) (lo hi : Option Int) : List D := (ds.drop (HT.sIx ds.length 0 lo)).take (HT.sIx ds.length ds.length hi - HT.sIx ds.length 0 lo)
def slD : D → Option Int → Option Int → Option D
  | .list ds, lo, hi => some (.list (cutL ds lo hi))
  | .tuple ds, lo, hi => some (.tuple (cutL ds lo hi))
  | .str z, lo, hi => if fit z.length = true then some (.str (cutS z lo hi)) else none
  | _, _, _ => none
def intO : D → Option (Option Int)
  | .int i => some (some i)
  | _ => none
def mNoPart : M (Option Int) := mPure none
def mPart (m : M D) : M (Option Int) := mBind m fun d => mLift (intO d)
section
variable {X : Cx} {W : WX} {K : PySem.W.Frag} {σ : St} {H F : Hp} {ρ : En} {c : Ct}
def tO (K : PySem.W.Frag) (W : WX) (m : M (Option Int)) : TO := fun σ H Q => ∃ c F ρ, Ok K c σ H F ρ ∧ post K W c σ F (fun o H' _ => Q o H') (m ρ)
theorem PO.imp {e : Option Expr} {t t' : TO} (h : PO X e t) (k : ∀ σ H Q, t' σ H Q → t σ H Q) : PO X e t' := ⟨fun pins s σ H Q I q => h.run pins s σ H Q I (k σ H Q q)⟩
theorem dNoPart : PO X none (tO X.K W mNoPart) := PO.imp po_none (by
  rintro σ H Q ⟨c, F, ρ, ok, h⟩
  exact post_ok h ok)
theorem dPart {e : Expr} {m : M D} (h : PE X e (tE X.K W m)) : PO X (some e) (tO X.K W (mPart m)) := PO.imp (po_some h) (by
  rintro σ H Q ⟨c, F, ρ, ok, h⟩
  refine ⟨c, F, ρ, ok, post_mono ?_ (post_bind h)⟩
  rintro d H1 F1 _ ⟨ρ1, ok1, s1, h1⟩ v rv
  obtain ⟨o, e, h2⟩ := post_lift h1
  cases d with
  | int i =>
    cases e
    cases rv
    exact ⟨i, rfl, post_ok h2 ok1⟩
  | _ => cases e)
theorem DpAll.cut {vs : List V} {ds : List D} (h : DpAll K F vs ds) (lo hi : Option Int) : DpAll K F (cutV vs lo hi) (cutL ds lo hi) := by
  unfold cutV cutL
  rw [DpAll.length h]
  exact DpAll.take _ (DpAll.drop _ h)
def rSlAll (K : PySem.W.Frag) : V → Option Int → Option Int → Hp → VK → Prop := fun x lo hi H Q => rSlL K x lo hi H Q ∨ (rSlA K x lo hi H Q ∨ rSlS x lo hi H Q)
theorem sl_all' : SlR X (rSlAll X.K) := SlR.or sl_list (SlR.or sl_tupA sl_str)
theorem cutL_whole {ds : List D} {lo hi : Option Int} (h : HT.sIx ds.length 0 lo = 0 ∧ HT.sIx ds.length ds.length hi = ds.length) : cutL ds lo hi = ds := by
  unfold cutL
  rw [h.1, h.2]
  simp
theorem sl_of {W : WX} {x : V} {a d : D} {lo hi : Option Int} {Q : VK} (ok : Ok K c σ H F ρ) (rx : Pk K H F x a) (e : slD a lo hi = some d) (q : post K W c σ F (qE K Q) (some (.ok d ρ))) : rSlAll K x lo hi H Q := by
  cases a with
  | list ds =>
    cases e
    obtain ⟨p, vs, rfl, hp, dp⟩ := Pk.lst ok.sub rx
    exact .inl ⟨p, vs, rfl, hp, fun p hp => new_lst ok (DpAll.cut dp lo hi) q p hp⟩
  | tuple ds =>
    cases e
    obtain ⟨p, vs, rfl, hp, dp⟩ := Pk.tup ok.sub rx
    refine .inr (.inl ⟨p, vs, rfl, hp, fun z => ?_, fun _ p hp => new_tup ok (DpAll.cut dp lo hi) q p hp⟩)
    rw [DpAll.length dp] at z
    rw [cutL_whole z] at q
    rcases rx with rx | ⟨_, _, _, _, e, _⟩
    · exact post_ok q ok _ rx
    · cases e
  | str z =>
    unfold slD at e
    dsimp only at e
    split at e
    · rename_i hf
      cases e
      exact .inr (.inr ⟨z, rx.str, fit_le hf, post_ok q ok _ (.str _)⟩)
    · cases e
  | _ => cases e
def mSl (ma : M D) (ml mh : M (Option Int)) : M D := mBind ma fun a => mBind ml fun l => mBind mh fun h => mLift (slD a l h)
def mSlL (i : Nat) (ml mh : M (Option Int)) : M D := mBind (mPeek i) fun _ => mBind ml fun l => mBind mh fun h => mBind (mPeek i) fun a => mLift (slD a l h)
variable {ma : M D} {ml mh : M (Option Int)} {a : Expr} {lo hi : Option Expr} {pos p2 : Pos}
theorem tSl_of {Q : VK} (h : tE K W (mSl ma ml mh) σ H Q) : tSl (rSlAll K) (tE K W ma) (tO K W ml) (tO K W mh) σ H Q := by
  obtain ⟨c, F, ρ, ok, h⟩ := h
  refine ⟨c, F, ρ, ok, post_mono ?_ (post_bind h)⟩
  rintro a H1 F1 _ ⟨ρ1, ok1, s1, h1⟩ x rx
  refine ⟨c, F1, ρ1, ok1, post_mono ?_ (post_bind h1)⟩
  rintro l H2 F2 _ ⟨ρ2, ok2, s2, h2⟩
  refine ⟨c, F2, ρ2, ok2, post_mono ?_ (post_bind h2)⟩
  rintro u H3 F3 _ ⟨ρ3, ok3, s3, h3⟩
  obtain ⟨d, e, h4⟩ := post_lift h3
  exact sl_of ok3 (.inl (Dp.mono (s2.trans s3) rx)) e h4
theorem tSl_ofL {i : Nat} {Q : VK} (h : tE K W (mSlL i ml mh) σ H Q) : tSl (rSlAll K) (tVar i) (tO K W ml) (tO K W mh) σ H Q := by
  obtain ⟨c, F, ρ, ok, h⟩ := h
  obtain ⟨v, _, ev, _, h⟩ := post_peek ok h
  refine ⟨v, ev, c, F, ρ, ok, post_mono ?_ (post_bind h)⟩
  rintro l H2 F2 _ ⟨ρ2, ok2, s2, h2⟩
  refine ⟨c, F2, ρ2, ok2, post_mono ?_ (post_bind h2)⟩
  rintro u H3 F3 _ ⟨ρ3, ok3, s3, h3⟩
  obtain ⟨v', a, ev', pk, h3⟩ := post_peek ok3 h3
  obtain ⟨d, e, h4⟩ := post_lift h3
  have ee : v' = v := by rw [ev] at ev'; cases ev'; rfl
  subst ee
  exact sl_of ok3 pk e h4
theorem dSl (ha : PE X a (tE X.K W ma)) (hl : PO X lo (tO X.K W ml)) (hh : PO X hi (tO X.K W mh)) : PE X (.Subscript a (.Slice lo hi none p2) pos) (tE X.K W (mSl ma ml mh)) := PE.imp (pe_slice sl_all' ha hl hh) fun _ _ _ => tSl_of
theorem dSlL {i : Nat} (ha : PE X a (tVar i)) (hl : PO X lo (tO X.K W ml)) (hh : PO X hi (tO X.K W mh)) : PE X (.Subscript a (.Slice lo hi none p2) pos) (tE X.K W (mSlL i ml mh)) := PE.imp (pe_slice sl_all' ha hl hh) fun _ _ _ => tSl_ofL
/-! .. of a list, a new one -/
def slN : D → Option Int → Option Int → Option (List D)
  | .list ds, lo, hi => some (cutL ds lo hi)
  | _, _, _ => none
def mSlN (ma : M D) (ml mh : M (Option Int)) : M (List D) := mBind ma fun a => mBind ml fun l => mBind mh fun h => mLift (slN a l h)
def mSlNL (i : Nat) (ml mh : M (Option Int)) : M (List D) := mBind (mPeek i) fun _ => mBind ml fun l => mBind mh fun h => mBind (mPeek i) fun a => mLift (slN a l h)
theorem slN_of {W : WX} {x : V} {a : D} {ds : List D} {lo hi : Option Int} {Q : VK} (ok : Ok K c σ H F ρ) (rx : Pk K H F x a) (e : slN a lo hi = some ds) (q : postN K W c σ F Q (some (.ok ds ρ))) : rSlL K x lo hi H Q := by
  cases a with
  | list ds =>
    cases e
    obtain ⟨p, vs, rfl, hp, dp⟩ := Pk.lst ok.sub rx
    exact ⟨p, vs, rfl, hp, fun p hp => new_N ok (DpAll.cut dp lo hi) q p hp⟩
  | _ => cases e
theorem tSlN_of {Q : VK} (h : tN K W (mSlN ma ml mh) σ H Q) : tSl (rSlL K) (tE K W ma) (tO K W ml) (tO K W mh) σ H Q := by
  obtain ⟨c, F, ρ, ok, h⟩ := h
  refine ⟨c, F, ρ, ok, post_mono ?_ (postN_bind h)⟩
  rintro a H1 F1 _ ⟨ρ1, ok1, s1, h1⟩ x rx
  refine ⟨c, F1, ρ1, ok1, post_mono ?_ (postN_bind h1)⟩
  rintro l H2 F2 _ ⟨ρ2, ok2, s2, h2⟩
  refine ⟨c, F2, ρ2, ok2, post_mono ?_ (postN_bind h2)⟩
  rintro u H3 F3 _ ⟨ρ3, ok3, s3, h3⟩
  obtain ⟨d, e, h4⟩ := postN_lift h3
  exact slN_of ok3 (.inl (Dp.mono (s2.trans s3) rx)) e h4
theorem post_peekN {i : Nat} {Q : VK} {f : D → M (List D)} (ok : Ok K c σ H F ρ) (h : postN K W c σ F Q (mBind (mPeek i) f ρ)) : ∃ v d, σ[i]? = some (some v) ∧ Pk K H F v d ∧ postN K W c σ F Q (f d ρ) := by
  unfold mBind mPeek at h
  cases e : ρ[i]? with
  | none => rw [e] at h; exact h.elim
  | some u =>
    rw [e] at h
    cases u with
    | un => exact h.elim
    | val d =>
      obtain ⟨v, a1, a2⟩ := ok.val i d e
      exact ⟨v, d, a1, .inl a2, h⟩
    | own ds =>
      obtain ⟨p, vs, a1, a2, a3, _⟩ := ok.own i ds e
      exact ⟨.ref p, _, a1, .inr ⟨p, vs, ds, rfl, rfl, a2, a3⟩, h⟩
    | io ds =>
      obtain ⟨_, p, vs, _, a1, a2, a3⟩ := ok.ios i ds e
      exact ⟨.ref p, _, a1, .inr ⟨p, vs, ds, rfl, rfl, a2, a3⟩, h⟩
    | scr ns => exact h.elim
theorem tSlN_ofL {i : Nat} {Q : VK} (h : tN K W (mSlNL i ml mh) σ H Q) : tSl (rSlL K) (tVar i) (tO K W ml) (tO K W mh) σ H Q := by
  obtain ⟨c, F, ρ, ok, h⟩ := h
  obtain ⟨v, _, ev, _, h⟩ := post_peekN ok h
  refine ⟨v, ev, c, F, ρ, ok, post_mono ?_ (postN_bind h)⟩
  rintro l H2 F2 _ ⟨ρ2, ok2, s2, h2⟩
  refine ⟨c, F2, ρ2, ok2, post_mono ?_ (postN_bind h2)⟩
  rintro u H3 F3 _ ⟨ρ3, ok3, s3, h3⟩
  obtain ⟨v', a, ev', pk, h3⟩ := post_peekN ok3 h3
  obtain ⟨d, e, h4⟩ := postN_lift h3
  have ee : v' = v := by rw [ev] at ev'; cases ev'; rfl
  subst ee
  exact slN_of ok3 pk e h4
theorem dSlN (ha : PE X a (tE X.K W ma)) (hl : PO X lo (tO X.K W ml)) (hh : PO X hi (tO X.K W mh)) : PE X (.Subscript a (.Slice lo hi none p2) pos) (tN X.K W (mSlN ma ml mh)) := PE.imp (pe_slice sl_list ha hl hh) fun _ _ _ => tSlN_of
theorem dSlNL {i : Nat} (ha : PE X a (tVar i)) (hl : PO X lo (tO X.K W ml)) (hh : PO X hi (tO X.K W mh)) : PE X (.Subscript a (.Slice lo hi none p2) pos) (tN X.K W (mSlNL i ml mh)) := PE.imp (pe_slice sl_list ha hl hh) fun _ _ _ => tSlN_ofL
/-! ### a list turned round -/
def revO : D → Option (List D)
  | .list ds => some ds.reverse
  | _ => none
def mRevN (m : M D) : M (List D) := mBind m fun d => mLift (revO d)
variable {k : Nat} {p1 p3 : Pos}
theorem dRevN (ha : PE X a (tP X.K W ma)) : PE X (.Subscript a (.Slice none none (some (.UnaryOp .USub (.Constant (.int 1) k p1) p2)) p3) pos) (tN X.K W (mRevN ma)) := PE.imp (pe_revL ha) (by
  rintro σ H Q ⟨c, F, ρ, ok, h⟩
  refine ⟨c, F, ρ, ok, post_mono ?_ (postN_bind h)⟩
  rintro a H1 F1 _ ⟨ρ1, ok1, s1, h1⟩ x rx
  obtain ⟨ds, e, h2⟩ := postN_lift h1
  cases a with
  | list es =>
    cases e
    obtain ⟨p, vs, rfl, hp, dp⟩ := Pk.lst ok1.sub rx
    exact ⟨p, vs, rfl, hp, fun p hp => new_N ok1 (DpAll.reverse dp) h2 p hp⟩
  | _ => cases e)
end
end Dd

namespace Dd
open PySem PySem.Spec L2 PyProof.Rows
/-! ### the law's own def, at the caller that calls it: there nothing is being shown (no guard stands) -/
def LawFn (P : Program) (w : World) (K : PySem.W.Frag) (mg : Str → Option Value) (base : Heap) (f : Addr) (fd : FuncData) (p : Str) (k : Nat) (g : List Int → Option (Rs D)) : Prop :=
  ∀ (s : Shared) (H : Hp) (a : Addr) (ns : List Int), Room k callerA → Env0 P w K mg base callerA [] s H → BindsTo s fd ⟨[.ref a], []⟩ [(p, .ref a)] → SqL K H a (ns.map V.int) → g ns = some (.ok (.bool true)) →
    codeAny (model P w) callerA (.call (.ref f) ⟨[.ref a], []⟩) (CR (L2.CX P w) [] P w H s (fun v _ => v = .bl true) fun _ _ _ => False) s
section
variable {P : Program} {w : World} {K : PySem.W.Frag} {mg : Str → Option Value} {base : Heap} {x qual p : Str} {st : Stmt} {f : Addr} {fd : FuncData} {N : List Str} {k : Nat} {m : M Fl} {sc : Scope} {bd : List Stmt}
abbrev BodyG (P : Program) (w : World) (K : PySem.W.Frag) (mg : Str → Option Value) (base : Heap) (qual : Str) (sc : Scope) (bd : List Stmt) (f : Addr) (N : List Str) (k : Nat) (m : M Fl) : Prop :=
  ∀ (cdv : Value) (s : Shared) (H : Hp) (E : XK), Room k (callerA.deeper (envOfC qual sc s.heap.objs.size f cdv)) →
    PSs (cxOf (L2.CX P w) P w K mg base N qual sc f cdv callerA [] s H E) bd (tS K (fun cls d _ H => E cls d H) m)
theorem lawFn_of (Fn : Fun K x qual st f fd) (S : FnScope N [p] (defScope st)) (h1 : defScope st = sc) (h2 : defBody st = bd) (hb : BodyG P w K mg base qual sc bd f N k m) : LawFn P w K mg base f fd p (k + 1) (runL m N.length) := by
  subst h1 h2
  intro s H a ns room e0 bind sq done
  obtain ⟨oc, od, kV, doc, pm, an, cdv, ct, osl, rfl, at_f, code⟩ := Fn.ex
  have inK : K.In s.heap := e0.mod.kin.keeps fun b o e => (e0.bs b o e).1
  have par : ∀ y ∈ [(p, Value.ref a)], (defScope st).names.lookup y.1 = some .local ∨ ((defScope st).names.lookup y.1 = some .cell ∧ ((cellsFrom (s.heap.objs.size + 1) (defScope st).names []).lookup y.1).isSome = true) := by
    intro y hy
    rw [List.mem_singleton.mp hy]
    exact (S.par p (by simp)).imp id fun z => ⟨z, PySem.W.cellsFrom_some _ _ _ (.inl z)⟩
  refine codeAny_call_function room.depth (inK _ _ at_f) rfl S.co S.gen rfl (PySem.W.codeRec_of inK code) (bind _ _ _ _ ?_)
  refine wpAny_newFunctionEnv_cells S.kind par ?_
  rintro env rfl s1 y
  have nolim : s.heap.NoLimit := e0.mod.nolimit.keeps fun b o e => (e0.bs b o e).1
  refine ⟨nolim.keeps y.toInCall.keep, codeAny_func ?_⟩
  have run := hb cdv s H (fun _ _ _ => False) (room.deeper _)
  have J := inv_start (CX := L2.CX P w) (qual := qual) (f := f) (cd := cdv) (E := fun _ _ _ => False) (vs := [V.ref a]) S room.hd e0 rfl (.cons rfl .nil) y
  have goal : tS K (fun cls d _ H => (fun _ _ _ => False : XK) cls d H) m { nx := fun _ H' => (fun v (_ : Hp) => v = V.bl true) .non H', rt := fun v _ => v = V.bl true } (L2.start N [V.ref a]) H := by
    refine ⟨_, fun _ => none, _, startS_ok (F := fun _ => none) (ds := []) (fun b o e => by cases e) sq .nil (FnScope.le S), ?_⟩
    unfold runL at done
    cases e : m (env0S N.length ns []) with
    | none => rw [e] at done; cases done
    | some q =>
      rw [e] at done
      match q, done with
      | .ok (.rt d) ρ', done =>
        cases done
        intro σ' v H' F' _ _ rv
        cases rv
        rfl
      | .ok .nx ρ', done => cases done
      | .ok .bk ρ', done => cases done
      | .ok .ct ρ', done => cases done
      | .ok (.rf es) ρ', done => cases done
      | .ex z ρ', done => cases done
  refine wpAny_mono (run.run [] s1 _ H _ J goal) ?_ fun e s' hs => hs
  intro fl s' hs
  match fl, hs with
  | .ret u, ⟨v, σ', H', J', rv, q⟩ => exact ⟨v, H', J'.os, J'.bare, J'.base, J'.hok, rv, q⟩
  | .next, ⟨σ', H', J', q⟩ => exact ⟨V.non, H', J'.os, J'.bare, J'.base, J'.hok, rfl, q⟩
  | .brk, ⟨_, _, _, q⟩ => exact q.elim
  | .cont, ⟨_, _, _, q⟩ => exact q.elim
end
section
variable {P : Program} {w : World} {K : PySem.W.Frag} {mg mb : Str → Option Value} {f a : Addr} {fd : FuncData} {p : Str} {k : Nat} {g : List Int → Option (Rs D)} {s : Shared} {us : List Value} {ns : List Int}
/-- the script's object -/
def scrO (us : List Value) : Obj := { cls := .type "list", data := .seq us.toArray }
/-- what is tracked: nothing, or the script alone -/
structure Trk (K : PySem.W.Frag) (h : Heap) (a : Addr) (us : List Value) (ns : List Int) (H : Hp) : Prop where
  only : ∀ b u, H b = some u → b = a ∧ u = .frz (scrO us) (.lst (ns.map V.int)) ∧ K.lookup a = none
  seq : SqL K H a (ns.map V.int)
theorem trk_free {h : Heap} {H : Hp} (T : Trk K h a us ns H) {b : Addr} (e : b ≠ a ∨ K.lookup a ≠ none) : H b = none := by
  cases q : H b with
  | none => rfl
  | some u =>
    obtain ⟨z, _, l⟩ := T.only b u q
    rcases e with e | e
    · exact absurd z e
    · exact absurd l e
theorem trk_ex (inK : K.In s.heap) (obj : s.heap.get? a = some (scrO us)) (hints : IntsAre us ns) (fits : ns.length ≤ sizeLine) : ∃ H, Trk K s.heap a us ns H ∧ HOk P w H s.heap := by
  have vals := vals_ints hints
  have len := hints.length
  by_cases hk : K.lookup a = none
  · refine ⟨fun b => if b = a then some (.frz (scrO us) (.lst (ns.map V.int))) else none, ⟨fun b u e => ?_, .inl (.inr ⟨scrO us, if_pos rfl⟩)⟩, fun b u e => ?_⟩
    · by_cases hb : b = a
      · rw [if_pos hb] at e
        exact ⟨hb, (Option.some.inj e).symm, hk⟩
      · rw [if_neg hb] at e; cases e
    · by_cases hb : b = a
      · subst hb
        dsimp only at e
        rw [if_pos rfl] at e
        cases e
        exact ⟨obj, by rw [List.length_map]; exact fits, us, _, vals, obj⟩
      · dsimp only at e
        rw [if_neg hb] at e; cases e
  · obtain ⟨o, ho⟩ := Option.ne_none_iff_exists'.mp hk
    have e := inK a o ho
    rw [obj] at e
    cases e
    exact ⟨fun _ => none, ⟨fun b u e => (by cases e), .inr ⟨_, us.toArray, _, ho, rfl, rfl, rfl, by rw [List.size_toArray, len]; exact fits, by simpa using vals⟩⟩, fun b u e => (by cases e)⟩
theorem law_run (inK : K.In s.heap) (main : s.heap.Ns mainGlobals mg) (blt : s.heap.Ns builtinsNs mb) (boot : ∀ x : Str, x ≠ "__name__" → mb x = bootBuiltins x) (lim : s.heap.NoLimit) (gens : s.gens = #[])
    (obj : s.heap.get? a = some (scrO us)) (hints : IntsAre us ns) (fits : ns.length ≤ sizeLine) (room : Room k callerA)
    (F : ∀ base : Heap, K.In base → base.Ns mainGlobals mg → LawFn P w K mg base f fd p k g) (bind : ∀ (s : Shared) (u : Value), BindsTo s fd ⟨[u], []⟩ [(p, u)]) (done : g ns = some (.ok (.bool true))) :
    codeAny (model P w) callerA (.call (.ref f) ⟨[.ref a], []⟩) (fun r s' => r = .ok (.ret (.bool true)) ∧ OldK s.heap s'.heap ∧ s'.os = s.os ∧ AllBare s'.gens) s := by
  obtain ⟨H, T, ok⟩ := trk_ex (P := P) (w := w) inK obj hints fits
  have isList : ∀ {o : Obj}, s.heap.get? a = some o → ∀ es n, o.data ≠ .dict es n := fun {o} e es n d => by
    rw [obj] at e; cases e; cases d
  have shown : ∀ {b : Addr} {m : Str → Option Value}, s.heap.Ns b m → (hidT s.heap H).Ns b m := by
    rintro b m ⟨o, es, n, e, d, r⟩
    exact ⟨o, es, n, hidT_get e (trk_free T (.inl fun z => isList (z ▸ e) es n d)), d, r⟩
  have inKb : K.In (hidT s.heap H) := fun b o e => by
    refine hidT_get (inK b o e) (trk_free T ?_)
    by_cases z : b = a
    · exact .inr fun y => by rw [← z, e] at y; cases y
    · exact .inl z
  obtain ⟨mc, n1, n2⟩ := lim
  have mod : Mod K mg (hidT s.heap H) := ⟨inKb, shown main, ⟨mb, shown blt, boot⟩, ⟨mc, shown n1, n2⟩⟩
  have e0 : Env0 P w K mg (hidT s.heap H) callerA [] s H := ⟨rfl, mod, fun b o e => of_hidT e, (by rw [hidT_size]; exact Nat.le_refl _), trivial, fun b z => (by cases z), ok, .of_eq gens⟩
  refine codeAny_mono (F _ inKb (shown main) s H a ns room e0 (bind s (.ref a)) T.seq done) fun r s' h => ?_
  match r, h with
  | .error e, h => exact (hCX0 h).elim
  | .ok .next, h => exact h.elim
  | .ok .brk, h => exact h.elim
  | .ok .cont, h => exact h.elim
  | .ok (.ret u), ⟨v, H', os, bare, un, ok', rv, q⟩ =>
    subst q
    obtain rfl : u = Value.bool true := rv
    refine ⟨rfl, OldK.of_keep fun b o e => ?_, os, bare⟩
    cases y : H b with
    | none => exact un.keep b o e y (fun z => by cases z) fun z => by cases z
    | some u =>
      obtain ⟨rfl, rfl, _⟩ := T.only b u y
      have z := (ok' b _ (un.frzs b _ _ y)).1
      rw [obj] at e
      cases e
      exact z
end
theorem walk_ofG {l : PySem.W.OpenLaw} {n k : Nat} {q : Program} {loose : List Str} {XP : (Str → Option Value) → Heap → Prop} {YP : World → Heap → Prop} {d : DefRec} {K : Params → PySem.W.Frag} {p : Str} {g : List Int → Option (Rs D)}
    (most : l.most = some n) (small : n ≤ sizeLine) (noDef : d.params.defaults = []) (room : Room k callerA) (inK : ∀ (w : World) (h : Heap), YP w h → (K w.params).In h)
    (F : ∀ (w : World) (mg : Str → Option Value) (f : Addr) (h : Heap), (K w.params).In h → h.Ns mainGlobals mg → mg d.name = some (.ref f) →
      ∃ fd : FuncData, (∀ (s : Shared) (u : Value), BindsTo s fd ⟨[u], []⟩ [(p, u)]) ∧ ∀ base : Heap, (K w.params).In base → base.Ns mainGlobals mg → LawFn l.prog w (K w.params) mg base f fd p k g)
    (done : ∀ ns : List Int, ns.length ≤ n → g ns = some (.ok (.bool true))) : PySem.W.WalkO q loose XP YP l.row.toRowW d [] (fun f vs => PySem.call f vs) := by
  refine Att.attach_call most noDef ?_
  intro w s₀ s₁ mg mb f o pm cd doc a vs ns G Y _ _ _ hmg hobj hints hlen hg
  obtain ⟨fd, bind, hF⟩ := F w mg f _ (inK w _ Y) G.T.g hmg
  exact law_run (inK w _ Y) G.T.g G.T.b G.T.builtins G.T.nolimit hg hobj hints (Nat.le_trans hlen small) room hF bind (done ns hlen)
/-! ### what is shown: repr of anything that is read -/
section
variable {X : Cx} {K : PySem.W.Frag}
def rShow (K : PySem.W.Frag) : List V → Hp → VK → Prop := fun xs H Q => ∃ (a : Addr) (d : D), xs = [.ref a] ∧ L2.Dp K H (.ref a) d ∧ d.showable = true ∧ d.hasDict = false ∧ d.depth ≤ 60 ∧ d.shown.length ≤ sizeLine ∧ Q (.str d.shown) H
theorem cr_show (hg : X.A.guards = some []) (hu : X.A.units + 64 < cLine) : CallR X (.builtin "repr") (rShow X.K) := by
  intro pins s σ H xs us Q I rv h
  obtain ⟨a, d, rfl, dp, sh, nd, dep, len, q⟩ := h
  cases rv with
  | cons r1 r2 =>
    cases r2
    obtain ⟨as, rd⟩ := L2.Dp.reads I d _ _ dp r1
    cases r1
    exact repr_of_reads' rd sh (fun z => by rw [nd] at z; cases z) hg (by omega) (fun b o e => e) (fun h' u tk k => ⟨.str d.shown, H, I.kept k, ⟨_, rfl⟩, q⟩) len
def showOk : D → Bool
  | .list ds => (PyData.list ds).showable && !(PyData.list ds).hasDict && decide ((PyData.list ds).depth ≤ 60) && fit (PyData.list ds).shown.length
  | .tuple ds => (PyData.tuple ds).showable && !(PyData.tuple ds).hasDict && decide ((PyData.tuple ds).depth ≤ 60) && fit (PyData.tuple ds).shown.length
  | _ => false
def showD : List D → Option D
  | [d] => if showOk d = true then some (.str d.shown) else none
  | _ => none
theorem showOk_ref {d : D} (h : showOk d = true) : d.showable = true ∧ d.hasDict = false ∧ d.depth ≤ 60 ∧ d.shown.length ≤ sizeLine ∧ ((∃ ds, d = .list ds) ∨ ∃ ds, d = .tuple ds) := by
  cases d with
  | list ds =>
    simp only [showOk, Bool.and_eq_true, Bool.not_eq_true', decide_eq_true_eq] at h
    exact ⟨h.1.1.1, h.1.1.2, h.1.2, fit_le h.2, .inl ⟨_, rfl⟩⟩
  | tuple ds =>
    simp only [showOk, Bool.and_eq_true, Bool.not_eq_true', decide_eq_true_eq] at h
    exact ⟨h.1.1.1, h.1.1.2, h.1.2, fit_le h.2, .inr ⟨_, rfl⟩⟩
  | _ => cases h
theorem cd_show : CallD K (rShow K) showD := by
  intro W c σ H F ρ xs ds d Q ok r e q
  unfold showD at e
  split at e
  · rename_i d'
    split at e
    · rename_i hs
      cases e
      obtain ⟨x, rfl, pk⟩ := pk1 r
      obtain ⟨h1, h2, h3, h4, h5⟩ := showOk_ref hs
      have dp := Pk.dp ok.sub pk
      have hx : ∃ a, x = .ref a := by
        rcases h5 with ⟨es, rfl⟩ | ⟨es, rfl⟩
        · obtain ⟨p, _, e, _⟩ := Pk.lst ok.sub pk; exact ⟨p, e⟩
        · obtain ⟨p, _, e, _⟩ := Pk.tup ok.sub pk; exact ⟨p, e⟩
      obtain ⟨a, rfl⟩ := hx
      exact ⟨a, d', rfl, dp, h1, h2, h3, h4, post_ok q ok _ (.str _)⟩
    · cases e
  · cases e
def reprG : List D → Option D := cOr reprD showD
theorem cd_reprG : CallD K (rOr rRepr (rShow K)) reprG := callD_or cd_repr cd_show
theorem cr_reprG (hg : X.A.guards = some []) (hu : X.A.units + 64 < cLine) : CallR X (.builtin "repr") (rOr rRepr (rShow X.K)) := CallR.or cr_repr (cr_show hg hu)
end
end Dd

namespace Dd
open PySem PySem.Spec L2 PyProof.Rows
/-! ### bits -/
section
variable {K : PySem.W.Frag}
def andD : D → D → Option D := iI fun i j => .int (Builtin.bitAnd i j)
def orD : D → D → Option D := iI fun i j => .int (Builtin.bitOr i j)
def xorD : D → D → Option D := iI fun i j => .int (Builtin.bitXor i j)
theorem opD_and : OpD K (rI0 fun i j => .int (Builtin.bitAnd i j)) andD := opD_I fun _ _ _ => .int _
theorem opD_or_ : OpD K (rI0 fun i j => .int (Builtin.bitOr i j)) orD := opD_I fun _ _ _ => .int _
theorem opD_xor : OpD K (rI0 fun i j => .int (Builtin.bitXor i j)) xorD := opD_I fun _ _ _ => .int _
def cShr (_ j : Int) : Bool := decide (0 ≤ j)
def shrD : D → D → Option D := iIc cShr fun i j => .int (i / 2 ^ j.toNat)
theorem opD_shr : OpD K (rI (fun _ j => 0 ≤ j) fun i j => .int (i / 2 ^ j.toNat)) shrD := opD_Ic (fun _ _ h => of_decide_eq_true h) fun _ _ _ => .int _
def shlD : D → D → Option D := iIc cPow fun i j => .int (i * 2 ^ j.toNat)
theorem cPow_ok (i j : Int) (h : cPow i j = true) : CPow i j := by
  simp only [cPow, Bool.and_eq_true, decide_eq_true_eq] at h
  exact ⟨h.1.1, h.1.2, h.2⟩
theorem opD_shl : OpD K (rI CPow fun i j => .int (i * 2 ^ j.toNat)) shlD := opD_Ic cPow_ok fun _ _ _ => .int _
theorem opD_mulI : OpD K (rI CMul fun i j => .int (i * j)) mulI := opD_Ic cMul_ok fun _ _ _ => .int _
end
/-! ### a slice by steps, of a list -/
def pickL {α : Type} (ds : List α) (lo hi st : Option Int) : List α := (sliceRange (sliceBounds lo hi st ds.length).1 (sliceBounds lo hi st ds.length).2.1 (sliceBounds lo hi st ds.length).2.2).filterMap (ds[·]?)
section
variable {K : PySem.W.Frag} {F : Hp}
theorem picks_dp {vs : List V} {ds : List D} (h : DpAll K F vs ds) : ∀ idx : List Nat, DpAll K F (idx.filterMap (vs[·]?)) (idx.filterMap (ds[·]?))
  | [] => .nil
  | i :: idx => by
    have ih := picks_dp h idx
    cases e : ds[i]? with
    | none =>
      have l := DpAll.length h
      have e2 : vs[i]? = none := List.getElem?_eq_none (by rw [l]; exact List.getElem?_eq_none_iff.mp e)
      rw [List.filterMap_cons_none (by exact e2), List.filterMap_cons_none (by exact e)]
      exact ih
    | some d =>
      obtain ⟨v, e2, r⟩ := DpAll.getd h e
      rw [List.filterMap_cons_some (by exact e2), List.filterMap_cons_some (by exact e)]
      exact .cons r ih
theorem DpAll.pick {vs : List V} {ds : List D} (h : DpAll K F vs ds) (lo hi st : Option Int) : DpAll K F (pickL vs lo hi st) (pickL ds lo hi st) := by
  unfold pickL
  rw [DpAll.length h]
  exact picks_dp h _
theorem vals_get {xs : List V} {us : List Value} (r : Vals xs us) : ∀ i : Nat, (xs[i]? = none ∧ us[i]? = none) ∨ ∃ x u, xs[i]? = some x ∧ us[i]? = some u ∧ RelV x u := by
  induction r with
  | nil => intro i; exact .inl ⟨by simp, by simp⟩
  | cons h _ ih =>
    intro i
    cases i with
    | zero => exact .inr ⟨_, _, rfl, rfl, h⟩
    | succ i => simpa using ih i
theorem picks_vals {xs : List V} {us : List Value} (r : Vals xs us) : ∀ idx : List Nat, Vals (idx.filterMap (xs[·]?)) (idx.filterMap (us[·]?))
  | [] => .nil
  | i :: idx => by
    rcases vals_get r i with ⟨e1, e2⟩ | ⟨x, u, e1, e2, h⟩
    · rw [List.filterMap_cons_none (by exact e1), List.filterMap_cons_none (by exact e2)]
      exact picks_vals r idx
    · rw [List.filterMap_cons_some (by exact e1), List.filterMap_cons_some (by exact e2)]
      exact .cons h (picks_vals r idx)
end
def tStep (K : PySem.W.Frag) (te : TE) (tl : TO) (k : Int) : TE := fun σ H Q => te σ H fun x H1 => tl σ H1 fun l H2 => ∃ a xs, x = .ref a ∧ SqL K H2 a xs ∧ (pickL xs l none (some k)).length ≤ sizeLine ∧ ∀ p, H2 p = none → Q (.ref p) (upd H2 p (.lst (pickL xs l none (some k))))
section
variable {X : Cx} {e : Expr} {te : TE} {tl : TO} {lo : Option Expr} {k : Int} {j : Option Str} {p1 p3 pos : Pos}
theorem pe_step {kk : Nat} (k0 : k ≠ 0) (he : PE X e te) (hl : PO X lo tl) : PE X (.Subscript e (.Slice lo none (some (.Constant (.int k) kk p1)) p3) pos) (tStep X.K te tl k) := by
  refine ⟨fun pins s σ H Q I h => ?_⟩
  refine Subscript_ (thn (he.run pins s σ H _ I h) ?_)
  rintro v s1 ⟨x, H1, I1, rv, q1⟩
  refine wpAny_Slice (thn (hl.run pins s1 σ H1 _ I1 q1) ?_)
  rintro vl s2 ⟨l, H2, I2, pl, q2⟩
  refine thn (po_none.run pins s2 σ H2 (fun o H3 => o = none ∧ H3 = H2) I2 ⟨rfl, rfl⟩) ?_
  rintro vu s3 ⟨u, H3, I3, pu, rfl, rfl⟩
  refine thn ((po_some (pe_int (i := k) (j := kk) (pos := p1))).run pins s3 σ H3 (fun o H4 => o = some k ∧ H4 = H3) I3 ⟨k, rfl, rfl, rfl⟩) ?_
  rintro vs s4 ⟨o, H4, I4, ps, rfl, rfl⟩
  obtain ⟨a, xs, rfl, sq, fits, q⟩ := q2
  cases rv
  have I5 : Inv X pins σ H4 { s4 with heap := s4.heap.push { cls := .type "slice", data := .fields #[vl, vu, vs] } } := I4.kept (t' := s4.toks) fun b ob y => Heap.get?_push_of_some _ y
  obtain ⟨its, r, ht, hz⟩ := I5.list sq
  have len := r.length
  show wpAny (model X.prog X.w) X.A (subscriptTail e (.Slice lo none (some (.Constant (.int k) kk p1)) p3) (.ref a) (.ref s4.heap.objs.size)) (EP X pins σ Q) X.xe { s4 with heap := s4.heap.push { cls := .type "slice", data := .fields #[vl, vu, vs] } }
  refine tail_any (ops := [.ref a, .ref s4.heap.objs.size]) ht.isList.typeIs (PySem.slot_list_getitem.lookup) ?_ (by with_unfolding_all rfl)
  refine wpAny_getItem_list_slice ht.isList (Heap.IsSliceOf.new _ vl vu vs) pl pu ps (by intro z; exact k0 (Option.some.inj z)) ?_ (by rw [List.size_toArray]; omega)
  have same : slicePick its.toArray l none (some k) = (pickL its l none (some k)).toArray := by
    unfold slicePick pickL
    simp
  rw [same]
  refine ⟨.ref _, _, I5.laid (t' := s4.toks) (o := .lst (pickL xs l none (some k))) (fun b ob y => Heap.get?_push_of_some _ y) (Nat.le_refl _) ?_, rfl, q _ (I5.hok.fresh (Nat.le_refl _))⟩
  refine ⟨fits, _, 0, ?_, Heap.get?_push_size _ rfl⟩
  unfold pickL
  rw [len]
  exact picks_vals r _
end
def stepO (k : Int) : D → Option Int → Option (List D)
  | .list ds, lo => if fit (pickL ds lo none (some k)).length = true then some (pickL ds lo none (some k)) else none
  | _, _ => none
def mStepN (k : Int) (m : M D) (ml : M (Option Int)) : M (List D) := mBind m fun d => mBind ml fun l => mLift (stepO k d l)
section
variable {X : Cx} {W : WX} {e : Expr} {lo : Option Expr} {m : M D} {ml : M (Option Int)} {k : Int} {p1 p3 pos : Pos} {kk : Nat}
theorem dStepN (k0 : k ≠ 0) (he : PE X e (tE X.K W m)) (hl : PO X lo (tO X.K W ml)) : PE X (.Subscript e (.Slice lo none (some (.Constant (.int k) kk p1)) p3) pos) (tN X.K W (mStepN k m ml)) := PE.imp (pe_step k0 he hl) (by
  rintro σ H Q ⟨c, F, ρ, ok, h⟩
  refine ⟨c, F, ρ, ok, post_mono ?_ (postN_bind h)⟩
  rintro d H1 F1 _ ⟨ρ1, ok1, s1, h1⟩ x rx
  refine ⟨c, F1, ρ1, ok1, post_mono ?_ (postN_bind h1)⟩
  rintro l H2 F2 _ ⟨ρ2, ok2, s2, h2⟩
  obtain ⟨ds, e, h3⟩ := postN_lift h2
  cases d with
  | list es =>
    unfold stepO at e
    dsimp only at e
    split at e
    · rename_i hf
      cases e
      obtain ⟨p, vs, rfl, hp, dp⟩ := Pk.lst ok2.sub (.inl (Dp.mono s2 rx))
      refine ⟨p, vs, rfl, hp, ?_, fun p hp => new_N ok2 (DpAll.pick dp l none (some k)) h3 p hp⟩
      rw [DpAll.length (DpAll.pick dp l none (some k))]
      exact fit_le hf
    · cases e
  | _ => cases e)
end
/-! ### list + list, a new one -/
def catN : D → D → Option (List D)
  | .list xs, .list ys => if fit (xs.length + ys.length) = true then some (xs ++ ys) else none
  | _, _ => none
def mCatN (ma mb : M D) : M (List D) := mBind ma fun a => mBind mb fun b => mLift (catN a b)
def mCatNL (i : Nat) (mb : M D) : M (List D) := mBind (mPeek i) fun _ => mBind mb fun b => mBind (mPeek i) fun a => mLift (catN a b)
section
variable {X : Cx} {W : WX} {K : PySem.W.Frag} {c : Ct} {σ : L2.St} {F H : Hp} {ρ : En} {ma mb : M D} {a b : Expr} {pos : Pos}
theorem catN_of {x y : V} {a b : D} {ds : List D} {Q : VK} (ok : Ok K c σ H F ρ) (rx : Pk K H F x a) (ry : Pk K H F y b) (e : catN a b = some ds) (q : postN K W c σ F Q (some (.ok ds ρ))) : rCatS x y H Q := by
  unfold catN at e
  split at e
  · rename_i xs ys
    split at e
    · rename_i hf
      cases e
      obtain ⟨p, vs, rfl, hp, dp⟩ := Pk.rd ok.sub rx
      obtain ⟨p2, vs2, rfl, hp2, dp2⟩ := Pk.rd ok.sub ry
      exact ⟨p, p2, vs, vs2, rfl, rfl, hp, hp2, by rw [DpAll.length dp, DpAll.length dp2]; exact fit_le hf, fun p hp => new_N ok (DpAll.append dp dp2) q p hp⟩
    · cases e
  · cases e
theorem dCatN (ha : PE X a (tE X.K W ma)) (hb : PE X b (tP X.K W mb)) : PE X (.BinOp a .Add b pos) (tN X.K W (mCatN ma mb)) := PE.imp (pe_op op_catS ha hb) (by
  rintro σ H Q ⟨c, F, ρ, ok, h⟩
  refine ⟨c, F, ρ, ok, post_mono ?_ (postN_bind h)⟩
  rintro a H1 F1 _ ⟨ρ1, ok1, s1, h1⟩ x rx
  refine ⟨c, F1, ρ1, ok1, post_mono ?_ (postN_bind h1)⟩
  rintro b H2 F2 _ ⟨ρ2, ok2, s2, h2⟩ y ry
  obtain ⟨ds, e, h3⟩ := postN_lift h2
  exact catN_of ok2 (.inl (Dp.mono s2 rx)) ry e h3)
theorem dCatNL {i : Nat} (ha : PE X a (tVar i)) (hb : PE X b (tP X.K W mb)) : PE X (.BinOp a .Add b pos) (tN X.K W (mCatNL i mb)) := PE.imp (pe_op op_catS ha hb) (by
  rintro σ H Q ⟨c, F, ρ, ok, h⟩
  obtain ⟨v, _, ev, _, h⟩ := post_peekN ok h
  refine ⟨v, ev, c, F, ρ, ok, post_mono ?_ (postN_bind h)⟩
  rintro b H2 F2 _ ⟨ρ2, ok2, s2, h2⟩ y ry
  obtain ⟨v', a, ev', pk, h3⟩ := post_peekN ok2 h2
  obtain ⟨ds, e, h4⟩ := postN_lift h3
  have ee : v' = v := by rw [ev] at ev'; cases ev'; rfl
  subst ee
  exact catN_of ok2 pk ry e h4)
end
end Dd

namespace Dd
open PySem PySem.Spec L2 PyProof.Rows
/-! ### sum of a tuple of ints -/
theorem preSum_get (ns : List Int) : ∀ n : Nat, n ≤ ns.length → preSum (fun j => ns.getD j 0) n = (ns.take n).sum
  | 0, _ => rfl
  | n + 1, h => by
    have ih := preSum_get ns n (by omega)
    show preSum (fun j => ns.getD j 0) n + ns.getD n 0 = _
    rw [ih, List.take_succ, List.getElem?_eq_getElem (show n < ns.length by omega), List.sum_append, List.getD_eq_getElem?_getD, List.getElem?_eq_getElem (show n < ns.length by omega)]
    simp
theorem ints_get {us : List Value} {ns : List Int} (r : Vals (ns.map V.int) us) {i : Nat} {v : Value} (e : us[i]? = some v) : ∃ t, v = .int (ns.getD i 0) t := by
  rcases vals_get r i with ⟨_, e2⟩ | ⟨x, u, e1, e2, h⟩
  · rw [e2] at e; cases e
  · rw [e2] at e
    cases e
    rw [List.getElem?_map] at e1
    cases q : ns[i]? with
    | none => rw [q] at e1; cases e1
    | some n =>
      rw [q] at e1
      cases e1
      obtain ⟨t, rfl⟩ := h
      exact ⟨t, by rw [List.getD_eq_getElem?_getD, q]; rfl⟩
def rSumT (K : PySem.W.Frag) : List V → Hp → VK → Prop := fun xs H Q => ∃ (a : Addr) (ns : List Int), xs = [V.ref a] ∧ SqT K H a (ns.map V.int) ∧ Q (.int ns.sum) H
section
variable {X : Cx} {K : PySem.W.Frag}
theorem cr_sumT (hc : X.calm = true) : CallR X (.builtin "sum") (rSumT X.K) := by
  intro pins s σ H xs us Q I rv h
  obtain ⟨a, ns, rfl, sq, q⟩ := h
  obtain ⟨its, r, tup, _⟩ := I.tuple sq
  rw [Vals.ref1 rv]
  have calm : X.A.in1.handled = none := I.ok.hd hc
  have lt : a < s.heap.objs.size := by
    obtain ⟨o, e, _⟩ := show s.heap.IsTuple a its.toArray from tup
    exact Heap.lt_size e
  have len : its.length = ns.length := by rw [← r.length, List.length_map]
  refine call_sum_walkG (wpAny_pyIter_tuple (show s.heap.IsTuple a its.toArray from tup) ?_)
  refine ⟨_, _, _, _, _, _, fun j => ns.getD j 0, rfl, Walks.tuple (A := X.A.in1) calm s.heap.objs.size a (Nat.ne_of_lt lt) its.toArray, ⟨⟨_, Heap.get?_push_size _ rfl, rfl, rfl⟩, ?_⟩, ?_, fun i v e => ints_get r (by simpa using e), ?_⟩
  · exact (show s.heap.IsTuple a its.toArray from tup).at fun o e => Heap.get?_push_of_some _ e
  · intro b hb
    show b < (s.heap.push _).objs.size
    rw [Heap.size_push]
    simp only [List.mem_cons, List.not_mem_nil, or_false] at hb
    rcases hb with rfl | rfl
    · exact Nat.lt_succ_self _
    · exact Nat.lt_succ_of_lt lt
  · intro h' tk t' keep
    have e : preSum (fun j => ns.getD j 0) its.toArray.size = ns.sum := by
      rw [List.size_toArray, len, preSum_get ns _ (Nat.le_refl _), List.take_length]
    rw [e]
    refine ⟨.int ns.sum, H, I.kept fun b o y => ?_, ⟨_, rfl⟩, q⟩
    refine keep b o ?_ (Heap.get?_push_of_some _ y)
    intro z
    have z' : b = s.heap.objs.size := by simpa using z
    exact absurd (Heap.lt_size y) (by rw [z']; exact Nat.lt_irrefl _)
def sumT : List D → Option D
  | [.tuple ds] => (toInts ds).map fun ns => .int ns.sum
  | _ => none
theorem cd_sumT : CallD K (rSumT K) sumT := by
  intro W c σ H F ρ xs ds d Q ok r e q
  unfold sumT at e
  split at e
  · rename_i es
    cases q2 : toInts es with
    | none => rw [q2] at e; cases e
    | some ns =>
      rw [q2] at e
      cases e
      obtain ⟨x, rfl, pk⟩ := pk1 r
      obtain ⟨p, vs, rfl, hp, dp⟩ := Pk.tup ok.sub pk
      have e1 := toInts_eq q2
      subst e1
      have e2 := DpAll.ints dp
      subst e2
      exact ⟨p, ns, rfl, hp, post_ok q ok _ (.int _)⟩
  · cases e
def sumA : List D → Option D := cOr sumD sumT
theorem cr_sumA (hc : X.calm = true) : CallR X (.builtin "sum") (rOr (rSum X.K) (rSumT X.K)) := CallR.or (cr_sum hc) (cr_sumT hc)
theorem cd_sumA : CallD K (rOr (rSum K) (rSumT K)) sumA := callD_or cd_sum cd_sumT
end
/-! ### a slice by steps of a list that stands in a slot -/
def mStepNL (k : Int) (i : Nat) (ml : M (Option Int)) : M (List D) := mBind (mPeek i) fun _ => mBind ml fun l => mBind (mPeek i) fun d => mLift (stepO k d l)
section
variable {X : Cx} {W : WX} {e : Expr} {lo : Option Expr} {ml : M (Option Int)} {k : Int} {p1 p3 pos : Pos} {kk : Nat}
theorem dStepNL {i : Nat} (k0 : k ≠ 0) (he : PE X e (tVar i)) (hl : PO X lo (tO X.K W ml)) : PE X (.Subscript e (.Slice lo none (some (.Constant (.int k) kk p1)) p3) pos) (tN X.K W (mStepNL k i ml)) := PE.imp (pe_step k0 he hl) (by
  rintro σ H Q ⟨c, F, ρ, ok, h⟩
  obtain ⟨v, _, ev, _, h⟩ := post_peekN ok h
  refine ⟨v, ev, c, F, ρ, ok, post_mono ?_ (postN_bind h)⟩
  rintro l H2 F2 _ ⟨ρ2, ok2, s2, h2⟩
  obtain ⟨v', d, ev', pk, h3⟩ := post_peekN ok2 h2
  obtain ⟨ds, e, h4⟩ := postN_lift h3
  have ee : v' = v := by rw [ev] at ev'; cases ev'; rfl
  subst ee
  cases d with
  | list es =>
    unfold stepO at e
    dsimp only at e
    split at e
    · rename_i hf
      cases e
      obtain ⟨p, vs, rfl, hp, dp⟩ := Pk.lst ok2.sub pk
      refine ⟨p, vs, rfl, hp, ?_, fun p hp => new_N ok2 (DpAll.pick dp l none (some k)) h4 p hp⟩
      rw [DpAll.length (DpAll.pick dp l none (some k))]
      exact fit_le hf
    · cases e
  | _ => cases e)
end
end Dd

namespace Dd
open PySem PySem.Spec L2 PyProof.Rows
variable {K : PySem.W.Frag}
/-! ### zip of a list and a tuple, whichever is first -/
/-- a list (false) or a tuple (true), and an iterator of it -/
def SqB (K : PySem.W.Frag) : Bool → Hp → Addr → List V → Prop
  | false, H, a, xs => SqL K H a xs
  | true, H, a, xs => SqT K H a xs
def IsB : Bool → Heap → Addr → Array Value → Prop
  | false, h, a, its => h.IsList a its
  | true, h, a, its => h.IsTuple a its
def ItB : Bool → Heap → Addr → Addr → Nat → Prop
  | false, h, i, a, k => h.IsListIter i a k
  | true, h, i, a, k => h.IsTupleIter i a k
theorem ItB.at {b : Bool} {h h' : Heap} {i a : Addr} {k : Nat} (t : ItB b h i a k) (e : ∀ o, h.get? i = some o → h'.get? i = some o) : ItB b h' i a k := by
  cases b
  · exact Heap.IsListIter.at t e
  · exact Heap.IsTupleIter.at t e
theorem ItB.obj {b : Bool} {h : Heap} {i a : Addr} {k : Nat} (t : ItB b h i a k) : ∃ o, h.get? i = some o ∧ ∀ v, o.data ≠ .cell v := by
  cases b
  · obtain ⟨o, e, _, d⟩ := t
    exact ⟨o, e, fun v q => by rw [d] at q; cases q⟩
  · obtain ⟨o, e, _, d⟩ := t
    exact ⟨o, e, fun v q => by rw [d] at q; cases q⟩
theorem IsB.lt {b : Bool} {h : Heap} {a : Addr} {its : Array Value} (t : IsB b h a its) : a < h.objs.size := by
  cases b
  · obtain ⟨o, e, _⟩ := t
    exact Heap.lt_size e
  · obtain ⟨o, e, _⟩ := t
    exact Heap.lt_size e
theorem sqB_inv {X : Cx} {pins : List (Addr × Obj)} {σ : L2.St} {H : Hp} {s : Shared} {b : Bool} {a : Addr} {xs : List V} (I : Inv X pins σ H s) (h : SqB X.K b H a xs) : ∃ its : List Value, Vals xs its ∧ IsB b s.heap a its.toArray := by
  cases b
  · obtain ⟨its, rv, p, _⟩ := I.list h
    exact ⟨its, rv, p.isList⟩
  · obtain ⟨its, rv, p, _⟩ := I.tuple h
    exact ⟨its, rv, p⟩
theorem sqB_inj {X : Cx} {pins : List (Addr × Obj)} {σ : L2.St} {H : Hp} {s : Shared} {b : Bool} {a : Addr} {xs ys : List V} (I : Inv X pins σ H s) (h : SqB X.K b H a xs) (h' : SqB X.K b H a ys) : xs = ys := by
  cases b
  · exact I.list_inj h h'
  · exact I.tuple_inj h h'
theorem drawsB {prog : Program} {w : World} {A : Around} (hh : A.handled = none) (b : Bool) (it l : Addr) (hne : l ≠ it) (items : Array Value) :
    Draws prog w A it [it, l] items.size (fun i v => items[i]? = some v) (fun i h => ItB b h it l i ∧ IsB b h l items) := by
  cases b
  · exact Draws.list hh it l hne items
  · exact Draws.tuple hh it l hne items
theorem sepB {z TI TO i1 i2 a b : Addr} (D : ZipApart z TI TO i1 i2 a b) : ZipSep2 z TI TO i1 i2 [i1, a] [i2, b] where
  TIz := D.TIz
  TOz := D.TOz
  TITO := D.TITO
  TIi1 := D.TIi1
  mem1 := by simp
  zf1 := by simp [D.i1z.symm, D.l1z.symm]
  Tf1 := by simp [D.TOi1, D.l1TO.symm]
  TIi2 := D.TIi2
  mem2 := by simp
  zf2 := by simp [D.i2z.symm, D.l2z.symm]
  Tf2 := by simp [D.TOi2, D.l2TO.symm]
  sep1_2 := by simp [D.i12, D.l2i1.symm]
  sep2_1 := by simp [D.i12.symm, D.l1i2.symm]
/-- the items of both in new pairs -/
def Itzb (K : PySem.W.Frag) (b1 b2 : Bool) (a b : Addr) (n1 n2 : Nat) : It :=
  ⟨fun i H => ∃ (xs ys : List V) (x y : V), SqB K b1 H a xs ∧ SqB K b2 H b ys ∧ xs.length = n1 ∧ ys.length = n2 ∧ xs[i]? = some x ∧ ys[i]? = some y,
    fun i H v H' => ∃ T x y, v = .ref T ∧ H T = none ∧ H' = upd H T (.tup [x, y]) ∧ (∀ xs, SqB K b1 H a xs → xs[i]? = some x) ∧ ∀ ys, SqB K b2 H b ys → ys[i]? = some y,
    fun i H => ∃ xs ys : List V, SqB K b1 H a xs ∧ SqB K b2 H b ys ∧ xs.length = n1 ∧ ys.length = n2 ∧ (n1 ≤ i ∨ n2 ≤ i)⟩
theorem in1_handled {A : Around} (h : A.handled = none) : A.in1.handled = none := h
theorem turn_zipB {P : Program} {w : World} {elts : List Expr} {kk : Nat} {tpos : Pos} {b1 b2 : Bool} {a b z TI TO i1 i2 : Addr} {n1 n2 : Nat} (D : ZipApart z TI TO i1 i2 a b) :
    Turn P w K (.Tuple elts kk tpos) (Itzb K b1 b2 a b n1 n2) [z, TI, TO, i1, i2] z (fun i h => IsZip h z TI TO .none ∧ IsTupOf2 h TI (.ref i1) (.ref i2) ∧ (∃ x y, IsTupOf2 h TO x y) ∧ ItB b1 h i1 a i ∧ ItB b2 h i2 b i ∧ i ≤ n1 ∧ i ≤ n2) where
  mem := by simp
  obj := fun i h st c hc => by
    obtain ⟨hz, hTI, ⟨x, y, hTO⟩, h1, h2, hn1, hn2⟩ := st
    have e' : c = z ∨ c = TI ∨ c = TO ∨ c = i1 ∨ c = i2 := by simpa using hc
    rcases e' with rfl | rfl | rfl | rfl | rfl
    · exact ⟨_, hz, fun v q => nomatch q⟩
    · exact ⟨_, hTI, fun v q => nomatch q⟩
    · exact ⟨_, hTO, fun v q => nomatch q⟩
    · exact h1.obj
    · exact h2.obj
  keep := fun i h h' st k => by
    obtain ⟨hz, hTI, ⟨x, y, hTO⟩, h1, h2, hn1, hn2⟩ := st
    exact ⟨k z (by simp) _ hz, k TI (by simp) _ hTI, ⟨x, y, k TO (by simp) _ hTO⟩, h1.at fun o q => k i1 (by simp) o q, h2.at fun o q => k i2 (by simp) o q, hn1, hn2⟩
  item := by
    intro X hP hw hK hc i pins s σ H E I hf st hg
    subst hP hw hK
    obtain ⟨hz, hTI, ⟨x0, y0, hTO⟩, h1, h2, hn1, hn2⟩ := st
    obtain ⟨xs, ys, x, y, hqx, hqy, ln1, ln2, hx, hy⟩ := hg
    obtain ⟨its, rv, p⟩ := sqB_inv I hqx
    obtain ⟨its2, rv2, p2⟩ := sqB_inv I hqy
    obtain ⟨u, hu, ru⟩ := rv.get hx
    obtain ⟨u2, hu2, ru2⟩ := rv2.get hy
    have hzl : z < s.heap.objs.size := Heap.lt_size hz
    have hh := in1_handled (I.ok.hd hc)
    have lt1 : i < its.toArray.size := by
      have := (List.getElem?_eq_some_iff.mp hu).1
      simpa using this
    have lt2 : i < its2.toArray.size := by
      have := (List.getElem?_eq_some_iff.mp hu2).1
      simpa using this
    refine wpAny_pyNext_zipD2_item (sepB D) (drawsB hh b1 i1 a D.l1i1 its.toArray) (drawsB hh b2 i2 b D.l2i2 its2.toArray) hz hTI hTO ⟨h1, p⟩ ⟨h2, p2⟩ lt1 lt2 fun x1 x2 h' tk q1 q2 z' TO' d1 d2 hT hsz hk => ?_
    have ex1 : x1 = u := by
      have : its.toArray[i]? = some u := by simpa using hu
      rw [this] at q1
      exact (Option.some.inj q1).symm
    have ex2 : x2 = u2 := by
      have : its2.toArray[i]? = some u2 := by simpa using hu2
      rw [this] at q2
      exact (Option.some.inj q2).symm
    subst ex1 ex2
    refine ⟨_, rfl, wpAny_letOwnedTupleGo_zip (s := { s with heap := h', toks := tk }) z' fun h'' z'' sb => ?_⟩
    have hT2 : h''.get? s.heap.objs.size = some { cls := .type "tuple", data := .seq #[x1, x2] } := (sb.2 _ (Nat.ne_of_gt hzl)).trans hT
    have new : ObjOk X.prog X.w (upd H s.heap.objs.size (.tup [x, y])) h'' s.heap.objs.size (.tup [x, y]) :=
      ⟨by show 2 ≤ sizeLine; decide, [x1, x2], .cons ru (.cons ru2 .nil), ⟨_, hT2, rfl, _, rfl⟩⟩
    have I1 : Inv X pins σ (upd H s.heap.objs.size (.tup [x, y])) { s with heap := h'', toks := tk } :=
      I.turnedNew (t' := tk) (ch := [z, TI, TO, i1, i2]) (fun c o hb q => (sb.2 c (fun q' => hb (by simp [q']))).trans (hk c o (fun q' => hb (by simp [q'])) (fun q' => hb (by simp [q'])) (fun q' => hb (by simp [q'])) (fun q' => hb (by simp [q'])) q)) hf (Nat.le_refl _) new
    refine ⟨.ref s.heap.objs.size, _, I1, rfl, ⟨_, x, y, rfl, I.hok.fresh (Nat.le_refl _), rfl, fun l hl => by rw [sqB_inj I hl hqx]; exact hx, fun l hl => by rw [sqB_inj I hl hqy]; exact hy⟩, ⟨z'', ?_, ⟨x1, x2, ?_⟩, ?_, ?_, ?_, ?_⟩, fun c hcm => ?_⟩
    · exact (sb.2 _ D.TIz).trans (hk _ _ D.TIz D.TITO D.TIi1 D.TIi2 hTI)
    · exact (sb.2 _ D.TOz).trans TO'
    · exact d1.1.at fun o q => (sb.2 _ D.i1z).trans q
    · exact d2.1.at fun o q => (sb.2 _ D.i2z).trans q
    · have := (List.getElem?_eq_some_iff.mp hx).1; omega
    · have := (List.getElem?_eq_some_iff.mp hy).1; omega
    · have hlt : c < s.heap.objs.size := by
        have e' : c = z ∨ c = TI ∨ c = TO ∨ c = i1 ∨ c = i2 := by simpa using hcm
        rcases e' with rfl | rfl | rfl | rfl | rfl
        · exact hzl
        · exact Heap.lt_size hTI
        · exact Heap.lt_size hTO
        · obtain ⟨_, e1, _⟩ := h1.obj; exact Heap.lt_size e1
        · obtain ⟨_, e2, _⟩ := h2.obj; exact Heap.lt_size e2
      rw [upd_ne (Nat.ne_of_lt hlt)]
      exact (hf c hcm).1
  done := by
    intro X hP hw hK hc i pins s σ H E I hf st hg
    subst hP hw hK
    obtain ⟨hz, hTI, ⟨x0, y0, hTO⟩, h1, h2, hn1, hn2⟩ := st
    obtain ⟨xs, ys, hqx, hqy, ln1, ln2, hend⟩ := hg
    obtain ⟨its, rv, p⟩ := sqB_inv I hqx
    obtain ⟨its2, rv2, p2⟩ := sqB_inv I hqy
    have l1 := rv.length
    have l2 := rv2.length
    have hh := in1_handled (I.ok.hd hc)
    refine wpAny_pyNext_zipD2_end (sepB D) (drawsB hh b1 i1 a D.l1i1 its.toArray) (drawsB hh b2 i2 b D.l2i2 its2.toArray) hz hTI hTO ⟨h1, p⟩ ⟨h2, p2⟩ (by simp; omega) (by simp; omega) (by simp; omega) fun h' tk hk => ⟨rfl, I.turnedL (t' := tk) (ch := [z, TI, TO, i1, i2]) (fun c o hb q =>
      hk c o (fun q' => hb (by simp [q'])) (fun q' => hb (by simp [q'])) (fun q' => hb (by simp [q'])) (fun q' => hb (by simp [q'])) q) hf⟩
  self := fun A i s Q E st h => wpAny_pyIter_zip st.1 h
/-- iter of a list or a tuple -/
def objB : Bool → Addr → Obj
  | false, l => { cls := .type "list_iterator", data := .fields #[.ref l, .int 0 0] }
  | true, l => { cls := .type "tuple_iterator", data := .fields #[.ref l, .int 0 0] }
theorem beginsB (b : Bool) (l : Addr) (items : Array Value) : Begins (.ref l) (objB b l) fun h => IsB b h l items := by
  cases b
  · exact begins_list l items
  · exact begins_tuple l items
theorem itB_of {b : Bool} {h : Heap} {i l : Addr} (e : h.get? i = some (objB b l)) : ItB b h i l 0 := by
  cases b
  · exact ⟨_, e, rfl, rfl⟩
  · exact ⟨_, e, rfl, rfl⟩
def iZipB (K : PySem.W.Frag) (ta : TA) : TI := fun σ H R => ta σ H fun vs H1 => ∃ b1 b2 a b xs ys, vs = [.ref a, .ref b] ∧ SqB K b1 H1 a xs ∧ SqB K b2 H1 b ys ∧ R (Itzb K b1 b2 a b xs.length ys.length) H1
theorem pi_zipB {X : Cx} {e e2 : Expr} {ta : TA} {p pos tpos : Pos} {elts : List Expr} {kk : Nat} (hg : Gl X "zip") (hm : X.mg "zip" = none) (ha : PA X [e, e2] ta)
    (hs : starEach [e, e2] X.env = (false, eval e X.env) :: starEach [e2] X.env := by rfl) (hpl : (backTo pos (starEach [e2] X.env)).any (·.1) = false := by rfl) :
    PI X (.Tuple elts kk tpos) (.Call (.Name "zip" p) [e, e2] [] pos) (iZipB X.K ta) := by
  refine ⟨fun pins s σ H R I h => ?_⟩
  refine Call_ (ld_blt I hg hm PyProof.Rows.boot_zip (PyProof.Rows.callWith_type1 (thn (ha.run pos pins s σ H _ I h) fun us s1 ⟨vs, H1, I1, r1, q1⟩ => ?_) hs hpl))
  obtain ⟨b1, b2, a, b, xs, ys, ex, hqx, hqy, q⟩ := q1
  subst ex
  cases r1 with
  | cons r rr =>
    cases rr with
    | cons r' rr =>
      cases rr
      cases r
      cases r'
      have fresh5 : ∀ c, c ∈ [s1.heap.objs.size + 4, s1.heap.objs.size + 2, s1.heap.objs.size + 3, s1.heap.objs.size, s1.heap.objs.size + 1] → FpOk X pins H1 c := fun c hcm => by
        have e' : c = s1.heap.objs.size + 4 ∨ c = s1.heap.objs.size + 2 ∨ c = s1.heap.objs.size + 3 ∨ c = s1.heap.objs.size ∨ c = s1.heap.objs.size + 1 := by simpa using hcm
        have hle : s1.heap.objs.size ≤ c := by
          rcases e' with rfl | rfl | rfl | rfl | rfl
          · exact Nat.le_add_right _ _
          · exact Nat.le_add_right _ _
          · exact Nat.le_add_right _ _
          · exact Nat.le_refl _
          · exact Nat.le_add_right _ _
        exact I1.fpOk hle (I1.hok.fresh hle)
      obtain ⟨its, rv, p1⟩ := sqB_inv I1 hqx
      obtain ⟨its2, rv2, p2⟩ := sqB_inv I1 hqy
      refine zip_begins2 (beginsB b1 a its.toArray) (beginsB b2 b its2.toArray) p1 p2 fun h' hz hTI hTO h1 h2 hsz hk => wpAny_pyIter_zip hz ?_
      have I2 : Inv X pins σ H1 { s1 with heap := h' } := I1.kept (t' := s1.toks) hk
      exact ⟨s1.heap.objs.size + 4, [s1.heap.objs.size + 4, s1.heap.objs.size + 2, s1.heap.objs.size + 3, s1.heap.objs.size, s1.heap.objs.size + 1], _, _, H1, rfl, I2, turn_zipB (PySem.W.ktu_apart s1.heap.objs.size a b p1.lt p2.lt), ⟨hz, hTI, ⟨_, _, hTO⟩, itB_of h1, itB_of h2, Nat.zero_le _, Nat.zero_le _⟩, fresh5, q⟩
theorem sqB_mono {F H : Hp} {b : Bool} {a : Addr} {xs : List V} (s : Same F H) (h : SqB K b F a xs) : SqB K b H a xs := by
  cases b
  · rcases h with h | h
    · exact .inl (Rd.mono s h)
    · exact .inr h
  · exact SqT.mono s h
theorem itzB_D {F : Hp} {b1 b2 : Bool} {a b : Addr} {xs ys : List V} {ds es : List D} (h : SqB K b1 F a xs) (hd : DpAll K F xs ds) (h2 : SqB K b2 F b ys) (hd2 : DpAll K F ys es) : ItD K F (Itzb K b1 b2 a b xs.length ys.length) (zipL ds es) where
  go := fun H i s hi => by
    have hl : i < ds.length ∧ i < es.length := by simp [zipL] at hi; omega
    obtain ⟨x, q⟩ : ∃ x, xs[i]? = some x := ⟨xs[i]'(by rw [DpAll.length hd]; exact hl.1), by simp⟩
    obtain ⟨y, q'⟩ : ∃ x, ys[i]? = some x := ⟨ys[i]'(by rw [DpAll.length hd2]; exact hl.2), by simp⟩
    exact ⟨xs, ys, x, y, sqB_mono s h, sqB_mono s h2, rfl, rfl, q, q'⟩
  stop := fun H i s hi => ⟨xs, ys, sqB_mono s h, sqB_mono s h2, rfl, rfl, by rw [DpAll.length hd, DpAll.length hd2]; simp [zipL] at hi; omega⟩
  yld := fun H i x H' d s q y => by
    obtain ⟨T, z, z2, e1, e2, e3, y, y2⟩ := y
    obtain ⟨yd, zd, q1, q1', e4⟩ := zipL_get q
    obtain ⟨v, q2, q3⟩ := DpAll.getd hd q1
    obtain ⟨v2, q2', q3'⟩ := DpAll.getd hd2 q1'
    have q4 := y xs (sqB_mono s h)
    have q5 := y2 ys (sqB_mono s h2)
    rw [q4] at q2
    rw [q5] at q2'
    cases q2
    cases q2'
    exact .inr ⟨T, _, _, e4, e1, e2, e3, .cons q3 (.one q3')⟩
def zipBD : List D → Option (List D)
  | [.list ds, .list es] => some (zipL ds es)
  | [.tuple ds, .tuple es] => some (zipL ds es)
  | [.list ds, .tuple es] => some (zipL ds es)
  | [.tuple ds, .list es] => some (zipL ds es)
  | _ => none
def mZipB (ms : M (List D)) : M (List D) := mBind ms fun ds => mLift (zipBD ds)
def sqOf : D → Option (Bool × List D)
  | .list ds => some (false, ds)
  | .tuple ds => some (true, ds)
  | _ => none
theorem sqOf_dp {F : Hp} {x : V} {d : D} {b : Bool} {ds : List D} (h : Dp K F x d) (e : sqOf d = some (b, ds)) : ∃ a xs, x = .ref a ∧ SqB K b F a xs ∧ DpAll K F xs ds := by
  cases h with
  | lst hr hd => cases e; exact ⟨_, _, rfl, .inl hr, hd⟩
  | tup hr hd => cases e; exact ⟨_, _, rfl, hr, hd⟩
  | _ => cases e
theorem zipBD_of {ds : List D} {out : List D} (e : zipBD ds = some out) : ∃ d d' b b' es es', ds = [d, d'] ∧ sqOf d = some (b, es) ∧ sqOf d' = some (b', es') ∧ out = zipL es es' := by
  unfold zipBD at e
  split at e
  · cases e; exact ⟨_, _, _, _, _, _, rfl, rfl, rfl, rfl⟩
  · cases e; exact ⟨_, _, _, _, _, _, rfl, rfl, rfl, rfl⟩
  · cases e; exact ⟨_, _, _, _, _, _, rfl, rfl, rfl, rfl⟩
  · cases e; exact ⟨_, _, _, _, _, _, rfl, rfl, rfl, rfl⟩
  · cases e
variable {X : Cx} {W : WX} {a b : Expr} {elts : List Expr} {kk : Nat} {p pos tpos : Pos} {ms : M (List D)}
theorem diZipB (hm : X.mg "zip" = none) (ha : PA X [a, b] (tA X.K W ms)) (hg : Gl X "zip" := by rfl) (hs : starEach [a, b] X.env = (false, eval a X.env) :: starEach [b] X.env := by rfl) (hpl : (backTo pos (starEach [b] X.env)).any (·.1) = false := by rfl) :
    PI X (.Tuple elts kk tpos) (.Call (.Name "zip" p) [a, b] [] pos) (tI X.K W (mZipB ms)) := PI.imp (pi_zipB hg hm ha hs hpl) (by
  rintro σ H R ⟨c, F, ρ, ok, h⟩
  refine ⟨c, F, ρ, ok, post_mono ?_ (post_bind h)⟩
  rintro ds H1 F1 _ ⟨ρ1, ok1, s1, h1⟩ vs rv
  obtain ⟨out, e, h2⟩ := post_lift h1
  obtain ⟨d, d', b, b', es, es', e1, e2, e3, e4⟩ := zipBD_of e
  subst e1 e4
  cases rv with
  | cons r t =>
    cases t with
    | cons r' t' =>
      cases t'
      obtain ⟨a, xs, rfl, q1, q2⟩ := sqOf_dp r e2
      obtain ⟨a', xs', rfl, q1', q2'⟩ := sqOf_dp r' e3
      exact ⟨b, b', a, a', xs, xs', rfl, sqB_mono ok1.sub q1, sqB_mono ok1.sub q1', h2 H1 F1 ok1 (Same.refl F1) _ (itzB_D q1 q2 q1' q2')⟩)
end Dd

namespace Dd
open PySem PySem.Spec L2 PyProof.Rows
/-! ### defs that are called where nothing is being shown: what a def promises there -/
structure FnG (P : Program) (w : World) (K : PySem.W.Frag) (mg : Str → Option Value) (base : Heap) (CX : CXT) (k : Nat) (f : Addr) (fd : FuncData) (ps : List Str) (sp : Sp) : Prop where
  len : ∀ vs H Q E, sp vs H Q E → vs.length = ps.length
  run : ∀ (A : Around) (outer : List Env) (s : Shared) (H : Hp) (args : Args) (us : List Value) (vs : List V) (Q : VK) (E : XK), A.guards = some [] → Room k A → Env0 P w K mg base A outer s H → BindsTo s fd args (ps.zip us) → Vals vs us → sp vs H Q E →
    codeAny (model P w) A (.call (.ref f) args) (CR CX outer P w H s Q E) s
theorem FnG.mono {P : Program} {w : World} {K : PySem.W.Frag} {mg : Str → Option Value} {base : Heap} {CX : CXT} {j k : Nat} {f : Addr} {fd : FuncData} {ps : List Str} {sp : Sp} (F : FnG P w K mg base CX j f fd ps sp) (h : j ≤ k) : FnG P w K mg base CX k f fd ps sp :=
  ⟨F.len, fun A outer s H args us vs Q E hg hr => F.run A outer s H args us vs Q E hg (hr.mono h)⟩
section
variable {P : Program} {w : World} {K : PySem.W.Frag} {mg : Str → Option Value} {base : Heap} {x qual : Str} {st : Stmt} {f : Addr} {fd : FuncData} {N ps : List Str} {k : Nat} {m : M Fl} {sc : Scope} {bd : List Stmt}
theorem okXG {sp : Sp} (Fn : Fun K x qual st f fd) (S : FnScope N ps (defScope st)) (len : ∀ vs H Q E, sp vs H Q E → vs.length = ps.length)
    (hbody : ∀ (cdv : Value) (A : Around) (outer : List Env) (s : Shared) (H : Hp) (vs : List V) (Q : VK) (E : XK), A.guards = some [] → Room k (A.deeper (envOfC qual (defScope st) s.heap.objs.size f cdv)) → sp vs H Q E →
      ∃ t, PSs (cxOf (L2.CX P w) P w K mg base N qual (defScope st) f cdv A outer s H E) (defBody st) t ∧ t { nx := fun _ H' => Q .non H', rt := Q } (L2.start N vs) H) : FnG P w K mg base (L2.CX P w) (k + 1) f fd ps sp := by
  obtain ⟨oc, od, kV, doc, pm, an, cdv, ct, osl, rfl, at_f, code⟩ := Fn.ex
  refine ⟨len, fun A outer s H args us vs Q E hgd room e0 bind rv done => ?_⟩
  have inK : K.In s.heap := e0.mod.kin.keeps fun b o e => (e0.bs b o e).1
  have nolim : s.heap.NoLimit := e0.mod.nolimit.keeps fun b o e => (e0.bs b o e).1
  have par : ∀ y ∈ ps.zip us, (defScope st).names.lookup y.1 = some .local ∨ ((defScope st).names.lookup y.1 = some .cell ∧ ((cellsFrom (s.heap.objs.size + 1) (defScope st).names []).lookup y.1).isSome = true) := fun y hy =>
    (S.par y.1 (List.of_mem_zip (a := y.1) (b := y.2) hy).1).imp id fun z => ⟨z, PySem.W.cellsFrom_some _ _ _ (.inl z)⟩
  refine codeAny_call_function room.depth (inK _ _ at_f) rfl S.co S.gen rfl (PySem.W.codeRec_of inK code) (bind _ _ _ _ ?_)
  refine wpAny_newFunctionEnv_cells S.kind par ?_
  rintro env rfl s1 y
  refine ⟨nolim.keeps y.toInCall.keep, codeAny_func ?_⟩
  obtain ⟨t, run, goal⟩ := hbody cdv A outer s H vs Q E hgd (room.deeper _) done
  have J := inv_start (CX := L2.CX P w) (qual := qual) (f := f) (cd := cdv) (E := E) S room.hd e0 (len _ _ _ _ done) rv y
  refine wpAny_mono (run.run [] s1 _ H _ J goal) ?_ fun e s' hs => hs
  intro fl s' hs
  match fl, hs with
  | .ret u, ⟨v, σ', H', J', rv, q⟩ => exact ⟨v, H', J'.os, J'.bare, J'.base, J'.hok, rv, q⟩
  | .next, ⟨σ', H', J', q⟩ => exact ⟨V.non, H', J'.os, J'.bare, J'.base, J'.hok, rfl, q⟩
  | .brk, ⟨_, _, _, q⟩ => exact q.elim
  | .cont, ⟨_, _, _, q⟩ => exact q.elim
abbrev BodyC (P : Program) (w : World) (K : PySem.W.Frag) (mg : Str → Option Value) (base : Heap) (qual : Str) (sc : Scope) (bd : List Stmt) (f : Addr) (N : List Str) (k : Nat) (m : M Fl) : Prop :=
  ∀ (cdv : Value) (A : Around) (outer : List Env) (s : Shared) (H : Hp) (E : XK), A.guards = some [] → Room k (A.deeper (PyProof.Rows.envOfC qual sc s.heap.objs.size f cdv)) →
    PSs (cxOf (L2.CX P w) P w K mg base N qual sc f cdv A outer s H E) bd (tS K (fun cls d _ H => E cls d H) m)
theorem okV2G (Fn : Fun K x qual st f fd) (S : FnScope N ps (defScope st)) (h1 : defScope st = sc) (h2 : defBody st = bd) (hb : BodyC P w K mg base qual sc bd f N k m) : FnG P w K mg base (L2.CX P w) (k + 1) f fd ps (spV K ps.length (runV m N.length)) := by
  subst h1 h2
  refine okXG Fn S (fun vs H Q E h => ?_) (fun cdv A outer s H vs Q E hgd hr h => ⟨_, hb cdv A outer s H E hgd hr, ?_⟩)
  · obtain ⟨F, ds, _, r, hl, _⟩ := h
    rw [DpAll.length r]; exact hl
  · obtain ⟨F, ds, s', r, hl, h⟩ := h
    refine ⟨_, F, _, start_ok s' r (by rw [hl]; exact FnScope.le S), ?_⟩
    unfold runV at h
    cases e : m (env0 N.length ds) with
    | none => rw [e] at h; exact h
    | some q =>
      rw [e] at h
      cases q with
      | ex y ρ' => exact fun σ' cls z H' F' ok _ r' => h cls z F' H' ok.ext r'
      | ok fl ρ' =>
        cases fl with
        | nx => exact fun σ' H' F' ok _ => h .non F' H' ok.ext .non
        | rt d => exact fun σ' v H' F' ok _ r' => h v F' H' ok.ext r'
        | bk => exact h.elim
        | ct => exact h.elim
        | rf _ => exact h.elim
theorem okF2G (Fn : Fun K x qual st f fd) (S : FnScope N ps (defScope st)) (h1 : defScope st = sc) (h2 : defBody st = bd) (hb : BodyC P w K mg base qual sc bd f N k m) : FnG P w K mg base (L2.CX P w) (k + 1) f fd ps (spF K ps.length (runF m N.length)) := by
  subst h1 h2
  refine okXG Fn S (fun vs H Q E h => ?_) (fun cdv A outer s H vs Q E hgd hr h => ⟨_, hb cdv A outer s H E hgd hr, ?_⟩)
  · obtain ⟨F, ds, _, r, hl, _⟩ := h
    rw [DpAll.length r]; exact hl
  · obtain ⟨F, ds, s', r, hl, h⟩ := h
    refine ⟨_, F, _, start_ok s' r (by rw [hl]; exact FnScope.le S), ?_⟩
    unfold runF at h
    cases e : m (env0 N.length ds) with
    | none => rw [e] at h; exact h
    | some q =>
      rw [e] at h
      cases q with
      | ex y ρ' => exact fun σ' cls z H' F' ok _ r' => h cls z F' H' ok.ext r'
      | ok fl ρ' =>
        cases fl with
        | nx => exact h.elim
        | rt d => exact h.elim
        | bk => exact h.elim
        | ct => exact h.elim
        | rf es => exact fun σ' p xs H' F' ok _ hp r' hf h0 => h p xs F' H' ok.ext h0 hf hp r'
theorem okB2G (Fn : Fun K x qual st f fd) (S : FnScope N ps (defScope st)) (h1 : defScope st = sc) (h2 : defBody st = bd) (hb : BodyC P w K mg base qual sc bd f N k m) : FnG P w K mg base (L2.CX P w) (k + 1) f fd ps (spB K ps.length (runB m N.length)) := by
  subst h1 h2
  refine okXG Fn S (fun vs H Q E h => ?_) (fun cdv A outer s H vs Q E hgd hr h => ⟨_, hb cdv A outer s H E hgd hr, ?_⟩)
  · obtain ⟨F, p, bs0, bs, rest, ds, rfl, _, _, _, _, r, hl, _⟩ := h
    rw [List.length_cons, DpAll.length r]; exact hl
  · obtain ⟨F, p, bs0, bs, rest, ds, rfl, s', hF, hp, rb, r, hl, h⟩ := h
    refine ⟨_, F, _, startB_ok s' hF hp rb r (by rw [hl]; exact FnScope.le S), ?_⟩
    have fin : ∀ {σ' H' F' ρ' bs'}, Ok K ⟨F, H, some p, noPr⟩ σ' H' F' (.io bs' :: ρ') → ∃ bs1, H' p = some (.lst bs1) ∧ DpAll K F' bs1 bs' := fun {σ' H' F' ρ' bs'} ok => by
      obtain ⟨_, q, vs, c0, c1, c2, c3⟩ := ok.ios 0 bs' rfl
      have e : some p = some q := c0
      cases e
      exact ⟨vs, c2, c3⟩
    unfold runB at h
    cases e : m (env0B N.length bs ds) with
    | none => rw [e] at h; exact h
    | some q =>
      rw [e] at h
      cases q with
      | ex y ρ' =>
        intro σ' cls z H' F' ok _ r'
        cases ρ' with
        | nil => exact h.elim
        | cons u ρ' =>
          cases u with
          | io bs' =>
            obtain ⟨bs1, b1, b2⟩ := fin ok
            exact h cls z bs1 F' H' ok.extB b1 b2 r'
          | un => exact h.elim
          | val _ => exact h.elim
          | own _ => exact h.elim
          | scr _ => exact h.elim
      | ok fl ρ' =>
        cases fl with
        | nx =>
          intro σ' H' F' ok _
          cases ρ' with
          | nil => exact h.elim
          | cons u ρ' =>
            cases u with
            | io bs' =>
              obtain ⟨bs1, b1, b2⟩ := fin ok
              exact h .non bs1 F' H' ok.extB b1 b2 .non
            | un => exact h.elim
            | val _ => exact h.elim
            | own _ => exact h.elim
            | scr _ => exact h.elim
        | rt d =>
          intro σ' v H' F' ok _ r'
          cases ρ' with
          | nil => exact h.elim
          | cons u ρ' =>
            cases u with
            | io bs' =>
              obtain ⟨bs1, b1, b2⟩ := fin ok
              exact h v bs1 F' H' ok.extB b1 b2 r'
            | un => exact h.elim
            | val _ => exact h.elim
            | own _ => exact h.elim
            | scr _ => exact h.elim
        | bk => exact h.elim
        | ct => exact h.elim
        | rf _ => exact h.elim
theorem okS2G (Fn : Fun K x qual st f fd) (S : FnScope N ps (defScope st)) (h1 : defScope st = sc) (h2 : defBody st = bd) (hb : BodyC P w K mg base qual sc bd f N k m) : FnG P w K mg base (L2.CX P w) (k + 1) f fd ps (spS K ps.length (runS m N.length)) := by
  subst h1 h2
  refine okXG Fn S (fun vs H Q E h => ?_) (fun cdv A outer s H vs Q E hgd hr h => ⟨_, hb cdv A outer s H E hgd hr, ?_⟩)
  · obtain ⟨F, a, ns, rest, ds, rfl, _, _, r, hl, _⟩ := h
    rw [List.length_cons, DpAll.length r]; exact hl
  · obtain ⟨F, a, ns, rest, ds, rfl, s', hp, r, hl, h⟩ := h
    refine ⟨_, F, _, startS_ok s' hp r (by rw [hl]; exact FnScope.le S), ?_⟩
    unfold runS at h
    cases e : m (env0S N.length ns ds) with
    | none => rw [e] at h; exact h
    | some q =>
      rw [e] at h
      cases q with
      | ex y ρ' => exact fun σ' cls z H' F' ok _ r' => h cls z F' H' ok.ext r'
      | ok fl ρ' =>
        cases fl with
        | nx => exact h.elim
        | rt d => exact h.elim
        | bk => exact h.elim
        | ct => exact h.elim
        | rf es => exact fun σ' p xs H' F' ok _ hp r' hf h0 => h p xs F' H' ok.ext h0 hf hp r'
end
section
variable {P : Program} {w : World} {K : PySem.W.Frag} {mg : Str → Option Value} {base : Heap} {j n : Nat} {f : Addr} {fd : FuncData} {ps : List Str}
theorem okV0G {g : List D → Option (Rs D)} (hg : ∀ ds, g ds = none) : FnG P w K mg base (L2.CX P w) j f fd ps (spV K n g) := by
  have no : ∀ vs H Q E, ¬ spV K n g vs H Q E := fun vs H Q E h => by
    obtain ⟨F, ds, _, _, _, h⟩ := h
    simp only [hg] at h
  exact ⟨fun vs H Q E h => absurd h (no _ _ _ _), fun A outer s H args us vs Q E _ _ _ _ _ h => absurd h (no _ _ _ _)⟩
end
section
variable {X : Cx} {CX : CXT} {W : WX} {k n : Nat} {f : Addr} {fd : FuncData} {ps : List Str} {sp : Sp} {E : L2.St → XK} {t : TA} {x : Str} {p pos : Pos} {e : Expr} {es : List Expr} {ms : M (List D)}
theorem run_fnG {pins : List (Addr × Obj)} {σ : L2.St} {H : Hp} {s : Shared} {Q : VK} {us : List Value} {vs : List V} (F : FnG X.prog X.w X.K X.mg X.base CX k f fd ps sp) (hgd : X.A.guards = some []) (hr : Room k X.A) (hb : Binds X.K fd ps []) (hx : PassesAt CX X σ (E σ))
    (I : Inv X pins σ H s) (r : Vals vs us) (h : sp vs H Q (E σ)) : wpAny (model X.prog X.w) X.A (call (.ref f) us) (EP X pins σ Q) X.xe s := by
  have b := hb s us I.kIn (by rw [List.append_nil, ← r.length]; exact F.len _ _ _ _ h)
  rw [List.append_nil] at b
  refine wpAny_call (codeAny_mono (F.run X.A X.stack s H ⟨us, []⟩ us vs Q (E σ) hgd hr I.env0 b r h) fun q s' hq => ?_)
  match q, hq with
  | .error e, hq => exact hx pins H s e s' I hq
  | .ok (.ret u), hq => exact I.after hq
  | .ok .next, hq => exact False.elim hq
  | .ok .brk, hq => exact False.elim hq
  | .ok .cont, hq => exact False.elim hq
theorem pe_callG (F : FnG X.prog X.w X.K X.mg X.base CX k f fd ps sp) (hgd : X.A.guards = some []) (hr : Room k X.A) (hg : Gl X x) (hm : X.mg x = some (.ref f)) (hk : PySem.W.keepIn X.K (.ref f) = true) (hb : Binds X.K fd ps []) (hx : ∀ σ, PassesAt CX X σ (E σ))
    (ha : PA X (e :: es) t) (hdb : (x == ("__debug__" : Str)) = false := by decide) (he : starEach (e :: es) X.env = (false, eval e X.env) :: starEach es X.env := by rfl) (hpl : (backTo pos (starEach es X.env)).any (·.1) = false := by rfl) :
    PE X (.Call (.Name x p) (e :: es) [] pos) (tCallS sp E t) :=
  ⟨fun pins s σ H Q I h => wpAny_Call_Name_kw (ld_glob I hg hm (PySem.W.callWith_K (h₀ := X.base) I.ok.mod.kin hk (thn (ha.run pos pins s σ H _ I h) fun us s1 ⟨vs, H1, I1, r, q⟩ => ⟨I1.kIn, run_fnG F hgd hr hb (hx σ) I1 r q⟩) he hpl) hdb)⟩
theorem dCallVG {g : List D → Option (Rs D)} (hgd : X.A.guards = some []) (F : FnG X.prog X.w X.K X.mg X.base (L2.CX X.prog X.w) k f fd ps (spV X.K n g)) (hr : Room k X.A) (hm : X.mg x = some (.ref f)) (hk : PySem.W.keepIn X.K (.ref f) = true) (hb : Binds X.K fd ps []) (tk : Takes X W)
    (ha : PA X (e :: es) (tA X.K W ms)) (hg : Gl X x := by rfl) (hdb : (x == ("__debug__" : Str)) = false := by decide) (he : starEach (e :: es) X.env = (false, eval e X.env) :: starEach es X.env := by rfl) (hpl : (backTo pos (starEach es X.env)).any (·.1) = false := by rfl) :
    PE X (.Call (.Name x p) (e :: es) [] pos) (tE X.K W (mCallV n g ms)) := PE.imp (pe_callG F hgd hr hg hm hk hb (fun σ => passAt tk σ) ha hdb he hpl) fun _ _ _ => callV_of
theorem dCallBG {i : Nat} {g : List D → List D → Option (Rs D × List D)} (hgd : X.A.guards = some []) (F : FnG X.prog X.w X.K X.mg X.base (L2.CX X.prog X.w) k f fd ps (spB X.K n g)) (hr : Room k X.A) (hm : X.mg x = some (.ref f)) (hk : PySem.W.keepIn X.K (.ref f) = true) (hb : Binds X.K fd ps []) (tk : Takes X W)
    (h1 : PE X e (tVar i)) (ha : PA X es (tA X.K W ms)) (hg : Gl X x := by rfl) (hdb : (x == ("__debug__" : Str)) = false := by decide) (he : starEach (e :: es) X.env = (false, eval e X.env) :: starEach es X.env := by rfl) (hpl : (backTo pos (starEach es X.env)).any (·.1) = false := by rfl) :
    PE X (.Call (.Name x p) (e :: es) [] pos) (tE X.K W (mCallB i n g ms)) := PE.imp (pe_callG F hgd hr hg hm hk hb (fun σ => passAt tk σ) (pa_cons h1 ha he) hdb he hpl) fun _ _ _ => callB_of
theorem dCallStG {i j : Nat} {y : Str} {pos' spos : Pos} {g : List Int → List D → Option (Rs (List D))} (hgd : X.A.guards = some []) (F : FnG X.prog X.w X.K X.mg X.base (L2.CX X.prog X.w) k f fd ps (spS X.K n g)) (hr : Room k X.A) (hm : X.mg x = some (.ref f)) (hk : PySem.W.keepIn X.K (.ref f) = true) (hb : Binds X.K fd ps []) (tk : Takes X W) (hN : X.N.Nodup)
    (h1 : PE X e (tVar j)) (ha : PA X es (tA X.K W ms)) (hg : Gl X x := by rfl) (hdb : (x == ("__debug__" : Str)) = false := by decide) (he : starEach (e :: es) X.env = (false, eval e X.env) :: starEach es X.env := by rfl) (hpl : (backTo pos (starEach es X.env)).any (·.1) = false := by rfl)
    (hi : X.N[i]? = some y := by rfl) (hx : Loc X.env.scope y := by first | exact Or.inl rfl | exact Or.inr rfl)
    (hs : swapsWith (.Call (.Name x p) (e :: es) [] pos) (some (.Name y pos')) spos.line X.env = pure false := by rfl)
    (hf : X.fn y = true ∨ X.env.scope.names.lookup y = some .local := by first | exact .inl rfl | exact .inr rfl) :
    PS X (.Assign [.Name y pos'] (.Call (.Name x p) (e :: es) [] pos) spos) (tS X.K W (mAsgS i j n g ms)) := PS.imp (ps_set hN hi hx (pe_callG F hgd hr hg hm hk hb (fun σ => passAt tk σ) (pa_cons h1 ha he) hdb he hpl) hs hf) fun _ _ _ => asgS_of
end
end Dd

/-! ### an own exception's first field, whatever built-in class it is under -/
namespace PySem
namespace OwnE
open PySem.W PySem.Calls PyProof.Rows PySem.HandSPX
open Builtin Builtin.ObjectAttr
variable {prog : Program} {w : World} {A : Around} {E : Value → Shared → Prop} {R : Result → Shared → Prop} {hp : Heap} {g : Array GenState} {d : Drawn} {t : Nat} {os : OsState} {K : Frag} {B : String} {bmB : List Value}
theorem first_field {name : Str} {tk : Tok} {v : Value} {x C : Addr} {fv : Array Value} {cd : ClassData} (SF : StoreFacts B bmB "object.__setattr__" "object")
    (X : K.In hp) (hx : hp.get? x = some { cls := .ref C, data := .fields fv }) (hcd : clsIn K C = some cd) (hh : cd.hasDict = true) (ho : excOver K C bmB = true) (ha : takerIn K C name = some none)
    (hq : ∀ h' tk' dx, (∀ b o, b ≠ x → hp.get? b = some o → h'.get? b = some o) → hp.objs.size ≤ dx → dx ≠ x → h'.get? x = some { cls := .ref C, dict := some dx, data := .fields fv } →
      h'.Ns1 dx (fun y => if y = name then some v else none) → R (.ok (.ret .none)) ⟨h', g, d, tk', os⟩) :
    codeAny (model prog w) A (.call (.builtin "object.__setattr__") ⟨[.ref x, .str name tk, v], []⟩) R ⟨hp, g, d, t, os⟩ := by
  have I : InstAt hp x { cls := .ref C, data := .fields fv } C none := ⟨hx, rfl, rfl, trivial⟩
  refine osa_openX SF X I ho ha fun b => ?_
  have apart : x ≠ hp.objs.size := Nat.ne_of_lt (Heap.lt_size hx)
  have known : Looks (model prog w) hp (classData C) cd := looks_clsIn X hcd
  obtain ⟨nm, bs, mro, ns, qn, hd, sn, sb, ab, col, del⟩ := cd
  obtain rfl : hd = true := hh
  dsimp only
  unfold storeInOwnDict ownDictForStores
  repeat (first | with_reducible refine store_in_new ?_ ?_ | with_reducible refine wpAny_loadPart_at hx ?_ | with_reducible refine known.at ?_ | wp_step)
  · exact ⟨_, #[], _, (Heap.get?_update_ne _ _ _ _ apart.symm).trans (Heap.get?_push_at rfl rfl), rfl, fun e he => absurd he (by simp), fun _ => rfl⟩
  · intro h' tk' hn' hs
    have x1 : (hp.push { cls := .type "dict", data := .dict #[] }).get? x = some { cls := .ref C, data := .fields fv } := Heap.get?_push_of_some _ hx
    exact hq h' tk' hp.objs.size (fun c o hb ho => (hs.2 c (Nat.ne_of_lt (Heap.lt_size ho))).trans ((Heap.get?_update_ne _ _ _ _ hb).trans (Heap.get?_push_of_some _ ho)))
      (Nat.le_refl _) apart.symm ((hs.2 x apart).trans (Heap.get?_update_self _ x1 rfl)) hn'
end OwnE
end PySem

namespace Dd
open PySem PySem.Spec L2 PyProof.Rows
/-! ### raise C(e) -/
def mRaise (cn : Str) (fns : List Str) (ms : M (List D)) : M Fl := mBind ms fun ds ρ => if ds.length = fns.length then some (.ex ⟨cn, fns.zip ds⟩ ρ) else none
section
variable {X : Cx} {W : WX} {e : Expr} {cn f : Str} {C : Addr} {ms : M (List D)} {pos : Pos}
theorem dRaise1 (hc : X.calm = true) (n : PySem.W.nsIn X.K mainGlobals cn = some (some (.ref C))) (tk : Takes X W)
    (hp : PMk X e fun σ H Q => tA X.K W ms σ H fun vs H1 => ∃ v, vs = [v] ∧ ∀ d, H1 d = none → Q (.ref C) (some d) (upd H1 d (.xd [(f, v)]))) :
    PS X (.Raise (some e) none pos) (tS X.K W (mRaise cn [f] ms)) := PS.imp (ps_raise hc tk hp) (by
  rintro Dn σ H ⟨c, F, ρ, ok, h⟩
  refine ⟨c, F, ρ, ok, post_mono ?_ (postS_bind h)⟩
  rintro ds H1 F1 _ ⟨ρ1, ok1, s1, h1⟩ vs rv
  by_cases hl : ds.length = ([f] : List Str).length
  · rw [if_pos hl] at h1
    match ds, vs, rv, hl with
    | [y], [v], .cons r .nil, _ =>
      exact ⟨v, rfl, fun d hd => h1 σ _ _ _ _ (ok1.alloc hd) (Same.updN (ok1.new hd).1) ⟨C, n, rfl, d, [(f, v)], rfl, upd_same, rfl, .one (Dp.mono (Same.updN (ok1.new hd).1) r)⟩⟩
  · rw [if_neg hl] at h1
    exact h1.elim)
end
/-! ### a caught exception, in a suite -/
/-- what an own class must have for its fields to be read and its class to be asked for -/
structure ExTxt (K : PySem.W.Frag) (cn : Str) (C : Addr) : Prop where
  nm : PySem.W.nsIn K mainGlobals cn = some (some (.ref C))
  xf : XfC K C
  kt : ∀ x ox od, PySem.W.KitX K (.ref x) (.ref C) fun h => PySem.W.InstAt h x ox C od
/-- a part of a display in a suite: a text, a field, whether it is of a class -/
inductive Pt where
  | txt (x : Str)
  | fld (f : Str)
  | isi (b : Bool)
def ptV (fs : List (Str × V)) : Pt → Option V
  | .txt x => some (.str x)
  | .fld f => fs.lookup f
  | .isi b => some (.bl b)
def ptD (fs : List (Str × D)) : Pt → Option D
  | .txt x => some (.str x)
  | .fld f => fs.lookup f
  | .isi b => some (.bool b)
def ptsV (fs : List (Str × V)) : List Pt → Option (List V)
  | [] => some []
  | p :: ps => match ptV fs p, ptsV fs ps with
    | some v, some vs => some (v :: vs)
    | _, _ => none
def ptsD (fs : List (Str × D)) : List Pt → Option (List D)
  | [] => some []
  | p :: ps => match ptD fs p, ptsD fs ps with
    | some v, some vs => some (v :: vs)
    | _, _ => none
theorem lookup_rel {K : PySem.W.Frag} {F : Hp} {f : Str} {d : D} : ∀ {vs : List (Str × V)} {ds : List (Str × D)}, vs.map (·.1) = ds.map (·.1) → DpAll K F (vs.map (·.2)) (ds.map (·.2)) → ds.lookup f = some d → ∃ v, vs.lookup f = some v ∧ Dp K F v d
  | [], [], _, _, h => by cases h
  | [], _ :: _, e, _, _ => by cases e
  | _ :: _, [], e, _, _ => by cases e
  | (g, v) :: vs, (g', y) :: ds, e, r, h => by
    obtain ⟨rfl, e2⟩ := List.cons.inj e
    cases r with
    | cons r1 r2 =>
      by_cases hg : f = g
      · subst hg
        have : ((f, y) :: ds).lookup f = some y := by simp [List.lookup]
        rw [this] at h
        cases h
        exact ⟨v, by simp [List.lookup], r1⟩
      · have eb : (f == g) = false := by simpa using hg
        have e1 : ((g, y) :: ds).lookup f = ds.lookup f := by simp [List.lookup, eb]
        have e3 : ((g, v) :: vs).lookup f = vs.lookup f := by simp [List.lookup, eb]
        rw [e1] at h
        rw [e3]
        exact lookup_rel e2 r2 h
theorem pt_rel {K : PySem.W.Frag} {F : Hp} {vs : List (Str × V)} {ds : List (Str × D)} (e : vs.map (·.1) = ds.map (·.1)) (r : DpAll K F (vs.map (·.2)) (ds.map (·.2))) {d : D} : ∀ {p : Pt}, ptD ds p = some d → ∃ v, ptV vs p = some v ∧ Dp K F v d
  | .txt x, h => by cases h; exact ⟨_, rfl, .str x⟩
  | .fld f, h => lookup_rel e r h
  | .isi b, h => by cases h; exact ⟨_, rfl, .bl b⟩
theorem pts_rel {K : PySem.W.Frag} {F : Hp} {vs : List (Str × V)} {ds : List (Str × D)} (e : vs.map (·.1) = ds.map (·.1)) (r : DpAll K F (vs.map (·.2)) (ds.map (·.2))) : ∀ {ps : List Pt} {ys : List D}, ptsD ds ps = some ys → ∃ xs, ptsV vs ps = some xs ∧ DpAll K F xs ys
  | [], ys, h => by cases h; exact ⟨[], rfl, .nil⟩
  | p :: ps, ys, h => by
    unfold ptsD at h
    cases h1 : ptD ds p with
    | none => rw [h1] at h; cases h
    | some y =>
      cases h2 : ptsD ds ps with
      | none => rw [h1, h2] at h; cases h
      | some zs =>
        rw [h1, h2] at h
        cases h
        obtain ⟨x, e1, r1⟩ := pt_rel e r h1
        obtain ⟨xs, e2, r2⟩ := pts_rel e r h2
        exact ⟨x :: xs, by unfold ptsV; rw [e1, e2], .cons r1 r2⟩
section
variable {X : Cx} {a C dd : Addr} {i : Nat} {cls : Value} {d : Option Addr} {oe : Obj} {pn : List (Addr × Obj)} {cn f : Str} {pos p : Pos} {e ec : Expr} {es : List Expr}
def tPt (a C : Addr) (i : Nat) (cls : Value) (d : Option Addr) (p : Pt) : TE := fun σ H Q => ∃ dd fs v, σ[i]? = some (some (.ref a)) ∧ cls = .ref C ∧ d = some dd ∧ H dd = some (.xd fs) ∧ ptV fs p = some v ∧ Q v H
def tPts (a C : Addr) (i : Nat) (cls : Value) (d : Option Addr) (ps : List Pt) : TA := fun σ H Q => ∃ dd fs vs, σ[i]? = some (some (.ref a)) ∧ cls = .ref C ∧ d = some dd ∧ H dd = some (.xd fs) ∧ ptsV fs ps = some vs ∧ Q vs H
theorem pts_nil' : PA X [] (tPts a C i cls d []) := ⟨fun pos pins s σ H Q I ⟨_, _, vs, _, _, _, _, ev, q⟩ => by
  cases ev
  exact pa_nil.run pos pins s σ H Q I q⟩
theorem pts_cons' {q : Pt} {qs : List Pt} (h1 : PE X e (tPt a C i cls d q)) (h2 : PA X es (tPts a C i cls d qs)) (hs : starEach (e :: es) X.env = (false, eval e X.env) :: starEach es X.env := by rfl) : PA X (e :: es) (tPts a C i cls d (q :: qs)) :=
  ⟨fun pos pins s σ H Q I ⟨dd, fs, vs, hi, hc, hd, hx, ev, h⟩ => by
    refine (pa_cons h1 h2 hs).run pos pins s σ H Q I ?_
    unfold ptsV at ev
    cases e1 : ptV fs q with
    | none => rw [e1] at ev; cases ev
    | some v =>
      cases e2 : ptsV fs qs with
      | none => rw [e1, e2] at ev; cases ev
      | some ws =>
        rw [e1, e2] at ev
        cases ev
        exact ⟨dd, fs, v, hi, hc, hd, hx, e1, dd, fs, ws, hi, hc, hd, hx, e2, h⟩⟩
theorem pt_txt {m : Str} {j : Nat} : PE X (.Constant (.str m) j p) (tPt a C i cls d (.txt m)) := PE.imp pe_str fun σ H Q ⟨_, _, v, _, _, _, _, ev, q⟩ => by
  cases ev
  exact q
theorem pt_fld (T : ExTxt X.K cn C) (hno : PySem.W.findIn X.K (.ref C) f = some none) (hz : Zc cls d oe) (hf : ∃ vs, oe.data = .fields vs) (he : PE (X.suite a ((a, oe) :: pn)) e (tVar i)) (hb : attributeBase e f X.env (eval e X.env) = eval e X.env := by rfl) :
    PE (X.suite a ((a, oe) :: pn)) (.Attribute e f pos) (tPt a C i cls d (.fld f)) := PE.imp (pe_xf T.xf hno hz hf he hb) fun σ H Q ⟨dd, fs, v, hi, hc, hd, hx, ev, q⟩ =>
  ⟨.ref a, hi, rfl, hc, dd, fs, v, hd, hx, ev, q⟩
def rIsX (K : PySem.W.Frag) (a C : Addr) (cls : Value) (d : Option Addr) (cv : Value) (b : Bool) : List V → Hp → VK → Prop := fun xs H Q => ∃ (dd : Addr) (fs : List (Str × V)) (vv : V), xs = [.ref a, vv] ∧ (∀ u, RelV vv u → u = cv) ∧ cls = .ref C ∧ d = some dd ∧ H dd = some (.xd fs) ∧ PySem.W.kitOne K (.ref C) cv = some b ∧ Q (.bl b) H
theorem call_isX {cv : Value} {b : Bool} (T : ExTxt X.K cn C) (hz : Zc cls d oe) (hf : ∃ vs, oe.data = .fields vs) : CallR (X.suite a ((a, oe) :: pn)) (.builtin "isinstance") (rIsX X.K a C cls d cv b) := by
  intro pins s σ H xs us Q I r h
  obtain ⟨dd, fs, vv, rfl, k, rfl, rfl, hx, e, q⟩ := h
  obtain ⟨u1, u2, rfl, r1, r2⟩ := vals2 r
  obtain rfl := k _ r2
  obtain rfl : u1 = Value.ref a := r1
  obtain ⟨ha, _⟩ := I.pin (a, oe) (List.mem_append_left _ List.mem_cons_self)
  obtain ⟨vs, hd⟩ := hf
  have hx' : ObjOk X.prog X.w H s.heap dd (.xd fs) := I.hok dd _ hx
  obtain ⟨mA, hns, hr⟩ := hx'
  obtain ⟨od, ho, hl⟩ := lookIn_ns hns
  have J : PySem.W.InstAt s.heap a oe C (some od) := ⟨ha, hz.1, by unfold PySem.W.notCls; rw [hd] <;> rfl, by rw [hz.2]; exact ho⟩
  exact PySem.W.kia_one (T.kt a oe (some od)) I.kIn J e (fun z => nomatch z) fun tk => ⟨.bl b, H, I.tok tk, rfl, q⟩
theorem pt_isi {cv : Value} {vv : V} {b : Bool} (T : ExTxt X.K cn C) (k : PySem.W.kitOne X.K (.ref C) cv = some b) (kv : ∀ u, RelV vv u → u = cv) (hm : X.mg "isinstance" = none) (hz : Zc cls d oe) (hf : ∃ vs, oe.data = .fields vs)
    (he : PE (X.suite a ((a, oe) :: pn)) e (tVar i)) (hc : PE (X.suite a ((a, oe) :: pn)) ec (tC vv)) (hg : Gl X "isinstance" := by rfl)
    (hs1 : starEach [e, ec] X.env = (false, eval e X.env) :: starEach [ec] X.env := by rfl) (hs2 : starEach [ec] X.env = (false, eval ec X.env) :: starEach [] X.env := by rfl) (hpl : (backTo pos (starEach [ec] X.env)).any (·.1) = false := by rfl)
    (hbi : bootBuiltins "isinstance" = some (.builtin "isinstance") := by decide +kernel) :
    PE (X.suite a ((a, oe) :: pn)) (.Call (.Name "isinstance" p) [e, ec] [] pos) (tPt a C i cls d (.isi b)) :=
  PE.imp (pe_callB (X := X.suite a ((a, oe) :: pn)) (call_isX (cv := cv) (b := b) T hz hf) hg hm hbi (pa_cons he (pa_cons hc pa_nil hs2) hs1) (by decide) (by decide) hs1 hpl) fun σ H Q ⟨dd, fs, v, hi, hcl, hd, hx, ev, q⟩ => by
    cases ev
    exact ⟨.ref a, hi, dd, fs, vv, rfl, kv, hcl, hd, hx, k, q⟩
end
/-! ### try .. except C as e: v = (..) -/
def mSuite (v : Nat) (ps : List Pt) (e : Ex) : M Fl := fun ρ => match ptsD e.fs ps with
  | some ds => if v < ρ.length ∧ fit ds.length = true then some (.ok .nx (ρ.set v (.val (.tuple ds)))) else none
  | none => none
def mTry (cn : Str) (i : Nat) (mb : M Fl) (hs : Ex → M Fl) : M Fl := fun ρ => match mb ρ with
  | some (.ex e ρ') => if e.C = cn ∧ i < ρ'.length then (match hs e (ρ'.set i .un) with
    | some (.ok .nx ρ2) => some (.ok .nx (ρ2.set i .un))
    | _ => none) else none
  | r => r
section
variable {X : Cx} {Wout : WX} {x n cn y : Str} {c : Value} {C : Addr} {i v : Nat} {body : List Stmt} {es : List Expr} {np pos pos' yp tp sp : Pos} {kk : Nat} {mb : M Fl} {ps : List Pt}
theorem dTryT (hs : X.stack = X.env :: X.outer) (hf : X.env.frame = some X.env.locals) (hN : X.N.Nodup) (hi : X.N[i]? = some n) (hln : X.env.kindOf n = some .local) (hc : Names X x c) (tk : Takes X Wout)
    (T : ExTxt X.K cn C) (te : PySem.W.exmOne X.K (.ref C) c = some true)
    (hb : ∀ (W : WX) (pn : List (Addr × Obj)) (xe : Value → Shared → Prop), Takes (X.tr pn xe) W → PassesOwn (model X.prog X.w) X.A X.env xe → PSs (X.tr pn xe) body (tS X.K W mb))
    (hsu : ∀ (a : Addr) (oe : Obj) (cls : Value) (d : Option Addr) (pn : List (Addr × Obj)), Zc cls d oe → (∃ vs, oe.data = .fields vs) → PA (X.suite a ((a, oe) :: pn)) es (tPts a C i cls d ps))
    (hv : X.N[v]? = some y) (hy : Loc X.env.scope y := by first | exact Or.inl rfl | exact Or.inr rfl)
    (hsw : swapsWith (.Tuple es kk tp) (some (.Name y yp)) sp.line X.env = pure false := by rfl)
    (hfn : X.fn y = true ∨ X.env.scope.names.lookup y = some .local := by first | exact .inl rfl | exact .inr rfl) :
    PS X (.Try body [.ExceptHandler (some (.Name x np)) (some n) [.Assign [.Name y yp] (.Tuple es kk tp) sp] pos'] [] [] pos) (tS X.K Wout (mTry cn i mb (mSuite v ps))) := by
  refine PS.imp (ps_try_as (tb := fun W => tS X.K W mb) (ts := fun a cls d => tAsg (tTup (tPts a C i cls d ps)) (gName v)) hs hf hN hi hln hc tk hb (fun a oe cls d pn hz hfl => pss_one (ps_set (X := X.suite a ((a, oe) :: pn)) hN hv hy (pe_tup (hsu a oe cls d pn hz hfl)) hsw hfn))) ?_
  rintro D σ H ⟨cc, F, ρ, ok, h⟩
  refine ⟨cc, F, ρ, ok, ?_⟩
  unfold mTry at h
  cases em : mb ρ with
  | none => rw [em] at h; exact h.elim
  | some r =>
    rw [em] at h
    cases r with
    | ok fl ρ' => cases fl <;> exact h
    | ex e ρ' =>
      dsimp only at h
      split at h
      · rename_i hcn
        obtain ⟨hcn, hil⟩ := hcn
        intro σ' cls z H' F' ok' s' er
        obtain ⟨Ca, n1, rfl, dd, vs, rfl, hF, hnm, hdp⟩ := er
        have eC : Ca = C := by
          rw [hcn, T.nm] at n1
          exact (Value.ref.inj (Option.some.inj (Option.some.inj n1))).symm
        subst eC
        refine ⟨true, te, fun _ a ha => ?_, fun z => nomatch z⟩
        unfold mSuite at h
        cases ed : ptsD e.fs ps with
        | none => rw [ed] at h; exact h.elim
        | some ds =>
          rw [ed] at h
          dsimp only at h
          by_cases hq : v < (ρ'.set i .un).length ∧ fit ds.length = true
          · rw [if_pos hq] at h
            obtain ⟨hvl, hfit⟩ := hq
            obtain ⟨xs, ev, rx⟩ := pts_rel hnm hdp ed
            have ok1 := ok'.setU (v := some (.ref a)) hil
            refine ⟨dd, vs, xs, ?_, rfl, rfl, ok'.sub _ _ hF, ev, by rw [DpAll.length rx]; exact fit_le hfit, fun p hp => ?_⟩
            · have : i < σ'.length := by rw [ok'.len]; exact hil
              simp [this]
            · have ok2 := ok1.alloc (o := .tup xs) hp
              have sF : Same F' (upd F' p (.tup xs)) := Same.updN (ok1.new hp).1
              have ok3 := ok2.setV hvl (Dp.tup (.inl (.inl upd_same)) (DpAll.mono sF rx))
              have ok4 := ok3.setU (v := none) (i := i) (by rw [List.length_set, List.length_set]; exact hil)
              exact h _ _ _ ok4 (s'.trans sF)
          · rw [if_neg hq] at h
            exact h.elim
      · exact h.elim
end
end Dd

namespace Dd
open PySem PySem.Spec L2 PyProof.Rows
/-! ### list(range(..)), tuple(range(..)) -/
def rgOf (i : Int) : D → Option (List D)
  | .int j => if (rngOk i && rngOk j && fit (j - i).toNat) = true then some (rngL i j) else none
  | _ => none
theorem rgOf_ok {i : Int} {d : D} {out : List D} (e : rgOf i d = some out) : ∃ j, d = .int j ∧ RgOk i j ∧ out = rngL i j := by
  unfold rgOf at e
  split at e
  · rename_i j
    split at e
    · rename_i hb
      cases e
      rw [Bool.and_eq_true, Bool.and_eq_true] at hb
      obtain ⟨⟨h1, h2⟩, h3⟩ := hb
      obtain ⟨a1, a2⟩ := rngOk_of h1
      obtain ⟨a3, a4⟩ := rngOk_of h2
      have h4 : (j - i).toNat ≤ 16000000 := of_decide_eq_true h3
      exact ⟨j, rfl, ⟨a1, a2, a3, a4, by omega⟩, rfl⟩
    · cases e
  · cases e
theorem rg_rel {K : PySem.W.Frag} {F : Hp} {a : Int} : ∀ l : List Nat, DpAll K F (l.map fun i => V.int (a + (i : Nat))) (l.map fun i => PyData.int (a + (i : Nat)))
  | [] => .nil
  | x :: l => .cons (.int _) (rg_rel l)
def mRgN1 (ma : M D) : M (List D) := mBind ma fun d => mLift (rgOf 0 d)
def rgOf2 : D → D → Option D
  | .int i, b => (rgOf i b).map PyData.tuple
  | _, _ => none
def mRgN2 (ma mb : M D) : M (List D) := mBind ma fun a => mBind mb fun b => mLift (match a with
  | .int i => rgOf i b
  | _ => none)
def mTupRg1 (ma : M D) : M D := mBind ma fun d => mLift ((rgOf 0 d).map PyData.tuple)
def mTupRg2 (ma mb : M D) : M D := mBind ma fun a => mBind mb fun b => mLift (rgOf2 a b)
section
variable {X : Cx} {W : WX} {a b : Expr} {ma mb : M D} {p p2 pos pos2 : Pos}
theorem dLstRg1 (hc : X.calm = true) (hm : X.mg "list" = none) (hr : X.mg "range" = none) (ha : PE X a (tE X.K W ma)) (hg : Gl X "list" := by rfl) (hg2 : Gl X "range" := by rfl)
    (na : starEach [.Call (.Name "range" p2) [a] [] pos2] X.env = (false, eval (.Call (.Name "range" p2) [a] [] pos2) X.env) :: starEach [] X.env := by rfl) (nb : starEach [a] X.env = (false, eval a X.env) :: starEach [] X.env := by rfl) :
    PE X (.Call (.Name "list" p) [.Call (.Name "range" p2) [a] [] pos2] [] pos) (tN X.K W (mRgN1 ma)) := PE.imp (pe_listRg hc hg hm (prg_1 hg2 hr ha nb) na) (by
  rintro σ H Q ⟨c, F, ρ, ok, h⟩
  refine ⟨c, F, ρ, ok, post_mono ?_ (postN_bind h)⟩
  rintro d H1 F1 _ ⟨ρ1, ok1, s1, h1⟩ v rv
  obtain ⟨out, e, h2⟩ := postN_lift h1
  obtain ⟨j, rfl, hk, rfl⟩ := rgOf_ok e
  cases rv
  exact ⟨j, rfl, hk, fun q hq => new_N ok1 (rg_rel _) h2 q hq⟩)
theorem dLstRg2 (hc : X.calm = true) (hm : X.mg "list" = none) (hr : X.mg "range" = none) (ha : PE X a (tE X.K W ma)) (hb : PE X b (tE X.K W mb)) (hg : Gl X "list" := by rfl) (hg2 : Gl X "range" := by rfl)
    (na : starEach [.Call (.Name "range" p2) [a, b] [] pos2] X.env = (false, eval (.Call (.Name "range" p2) [a, b] [] pos2) X.env) :: starEach [] X.env := by rfl) (n1 : starEach [a, b] X.env = (false, eval a X.env) :: starEach [b] X.env := by rfl) (n2 : starEach [b] X.env = (false, eval b X.env) :: starEach [] X.env := by rfl)
    (hp : (backTo pos2 (starEach [b] X.env)).any (·.1) = false := by rfl) :
    PE X (.Call (.Name "list" p) [.Call (.Name "range" p2) [a, b] [] pos2] [] pos) (tN X.K W (mRgN2 ma mb)) := PE.imp (pe_listRg hc hg hm (prg_2 hg2 hr ha hb n1 n2 hp) na) (by
  rintro σ H Q ⟨c, F, ρ, ok, h⟩
  refine ⟨c, F, ρ, ok, post_mono ?_ (postN_bind h)⟩
  rintro d H1 F1 _ ⟨ρ1, ok1, s1, h1⟩ v rv
  refine ⟨c, F1, ρ1, ok1, post_mono ?_ (postN_bind h1)⟩
  rintro d2 H2 F2 _ ⟨ρ2, ok2, s2, h2⟩ v2 rv2
  obtain ⟨out, e, h3⟩ := postN_lift h2
  split at e
  · obtain ⟨j, rfl, hk, rfl⟩ := rgOf_ok e
    cases rv
    cases rv2
    exact ⟨_, j, rfl, rfl, hk, fun q hq => new_N ok2 (rg_rel _) h3 q hq⟩
  · cases e)
theorem dTupRg1 (hc : X.calm = true) (hm : X.mg "tuple" = none) (hr : X.mg "range" = none) (ha : PE X a (tE X.K W ma)) (hg : Gl X "tuple" := by rfl) (hg2 : Gl X "range" := by rfl)
    (na : starEach [.Call (.Name "range" p2) [a] [] pos2] X.env = (false, eval (.Call (.Name "range" p2) [a] [] pos2) X.env) :: starEach [] X.env := by rfl) (nb : starEach [a] X.env = (false, eval a X.env) :: starEach [] X.env := by rfl) :
    PE X (.Call (.Name "tuple" p) [.Call (.Name "range" p2) [a] [] pos2] [] pos) (tE X.K W (mTupRg1 ma)) := PE.imp (pe_tupRg hc hg hm (prg_1 hg2 hr ha nb) na) (by
  rintro σ H Q ⟨c, F, ρ, ok, h⟩
  refine ⟨c, F, ρ, ok, post_mono ?_ (post_bind h)⟩
  rintro d H1 F1 _ ⟨ρ1, ok1, s1, h1⟩ v rv
  obtain ⟨out, e, h2⟩ := post_lift h1
  obtain ⟨ds, e1, rfl⟩ := Option.map_eq_some_iff.mp e
  obtain ⟨j, rfl, hk, rfl⟩ := rgOf_ok e1
  cases rv
  exact ⟨j, rfl, hk, fun q hq => h2 _ _ (ok1.alloc hq) (Same.updN (ok1.new hq).1) _ (Dp.tup (.inl (.inl upd_same)) (rg_rel _))⟩)
theorem dTupRg2 (hc : X.calm = true) (hm : X.mg "tuple" = none) (hr : X.mg "range" = none) (ha : PE X a (tE X.K W ma)) (hb : PE X b (tE X.K W mb)) (hg : Gl X "tuple" := by rfl) (hg2 : Gl X "range" := by rfl)
    (na : starEach [.Call (.Name "range" p2) [a, b] [] pos2] X.env = (false, eval (.Call (.Name "range" p2) [a, b] [] pos2) X.env) :: starEach [] X.env := by rfl) (n1 : starEach [a, b] X.env = (false, eval a X.env) :: starEach [b] X.env := by rfl) (n2 : starEach [b] X.env = (false, eval b X.env) :: starEach [] X.env := by rfl)
    (hp : (backTo pos2 (starEach [b] X.env)).any (·.1) = false := by rfl) :
    PE X (.Call (.Name "tuple" p) [.Call (.Name "range" p2) [a, b] [] pos2] [] pos) (tE X.K W (mTupRg2 ma mb)) := PE.imp (pe_tupRg hc hg hm (prg_2 hg2 hr ha hb n1 n2 hp) na) (by
  rintro σ H Q ⟨c, F, ρ, ok, h⟩
  refine ⟨c, F, ρ, ok, post_mono ?_ (post_bind h)⟩
  rintro d H1 F1 _ ⟨ρ1, ok1, s1, h1⟩ v rv
  refine ⟨c, F1, ρ1, ok1, post_mono ?_ (post_bind h1)⟩
  rintro d2 H2 F2 _ ⟨ρ2, ok2, s2, h2⟩ v2 rv2
  obtain ⟨out, e, h3⟩ := post_lift h2
  unfold rgOf2 at e
  split at e
  · obtain ⟨ds, e1, rfl⟩ := Option.map_eq_some_iff.mp e
    obtain ⟨j, rfl, hk, rfl⟩ := rgOf_ok e1
    cases rv
    cases rv2
    exact ⟨_, j, rfl, rfl, hk, fun q hq => h3 _ _ (ok2.alloc hq) (Same.updN (ok2.new hq).1) _ (Dp.tup (.inl (.inl upd_same)) (rg_rel _))⟩
  · cases e)
end
end Dd

namespace Dd
open PySem PySem.Spec L2 PyProof.Rows
/-! ### calls with keywords, keyword-only parameters that lack -/
theorem kbn_of {K : PySem.W.Frag} {fd : FuncData} {ps : List Str} {n : Nat} {ks : List Str} {g : List Value → List Value → List Value} {gV : List V → List V → List V} {D : Addr} {ms : List (Str × Value)}
    (hms : ∀ q ∈ ms, PySem.W.nsIn K D q.1 = some (some q.2)) (h : ∀ us ws : List Value, us.length = n → ws.length = ks.length → KwChain D ms (bindArgs fd ⟨us, ks.zip ws⟩) (ps.zip (g us ws)))
    (rel : ∀ {vs : List V} {us : List Value} {zs : List V} {ws : List Value}, Vals vs us → Vals zs ws → Vals (gV vs zs) (g us ws)) : KBn K fd ps n ks g gV :=
  ⟨fun s us ws X l1 l2 => BindsTo.of_looks fun M => KwChain.looks X hms (h us ws l1 l2), rel⟩
def tCallK (n m : Nat) (sp : Sp) (gV : List V → List V → List V) (E : L2.St → XK) (t tk : TA) : TE := fun σ H Q => t σ H fun vs H1 => tk σ H1 fun zs H2 => vs.length = n ∧ zs.length = m ∧ sp (gV vs zs) H2 Q (E σ)
section
variable {X : Cx} {CX : CXT} {W : WX} {k n : Nat} {f : Addr} {fd : FuncData} {ps ks : List Str} {sp : Sp} {E : L2.St → XK} {x : Str} {p pos : Pos} {e : Expr} {es : List Expr} {kws : List Keyword} {t tk : TA} {g : List Value → List Value → List Value} {gV : List V → List V → List V}
theorem run_fnK {pins : List (Addr × Obj)} {σ : L2.St} {H : Hp} {s : Shared} {Q : VK} {us ws : List Value} {vs zs : List V} (F : FnG X.prog X.w X.K X.mg X.base CX k f fd ps sp) (hgd : X.A.guards = some []) (hr : Room k X.A) (hb : KBn X.K fd ps n ks g gV) (hx : PassesAt CX X σ (E σ))
    (I : Inv X pins σ H s) (r : Vals vs us) (rz : Vals zs ws) (l1 : vs.length = n) (l2 : zs.length = ks.length) (h : sp (gV vs zs) H Q (E σ)) : wpAny (model X.prog X.w) X.A (call (.ref f) us (ks.zip ws)) (EP X pins σ Q) X.xe s := by
  refine wpAny_call (codeAny_mono (F.run X.A X.stack s H ⟨us, ks.zip ws⟩ (g us ws) (gV vs zs) Q (E σ) hgd hr I.env0 (hb.to s us ws I.kIn (r.length.symm.trans l1) (rz.length.symm.trans l2)) (hb.rel r rz) h) fun q s' hq => ?_)
  match q, hq with
  | .error e, hq => exact hx pins H s e s' I hq
  | .ok (.ret u), hq => exact I.after hq
  | .ok .next, hq => exact False.elim hq
  | .ok .brk, hq => exact False.elim hq
  | .ok .cont, hq => exact False.elim hq
theorem pe_callK (F : FnG X.prog X.w X.K X.mg X.base CX k f fd ps sp) (hgd : X.A.guards = some []) (hr : Room k X.A) (hg : Gl X x) (hm : X.mg x = some (.ref f)) (hk : PySem.W.keepIn X.K (.ref f) = true) (hb : KBn X.K fd ps n ks g gV) (hx : ∀ σ, PassesAt CX X σ (E σ))
    (ha : PA X (e :: es) t) (hkw : PK X kws tk) (hall : (backToKw pos (keywordEach kws X.env)).all (·.1.isSome) = true := by rfl) (hks : (backToKw pos (keywordEach kws X.env)).filterMap (·.1) = ks := by rfl)
    (hdb : (x == ("__debug__" : Str)) = false := by decide) (he : starEach (e :: es) X.env = (false, eval e X.env) :: starEach es X.env := by rfl)
    (hpl : ((backTo pos (starEach (e :: es) X.env)).any (·.1) || (backToKw pos (keywordEach kws X.env)).any (·.1.isNone)) = false := by rfl) :
    PE X (.Call (.Name x p) (e :: es) kws pos) (tCallK n ks.length sp gV E t tk) :=
  ⟨fun pins s σ H Q I h => wpAny_Call_Name_kw (ld_glob I hg hm (PySem.W.callWith_KW (h₀ := X.base) I.ok.mod.kin hk hall (thn (ha.run pos pins s σ H _ I h) fun us s1 ⟨vs, H1, I1, r, q⟩ =>
    thn (hkw.run pos pins s1 σ H1 _ I1 q) fun ws s2 ⟨zs, H2, I2, rz, l1, l2, q2⟩ => ⟨I2.kIn, by
      rw [hks]
      exact run_fnK F hgd hr hb (hx σ) I2 r rz l1 l2 q2⟩) hpl he) hdb)⟩
theorem PK.imp {t t' : TA} (h : PK X kws t) (k : ∀ σ H Q, t' σ H Q → t σ H Q) : PK X kws t' := ⟨fun pos pins s σ H Q I q => h.run pos pins s σ H Q I (k σ H Q q)⟩
theorem dkNil : PK X [] (tA X.K W (mPure [])) := PK.imp pk_nil (by
  rintro σ H Q ⟨c, F, ρ, ok, h⟩
  exact post_ok (W := W) h ok _ .nil)
theorem dkCons {ma : M D} {ms : M (List D)} {nm : Option Str} {kpos : Pos} (ha : PE X e (tE X.K W ma)) (hr : PK X kws (tA X.K W ms)) : PK X (⟨nm, e, kpos⟩ :: kws) (tA X.K W (mCons ma ms)) := by
  refine PK.imp (pk_cons ha hr) ?_
  rintro σ H Q ⟨c, F, ρ, ok, h⟩
  refine ⟨c, F, ρ, ok, post_mono ?_ (post_bind h)⟩
  rintro d H1 F1 _ ⟨ρ1, ok1, s1, h1⟩ x rx
  refine ⟨c, F1, ρ1, ok1, post_mono ?_ (post_bind h1)⟩
  rintro ds H2 F2 _ ⟨ρ2, ok2, s2, h2⟩ xs rxs
  exact post_ok (W := W) h2 ok2 _ (.cons (Dp.mono s2 rx) rxs)
theorem dpAll_app {K : PySem.W.Frag} {F : Hp} : ∀ {xs ys : List V} {ds es : List D}, DpAll K F xs ds → DpAll K F ys es → DpAll K F (xs ++ ys) (ds ++ es)
  | _, _, _, _, .nil, h => h
  | _, _, _, _, .cons r t, h => .cons r (dpAll_app t h)
/-- f(e, .., k = v, ..): n values, then the defaults a, then m keywords' values, then the defaults b -/
def mCallK (n m : Nat) (a b : List D) (f : List D → Option (Rs D)) (ms mk : M (List D)) : M D := mBind ms fun ds => mBind mk fun es => if ds.length = n ∧ es.length = m then mRs (f (ds ++ (a ++ (es ++ b)))) else mStuck
theorem dCallKG {m np : Nat} {a b : List D} {aV bV : List V} {fn : List D → Option (Rs D)} {ms mk : M (List D)} (hgd : X.A.guards = some []) (F : FnG X.prog X.w X.K X.mg X.base (L2.CX X.prog X.w) k f fd ps (spV X.K np fn)) (hr : Room k X.A) (hm : X.mg x = some (.ref f)) (hk : PySem.W.keepIn X.K (.ref f) = true)
    (hb : KBn X.K fd ps n ks g fun vs zs => vs ++ (aV ++ (zs ++ bV))) (tk : Takes X W) (hc1 : ∀ F, DpAll X.K F aV a) (hc2 : ∀ F, DpAll X.K F bV b)
    (ha : PA X (e :: es) (tA X.K W ms)) (hkw : PK X kws (tA X.K W mk)) (hn : np = n + (a.length + (m + b.length)) := by rfl) (hlm : ks.length = m := by rfl) (hg : Gl X x := by rfl)
    (hall : (backToKw pos (keywordEach kws X.env)).all (·.1.isSome) = true := by rfl) (hks : (backToKw pos (keywordEach kws X.env)).filterMap (·.1) = ks := by rfl)
    (hdb : (x == ("__debug__" : Str)) = false := by decide) (he : starEach (e :: es) X.env = (false, eval e X.env) :: starEach es X.env := by rfl)
    (hpl : ((backTo pos (starEach (e :: es) X.env)).any (·.1) || (backToKw pos (keywordEach kws X.env)).any (·.1.isNone)) = false := by rfl) :
    PE X (.Call (.Name x p) (e :: es) kws pos) (tE X.K W (mCallK n m a b fn ms mk)) := PE.imp (pe_callK F hgd hr hg hm hk hb (fun σ => passAt tk σ) ha hkw hall hks hdb he hpl) (by
  rintro σ H Q ⟨c, F0, ρ, ok, h⟩
  refine ⟨c, F0, ρ, ok, post_mono ?_ (post_bind h)⟩
  rintro ds H1 F1 _ ⟨ρ1, ok1, s1, h1⟩ vs rv
  refine ⟨c, F1, ρ1, ok1, post_mono ?_ (post_bind h1)⟩
  rintro es H2 F2 _ ⟨ρ2, ok2, s2, h2⟩ zs rz
  by_cases hl : ds.length = n ∧ es.length = m
  · rw [if_pos hl] at h2
    refine ⟨(DpAll.length rv).trans hl.1, ((DpAll.length rz).trans hl.2).trans hlm.symm, F2, ds ++ (a ++ (es ++ b)), ok2.sub, dpAll_app (DpAll.mono s2 rv) (dpAll_app (hc1 F2) (dpAll_app rz (hc2 F2))), ?_, ?_⟩
    · rw [List.length_append, List.length_append, List.length_append, hl.1, hl.2, hn]
    · unfold mRs at h2
      cases e : fn (ds ++ (a ++ (es ++ b))) with
      | none => rw [e] at h2; exact h2
      | some r =>
        rw [e] at h2
        cases r with
        | ok d => exact fun v F' H' x r => h2 H' F' (ok2.call x) x.ff v r
        | error e => exact fun cls y F' H' x r => h2 cls y H' F' (ok2.call x) x.ff r
  · rw [if_neg hl] at h2
    exact h2.elim)
end
end Dd

namespace Dd
open PySem PySem.Spec L2 PyProof.Rows
/-! ### a, b, c = x, y, z -/
def mPar3 (i j l : Nat) (ma mb mc : M D) : M Fl := mBind ma fun a => mBind mb fun b => mBind mc fun c => mBind (mStore i a) fun _ => mBind (mStore j b) fun _ => mBind (mStore l c) fun _ => mDone
/-- .. the first a new empty list -/
def mParL (i j l : Nat) (mb mc : M D) : M Fl := mBind mb fun b => mBind mc fun c => mBind (mStoreO i []) fun _ => mBind (mStore j b) fun _ => mBind (mStore l c) fun _ => mDone
section
variable {X : Cx} {W : WX} {K : PySem.W.Frag} {σ : L2.St} {H F : Hp} {ρ : En} {c : Ct} {Dn : Ends} {i j l : Nat} {ma mb mc : M D}
theorem store_bind {α : Type} {d : D} {v : V} {f : Unit → M Fl} (ok : Ok K c σ H F ρ) (r : Dp K F v d) (h : postS K W c F Dn (mBind (mStore i d) f ρ)) : ∃ F1 ρ1, Ok K c (σ.set i (some v)) H F1 ρ1 ∧ Same F F1 ∧ postS K W c F1 Dn (f () ρ1) := by
  have h3 := postS_bindG h
  unfold mStore at h3
  split at h3
  · rename_i hl
    exact h3 _ H F (ok.setV hl r) (Same.refl F)
  · exact h3.elim
theorem par3_of (h : tS K W (mPar3 i j l ma mb mc) Dn σ H) : tPar3 i j l (tCons (tE K W ma) (tCons (tE K W mb) (tCons (tE K W mc) tNil))) Dn σ H := by
  obtain ⟨c, F, ρ, ok, h⟩ := h
  refine ⟨c, F, ρ, ok, post_mono ?_ (postS_bind h)⟩
  rintro d1 H1 F1 _ ⟨ρ1, ok1, s1, h1⟩ v1 r1
  refine ⟨c, F1, ρ1, ok1, post_mono ?_ (postS_bind h1)⟩
  rintro d2 H2 F2 _ ⟨ρ2, ok2, s2, h2⟩ v2 r2
  refine ⟨c, F2, ρ2, ok2, post_mono ?_ (postS_bind h2)⟩
  rintro d3 H3 F3 _ ⟨ρ3, ok3, s3, h3⟩ v3 r3
  refine ⟨v1, v2, v3, rfl, ?_⟩
  obtain ⟨F4, ρ4, ok4, s4, h4⟩ := store_bind (α := Unit) ok3 (Dp.mono (s2.trans s3) r1) h3
  obtain ⟨F5, ρ5, ok5, s5, h5⟩ := store_bind (α := Unit) ok4 (Dp.mono (s3.trans s4) r2) h4
  obtain ⟨F6, ρ6, ok6, s6, h6⟩ := store_bind (α := Unit) ok5 (Dp.mono (s4.trans s5) r3) h5
  exact h6 _ _ _ ok6 (Same.refl F6)
theorem postS_put {α : Type} {p : Addr} {o : HO} {m : M α} {f : α → M Fl} (hp : c.pr p = none) (h : postS K W c F Dn (mBind m f ρ)) :
    post K W (c.put p o) σ F (fun a H1 F1 => ∃ ρ1, Ok K (c.put p o) σ H1 F1 ρ1 ∧ Same F F1 ∧ postS K W c F1 Dn (f a ρ1)) (m ρ) := by
  unfold mBind at h
  cases e : m ρ with
  | none => rw [e] at h; exact h.elim
  | some r =>
    rw [e] at h
    cases r with
    | ok a ρ1 => exact fun H' F' ok s => ⟨ρ1, ok, s, postS_weak s h⟩
    | ex z ρ1 => exact fun cls x H' F' ok s er => h σ cls x H' F' (ok_unput ok hp) s er
theorem parL_of (h : tS K W (mParL i j l mb mc) Dn σ H) : tPar3 i j l (tCons (tLst tNil) (tCons (tE K W mb) (tCons (tE K W mc) tNil))) Dn σ H := by
  obtain ⟨c, F, ρ, ok, h⟩ := h
  refine ⟨Nat.zero_le _, fun p hp => ?_⟩
  have okp := ok.allocP (o := .lst []) hp
  have hpr := (ok.new hp).2.2.1
  refine ⟨c.put p (.lst []), F, ρ, okp, post_mono ?_ (postS_put hpr h)⟩
  rintro d2 H2 F2 _ ⟨ρ2, ok2, s2, h2⟩ v2 r2
  refine ⟨c.put p (.lst []), F2, ρ2, ok2, post_mono ?_ (postS_put hpr h2)⟩
  rintro d3 H3 F3 _ ⟨ρ3, ok3, s3, h3⟩ v3 r3
  refine ⟨.ref p, v2, v3, rfl, ?_⟩
  have h4 := postS_bindG h3
  unfold mStoreO at h4
  split at h4
  · rename_i hl
    obtain ⟨F4, ρ4, ok4, s4, h5⟩ := h4 _ H3 F3 (ok3.ownP hpr .nil hl) (Same.refl F3)
    obtain ⟨F5, ρ5, ok5, s5, h6⟩ := store_bind (α := Unit) ok4 (Dp.mono (s3.trans s4) r2) h5
    obtain ⟨F6, ρ6, ok6, s6, h7⟩ := store_bind (α := Unit) ok5 (Dp.mono (s4.trans s5) r3) h6
    exact h7 _ _ _ ok6 (Same.refl F6)
  · exact h4.elim
variable {x y z : Str} {a b cc : Expr} {px py pz pt pt2 pos : Pos} {kt k2 : Nat}
theorem dPar3 (hc : X.calm = true) (hN : X.N.Nodup) (hij : i ≠ j) (hil : i ≠ l) (hjl : j ≠ l) (ha : PE X a (tE X.K W ma)) (hb : PE X b (tE X.K W mb)) (hcc : PE X cc (tE X.K W mc)) (hi : X.N[i]? = some x := by rfl) (hj : X.N[j]? = some y := by rfl) (hl : X.N[l]? = some z := by rfl)
    (hx : X.env.scope.names.lookup x = some .local := by rfl) (hy : X.env.scope.names.lookup y = some .local := by rfl) (hz : X.env.scope.names.lookup z = some .local := by rfl)
    (hw : swappedStores [.Tuple [.Name x px, .Name y py, .Name z pz] kt pt] (.Tuple [a, b, cc] k2 pt2) X.env = pure (some [x, y, z]) := by rfl)
    (hs : swapsWithSole [.Tuple [.Name x px, .Name y py, .Name z pz] kt pt] (.Tuple [a, b, cc] k2 pt2) pos.line X.env = pure false := by rfl)
    (hs1 : starEach [a, b, cc] X.env = (false, eval a X.env) :: starEach [b, cc] X.env := by rfl) (hs2 : starEach [b, cc] X.env = (false, eval b X.env) :: starEach [cc] X.env := by rfl) (hs3 : starEach [cc] X.env = (false, eval cc X.env) :: starEach [] X.env := by rfl) :
    PS X (.Assign [.Tuple [.Name x px, .Name y py, .Name z pz] kt pt] (.Tuple [a, b, cc] k2 pt2) pos) (tS X.K W (mPar3 i j l ma mb mc)) :=
  PS.imp (ps_par3 hc hN hi hj hl hij hil hjl hx hy hz (pa_cons ha (pa_cons hb (pa_cons hcc pa_nil hs3) hs2) hs1) hw hs) fun _ _ _ => par3_of
theorem dParL {lp : Pos} (hc : X.calm = true) (hN : X.N.Nodup) (hij : i ≠ j) (hil : i ≠ l) (hjl : j ≠ l) (hb : PE X b (tE X.K W mb)) (hcc : PE X cc (tE X.K W mc)) (hi : X.N[i]? = some x := by rfl) (hj : X.N[j]? = some y := by rfl) (hl : X.N[l]? = some z := by rfl)
    (hx : X.env.scope.names.lookup x = some .local := by rfl) (hy : X.env.scope.names.lookup y = some .local := by rfl) (hz : X.env.scope.names.lookup z = some .local := by rfl)
    (hw : swappedStores [.Tuple [.Name x px, .Name y py, .Name z pz] kt pt] (.Tuple [.List [] lp, b, cc] k2 pt2) X.env = pure (some [x, y, z]) := by rfl)
    (hs : swapsWithSole [.Tuple [.Name x px, .Name y py, .Name z pz] kt pt] (.Tuple [.List [] lp, b, cc] k2 pt2) pos.line X.env = pure false := by rfl)
    (hs1 : starEach [.List [] lp, b, cc] X.env = (false, eval (.List [] lp) X.env) :: starEach [b, cc] X.env := by rfl) (hs2 : starEach [b, cc] X.env = (false, eval b X.env) :: starEach [cc] X.env := by rfl) (hs3 : starEach [cc] X.env = (false, eval cc X.env) :: starEach [] X.env := by rfl) :
    PS X (.Assign [.Tuple [.Name x px, .Name y py, .Name z pz] kt pt] (.Tuple [.List [] lp, b, cc] k2 pt2) pos) (tS X.K W (mParL i j l mb mc)) :=
  PS.imp (ps_par3 hc hN hi hj hl hij hil hjl hx hy hz (pa_cons (pe_lst pa_nil) (pa_cons hb (pa_cons hcc pa_nil hs3) hs2) hs1) hw hs) fun _ _ _ => parL_of
/-- .. where a name is a cell: the tuple is made and taken apart -/
theorem parLC_of (h : tS K W (mParL i j l mb mc) Dn σ H) : tAsg (tTup (tCons (tLst tNil) (tCons (tE K W mb) (tCons (tE K W mc) tNil)))) (gTup K 3 (gCons (gName i) (gCons (gName j) (gCons (gName l) gNil)))) Dn σ H := by
  obtain ⟨c, F, ρ, ok, h⟩ := h
  refine ⟨Nat.zero_le _, fun p hp => ?_⟩
  have okp := ok.allocP (o := .lst []) hp
  have hpr := (ok.new hp).2.2.1
  refine ⟨c.put p (.lst []), F, ρ, okp, post_mono ?_ (postS_put hpr h)⟩
  rintro d2 H2 F2 _ ⟨ρ2, ok2, s2, h2⟩ v2 r2
  refine ⟨c.put p (.lst []), F2, ρ2, ok2, post_mono ?_ (postS_put hpr h2)⟩
  rintro d3 H3 F3 _ ⟨ρ3, ok3, s3, h3⟩ v3 r3
  refine ⟨by show 3 ≤ sizeLine; rw [sizeLine_eq]; decide, fun q hq => ⟨q, _, rfl, .inl (.inl upd_same), rfl, _, _, rfl, _, _, rfl, _, _, rfl, rfl, ?_⟩⟩
  have okq := ok3.alloc (o := .tup [.ref p, v2, v3]) hq
  have sq : Same F3 (upd F3 q (.tup [.ref p, v2, v3])) := Same.updN (ok3.new hq).1
  have h4 := postS_bindG h3
  unfold mStoreO at h4
  split at h4
  · rename_i hl
    obtain ⟨F4, ρ4, ok4, s4, h5⟩ := h4 _ _ _ (okq.ownP hpr .nil hl) sq
    obtain ⟨F5, ρ5, ok5, s5, h6⟩ := store_bind (α := Unit) ok4 (Dp.mono (s3.trans s4) r2) h5
    obtain ⟨F6, ρ6, ok6, s6, h7⟩ := store_bind (α := Unit) ok5 (Dp.mono (s4.trans s5) r3) h6
    exact h7 _ _ _ ok6 (Same.refl F6)
  · exact h4.elim
theorem dParLC {lp : Pos} (hc : X.calm = true) (hN : X.N.Nodup) (hb : PE X b (tE X.K W mb)) (hcc : PE X cc (tE X.K W mc)) (hi : X.N[i]? = some x := by rfl) (hj : X.N[j]? = some y := by rfl) (hl : X.N[l]? = some z := by rfl)
    (hx : Loc X.env.scope x := by first | exact Or.inl rfl | exact Or.inr rfl) (hy : Loc X.env.scope y := by first | exact Or.inl rfl | exact Or.inr rfl) (hz : Loc X.env.scope z := by first | exact Or.inl rfl | exact Or.inr rfl)
    (hfx : X.fn x = true ∨ X.env.scope.names.lookup x = some .local := by first | exact .inl rfl | exact .inr rfl) (hfy : X.fn y = true ∨ X.env.scope.names.lookup y = some .local := by first | exact .inl rfl | exact .inr rfl) (hfz : X.fn z = true ∨ X.env.scope.names.lookup z = some .local := by first | exact .inl rfl | exact .inr rfl)
    (hs : swapsWithSole [.Tuple [.Name x px, .Name y py, .Name z pz] kt pt] (.Tuple [.List [] lp, b, cc] k2 pt2) pos.line X.env = pure false := by rfl)
    (hw : swappedStores [.Tuple [.Name x px, .Name y py, .Name z pz] kt pt] (.Tuple [.List [] lp, b, cc] k2 pt2) X.env = pure none := by rfl)
    (h1 : (assignEach [.Tuple [.Name x px, .Name y py, .Name z pz] kt pt] X.env).map (·.2) = [assign (.Tuple [.Name x px, .Name y py, .Name z pz] kt pt) X.env] := by rfl)
    (hn : (assignEach [.Name x px, .Name y py, .Name z pz] X.env).length = 3 := by rfl) (hst : (assignEach [.Name x px, .Name y py, .Name z pz] X.env).findIdx? (·.1) = none := by rfl)
    (e1 : (assignEach [.Name x px, .Name y py, .Name z pz] X.env).map (·.2) = assign (.Name x px) X.env :: (assignEach [.Name y py, .Name z pz] X.env).map (·.2) := by rfl)
    (e2 : (assignEach [.Name y py, .Name z pz] X.env).map (·.2) = assign (.Name y py) X.env :: (assignEach [.Name z pz] X.env).map (·.2) := by rfl)
    (e3 : (assignEach [.Name z pz] X.env).map (·.2) = assign (.Name z pz) X.env :: (assignEach [] X.env).map (·.2) := by rfl)
    (hs1 : starEach [.List [] lp, b, cc] X.env = (false, eval (.List [] lp) X.env) :: starEach [b, cc] X.env := by rfl) (hs2 : starEach [b, cc] X.env = (false, eval b X.env) :: starEach [cc] X.env := by rfl) (hs3 : starEach [cc] X.env = (false, eval cc X.env) :: starEach [] X.env := by rfl) :
    PS X (.Assign [.Tuple [.Name x px, .Name y py, .Name z pz] kt pt] (.Tuple [.List [] lp, b, cc] k2 pt2) pos) (tS X.K W (mParL i j l mb mc)) :=
  PS.imp (ps_asg (pe_tup (pa_cons (pe_lst pa_nil) (pa_cons hb (pa_cons hcc pa_nil hs3) hs2) hs1)) (pg_tup hc (pgs_cons (pg_name hN hi hx hfx) (pgs_cons (pg_name hN hj hy hfy) (pgs_cons (pg_name hN hl hz hfz) pgs_nil e3) e2) e1) hn hst) hs hw h1) fun _ _ _ => parLC_of
end
end Dd

namespace Dd
open PySem PySem.Spec L2 PyProof.Rows
/-! ### a, *b = a list -/
section
variable {prog : Program} {w : World} {A : Around} {E : Value → Shared → Prop} {s : Shared}
theorem star_list {l : Addr} {items : Array Value} {n i : Nat} {Q : List Value → Shared → Prop} (hl : s.heap.IsList l items) (hh : A.handled = none) (hi : i < n) (hn : n ≤ items.size + 1) (hz : items.size ≤ sizeLine)
    (h : ∀ (h2 : Heap) (tk : Nat), (∀ b o, s.heap.get? b = some o → h2.get? b = some o) →
      Q (items.toList.take i ++ [.ref h2.objs.size] ++ (items.toList.drop i).drop (items.size + 1 - n)) { s with heap := h2.push (seqObj "list" ((items.toList.drop i).take (items.size + 1 - n)).toArray 0), toks := tk }) :
    wpAny (model prog w) A (unpackItems (.ref l) n (some i)) Q E s := by
  have hlt : l ≠ s.heap.objs.size := by obtain ⟨o, ho, _⟩ := hl; exact Nat.ne_of_lt (Heap.lt_size ho)
  have hll : l < s.heap.objs.size := by obtain ⟨o, ho, _⟩ := hl; exact Heap.lt_size ho
  unfold unpackItems
  refine wpAny_bind ?_
  unfold notIterableAtAll
  refine wpAny_bind (wpAny_specialOf hl.typeIs slot_list_iter.lookup ?_)
  refine wpAny_pure ?_
  simp only [Bool.false_eq_true, if_false]
  refine wpAny_bind (wpAny_holding (wpAny_pyIter_list hl ?_))
  refine wpAny_bind (wpAny_holding (PySem.W.kun_draw hlt i 0 _ _ ⟨_, Heap.get?_push_size _ rfl, rfl, rfl⟩ (hl.push _) (by omega) fun h₁ hit₁ hs₁ => ?_))
  have hl₁ : h₁.IsList l items := (hl.push _).extBut hs₁.extBut hlt
  rw [Nat.zero_add] at hit₁
  have hit₁' := hit₁
  obtain ⟨oi, hoi, _⟩ := hit₁'
  have hl₁' := hl₁
  obtain ⟨ol, hol, _⟩ := hl₁'
  rw [List.drop_zero]
  have hfl : (items.toList.take i).length = i := by rw [List.length_take, Array.length_toList]; omega
  rw [if_neg (show ¬ ((items.toList.take i).length < i) by rw [hfl]; omega)]
  refine wpAny_bind (wpAny_holding (PySem.W.kun_collect (s := { s with heap := h₁ }) (T := "list_iterator") (.inr (.inr (.inl rfl))) (Walks.list (A := A.in1) hh s.heap.objs.size l hlt items) (fun j u st => st.1.typeIs) (k := i) (by omega) ⟨hit₁, hl₁⟩ (Heap.lt_size hoi) (Heap.lt_size hol) (fun h₂ tk hk => ?_) hz))
  have hrl : (items.toList.drop i).length = items.size - i := by rw [List.length_drop, Array.length_toList]
  have hmid : (items.toList.drop i).length - (n - 1 - i) = items.size + 1 - n := by rw [hrl]; omega
  show wpAny _ _ (if (items.toList.drop i).length < n - 1 - i then _ else _) _ _ _
  rw [if_neg (by rw [hrl]; omega)]
  show wpAny _ _ (newList ((items.toList.drop i).take ((items.toList.drop i).length - (n - 1 - i))) >>= fun d => pure (items.toList.take i ++ [d] ++ (items.toList.drop i).drop ((items.toList.drop i).length - (n - 1 - i)))) _ _ _
  rw [hmid]
  refine wpAny_bind (wpAny_newList ?_ (by rw [List.length_take, hrl]; omega))
  refine wpAny_pure (h h₂ tk fun b o e => ?_)
  have hb : b ≠ s.heap.objs.size := Nat.ne_of_lt (Heap.lt_size e)
  exact hk b o hb (hs₁.extBut b o hb (Heap.get?_push_of_some _ e))
end
/-- a, *b = a list: the others are a new list -/
def gLstS (K : PySem.W.Frag) (n i : Nat) (t : TGs) : TG := fun v σ H Q => ∃ a xs, v = .ref a ∧ SqL K H a xs ∧ i < n ∧ n ≤ xs.length + 1 ∧
  ∀ D, H D = none → t (xs.take i ++ [.ref D] ++ (xs.drop i).drop (xs.length + 1 - n)) σ (upd H D (.lst ((xs.drop i).take (xs.length + 1 - n)))) Q
section
variable {X : Cx} {pos : Pos} {W : WX}
theorem pg_lstS {es : List Expr} {k : Nat} {t : TGs} {n i : Nat} (hc : X.calm = true) (h : PGs X es t)
    (hn : (assignEach es X.env).length = n := by rfl) (hst : (assignEach es X.env).findIdx? (·.1) = some i := by rfl) : PG X (.Tuple es k pos) (gLstS X.K n i t) := by
  refine ⟨fun pins s σ H v u Q I r hw => ?_⟩
  obtain ⟨a, xs, e1, hq, hi, hl, hw⟩ := hw
  subst e1
  cases r
  obtain ⟨its, rv, pl, hz⟩ := I.list hq
  have hlen : its.length = xs.length := rv.length.symm
  rw [PyProof.Rows.assign_Tuple]
  refine wpAny_bind (wpAny_standAt ?_)
  unfold unpack
  rw [hn, hst]
  refine wpAny_bind (wpAny_holding (star_list pl.isList (I.ok.hd hc) hi (by simp [hlen]; exact hl) (by simp [hlen]; exact hz) fun h2 tk hk => ?_))
  have I1 : Inv X pins σ H { s with heap := h2, toks := tk } := I.kept hk
  have hm : ((its.toArray.toList.drop i).take (its.toArray.size + 1 - n)).length ≤ sizeLine := by
    simp only [List.length_take, List.length_drop, List.size_toArray]
    rw [hlen]; omega
  have hv : Vals ((xs.drop i).take (xs.length + 1 - n)) ((its.toArray.toList.drop i).take (its.toArray.size + 1 - n)) := by
    simp only [List.size_toArray, hlen]
    exact (rv.drop i).take _
  have I2 : Inv X pins σ (upd H h2.objs.size (.lst ((xs.drop i).take (xs.length + 1 - n)))) { s with heap := h2.push (seqObj "list" ((its.toArray.toList.drop i).take (its.toArray.size + 1 - n)).toArray 0), toks := tk } :=
    I1.laid (t' := tk) (fun b u e => Heap.get?_push_of_some _ e) (Nat.le_refl _)
      (show ObjOk X.prog X.w _ _ _ (.lst _) from ⟨by rw [hv.length]; exact hm, _, 0, hv, Heap.get?_push_size _ rfl⟩)
  refine h.run pins _ σ _ _ _ Q I2 ?_ (hw h2.objs.size (I1.hok.fresh (Nat.le_refl _)))
  simp only [List.size_toArray, hlen]
  exact ((rv.take i).append (.cons (show L2.RelV (V.ref h2.objs.size) (.ref h2.objs.size) from rfl) .nil)).append ((rv.drop i).drop _)
theorem pgs_consS {e : Expr} {es : List Expr} {t : TG} {u : TGs} {sp : Pos} (h1 : PG X e t) (h2 : PGs X es u)
    (hs : (assignEach (.Starred e sp :: es) X.env).map (·.2) = assign e X.env :: (assignEach es X.env).map (·.2) := by rfl) : PGs X (.Starred e sp :: es) (gCons t u) := by
  refine ⟨fun pins s σ H vs us Q I r h => ?_⟩
  obtain ⟨v, vr, e1, h⟩ := h
  subst e1
  cases r with
  | cons r rr =>
    rw [hs]
    refine assignInOrder_cons (thn (h1.run pins s σ H _ _ _ I r h) fun _ s1 ⟨σ1, H1, I1, q1⟩ => ?_)
    exact h2.run pins s1 σ1 H1 _ _ Q I1 rr q1
theorem dgsConsS {e : Expr} {es : List Expr} {sp : Pos} {g : D → M Unit} {gs : List D → M Unit} (h1 : PG X e (tG X.K W g)) (h2 : PGs X es (tGs X.K W gs)) (hs : (assignEach (.Starred e sp :: es) X.env).map (·.2) = assign e X.env :: (assignEach es X.env).map (·.2) := by rfl) : PGs X (.Starred e sp :: es) (tGs X.K W (gCons2 g gs)) :=
  PGs.imp (pgs_consS h1 h2 hs) (by
  rintro vs σ H Q ⟨c, F, ρ, ds, ok, r, h⟩
  cases r with
  | nil => exact h.elim
  | cons r rr =>
    refine ⟨_, _, rfl, c, F, ρ, _, ok, r, postG_mono ?_ (postG_bindG h)⟩
    rintro σ1 H1 ⟨F1, ρ1, ok1, s1, h1⟩
    exact ⟨c, F1, ρ1, _, ok1, DpAll.mono s1 rr, h1⟩)
def gStarD (n i : Nat) (gs : List D → M Unit) : D → M Unit
  | .list ds => if i < n ∧ n ≤ ds.length + 1 then gs (ds.take i ++ [.list ((ds.drop i).take (ds.length + 1 - n))] ++ (ds.drop i).drop (ds.length + 1 - n)) else mStuck
  | _ => mStuck
theorem dgStar {es : List Expr} {k : Nat} {gs : List D → M Unit} {n i : Nat} (hc : X.calm = true) (h : PGs X es (tGs X.K W gs)) (hn : (assignEach es X.env).length = n := by rfl) (hst : (assignEach es X.env).findIdx? (·.1) = some i := by rfl) : PG X (.Tuple es k pos) (tG X.K W (gStarD n i gs)) :=
  PG.imp (pg_lstS hc h hn hst) (by
  rintro v σ H Q ⟨c, F, ρ, d, ok, r, h⟩
  unfold gStarD at h
  split at h
  · rename_i ds1
    split at h
    · rename_i hl
      obtain ⟨p, vs, rfl, hp, dp⟩ := Pk.lst ok.sub (.inl r)
      have le := DpAll.length dp
      refine ⟨p, vs, rfl, hp, hl.1, by rw [le]; exact hl.2, fun q hq => ?_⟩
      rw [le]
      have hF : F q = none := ok.sub.free hq
      have s : Same F (upd F q (.lst ((vs.drop i).take (ds1.length + 1 - n)))) := Same.updN hF
      have ok2 := ok.alloc (o := .lst ((vs.drop i).take (ds1.length + 1 - n))) hq
      refine ⟨c, _, ρ, _, ok2, ?_, postG_weak s h⟩
      have dm := DpAll.mono s dp
      exact DpAll.append (DpAll.append (DpAll.take i dm) (.cons (.lst (.inl upd_same) (DpAll.take _ (DpAll.drop i dm))) .nil)) (DpAll.drop _ (DpAll.drop i dm))
    · exact h.elim
  · exact h.elim)
end
/-! ### xs.clear() -/
def clearD : List D → List D → Option (List D × D)
  | _, [] => some ([], .none)
  | _, _ => none
theorem mut_clear {K : PySem.W.Frag} : MutD K rClear clearD := by
  intro H F l xs vs ds as ds' d Q s hF hl hx hv e k
  cases hv with
  | cons _ _ => cases e
  | nil =>
    cases e
    exact ⟨l, xs, rfl, rfl, hl, k _ _ .nil .non⟩
/-! ### a def that hands back a new list -/
section
variable {K : PySem.W.Frag} {W : WX} {c : Ct} {σ : L2.St} {H F : Hp} {ρ : En}
theorem Ok.dropP {p : Addr} {xs : List V} (ok : Ok K (c.put p (.lst xs)) σ H F ρ) (hp : c.pr p = none) : Ok K c σ H F ρ := by
  have nown : ∀ {q : Addr}, (c.put p (.lst xs)).pr q = none → q ≠ p := fun {q} a z => by
    subst z
    have a' : upd c.pr q (.lst xs) q = none := a
    rw [upd_same] at a'; cases a'
  refine ⟨ok.len, ok.sub, ok.ge, ok.fe, ok.keep, fun q e => ?_, fun b u e => ?_, ok.val, fun j es e => ?_, ok.ios, ok.scr, ok.sep⟩
  · obtain ⟨a1, a2, a3, a4⟩ := ok.iod q e
    exact ⟨a1, a2, (upd_ne (nown a3)).symm.trans a3, a4⟩
  · have ne : b ≠ p := fun z => by subst z; rw [hp] at e; cases e
    exact ok.prt b u ((upd_ne ne).trans e)
  · obtain ⟨q, vs, a1, a2, a3, a4, a5, a6⟩ := ok.own j es e
    exact ⟨q, vs, a1, a2, a3, a4, a5, (upd_ne (nown a6)).symm.trans a6⟩
end
section
variable {X : Cx} {W : WX} {pos : Pos}
def mRetFN (m : M (List D)) : M Fl := mBind m fun ds => mPure (.rf ds)
theorem dRetFN {e : Expr} {m : M (List D)} (h : PE X e (tN X.K W m)) : PS X (.Return (some e) pos) (tS X.K W (mRetFN m)) := PS.imp (ps_ret h) (by
  rintro Dn σ H ⟨c, F, ρ, ok, h⟩
  refine ⟨c, F, ρ, ok, ?_⟩
  unfold mRetFN mBind at h
  cases e : m ρ with
  | none => rw [e] at h; exact h.elim
  | some r =>
    rw [e] at h
    cases r with
    | ex x ρ' => exact fun cls y H' F' ok s r => h σ cls y H' F' ok s r
    | ok out ρ' =>
      intro p xs H' F' ok' hp s' r
      obtain ⟨hH, hF, h0⟩ := ok'.prt p _ upd_same
      exact h σ p xs H' F' (ok'.dropP hp) s' hH r hF h0)
end
section
variable {K : PySem.W.Frag} {W : WX} {σ : L2.St} {H : Hp} {n : Nat} {ms : M (List D)}
def asV (f : List D → Option (Rs (List D))) : List D → Option (Rs D) := fun ds => match f ds with
  | none => none
  | some (.ok es) => some (.ok (.list es))
  | some (.error e) => some (.error e)
theorem callFV_of {f : List D → Option (Rs (List D))} {Q : VK} (h : tE K W (mCallV n (asV f) ms) σ H Q) : tCallS (spF K n f) (WE W) (tA K W ms) σ H Q := by
  obtain ⟨c, F, ρ, ok, h⟩ := h
  refine ⟨c, F, ρ, ok, post_mono ?_ (post_bind h)⟩
  rintro ds H1 F1 _ ⟨ρ1, ok1, s1, h1⟩ vs rv
  split at h1
  · rename_i hl
    refine ⟨F1, ds, ok1.sub, rv, hl, ?_⟩
    unfold mRs asV at h1
    cases e : f ds with
    | none => rw [e] at h1; exact h1
    | some r =>
      rw [e] at h1
      cases r with
      | error e => exact fun cls y F' H' x r => h1 cls y H' F' (ok1.call x) x.ff r
      | ok es =>
        intro p xs F' H' x hp hf hl' rx
        have s2 : Same F' (upd F' p (.lst xs)) := Same.updN hf
        have x2 : Ext F1 H1 (upd F' p (.lst xs)) H' := ⟨x.ff.trans s2, fun b o q => by
            by_cases hb : b = p
            · subst hb; rw [upd_same] at q; cases q; exact hl'
            · rw [upd_ne hb] at q; exact x.fh b o q, fun b o q => by
            by_cases hb : b = p
            · subst hb; exact .inr hp
            · rw [upd_ne hb] at q; exact x.fe b o q, x.hh⟩
        exact h1 H' _ (ok1.call x2) x2.ff _ (.lst (.inl upd_same) (DpAll.mono s2 rx))
  · exact h1.elim
/-- a call that looks at a slot's own list; what is told is no list -/
def scalD : D → Bool
  | .none => true
  | .bool _ => true
  | .int _ => true
  | .str _ => true
  | _ => false
def mCallP (i n : Nat) (f : List D → Option (Rs D)) (ms : M (List D)) : M D := mBind (mOwn i) fun _ => mBind ms fun ds => mBind (mOwn i) fun bs => if ds.length + 1 = n then (match f (.list bs :: ds) with
  | some (.ok d) => if scalD d = true then mPure d else mStuck
  | _ => mStuck) else mStuck
theorem scal_dp {F F' : Hp} {v : V} {d : D} (hs : scalD d = true) (h : Dp K F v d) : Dp K F' v d := by
  cases h with
  | non => exact .non
  | bl b => exact .bl b
  | int i => exact .int i
  | str x => exact .str x
  | lst _ _ => cases hs
  | tup _ _ => cases hs
theorem callP_of {i : Nat} {f : List D → Option (Rs D)} {Q : VK} (h : tE K W (mCallP i n f ms) σ H Q) : tCallS (spV K n f) (WE W) (tCons (tVar i) (tA K W ms)) σ H Q := by
  obtain ⟨c, F, ρ, ok, h⟩ := h
  obtain ⟨p, vs, ds0, a1, a2, a3, a4, h⟩ := own_at ok h
  refine ⟨.ref p, a1, c, F, ρ, ok, post_mono ?_ (post_bind h)⟩
  rintro ds H1 F1 _ ⟨ρ1, ok1, s1, h1⟩ ws rw'
  obtain ⟨p', vs1, bs, b1, b2, b3, b4, h2⟩ := own_at ok1 h1
  have ep : p' = p := by rw [a1] at b1; cases b1; rfl
  subst ep
  split at h2
  · rename_i hl
    have s2 : Same F1 (upd F1 p' (.lst vs1)) := Same.updN b4
    refine ⟨upd F1 p' (.lst vs1), .list bs :: ds, fun b o q => ?_, .cons (.lst (.inl upd_same) (DpAll.mono s2 b3)) (DpAll.mono s2 rw'), hl, ?_⟩
    · by_cases hb : b = p'
      · subst hb; rw [upd_same] at q; cases q; exact b2
      · rw [upd_ne hb] at q; exact ok1.sub b o q
    · cases e : f (.list bs :: ds) with
      | none => rw [e] at h2; exact h2.elim
      | some r =>
        rw [e] at h2
        cases r with
        | error x => exact h2.elim
        | ok d =>
          dsimp only at h2 ⊢
          by_cases hs : scalD d = true
          · rw [if_pos hs] at h2
            intro v F' H' x rv
            exact h2 H' F1 (ok1.call ⟨Same.refl F1, fun b o q => x.fh b o (x.ff b o (s2 b o q)), fun b o q => .inl q, x.hh⟩) (Same.refl F1) v (scal_dp hs rv)
          · rw [if_neg hs] at h2; exact h2.elim
  · exact h2.elim
end
section
variable {X : Cx} {W : WX} {k n : Nat} {f : Addr} {fd : FuncData} {ps : List Str} {x : Str} {p pos : Pos} {e : Expr} {es : List Expr} {ms : M (List D)}
theorem dCallP {i : Nat} {g : List D → Option (Rs D)} (F : FnOk X.prog X.w X.K X.mg X.base (L2.CX X.prog X.w) k f fd ps (spV X.K n g)) (hr : Room k X.A) (hm : X.mg x = some (.ref f)) (hk : PySem.W.keepIn X.K (.ref f) = true) (hb : Binds X.K fd ps []) (tk : Takes X W)
    (h1 : PE X e (tVar i)) (ha : PA X es (tA X.K W ms)) (hg : Gl X x := by rfl) (hdb : (x == ("__debug__" : Str)) = false := by decide) (he : starEach (e :: es) X.env = (false, eval e X.env) :: starEach es X.env := by rfl) (hpl : (backTo pos (starEach es X.env)).any (·.1) = false := by rfl) :
    PE X (.Call (.Name x p) (e :: es) [] pos) (tE X.K W (mCallP i n g ms)) := PE.imp (pe_callS F hr hg hm hk hb (fun σ => passAt tk σ) (pa_cons h1 ha he) hdb he hpl) fun _ _ _ => callP_of
theorem dCallPG {i : Nat} {g : List D → Option (Rs D)} (hgd : X.A.guards = some []) (F : FnG X.prog X.w X.K X.mg X.base (L2.CX X.prog X.w) k f fd ps (spV X.K n g)) (hr : Room k X.A) (hm : X.mg x = some (.ref f)) (hk : PySem.W.keepIn X.K (.ref f) = true) (hb : Binds X.K fd ps []) (tk : Takes X W)
    (h1 : PE X e (tVar i)) (ha : PA X es (tA X.K W ms)) (hg : Gl X x := by rfl) (hdb : (x == ("__debug__" : Str)) = false := by decide) (he : starEach (e :: es) X.env = (false, eval e X.env) :: starEach es X.env := by rfl) (hpl : (backTo pos (starEach es X.env)).any (·.1) = false := by rfl) :
    PE X (.Call (.Name x p) (e :: es) [] pos) (tE X.K W (mCallP i n g ms)) := PE.imp (pe_callG F hgd hr hg hm hk hb (fun σ => passAt tk σ) (pa_cons h1 ha he) hdb he hpl) fun _ _ _ => callP_of
theorem dCallFV {g : List D → Option (Rs (List D))} (F : FnOk X.prog X.w X.K X.mg X.base (L2.CX X.prog X.w) k f fd ps (spF X.K n g)) (hr : Room k X.A) (hm : X.mg x = some (.ref f)) (hk : PySem.W.keepIn X.K (.ref f) = true) (hb : Binds X.K fd ps []) (tk : Takes X W)
    (ha : PA X (e :: es) (tA X.K W ms)) (hg : Gl X x := by rfl) (hdb : (x == ("__debug__" : Str)) = false := by decide) (he : starEach (e :: es) X.env = (false, eval e X.env) :: starEach es X.env := by rfl) (hpl : (backTo pos (starEach es X.env)).any (·.1) = false := by rfl) :
    PE X (.Call (.Name x p) (e :: es) [] pos) (tE X.K W (mCallV n (asV g) ms)) := PE.imp (pe_callS F hr hg hm hk hb (fun σ => passAt tk σ) ha hdb he hpl) fun _ _ _ => callFV_of
theorem dCallFVG {g : List D → Option (Rs (List D))} (hgd : X.A.guards = some []) (F : FnG X.prog X.w X.K X.mg X.base (L2.CX X.prog X.w) k f fd ps (spF X.K n g)) (hr : Room k X.A) (hm : X.mg x = some (.ref f)) (hk : PySem.W.keepIn X.K (.ref f) = true) (hb : Binds X.K fd ps []) (tk : Takes X W)
    (ha : PA X (e :: es) (tA X.K W ms)) (hg : Gl X x := by rfl) (hdb : (x == ("__debug__" : Str)) = false := by decide) (he : starEach (e :: es) X.env = (false, eval e X.env) :: starEach es X.env := by rfl) (hpl : (backTo pos (starEach es X.env)).any (·.1) = false := by rfl) :
    PE X (.Call (.Name x p) (e :: es) [] pos) (tE X.K W (mCallV n (asV g) ms)) := PE.imp (pe_callG F hgd hr hg hm hk hb (fun σ => passAt tk σ) ha hdb he hpl) fun _ _ _ => callFV_of
theorem dAsgF {i : Nat} {y : Str} {pos' spos : Pos} {g : List D → Option (Rs (List D))} (F : FnOk X.prog X.w X.K X.mg X.base (L2.CX X.prog X.w) k f fd ps (spF X.K n g)) (hr : Room k X.A) (hm : X.mg x = some (.ref f)) (hk : PySem.W.keepIn X.K (.ref f) = true) (hb : Binds X.K fd ps []) (tk : Takes X W) (hN : X.N.Nodup)
    (ha : PA X (e :: es) (tA X.K W ms)) (hg : Gl X x := by rfl) (hdb : (x == ("__debug__" : Str)) = false := by decide) (he : starEach (e :: es) X.env = (false, eval e X.env) :: starEach es X.env := by rfl) (hpl : (backTo pos (starEach es X.env)).any (·.1) = false := by rfl)
    (hi : X.N[i]? = some y := by rfl) (hx : Loc X.env.scope y := by first | exact Or.inl rfl | exact Or.inr rfl)
    (hs : swapsWith (.Call (.Name x p) (e :: es) [] pos) (some (.Name y pos')) spos.line X.env = pure false := by rfl)
    (hf : X.fn y = true ∨ X.env.scope.names.lookup y = some .local := by first | exact .inl rfl | exact .inr rfl) :
    PS X (.Assign [.Name y pos'] (.Call (.Name x p) (e :: es) [] pos) spos) (tS X.K W (mAsgF i n g ms)) := PS.imp (ps_set hN hi hx (pe_callS F hr hg hm hk hb (fun σ => passAt tk σ) ha hdb he hpl) hs hf) fun _ _ _ => asgF_of
theorem dAsgFG {i : Nat} {y : Str} {pos' spos : Pos} {g : List D → Option (Rs (List D))} (hgd : X.A.guards = some []) (F : FnG X.prog X.w X.K X.mg X.base (L2.CX X.prog X.w) k f fd ps (spF X.K n g)) (hr : Room k X.A) (hm : X.mg x = some (.ref f)) (hk : PySem.W.keepIn X.K (.ref f) = true) (hb : Binds X.K fd ps []) (tk : Takes X W) (hN : X.N.Nodup)
    (ha : PA X (e :: es) (tA X.K W ms)) (hg : Gl X x := by rfl) (hdb : (x == ("__debug__" : Str)) = false := by decide) (he : starEach (e :: es) X.env = (false, eval e X.env) :: starEach es X.env := by rfl) (hpl : (backTo pos (starEach es X.env)).any (·.1) = false := by rfl)
    (hi : X.N[i]? = some y := by rfl) (hx : Loc X.env.scope y := by first | exact Or.inl rfl | exact Or.inr rfl)
    (hs : swapsWith (.Call (.Name x p) (e :: es) [] pos) (some (.Name y pos')) spos.line X.env = pure false := by rfl)
    (hf : X.fn y = true ∨ X.env.scope.names.lookup y = some .local := by first | exact .inl rfl | exact .inr rfl) :
    PS X (.Assign [.Name y pos'] (.Call (.Name x p) (e :: es) [] pos) spos) (tS X.K W (mAsgF i n g ms)) := PS.imp (ps_set hN hi hx (pe_callG F hgd hr hg hm hk hb (fun σ => passAt tk σ) ha hdb he hpl) hs hf) fun _ _ _ => asgF_of
end
end Dd

namespace Dd
open PySem PySem.Spec L2 PyProof.Rows HT
/-! ### t[::-1] of a tuple -/
section
variable {prog : Program} {w : World} {A : Around} {E : Value → Shared → Prop} {s : Shared}
theorem applied_rev {sl : Addr} {vl vu vs : Value} {n : Nat} {Q : Int × Int × Nat → Shared → Prop} (hs : s.heap.IsSliceOf sl vl vu vs) (pl : IsPart vl none) (pu : IsPart vu none) (ps : IsPart vs (some (-1)))
    (h : Q ((n : Int) - 1, -1, n) s) : wpAny (model prog w) A (Builtin.Slice.sliceApplied (.ref sl) (pure (n : Int))) Q E s := by
  obtain ⟨os, hos, hcs, hds⟩ := id hs
  unfold Builtin.Slice.sliceApplied Builtin.Slice.sliceFields
  refine wpAny_bind (wpAny_bind (wpAny_field hos hds (x := vl) rfl (wpAny_bind (wpAny_field hos hds (x := vu) rfl (wpAny_bind (wpAny_field hos hds (x := vs) rfl (wpAny_pure ?_)))))))
  refine wpAny_bind (slicePart_ ps ?_)
  show wpAny _ _ (if ((-1 : Int) == 0) = true then _ else _) _ _ s
  rw [if_neg (by decide)]
  refine wpAny_bind (slicePart_ pl (wpAny_bind (slicePart_ pu (wpAny_bind (wpAny_pure ?_)))))
  show wpAny _ _ (match Builtin.Slice.sliceAdjust none none (-1) (n : Int) with | (lo, hi) => pure (lo, (-1 : Int), Builtin.Slice.slicePlaces lo hi (-1))) _ _ s
  have ea : Builtin.Slice.sliceAdjust none none (-1) (n : Int) = ((n : Int) - 1, -1) := rfl
  rw [ea]
  show wpAny _ _ (pure ((n : Int) - 1, (-1 : Int), Builtin.Slice.slicePlaces ((n : Int) - 1) (-1) (-1))) _ _ s
  have ep : Builtin.Slice.slicePlaces ((n : Int) - 1) (-1) (-1) = n := by
    unfold Builtin.Slice.slicePlaces
    rw [if_neg (by decide)]
    have e1 : (-(-1) : Int) = 1 := by decide
    rw [e1, Int.ediv_one]
    split <;> omega
  rw [ep]
  exact wpAny_pure h
theorem fm_congr {α β : Type} {f g : α → Option β} : ∀ {l : List α}, (∀ a, a ∈ l → f a = g a) → l.filterMap f = l.filterMap g
  | [], _ => rfl
  | a :: l, h => by
    rw [List.filterMap_cons, List.filterMap_cons, h a List.mem_cons_self, fm_congr fun b hb => h b (List.mem_cons_of_mem _ hb)]
theorem pick_rev (xs : Array Value) : ((List.range xs.size).filterMap fun (m : Nat) => xs[(((xs.size : Int) - 1) + (m : Int) * (-1)).toNat]?).toArray = xs.toList.reverse.toArray := by
  have h : ((List.range xs.size).filterMap fun (m : Nat) => xs[(((xs.size : Int) - 1) + (m : Int) * (-1)).toNat]?) = xs.toList.reverse := by
    have e : ∀ m, m ∈ List.range xs.size → xs[(((xs.size : Int) - 1) + (m : Int) * (-1)).toNat]? = xs.toList.reverse[m]? := fun m hm => by
      have hm := List.mem_range.mp hm
      rw [List.getElem?_reverse (by simpa using hm), Array.getElem?_toList, Array.length_toList]
      congr 1
      omega
    rw [fm_congr e]
    have : xs.size = xs.toList.reverse.length := by simp
    rw [this]
    generalize xs.toList.reverse = ys
    clear e this
    induction ys with
    | nil => rfl
    | cons y ys ih =>
      rw [List.length_cons, List.range_succ_eq_map, List.filterMap_cons]
      simp only [List.getElem?_cons_zero, List.filterMap_map]
      congr 1
  rw [h]
theorem item_rev {t sl : Addr} {items : Array Value} {vl vu vs : Value} {Q : Value → Shared → Prop} (ht : IsTup s.heap t items) (hs : s.heap.IsSliceOf sl vl vu vs) (pl : IsPart vl none) (pu : IsPart vu none) (ps : IsPart vs (some (-1)))
    (h : Q (.ref s.heap.objs.size) { s with heap := s.heap.push { cls := .type "tuple", data := .seq items.toList.reverse.toArray } })
    (hsz : items.size ≤ sizeLine) : wpAny (model prog w) A (getItem (.ref t) (.ref sl)) Q E s := by
  have htake : sizeOk (.seq items.toList.reverse.toArray) := by
    show items.toList.reverse.toArray.size ≤ sizeLine
    simpa using hsz
  obtain ⟨os, hos, hcs, hds⟩ := id hs
  have hTs : s.TypeIs (.ref sl) "slice" := ⟨os, hos, hcs⟩
  unfold getItem
  try with_reducible refine wpAny_holding ?_
  first | refine wpAny_bind (wpAny_pure ?_) | skip
  refine wpAny_bind (wpAny_sequenceKey ht.typeIs (by decide) ?_)
  refine wpAny_bind (wpAny_callSpecial?_slot (name := Str.ofString "__getitem__") ht.typeIs PyProof.Rows.slot_tuple_getitem
    (wpAny_call_entry PyProof.Rows.slot_tuple_getitem ht.typeIs entry_tuple_getitem ?_ (args_tuple_getitem _ _)))
  show wpAny _ _ (Builtin.Tuple.tupleItemsOf (.ref t) >>= _) _ _ s
  refine wpAny_bind (tupleItemsOf_ ht ?_)
  refine wpAny_bind (wpAny_typeOf hTs ?_)
  rw [if_pos (by decide)]
  refine wpAny_bind (applied_rev hs pl pu ps ?_)
  have hno : ¬ ((((items.size : Int) - 1) == 0 && (-1 : Int) == 1 && items.size == items.size) = true) := by
    intro q
    rw [Bool.and_eq_true, Bool.and_eq_true] at q
    exact absurd q.1.2 (by decide)
  show wpAny _ _ (if (((items.size : Int) - 1) == 0 && (-1 : Int) == 1 && items.size == items.size) = true then _ else _) _ _ s
  rw [if_neg hno, pick_rev]
  first
    | exact wpAny_bind (m := Builtin.Tuple.tupleExact _) (wpAny_newObj_type (wpAny_pure ⟨_, rfl, wpAny_pure h⟩) htake)
    | exact wpAny_bind (m := Builtin.Tuple.tupleExact _) (wpAny_newObj_type (wpAny_bind (wpAny_pure (wpAny_pure ⟨_, rfl, wpAny_pure h⟩))) htake)
    | exact wpAny_bind (wpAny_bind (m := Builtin.Tuple.tupleExact _) (wpAny_newObj_type (wpAny_pure (wpAny_pure ⟨_, rfl, wpAny_pure h⟩)) htake))
    | exact wpAny_bind (wpAny_bind (m := Builtin.Tuple.tupleExact _) (wpAny_newObj_type (wpAny_pure ⟨_, rfl, wpAny_pure h⟩) htake))
end
def tRevT (K : PySem.W.Frag) (te : TE) : TE := fun σ H Q => te σ H fun x H1 => ∃ a xs, x = .ref a ∧ SqT K H1 a xs ∧ ∀ p, H1 p = none → Q (.ref p) (upd H1 p (.tup xs.reverse))
section
variable {X : Cx} {W : WX} {a : Expr} {ma : M D} {pos p1 p2 p3 : Pos} {k : Nat}
theorem pe_revT {e : Expr} {te : TE} (he : PE X e te) : PE X (.Subscript e (.Slice none none (some (.UnaryOp .USub (.Constant (.int 1) k p1) p2)) p3) pos) (tRevT X.K te) := by
  refine ⟨fun pins s σ H Q I h => ?_⟩
  refine Subscript_ (thn (he.run pins s σ H _ I h) fun v s1 ⟨x, H1, I1, r1, q1⟩ => ?_)
  obtain ⟨a, xs, ex, hx, q⟩ := q1
  subst ex
  cases r1
  have hst : PO X (some (.UnaryOp .USub (.Constant (.int 1) k p1) p2)) (tPart (tUn (rU fun i => .int (-i)) (tC (.int 1)))) := po_some (pe_un un_neg pe_int)
  refine wpAny_Slice (thn (po_none.run pins s1 σ H1 (fun o H2 => o = none ∧ H2 = H1) I1 ⟨rfl, rfl⟩) fun vl s2 ⟨l, H2, I2, pl, el, e2⟩ => ?_)
  subst el e2
  refine thn (po_none.run pins s2 σ H2 (fun o H3 => o = none ∧ H3 = H2) I2 ⟨rfl, rfl⟩) fun vu s3 ⟨u, H3, I3, pu, eu, e3⟩ => ?_
  subst eu e3
  refine thn (hst.run pins s3 σ H3 (fun o H4 => o = some (-1) ∧ H4 = H3) I3 ⟨1, rfl, -1, rfl, rfl, rfl⟩) fun vs s4 ⟨o, H4, I4, ps, eo, e4⟩ => ?_
  subst eo e4
  have I5 : Inv X pins σ H4 { s4 with heap := s4.heap.push { cls := .type "slice", data := .fields #[vl, vu, vs] } } := I4.kept (t' := s4.toks) fun b ob q => Heap.get?_push_of_some _ q
  obtain ⟨its, r, ht, hz⟩ := I5.tuple hx
  have hlen := r.length
  show wpAny (model X.prog X.w) X.A (subscriptTail e (.Slice none none (some (.UnaryOp .USub (.Constant (.int 1) k p1) p2)) p3) (.ref a) (.ref s4.heap.objs.size)) (EP X pins σ Q) X.xe { s4 with heap := s4.heap.push { cls := .type "slice", data := .fields #[vl, vu, vs] } }
  refine tail_any (ops := [.ref a, .ref s4.heap.objs.size]) ht.typeIs (PyProof.Rows.slot_tuple_getitem.lookup) ?_ (by with_unfolding_all rfl)
  refine item_rev ht (Heap.IsSliceOf.new _ vl vu vs) pl pu ps ?_ (by rw [List.size_toArray]; omega)
  refine ⟨.ref _, _, I5.laid (t' := s4.toks) (o := .tup xs.reverse) (fun b ob q => Heap.get?_push_of_some _ q) (Nat.le_refl _) ?_, rfl, q _ (I5.hok.fresh (Nat.le_refl _))⟩
  exact ⟨by rw [List.length_reverse]; exact hz, _, r.reverse, ⟨_, Heap.get?_push_size _ rfl, rfl, 0, rfl⟩⟩
def revTD : D → Option D
  | .tuple ds => some (.tuple ds.reverse)
  | _ => none
def mRevT (m : M D) : M D := mBind m fun d => mLift (revTD d)
theorem dRevT (ha : PE X a (tP X.K W ma)) : PE X (.Subscript a (.Slice none none (some (.UnaryOp .USub (.Constant (.int 1) k p1) p2)) p3) pos) (tE X.K W (mRevT ma)) := PE.imp (pe_revT ha) (by
  rintro σ H Q ⟨c, F, ρ, ok, h⟩
  refine ⟨c, F, ρ, ok, post_mono ?_ (post_bind h)⟩
  rintro a H1 F1 _ ⟨ρ1, ok1, s1, h1⟩ x rx
  obtain ⟨d, e, h2⟩ := post_lift h1
  cases a with
  | tuple es =>
    cases e
    obtain ⟨p, vs, rfl, hp, dp⟩ := Pk.tup ok1.sub rx
    refine ⟨p, vs, rfl, hp, fun q hq => ?_⟩
    have hF : F1 q = none := ok1.sub.free hq
    have s : Same F1 (upd F1 q (.tup vs.reverse)) := Same.updN hF
    exact h2 _ _ (ok1.alloc hq) s _ (.tup (.inl (.inl upd_same)) (DpAll.mono s (DpAll.reverse dp)))
  | _ => cases e)
end
end Dd

namespace Dd
open PySem PySem.Spec L2 PyProof.Rows
variable {K : PySem.W.Frag}
/-! ### enumerate of a list or a tuple -/
theorem meets_enum1 {v : Value} {o : Obj} {H : Heap → Prop} (B : Begins v o H) :
    Meets (Builtin.«enumerate.__new__» ⟨[.type "enumerate", v], []⟩) (fun _ R s => H s.heap ∧
      R (.ok (.ret (.ref (s.heap.push o).objs.size))) { s with heap := (s.heap.push o).push { cls := .type "enumerate", data := .fields #[.none, .bool false, .ref s.heap.objs.size, rawInt 0, .none, .none] } }) :=
  .of_wp fun prog w A R s h => by
    obtain ⟨hp, g, d, tk, os⟩ := s; obtain ⟨h1, h⟩ := h
    have hsub := sub_enumerate
    have q1 : ∀ {A' : Around} {E : Value → Shared → Prop} {Q : Value → Shared → Prop}, Q (.ref hp.objs.size) ⟨hp.push o, g, d, tk, os⟩ → wpAny (model prog w) A' (pyIter v) Q E ⟨hp, g, d, tk, os⟩ :=
      fun q => B.iter prog w _ _ ⟨hp, g, d, tk, os⟩ _ h1 q
    wp_walk using q1
    refine wpAny_stack_any fun st => wpAny_pure ?_
    split
    · rename_i c _ _ _ _ _
      cases (c == Value.type "enumerate")
      · wp_walk using q1
        exact ⟨_, rfl, h⟩
      · wp_walk using q1
        exact ⟨_, rfl, h⟩
    · wp_walk using q1
      exact ⟨_, rfl, h⟩
theorem call_enum1 {prog : Program} {w : World} {A : Around} {E : Value → Shared → Prop} {s : Shared} {v : Value} {o : Obj} {H : Heap → Prop} {Q : Value → Shared → Prop} (B : Begins v o H) (h1 : H s.heap)
    (h : ∀ h', IsEnum h' (s.heap.objs.size + 1) s.heap.objs.size 0 .none → h'.get? s.heap.objs.size = some o → h'.objs.size = s.heap.objs.size + 2 →
      (∀ b o, s.heap.get? b = some o → h'.get? b = some o) → Q (.ref (s.heap.objs.size + 1)) { s with heap := h' }) :
    wpAny (model prog w) A (call (.type "enumerate") [v]) Q E s := by
  refine callType_new F.called_enumerate (by decide) (F.typeCall_enumerate_1 _) (F.newCall_enumerate_1 _) (fun obj => F.args_object_init_2 obj _) F.entry_enumerate_new
    (meets_enum1 B) ⟨h1, ?_⟩
  have hz : (s.heap.push o).objs.size = s.heap.objs.size + 1 := Heap.size_push ..
  show _ ∧ _
  rw [hz]
  have he : IsEnum ((s.heap.push o).push { cls := .type "enumerate", data := .fields #[.none, .bool false, .ref s.heap.objs.size, rawInt 0, .none, .none] }) (s.heap.objs.size + 1) s.heap.objs.size 0 .none := by
    have := Heap.get?_push_size (s.heap.push o) (o := { cls := .type "enumerate", data := .fields #[.none, .bool false, .ref s.heap.objs.size, rawInt 0, .none, .none] }) rfl
    rw [hz] at this; exact this
  refine ⟨⟨_, he, rfl⟩, h _ he (Heap.get?_push_of_some _ (Heap.get?_push_size _ B.free)) (by rw [Heap.size_push, hz]) fun b o x => Heap.get?_push_of_some _ (Heap.get?_push_of_some _ x)⟩
def IteB (K : PySem.W.Frag) (b : Bool) (a : Addr) (n : Nat) : It :=
  ⟨fun i H => ∃ (xs : List V) (x : V), SqB K b H a xs ∧ xs.length = n ∧ xs[i]? = some x, fun i H v H' => ∃ T x, v = .ref T ∧ H T = none ∧ H' = upd H T (.tup [.int (i : Nat), x]) ∧ ∀ xs, SqB K b H a xs → xs[i]? = some x, fun i H => ∃ xs : List V, SqB K b H a xs ∧ xs.length = n ∧ n ≤ i⟩
theorem turn_enumB {P : Program} {w : World} {elts : List Expr} {kk : Nat} {tpos : Pos} {b : Bool} {n : Nat} (a e it : Addr) (hea : e ≠ a) (hai : a ≠ it) :
    Turn P w K (.Tuple elts kk tpos) (IteB K b a n) [e, it] e (fun i h => (∃ old, IsEnum h e it ((i : Nat) : Int) old) ∧ ItB b h it a i ∧ e ≠ it ∧ i ≤ n) where
  mem := by simp
  obj := fun i h st c hc => by
    obtain ⟨⟨old, he⟩, h1, _⟩ := st
    have e' : c = e ∨ c = it := by simpa using hc
    rcases e' with z | z
    · rw [z]; exact ⟨_, he, fun v q => nomatch q⟩
    · rw [z]; exact h1.obj
  keep := fun i h h' st k => let ⟨⟨old, he⟩, hi, hne, hn⟩ := st; ⟨⟨old, k e (by simp) _ he⟩, hi.at fun o q => k it (by simp) o q, hne, hn⟩
  item := by
    intro X hP hw hK hc i pins s σ H E I hf st hg
    subst hP hw hK
    obtain ⟨⟨old, he⟩, hit, hne, hn⟩ := st
    obtain ⟨xs, x, hq, ln, hx⟩ := hg
    obtain ⟨its, rv, p⟩ := sqB_inv I hq
    obtain ⟨u, hu, ru⟩ := rv.get hx
    have hel : e < s.heap.objs.size := Heap.lt_size he
    have hil : it < s.heap.objs.size := by obtain ⟨_, q, _⟩ := hit.obj; exact Heap.lt_size q
    have hh := in1_handled (I.ok.hd hc)
    have lt1 : i < its.toArray.size := by
      have := (List.getElem?_eq_some_iff.mp hu).1
      simpa using this
    refine wpAny_pyNext_enum_itemD (drawsB hh b it a hai its.toArray) he ⟨hit, p⟩ lt1 hne (by simp [hne, hea]) fun x1 h' tk q1 ho hst' hT hsz hk => ?_
    have ex1 : x1 = u := by
      have : its.toArray[i]? = some u := by simpa using hu
      rw [this] at q1
      exact (Option.some.inj q1).symm
    subst ex1
    refine ⟨_, rfl, wpAny_letOwnedTupleGo_enum (s := { s with heap := h', toks := tk + 1 }) ho fun h'' he' sb => ?_⟩
    have hT2 : h''.get? s.heap.objs.size = some { cls := .type "tuple", data := .seq #[.int i tk, x1] } := (sb.2 _ (Nat.ne_of_gt hel)).trans hT
    have new : ObjOk X.prog X.w (upd H s.heap.objs.size (.tup [.int (i : Nat), x])) h'' s.heap.objs.size (.tup [.int (i : Nat), x]) :=
      ⟨by show 2 ≤ sizeLine; decide, [.int i tk, x1], .cons ⟨_, rfl⟩ (.cons ru .nil), ⟨_, hT2, rfl, _, rfl⟩⟩
    have I1 : Inv X pins σ (upd H s.heap.objs.size (.tup [.int (i : Nat), x])) { s with heap := h'', toks := tk + 1 } :=
      I.turnedNew (t' := tk + 1) (ch := [e, it]) (fun b ob hb q => (sb.2 b (fun z => hb (by simp [z]))).trans (hk b ob (fun z => hb (by simp [z])) (fun z => hb (by simp [z])) q)) hf (Nat.le_refl _) new
    refine ⟨.ref s.heap.objs.size, _, I1, rfl, ⟨_, x, rfl, I.hok.fresh (Nat.le_refl _), rfl, fun ys hy => by rw [sqB_inj I hy hq]; exact hx⟩, ⟨⟨x1, ?_⟩, hst'.1.at fun o q => (sb.2 it (Ne.symm hne)).trans q, hne, ?_⟩, fun b hb => ?_⟩
    · have e1 : ((i + 1 : Nat) : Int) = (i : Int) + 1 := by omega
      rw [e1]; exact he'
    · have := (List.getElem?_eq_some_iff.mp hx).1; omega
    · have hb' : b < s.heap.objs.size := by
        have e' : b = e ∨ b = it := by simpa using hb
        rcases e' with z | z
        · rw [z]; exact hel
        · rw [z]; exact hil
      rw [upd_ne (Nat.ne_of_lt hb')]
      exact (hf b hb).1
  done := by
    intro X hP hw hK hc i pins s σ H E I hf st hg
    subst hP hw hK
    obtain ⟨⟨old, he⟩, hit, hne, hn⟩ := st
    obtain ⟨xs, hq, ln, hx⟩ := hg
    obtain ⟨its, rv, p⟩ := sqB_inv I hq
    obtain ⟨f0, f1, f2, f3, f4, f5⟩ := hf it (by simp)
    have hl := rv.length
    have hh := in1_handled (I.ok.hd hc)
    have hin : i = its.toArray.size := by simp; omega
    exact wpAny_pyNext_enum_endD (drawsB hh b it a hai its.toArray) he ⟨by rw [← hin]; exact hit, p⟩ fun h' eb => ⟨rfl, I.turned (t' := s.toks) (fun b o hb q => eb b o hb q) f0 f1 f3 f4 f5⟩
  self := fun A i s Q E st h => let ⟨⟨_, he⟩, _⟩ := st; wpAny_pyIter_enum he h
def iEnumB (K : PySem.W.Frag) (ta : TA) : TI := fun σ H R => ta σ H fun vs H1 => ∃ b a xs, vs = [.ref a] ∧ SqB K b H1 a xs ∧ R (IteB K b a xs.length) H1
theorem pi_enumB {X : Cx} {e : Expr} {ta : TA} {p pos tpos : Pos} {elts : List Expr} {kk : Nat} (hg : Gl X "enumerate") (hm : X.mg "enumerate" = none) (ha : PA X [e] ta) (hs : starEach [e] X.env = [(false, eval e X.env)] := by rfl) :
    PI X (.Tuple elts kk tpos) (.Call (.Name "enumerate" p) [e] [] pos) (iEnumB X.K ta) := by
  refine ⟨fun pins s σ H R I h => ?_⟩
  refine Call_ (ld_blt I hg hm boot_enumerate (PyProof.Rows.callWith_type1 (thn (ha.run pos pins s σ H _ I h) fun us s1 ⟨vs, H1, I1, r1, q1⟩ => ?_) hs rfl))
  obtain ⟨b, a, xs, ex, hq, q⟩ := q1
  subst ex
  cases r1 with
  | cons r rr =>
    cases rr
    cases r
    obtain ⟨its, rv, p'⟩ := sqB_inv I1 hq
    refine call_enum1 (beginsB b a its.toArray) p' fun h' he hit hsz hk => wpAny_pyIter_enum he ?_
    have I2 : Inv X pins σ H1 { s1 with heap := h' } := I1.kept (t' := s1.toks) hk
    have hal := p'.lt
    refine ⟨s1.heap.objs.size + 1, [s1.heap.objs.size + 1, s1.heap.objs.size], _, _, H1, rfl, I2, turn_enumB a (s1.heap.objs.size + 1) s1.heap.objs.size (by intro z; rw [← z] at hal; exact absurd hal (Nat.not_lt_of_le (Nat.le_succ _))) (Nat.ne_of_lt hal), ⟨⟨.none, he⟩, itB_of hit, Nat.succ_ne_self _, Nat.zero_le _⟩, fun b hb => ?_, q⟩
    have e' : b = s1.heap.objs.size + 1 ∨ b = s1.heap.objs.size := by simpa using hb
    have hle : s1.heap.objs.size ≤ b := by
      rcases e' with z | z
      · rw [z]; exact Nat.le_add_right _ _
      · rw [z]; exact Nat.le_refl _
    exact I1.fpOk hle (I1.hok.fresh hle)
theorem iteB_D {F : Hp} {b : Bool} {a : Addr} {xs : List V} {ds : List D} (h : SqB K b F a xs) (hd : DpAll K F xs ds) : ItD K F (IteB K b a xs.length) (enumL ds) where
  go := fun H i s hi => by
    rw [enumL_length] at hi
    obtain ⟨x, q⟩ : ∃ x, xs[i]? = some x := ⟨xs[i]'(by rw [DpAll.length hd]; exact hi), by simp⟩
    exact ⟨xs, x, sqB_mono s h, rfl, q⟩
  stop := fun H i s hi => ⟨xs, sqB_mono s h, rfl, by rw [enumL_length] at hi; rw [DpAll.length hd]; exact hi⟩
  yld := fun H i x H' d s q y => by
    obtain ⟨T, z, e1, e2, e3, y⟩ := y
    obtain ⟨yd, q1, e4⟩ := enumL_get q
    obtain ⟨v, q2, q3⟩ := DpAll.getd hd q1
    have q4 := y xs (sqB_mono s h)
    rw [q4] at q2
    cases q2
    exact .inr ⟨T, _, _, e4, e1, e2, e3, .cons (.int _) (.one q3)⟩
def enumBD : List D → Option (List D)
  | [.list ds] => some (enumL ds)
  | [.tuple ds] => some (enumL ds)
  | _ => none
def mEnumB (ms : M (List D)) : M (List D) := mBind ms fun ds => mLift (enumBD ds)
variable {X : Cx} {W : WX} {e : Expr} {elts : List Expr} {kk : Nat} {p pos tpos : Pos} {ms : M (List D)}
theorem diEnumB (hm : X.mg "enumerate" = none) (ha : PA X [e] (tA X.K W ms)) (hg : Gl X "enumerate" := by rfl) (hs : starEach [e] X.env = [(false, eval e X.env)] := by rfl) : PI X (.Tuple elts kk tpos) (.Call (.Name "enumerate" p) [e] [] pos) (tI X.K W (mEnumB ms)) := PI.imp (pi_enumB hg hm ha hs) (by
  rintro σ H R ⟨c, F, ρ, ok, h⟩
  refine ⟨c, F, ρ, ok, post_mono ?_ (post_bind h)⟩
  rintro ds H1 F1 _ ⟨ρ1, ok1, s1, h1⟩ vs rv
  obtain ⟨out, e, h2⟩ := post_lift h1
  have hb : ∃ d b es, ds = [d] ∧ sqOf d = some (b, es) ∧ out = enumL es := by
    unfold enumBD at e
    split at e
    · cases e; exact ⟨_, _, _, rfl, rfl, rfl⟩
    · cases e; exact ⟨_, _, _, rfl, rfl, rfl⟩
    · cases e
  obtain ⟨d, b, es, e1, e2, e3⟩ := hb
  subst e1 e3
  cases rv with
  | cons r t =>
    cases t
    obtain ⟨a, xs, rfl, q1, q2⟩ := sqOf_dp r e2
    exact ⟨b, a, xs, rfl, sqB_mono ok1.sub q1, h2 H1 F1 ok1 (Same.refl F1) _ (iteB_D q1 q2)⟩)
end Dd

namespace Pf
open PySem PySem.Spec L2 Dd
def topS (i : Nat) : Stmt := PySem.Challenge.pw_wirelooker_k51_calls_read.main.body.getD i (.Pass ⟨0, 0, 0, 0⟩)
def m_item_of_parts : M Fl :=
  (mRet (mTup (mCons (mVar 1) (mCons (mVar 2) (mCons (mBin ixD (mBinL ixD 0 (mBinL ixD 3 (mPure (.int 0)))) (mPure (.int 2))) (mCons (mBin ixD (mBinL ixD 0 (mBinL ixD 3 (mUn negD (mPure (.int 1))))) (mPure (.int 3))) (mCons (mCall1 tupleD (mPeek 3)) (mPure []))))))))
def fn_item_of_parts : List D → Option (Rs D) := runV m_item_of_parts 4
abbrev s_item_of_parts : Stmt := topS 1
abbrev N_item_of_parts : List Str := ["items", "kind", "what", "parts"]
theorem sc_item_of_parts : FnScope N_item_of_parts ["items", "kind", "what", "parts"] (defScope s_item_of_parts) := ⟨rfl, rfl, rfl, by decide +kernel, rfl, by decide +kernel, by decide +kernel⟩
def C__call_of_0 : M (List D) :=
  (mComp [8] (mItems (mVar 1)) (mStore 8) (mPure true) (mBin ixD (mBinL ixD 0 (mPeek 8)) (mPure (.int 0))))
def C__call_of_1 : M (List D) :=
  (mComp [8] (mItems (mVar 1)) (mStore 8) (mBol (mBin (inD false) (mBin ixD (mBinL ixD 0 (mPeek 8)) (mPure (.int 0))) (mTup (mCons (mPure (.str "word")) (mCons (mPure (.str "mute")) (mPure [])))))) (mBinL ixD 0 (mPeek 8)))
def C__call_of_2 : M (List D) :=
  (mComp [9] (mItems (mVar 3)) (mStore 9) (mPure true) (mBinL ixD 9 (mPure (.int 1))))
def m__call_of : M Fl :=
  (mSeq (mAsgN C__call_of_0 2)
  (mSeq (mIf (mBol (mBin (inD false) (mPure (.str "torn")) (mPeek 2))) (mRet (mCallV 4 fn_item_of_parts (mCons (mVar 0) (mCons (mPure (.str "torn")) (mCons (mPure (.str "bits")) (mCons (mVar 1) (mPure []))))))) (mPure .nx))
  (mSeq (mAsgN C__call_of_1 3)
  (mSeq (mIf (mNotT (mTru (mPeek 3))) (mRet (mCallV 4 fn_item_of_parts (mCons (mVar 0) (mCons (mPure (.str "empty")) (mCons (mPure (.str "")) (mCons (mVar 1) (mPure []))))))) (mPure .nx))
  (mSeq (mAsg (mVal C__call_of_2) (gStarD 2 1 (gCons2 (mStore 4) (gCons2 (mStore 5) gsNil))))
  (mSeq (mAsg (mIf (mBol (mBin eqD (mBinL andD 4 (mPure (.int 1))) (mPure (.int 1)))) (mPure (.str "read")) (mPure (.str "write"))) (mStore 6))
  (mSeq (mAsg (mTup (mCons (mBinL shrD 4 (mPure (.int 1))) (mCons (mVar 6) (mCons (mCall1 tupleD (mPeek 5)) (mCons (mBin eqD (mBin ixD (mBinL ixD 3 (mPure (.int 0))) (mPure (.int 0))) (mPure (.str "word"))) (mPure [])))))) (mStore 7))
  (mRet (mCallV 4 fn_item_of_parts (mCons (mVar 0) (mCons (mPure (.str "call")) (mCons (mVar 7) (mCons (mVar 1) (mPure []))))))))))))))
def fn__call_of : List D → Option (Rs D) := runV m__call_of 10
abbrev s__call_of : Stmt := topS 4
abbrev N__call_of : List Str := ["items", "parts", "kinds", "said", "first", "numbers", "way", "what", "part", "item"]
theorem sc__call_of : FnScope N__call_of ["items", "parts"] (defScope s__call_of) := ⟨rfl, rfl, rfl, by decide +kernel, rfl, by decide +kernel, by decide +kernel⟩
def L_calls_in_0 : M Fl :=
  (mSeq (mIf (mAndT (mBol (mBin eqD (mBinL ixD 4 (mPure (.int 0))) (mPure (.str "start")))) ((mTru (mPeek 2)))) (mSeq (mDrop (mMut 1 appD (mCons (mCallV 2 fn__call_of (mCons (mVar 0) (mCons (mVar 2) (mPure [])))) (mPure []))))
  (mAsgN (mLstN (mPure [])) 2)) (mPure .nx))
  (mSeq (mIf (mOrT (mBol (mBin eqD (mBinL ixD 4 (mPure (.int 0))) (mPure (.str "start")))) ((mTru (mPeek 2)))) (mDrop (mMut 2 appD (mCons (mVar 3) (mPure [])))) (mPure .nx))
  (mIf (mAndT (mBol (mBin eqD (mBinL ixD 4 (mPure (.int 0))) (mPure (.str "stop")))) ((mTru (mPeek 2)))) (mSeq (mDrop (mMut 1 appD (mCons (mCallV 2 fn__call_of (mCons (mVar 0) (mCons (mVar 2) (mPure [])))) (mPure []))))
  (mAsgN (mLstN (mPure [])) 2)) (mPure .nx))))
def R_calls_in_0 : M Fl :=
  mFor (mEnumB (mCons (mVar 0) (mPure []))) (gTupD 2 (gCons2 (mStore 3) (gCons2 (mStore 4) gsNil))) L_calls_in_0
def m_calls_in : M Fl :=
  (mSeq (mAsgN (mLstN (mPure [])) 1)
  (mSeq (mAsgN (mLstN (mPure [])) 2)
  (mSeq (R_calls_in_0)
  (mSeq (mIf (mTru (mPeek 2)) (mDrop (mMut 1 appD (mCons (mCallV 4 fn_item_of_parts (mCons (mVar 0) (mCons (mPure (.str "torn")) (mCons (mPure (.str "end")) (mCons (mVar 2) (mPure [])))))) (mPure [])))) (mPure .nx))
  (mRet (mCall1 tupleD (mPeek 1)))))))
def fn_calls_in : List D → Option (Rs D) := runV m_calls_in 5
abbrev s_calls_in : Stmt := topS 3
abbrev N_calls_in : List Str := ["items", "calls", "parts", "at", "item"]
theorem sc_calls_in : FnScope N_calls_in ["items"] (defScope s_calls_in) := ⟨rfl, rfl, rfl, by decide +kernel, rfl, by decide +kernel, by decide +kernel⟩
def m__law_box : M Fl :=
  (mSeq (mAsg (mBin addD (mBin mulD (mPure (.int 5717)) (mPeek 1)) (mPure (.int 23))) (mStore 2))
  (mSeq (mIf (mBol (mBinL ltD 1 (mScrLen 0))) (mAsg (mScrIx 0 (mVar 1)) (mStore 2)) (mIf (mBol (mBin gtD (mScrLen 0) (mPure (.int 0)))) (mAsg (mBinL addD 2 (mBin mulD (mBin modD (mCall1 intD (mScrIx 0 (mBin modD (mCall1 intD (mPeek 1)) (mScrLen 0)))) (mPure (.int 2147483629))) (mPure (.int 69623)))) (mStore 2)) (mPure .nx)))
  (mSeq (mAsg (mBin addD (mBin modD (mBin addD (mBin mulD (mBin modD (mCall1 intD (mPeek 2)) (mPure (.int 2147483629))) (mPure (.int 48271))) (mBin mulD (mPure (.int 40692)) (mPeek 1))) (mPure (.int 2147483629))) (mPure (.int 1))) (mStore 3))
  (mRetF (mCons (mBin ixD (mLst (mCons (mPure (.int 0)) (mCons (mVar 2) (mPure [])))) (mCall1 intD (mBinL geD 2 (mBin powD (mPure (.int 10)) (mPure (.int 18)))))) (mCons (mVar 3) (mCons (mPure (.int 0)) (mPure []))))))))
def fn__law_box : List Int → List D → Option (Rs (List D)) := runS m__law_box 4
abbrev s__law_box : Stmt := topS 6
abbrev N__law_box : List Str := ["_law_script", "_law_k", "_law_cell", "_law_seed"]
theorem sc__law_box : FnScope N__law_box ["_law_script", "_law_k"] (defScope s__law_box) := ⟨rfl, rfl, rfl, by decide +kernel, rfl, by decide +kernel, by decide +kernel⟩
def m__law_take : M Fl :=
  (mSeq (mIf (mBol (mBin gtD (mBinL ixD 0 (mPure (.int 0))) (mPure (.int 0)))) (mSeq (mAsg (mBin modD (mCall1 intD (mBinL ixD 0 (mPure (.int 0)))) (mPeek 1)) (mStore 2))
  (mSeq (mAsg (mBin divD (mBinL ixD 0 (mPure (.int 0))) (mPeek 1)) (gSet 0 (mPure (.int 0))))
  (mRet (mVar 2)))) (mPure .nx))
  (mSeq (mAsg (mBin addD (mBinL ixD 0 (mPure (.int 2))) (mPure (.int 1))) (gSet 0 (mPure (.int 2))))
  (mSeq (mAsg (mBin modD (mCall1 intD (mBin mulD (mBin addD (mBinL ixD 0 (mPure (.int 1))) (mBin mulD (mPure (.int 104729)) (mBinL ixD 0 (mPure (.int 2))))) (mPure (.int 69623)))) (mPure (.int 2147483647))) (mStore 3))
  (mSeq (mAsg (mBin addD (mBin modD (mBin addD (mBinL mulD 3 (mPure (.int 48271))) (mPure (.int 30103))) (mPure (.int 2147483629))) (mPure (.int 1))) (gSet 0 (mPure (.int 1))))
  (mRet (mBin modD (mBin divD (mBin addD (mBinL mulD 3 (mPure (.int 2147483647))) (mBinL ixD 0 (mPure (.int 1)))) (mPure (.int 8191))) (mPeek 1)))))))
def fn__law_take : List D → List D → Option (Rs D × List D) := runB m__law_take 4
abbrev s__law_take : Stmt := topS 7
abbrev N__law_take : List Str := ["_law_box_here", "_law_many", "_law_digit", "_law_one"]
theorem sc__law_take : FnScope N__law_take ["_law_box_here", "_law_many"] (defScope s__law_take) := ⟨rfl, rfl, rfl, by decide +kernel, rfl, by decide +kernel, by decide +kernel⟩
def C__law_alike_0 (rec : List D → Option (Rs D)) : M (List D) :=
  (mComp [3, 4] (mZip (mCons (mVar 0) (mCons (mVar 1) (mPure [])))) (gTupD 2 (gNamesD [3, 4])) (mPure true) (mCallV 2 rec (mCons (mVar 3) (mCons (mVar 4) (mPure [])))))
def C__law_alike_1 (rec : List D → Option (Rs D)) : M (List D) :=
  (mComp [2] (mItems (mVar 1)) (mStore 2) (mPure true) (mCallV 2 rec (mCons (mBinL ixD 0 (mPeek 2)) (mCons (mBinL ixD 1 (mPeek 2)) (mPure [])))))
def m__law_alike (rec : List D → Option (Rs D)) : M Fl :=
  (mSeq (mIf (mTru (mIsiA ["tuple", "list"] (mPeek 1))) (mSeq (mIf (mOrT (mBol (mBin neD (mIsi "tuple" (mPeek 0)) (mIsi "tuple" (mPeek 1)))) ((mBol (mBin neD (mIsi "list" (mPeek 0)) (mIsi "list" (mPeek 1)))))) (mRet (mPure (.bool false))) (mPure .nx))
  (mRet (mAnd (mBin eqD (mCall1 lenD (mPeek 0)) (mCall1 lenD (mPeek 1))) (mCall1 allD (mVal (C__law_alike_0 rec)))))) (mPure .nx))
  (mSeq (mIf (mTru (mIsi "dict" (mPeek 1))) (mSeq (mIf (mOrT (mNotT (mTru (mIsi "dict" (mPeek 0)))) ((mBol (mBin neD (mVal (mCallN1 sortD (mVal (mCallN1 listD (mPeek 0))))) (mVal (mCallN1 sortD (mVal (mCallN1 listD (mPeek 1))))))))) (mRet (mPure (.bool false))) (mPure .nx))
  (mRet (mCall1 allD (mVal (C__law_alike_1 rec))))) (mPure .nx))
  (mSeq (mIf (mOrT (mBol (mBin neD (mIsi "bool" (mPeek 0)) (mIsi "bool" (mPeek 1)))) ((mBol (mBin neD (mIsi "str" (mPeek 0)) (mIsi "str" (mPeek 1)))))) (mRet (mPure (.bool false))) (mPure .nx))
  (mRet (mAnd (mNot (mIsiA ["tuple", "list", "dict"] (mPeek 0))) (mBinL eqD 0 (mPeek 1)))))))
def fn__law_alike : Nat → List D → Option (Rs D)
  | 0, _ => none
  | n + 1, ds => runV (m__law_alike (fn__law_alike n)) 5 ds
abbrev s__law_alike : Stmt := topS 8
abbrev N__law_alike : List Str := ["_law_found", "_law_due", "_law_key", "_law_one", "_law_other"]
theorem sc__law_alike : FnScope N__law_alike ["_law_found", "_law_due"] (defScope s__law_alike) := ⟨rfl, rfl, rfl, by decide +kernel, rfl, by decide +kernel, by decide +kernel⟩
def C__law_twowire_0 : M (List D) :=
  (mComp [13] (mRng1 (mCons (mVar 11) (mPure []))) (mStore 13) (mPure true) (mTup (mCons (mPure (.str "d")) (mCons (mBinL addD 3 (mBin mulD (mBin mulD (mPure (.int 2)) (mPeek 7)) (mPeek 13))) (mPure [])))))
def C__law_twowire_1 : M (List D) :=
  (mComp [13] (mRng1 (mCons (mVar 10) (mPure []))) (mStore 13) (mPure true) (mTup (mCons (mPure (.str "d")) (mCons (mBinL addD 3 (mBin mulD (mBin mulD (mPure (.int 2)) (mPeek 7)) (mPeek 13))) (mPure [])))))
def L__law_twowire_0 : M Fl :=
  (mSeq (mAsg (mCallB 0 2 fn__law_take (mCons (mPure (.int 10)) (mPure []))) (mStore 6))
  (mSeq (mAsg (mTup (mCons (mBin addD (mPure (.int 2)) (mCallB 0 2 fn__law_take (mCons (mPure (.int 3)) (mPure [])))) (mCons (mPure (.str "start")) (mCons (mPure (.str "")) (mCons (mPure (.int 1)) (mPure [])))))) (gTupD 4 (gCons2 (mStore 7) (gCons2 (mStore 8) (gCons2 (mStore 9) (gCons2 (mStore 10) gsNil))))))
  (mSeq (mIf (mAndT (mTru (mPeek 4)) ((mBol (mBinL ltD 6 (mPure (.int 6)))))) (mPar3 8 9 10 (mBin ixD (mLst (mCons (mPure (.str "word")) (mCons (mPure (.str "word")) (mCons (mPure (.str "mute")) (mPure []))))) (mCallB 0 2 fn__law_take (mCons (mPure (.int 3)) (mPure [])))) (mCallB 0 2 fn__law_take (mCons (mPure (.int 256)) (mPure []))) (mPure (.int 9))) (mIf (mAndT (mTru (mPeek 4)) ((mBol (mBinL ltD 6 (mPure (.int 8)))))) (mAsg (mTup (mCons (mPure (.str "stop")) (mCons (mPure (.bool false)) (mPure [])))) (gTupD 2 (gCons2 (mStore 8) (gCons2 (mStore 4) gsNil)))) (mAsg (mPure (.bool true)) (mStore 4))))
  (mSeq (mIf (mAndT (mBol (mBinL neD 2 (mLst (mPure [])))) (mAndT (mBol (mBin neD (mBin ixD (mBinL ixD 2 (mUn negD (mPure (.int 1)))) (mPure (.int 0))) (mPure (.str "stop")))) (mAndT (mBol (mBinL eqD 10 (mPure (.int 1)))) ((mBol (mBin eqD (mCallB 0 2 fn__law_take (mCons (mPure (.int 4)) (mPure []))) (mPure (.int 0)))))))) (mSeq (mAsg (mBin addD (mPure (.int 2)) (mCallB 0 2 fn__law_take (mCons (mPure (.int 7)) (mPure [])))) (mStore 11))
  (mSeq (mAsg (mCall1 tupleD (mVal C__law_twowire_0)) (mStore 12))
  (mSeq (mDrop (mMut 2 appD (mCons (mTup (mCons (mPure (.str "torn")) (mCons (mPure (.str "bits")) (mCons (mVar 3) (mCons (mBin addD (mBin ixD (mBinL ixD 12 (mBinL subD 11 (mPure (.int 1)))) (mPure (.int 1))) (mPure (.int 1))) (mCons (mVar 12) (mPure []))))))) (mPure []))))
  (mAsg (mBinL addD 3 (mBin mulD (mBin mulD (mPure (.int 2)) (mPeek 7)) (mPeek 11))) (mStore 3))))) (mPure .nx))
  (mSeq (mAsg (mCall1 tupleD (mVal C__law_twowire_1)) (mStore 12))
  (mSeq (mDrop (mMut 2 appD (mCons (mTup (mCons (mVar 8) (mCons (mVar 9) (mCons (mVar 3) (mCons (mBin addD (mBin ixD (mBinL ixD 12 (mBinL subD 10 (mPure (.int 1)))) (mPure (.int 1))) (mPure (.int 1))) (mCons (mVar 12) (mPure []))))))) (mPure []))))
  (mAsg (mBinL addD 3 (mBin mulD (mBin mulD (mPure (.int 2)) (mPeek 7)) (mPeek 10))) (mStore 3))))))))
def R__law_twowire_0 : M Fl :=
  mFor (mRng1 (mCons (mCallB 0 2 fn__law_take (mCons (mBinL addD 1 (mPure (.int 1))) (mPure []))) (mPure []))) (mStore 5) L__law_twowire_0
def C__law_twowire_2 : M (List D) :=
  (mComp [13] (mRng1 (mCons (mVar 11) (mPure []))) (mStore 13) (mPure true) (mTup (mCons (mPure (.str "d")) (mCons (mBinL addD 3 (mBin mulD (mPure (.int 2)) (mPeek 13))) (mPure [])))))
def m__law_twowire : M Fl :=
  (mSeq (mParL 2 3 4 (mBin addD (mPure (.int 1)) (mCallB 0 2 fn__law_take (mCons (mPure (.int 9)) (mPure [])))) (mPure (.bool false)))
  (mSeq (R__law_twowire_0)
  (mSeq (mIf (mAndT (mTru (mPeek 4)) ((mBol (mBin eqD (mCallB 0 2 fn__law_take (mCons (mPure (.int 3)) (mPure []))) (mPure (.int 0)))))) (mSeq (mAsg (mBin addD (mPure (.int 1)) (mCallB 0 2 fn__law_take (mCons (mPure (.int 8)) (mPure [])))) (mStore 11))
  (mSeq (mAsg (mCall1 tupleD (mVal C__law_twowire_2)) (mStore 12))
  (mDrop (mMut 2 appD (mCons (mTup (mCons (mPure (.str "torn")) (mCons (mPure (.str "end")) (mCons (mVar 3) (mCons (mBin addD (mBin ixD (mBinL ixD 12 (mBinL subD 11 (mPure (.int 1)))) (mPure (.int 1))) (mPure (.int 1))) (mCons (mVar 12) (mPure []))))))) (mPure [])))))) (mPure .nx))
  (mRet (mVar 2)))))
def fn__law_twowire : List D → List D → Option (Rs D × List D) := runB m__law_twowire 14
abbrev s__law_twowire : Stmt := topS 9
abbrev N__law_twowire : List Str := ["_law_box_here", "_law_bound", "_law_found", "_law_at", "_law_open_one", "_law_turn", "_law_form", "_law_step", "_law_kind", "_law_what", "_law_many", "_law_bits", "_law_places", "_law_k"]
theorem sc__law_twowire : FnScope N__law_twowire ["_law_box_here", "_law_bound"] (defScope s__law_twowire) := ⟨rfl, rfl, rfl, by decide +kernel, rfl, by decide +kernel, by decide +kernel⟩
def C__law_calls_0 : M (List D) :=
  (mComp [11, 12] (mEnum (mCons (mVar 0) (mPure []))) (gTupD 2 (gNamesD [11, 12])) (mBol (mBin eqD (mBinL ixD 12 (mPure (.int 0))) (mPure (.str "start")))) (mVar 11))
def C__law_calls_1 : M (List D) :=
  (mComp [11] (mRng2 (mCons (mBinL addD 3 (mPure (.int 1))) (mCons (mCall1 lenD (mPeek 0)) (mPure [])))) (mStore 11) (mBol (mBin (inD false) (mBin ixD (mBinL ixD 0 (mPeek 11)) (mPure (.int 0))) (mTup (mCons (mPure (.str "start")) (mCons (mPure (.str "stop")) (mPure [])))))) (mVar 11))
def C__law_calls_2 : M (List D) :=
  (mComp [12] (mItems (mVar 6)) (mStore 12) (mBol (mBin (inD false) (mBinL ixD 12 (mPure (.int 0))) (mTup (mCons (mPure (.str "word")) (mCons (mPure (.str "mute")) (mPure [])))))) (mVar 12))
def C__law_calls_3 : M (List D) :=
  (mComp [12] (mItems (mVar 6)) (mStore 12) (mBol (mBin eqD (mBinL ixD 12 (mPure (.int 0))) (mPure (.str "torn")))) (mVar 12))
def C__law_calls_4 : M (List D) :=
  (mComp [12] (mItems (mSlL 7 (mPart (mPure (.int 1))) mNoPart)) (mStore 12) (mPure true) (mBinL ixD 12 (mPure (.int 1))))
def L__law_calls_0 : M Fl :=
  (mSeq (mAsgN C__law_calls_1 4)
  (mSeq (mAsg (mBin ixD (mBinL addD 4 (mLst (mCons (mCall1 lenD (mPeek 0)) (mPure [])))) (mPure (.int 0))) (mStore 5))
  (mSeq (mIf (mAndT (mBol (mBinL neD 4 (mLst (mPure [])))) ((mBol (mBin eqD (mBin ixD (mBinL ixD 0 (mPeek 5)) (mPure (.int 0))) (mPure (.str "stop")))))) (mAsg (mBinL addD 5 (mPure (.int 1))) (mStore 5)) (mPure .nx))
  (mSeq (mAsg (mSlL 0 (mPart (mVar 3)) (mPart (mVar 5))) (mStore 6))
  (mSeq (mAsgN C__law_calls_2 7)
  (mSeq (mAsg (mTup (mCons (mPure (.str "torn")) (mCons (mPure (.str "end")) (mPure [])))) (mStore 8))
  (mSeq (mIf (mAndT (mBol (mBinL neD 4 (mLst (mPure [])))) ((mBol (mBin neD (mVal C__law_calls_3) (mLst (mPure [])))))) (mAsg (mTup (mCons (mPure (.str "torn")) (mCons (mPure (.str "bits")) (mPure [])))) (mStore 8)) (mIf (mAndT (mBol (mBinL neD 4 (mLst (mPure [])))) ((mBol (mBinL eqD 7 (mLst (mPure [])))))) (mAsg (mTup (mCons (mPure (.str "empty")) (mCons (mPure (.str "")) (mPure [])))) (mStore 8)) (mIf (mBol (mBinL neD 4 (mLst (mPure [])))) (mSeq (mAsg (mBin ixD (mBinL ixD 7 (mPure (.int 0))) (mPure (.int 1))) (mStore 9))
  (mSeq (mAsg (mBin ixD (mLst (mCons (mPure (.str "write")) (mCons (mPure (.str "read")) (mPure [])))) (mBin modD (mCall1 intD (mPeek 9)) (mPure (.int 2)))) (mStore 10))
  (mAsg (mTup (mCons (mPure (.str "call")) (mCons (mTup (mCons (mBinL divD 9 (mPure (.int 2))) (mCons (mVar 10) (mCons (mCall1 tupleD (mVal C__law_calls_4)) (mCons (mBin eqD (mBin ixD (mBinL ixD 7 (mPure (.int 0))) (mPure (.int 0))) (mPure (.str "word"))) (mPure [])))))) (mPure [])))) (mStore 8)))) (mPure .nx))))
  (mDrop (mMut 1 appD (mCons (mBinL addD 8 (mTup (mCons (mBin ixD (mBinL ixD 6 (mPure (.int 0))) (mPure (.int 2))) (mCons (mBin ixD (mBinL ixD 6 (mBin subD (mCall1 lenD (mPeek 6)) (mPure (.int 1)))) (mPure (.int 3))) (mCons (mCall1 tupleD (mVal (mRgN2 (mVar 3) (mVar 5)))) (mPure [])))))) (mPure [])))))))))))
def R__law_calls_0 : M Fl :=
  mFor (mItems (mVar 2)) (mStore 3) L__law_calls_0
def m__law_calls : M Fl :=
  (mSeq (mAsgN (mLstN (mPure [])) 1)
  (mSeq (mAsgN C__law_calls_0 2)
  (mSeq (R__law_calls_0)
  (mRet (mVar 1)))))
def fn__law_calls : List D → Option (Rs D) := runV m__law_calls 13
abbrev s__law_calls : Stmt := topS 10
abbrev N__law_calls : List Str := ["_law_items", "_law_found", "_law_starts", "_law_begin", "_law_ends", "_law_end", "_law_inner", "_law_said", "_law_told", "_law_first", "_law_way", "_law_at", "_law_item"]
theorem sc__law_calls : FnScope N__law_calls ["_law_items"] (defScope s__law_calls) := ⟨rfl, rfl, rfl, by decide +kernel, rfl, by decide +kernel, by decide +kernel⟩
def L_law_0 : M Fl :=
  (mSeq (mAsg (mCall1 reprG (mPeek 5)) (mStore 6))
  (mSeq (mAsg (mCall1 tupleD (mCallV 1 fn__law_calls (mCons (mVar 5) (mPure [])))) (mStore 7))
  (mSeq (mIf (mOrT (mNotT (mTru (mCallV 2 (fn__law_alike 6) (mCons (mCallV 1 fn_calls_in (mCons (mCall1 tupleD (mPeek 5)) (mPure []))) (mCons (mVar 7) (mPure [])))))) ((mNotT (mTru (mCallV 2 (fn__law_alike 6) (mCons (mCallV 1 fn_calls_in (mCons (mVar 5) (mPure []))) (mCons (mVar 7) (mPure [])))))))) (mRet (mPure (.bool false))) (mPure .nx))
  (mIf (mBol (mBin neD (mCall1 reprG (mPeek 5)) (mPeek 6))) (mRet (mPure (.bool false))) (mPure .nx)))))
def R_law_0 : M Fl :=
  mFor (mItems (mTup (mCons (mVar 3) (mCons (mVar 4) (mCons (mVar 3) (mCons (mSlL 3 mNoPart (mPart (mCallB 2 2 fn__law_take (mCons (mBin addD (mCall1 lenD (mPeek 3)) (mPure (.int 1))) (mPure []))))) (mPure []))))))) (mStore 5) L_law_0
def L_law_1 : M Fl :=
  (mSeq (mAsgS 2 0 2 fn__law_box (mCons (mVar 1) (mPure [])))
  (mSeq (mParEE 3 4 (mCallB 2 2 fn__law_twowire (mCons (mPure (.int 30)) (mPure []))) (mCallB 2 2 fn__law_twowire (mCons (mPure (.int 8)) (mPure []))))
  (R_law_0)))
def R_law_1 : M Fl :=
  mFor (mRng1 (mCons (mCallN max2D (mCons (mPure (.int 2)) (mCons (mCallN min2D (mCons (mPure (.int 6)) (mCons (mScrLen 0) (mPure [])))) (mPure [])))) (mPure []))) (mStore 1) L_law_1
def m_law : M Fl :=
  (mSeq (R_law_1)
  (mRet (mPure (.bool true))))
def fn_law : List Int → Option (Rs D) := runL m_law 8
abbrev s_law : Stmt := topS 11
abbrev N_law : List Str := ["_law_script", "_law_k", "_law_box_here", "_law_one", "_law_other", "_law_items", "_law_kept", "_law_due"]
theorem sc_law : FnScope N_law ["_law_script"] (defScope s_law) := ⟨rfl, rfl, rfl, by decide +kernel, rfl, by decide +kernel, by decide +kernel⟩
structure Tx (K : PySem.W.Frag) (mg : Str → Option Value) where
  a_item_of_parts : Addr
  fd_item_of_parts : FuncData
  F_item_of_parts : Fun K "item_of_parts" "item_of_parts" s_item_of_parts a_item_of_parts fd_item_of_parts
  g_item_of_parts : mg "item_of_parts" = some (.ref a_item_of_parts)
  b_item_of_parts : Binds K fd_item_of_parts ["items", "kind", "what", "parts"] []
  a__call_of : Addr
  fd__call_of : FuncData
  F__call_of : Fun K "_call_of" "_call_of" s__call_of a__call_of fd__call_of
  g__call_of : mg "_call_of" = some (.ref a__call_of)
  b__call_of : Binds K fd__call_of ["items", "parts"] []
  a_calls_in : Addr
  fd_calls_in : FuncData
  F_calls_in : Fun K "calls_in" "calls_in" s_calls_in a_calls_in fd_calls_in
  g_calls_in : mg "calls_in" = some (.ref a_calls_in)
  b_calls_in : Binds K fd_calls_in ["items"] []
  a__law_box : Addr
  fd__law_box : FuncData
  F__law_box : Fun K "_law_box" "_law_box" s__law_box a__law_box fd__law_box
  g__law_box : mg "_law_box" = some (.ref a__law_box)
  b__law_box : Binds K fd__law_box ["_law_script", "_law_k"] []
  a__law_take : Addr
  fd__law_take : FuncData
  F__law_take : Fun K "_law_take" "_law_take" s__law_take a__law_take fd__law_take
  g__law_take : mg "_law_take" = some (.ref a__law_take)
  b__law_take : Binds K fd__law_take ["_law_box_here", "_law_many"] []
  a__law_alike : Addr
  fd__law_alike : FuncData
  F__law_alike : Fun K "_law_alike" "_law_alike" s__law_alike a__law_alike fd__law_alike
  g__law_alike : mg "_law_alike" = some (.ref a__law_alike)
  b__law_alike : Binds K fd__law_alike ["_law_found", "_law_due"] []
  a__law_twowire : Addr
  fd__law_twowire : FuncData
  F__law_twowire : Fun K "_law_twowire" "_law_twowire" s__law_twowire a__law_twowire fd__law_twowire
  g__law_twowire : mg "_law_twowire" = some (.ref a__law_twowire)
  b__law_twowire : Binds K fd__law_twowire ["_law_box_here", "_law_bound"] []
  a__law_calls : Addr
  fd__law_calls : FuncData
  F__law_calls : Fun K "_law_calls" "_law_calls" s__law_calls a__law_calls fd__law_calls
  g__law_calls : mg "_law_calls" = some (.ref a__law_calls)
  b__law_calls : Binds K fd__law_calls ["_law_items"] []
  a_law : Addr
  fd_law : FuncData
  F_law : Fun K "law" "law" s_law a_law fd_law
  g_law : mg "law" = some (.ref a_law)
  b_law : Binds K fd_law ["_law_script"] []
  z_all : mg "all" = none
  z_bool : mg "bool" = none
  z_dict : mg "dict" = none
  z_enumerate : mg "enumerate" = none
  z_int : mg "int" = none
  z_isinstance : mg "isinstance" = none
  z_len : mg "len" = none
  z_list : mg "list" = none
  z_max : mg "max" = none
  z_min : mg "min" = none
  z_range : mg "range" = none
  z_repr : mg "repr" = none
  z_sorted : mg "sorted" = none
  z_str : mg "str" = none
  z_tuple : mg "tuple" = none
  z_zip : mg "zip" = none
section
variable {P : Program} {w : World} {K : PySem.W.Frag} {mg : Str → Option Value} {base : Heap}
theorem ok_item_of_parts (T : Tx K mg) : FnOk P w K mg base (L2.CX P w) 1 T.a_item_of_parts T.fd_item_of_parts ["items", "kind", "what", "parts"] (spV K 4 fn_item_of_parts) := by
  have e : spV K 4 fn_item_of_parts = spV K ["items", "kind", "what", "parts"].length (runV m_item_of_parts N_item_of_parts.length) := rfl
  rw [e]
  refine okV2 (sc := ?sc) (bd := ?bd) (m := m_item_of_parts) T.F_item_of_parts sc_item_of_parts ?h1 ?h2 ?hb
  case h1 => conv => lhs; whnf
  case h2 => conv => lhs; whnf
  case hb => exact fun cdv A outer s H E hr => (by exact
    (dsOne (dRet (dTup (dCons (dv 1) (dCons (dv 2) (dCons (dIx (dIxL (pv 0) (dP (dIxL (pv 3) (dP (dInt))))) (dP (dInt))) (dCons (dIx (dIxL (pv 0) (dP (dIxL (pv 3) (dP (dNeg (dInt)))))) (dP (dInt))) (dCons (dTy1 call_tuple_of cd_tuple (T.z_tuple) b_tuple (dpk 3)) dNil)))))))))
theorem ok__call_of (T : Tx K mg) : FnOk P w K mg base (L2.CX P w) 2 T.a__call_of T.fd__call_of ["items", "parts"] (spV K 2 fn__call_of) := by
  have e : spV K 2 fn__call_of = spV K ["items", "parts"].length (runV m__call_of N__call_of.length) := rfl
  rw [e]
  refine okV2 (sc := ?sc) (bd := ?bd) (m := m__call_of) T.F__call_of sc__call_of ?h1 ?h2 ?hb
  case h1 => conv => lhs; whnf
  case h2 => conv => lhs; whnf
  case hb => exact fun cdv A outer s H E hr => (by exact
    (dsCons (dsCompN (i := 2) (own := [("part", 8)]) rfl sc__call_of.nd (sw_true rfl rfl rfl (by decide +kernel)) (diSeq (dv 1)) (blkOk_by (N := N__call_of) (sc := defScope s__call_of) (by decide +kernel)) (fun _ _ _ _ _ => pg_name (i := 8) sc__call_of.nd rfl (by first | exact Or.inl rfl | exact Or.inr rfl)) (fun _ _ _ _ _ => pts_nil) (fun _ _ _ _ _ => (dIx (dIxL (pv 0) (dpk 8)) (dP (dInt)))) (ctName (by decide)) (fun _ _ _ => tYes_of))
      (dsCons (dIfS (dtCmp op_in_seq (opD_in false) (by rfl) (dStr) (dpk 2)) (dsOne (dRet (dCallV (ok_item_of_parts T) (hr.mono (by decide)) T.g_item_of_parts T.F_item_of_parts.kp T.b_item_of_parts (takes_of rfl rfl rfl rfl) (dCons (dv 0) (dCons (dStr) (dCons (dStr) (dCons (dv 1) dNil))))))) dsNil)
      (dsCons (dsCompN (i := 3) (own := [("part", 8)]) rfl sc__call_of.nd (sw_true rfl rfl rfl (by decide +kernel)) (diSeq (dv 1)) (blkOk_by (N := N__call_of) (sc := defScope s__call_of) (by decide +kernel)) (fun _ _ _ _ _ => pg_name (i := 8) sc__call_of.nd rfl (by first | exact Or.inl rfl | exact Or.inr rfl)) (fun _ _ _ _ _ => pts_one (dtCmp op_in_seq (opD_in false) (by rfl) (dIx (dIxL (pv 0) (dpk 8)) (dP (dInt))) (dP (dTup (dCons (dStr) (dCons (dStr) dNil)))))) (fun _ _ _ _ _ => (dIxL (pv 0) (dpk 8))) (ctName (by decide)) (fun _ _ _ q => q))
      (dsCons (dIfS (dtNot (dTru (dpk 3))) (dsOne (dRet (dCallV (ok_item_of_parts T) (hr.mono (by decide)) T.g_item_of_parts T.F_item_of_parts.kp T.b_item_of_parts (takes_of rfl rfl rfl rfl) (dCons (dv 0) (dCons (dStr) (dCons (dStr) (dCons (dv 1) dNil))))))) dsNil)
      (dsCons (dAsg (dVal (m := C__call_of_2) (dCompN (own := [("item", 9)]) rfl sc__call_of.nd (diSeq (dv 3)) (blkOk_by (N := N__call_of) (sc := defScope s__call_of) (by decide +kernel)) (fun _ _ _ _ _ => pg_name (i := 9) sc__call_of.nd rfl (by first | exact Or.inl rfl | exact Or.inr rfl)) (fun _ _ _ _ _ => pts_nil) (fun _ _ _ _ _ => (dIxL (pv 9) (dP (dInt)))) (ctName (by decide)) (fun _ _ _ => tYes_of))) (dgStar rfl (dgsCons (dgName (i := 4) sc__call_of.nd) (dgsConsS (dgName (i := 5) sc__call_of.nd) dgsNil2))))
      (dsCons (dSet (i := 6) sc__call_of.nd (dIf (dtCmp (op_eqD hr.units) opD_eq (nomark _) (dOpL op_and opD_and (pv 4) (dP (dInt))) (dP (dInt))) (dStr) (dStr)))
      (dsCons (dSet (i := 7) sc__call_of.nd (dTup (dCons (dOpL op_shr opD_shr (pv 4) (dP (dInt))) (dCons (dv 6) (dCons (dTy1 call_tuple_of cd_tuple (T.z_tuple) b_tuple (dpk 5)) (dCons (dCmp (op_eqD hr.units) opD_eq (nomark _) (dIx (dIxL (pv 3) (dP (dInt))) (dP (dInt))) (dP (dStr))) dNil))))))
      (dsOne (dRet (dCallV (ok_item_of_parts T) (hr.mono (by decide)) T.g_item_of_parts T.F_item_of_parts.kp T.b_item_of_parts (takes_of rfl rfl rfl rfl) (dCons (dv 0) (dCons (dStr) (dCons (dv 7) (dCons (dv 1) dNil)))))))))))))))
theorem ok_calls_in (T : Tx K mg) : FnOk P w K mg base (L2.CX P w) 3 T.a_calls_in T.fd_calls_in ["items"] (spV K 1 fn_calls_in) := by
  have e : spV K 1 fn_calls_in = spV K ["items"].length (runV m_calls_in N_calls_in.length) := rfl
  rw [e]
  refine okV2 (sc := ?sc) (bd := ?bd) (m := m_calls_in) T.F_calls_in sc_calls_in ?h1 ?h2 ?hb
  case h1 => conv => lhs; whnf
  case h2 => conv => lhs; whnf
  case hb => exact fun cdv A outer s H E hr => (by exact
    (dsCons (dsN (i := 1) sc_calls_in.nd (dLstN dNil))
      (dsCons (dsN (i := 2) sc_calls_in.nd (dLstN dNil))
      (dsCons (dFor (passes_of rfl) rfl (diEnumB (T.z_enumerate) (dCons (dv 0) dNil)) (dgTup rfl (dgsCons (dgName (i := 3) sc_calls_in.nd) (dgsCons (dgName (i := 4) sc_calls_in.nd) dgsNil2))) (mb := L_calls_in_0) (dsCons (dIfS ((dwAnd (dtCmp (op_eqD hr.units) opD_eq (nomark _) (dIxL (pv 4) (dP (dInt))) (dP (dStr))) (dwAnd1 (dTru (dpk 2)))).pt) (dsCons (dExpr (PE.imp (pe_bm PySem.F.plainAttrs_list PySem.F.slot_list_append PySem.F.type_list_append mt_append (pv 1) (dCons (dCallV (ok__call_of T) (hr.mono (by decide)) T.g__call_of T.F__call_of.kp T.b__call_of (takes_of rfl rfl rfl rfl) (dCons (dv 0) (dCons (dv 2) dNil))) dNil)) (fun _ _ _ => mut_of mut_app)))
      (dsOne (dsN (i := 2) sc_calls_in.nd (dLstN dNil)))) dsNil)
      (dsCons (dIfS ((dwOr (dtCmp (op_eqD hr.units) opD_eq (nomark _) (dIxL (pv 4) (dP (dInt))) (dP (dStr))) (dwOr1 (dTru (dpk 2)))).pt) (dsOne (dExpr (PE.imp (pe_bm PySem.F.plainAttrs_list PySem.F.slot_list_append PySem.F.type_list_append mt_append (pv 2) (dCons (dv 3) dNil)) (fun _ _ _ => mut_of mut_app)))) dsNil)
      (dsOne (dIfS ((dwAnd (dtCmp (op_eqD hr.units) opD_eq (nomark _) (dIxL (pv 4) (dP (dInt))) (dP (dStr))) (dwAnd1 (dTru (dpk 2)))).pt) (dsCons (dExpr (PE.imp (pe_bm PySem.F.plainAttrs_list PySem.F.slot_list_append PySem.F.type_list_append mt_append (pv 1) (dCons (dCallV (ok__call_of T) (hr.mono (by decide)) T.g__call_of T.F__call_of.kp T.b__call_of (takes_of rfl rfl rfl rfl) (dCons (dv 0) (dCons (dv 2) dNil))) dNil)) (fun _ _ _ => mut_of mut_app)))
      (dsOne (dsN (i := 2) sc_calls_in.nd (dLstN dNil)))) dsNil)))))
      (dsCons (dIfS (dTru (dpk 2)) (dsOne (dExpr (PE.imp (pe_bm PySem.F.plainAttrs_list PySem.F.slot_list_append PySem.F.type_list_append mt_append (pv 1) (dCons (dCallV (ok_item_of_parts T) (hr.mono (by decide)) T.g_item_of_parts T.F_item_of_parts.kp T.b_item_of_parts (takes_of rfl rfl rfl rfl) (dCons (dv 0) (dCons (dStr) (dCons (dStr) (dCons (dv 2) dNil))))) dNil)) (fun _ _ _ => mut_of mut_app)))) dsNil)
      (dsOne (dRet (dTy1 call_tuple_of cd_tuple (T.z_tuple) b_tuple (dpk 1)))))))))
theorem ok__law_box (T : Tx K mg) : FnOk P w K mg base (L2.CX P w) 1 T.a__law_box T.fd__law_box ["_law_script", "_law_k"] (spS K 2 fn__law_box) := by
  have e : spS K 2 fn__law_box = spS K ["_law_script", "_law_k"].length (runS m__law_box N__law_box.length) := rfl
  rw [e]
  refine okS2 (sc := ?sc) (bd := ?bd) (m := m__law_box) T.F__law_box sc__law_box ?h1 ?h2 ?hb
  case h1 => conv => lhs; whnf
  case h2 => conv => lhs; whnf
  case hb => exact fun cdv A outer s H E hr => (by exact
    (dsCons (dSet (i := 2) sc__law_box.nd (dOp or_addA opD_add (dOp or_mulA opD_mul (dInt) (dpk 1)) (dP (dInt))))
      (dsCons (dIfS (dtCmpL op_lt opD_lt (nomark _) (pv 1) (dP (dScrLen (T.z_len) (pv 0)))) (dsOne (dSet (i := 2) sc__law_box.nd (dScrIx (pv 0) (dv 1)))) (dsOne (dIfS (dtCmp op_gt opD_gt (nomark _) (dScrLen (T.z_len) (pv 0)) (dP (dInt))) (dsOne (dSet (i := 2) sc__law_box.nd (dOpL or_addA opD_add (pv 2) (dP (dOp or_mulA opD_mul (dOp op_mod opD_mod (dTy1 call_int1 cd_int (T.z_int) b_int (dP (dScrIx (pv 0) (dOp op_mod opD_mod (dTy1 call_int1 cd_int (T.z_int) b_int (dpk 1)) (dP (dScrLen (T.z_len) (pv 0))))))) (dP (dInt))) (dP (dInt))))))) dsNil)))
      (dsCons (dSet (i := 3) sc__law_box.nd (dOp or_addA opD_add (dOp op_mod opD_mod (dOp or_addA opD_add (dOp or_mulA opD_mul (dOp op_mod opD_mod (dTy1 call_int1 cd_int (T.z_int) b_int (dpk 2)) (dP (dInt))) (dP (dInt))) (dP (dOp or_mulA opD_mul (dInt) (dpk 1)))) (dP (dInt))) (dP (dInt))))
      (dsOne (dRetF (dCons (dIx (dLst (dCons (dInt) (dCons (dv 2) dNil))) (dP (dTy1 call_int1 cd_int (T.z_int) b_int (dP (dCmpL op_ge opD_ge (nomark _) (pv 2) (dP (dOp op_pow opD_pow (dInt) (dP (dInt))))))))) (dCons (dv 3) (dCons (dInt) dNil)))))))))
theorem ok__law_take (T : Tx K mg) : FnOk P w K mg base (L2.CX P w) 1 T.a__law_take T.fd__law_take ["_law_box_here", "_law_many"] (spB K 2 fn__law_take) := by
  have e : spB K 2 fn__law_take = spB K ["_law_box_here", "_law_many"].length (runB m__law_take N__law_take.length) := rfl
  rw [e]
  refine okB2 (sc := ?sc) (bd := ?bd) (m := m__law_take) T.F__law_take sc__law_take ?h1 ?h2 ?hb
  case h1 => conv => lhs; whnf
  case h2 => conv => lhs; whnf
  case hb => exact fun cdv A outer s H E hr => (by exact
    (dsCons (dIfS (dtCmp op_gt opD_gt (nomark _) (dIxL (pv 0) (dP (dInt))) (dP (dInt))) (dsCons (dSet (i := 2) sc__law_take.nd (dOp op_mod opD_mod (dTy1 call_int1 cd_int (T.z_int) b_int (dP (dIxL (pv 0) (dP (dInt))))) (dpk 1)))
      (dsCons (dAsg (dOp op_fdivW opD_div (dIxL (pv 0) (dP (dInt))) (dpk 1)) (dgSet (pv 0) (dInt)))
      (dsOne (dRet (dv 2))))) dsNil)
      (dsCons (dAsg (dOp or_addA opD_add (dIxL (pv 0) (dP (dInt))) (dP (dInt))) (dgSet (pv 0) (dInt)))
      (dsCons (dSet (i := 3) sc__law_take.nd (dOp op_mod opD_mod (dTy1 call_int1 cd_int (T.z_int) b_int (dP (dOp or_mulA opD_mul (dOp or_addA opD_add (dIxL (pv 0) (dP (dInt))) (dP (dOp or_mulA opD_mul (dInt) (dP (dIxL (pv 0) (dP (dInt))))))) (dP (dInt))))) (dP (dInt))))
      (dsCons (dAsg (dOp or_addA opD_add (dOp op_mod opD_mod (dOp or_addA opD_add (dOpL or_mulA opD_mul (pv 3) (dP (dInt))) (dP (dInt))) (dP (dInt))) (dP (dInt))) (dgSet (pv 0) (dInt)))
      (dsOne (dRet (dOp op_mod opD_mod (dOp op_fdivW opD_div (dOp or_addA opD_add (dOpL or_mulA opD_mul (pv 3) (dP (dInt))) (dP (dIxL (pv 0) (dP (dInt))))) (dP (dInt))) (dpk 1)))))))))
theorem ok__law_alike (T : Tx K mg) : ∀ n : Nat, FnOk P w K mg base (L2.CX P w) (n + 1) T.a__law_alike T.fd__law_alike ["_law_found", "_law_due"] (spV K 2 (fn__law_alike n))
  | 0 => okV0 fun _ => rfl
  | n + 1 => by
    have IH := ok__law_alike T n
    have e : spV K 2 (fn__law_alike (n + 1)) = spV K ["_law_found", "_law_due"].length (runV (m__law_alike (fn__law_alike n)) N__law_alike.length) := rfl
    rw [e]
    refine (okV2 (k := n + 1) (sc := ?sc) (bd := ?bd) (m := m__law_alike (fn__law_alike n)) T.F__law_alike sc__law_alike ?h1 ?h2 ?hb).mono (by omega)
    case h1 => conv => lhs; whnf
    case h2 => conv => lhs; whnf
    case hb => exact fun cdv A outer s H E hr => (by exact
    (dsCons (dIfS (dTru (dP (dIsiA (T.z_isinstance) (tys (T.z_tuple) i_tuple b_tuple (tys (T.z_list) i_list b_list .nil)) (dpk 1)))) (dsCons (dIfS ((dwOr (dtCmp (op_neD hr.units) opD_ne (nomark _) (dIsi (T.z_isinstance) (T.z_tuple) i_tuple (dpk 0) b_tuple) (dP (dIsi (T.z_isinstance) (T.z_tuple) i_tuple (dpk 1) b_tuple))) (dwOr1 (dtCmp (op_neD hr.units) opD_ne (nomark _) (dIsi (T.z_isinstance) (T.z_list) i_list (dpk 0) b_list) (dP (dIsi (T.z_isinstance) (T.z_list) i_list (dpk 1) b_list))))).pt) (dsOne (dRet (dBl))) dsNil)
      (dsOne (dRet (dAnd (dCmp (op_eqD hr.units) opD_eq (nomark _) (dB1 cr_len cd_len (T.z_len) b_len (dpk 0)) (dP (dB1 cr_len cd_len (T.z_len) b_len (dpk 1)))) (dOne (dB1 (cr_all rfl) cd_all (T.z_all) b_all (dP (dVal (m := (C__law_alike_0 (fn__law_alike n))) (dCompN (own := [("_law_one", 3), ("_law_other", 4)]) rfl sc__law_alike.nd (diZip (T.z_zip) (dCons (dv 0) (dCons (dv 1) dNil))) (blkOk_by (N := N__law_alike) (sc := defScope s__law_alike) (by decide +kernel)) (fun _ _ _ _ _ => pg_tup rfl (pgs_cons (pg_name (i := 3) sc__law_alike.nd rfl (by first | exact Or.inl rfl | exact Or.inr rfl)) (pgs_cons (pg_name (i := 4) sc__law_alike.nd rfl (by first | exact Or.inl rfl | exact Or.inr rfl)) pgs_nil))) (fun _ _ _ _ _ => pts_nil) (fun _ _ _ _ _ => (dCallV IH (hr.mono (by omega)) T.g__law_alike T.F__law_alike.kp T.b__law_alike takes0 (dCons (dv 3) (dCons (dv 4) dNil)))) (ctTup (is := [3, 4]) (by decide)) (fun _ _ _ => tYes_of)))))))))) dsNil)
      (dsCons (dIfS (dTru (dP (dIsi (T.z_isinstance) (T.z_dict) i_dict (dpk 1) b_dict))) (dsCons (dIfS ((dwOr (dtNot (dTru (dP (dIsi (T.z_isinstance) (T.z_dict) i_dict (dpk 0) b_dict)))) (dwOr1 (dtCmp (op_neD hr.units) opD_ne (nomark _) (dVal (dBN1 cr_sortDP cn_sort (T.z_sorted) b_sorted (dP (dVal (dTyN1 call_list_of cn_list (T.z_list) b_list (dpk 0)))))) (dP (dVal (dBN1 cr_sortDP cn_sort (T.z_sorted) b_sorted (dP (dVal (dTyN1 call_list_of cn_list (T.z_list) b_list (dpk 1)))))))))).pt) (dsOne (dRet (dBl))) dsNil)
      (dsOne (dRet (dB1 (cr_all rfl) cd_all (T.z_all) b_all (dP (dVal (m := (C__law_alike_1 (fn__law_alike n))) (dCompN (own := [("_law_key", 2)]) rfl sc__law_alike.nd (diSeq (dv 1)) (blkOk_by (N := N__law_alike) (sc := defScope s__law_alike) (by decide +kernel)) (fun _ _ _ _ _ => pg_name (i := 2) sc__law_alike.nd rfl (by first | exact Or.inl rfl | exact Or.inr rfl)) (fun _ _ _ _ _ => pts_nil) (fun _ _ _ _ _ => (dCallV IH (hr.mono (by omega)) T.g__law_alike T.F__law_alike.kp T.b__law_alike takes0 (dCons (dIxL (pv 0) (dpk 2)) (dCons (dIxL (pv 1) (dpk 2)) dNil)))) (ctName (by decide)) (fun _ _ _ => tYes_of)))))))) dsNil)
      (dsCons (dIfS ((dwOr (dtCmp (op_neD hr.units) opD_ne (nomark _) (dIsi (T.z_isinstance) (T.z_bool) i_bool (dpk 0) b_bool) (dP (dIsi (T.z_isinstance) (T.z_bool) i_bool (dpk 1) b_bool))) (dwOr1 (dtCmp (op_neD hr.units) opD_ne (nomark _) (dIsi (T.z_isinstance) (T.z_str) i_str (dpk 0) b_str) (dP (dIsi (T.z_isinstance) (T.z_str) i_str (dpk 1) b_str))))).pt) (dsOne (dRet (dBl))) dsNil)
      (dsOne (dRet (dAnd (dNot (dP (dIsiA (T.z_isinstance) (tys (T.z_tuple) i_tuple b_tuple (tys (T.z_list) i_list b_list (tys (T.z_dict) i_dict b_dict .nil))) (dpk 0)))) (dOne (dCmpL (op_eqD hr.units) opD_eq (nomark _) (pv 0) (dpk 1))))))))))
theorem ok__law_twowire (T : Tx K mg) : FnOk P w K mg base (L2.CX P w) 2 T.a__law_twowire T.fd__law_twowire ["_law_box_here", "_law_bound"] (spB K 2 fn__law_twowire) := by
  have e : spB K 2 fn__law_twowire = spB K ["_law_box_here", "_law_bound"].length (runB m__law_twowire N__law_twowire.length) := rfl
  rw [e]
  refine okB2 (sc := ?sc) (bd := ?bd) (m := m__law_twowire) T.F__law_twowire sc__law_twowire ?h1 ?h2 ?hb
  case h1 => conv => lhs; whnf
  case h2 => conv => lhs; whnf
  case hb => exact fun cdv A outer s H E hr => (by exact
    (dsCons (dParLC (i := 2) (j := 3) (l := 4) rfl sc__law_twowire.nd (dOp or_addA opD_add (dInt) (dP (dCallB (ok__law_take T) (hr.mono (by decide)) T.g__law_take T.F__law_take.kp T.b__law_take (takes_of rfl rfl rfl rfl) (pv 0) (dCons (dInt) dNil)))) (dBl))
      (dsCons (dFor (passes_of rfl) rfl (diRng1 (T.z_range) (dCons (dCallB (ok__law_take T) (hr.mono (by decide)) T.g__law_take T.F__law_take.kp T.b__law_take (takes_of rfl rfl rfl rfl) (pv 0) (dCons (dOpL or_addA opD_add (pv 1) (dP (dInt))) dNil)) dNil)) (dgName (i := 5) sc__law_twowire.nd) (mb := L__law_twowire_0) (dsCons (dSet (i := 6) sc__law_twowire.nd (dCallB (ok__law_take T) (hr.mono (by decide)) T.g__law_take T.F__law_take.kp T.b__law_take (takes_of rfl rfl rfl rfl) (pv 0) (dCons (dInt) dNil)))
      (dsCons (dAsg (dTup (dCons (dOp or_addA opD_add (dInt) (dP (dCallB (ok__law_take T) (hr.mono (by decide)) T.g__law_take T.F__law_take.kp T.b__law_take (takes_of rfl rfl rfl rfl) (pv 0) (dCons (dInt) dNil)))) (dCons (dStr) (dCons (dStr) (dCons (dInt) dNil))))) (dgTup rfl (dgsCons (dgName (i := 7) sc__law_twowire.nd) (dgsCons (dgName (i := 8) sc__law_twowire.nd) (dgsCons (dgName (i := 9) sc__law_twowire.nd) (dgsCons (dgName (i := 10) sc__law_twowire.nd) dgsNil2))))))
      (dsCons (dIfS ((dwAnd (dTru (dpk 4)) (dwAnd1 (dtCmpL op_lt opD_lt (nomark _) (pv 6) (dP (dInt))))).pt) (dsOne (dPar3 (i := 8) (j := 9) (l := 10) rfl sc__law_twowire.nd (by decide) (by decide) (by decide) (dIx (dLst (dCons (dStr) (dCons (dStr) (dCons (dStr) dNil)))) (dP (dCallB (ok__law_take T) (hr.mono (by decide)) T.g__law_take T.F__law_take.kp T.b__law_take (takes_of rfl rfl rfl rfl) (pv 0) (dCons (dInt) dNil)))) (dCallB (ok__law_take T) (hr.mono (by decide)) T.g__law_take T.F__law_take.kp T.b__law_take (takes_of rfl rfl rfl rfl) (pv 0) (dCons (dInt) dNil)) (dInt))) (dsOne (dIfS ((dwAnd (dTru (dpk 4)) (dwAnd1 (dtCmpL op_lt opD_lt (nomark _) (pv 6) (dP (dInt))))).pt) (dsOne (dAsg (dTup (dCons (dStr) (dCons (dBl) dNil))) (dgTup rfl (dgsCons (dgName (i := 8) sc__law_twowire.nd) (dgsCons (dgName (i := 4) sc__law_twowire.nd) dgsNil2))))) (dsOne (dSet (i := 4) sc__law_twowire.nd (dBl))))))
      (dsCons (dIfS ((dwAnd (dtCmpL (op_neD hr.units) opD_ne (nomark _) (pv 2) (dP (dLst dNil))) (dwAnd (dtCmp (op_neD hr.units) opD_ne (nomark _) (dIx (dIxL (pv 2) (dP (dNeg (dInt)))) (dP (dInt))) (dP (dStr))) (dwAnd (dtCmpL (op_eqD hr.units) opD_eq (nomark _) (pv 10) (dP (dInt))) (dwAnd1 (dtCmp (op_eqD hr.units) opD_eq (nomark _) (dCallB (ok__law_take T) (hr.mono (by decide)) T.g__law_take T.F__law_take.kp T.b__law_take (takes_of rfl rfl rfl rfl) (pv 0) (dCons (dInt) dNil)) (dP (dInt))))))).pt) (dsCons (dSet (i := 11) sc__law_twowire.nd (dOp or_addA opD_add (dInt) (dP (dCallB (ok__law_take T) (hr.mono (by decide)) T.g__law_take T.F__law_take.kp T.b__law_take (takes_of rfl rfl rfl rfl) (pv 0) (dCons (dInt) dNil)))))
      (dsCons (dSet (i := 12) sc__law_twowire.nd (dTy1 call_tuple_of cd_tuple (T.z_tuple) b_tuple (dP (dVal (m := C__law_twowire_0) (dCompN (own := [("_law_k", 13)]) rfl sc__law_twowire.nd (diRng1 (T.z_range) (dCons (dv 11) dNil)) (blkOk_by (N := N__law_twowire) (sc := defScope s__law_twowire) (by decide +kernel)) (fun _ _ _ _ _ => pg_name (i := 13) sc__law_twowire.nd rfl (by first | exact Or.inl rfl | exact Or.inr rfl)) (fun _ _ _ _ _ => pts_nil) (fun _ _ _ _ _ => (dTup (dCons (dStr) (dCons (dOpL or_addA opD_add (pv 3) (dP (dOp or_mulA opD_mul (dOp or_mulA opD_mul (dInt) (dpk 7)) (dpk 13)))) dNil)))) (ctName (by decide)) (fun _ _ _ => tYes_of))))))
      (dsCons (dExpr (PE.imp (pe_bm PySem.F.plainAttrs_list PySem.F.slot_list_append PySem.F.type_list_append mt_append (pv 2) (dCons (dTup (dCons (dStr) (dCons (dStr) (dCons (dv 3) (dCons (dOp or_addA opD_add (dIx (dIxL (pv 12) (dP (dOpL op_sub opD_sub (pv 11) (dP (dInt))))) (dP (dInt))) (dP (dInt))) (dCons (dv 12) dNil)))))) dNil)) (fun _ _ _ => mut_of mut_app)))
      (dsOne (dSet (i := 3) sc__law_twowire.nd (dOpL or_addA opD_add (pv 3) (dP (dOp or_mulA opD_mul (dOp or_mulA opD_mul (dInt) (dpk 7)) (dpk 11))))))))) dsNil)
      (dsCons (dSet (i := 12) sc__law_twowire.nd (dTy1 call_tuple_of cd_tuple (T.z_tuple) b_tuple (dP (dVal (m := C__law_twowire_1) (dCompN (own := [("_law_k", 13)]) rfl sc__law_twowire.nd (diRng1 (T.z_range) (dCons (dv 10) dNil)) (blkOk_by (N := N__law_twowire) (sc := defScope s__law_twowire) (by decide +kernel)) (fun _ _ _ _ _ => pg_name (i := 13) sc__law_twowire.nd rfl (by first | exact Or.inl rfl | exact Or.inr rfl)) (fun _ _ _ _ _ => pts_nil) (fun _ _ _ _ _ => (dTup (dCons (dStr) (dCons (dOpL or_addA opD_add (pv 3) (dP (dOp or_mulA opD_mul (dOp or_mulA opD_mul (dInt) (dpk 7)) (dpk 13)))) dNil)))) (ctName (by decide)) (fun _ _ _ => tYes_of))))))
      (dsCons (dExpr (PE.imp (pe_bm PySem.F.plainAttrs_list PySem.F.slot_list_append PySem.F.type_list_append mt_append (pv 2) (dCons (dTup (dCons (dv 8) (dCons (dv 9) (dCons (dv 3) (dCons (dOp or_addA opD_add (dIx (dIxL (pv 12) (dP (dOpL op_sub opD_sub (pv 10) (dP (dInt))))) (dP (dInt))) (dP (dInt))) (dCons (dv 12) dNil)))))) dNil)) (fun _ _ _ => mut_of mut_app)))
      (dsOne (dSet (i := 3) sc__law_twowire.nd (dOpL or_addA opD_add (pv 3) (dP (dOp or_mulA opD_mul (dOp or_mulA opD_mul (dInt) (dpk 7)) (dpk 10)))))))))))))
      (dsCons (dIfS ((dwAnd (dTru (dpk 4)) (dwAnd1 (dtCmp (op_eqD hr.units) opD_eq (nomark _) (dCallB (ok__law_take T) (hr.mono (by decide)) T.g__law_take T.F__law_take.kp T.b__law_take (takes_of rfl rfl rfl rfl) (pv 0) (dCons (dInt) dNil)) (dP (dInt))))).pt) (dsCons (dSet (i := 11) sc__law_twowire.nd (dOp or_addA opD_add (dInt) (dP (dCallB (ok__law_take T) (hr.mono (by decide)) T.g__law_take T.F__law_take.kp T.b__law_take (takes_of rfl rfl rfl rfl) (pv 0) (dCons (dInt) dNil)))))
      (dsCons (dSet (i := 12) sc__law_twowire.nd (dTy1 call_tuple_of cd_tuple (T.z_tuple) b_tuple (dP (dVal (m := C__law_twowire_2) (dCompN (own := [("_law_k", 13)]) rfl sc__law_twowire.nd (diRng1 (T.z_range) (dCons (dv 11) dNil)) (blkOk_by (N := N__law_twowire) (sc := defScope s__law_twowire) (by decide +kernel)) (fun _ _ _ _ _ => pg_name (i := 13) sc__law_twowire.nd rfl (by first | exact Or.inl rfl | exact Or.inr rfl)) (fun _ _ _ _ _ => pts_nil) (fun _ _ _ _ _ => (dTup (dCons (dStr) (dCons (dOpL or_addA opD_add (pv 3) (dP (dOp or_mulA opD_mul (dInt) (dpk 13)))) dNil)))) (ctName (by decide)) (fun _ _ _ => tYes_of))))))
      (dsOne (dExpr (PE.imp (pe_bm PySem.F.plainAttrs_list PySem.F.slot_list_append PySem.F.type_list_append mt_append (pv 2) (dCons (dTup (dCons (dStr) (dCons (dStr) (dCons (dv 3) (dCons (dOp or_addA opD_add (dIx (dIxL (pv 12) (dP (dOpL op_sub opD_sub (pv 11) (dP (dInt))))) (dP (dInt))) (dP (dInt))) (dCons (dv 12) dNil)))))) dNil)) (fun _ _ _ => mut_of mut_app)))))) dsNil)
      (dsOne (dRet (dv 2)))))))
theorem ok__law_calls (T : Tx K mg) : FnOk P w K mg base (L2.CX P w) 1 T.a__law_calls T.fd__law_calls ["_law_items"] (spV K 1 fn__law_calls) := by
  have e : spV K 1 fn__law_calls = spV K ["_law_items"].length (runV m__law_calls N__law_calls.length) := rfl
  rw [e]
  refine okV2 (sc := ?sc) (bd := ?bd) (m := m__law_calls) T.F__law_calls sc__law_calls ?h1 ?h2 ?hb
  case h1 => conv => lhs; whnf
  case h2 => conv => lhs; whnf
  case hb => exact fun cdv A outer s H E hr => (by exact
    (dsCons (dsN (i := 1) sc__law_calls.nd (dLstN dNil))
      (dsCons (dsCompN (i := 2) (own := [("_law_at", 11), ("_law_item", 12)]) rfl sc__law_calls.nd (sw_true rfl rfl rfl (by decide +kernel)) (diEnum (T.z_enumerate) (dCons (dv 0) dNil)) (blkOk_by (N := N__law_calls) (sc := defScope s__law_calls) (by decide +kernel)) (fun _ _ _ _ _ => pg_tup rfl (pgs_cons (pg_name (i := 11) sc__law_calls.nd rfl (by first | exact Or.inl rfl | exact Or.inr rfl)) (pgs_cons (pg_name (i := 12) sc__law_calls.nd rfl (by first | exact Or.inl rfl | exact Or.inr rfl)) pgs_nil))) (fun _ _ _ _ _ => pts_one (dtCmp (op_eqD hr.units) opD_eq (nomark _) (dIxL (pv 12) (dP (dInt))) (dP (dStr)))) (fun _ _ _ _ _ => (dv 11)) (ctTup (is := [11, 12]) (by decide)) (fun _ _ _ q => q))
      (dsCons (dFor (passes_of rfl) rfl (diSeq (dv 2)) (dgName (i := 3) sc__law_calls.nd) (mb := L__law_calls_0) (dsCons (dsCompN (i := 4) (own := [("_law_at", 11)]) rfl sc__law_calls.nd (sw_true rfl rfl rfl (by decide +kernel)) (diRng2 (T.z_range) (dCons (dOpL or_addA opD_add (pv 3) (dP (dInt))) (dCons (dB1 cr_len cd_len (T.z_len) b_len (dpk 0)) dNil))) (blkOk_by (N := N__law_calls) (sc := defScope s__law_calls) (by decide +kernel)) (fun _ _ _ _ _ => pg_name (i := 11) sc__law_calls.nd rfl (by first | exact Or.inl rfl | exact Or.inr rfl)) (fun _ _ _ _ _ => pts_one (dtCmp op_in_seq (opD_in false) (by rfl) (dIx (dIxL (pv 0) (dpk 11)) (dP (dInt))) (dP (dTup (dCons (dStr) (dCons (dStr) dNil)))))) (fun _ _ _ _ _ => (dv 11)) (ctName (by decide)) (fun _ _ _ q => q))
      (dsCons (dSet (i := 5) sc__law_calls.nd (dIx (dOpL or_addA opD_add (pv 4) (dP (dLst (dCons (dB1 cr_len cd_len (T.z_len) b_len (dpk 0)) dNil)))) (dP (dInt))))
      (dsCons (dIfS ((dwAnd (dtCmpL (op_neD hr.units) opD_ne (nomark _) (pv 4) (dP (dLst dNil))) (dwAnd1 (dtCmp (op_eqD hr.units) opD_eq (nomark _) (dIx (dIxL (pv 0) (dpk 5)) (dP (dInt))) (dP (dStr))))).pt) (dsOne (dSet (i := 5) sc__law_calls.nd (dOpL or_addA opD_add (pv 5) (dP (dInt))))) dsNil)
      (dsCons (dSet (i := 6) sc__law_calls.nd (dSlL (pv 0) (dPart (dv 3)) (dPart (dv 5))))
      (dsCons (dsCompN (i := 7) (own := [("_law_item", 12)]) rfl sc__law_calls.nd (sw_true rfl rfl rfl (by decide +kernel)) (diSeq (dv 6)) (blkOk_by (N := N__law_calls) (sc := defScope s__law_calls) (by decide +kernel)) (fun _ _ _ _ _ => pg_name (i := 12) sc__law_calls.nd rfl (by first | exact Or.inl rfl | exact Or.inr rfl)) (fun _ _ _ _ _ => pts_one (dtCmp op_in_seq (opD_in false) (by rfl) (dIxL (pv 12) (dP (dInt))) (dP (dTup (dCons (dStr) (dCons (dStr) dNil)))))) (fun _ _ _ _ _ => (dv 12)) (ctName (by decide)) (fun _ _ _ q => q))
      (dsCons (dSet (i := 8) sc__law_calls.nd (dTup (dCons (dStr) (dCons (dStr) dNil))))
      (dsCons (dIfS ((dwAnd (dtCmpL (op_neD hr.units) opD_ne (nomark _) (pv 4) (dP (dLst dNil))) (dwAnd1 (dtCmp (op_neD hr.units) opD_ne (nomark _) (dVal (m := C__law_calls_3) (dCompN (own := [("_law_item", 12)]) rfl sc__law_calls.nd (diSeq (dv 6)) (blkOk_by (N := N__law_calls) (sc := defScope s__law_calls) (by decide +kernel)) (fun _ _ _ _ _ => pg_name (i := 12) sc__law_calls.nd rfl (by first | exact Or.inl rfl | exact Or.inr rfl)) (fun _ _ _ _ _ => pts_one (dtCmp (op_eqD hr.units) opD_eq (nomark _) (dIxL (pv 12) (dP (dInt))) (dP (dStr)))) (fun _ _ _ _ _ => (dv 12)) (ctName (by decide)) (fun _ _ _ q => q))) (dP (dLst dNil))))).pt) (dsOne (dSet (i := 8) sc__law_calls.nd (dTup (dCons (dStr) (dCons (dStr) dNil))))) (dsOne (dIfS ((dwAnd (dtCmpL (op_neD hr.units) opD_ne (nomark _) (pv 4) (dP (dLst dNil))) (dwAnd1 (dtCmpL (op_eqD hr.units) opD_eq (nomark _) (pv 7) (dP (dLst dNil))))).pt) (dsOne (dSet (i := 8) sc__law_calls.nd (dTup (dCons (dStr) (dCons (dStr) dNil))))) (dsOne (dIfS (dtCmpL (op_neD hr.units) opD_ne (nomark _) (pv 4) (dP (dLst dNil))) (dsCons (dSet (i := 9) sc__law_calls.nd (dIx (dIxL (pv 7) (dP (dInt))) (dP (dInt))))
      (dsCons (dSet (i := 10) sc__law_calls.nd (dIx (dLst (dCons (dStr) (dCons (dStr) dNil))) (dP (dOp op_mod opD_mod (dTy1 call_int1 cd_int (T.z_int) b_int (dpk 9)) (dP (dInt))))))
      (dsOne (dSet (i := 8) sc__law_calls.nd (dTup (dCons (dStr) (dCons (dTup (dCons (dOpL op_fdivW opD_div (pv 9) (dP (dInt))) (dCons (dv 10) (dCons (dTy1 call_tuple_of cd_tuple (T.z_tuple) b_tuple (dP (dVal (m := C__law_calls_4) (dCompN (own := [("_law_item", 12)]) rfl sc__law_calls.nd (diSeq (dSlL (pv 7) (dPart (dInt)) dNoPart)) (blkOk_by (N := N__law_calls) (sc := defScope s__law_calls) (by decide +kernel)) (fun _ _ _ _ _ => pg_name (i := 12) sc__law_calls.nd rfl (by first | exact Or.inl rfl | exact Or.inr rfl)) (fun _ _ _ _ _ => pts_nil) (fun _ _ _ _ _ => (dIxL (pv 12) (dP (dInt)))) (ctName (by decide)) (fun _ _ _ => tYes_of))))) (dCons (dCmp (op_eqD hr.units) opD_eq (nomark _) (dIx (dIxL (pv 7) (dP (dInt))) (dP (dInt))) (dP (dStr))) dNil))))) dNil))))))) dsNil)))))
      (dsOne (dExpr (PE.imp (pe_bm PySem.F.plainAttrs_list PySem.F.slot_list_append PySem.F.type_list_append mt_append (pv 1) (dCons (dOpL or_addA opD_add (pv 8) (dP (dTup (dCons (dIx (dIxL (pv 6) (dP (dInt))) (dP (dInt))) (dCons (dIx (dIxL (pv 6) (dP (dOp op_sub opD_sub (dB1 cr_len cd_len (T.z_len) b_len (dpk 6)) (dP (dInt))))) (dP (dInt))) (dCons (dTy1 call_tuple_of cd_tuple (T.z_tuple) b_tuple (dP (dVal (dLstRg2 rfl (T.z_list) (T.z_range) (dv 3) (dv 5))))) dNil)))))) dNil)) (fun _ _ _ => mut_of mut_app))))))))))))
      (dsOne (dRet (dv 1)))))))
theorem ok_law (T : Tx K mg) : LawFn P w K mg base T.a_law T.fd_law "_law_script" 8 fn_law := by
  have e : fn_law = runL m_law N_law.length := rfl
  rw [e]
  refine lawFn_of (sc := ?sc) (bd := ?bd) (m := m_law) T.F_law sc_law ?h1 ?h2 ?hb
  case h1 => conv => lhs; whnf
  case h2 => conv => lhs; whnf
  case hb => exact fun cdv s H E hr => (by exact
    (dsCons (dFor (passes_of rfl) rfl (diRng1 (T.z_range) (dCons (dBn (call_max2 rfl) cd_max2 (T.z_max) b_max (dCons (dInt) (dCons (dBn (call_min2 rfl) cd_min2 (T.z_min) b_min (dCons (dInt) (dCons (dScrLen (T.z_len) (pv 0)) dNil))) dNil))) dNil)) (dgName (i := 1) sc_law.nd) (mb := L_law_1) (dsCons (dCallSt (i := 2) (ok__law_box T) (hr.mono (by decide)) T.g__law_box T.F__law_box.kp T.b__law_box (takes_of rfl rfl rfl rfl) sc_law.nd (pv 0) (dCons (dv 1) dNil))
      (dsCons (dParEE (i := 3) (j := 4) rfl sc_law.nd (by decide) (dCallB (ok__law_twowire T) (hr.mono (by decide)) T.g__law_twowire T.F__law_twowire.kp T.b__law_twowire (takes_of rfl rfl rfl rfl) (pv 2) (dCons (dInt) dNil)) (dCallB (ok__law_twowire T) (hr.mono (by decide)) T.g__law_twowire T.F__law_twowire.kp T.b__law_twowire (takes_of rfl rfl rfl rfl) (pv 2) (dCons (dInt) dNil)))
      (dsOne (dFor (passes_of rfl) rfl (diSeq (dTup (dCons (dv 3) (dCons (dv 4) (dCons (dv 3) (dCons (dSlL (pv 3) dNoPart (dPart (dCallB (ok__law_take T) (hr.mono (by decide)) T.g__law_take T.F__law_take.kp T.b__law_take (takes_of rfl rfl rfl rfl) (pv 2) (dCons (dOp or_addA opD_add (dB1 cr_len cd_len (T.z_len) b_len (dpk 3)) (dP (dInt))) dNil)))) dNil)))))) (dgName (i := 5) sc_law.nd) (mb := L_law_0) (dsCons (dSet (i := 6) sc_law.nd (dB1 (cr_reprG rfl hr.units) cd_reprG (T.z_repr) b_repr (dpk 5)))
      (dsCons (dSet (i := 7) sc_law.nd (dTy1 call_tuple_of cd_tuple (T.z_tuple) b_tuple (dP (dCallV (ok__law_calls T) (hr.mono (by decide)) T.g__law_calls T.F__law_calls.kp T.b__law_calls (takes_of rfl rfl rfl rfl) (dCons (dv 5) dNil)))))
      (dsCons (dIfS ((dwOr (dtNot (dTru (dP (dCallV (ok__law_alike T 6) (hr.mono (by decide)) T.g__law_alike T.F__law_alike.kp T.b__law_alike (takes_of rfl rfl rfl rfl) (dCons (dCallV (ok_calls_in T) (hr.mono (by decide)) T.g_calls_in T.F_calls_in.kp T.b_calls_in (takes_of rfl rfl rfl rfl) (dCons (dTy1 call_tuple_of cd_tuple (T.z_tuple) b_tuple (dpk 5)) dNil)) (dCons (dv 7) dNil)))))) (dwOr1 (dtNot (dTru (dP (dCallV (ok__law_alike T 6) (hr.mono (by decide)) T.g__law_alike T.F__law_alike.kp T.b__law_alike (takes_of rfl rfl rfl rfl) (dCons (dCallV (ok_calls_in T) (hr.mono (by decide)) T.g_calls_in T.F_calls_in.kp T.b_calls_in (takes_of rfl rfl rfl rfl) (dCons (dv 5) dNil)) (dCons (dv 7) dNil)))))))).pt) (dsOne (dRet (dBl))) dsNil)
      (dsOne (dIfS (dtCmp (op_neD hr.units) opD_ne (nomark _) (dB1 (cr_reprG rfl hr.units) cd_reprG (T.z_repr) b_repr (dpk 5)) (dpk 6)) (dsOne (dRet (dBl))) dsNil))))))))))
      (dsOne (dRet (dBl)))))
end
end Pf

namespace Pf
open PySem PySem.Spec L2 Dd
/-! ### spans -/
abbrev Pr := Int × Int
def Inn (ss : List Pr) (m : Int) : Prop := ∃ s ∈ ss, s.1 ≤ m ∧ m < s.2
def Can (ss : List Pr) : Prop := (∀ s ∈ ss, s.1 < s.2) ∧ ss.Pairwise (fun s t => s.2 < t.1)
theorem Inn.nil {m : Int} : ¬ Inn [] m := fun ⟨_, h, _⟩ => by cases h
theorem inn_cons {s : Pr} {ss : List Pr} {m : Int} : Inn (s :: ss) m ↔ (s.1 ≤ m ∧ m < s.2) ∨ Inn ss m := by
  constructor
  · rintro ⟨t, h, q⟩
    rcases List.mem_cons.mp h with rfl | h
    · exact .inl q
    · exact .inr ⟨t, h, q⟩
  · rintro (q | ⟨t, h, q⟩)
    · exact ⟨s, List.mem_cons_self, q⟩
    · exact ⟨t, List.mem_cons_of_mem _ h, q⟩
theorem inn_app {a b : List Pr} {m : Int} : Inn (a ++ b) m ↔ Inn a m ∨ Inn b m := by
  constructor
  · rintro ⟨t, h, q⟩
    rcases List.mem_append.mp h with h | h
    · exact .inl ⟨t, h, q⟩
    · exact .inr ⟨t, h, q⟩
  · rintro (⟨t, h, q⟩ | ⟨t, h, q⟩)
    · exact ⟨t, List.mem_append.mpr (.inl h), q⟩
    · exact ⟨t, List.mem_append.mpr (.inr h), q⟩
theorem inn_one {s : Pr} {m : Int} : Inn [s] m ↔ s.1 ≤ m ∧ m < s.2 := by
  rw [inn_cons]
  exact ⟨fun h => h.elim id fun h => absurd h Inn.nil, .inl⟩
theorem inn_perm {a b : List Pr} (h : a.Perm b) (m : Int) : Inn a m ↔ Inn b m :=
  ⟨fun ⟨t, k, q⟩ => ⟨t, h.mem_iff.mp k, q⟩, fun ⟨t, k, q⟩ => ⟨t, h.mem_iff.mpr k, q⟩⟩
theorem Can.tail {s : Pr} {ss : List Pr} (h : Can (s :: ss)) : Can ss := ⟨fun t ht => h.1 t (List.mem_cons_of_mem _ ht), (List.pairwise_cons.mp h.2).2⟩
theorem Can.lt {s : Pr} {ss : List Pr} {m : Int} (h : Can (s :: ss)) (q : Inn ss m) : s.2 < m := by
  obtain ⟨t, ht, a, b⟩ := q
  have := (List.pairwise_cons.mp h.2).1 t ht
  omega
theorem can_uniq : ∀ {a b : List Pr}, Can a → Can b → (∀ m, Inn a m ↔ Inn b m) → a = b
  | [], [], _, _, _ => rfl
  | [], t :: q, _, hb, h => absurd ((h t.1).mpr (inn_cons.mpr (.inl ⟨Int.le_refl _, hb.1 t List.mem_cons_self⟩))) Inn.nil
  | s :: r, [], ha, _, h => absurd ((h s.1).mp (inn_cons.mpr (.inl ⟨Int.le_refl _, ha.1 s List.mem_cons_self⟩))) Inn.nil
  | s :: r, t :: q, ha, hb, h => by
    have s0 := ha.1 s List.mem_cons_self
    have t0 := hb.1 t List.mem_cons_self
    have e1 : s.1 = t.1 := by
      have k1 := (h s.1).mp (inn_cons.mpr (.inl ⟨Int.le_refl _, s0⟩))
      have k2 := (h t.1).mpr (inn_cons.mpr (.inl ⟨Int.le_refl _, t0⟩))
      rcases inn_cons.mp k1 with k1 | k1 <;> rcases inn_cons.mp k2 with k2 | k2
      · omega
      · have := ha.lt k2; omega
      · have := hb.lt k1; omega
      · have := ha.lt k2; have := hb.lt k1; omega
    have e2 : s.2 = t.2 := by
      rcases Int.lt_trichotomy s.2 t.2 with k | k | k
      · have k1 := (h s.2).mpr (inn_cons.mpr (.inl ⟨by omega, k⟩))
        rcases inn_cons.mp k1 with k1 | k1
        · omega
        · have := ha.lt k1; omega
      · exact k
      · have k1 := (h t.2).mp (inn_cons.mpr (.inl ⟨by omega, k⟩))
        rcases inn_cons.mp k1 with k1 | k1
        · omega
        · have := hb.lt k1; omega
    have e : s = t := Prod.ext e1 e2
    subst e
    rw [can_uniq ha.tail hb.tail fun m => ?_]
    constructor
    · intro k
      have k1 := ha.lt k
      rcases inn_cons.mp ((h m).mp (inn_cons.mpr (.inr k))) with k2 | k2
      · omega
      · exact k2
    · intro k
      have k1 := hb.lt k
      rcases inn_cons.mp ((h m).mpr (inn_cons.mpr (.inr k))) with k2 | k2
      · omega
      · exact k2
/-! ### putting pairs together, in order -/
def stepS (found : List Pr) (p : Pr) : List Pr := match found.getLast? with
  | some l => if p.1 ≤ l.2 then found.dropLast ++ [(l.1, if p.2 > l.2 then p.2 else l.2)] else if p.1 < p.2 then found ++ [p] else found
  | none => if p.1 < p.2 then found ++ [p] else found
theorem can_snoc {a : List Pr} {p : Pr} (h : Can a) (hp : p.1 < p.2) (hl : ∀ s ∈ a, s.2 < p.1) : Can (a ++ [p]) := by
  refine ⟨fun s hs => ?_, List.pairwise_append.mpr ⟨h.2, List.pairwise_singleton _ _, fun s hs t ht => ?_⟩⟩
  · rcases List.mem_append.mp hs with hs | hs
    · exact h.1 s hs
    · rw [List.mem_singleton.mp hs]; exact hp
  · rw [List.mem_singleton.mp ht]; exact hl s hs
theorem can_init {a : List Pr} {l : Pr} (h : Can (a ++ [l])) : Can a ∧ l.1 < l.2 ∧ ∀ s ∈ a, s.2 < l.1 := by
  obtain ⟨h1, h2⟩ := h
  obtain ⟨p1, _, p3⟩ := List.pairwise_append.mp h2
  exact ⟨⟨fun s hs => h1 s (List.mem_append.mpr (.inl hs)), p1⟩, h1 l (List.mem_append.mpr (.inr List.mem_cons_self)), fun s hs => p3 s hs l List.mem_cons_self⟩
theorem step_snoc (a : List Pr) (l p : Pr) : stepS (a ++ [l]) p = if p.1 ≤ l.2 then a ++ [(l.1, if p.2 > l.2 then p.2 else l.2)] else if p.1 < p.2 then a ++ [l] ++ [p] else a ++ [l] := by
  unfold stepS
  rw [List.getLast?_append]
  simp
theorem nil_or_snoc : ∀ (a : List Pr), a = [] ∨ ∃ b l, a = b ++ [l]
  | [] => .inl rfl
  | x :: a => by
    rcases nil_or_snoc a with rfl | ⟨b, l, rfl⟩
    · exact .inr ⟨[], x, rfl⟩
    · exact .inr ⟨x :: b, l, rfl⟩
theorem step_ok {found : List Pr} {p : Pr} (h : Can found) (hb : ∀ s ∈ found, s.1 ≤ p.1) : Can (stepS found p) ∧ (∀ s ∈ stepS found p, s.1 ≤ p.1) ∧ ∀ m, Inn (stepS found p) m ↔ Inn found m ∨ (p.1 ≤ m ∧ m < p.2) := by
  rcases nil_or_snoc found with rfl | ⟨a, l, rfl⟩
  · have e : stepS [] p = if p.1 < p.2 then [p] else [] := rfl
    rw [e]
    split
    · rename_i hp
      refine ⟨⟨fun s hs => by rw [List.mem_singleton.mp hs]; exact hp, List.pairwise_singleton _ _⟩, fun s hs => by rw [List.mem_singleton.mp hs]; exact Int.le_refl _, fun m => ?_⟩
      rw [inn_one]
      exact ⟨.inr, fun k => k.elim (fun k => absurd k Inn.nil) id⟩
    · rename_i hp
      refine ⟨h, hb, fun m => ⟨.inl, fun k => k.elim id fun k => by omega⟩⟩
  · obtain ⟨ha, hl, hal⟩ := can_init h
    have hlp : l.1 ≤ p.1 := hb l (List.mem_append.mpr (.inr List.mem_cons_self))
    have hap : ∀ s ∈ a, s.1 ≤ p.1 := fun s hs => hb s (List.mem_append.mpr (.inl hs))
    rw [step_snoc]
    split
    · rename_i hp
      refine ⟨can_snoc ha (by show l.1 < _; split <;> omega) hal, fun s hs => ?_, fun m => ?_⟩
      · rcases List.mem_append.mp hs with hs | hs
        · exact hap s hs
        · rw [List.mem_singleton.mp hs]; exact hlp
      · rw [inn_app, inn_app, inn_one, inn_one]
        have : (l.1 ≤ m ∧ m < (if p.2 > l.2 then p.2 else l.2)) ↔ ((l.1 ≤ m ∧ m < l.2) ∨ (p.1 ≤ m ∧ m < p.2)) := by
          split <;> omega
        show _ ∨ (l.1 ≤ m ∧ m < (if p.2 > l.2 then p.2 else l.2)) ↔ _
        rw [this, or_assoc]
    · rename_i hp
      split
      · rename_i hq
        refine ⟨can_snoc h hq fun s hs => ?_, fun s hs => ?_, fun m => ?_⟩
        · rcases List.mem_append.mp hs with hs | hs
          · have := hal s hs; omega
          · rw [List.mem_singleton.mp hs]; omega
        · rcases List.mem_append.mp hs with hs | hs
          · exact hb s hs
          · rw [List.mem_singleton.mp hs]; exact Int.le_refl _
        · rw [inn_app (b := [p]), inn_one]
      · rename_i hq
        exact ⟨h, hb, fun m => ⟨.inl, fun k => k.elim id fun k => by omega⟩⟩
def spansP (ps : List Pr) : List Pr := (sortP ps).foldl stepS []
theorem fold_ok : ∀ (qs found : List Pr), Can found → qs.Pairwise (fun a b => leP a b = true) → (∀ s ∈ found, ∀ q ∈ qs, s.1 ≤ q.1) → Can (qs.foldl stepS found) ∧ ∀ m, Inn (qs.foldl stepS found) m ↔ Inn found m ∨ Inn qs m
  | [], found, h, _, _ => ⟨h, fun m => ⟨.inl, fun k => k.elim id fun k => absurd k Inn.nil⟩⟩
  | q :: qs, found, h, hp, hb => by
    obtain ⟨p1, p2⟩ := List.pairwise_cons.mp hp
    obtain ⟨a1, a2, a3⟩ := step_ok h (fun s hs => hb s hs q List.mem_cons_self)
    obtain ⟨b1, b2⟩ := fold_ok qs (stepS found q) a1 p2 fun s hs t ht => by
      have := a2 s hs
      have := leP_iff.mp (p1 t ht)
      omega
    refine ⟨b1, fun m => ?_⟩
    show Inn (qs.foldl stepS (stepS found q)) m ↔ _
    rw [b2 m, a3 m, inn_cons, or_assoc]
theorem spansP_can (ps : List Pr) : Can (spansP ps) := (fold_ok (sortP ps) [] ⟨fun s hs => (by cases hs), List.Pairwise.nil⟩ (sortP_pw ps) fun s hs => by cases hs).1
theorem spansP_inn (ps : List Pr) (m : Int) : Inn (spansP ps) m ↔ Inn ps m := by
  rw [spansP, (fold_ok (sortP ps) [] ⟨fun s hs => (by cases hs), List.Pairwise.nil⟩ (sortP_pw ps) fun s hs => by cases hs).2 m]
  rw [inn_perm (sortP_perm ps) m]
  exact ⟨fun k => k.elim (fun k => absurd k Inn.nil) id, .inr⟩
theorem spansP_eq {ps ss : List Pr} (h : Can ss) (hm : ∀ m, Inn ps m ↔ Inn ss m) : spansP ps = ss := can_uniq (spansP_can ps) h fun m => (spansP_inn ps m).trans (hm m)
theorem step_len (found : List Pr) (p : Pr) : (stepS found p).length ≤ found.length + 1 := by
  rcases nil_or_snoc found with rfl | ⟨a, l, rfl⟩
  · have e : stepS [] p = if p.1 < p.2 then [p] else [] := rfl
    rw [e]; split <;> simp
  · rw [step_snoc]; split
    · simp
    · split <;> simp
/-! ### times a number, and so much later -/
def scaleP (t c : Int) (p : Pr) : Pr := (p.1 * t + c, p.2 * t + c)
theorem scale_can {t c : Int} (ht : 0 < t) {ss : List Pr} (h : Can ss) : Can (ss.map (scaleP t c)) := by
  refine ⟨fun s hs => ?_, List.pairwise_map.mpr (h.2.imp fun {x y} k => ?_)⟩
  · obtain ⟨u, hu, rfl⟩ := List.mem_map.mp hs
    have := h.1 u hu
    show u.1 * t + c < u.2 * t + c
    have := Int.mul_lt_mul_of_pos_right this ht
    omega
  · show x.2 * t + c < y.1 * t + c
    have := Int.mul_lt_mul_of_pos_right k ht
    omega
theorem scale_inn {t c : Int} (ht : 0 < t) (ss : List Pr) (m : Int) : Inn (ss.map (scaleP t c)) m ↔ Inn ss ((m - c) / t) := by
  constructor
  · rintro ⟨s, hs, a, b⟩
    obtain ⟨u, hu, rfl⟩ := List.mem_map.mp hs
    refine ⟨u, hu, ?_, ?_⟩
    · exact (Int.le_ediv_iff_mul_le ht).mpr (by have : u.1 * t + c ≤ m := a; omega)
    · exact (Int.ediv_lt_iff_lt_mul ht).mpr (by have : m < u.2 * t + c := b; omega)
  · rintro ⟨u, hu, a, b⟩
    refine ⟨_, List.mem_map.mpr ⟨u, hu, rfl⟩, ?_, ?_⟩
    · have := (Int.le_ediv_iff_mul_le ht).mp a
      show u.1 * t + c ≤ m
      omega
    · have := (Int.ediv_lt_iff_lt_mul ht).mp b
      show m < u.2 * t + c
      omega
end Pf

namespace Pf
open PySem PySem.Spec L2 Dd
/-! ### sets of spans put together -/
theorem can_nil : Can [] := ⟨fun s hs => (by cases hs), List.Pairwise.nil⟩
theorem can_cons {s : Pr} {ss : List Pr} (h : Can ss) (h1 : s.1 < s.2) (h2 : ∀ t ∈ ss, s.2 < t.1) : Can (s :: ss) :=
  ⟨fun t ht => (List.mem_cons.mp ht).elim (fun e => by rw [e]; exact h1) (h.1 t), List.pairwise_cons.mpr ⟨h2, h.2⟩⟩
theorem Can.hd {s : Pr} {ss : List Pr} (h : Can (s :: ss)) : s.1 < s.2 := h.1 s List.mem_cons_self
theorem Can.gap {s : Pr} {ss : List Pr} (h : Can (s :: ss)) : ∀ t ∈ ss, s.2 < t.1 := (List.pairwise_cons.mp h.2).1
def mxI (x y : Int) : Int := if y > x then y else x
def mnI (x y : Int) : Int := if y < x then y else x
theorem mxI_p (x y : Int) : x ≤ mxI x y ∧ y ≤ mxI x y ∧ (mxI x y = x ∨ mxI x y = y) := by unfold mxI; split <;> omega
theorem mnI_p (x y : Int) : mnI x y ≤ x ∧ mnI x y ≤ y ∧ (mnI x y = x ∨ mnI x y = y) := by unfold mnI; split <;> omega
def bothP : List Pr → List Pr → List Pr
  | a :: as, b :: bs => (if (mxI a.1 b.1) < (mnI a.2 b.2) then [((mxI a.1 b.1), (mnI a.2 b.2))] else []) ++ if a.2 < b.2 then bothP as (b :: bs) else bothP (a :: as) bs
  | _, _ => []
termination_by a b => a.length + b.length
theorem both_nil (b : List Pr) : bothP [] b = [] := by unfold bothP; rfl
theorem both_nil2 (a : List Pr) : bothP a [] = [] := by cases a <;> (unfold bothP; rfl)
theorem both_low (x : Int) : ∀ (n : Nat) (a b : List Pr), a.length + b.length ≤ n → Can a → Can b → ((∀ t ∈ a, x < t.1) ∨ (∀ t ∈ b, x < t.1)) → ∀ s ∈ bothP a b, x < s.1
  | n, [], b, _, _, _, _, s, hs => by rw [both_nil] at hs; cases hs
  | n, a :: as, [], _, _, _, _, s, hs => by rw [both_nil2] at hs; cases hs
  | 0, a :: as, b :: bs, hn, _, _, _, _, _ => by simp at hn
  | n + 1, a :: as, b :: bs, hn, ha, hb, hx, s, hs => by
    simp only [List.length_cons] at hn
    unfold bothP at hs
    rcases List.mem_append.mp hs with hs | hs
    · split at hs
      · rw [List.mem_singleton.mp hs]
        show x < (mxI a.1 b.1)
        have A := mxI_p a.1 b.1
        rcases hx with hx | hx
        · have := hx a List.mem_cons_self
          omega
        · have := hx b List.mem_cons_self
          omega
      · cases hs
    · split at hs
      · refine both_low x n as (b :: bs) (by simp only [List.length_cons]; omega) ha.tail hb ?_ s hs
        exact hx.imp (fun h t ht => h t (List.mem_cons_of_mem _ ht)) id
      · refine both_low x n (a :: as) bs (by simp only [List.length_cons]; omega) ha hb.tail ?_ s hs
        exact hx.imp id (fun h t ht => h t (List.mem_cons_of_mem _ ht))
theorem both_ok : ∀ (n : Nat) (a b : List Pr), a.length + b.length ≤ n → Can a → Can b → Can (bothP a b) ∧ ∀ m, Inn (bothP a b) m ↔ Inn a m ∧ Inn b m
  | n, [], b, _, _, _ => by
    rw [both_nil]
    exact ⟨can_nil, fun m => ⟨fun k => absurd k Inn.nil, fun k => k.1⟩⟩
  | n, a :: as, [], _, _, _ => by
    rw [both_nil2]
    exact ⟨can_nil, fun m => ⟨fun k => absurd k Inn.nil, fun k => k.2⟩⟩
  | 0, a :: as, b :: bs, hn, _, _ => by simp at hn
  | n + 1, a :: as, b :: bs, hn, ha, hb => by
    simp only [List.length_cons] at hn
    have ga := ha.gap
    have gb := hb.gap
    have a0 := ha.hd
    have b0 := hb.hd
    unfold bothP
    by_cases q : a.2 < b.2
    · rw [if_pos q]
      obtain ⟨r1, r2⟩ := both_ok n as (b :: bs) (by simp only [List.length_cons]; omega) ha.tail hb
      have low := both_low a.2 n as (b :: bs) (by simp only [List.length_cons]; omega) ha.tail hb (.inl ga)
      have A := mxI_p a.1 b.1
      have hmin : (mnI a.2 b.2) = a.2 := by have := mnI_p a.2 b.2; omega
      rw [hmin]
      have key : ∀ m, (Inn (a :: as) m ∧ Inn (b :: bs) m) ↔ (((mxI a.1 b.1) ≤ m ∧ m < a.2) ∨ (Inn as m ∧ Inn (b :: bs) m)) := fun m => by
        constructor
        · rintro ⟨h1, h2⟩
          rcases inn_cons.mp h1 with h1 | h1
          · rcases inn_cons.mp h2 with h2 | h2
            · exact .inl ⟨by omega, h1.2⟩
            · have := hb.lt h2; omega
          · exact .inr ⟨h1, h2⟩
        · rintro (⟨h1, h2⟩ | ⟨h1, h2⟩)
          · have : a.1 ≤ m ∧ b.1 ≤ m := by omega
            exact ⟨inn_cons.mpr (.inl ⟨this.1, h2⟩), inn_cons.mpr (.inl ⟨this.2, by omega⟩)⟩
          · exact ⟨inn_cons.mpr (.inr h1), h2⟩
      split
      · rename_i h
        refine ⟨can_cons r1 h low, fun m => ?_⟩
        rw [key m, ← r2 m]
        exact inn_cons
      · rename_i h
        refine ⟨r1, fun m => ?_⟩
        rw [key m, ← r2 m]
        exact ⟨.inr, fun k => k.elim (fun k => by omega) id⟩
    · rw [if_neg q]
      obtain ⟨r1, r2⟩ := both_ok n (a :: as) bs (by simp only [List.length_cons]; omega) ha hb.tail
      have low := both_low b.2 n (a :: as) bs (by simp only [List.length_cons]; omega) ha hb.tail (.inr gb)
      have A := mxI_p a.1 b.1
      have hmin : (mnI a.2 b.2) = b.2 := by have := mnI_p a.2 b.2; omega
      rw [hmin]
      have key : ∀ m, (Inn (a :: as) m ∧ Inn (b :: bs) m) ↔ (((mxI a.1 b.1) ≤ m ∧ m < b.2) ∨ (Inn (a :: as) m ∧ Inn bs m)) := fun m => by
        constructor
        · rintro ⟨h1, h2⟩
          rcases inn_cons.mp h2 with h2 | h2
          · rcases inn_cons.mp h1 with h1 | h1
            · exact .inl ⟨by omega, h2.2⟩
            · have := ha.lt h1; omega
          · exact .inr ⟨h1, h2⟩
        · rintro (⟨h1, h2⟩ | ⟨h1, h2⟩)
          · have : a.1 ≤ m ∧ b.1 ≤ m := by omega
            exact ⟨inn_cons.mpr (.inl ⟨this.1, by omega⟩), inn_cons.mpr (.inl ⟨this.2, h2⟩)⟩
          · exact ⟨h1, inn_cons.mpr (.inr h2)⟩
      split
      · rename_i h
        refine ⟨can_cons r1 h low, fun m => ?_⟩
        rw [key m, ← r2 m]
        exact inn_cons
      · rename_i h
        refine ⟨r1, fun m => ?_⟩
        rw [key m, ← r2 m]
        exact ⟨.inr, fun k => k.elim (fun k => by omega) id⟩
theorem both_can {a b : List Pr} (ha : Can a) (hb : Can b) : Can (bothP a b) := (both_ok _ a b (Nat.le_refl _) ha hb).1
theorem both_inn {a b : List Pr} (ha : Can a) (hb : Can b) (m : Int) : Inn (bothP a b) m ↔ Inn a m ∧ Inn b m := (both_ok _ a b (Nat.le_refl _) ha hb).2 m
/-- what is not in them, from at on, below a number -/
def othersP (below : Int) : Int → List Pr → List Pr
  | at', [] => if at' < below then [(at', below)] else []
  | at', s :: ss => (if at' < (mnI s.1 below) then [(at', mnI s.1 below)] else []) ++ othersP below s.2 ss
theorem others_ok (below : Int) : ∀ (ss : List Pr) (at' : Int), Can ss → (∀ s ∈ ss, at' ≤ s.1) → Can (othersP below at' ss) ∧ (∀ t ∈ othersP below at' ss, at' ≤ t.1) ∧ ∀ m, Inn (othersP below at' ss) m ↔ at' ≤ m ∧ m < below ∧ ¬ Inn ss m
  | [], at', _, _ => by
    unfold othersP
    split
    · rename_i h
      refine ⟨can_cons can_nil h (fun t ht => (by cases ht)), fun t ht => by rw [List.mem_singleton.mp ht]; exact Int.le_refl _, fun m => ?_⟩
      rw [inn_one]
      exact ⟨fun k => ⟨k.1, k.2, Inn.nil⟩, fun k => ⟨k.1, k.2.1⟩⟩
    · rename_i h
      exact ⟨can_nil, fun t ht => (by cases ht), fun m => ⟨fun k => absurd k Inn.nil, fun k => by omega⟩⟩
  | s :: ss, at', hc, hl => by
    have s0 := hc.hd
    have g := hc.gap
    have l := hl s List.mem_cons_self
    have A := mnI_p s.1 below
    obtain ⟨r1, r2, r3⟩ := others_ok below ss s.2 hc.tail fun t ht => by have := g t ht; omega
    unfold othersP
    have key : ∀ m, (at' ≤ m ∧ m < below ∧ ¬ Inn (s :: ss) m) ↔ ((at' ≤ m ∧ m < (mnI s.1 below)) ∨ (s.2 ≤ m ∧ m < below ∧ ¬ Inn ss m)) := fun m => by
      rw [inn_cons]
      constructor
      · rintro ⟨h1, h2, h3⟩
        by_cases q : m < s.1
        · exact .inl ⟨h1, by omega⟩
        · exact .inr ⟨by by_cases z : s.2 ≤ m; exact z; exact absurd (.inl ⟨by omega, by omega⟩) h3, h2, fun k => h3 (.inr k)⟩
      · rintro (⟨h1, h2⟩ | ⟨h1, h2, h3⟩)
        · have : m < below ∧ m < s.1 := by omega
          exact ⟨h1, this.1, fun k => k.elim (fun k => by omega) fun k => by have := hc.lt k; omega⟩
        · exact ⟨by omega, h2, fun k => k.elim (fun k => by omega) h3⟩
    split
    · rename_i h
      refine ⟨can_cons r1 h fun t ht => ?_, fun t ht => ?_, fun m => ?_⟩
      · have := r2 t ht
        show (mnI s.1 below) < t.1
        omega
      · rcases List.mem_cons.mp ht with rfl | ht
        · exact Int.le_refl _
        · have := r2 t ht; omega
      · rw [key m, ← r3 m]
        exact inn_cons
    · rename_i h
      refine ⟨r1, fun t ht => ?_, fun m => ?_⟩
      · have := r2 t ht
        show at' ≤ t.1
        omega
      · rw [key m, ← r3 m]
        exact ⟨.inr, fun k => k.elim (fun k => by omega) id⟩
def laterP (n : Int) (ss : List Pr) : List Pr := ss.map fun s => (s.1 + n, s.2 + n)
theorem later_can {n : Int} {ss : List Pr} (h : Can ss) : Can (laterP n ss) := by
  refine ⟨fun s hs => ?_, List.pairwise_map.mpr (h.2.imp fun {x y} k => ?_)⟩
  · obtain ⟨u, hu, rfl⟩ := List.mem_map.mp hs
    have := h.1 u hu
    show u.1 + n < u.2 + n
    omega
  · show x.2 + n < y.1 + n
    omega
theorem later_inn (n : Int) (ss : List Pr) (m : Int) : Inn (laterP n ss) m ↔ Inn ss (m - n) := by
  constructor
  · rintro ⟨s, hs, a, b⟩
    obtain ⟨u, hu, rfl⟩ := List.mem_map.mp hs
    exact ⟨u, hu, by have : u.1 + n ≤ m := a; omega, by have : m < u.2 + n := b; omega⟩
  · rintro ⟨u, hu, a, b⟩
    exact ⟨_, List.mem_map.mpr ⟨u, hu, rfl⟩, by show u.1 + n ≤ m; omega, by show m < u.2 + n; omega⟩
def grownP (n : Int) (ss : List Pr) : List Pr := spansP (ss.map fun s => (s.1, s.2 + n))
theorem grown_inn {n : Int} (hn : 0 ≤ n) {ss : List Pr} (h : Can ss) (m : Int) : Inn (grownP n ss) m ↔ ∃ k, 0 ≤ k ∧ k ≤ n ∧ Inn ss (m - k) := by
  unfold grownP
  rw [spansP_inn]
  constructor
  · rintro ⟨s, hs, a, b⟩
    obtain ⟨u, hu, rfl⟩ := List.mem_map.mp hs
    have u0 := h.1 u hu
    have a : u.1 ≤ m := a
    have b : m < u.2 + n := b
    by_cases q : m < u.2
    · exact ⟨0, by omega, by omega, u, hu, by omega, by omega⟩
    · exact ⟨m - (u.2 - 1), by omega, by omega, u, hu, by omega, by omega⟩
  · rintro ⟨k, k0, k1, u, hu, a, b⟩
    exact ⟨_, List.mem_map.mpr ⟨u, hu, rfl⟩, by show u.1 ≤ m; omega, by show m < u.2 + n; omega⟩
def wornP (n : Int) (ss : List Pr) : List Pr := (ss.filter fun s => decide (s.1 + n < s.2)).map fun s => (s.1 + n, s.2)
theorem worn_can {n : Int} (hn : 0 ≤ n) {ss : List Pr} (h : Can ss) : Can (wornP n ss) := by
  refine ⟨fun s hs => ?_, List.pairwise_map.mpr ((h.2.filter _).imp fun {x y} k => ?_)⟩
  · obtain ⟨u, hu, rfl⟩ := List.mem_map.mp hs
    exact of_decide_eq_true (List.mem_filter.mp hu).2
  · show x.2 < y.1 + n
    omega
theorem can_out {ss : List Pr} (h : Can ss) {s : Pr} (hs : s ∈ ss) : ¬ Inn ss s.2 := by
  induction ss with
  | nil => cases hs
  | cons t r ih =>
    intro k
    rcases List.mem_cons.mp hs with rfl | hs
    · rcases inn_cons.mp k with k | k
      · omega
      · have := h.lt k; omega
    · rcases inn_cons.mp k with k | k
      · have := h.gap s hs
        have := h.1 s (List.mem_cons_of_mem _ hs)
        omega
      · exact ih h.tail hs k
theorem worn_inn {n : Int} (hn : 0 ≤ n) {ss : List Pr} (h : Can ss) (m : Int) : Inn (wornP n ss) m ↔ ∀ k, 0 ≤ k → k ≤ n → Inn ss (m - k) := by
  constructor
  · rintro ⟨s, hs, a, b⟩ k k0 k1
    obtain ⟨u, hu, rfl⟩ := List.mem_map.mp hs
    exact ⟨u, (List.mem_filter.mp hu).1, by have : u.1 + n ≤ m := a; omega, by have : m < u.2 := b; omega⟩
  · intro hk
    obtain ⟨u, hu, a, b⟩ := hk n hn (Int.le_refl _)
    have : m < u.2 := by
      by_cases q : m < u.2
      · exact q
      · have k := hk (m - u.2) (by omega) (by omega)
        have e : m - (m - u.2) = u.2 := by omega
        rw [e] at k
        exact absurd k (can_out h hu)
    exact ⟨_, List.mem_map.mpr ⟨u, List.mem_filter.mpr ⟨hu, decide_eq_true (by omega)⟩, rfl⟩, by show u.1 + n ≤ m; omega, this⟩
end Pf

namespace Pf
open PySem PySem.Spec L2 Dd
/-! ### how many moments -/
def lenQ (ss : List Pr) : Int := (ss.map fun s => s.2 - s.1).sum
/-- how many of the n moments from lo on -/
def cnQ (p : Int → Bool) (lo : Int) : Nat → Int
  | 0 => 0
  | n + 1 => (if p lo = true then 1 else 0) + cnQ p (lo + 1) n
theorem cnQ_add (p : Int → Bool) : ∀ (a b : Nat) (lo : Int), cnQ p lo (a + b) = cnQ p lo a + cnQ p (lo + a) b
  | 0, b, lo => by rw [Nat.zero_add]; simp [cnQ]
  | a + 1, b, lo => by
    have e : a + 1 + b = (a + b) + 1 := by omega
    have e2 : lo + ((a + 1 : Nat) : Int) = lo + 1 + (a : Nat) := by omega
    rw [e, e2]
    show _ + cnQ p (lo + 1) (a + b) = (_ + cnQ p (lo + 1) a) + _
    rw [cnQ_add p a b (lo + 1)]
    omega
theorem cnQ_all (p : Int → Bool) (v : Bool) : ∀ (n : Nat) (lo : Int), (∀ m, lo ≤ m → m < lo + n → p m = v) → cnQ p lo n = if v = true then (n : Int) else 0
  | 0, lo, _ => by cases v <;> simp [cnQ]
  | n + 1, lo, h => by
    have ih := cnQ_all p v n (lo + 1) fun m a b => h m (by omega) (by omega)
    show (if p lo = true then 1 else 0) + cnQ p (lo + 1) n = _
    rw [ih, h lo (Int.le_refl _) (by omega)]
    cases v
    · simp
    · simp; omega
theorem cnQ_congr {p q : Int → Bool} : ∀ (n : Nat) (lo : Int), (∀ m, lo ≤ m → m < lo + n → p m = q m) → cnQ p lo n = cnQ q lo n
  | 0, lo, _ => rfl
  | n + 1, lo, h => by
    show (if p lo = true then 1 else 0) + cnQ p (lo + 1) n = (if q lo = true then 1 else 0) + cnQ q (lo + 1) n
    rw [cnQ_congr n (lo + 1) fun m a b => h m (by omega) (by omega), h lo (Int.le_refl _) (by omega)]
theorem cnQ_both (p q : Int → Bool) : ∀ (n : Nat) (lo : Int), cnQ (fun m => p m && q m) lo n + cnQ (fun m => p m || q m) lo n = cnQ p lo n + cnQ q lo n
  | 0, lo => rfl
  | n + 1, lo => by
    have ih := cnQ_both p q n (lo + 1)
    show ((if (p lo && q lo) = true then 1 else 0) + _) + ((if (p lo || q lo) = true then 1 else 0) + _) = ((if p lo = true then 1 else 0) + _) + ((if q lo = true then 1 else 0) + _)
    cases p lo <;> cases q lo <;> simp <;> omega
def inB (ss : List Pr) (m : Int) : Bool := ss.any fun s => decide (s.1 ≤ m) && decide (m < s.2)
theorem inB_iff (ss : List Pr) (m : Int) : inB ss m = true ↔ Inn ss m := by
  unfold inB Inn
  rw [List.any_eq_true]
  simp
theorem len_cn : ∀ (ss : List Pr) (lo : Int) (n : Nat), Can ss → (∀ s ∈ ss, lo ≤ s.1 ∧ s.2 ≤ lo + n) → lenQ ss = cnQ (inB ss) lo n
  | [], lo, n, _, _ => by
    rw [cnQ_all (inB []) false n lo fun m _ _ => rfl]; rfl
  | s :: ss, lo, n, hc, hb => by
    obtain ⟨b1, b2⟩ := hb s List.mem_cons_self
    have s0 := hc.hd
    have g := hc.gap
    obtain ⟨a, ha⟩ : ∃ a : Nat, (a : Int) = s.1 - lo := ⟨(s.1 - lo).toNat, Int.toNat_of_nonneg (by omega)⟩
    obtain ⟨b, hbb⟩ : ∃ b : Nat, (b : Int) = s.2 - s.1 := ⟨(s.2 - s.1).toNat, Int.toNat_of_nonneg (by omega)⟩
    obtain ⟨c, hcc⟩ : ∃ c : Nat, (c : Int) = lo + n - s.2 := ⟨(lo + n - s.2).toNat, Int.toNat_of_nonneg (by omega)⟩
    have e : n = a + (b + c) := by omega
    rw [e, cnQ_add, cnQ_add]
    have ih := len_cn ss s.2 c hc.tail fun t ht => ⟨by have := g t ht; omega, by have := (hb t (List.mem_cons_of_mem _ ht)).2; omega⟩
    have c1 : cnQ (inB (s :: ss)) lo a = 0 := by
      rw [cnQ_all (inB (s :: ss)) false a lo fun m m0 m1 => Bool.eq_false_iff.mpr fun k => ?_]; rfl
      rcases inn_cons.mp ((inB_iff _ _).mp k) with k | k
      · omega
      · have := hc.lt k; omega
    have c2 : cnQ (inB (s :: ss)) (lo + a) b = b := by
      rw [cnQ_all (inB (s :: ss)) true b (lo + a) fun m m0 m1 => (inB_iff _ _).mpr (inn_cons.mpr (.inl ⟨by omega, by omega⟩))]; rfl
    have c3 : cnQ (inB (s :: ss)) (lo + a + b) c = cnQ (inB ss) s.2 c := by
      have e3 : lo + (a : Int) + (b : Int) = s.2 := by omega
      rw [e3]
      refine cnQ_congr c s.2 fun m m0 m1 => ?_
      rw [Bool.eq_iff_iff, inB_iff, inB_iff, inn_cons]
      exact ⟨fun k => k.elim (fun k => by omega) id, .inr⟩
    rw [c1, c2, c3, ← ih]
    show (s.2 - s.1) + lenQ ss = _
    omega
/-- those in both and those in either are as many as in each -/
theorem len_both {a b : List Pr} {N : Nat} (ha : Can a) (hb : Can b) (ga : ∀ s ∈ a, 0 ≤ s.1 ∧ s.2 ≤ (N : Int)) (gb : ∀ s ∈ b, 0 ≤ s.1 ∧ s.2 ≤ (N : Int)) : lenQ (bothP a b) + lenQ (spansP (a ++ b)) = lenQ a + lenQ b := by
  have bd : ∀ {ss : List Pr}, Can ss → (∀ m, Inn ss m → 0 ≤ m ∧ m < N) → ∀ s ∈ ss, (0 : Int) ≤ s.1 ∧ s.2 ≤ 0 + N := fun {ss} hc h s hs => by
    have s0 := hc.1 s hs
    have k1 := h s.1 ⟨s, hs, Int.le_refl _, s0⟩
    have k2 := h (s.2 - 1) ⟨s, hs, by omega, by omega⟩
    omega
  have ia : ∀ m, Inn a m → 0 ≤ m ∧ m < N := fun m ⟨s, hs, x, y⟩ => by have := ga s hs; omega
  have ib : ∀ m, Inn b m → 0 ≤ m ∧ m < N := fun m ⟨s, hs, x, y⟩ => by have := gb s hs; omega
  have h1 := len_cn (bothP a b) 0 N (both_can ha hb) (bd (both_can ha hb) fun m k => ia m ((both_inn ha hb m).mp k).1)
  have h2 := len_cn (spansP (a ++ b)) 0 N (spansP_can _) (bd (spansP_can _) fun m k => (inn_app.mp ((spansP_inn _ m).mp k)).elim (ia m) (ib m))
  have h3 := len_cn a 0 N ha (bd ha ia)
  have h4 := len_cn b 0 N hb (bd hb ib)
  rw [h1, h2, h3, h4, ← cnQ_both (inB a) (inB b) N 0]
  congr 1
  · refine cnQ_congr N 0 fun m _ _ => ?_
    rw [Bool.eq_iff_iff, inB_iff, both_inn ha hb, Bool.and_eq_true, inB_iff, inB_iff]
  · refine cnQ_congr N 0 fun m _ _ => ?_
    rw [Bool.eq_iff_iff, inB_iff, spansP_inn, inn_app, Bool.or_eq_true, inB_iff, inB_iff]
end Pf

namespace Pf
/-! ### calls: from start to stop, or to the next start -/
inductive Kd where
  | start | stop | word | mute | torn
  deriving DecidableEq
section
variable {β : Type} (ent : Nat → Nat → Bool → β)
/-- one item behind another; op: where the call that is open began -/
def walkC : List Kd → Nat → Option Nat → List β
  | [], at_, none => []
  | [], at_, some b => [ent b at_ false]
  | .start :: r, at_, some b => ent b at_ true :: walkC r (at_ + 1) (some at_)
  | .start :: r, at_, none => walkC r (at_ + 1) (some at_)
  | .stop :: r, at_, some b => ent b (at_ + 1) true :: walkC r (at_ + 1) none
  | _ :: r, at_, op => walkC r (at_ + 1) op
def isSS : Kd → Bool
  | .start => true
  | .stop => true
  | _ => false
def isSt : Kd → Bool
  | .start => true
  | _ => false
/-- the call that begins at b, the items behind it being r, from at_ on -/
def callAt (b : Nat) : List Kd → Nat → β
  | [], at_ => ent b at_ false
  | .start :: r, at_ => ent b at_ true
  | .stop :: r, at_ => ent b (at_ + 1) true
  | _ :: r, at_ => callAt b r (at_ + 1)
/-- the calls by their starts -/
def startsC : List Kd → Nat → List β
  | [], _ => []
  | .start :: r, at_ => callAt ent at_ r (at_ + 1) :: startsC r (at_ + 1)
  | _ :: r, at_ => startsC r (at_ + 1)
theorem walk_starts : ∀ (ks : List Kd) (at_ : Nat) (op : Option Nat), walkC ent ks at_ op = (match op with | some b => [callAt ent b ks at_] | none => []) ++ startsC ent ks at_
  | [], at_, none => rfl
  | [], at_, some b => rfl
  | .start :: r, at_, some b => by
    show ent b at_ true :: walkC ent r (at_ + 1) (some at_) = [callAt ent b (.start :: r) at_] ++ startsC ent (.start :: r) at_
    rw [walk_starts r]; rfl
  | .start :: r, at_, none => by
    show walkC ent r (at_ + 1) (some at_) = [] ++ startsC ent (.start :: r) at_
    rw [walk_starts r]; rfl
  | .stop :: r, at_, some b => by
    show ent b (at_ + 1) true :: walkC ent r (at_ + 1) none = [callAt ent b (.stop :: r) at_] ++ startsC ent (.stop :: r) at_
    rw [walk_starts r]; rfl
  | .stop :: r, at_, none => by
    show walkC ent r (at_ + 1) none = [] ++ startsC ent (.stop :: r) at_
    rw [walk_starts r]; rfl
  | .word :: r, at_, op => by
    show walkC ent r (at_ + 1) op = _
    rw [walk_starts r]; rfl
  | .mute :: r, at_, op => by
    show walkC ent r (at_ + 1) op = _
    rw [walk_starts r]; rfl
  | .torn :: r, at_, op => by
    show walkC ent r (at_ + 1) op = _
    rw [walk_starts r]; rfl
/-- the same, what is open at the end apart -/
def loopC : List Kd → Nat → Option Nat → List β × Option Nat
  | [], _, op => ([], op)
  | .start :: r, at_, some b => (ent b at_ true :: (loopC r (at_ + 1) (some at_)).1, (loopC r (at_ + 1) (some at_)).2)
  | .start :: r, at_, none => loopC r (at_ + 1) (some at_)
  | .stop :: r, at_, some b => (ent b (at_ + 1) true :: (loopC r (at_ + 1) none).1, (loopC r (at_ + 1) none).2)
  | _ :: r, at_, op => loopC r (at_ + 1) op
def lastC (op : Option Nat) (n : Nat) : List β := match op with
  | some b => [ent b n false]
  | none => []
theorem walk_loop : ∀ (ks : List Kd) (at_ : Nat) (op : Option Nat), walkC ent ks at_ op = (loopC ent ks at_ op).1 ++ lastC ent (loopC ent ks at_ op).2 (at_ + ks.length)
  | [], at_, none => rfl
  | [], at_, some b => rfl
  | .start :: r, at_, some b => by
    show ent b at_ true :: walkC ent r (at_ + 1) (some at_) = ent b at_ true :: ((loopC ent r (at_ + 1) (some at_)).1 ++ lastC ent (loopC ent r (at_ + 1) (some at_)).2 (at_ + (r.length + 1)))
    rw [walk_loop r, show at_ + 1 + r.length = at_ + (r.length + 1) by omega]
  | .start :: r, at_, none => by
    show walkC ent r (at_ + 1) (some at_) = (loopC ent r (at_ + 1) (some at_)).1 ++ lastC ent (loopC ent r (at_ + 1) (some at_)).2 (at_ + (r.length + 1))
    rw [walk_loop r, show at_ + 1 + r.length = at_ + (r.length + 1) by omega]
  | .stop :: r, at_, some b => by
    show ent b (at_ + 1) true :: walkC ent r (at_ + 1) none = ent b (at_ + 1) true :: ((loopC ent r (at_ + 1) none).1 ++ lastC ent (loopC ent r (at_ + 1) none).2 (at_ + (r.length + 1)))
    rw [walk_loop r, show at_ + 1 + r.length = at_ + (r.length + 1) by omega]
  | .stop :: r, at_, none => by
    show walkC ent r (at_ + 1) none = (loopC ent r (at_ + 1) none).1 ++ lastC ent (loopC ent r (at_ + 1) none).2 (at_ + (r.length + 1))
    rw [walk_loop r, show at_ + 1 + r.length = at_ + (r.length + 1) by omega]
  | .word :: r, at_, op => by
    show walkC ent r (at_ + 1) op = (loopC ent r (at_ + 1) op).1 ++ lastC ent (loopC ent r (at_ + 1) op).2 (at_ + (r.length + 1))
    rw [walk_loop r, show at_ + 1 + r.length = at_ + (r.length + 1) by omega]
  | .mute :: r, at_, op => by
    show walkC ent r (at_ + 1) op = (loopC ent r (at_ + 1) op).1 ++ lastC ent (loopC ent r (at_ + 1) op).2 (at_ + (r.length + 1))
    rw [walk_loop r, show at_ + 1 + r.length = at_ + (r.length + 1) by omega]
  | .torn :: r, at_, op => by
    show walkC ent r (at_ + 1) op = (loopC ent r (at_ + 1) op).1 ++ lastC ent (loopC ent r (at_ + 1) op).2 (at_ + (r.length + 1))
    rw [walk_loop r, show at_ + 1 + r.length = at_ + (r.length + 1) by omega]
/-- the first of those behind where a call may end -/
def nextSS : List Kd → Nat → Option (Nat × Bool)
  | [], _ => none
  | .start :: _, at_ => some (at_, false)
  | .stop :: _, at_ => some (at_, true)
  | _ :: r, at_ => nextSS r (at_ + 1)
def resE (b n : Nat) : Option (Nat × Bool) → β
  | none => ent b n false
  | some (e, st) => ent b (if st = true then e + 1 else e) true
theorem callAt_next (b : Nat) : ∀ (ks : List Kd) (at_ : Nat), callAt ent b ks at_ = resE ent b (at_ + ks.length) (nextSS ks at_)
  | [], _ => rfl
  | .start :: r, _ => rfl
  | .stop :: r, _ => rfl
  | .word :: r, at_ => by
    show callAt ent b r (at_ + 1) = _
    rw [callAt_next b r (at_ + 1), List.length_cons, show at_ + 1 + r.length = at_ + (r.length + 1) by omega]; rfl
  | .mute :: r, at_ => by
    show callAt ent b r (at_ + 1) = _
    rw [callAt_next b r (at_ + 1), List.length_cons, show at_ + 1 + r.length = at_ + (r.length + 1) by omega]; rfl
  | .torn :: r, at_ => by
    show callAt ent b r (at_ + 1) = _
    rw [callAt_next b r (at_ + 1), List.length_cons, show at_ + 1 + r.length = at_ + (r.length + 1) by omega]; rfl
end
/-- the places of starts and stops, from at_ on -/
def ssFrom : List Kd → Nat → List Nat
  | [], _ => []
  | k :: r, at_ => if isSS k = true then at_ :: ssFrom r (at_ + 1) else ssFrom r (at_ + 1)
def stFrom : List Kd → Nat → List Nat
  | [], _ => []
  | k :: r, at_ => if isSt k = true then at_ :: stFrom r (at_ + 1) else stFrom r (at_ + 1)
theorem ss_next : ∀ (ks : List Kd) (at_ : Nat), (ssFrom ks at_).head? = (nextSS ks at_).map (·.1)
  | [], _ => rfl
  | .start :: r, _ => rfl
  | .stop :: r, _ => rfl
  | .word :: r, at_ => ss_next r (at_ + 1)
  | .mute :: r, at_ => ss_next r (at_ + 1)
  | .torn :: r, at_ => ss_next r (at_ + 1)
theorem next_kind : ∀ (ks : List Kd) (at_ e : Nat) (s : Bool), nextSS ks at_ = some (e, s) → at_ ≤ e ∧ e < at_ + ks.length ∧ ks[e - at_]? = some (if s = true then Kd.stop else Kd.start)
  | [], _, _, _, h => by cases h
  | .start :: r, at_, e, s, h => by cases h; simp
  | .stop :: r, at_, e, s, h => by cases h; simp
  | .word :: r, at_, e, s, h => by
    obtain ⟨a, b, c⟩ := next_kind r (at_ + 1) e s h
    refine ⟨by omega, by rw [List.length_cons]; omega, ?_⟩
    rw [show e - at_ = (e - (at_ + 1)) + 1 by omega]; simpa using c
  | .mute :: r, at_, e, s, h => by
    obtain ⟨a, b, c⟩ := next_kind r (at_ + 1) e s h
    refine ⟨by omega, by rw [List.length_cons]; omega, ?_⟩
    rw [show e - at_ = (e - (at_ + 1)) + 1 by omega]; simpa using c
  | .torn :: r, at_, e, s, h => by
    obtain ⟨a, b, c⟩ := next_kind r (at_ + 1) e s h
    refine ⟨by omega, by rw [List.length_cons]; omega, ?_⟩
    rw [show e - at_ = (e - (at_ + 1)) + 1 by omega]; simpa using c
/-- by their starts: one call for each place of a start -/
theorem starts_map {β : Type} (ent : Nat → Nat → Bool → β) (ks : List Kd) : ∀ (r : List Kd) (at_ : Nat), ks.drop at_ = r → startsC ent r at_ = (stFrom r at_).map fun b => callAt ent b (ks.drop (b + 1)) (b + 1)
  | [], _, _ => rfl
  | k :: r, at_, h => by
    have hr : ks.drop (at_ + 1) = r := by rw [← List.drop_drop (i := 1) (j := at_), h]; rfl
    have ih := starts_map ent ks r (at_ + 1) hr
    cases k with
    | start =>
      show callAt ent at_ r (at_ + 1) :: startsC ent r (at_ + 1) = (at_ :: stFrom r (at_ + 1)).map _
      rw [ih, List.map_cons, hr]
    | stop => exact ih
    | word => exact ih
    | mute => exact ih
    | torn => exact ih
end Pf

namespace Pf
open PySem PySem.Spec L2 Dd
/-! ### spans_of -/
theorem ixN_last (n : Nat) : ixN (n + 1) (-1) = some n := by
  simp [ixN]; omega
theorem atI_last {α : Type} (a : List α) (x : α) : atI (a ++ [x]) (-1) = some x := by
  unfold atI
  rw [List.length_append, List.length_singleton, ixN_last]
  simp
theorem fit_of2 {n : Nat} (h : n ≤ 1000000) : fit n = true := decide_eq_true (by omega)
theorem set_last {α : Type} (a : List α) (x y : α) : (a ++ [x]).set a.length y = a ++ [y] := by
  rw [List.set_append_right _ _ (Nat.le_refl _), Nat.sub_self]; rfl
theorem at_pair {as : List Pr} {i : Nat} {a : Pr} (h : as[i]? = some a) : atI (as.map pairD) (i : Int) = some (.tuple [.int a.1, .int a.2]) := atI_nat' (by omega) (by
  rw [Int.toNat_natCast, List.getElem?_map, h]; rfl)
theorem both_len : ∀ (n : Nat) (a b : List Pr), a.length + b.length ≤ n → (bothP a b).length ≤ n
  | n, [], b, _ => by rw [both_nil]; exact Nat.zero_le _
  | n, a :: as, [], _ => by rw [both_nil2]; exact Nat.zero_le _
  | 0, a :: as, b :: bs, hn => by simp at hn
  | n + 1, a :: as, b :: bs, hn => by
    simp only [List.length_cons] at hn
    unfold bothP
    rw [List.length_append]
    have h1 : (if mxI a.1 b.1 < mnI a.2 b.2 then [(mxI a.1 b.1, mnI a.2 b.2)] else []).length ≤ 1 := by split <;> simp
    have h2 : (if a.2 < b.2 then bothP as (b :: bs) else bothP (a :: as) bs).length ≤ n := by
      split
      · exact both_len n as (b :: bs) (by simp only [List.length_cons]; omega)
      · exact both_len n (a :: as) bs (by simp only [List.length_cons]; omega)
    omega

def Bx (bs : List D) : Prop := ∃ a s c : Int, bs = [.int a, .int s, .int c]
theorem take_ok {bs : List D} {m : Int} (hb : Bx bs) (h0 : 0 < m) (h1 : m < 1152921504606846976) : ∃ r bs', fn__law_take bs [.int m] = some (.ok (.int r), bs') ∧ 0 ≤ r ∧ r < m ∧ Bx bs' := by
  obtain ⟨a, s, c, rfl⟩ := hb
  have hm : m.natAbs < 1152921504606846976 := by omega
  by_cases ha : 0 < a
  · refine ⟨a % m, [.int (a / m), .int s, .int c], ?_, Int.emod_nonneg _ (by omega), Int.emod_lt_of_pos _ h0, _, _, _, rfl⟩
    simp [fn__law_take, runB, m__law_take, env0B, mSeq, mIf, mBol, mBin, mBinL, mBind, mLift, mPure, mPeek, mVar, ixD, iI, bolD, mAsg, mCall1, mCallN, intD, modD, iIc, cMod, mStore, mStoreO, mDone, gSet, mOwn, mPut, setD, mRet, mDrop, mStuck, mTru, truD, mOrT, mAndT, mNotT, mAnd, mOr, mNot, mIsi, isiT_eq, typD, lenD, mCons, mTup, mLst, mLstN, mVal, oOr, addD, subD, mulD, mulI, iIc, cMul, ltD, leD, gtD, geD, gTupD, gCons2, gsNil, mCallV, mCallB, mRs, tupleD, mRetF, mChain, mScr, mScrLen, mScrIx, mMut, appD, max2D, min2D, mRng1, mRng2, rngD1, rngD2, rngOk, mItems, itemsD, mAsgN, mParEE, mParEN, mUn, negD, mCallN1, listD, unsE, powD, cPow, divD, cDiv, mFor, mSl, mSlL, slD, mNoPart, mPart, intO, mSlN, mSlNL, slN, mRevN, revO, mParNC, andD, orD, xorD, shrD, shlD, cShr, mStepN, mStepNL, stepO, mCatN, mCatNL, catN, atI, ixN, ha, h0, hm]
  · have hs : ∃ s' : Int, s' = ((s + 104729 * (c + 1)) * 69623) % 2147483647 * 48271 + 30103 := ⟨_, rfl⟩
    refine ⟨_, _, ?_, Int.emod_nonneg ((((s + 104729 * (c + 1)) * 69623) % 2147483647 * 2147483647 + ((((s + 104729 * (c + 1)) * 69623) % 2147483647 * 48271 + 30103) % 2147483629 + 1)) / 8191) (by omega : m ≠ 0), Int.emod_lt_of_pos _ h0, a, (((s + 104729 * (c + 1)) * 69623) % 2147483647 * 48271 + 30103) % 2147483629 + 1, c + 1, rfl⟩
    simp [fn__law_take, runB, m__law_take, env0B, mSeq, mIf, mBol, mBin, mBinL, mBind, mLift, mPure, mPeek, mVar, ixD, iI, bolD, mAsg, mCall1, mCallN, intD, modD, iIc, cMod, mStore, mStoreO, mDone, gSet, mOwn, mPut, setD, mRet, mDrop, mStuck, mTru, truD, mOrT, mAndT, mNotT, mAnd, mOr, mNot, mIsi, isiT_eq, typD, lenD, mCons, mTup, mLst, mLstN, mVal, oOr, addD, subD, mulD, mulI, iIc, cMul, ltD, leD, gtD, geD, gTupD, gCons2, gsNil, mCallV, mCallB, mRs, tupleD, mRetF, mChain, mScr, mScrLen, mScrIx, mMut, appD, max2D, min2D, mRng1, mRng2, rngD1, rngD2, rngOk, mItems, itemsD, mAsgN, mParEE, mParEN, mUn, negD, mCallN1, listD, unsE, powD, cPow, divD, cDiv, mFor, mSl, mSlL, slD, mNoPart, mPart, intO, mSlN, mSlNL, slN, mRevN, revO, mParNC, andD, orD, xorD, shrD, shlD, cShr, mStepN, mStepNL, stepO, mCatN, mCatNL, catN, atI, ixN, ha, h0, hm]
theorem ix_in {ds : List D} {r : Int} (h0 : 0 ≤ r) (h1 : r < ds.length) : ∃ d ∈ ds, atI ds r = some d := by
  have h : r.toNat < ds.length := by omega
  exact ⟨ds[r.toNat], List.getElem_mem h, atI_nat' h0 (List.getElem?_eq_getElem h)⟩
theorem atI_ints {ns : List Int} {k : Int} (h0 : 0 ≤ k) (h1 : k < ns.length) : ∃ v, atI ns k = some v := by
  have h : k.toNat < ns.length := by omega
  exact ⟨ns[k.toNat], atI_nat' h0 (List.getElem?_eq_getElem h)⟩
theorem box_ok (ns : List Int) (k : Int) (h0 : 0 ≤ k) (h1 : k < 1000) : ∃ bs, fn__law_box ns [.int k] = some (.ok bs) ∧ Bx bs := by
  have hk : (k.natAbs < 18446744073709551616) := by omega
  have z0 : ∀ v, atI [PyData.int 0, .int v] 0 = some (.int 0) := fun _ => rfl
  have z1 : ∀ v, atI [PyData.int 0, .int v] 1 = some (.int v) := fun _ => rfl
  by_cases h : k < ns.length
  · obtain ⟨v, e⟩ := atI_ints h0 h
    by_cases hv : 1000000000000000000 ≤ v <;> simp [fn__law_box, runS, m__law_box, env0S, mSeq, mIf, mBol, mBin, mBinL, mBind, mLift, mPure, mPeek, mVar, ixD, iI, bolD, mAsg, mCall1, mCallN, intD, modD, iIc, cMod, mStore, mStoreO, mDone, gSet, mOwn, mPut, setD, mRet, mDrop, mStuck, mTru, truD, mOrT, mAndT, mNotT, mAnd, mOr, mNot, mIsi, isiT_eq, typD, lenD, mCons, mTup, mLst, mLstN, mVal, oOr, addD, subD, mulD, mulI, iIc, cMul, ltD, leD, gtD, geD, gTupD, gCons2, gsNil, mCallV, mCallB, mRs, tupleD, mRetF, mChain, mScr, mScrLen, mScrIx, mMut, appD, max2D, min2D, mRng1, mRng2, rngD1, rngD2, rngOk, mItems, itemsD, mAsgN, mParEE, mParEN, mUn, negD, mCallN1, listD, unsE, powD, cPow, divD, cDiv, mFor, mSl, mSlL, slD, mNoPart, mPart, intO, mSlN, mSlNL, slN, mRevN, revO, mParNC, andD, orD, xorD, shrD, shlD, cShr, mStepN, mStepNL, stepO, mCatN, mCatNL, catN, hk, h, e, hv, fit, z0, z1] <;> exact ⟨_, _, _, rfl⟩
  · by_cases hn : 0 < ns.length
    · have q0 : 0 ≤ k % (ns.length : Int) := Int.emod_nonneg _ (by omega)
      have q1 : k % (ns.length : Int) < ns.length := Int.emod_lt_of_pos _ (by omega)
      obtain ⟨v, e⟩ := atI_ints q0 q1
      by_cases hv : 1000000000000000000 ≤ 5717 * k + 23 + v % 2147483629 * 69623 <;> simp [fn__law_box, runS, m__law_box, env0S, mSeq, mIf, mBol, mBin, mBinL, mBind, mLift, mPure, mPeek, mVar, ixD, iI, bolD, mAsg, mCall1, mCallN, intD, modD, iIc, cMod, mStore, mStoreO, mDone, gSet, mOwn, mPut, setD, mRet, mDrop, mStuck, mTru, truD, mOrT, mAndT, mNotT, mAnd, mOr, mNot, mIsi, isiT_eq, typD, lenD, mCons, mTup, mLst, mLstN, mVal, oOr, addD, subD, mulD, mulI, iIc, cMul, ltD, leD, gtD, geD, gTupD, gCons2, gsNil, mCallV, mCallB, mRs, tupleD, mRetF, mChain, mScr, mScrLen, mScrIx, mMut, appD, max2D, min2D, mRng1, mRng2, rngD1, rngD2, rngOk, mItems, itemsD, mAsgN, mParEE, mParEN, mUn, negD, mCallN1, listD, unsE, powD, cPow, divD, cDiv, mFor, mSl, mSlL, slD, mNoPart, mPart, intO, mSlN, mSlNL, slN, mRevN, revO, mParNC, andD, orD, xorD, shrD, shlD, cShr, mStepN, mStepNL, stepO, mCatN, mCatNL, catN, hk, h, hn, e, hv, fit, z0, z1] <;> exact ⟨_, _, _, rfl⟩
    · by_cases hv : 1000000000000000000 ≤ 5717 * k + 23 <;> simp [fn__law_box, runS, m__law_box, env0S, mSeq, mIf, mBol, mBin, mBinL, mBind, mLift, mPure, mPeek, mVar, ixD, iI, bolD, mAsg, mCall1, mCallN, intD, modD, iIc, cMod, mStore, mStoreO, mDone, gSet, mOwn, mPut, setD, mRet, mDrop, mStuck, mTru, truD, mOrT, mAndT, mNotT, mAnd, mOr, mNot, mIsi, isiT_eq, typD, lenD, mCons, mTup, mLst, mLstN, mVal, oOr, addD, subD, mulD, mulI, iIc, cMul, ltD, leD, gtD, geD, gTupD, gCons2, gsNil, mCallV, mCallB, mRs, tupleD, mRetF, mChain, mScr, mScrLen, mScrIx, mMut, appD, max2D, min2D, mRng1, mRng2, rngD1, rngD2, rngOk, mItems, itemsD, mAsgN, mParEE, mParEN, mUn, negD, mCallN1, listD, unsE, powD, cPow, divD, cDiv, mFor, mSl, mSlL, slD, mNoPart, mPart, intO, mSlN, mSlNL, slN, mRevN, revO, mParNC, andD, orD, xorD, shrD, shlD, cShr, mStepN, mStepNL, stepO, mCatN, mCatNL, catN, hk, h, hn, hv, fit, z0, z1] <;> exact ⟨_, _, _, rfl⟩

/-! ### alike -/
theorem eqv_int (a : Int) : PyData.eqv (.int a) (.int a) = true := by simp [PyData.eqv]
theorem strOk_of (s : String) : PyData.strOk (Str.ofString s) = true := by
  unfold PyData.strOk
  rw [PySem.Str.ofString_eq_toList, Array.all_eq_true_iff_forall_mem]
  intro c hc
  simp at hc
  obtain ⟨x, _, rfl⟩ := hc
  have := x.valid
  refine decide_eq_true ?_
  show x.val.toNat < 1114112
  rcases this with h | h <;> omega
theorem sh_str (s : String) : SeqAt.shaped (.str (Str.ofString s)) = true := by simp [SeqAt.shaped, PyData.canLay0, PyData.depth, strOk_of]
theorem ne_bool (a b : Bool) : neD (.bool a) (.bool b) = some (.bool (!decide (a = b))) := by
  have e : PyData.eqv (.bool a) (.bool b) = decide (a = b) := by cases a <;> cases b <;> decide +kernel
  simp [neD, sh_bool, e]
theorem eq_str (s : String) : eqD (.str (Str.ofString s)) (.str (Str.ofString s)) = some (.bool true) := by
  have e : PyData.eqv (.str (Str.ofString s)) (.str (Str.ofString s)) = true := by simp [PyData.eqv]
  simp [eqD, sh_str, e]
theorem alike_int (n : Nat) (a : Int) : fn__law_alike (n + 1) [.int a, .int a] = some (.ok (.bool true)) := by
  simp [fn__law_alike, runV, m__law_alike, env0, mSeq, mIf, mBol, mBin, mBinL, mBind, mLift, mPure, mPeek, mVar, ixD, iI, bolD, mAsg, mCall1, mCallN, intD, modD, iIc, cMod, mStore, mStoreO, mDone, gSet, mOwn, mPut, setD, mRet, mDrop, mStuck, mTru, truD, mOrT, mAndT, mNotT, mAnd, mOr, mNot, mIsi, isiT_eq, typD, lenD, mCons, mTup, mLst, mLstN, mVal, oOr, addD, subD, mulD, mulI, iIc, cMul, ltD, leD, gtD, geD, gTupD, gCons2, gsNil, mCallV, mCallB, mRs, tupleD, mRetF, mChain, mScr, mScrLen, mScrIx, mMut, appD, max2D, min2D, mRng1, mRng2, rngD1, rngD2, rngOk, mItems, itemsD, mAsgN, mParEE, mParEN, mUn, negD, mCallN1, listD, unsE, powD, cPow, divD, cDiv, mFor, mSl, mSlL, slD, mNoPart, mPart, intO, mSlN, mSlNL, slN, mRevN, revO, mParNC, andD, orD, xorD, shrD, shlD, cShr, mStepN, mStepNL, stepO, mCatN, mCatNL, catN, isi_int_NoneType, isi_int_bool, isi_int_int, isi_int_str, isi_int_list, isi_int_tuple, isi_int_dict, isi_bool_NoneType, isi_bool_bool, isi_bool_int, isi_bool_str, isi_bool_list, isi_bool_tuple, isi_bool_dict, isi_str_NoneType, isi_str_bool, isi_str_int, isi_str_str, isi_str_list, isi_str_tuple, isi_str_dict, isi_list_NoneType, isi_list_bool, isi_list_int, isi_list_str, isi_list_list, isi_list_tuple, isi_list_dict, isi_tuple_NoneType, isi_tuple_bool, isi_tuple_int, isi_tuple_str, isi_tuple_list, isi_tuple_tuple, isi_tuple_dict, isi_dict_NoneType, isi_dict_bool, isi_dict_int, isi_dict_str, isi_dict_list, isi_dict_tuple, isi_dict_dict, mIsiA, isiA, ne_bool, eq_int]
theorem zip_self_mem {xs : List D} {d : D} (h : d ∈ zipL xs xs) : ∃ x ∈ xs, d = .tuple [x, x] := by
  obtain ⟨i, hi⟩ := List.getElem?_of_mem h
  obtain ⟨y, z, h1, h2, rfl⟩ := zipL_get hi
  rw [h1] at h2
  cases h2
  exact ⟨y, List.mem_of_getElem? h1, rfl⟩
theorem alike_tup (rec : List D → Option (Rs D)) (xs : List D) (hl : xs.length ≤ 1000000) (h : ∀ x ∈ xs, rec [x, x] = some (.ok (.bool true))) : runV (m__law_alike rec) 5 [.tuple xs, .tuple xs] = some (.ok (.bool true)) := by
  have hzl : (zipL xs xs).length ≤ 1000000 := by unfold zipL; rw [List.length_zipWith, Nat.min_self]; exact hl
  have h1 : C__law_alike_0 rec [.val (.tuple xs), .val (.tuple xs), .un, .un, .un] = some (.ok ((zipL xs xs).map fun _ => .bool true) [.val (.tuple xs), .val (.tuple xs), .un, .un, .un]) := by
    refine comp_is (ds := zipL xs xs) (ρ1 := [.val (.tuple xs), .val (.tuple xs), .un, .un, .un]) (ρe := [.val (.tuple xs), .val (.tuple xs), .un, .un, .un]) (by simp [mZip, zipD, mSeq, mIf, mBol, mBin, mBinL, mBind, mLift, mPure, mPeek, mVar, ixD, iI, bolD, mAsg, mCall1, mCallN, intD, modD, iIc, cMod, mStore, mStoreO, mDone, gSet, mOwn, mPut, setD, mRet, mDrop, mStuck, mTru, truD, mOrT, mAndT, mNotT, mAnd, mOr, mNot, mIsi, isiT_eq, typD, lenD, mCons, mTup, mLst, mLstN, mVal, oOr, addD, subD, mulD, mulI, iIc, cMul, ltD, leD, gtD, geD, gTupD, gCons2, gsNil, mCallV, mCallB, mRs, tupleD, mRetF, mChain, mScr, mScrLen, mScrIx, mMut, appD, max2D, min2D, mRng1, mRng2, rngD1, rngD2, rngOk, mItems, itemsD, mAsgN, mParEE, mParEN, mUn, negD, mCallN1, listD, unsE, powD, cPow, divD, cDiv, mFor, mSl, mSlL, slD, mNoPart, mPart, intO, mSlN, mSlNL, slN, mRevN, revO, mParNC, andD, orD, xorD, shrD, shlD, cShr, mStepN, mStepNL, stepO, mCatN, mCatNL, catN]) (fit_of2 hzl) ?_
    refine go_map _ fun d hd => ?_
    obtain ⟨x, hx, rfl⟩ := zip_self_mem hd
    refine ⟨[.val (.tuple xs), .val (.tuple xs), .un, .val x, .val x], [.val (.tuple xs), .val (.tuple xs), .un, .val x, .val x], by simp [mSeq, mIf, mBol, mBin, mBinL, mBind, mLift, mPure, mPeek, mVar, ixD, iI, bolD, mAsg, mCall1, mCallN, intD, modD, iIc, cMod, mStore, mStoreO, mDone, gSet, mOwn, mPut, setD, mRet, mDrop, mStuck, mTru, truD, mOrT, mAndT, mNotT, mAnd, mOr, mNot, mIsi, isiT_eq, typD, lenD, mCons, mTup, mLst, mLstN, mVal, oOr, addD, subD, mulD, mulI, iIc, cMul, ltD, leD, gtD, geD, gTupD, gCons2, gsNil, mCallV, mCallB, mRs, tupleD, mRetF, mChain, mScr, mScrLen, mScrIx, mMut, appD, max2D, min2D, mRng1, mRng2, rngD1, rngD2, rngOk, mItems, itemsD, mAsgN, mParEE, mParEN, mUn, negD, mCallN1, listD, unsE, powD, cPow, divD, cDiv, mFor, mSl, mSlL, slD, mNoPart, mPart, intO, mSlN, mSlNL, slN, mRevN, revO, mParNC, andD, orD, xorD, shrD, shlD, cShr, mStepN, mStepNL, stepO, mCatN, mCatNL, catN, gNamesD], by simp [mSeq, mIf, mBol, mBin, mBinL, mBind, mLift, mPure, mPeek, mVar, ixD, iI, bolD, mAsg, mCall1, mCallN, intD, modD, iIc, cMod, mStore, mStoreO, mDone, gSet, mOwn, mPut, setD, mRet, mDrop, mStuck, mTru, truD, mOrT, mAndT, mNotT, mAnd, mOr, mNot, mIsi, isiT_eq, typD, lenD, mCons, mTup, mLst, mLstN, mVal, oOr, addD, subD, mulD, mulI, iIc, cMul, ltD, leD, gtD, geD, gTupD, gCons2, gsNil, mCallV, mCallB, mRs, tupleD, mRetF, mChain, mScr, mScrLen, mScrIx, mMut, appD, max2D, min2D, mRng1, mRng2, rngD1, rngD2, rngOk, mItems, itemsD, mAsgN, mParEE, mParEN, mUn, negD, mCallN1, listD, unsE, powD, cPow, divD, cDiv, mFor, mSl, mSlL, slD, mNoPart, mPart, intO, mSlN, mSlNL, slN, mRevN, revO, mParNC, andD, orD, xorD, shrD, shlD, cShr, mStepN, mStepNL, stepO, mCatN, mCatNL, catN, h x hx], by simp [unsE]⟩
  have h2 := allD_mapf (fun _ : D => true) (zipL xs xs)
  have h3 : (zipL xs xs).all (fun _ => true) = true := by simp
  rw [h3] at h2
  simp [runV, m__law_alike, env0, mSeq, mIf, mBol, mBin, mBinL, mBind, mLift, mPure, mPeek, mVar, ixD, iI, bolD, mAsg, mCall1, mCallN, intD, modD, iIc, cMod, mStore, mStoreO, mDone, gSet, mOwn, mPut, setD, mRet, mDrop, mStuck, mTru, truD, mOrT, mAndT, mNotT, mAnd, mOr, mNot, mIsi, isiT_eq, typD, lenD, mCons, mTup, mLst, mLstN, mVal, oOr, addD, subD, mulD, mulI, iIc, cMul, ltD, leD, gtD, geD, gTupD, gCons2, gsNil, mCallV, mCallB, mRs, tupleD, mRetF, mChain, mScr, mScrLen, mScrIx, mMut, appD, max2D, min2D, mRng1, mRng2, rngD1, rngD2, rngOk, mItems, itemsD, mAsgN, mParEE, mParEN, mUn, negD, mCallN1, listD, unsE, powD, cPow, divD, cDiv, mFor, mSl, mSlL, slD, mNoPart, mPart, intO, mSlN, mSlNL, slN, mRevN, revO, mParNC, andD, orD, xorD, shrD, shlD, cShr, mStepN, mStepNL, stepO, mCatN, mCatNL, catN, isi_int_NoneType, isi_int_bool, isi_int_int, isi_int_str, isi_int_list, isi_int_tuple, isi_int_dict, isi_bool_NoneType, isi_bool_bool, isi_bool_int, isi_bool_str, isi_bool_list, isi_bool_tuple, isi_bool_dict, isi_str_NoneType, isi_str_bool, isi_str_int, isi_str_str, isi_str_list, isi_str_tuple, isi_str_dict, isi_list_NoneType, isi_list_bool, isi_list_int, isi_list_str, isi_list_list, isi_list_tuple, isi_list_dict, isi_tuple_NoneType, isi_tuple_bool, isi_tuple_int, isi_tuple_str, isi_tuple_list, isi_tuple_tuple, isi_tuple_dict, isi_dict_NoneType, isi_dict_bool, isi_dict_int, isi_dict_str, isi_dict_list, isi_dict_tuple, isi_dict_dict, mIsiA, isiA, ne_bool, eq_int, h1, h2]
theorem alike_lst (rec : List D → Option (Rs D)) (xs : List D) (hl : xs.length ≤ 1000000) (h : ∀ x ∈ xs, rec [x, x] = some (.ok (.bool true))) : runV (m__law_alike rec) 5 [.list xs, .list xs] = some (.ok (.bool true)) := by
  have hzl : (zipL xs xs).length ≤ 1000000 := by unfold zipL; rw [List.length_zipWith, Nat.min_self]; exact hl
  have h1 : C__law_alike_0 rec [.val (.list xs), .val (.list xs), .un, .un, .un] = some (.ok ((zipL xs xs).map fun _ => .bool true) [.val (.list xs), .val (.list xs), .un, .un, .un]) := by
    refine comp_is (ds := zipL xs xs) (ρ1 := [.val (.list xs), .val (.list xs), .un, .un, .un]) (ρe := [.val (.list xs), .val (.list xs), .un, .un, .un]) (by simp [mZip, zipD, mSeq, mIf, mBol, mBin, mBinL, mBind, mLift, mPure, mPeek, mVar, ixD, iI, bolD, mAsg, mCall1, mCallN, intD, modD, iIc, cMod, mStore, mStoreO, mDone, gSet, mOwn, mPut, setD, mRet, mDrop, mStuck, mTru, truD, mOrT, mAndT, mNotT, mAnd, mOr, mNot, mIsi, isiT_eq, typD, lenD, mCons, mTup, mLst, mLstN, mVal, oOr, addD, subD, mulD, mulI, iIc, cMul, ltD, leD, gtD, geD, gTupD, gCons2, gsNil, mCallV, mCallB, mRs, tupleD, mRetF, mChain, mScr, mScrLen, mScrIx, mMut, appD, max2D, min2D, mRng1, mRng2, rngD1, rngD2, rngOk, mItems, itemsD, mAsgN, mParEE, mParEN, mUn, negD, mCallN1, listD, unsE, powD, cPow, divD, cDiv, mFor, mSl, mSlL, slD, mNoPart, mPart, intO, mSlN, mSlNL, slN, mRevN, revO, mParNC, andD, orD, xorD, shrD, shlD, cShr, mStepN, mStepNL, stepO, mCatN, mCatNL, catN]) (fit_of2 hzl) ?_
    refine go_map _ fun d hd => ?_
    obtain ⟨x, hx, rfl⟩ := zip_self_mem hd
    refine ⟨[.val (.list xs), .val (.list xs), .un, .val x, .val x], [.val (.list xs), .val (.list xs), .un, .val x, .val x], by simp [mSeq, mIf, mBol, mBin, mBinL, mBind, mLift, mPure, mPeek, mVar, ixD, iI, bolD, mAsg, mCall1, mCallN, intD, modD, iIc, cMod, mStore, mStoreO, mDone, gSet, mOwn, mPut, setD, mRet, mDrop, mStuck, mTru, truD, mOrT, mAndT, mNotT, mAnd, mOr, mNot, mIsi, isiT_eq, typD, lenD, mCons, mTup, mLst, mLstN, mVal, oOr, addD, subD, mulD, mulI, iIc, cMul, ltD, leD, gtD, geD, gTupD, gCons2, gsNil, mCallV, mCallB, mRs, tupleD, mRetF, mChain, mScr, mScrLen, mScrIx, mMut, appD, max2D, min2D, mRng1, mRng2, rngD1, rngD2, rngOk, mItems, itemsD, mAsgN, mParEE, mParEN, mUn, negD, mCallN1, listD, unsE, powD, cPow, divD, cDiv, mFor, mSl, mSlL, slD, mNoPart, mPart, intO, mSlN, mSlNL, slN, mRevN, revO, mParNC, andD, orD, xorD, shrD, shlD, cShr, mStepN, mStepNL, stepO, mCatN, mCatNL, catN, gNamesD], by simp [mSeq, mIf, mBol, mBin, mBinL, mBind, mLift, mPure, mPeek, mVar, ixD, iI, bolD, mAsg, mCall1, mCallN, intD, modD, iIc, cMod, mStore, mStoreO, mDone, gSet, mOwn, mPut, setD, mRet, mDrop, mStuck, mTru, truD, mOrT, mAndT, mNotT, mAnd, mOr, mNot, mIsi, isiT_eq, typD, lenD, mCons, mTup, mLst, mLstN, mVal, oOr, addD, subD, mulD, mulI, iIc, cMul, ltD, leD, gtD, geD, gTupD, gCons2, gsNil, mCallV, mCallB, mRs, tupleD, mRetF, mChain, mScr, mScrLen, mScrIx, mMut, appD, max2D, min2D, mRng1, mRng2, rngD1, rngD2, rngOk, mItems, itemsD, mAsgN, mParEE, mParEN, mUn, negD, mCallN1, listD, unsE, powD, cPow, divD, cDiv, mFor, mSl, mSlL, slD, mNoPart, mPart, intO, mSlN, mSlNL, slN, mRevN, revO, mParNC, andD, orD, xorD, shrD, shlD, cShr, mStepN, mStepNL, stepO, mCatN, mCatNL, catN, h x hx], by simp [unsE]⟩
  have h2 := allD_mapf (fun _ : D => true) (zipL xs xs)
  have h3 : (zipL xs xs).all (fun _ => true) = true := by simp
  rw [h3] at h2
  simp [runV, m__law_alike, env0, mSeq, mIf, mBol, mBin, mBinL, mBind, mLift, mPure, mPeek, mVar, ixD, iI, bolD, mAsg, mCall1, mCallN, intD, modD, iIc, cMod, mStore, mStoreO, mDone, gSet, mOwn, mPut, setD, mRet, mDrop, mStuck, mTru, truD, mOrT, mAndT, mNotT, mAnd, mOr, mNot, mIsi, isiT_eq, typD, lenD, mCons, mTup, mLst, mLstN, mVal, oOr, addD, subD, mulD, mulI, iIc, cMul, ltD, leD, gtD, geD, gTupD, gCons2, gsNil, mCallV, mCallB, mRs, tupleD, mRetF, mChain, mScr, mScrLen, mScrIx, mMut, appD, max2D, min2D, mRng1, mRng2, rngD1, rngD2, rngOk, mItems, itemsD, mAsgN, mParEE, mParEN, mUn, negD, mCallN1, listD, unsE, powD, cPow, divD, cDiv, mFor, mSl, mSlL, slD, mNoPart, mPart, intO, mSlN, mSlNL, slN, mRevN, revO, mParNC, andD, orD, xorD, shrD, shlD, cShr, mStepN, mStepNL, stepO, mCatN, mCatNL, catN, isi_int_NoneType, isi_int_bool, isi_int_int, isi_int_str, isi_int_list, isi_int_tuple, isi_int_dict, isi_bool_NoneType, isi_bool_bool, isi_bool_int, isi_bool_str, isi_bool_list, isi_bool_tuple, isi_bool_dict, isi_str_NoneType, isi_str_bool, isi_str_int, isi_str_str, isi_str_list, isi_str_tuple, isi_str_dict, isi_list_NoneType, isi_list_bool, isi_list_int, isi_list_str, isi_list_list, isi_list_tuple, isi_list_dict, isi_tuple_NoneType, isi_tuple_bool, isi_tuple_int, isi_tuple_str, isi_tuple_list, isi_tuple_tuple, isi_tuple_dict, isi_dict_NoneType, isi_dict_bool, isi_dict_int, isi_dict_str, isi_dict_list, isi_dict_tuple, isi_dict_dict, mIsiA, isiA, ne_bool, eq_int, h1, h2]
theorem alike_spans (n : Nat) (ss : List Pr) (hl : ss.length ≤ 1000000) : fn__law_alike (n + 3) [.tuple (ss.map pairD), .tuple (ss.map pairD)] = some (.ok (.bool true)) := by
  refine alike_tup (fn__law_alike (n + 2)) (ss.map pairD) (by rw [List.length_map]; exact hl) fun x hx => ?_
  obtain ⟨⟨a, b⟩, _, rfl⟩ := List.mem_map.mp hx
  refine alike_tup (fn__law_alike (n + 1)) [.int a, .int b] (by simp) fun x hx => ?_
  simp only [List.mem_cons, List.not_mem_nil, or_false] at hx
  rcases hx with rfl | rfl
  · exact alike_int n _
  · exact alike_int n _
/-! ### pairs as the law makes them -/

theorem pick3 {a b c r : Int} (h0 : 0 ≤ r) (h1 : r < 3) : ∃ m, atI [PyData.int a, .int b, .int c] r = some (.int m) ∧ (m = a ∨ m = b ∨ m = c) := by
  obtain ⟨d, hd, e⟩ := ix_in (ds := [PyData.int a, .int b, .int c]) h0 (by simpa using h1)
  simp at hd
  rcases hd with rfl | rfl | rfl
  · exact ⟨_, e, .inl rfl⟩
  · exact ⟨_, e, .inr (.inl rfl)⟩
  · exact ⟨_, e, .inr (.inr rfl)⟩
theorem pick4 {a b c d r : Int} (h0 : 0 ≤ r) (h1 : r < 4) : ∃ m, atI [PyData.int a, .int b, .int c, .int d] r = some (.int m) ∧ (m = a ∨ m = b ∨ m = c ∨ m = d) := by
  obtain ⟨x, hd, e⟩ := ix_in (ds := [PyData.int a, .int b, .int c, .int d]) h0 (by simpa using h1)
  simp only [List.mem_cons, List.not_mem_nil, or_false] at hd
  rcases hd with rfl | rfl | rfl | rfl
  · exact ⟨_, e, .inl rfl⟩
  · exact ⟨_, e, .inr (.inl rfl)⟩
  · exact ⟨_, e, .inr (.inr (.inl rfl))⟩
  · exact ⟨_, e, .inr (.inr (.inr rfl))⟩
theorem go_mapA {α : Type} {vs : List Nat} {g : D → M Unit} {te : M D} {ρ : En} (N O : α → D) : ∀ (as : List α), (∀ a ∈ as, ∃ ρ1 ρ3, g (N a) ρ = some (.ok () ρ1) ∧ te ρ1 = some (.ok (O a) ρ3) ∧ unsE ρ3 vs = ρ) → mGo vs g (mPure true) te (as.map N) ρ = some (.ok (as.map O) ρ)
  | [], _ => rfl
  | a :: as, h => by
    obtain ⟨ρ1, ρ3, e1, e2, e3⟩ := h a List.mem_cons_self
    have ih := go_mapA N O as fun x hx => h x (List.mem_cons_of_mem _ hx)
    have t1 : (mPure true : M Bool) ρ1 = some (.ok true ρ1) := rfl
    have e5 : (mBind te fun y => mPure [y]) ρ1 = some (.ok [O a] ρ3) := by rw [bind_is e2]; rfl
    have e6 : mUn_ vs ρ3 = some (.ok () ρ) := by unfold mUn_; rw [e3]
    rw [List.map_cons]
    unfold mGo
    rw [bind_is e1, bind_is t1, if_pos rfl, bind_is e5, bind_is e6, bind_is ih]; rfl
theorem fold_len : ∀ (qs F : List Pr), (qs.foldl stepS F).length ≤ F.length + qs.length
  | [], F => Nat.le_refl _
  | q :: qs, F => by
    have h := fold_len qs (stepS F q)
    have h2 := step_len F q
    show (qs.foldl stepS (stepS F q)).length ≤ _
    simp only [List.length_cons]
    omega
theorem spans_len (ps : List Pr) : (spansP ps).length ≤ ps.length := by
  have h := fold_len (sortP ps) []
  have := (sortP_perm ps).length_eq
  show ((sortP ps).foldl stepS []).length ≤ _
  simp only [List.length_nil] at h
  omega
theorem others_len (below : Int) : ∀ (ss : List Pr) (a : Int), (othersP below a ss).length ≤ ss.length + 1
  | [], a => by unfold othersP; split <;> simp
  | s :: ss, a => by
    have h := others_len below ss s.2
    unfold othersP
    rw [List.length_append, List.length_cons]
    have h1 : (if a < mnI s.1 below then [(a, mnI s.1 below)] else []).length ≤ 1 := by split <;> simp
    omega
theorem eqv_pairs (ps : List Pr) : PyData.eqvAll (ps.map pairD) (ps.map pairD) = true := eqvAll_refl _ fun d hd => by
  obtain ⟨p, _, rfl⟩ := List.mem_map.mp hd
  simp [pairD, PyData.eqv, PyData.eqvAll]
theorem sh_pair (p : Pr) : Sh 1 (pairD p) := Sh.tuple fun d hd => by
  simp only [List.mem_cons, List.not_mem_nil, or_false] at hd
  rcases hd with rfl | rfl <;> exact Sh.int _
theorem sh_pairs (ps : List Pr) : Sh 2 (.list (ps.map pairD)) := Sh.list fun d hd => by
  obtain ⟨p, _, rfl⟩ := List.mem_map.mp hd
  exact sh_pair p
theorem eq_tp (as : List Pr) : eqD (.tuple (as.map pairD)) (.tuple (as.map pairD)) = some (.bool true) := by
  have h : Sh 2 (.tuple (as.map pairD)) := Sh.tuple fun d hd => by
    obtain ⟨p, _, rfl⟩ := List.mem_map.mp hd
    exact sh_pair p
  rw [eq_sh h h (by omega) (by omega)]
  simp [PyData.eqv, eqv_pairs]
theorem ne_tp (as : List Pr) : neD (.tuple (as.map pairD)) (.tuple (as.map pairD)) = some (.bool false) := by
  have h : Sh 2 (.tuple (as.map pairD)) := Sh.tuple fun d hd => by
    obtain ⟨p, _, rfl⟩ := List.mem_map.mp hd
    exact sh_pair p
  rw [ne_sh h h (by omega) (by omega)]
  simp [PyData.eqv, eqv_pairs]
theorem both_len2 (a b : List Pr) : (bothP a b).length ≤ a.length + b.length := both_len _ a b (Nat.le_refl _)
theorem worn_len (n : Int) (ss : List Pr) : (wornP n ss).length ≤ ss.length := by
  unfold wornP; rw [List.length_map]; exact List.length_filter_le _ _
theorem later_len (n : Int) (ss : List Pr) : (laterP n ss).length = ss.length := by
  unfold laterP; rw [List.length_map]
theorem grown_len (n : Int) (ss : List Pr) : (grownP n ss).length ≤ ss.length := by
  have := spans_len (ss.map fun s : Pr => (s.1, s.2 + n))
  rw [List.length_map] at this
  exact this
/-- a comprehension whose turns change the box -/
theorem go_box {vs : List Nat} {g : D → M Unit} {te : M D} (E : List D → En) (P : D → Prop) : ∀ (xs : List D) (bs : List D), Bx bs →
    (∀ x ∈ xs, ∀ bs, Bx bs → ∃ y bs' ρ1 ρ3, P y ∧ Bx bs' ∧ g x (E bs) = some (.ok () ρ1) ∧ te ρ1 = some (.ok y ρ3) ∧ unsE ρ3 vs = E bs') →
    ∃ ys bs', Bx bs' ∧ (∀ y ∈ ys, P y) ∧ ys.length = xs.length ∧ mGo vs g (mPure true) te xs (E bs) = some (.ok ys (E bs'))
  | [], bs, hb, _ => ⟨[], bs, hb, fun _ h => (by cases h), rfl, rfl⟩
  | x :: xs, bs, hb, h => by
    obtain ⟨y, bs1, ρ1, ρ3, p, hb1, e1, e2, e3⟩ := h x List.mem_cons_self bs hb
    obtain ⟨ys, bs', hb', q, l, ih⟩ := go_box E P xs bs1 hb1 fun z hz => h z (List.mem_cons_of_mem _ hz)
    refine ⟨y :: ys, bs', hb', fun z hz => (List.mem_cons.mp hz).elim (fun e => e ▸ p) (q z), by rw [List.length_cons, List.length_cons, l], ?_⟩
    have t1 : (mPure true : M Bool) ρ1 = some (.ok true ρ1) := rfl
    have e5 : (mBind te fun y => mPure [y]) ρ1 = some (.ok [y] ρ3) := by rw [bind_is e2]; rfl
    have e6 : mUn_ vs ρ3 = some (.ok () (E bs')) ∨ mUn_ vs ρ3 = some (.ok () (E bs1)) := .inr (by unfold mUn_; rw [e3])
    have e6 : mUn_ vs ρ3 = some (.ok () (E bs1)) := by unfold mUn_; rw [e3]
    unfold mGo
    rw [bind_is e1, bind_is t1, if_pos rfl, bind_is e5, bind_is e6, bind_is ih]; rfl
theorem rngL_len (n : Nat) : (rngL 0 (n : Int)).length = n := by rw [rngL_length]; omega

/-! ### any plain value is alike to itself -/
inductive Alk : Nat → D → Prop
  | int (n : Nat) (i : Int) : Alk n (.int i)
  | bool (n : Nat) (b : Bool) : Alk n (.bool b)
  | str (n : Nat) (s : String) : Alk n (.str (Str.ofString s))
  | tup (n : Nat) (ds : List D) : ds.length ≤ 1000000 → (∀ d ∈ ds, Alk n d) → Alk (n + 1) (.tuple ds)
  | lst (n : Nat) (ds : List D) : ds.length ≤ 1000000 → (∀ d ∈ ds, Alk n d) → Alk (n + 1) (.list ds)
theorem eq_bool (a : Bool) : eqD (.bool a) (.bool a) = some (.bool true) := by
  have e : PyData.eqv (.bool a) (.bool a) = true := by cases a <;> decide +kernel
  simp [eqD, sh_bool, e]
theorem alike_boolv (n : Nat) (a : Bool) : fn__law_alike (n + 1) [.bool a, .bool a] = some (.ok (.bool true)) := by
  simp [fn__law_alike, runV, m__law_alike, env0, mSeq, mIf, mBol, mBin, mBinL, mBind, mLift, mPure, mPeek, mVar, ixD, iI, bolD, mAsg, mCall1, mCallN, intD, modD, iIc, cMod, mStore, mStoreO, mDone, gSet, mOwn, mPut, setD, mRet, mDrop, mStuck, mTru, truD, mOrT, mAndT, mNotT, mAnd, mOr, mNot, mIsi, isiT_eq, typD, lenD, mCons, mTup, mLst, mLstN, mVal, oOr, addD, subD, mulD, mulI, iIc, cMul, ltD, leD, gtD, geD, gTupD, gCons2, gsNil, mCallV, mCallB, mRs, tupleD, mRetF, mChain, mScr, mScrLen, mScrIx, mMut, appD, max2D, min2D, mRng1, mRng2, rngD1, rngD2, rngOk, mItems, itemsD, mAsgN, mParEE, mParEN, mUn, negD, mCallN1, listD, unsE, powD, cPow, divD, cDiv, mFor, mSl, mSlL, slD, mNoPart, mPart, intO, mSlN, mSlNL, slN, mRevN, revO, mParNC, andD, orD, xorD, shrD, shlD, cShr, mStepN, mStepNL, stepO, mCatN, mCatNL, catN, isi_int_NoneType, isi_int_bool, isi_int_int, isi_int_str, isi_int_list, isi_int_tuple, isi_int_dict, isi_bool_NoneType, isi_bool_bool, isi_bool_int, isi_bool_str, isi_bool_list, isi_bool_tuple, isi_bool_dict, isi_str_NoneType, isi_str_bool, isi_str_int, isi_str_str, isi_str_list, isi_str_tuple, isi_str_dict, isi_list_NoneType, isi_list_bool, isi_list_int, isi_list_str, isi_list_list, isi_list_tuple, isi_list_dict, isi_tuple_NoneType, isi_tuple_bool, isi_tuple_int, isi_tuple_str, isi_tuple_list, isi_tuple_tuple, isi_tuple_dict, isi_dict_NoneType, isi_dict_bool, isi_dict_int, isi_dict_str, isi_dict_list, isi_dict_tuple, isi_dict_dict, mIsiA, isiA, ne_bool, eq_bool]
theorem alike_strv (n : Nat) (s : String) : fn__law_alike (n + 1) [.str (Str.ofString s), .str (Str.ofString s)] = some (.ok (.bool true)) := by
  simp [fn__law_alike, runV, m__law_alike, env0, mSeq, mIf, mBol, mBin, mBinL, mBind, mLift, mPure, mPeek, mVar, ixD, iI, bolD, mAsg, mCall1, mCallN, intD, modD, iIc, cMod, mStore, mStoreO, mDone, gSet, mOwn, mPut, setD, mRet, mDrop, mStuck, mTru, truD, mOrT, mAndT, mNotT, mAnd, mOr, mNot, mIsi, isiT_eq, typD, lenD, mCons, mTup, mLst, mLstN, mVal, oOr, addD, subD, mulD, mulI, iIc, cMul, ltD, leD, gtD, geD, gTupD, gCons2, gsNil, mCallV, mCallB, mRs, tupleD, mRetF, mChain, mScr, mScrLen, mScrIx, mMut, appD, max2D, min2D, mRng1, mRng2, rngD1, rngD2, rngOk, mItems, itemsD, mAsgN, mParEE, mParEN, mUn, negD, mCallN1, listD, unsE, powD, cPow, divD, cDiv, mFor, mSl, mSlL, slD, mNoPart, mPart, intO, mSlN, mSlNL, slN, mRevN, revO, mParNC, andD, orD, xorD, shrD, shlD, cShr, mStepN, mStepNL, stepO, mCatN, mCatNL, catN, isi_int_NoneType, isi_int_bool, isi_int_int, isi_int_str, isi_int_list, isi_int_tuple, isi_int_dict, isi_bool_NoneType, isi_bool_bool, isi_bool_int, isi_bool_str, isi_bool_list, isi_bool_tuple, isi_bool_dict, isi_str_NoneType, isi_str_bool, isi_str_int, isi_str_str, isi_str_list, isi_str_tuple, isi_str_dict, isi_list_NoneType, isi_list_bool, isi_list_int, isi_list_str, isi_list_list, isi_list_tuple, isi_list_dict, isi_tuple_NoneType, isi_tuple_bool, isi_tuple_int, isi_tuple_str, isi_tuple_list, isi_tuple_tuple, isi_tuple_dict, isi_dict_NoneType, isi_dict_bool, isi_dict_int, isi_dict_str, isi_dict_list, isi_dict_tuple, isi_dict_dict, mIsiA, isiA, ne_bool, eq_str]
theorem alike_self : ∀ (n k : Nat) (d : D), Alk n d → fn__law_alike (n + 1 + k) [d, d] = some (.ok (.bool true)) := by
  intro n k d h
  induction h with
  | int n i => rw [show n + 1 + k = n + k + 1 by omega]; exact alike_int _ i
  | bool n b => rw [show n + 1 + k = n + k + 1 by omega]; exact alike_boolv _ b
  | str n s => rw [show n + 1 + k = n + k + 1 by omega]; exact alike_strv _ s
  | tup n ds hl _ ih =>
    rw [show n + 1 + 1 + k = (n + 1 + k) + 1 by omega]
    exact alike_tup (fn__law_alike (n + 1 + k)) ds hl ih
  | lst n ds hl _ ih =>
    rw [show n + 1 + 1 + k = (n + 1 + k) + 1 by omega]
    exact alike_lst (fn__law_alike (n + 1 + k)) ds hl ih

theorem eqS (a b : Str) (ha : PyData.strOk a = true) (hb : PyData.strOk b = true) : eqD (.str a) (.str b) = some (.bool (a == b)) := by
  have e : PyData.eqv (.str a) (.str b) = (a == b) := by simp [PyData.eqv]
  simp [eqD, SeqAt.shaped, PyData.canLay0, PyData.depth, ha, hb, e]
theorem eqF {a b : String} (h : (Str.ofString a == Str.ofString b) = false) : eqD (.str (Str.ofString a)) (.str (Str.ofString b)) = some (.bool false) := by rw [eqS _ _ (strOk_of _) (strOk_of _), h]
theorem neT {a b : String} (h : (Str.ofString a == Str.ofString b) = false) : neD (.str (Str.ofString a)) (.str (Str.ofString b)) = some (.bool true) := by
  have e : PyData.eqv (.str (Str.ofString a)) (.str (Str.ofString b)) = (Str.ofString a == Str.ofString b) := by simp [PyData.eqv]
  simp [neD, SeqAt.shaped, PyData.canLay0, PyData.depth, strOk_of, e, h]
theorem ne_same (s : String) : neD (.str (Str.ofString s)) (.str (Str.ofString s)) = some (.bool false) := by
  have e : PyData.eqv (.str (Str.ofString s)) (.str (Str.ofString s)) = true := by simp [PyData.eqv]
  simp [neD, SeqAt.shaped, PyData.canLay0, PyData.depth, strOk_of, e]

/-! ### loops and comprehensions once more -/
/-- a comprehension over other things than data, with an if -/
theorem go_fm {α : Type} {vs : List Nat} {g : D → M Unit} {tt : M Bool} {te : M D} {ρ : En} (N : α → D) (O : α → List D) : ∀ (as : List α),
    (∀ a ∈ as, ∃ ρ1 ρ2 k, g (N a) ρ = some (.ok () ρ1) ∧ tt ρ1 = some (.ok k ρ2) ∧ (k = true → ∃ y ρ3, te ρ2 = some (.ok y ρ3) ∧ unsE ρ3 vs = ρ ∧ O a = [y]) ∧ (k = false → unsE ρ2 vs = ρ ∧ O a = [])) →
    mGo vs g tt te (as.map N) ρ = some (.ok (as.flatMap O) ρ)
  | [], _ => rfl
  | a :: as, h => by
    obtain ⟨ρ1, ρ2, k, e1, e2, h3, h4⟩ := h a List.mem_cons_self
    have ih := go_fm (vs := vs) (g := g) (tt := tt) (te := te) N O as fun x hx => h x (List.mem_cons_of_mem _ hx)
    rw [List.map_cons, List.flatMap_cons]
    unfold mGo
    rw [bind_is e1, bind_is e2]
    cases k with
    | true =>
      obtain ⟨y, ρ3, e3, e4, e5⟩ := h3 rfl
      have e6 : (mBind te fun y => mPure [y]) ρ2 = some (.ok [y] ρ3) := by rw [bind_is e3]; rfl
      have e7 : mUn_ vs ρ3 = some (.ok () ρ) := by unfold mUn_; rw [e4]
      rw [if_pos rfl, bind_is e6, bind_is e7, bind_is ih, e5]; rfl
    | false =>
      obtain ⟨e4, e5⟩ := h4 rfl
      have e6 : (mPure [] : M (List D)) ρ2 = some (.ok [] ρ2) := rfl
      have e7 : mUn_ vs ρ2 = some (.ok () ρ) := by unfold mUn_; rw [e4]
      rw [if_neg (by simp), bind_is e6, bind_is e7, bind_is ih, e5]; rfl
/-- enumerate -/
theorem enum_map {α : Type} (f : α → D) (as : List α) : enumL (as.map f) = as.zipIdx.map fun p => .tuple [.int (p.2 : Nat), f p.1] := by
  unfold enumL
  apply List.ext_getElem?
  intro i
  rw [List.getElem?_map, List.getElem?_map, List.length_map, List.getElem?_zipIdx]
  rcases Nat.lt_or_ge i as.length with h | h
  · rw [List.getElem?_range h, List.getElem?_eq_getElem h]
    simp [List.getD_eq_getElem?_getD, List.getElem?_eq_getElem h]
  · rw [List.getElem?_eq_none (by simpa using h), List.getElem?_eq_none h]; rfl
theorem rngL_nat (n : Nat) : rngL 0 (n : Int) = (List.range n).map fun i => PyData.int (i : Nat) := by
  unfold rngL
  rw [show ((n : Int) - 0).toNat = n by omega]
  apply List.map_congr_left
  intro i _
  rw [Int.zero_add]
theorem zipWith_zip {α β γ : Type} (f : α → β → γ) : ∀ (xs : List α) (ys : List β), List.zipWith f xs ys = (xs.zip ys).map fun p => f p.1 p.2
  | [], _ => rfl
  | _ :: _, [] => rfl
  | x :: xs, y :: ys => by
    rw [List.zipWith_cons_cons, List.zip_cons_cons, List.map_cons, zipWith_zip f xs ys]
theorem cut_mid (M : List D) {a b : Nat} (h : a ≤ b) : cutL M (some (a : Nat)) (some (b : Nat)) = (M.drop a).take (b - a) := by
  unfold cutL HT.sIx
  dsimp only
  rw [if_neg (by omega), if_neg (by omega), Int.toNat_natCast, Int.toNat_natCast]
  rcases Nat.lt_or_ge M.length a with q | q
  · rw [Nat.min_eq_right (Nat.le_of_lt q), List.drop_of_length_le (Nat.le_refl _), List.drop_of_length_le (Nat.le_of_lt q), List.take_nil, List.take_nil]
  · rw [Nat.min_eq_left q]
    rcases Nat.lt_or_ge M.length b with z | z
    · rw [Nat.min_eq_right (Nat.le_of_lt z), List.take_of_length_le (by rw [List.length_drop]; exact Nat.le_refl _), List.take_of_length_le (by rw [List.length_drop]; omega)]
    · rw [Nat.min_eq_left z]
theorem cut_take (M : List D) (b : Nat) : cutL M none (some (b : Nat)) = M.take b := by
  unfold cutL HT.sIx
  dsimp only
  rw [if_neg (by omega), Int.toNat_natCast, List.drop_zero]
  rcases Nat.lt_or_ge M.length b with z | z
  · rw [Nat.min_eq_right (Nat.le_of_lt z), List.take_of_length_le (by simp), List.take_of_length_le (Nat.le_of_lt z)]
  · rw [Nat.min_eq_left z, Nat.sub_zero]
theorem cut_drop (M : List D) (a : Nat) : cutL M (some (a : Nat)) none = M.drop a := by
  unfold cutL HT.sIx
  dsimp only
  rw [if_neg (by omega), Int.toNat_natCast]
  rcases Nat.lt_or_ge M.length a with q | q
  · rw [Nat.min_eq_right (Nat.le_of_lt q), List.drop_of_length_le (Nat.le_refl _), List.drop_of_length_le (Nat.le_of_lt q), List.take_nil]
  · rw [Nat.min_eq_left q, List.take_of_length_le (by rw [List.length_drop]; exact Nat.le_refl _)]
theorem seq2 {A B C : M Fl} {ρ ρ' : En} (h : mSeq A B ρ = some (.ok .nx ρ')) : mSeq A (mSeq B C) ρ = C ρ' := by
  unfold mSeq mBind at h ⊢
  cases e : A ρ with
  | none => rw [e] at h; cases h
  | some r =>
    rw [e] at h
    cases r with
    | ex x ρ1 => cases h
    | ok f ρ1 =>
      dsimp only at h ⊢
      cases f with
      | nx => dsimp only at h ⊢; rw [h]
      | bk => cases h
      | ct => cases h
      | rt d => cases h
      | rf d => cases h
theorem mul_ok {i j : Int} (h : i.natAbs < 1000000) : mulD (.int i) (.int j) = some (.int (i * j)) := by
  have hc : cMul i j = true := by
    unfold cMul
    rw [Bool.or_eq_true]
    exact .inl (decide_eq_true (by omega))
  show oOr mulI repT _ _ = _
  unfold oOr mulI iIc
  simp only [hc, if_true]

/-! ### repr of lists of lists of numbers: how long, and that it may be compared -/
theorem strOk_app {x y : Str} (hx : PyData.strOk x = true) (hy : PyData.strOk y = true) : PyData.strOk (x ++ y) = true := by
  unfold PyData.strOk at *
  show Array.all (x.cps ++ y.cps) _ = true
  rw [Array.all_append, hx, hy]; rfl
theorem textFrom_le {B : Nat} : ∀ (ts : List Str) (k : Nat) (acc : Str), (∀ t ∈ ts, t.length ≤ B) → (textFrom k acc ts).length ≤ acc.length + (B + 2) * ts.length
  | [], _, acc, _ => Nat.le_add_right _ _
  | t :: ts, k, acc, h => by
    have ih := textFrom_le ts (k + 1) (acc ++ (if k > 0 then ", " else "" : String) ++ t) fun u hu => h u (List.mem_cons_of_mem _ hu)
    have e : (acc ++ (if k > 0 then ", " else "" : String) ++ t).length = acc.length + (if k > 0 then 2 else 0) + t.length := by
      rw [strLen_append, strLen_append]
      split <;> rfl
    have ht := h t List.mem_cons_self
    rw [e] at ih
    rw [List.length_cons, Nat.mul_add]
    show (textFrom (k + 1) _ ts).length ≤ _
    have : (if k > 0 then 2 else 0) ≤ 2 := by split <;> omega
    omega
theorem textFrom_strOk : ∀ (ts : List Str) (k : Nat) (acc : Str), PyData.strOk acc = true → (∀ t ∈ ts, PyData.strOk t = true) → PyData.strOk (textFrom k acc ts) = true
  | [], _, acc, ha, _ => ha
  | t :: ts, k, acc, ha, h => textFrom_strOk ts (k + 1) _ (strOk_app (strOk_app ha (strOk_of _)) (h t List.mem_cons_self)) fun u hu => h u (List.mem_cons_of_mem _ hu)
theorem listText_le {B : Nat} {ts : List Str} (h : ∀ t ∈ ts, t.length ≤ B) : (listText ts).length ≤ 2 + (B + 2) * ts.length := by
  unfold listText
  rw [strLen_append]
  have := textFrom_le ts 0 ("[" : String) h
  have e1 : ((("[" : String) : Str)).length = 1 := rfl
  have e2 : ((("]" : String) : Str)).length = 1 := rfl
  rw [e1] at this
  rw [e2]
  omega
theorem listText_strOk {ts : List Str} (h : ∀ t ∈ ts, PyData.strOk t = true) : PyData.strOk (listText ts) = true :=
  strOk_app (textFrom_strOk ts 0 _ (strOk_of _) h) (strOk_of _)
theorem shownAll_map : ∀ ds : List D, PyData.shownAll ds = ds.map PyData.shown
  | [] => rfl
  | d :: ds => by
    show PyData.shown d :: PyData.shownAll ds = _
    rw [shownAll_map ds]; rfl
/-- a showable value of bounded depth whose text has at most B signs -/
structure Shw (B n : Nat) (d : D) : Prop where
  sh : d.showable = true
  nd : d.hasDict = false
  dp : d.depth ≤ n
  ln : d.shown.length ≤ B
  ok : PyData.strOk d.shown = true
theorem shw_list {B n : Nat} {ds : List D} (h : ∀ d ∈ ds, Shw B n d) : Shw (2 + (B + 2) * ds.length) (n + 1) (.list ds) := by
  have h1 : ∀ xs : List D, (∀ d ∈ xs, Shw B n d) → PyData.showableAll xs = true ∧ PyData.hasDictAll xs = false ∧ PyData.depthAll xs ≤ n := by
    intro xs
    induction xs with
    | nil => exact fun _ => ⟨rfl, rfl, Nat.zero_le _⟩
    | cons x xs ih =>
      intro hx
      obtain ⟨a, b, c⟩ := ih fun d hd => hx d (List.mem_cons_of_mem _ hd)
      have := hx x List.mem_cons_self
      refine ⟨?_, ?_, ?_⟩
      · show (x.showable && PyData.showableAll xs) = true
        rw [this.sh, a]; rfl
      · show (x.hasDict || PyData.hasDictAll xs) = false
        rw [this.nd, b]; rfl
      · show max x.depth (PyData.depthAll xs) ≤ n
        have := this.dp
        omega
  obtain ⟨a, b, c⟩ := h1 ds h
  have hs : ∀ t ∈ PyData.shownAll ds, t.length ≤ B ∧ PyData.strOk t = true := fun t ht => by
    rw [shownAll_map] at ht
    obtain ⟨d, hd, rfl⟩ := List.mem_map.mp ht
    exact ⟨(h d hd).ln, (h d hd).ok⟩
  refine ⟨a, b, Nat.succ_le_succ c, ?_, listText_strOk fun t ht => (hs t ht).2⟩
  have := listText_le (B := B) fun t ht => (hs t ht).1
  rw [shownAll_map, List.length_map] at this
  show (listText (PyData.shownAll ds)).length ≤ _
  rw [shownAll_map]
  exact this
theorem shw_mono {B B' n n' : Nat} {d : D} (h : Shw B n d) (hB : B ≤ B') (hn : n ≤ n') : Shw B' n' d := ⟨h.sh, h.nd, Nat.le_trans h.dp hn, Nat.le_trans h.ln hB, h.ok⟩
theorem byte_len : ∀ n : Fin 256, (Str.ofString (toString (n.val : Int))).length ≤ 3 := by decide +kernel
theorem shw_byte {i : Int} (h0 : 0 ≤ i) (h1 : i < 256) : Shw 3 0 (.int i) := by
  obtain ⟨n, rfl⟩ : ∃ n : Nat, i = (n : Int) := ⟨i.toNat, by omega⟩
  have hn : n < 256 := by omega
  refine ⟨?_, rfl, Nat.le_refl _, ?_, strOk_of _⟩
  · have : ∀ n : Fin 256, decide ((n.val : Int).natAbs.log2 < 1920) = true := by decide +kernel
    exact this ⟨n, hn⟩
  · exact byte_len ⟨n, hn⟩
theorem repr_shw {B n : Nat} {ds : List D} (h : Shw B n (.list ds)) (hB : B ≤ 16000000) (hn : n ≤ 60) : reprG [.list ds] = some (.str (PyData.list ds).shown) := by
  have hs : showOk (.list ds) = true := by
    show ((PyData.list ds).showable && !(PyData.list ds).hasDict && decide ((PyData.list ds).depth ≤ 60) && fit (PyData.list ds).shown.length) = true
    have e1 : decide ((PyData.list ds).depth ≤ 60) = true := decide_eq_true (Nat.le_trans h.dp hn)
    have e2 : fit (PyData.list ds).shown.length = true := decide_eq_true (Nat.le_trans h.ln hB)
    rw [h.sh, h.nd, e1, e2]; rfl
  show (if showOk (.list ds) = true then some (PyData.str (PyData.list ds).shown) else none) = _
  rw [if_pos hs]
theorem ne_shw {a : Str} (h : PyData.strOk a = true) : neD (.str a) (.str a) = some (.bool false) := by
  have s : SeqAt.shaped (.str a) = true := by simp [SeqAt.shaped, PyData.canLay0, PyData.depth, h]
  unfold neD
  rw [s]
  simp [PyData.eqv]

/-! ### repr of tuples, texts and numbers: how long, and that it may be compared -/
theorem join_strOk : ∀ ts : List Str, (∀ t ∈ ts, PyData.strOk t = true) → PyData.strOk (Str.join ", " ts) = true
  | [], _ => strOk_of ""
  | [x], h => h x List.mem_cons_self
  | x :: y :: r, h => by
    show PyData.strOk (x ++ (", " : String) ++ Str.join ", " (y :: r)) = true
    exact strOk_app (strOk_app (h x List.mem_cons_self) (strOk_of _)) (join_strOk (y :: r) fun t ht => h t (List.mem_cons_of_mem _ ht))
theorem join_le {B : Nat} : ∀ ts : List Str, (∀ t ∈ ts, t.length ≤ B) → (Str.join ", " ts).length ≤ (B + 2) * ts.length
  | [], _ => by show 0 ≤ _; omega
  | [x], h => by
    have := h x List.mem_cons_self
    show x.length ≤ _
    simp only [List.length_cons, List.length_nil]
    omega
  | x :: y :: r, h => by
    have ih := join_le (y :: r) fun t ht => h t (List.mem_cons_of_mem _ ht)
    have hx := h x List.mem_cons_self
    have e2 : ((", " : String) : Str).length = 2 := rfl
    show (x ++ (", " : String) ++ Str.join ", " (y :: r)).length ≤ _
    rw [strLen_append, strLen_append, e2, List.length_cons, Nat.mul_add]
    omega
theorem tupleText_le {B : Nat} {ts : List Str} (h : ∀ t ∈ ts, t.length ≤ B) : (tupleText ts).length ≤ 3 + (B + 2) * ts.length := by
  unfold tupleText
  have := join_le ts h
  rw [strLen_append, strLen_append]
  have e1 : ((("(" : String) : Str)).length = 1 := rfl
  have e2 : ((if ts.length == 1 then ",)" else ")" : String) : Str).length ≤ 2 := by
    split <;> decide
  rw [e1]
  omega
theorem tupleText_strOk {ts : List Str} (h : ∀ t ∈ ts, PyData.strOk t = true) : PyData.strOk (tupleText ts) = true :=
  strOk_app (strOk_app (strOk_of _) (join_strOk _ h)) (strOk_of _)
theorem shw_all {B n : Nat} : ∀ xs : List D, (∀ d ∈ xs, Shw B n d) → PyData.showableAll xs = true ∧ PyData.hasDictAll xs = false ∧ PyData.depthAll xs ≤ n
  | [], _ => ⟨rfl, rfl, Nat.zero_le _⟩
  | x :: xs, hx => by
    obtain ⟨a, b, c⟩ := shw_all xs fun d hd => hx d (List.mem_cons_of_mem _ hd)
    have := hx x List.mem_cons_self
    refine ⟨?_, ?_, ?_⟩
    · show (x.showable && PyData.showableAll xs) = true
      rw [this.sh, a]; rfl
    · show (x.hasDict || PyData.hasDictAll xs) = false
      rw [this.nd, b]; rfl
    · show max x.depth (PyData.depthAll xs) ≤ n
      have := this.dp
      omega
theorem shw_tuple {B n : Nat} {ds : List D} (h : ∀ d ∈ ds, Shw B n d) : Shw (3 + (B + 2) * ds.length) (n + 1) (.tuple ds) := by
  obtain ⟨a, b, c⟩ := shw_all ds h
  have hs : ∀ t ∈ PyData.shownAll ds, t.length ≤ B ∧ PyData.strOk t = true := fun t ht => by
    rw [shownAll_map] at ht
    obtain ⟨d, hd, rfl⟩ := List.mem_map.mp ht
    exact ⟨(h d hd).ln, (h d hd).ok⟩
  refine ⟨a, b, Nat.succ_le_succ c, ?_, tupleText_strOk fun t ht => (hs t ht).2⟩
  have := tupleText_le (B := B) fun t ht => (hs t ht).1
  rw [shownAll_map, List.length_map] at this
  show (tupleText (PyData.shownAll ds)).length ≤ _
  rw [shownAll_map]
  exact this
theorem shw_int {i : Int} (h : i.natAbs < 1000000000) : Shw 10 0 (.int i) := by
  have hlog : i.natAbs.log2 < 1920 := by
    by_cases h0 : i.natAbs = 0
    · rw [h0]; decide
    · have : i.natAbs.log2 < 30 := (Nat.log2_lt h0).mpr (Nat.lt_of_lt_of_le h (by decide))
      omega
  refine ⟨decide_eq_true hlog, rfl, Nat.le_refl _, ?_, strOk_of _⟩
  show (Str.ofString (toString i)).length ≤ 10
  rw [PySem.ofString_length]
  exact PySem.int_text_length_le10 (k := 9) (by decide) h
theorem shw_str {s : Str} (h1 : (reprText s).length ≤ 40) (h2 : PyData.strOk (reprText s) = true) : Shw 40 0 (.str s) := ⟨rfl, rfl, Nat.le_refl _, h1, h2⟩

/-! ### the item of its parts -/
theorem parts_ok {I : D} {ds ps : List D} {P kd wd p q r s p' q' r' s' : D} {a b bg en : Int} (hI : I = .list ds ∨ I = .tuple ds) (hP : P = .list ps ∨ P = .tuple ps) (h0 : atI ps 0 = some (.int a)) (h1 : atI ps (-1) = some (.int b))
    (e0 : atI ds a = some (.tuple [p, q, .int bg, r, s])) (e1 : atI ds b = some (.tuple [p', q', r', .int en, s'])) : fn_item_of_parts [I, kd, wd, P] = some (.ok (.tuple [kd, wd, .int bg, .int en, .tuple ps])) := by
  have z2 : ∀ p q r s t : D, atI [p, q, r, s, t] 2 = some r := fun _ _ _ _ _ => rfl
  have z3 : ∀ p q r s t : D, atI [p, q, r, s, t] 3 = some s := fun _ _ _ _ _ => rfl
  have t1 : tupleD [.list ps] = some (.tuple ps) := rfl
  have t2 : tupleD [.tuple ps] = some (.tuple ps) := rfl
  rcases hI with rfl | rfl <;> rcases hP with rfl | rfl <;> simp [fn_item_of_parts, runV, m_item_of_parts, env0, mSeq, mIf, mBol, mBin, mBinL, mBind, mLift, mPure, mPeek, mVar, ixD, iI, bolD, mAsg, mCall1, mCallN, intD, modD, iIc, cMod, mStore, mStoreO, mDone, gSet, mOwn, mPut, setD, mRet, mDrop, mStuck, mTru, truD, mOrT, mAndT, mNotT, mAnd, mOr, mNot, mIsi, isiT_eq, typD, lenD, mCons, mTup, mLst, mLstN, mVal, oOr, addD, subD, mulD, mulI, iIc, cMul, ltD, leD, gtD, geD, gTupD, gCons2, gsNil, mCallV, mCallB, mRs, tupleD, mRetF, mChain, mScr, mScrLen, mScrIx, mMut, appD, max2D, min2D, mRng1, mRng2, rngD1, rngD2, rngOk, mItems, itemsD, mAsgN, mParEE, mParEN, mUn, negD, mCallN1, listD, unsE, powD, cPow, divD, cDiv, mFor, mSl, mSlL, slD, mNoPart, mPart, intO, mSlN, mSlNL, slN, mRevN, revO, mParNC, andD, orD, xorD, shrD, shlD, cShr, mStepN, mStepNL, stepO, mCatN, mCatNL, catN, h0, h1, e0, e1, z2, z3, t1, t2, fit]
theorem rng_first {a b : Nat} (h : a < b) : atI (rngL (a : Int) (b : Int)) 0 = some (.int ((a : Nat) : Int)) := by
  refine atI_nat' (by omega) ?_
  unfold rngL
  have : 0 < ((b : Int) - (a : Int)).toNat := by omega
  rw [List.getElem?_map, show ((0 : Int).toNat) = 0 from rfl, List.getElem?_range this]
  simp
theorem rng_last {a b : Nat} (h : a < b) : atI (rngL (a : Int) (b : Int)) (-1) = some (.int ((b - 1 : Nat) : Int)) := by
  have e : rngL (a : Int) (b : Int) = rngL (a : Int) ((b - 1 : Nat) : Int) ++ [.int ((b - 1 : Nat) : Int)] := by
    unfold rngL
    rw [show ((b : Int) - (a : Int)).toNat = (((b - 1 : Nat) : Int) - (a : Int)).toNat + 1 by omega, List.range_succ, List.map_append]
    congr 1
    show [PyData.int ((a : Int) + ((((b - 1 : Nat) : Int) - (a : Int)).toNat : Nat))] = _
    congr 2
    omega
  rw [e]
  exact atI_last _ _

/-! ### items of two wires -/
structure Iw where
  k : Kd
  w : D
  n : Int
  b : Int
  e : Int
  pl : List D
def kdD : Kd → D
  | .start => .str "start"
  | .stop => .str "stop"
  | .word => .str "word"
  | .mute => .str "mute"
  | .torn => .str "torn"
def isSaid : Kd → Bool
  | .word => true
  | .mute => true
  | _ => false
def isTorn : Kd → Bool
  | .torn => true
  | _ => false
def whatW (x : Iw) : D := if isSaid x.k = true then .int x.n else x.w
def iwD (x : Iw) : D := .tuple [kdD x.k, whatW x, .int x.b, .int x.e, .tuple x.pl]
theorem kd_start (k : Kd) : eqD (kdD k) (.str "start") = some (.bool (isSt k)) := by cases k <;> first | exact eq_str _ | exact eqF (by decide +kernel)
theorem kd_stop (k : Kd) : eqD (kdD k) (.str "stop") = some (.bool (decide (k = .stop))) := by cases k <;> first | exact eq_str _ | exact eqF (by decide +kernel)
theorem kd_word (k : Kd) : eqD (kdD k) (.str "word") = some (.bool (decide (k = .word))) := by cases k <;> first | exact eq_str _ | exact eqF (by decide +kernel)
theorem kd_torn (k : Kd) : eqD (kdD k) (.str "torn") = some (.bool (isTorn k)) := by cases k <;> first | exact eq_str _ | exact eqF (by decide +kernel)
theorem kd_flat (k : Kd) : flatD (kdD k) = true ∧ flatV (toV (kdD k)) = true := by cases k <;> exact ⟨rfl, rfl⟩
theorem in_tup {a : D} {ds : List D} {v : Bool} (h : inOk a ds = true) (h2 : inFlat a ds = v) : inD false a (.tuple ds) = some (.bool v) := by
  show (if inOk a ds = true then some (PyData.bool (inFlat a ds)) else none) = _
  rw [if_pos h, h2]
theorem in_wm (k : Kd) : inD false (kdD k) (.tuple [.str "word", .str "mute"]) = some (.bool (isSaid k)) := by
  cases k <;> exact in_tup (by decide +kernel) (by decide +kernel)
theorem in_ss (k : Kd) : inD false (kdD k) (.tuple [.str "start", .str "stop"]) = some (.bool (isSS k)) := by
  cases k <;> exact in_tup (by decide +kernel) (by decide +kernel)
theorem torn_eqV (k : Kd) : eqV (toV (kdD k)) (toV (.str "torn")) = isTorn k := by cases k <;> decide +kernel
theorem in_torn (ks : List Kd) : inD false (.str "torn") (.list (ks.map kdD)) = some (.bool (ks.any isTorn)) := by
  have h1 : inOk (.str "torn") (ks.map kdD) = true := by
    have a1 : (ks.map kdD).all flatD = true := by
      rw [List.all_map, List.all_eq_true]
      exact fun k _ => (kd_flat k).1
    have a2 : ((ks.map kdD).map toV).all flatV = true := by
      rw [List.map_map, List.all_map, List.all_eq_true]
      exact fun k _ => (kd_flat k).2
    show (true && (ks.map kdD).all flatD && true && ((ks.map kdD).map toV).all flatV) = true
    rw [a1, a2]; rfl
  have h2 : inFlat (.str "torn") (ks.map kdD) = ks.any isTorn := by
    show ((ks.map kdD).map toV).any (fun y => eqV y (toV (.str "torn"))) = _
    rw [List.map_map, List.any_map]
    congr 1
    funext k
    exact torn_eqV k
  show (if inOk (.str "torn") (ks.map kdD) = true then some (PyData.bool (inFlat (.str "torn") (ks.map kdD))) else none) = _
  rw [if_pos h1, h2]
/-- the numbers from b on, each with its item -/
def ixs : List Iw → Nat → List (Nat × Iw)
  | [], _ => []
  | x :: r, b => (b, x) :: ixs r (b + 1)
theorem ixs_rng : ∀ (r : List Iw) (b : Nat), (ixs r b).map (fun p => PyData.int (p.1 : Nat)) = rngL (b : Nat) ((b + r.length : Nat) : Int)
  | [], b => by
    unfold rngL
    rw [List.length_nil, Nat.add_zero, show ((b : Int) - (b : Int)).toNat = 0 by omega]; rfl
  | x :: r, b => by
    have ih := ixs_rng r (b + 1)
    show PyData.int (b : Nat) :: (ixs r (b + 1)).map _ = _
    rw [ih]
    unfold rngL
    rw [List.length_cons, show (((b + (r.length + 1) : Nat) : Int) - (b : Int)).toNat = r.length + 1 by omega, show (((b + 1 + r.length : Nat) : Int) - ((b + 1 : Nat) : Int)).toNat = r.length by omega, List.range_succ_eq_map, List.map_cons, List.map_map]
    have z : PyData.int (b : Nat) = PyData.int ((b : Int) + ((0 : Nat) : Int)) := by congr 1
    rw [z]
    congr 1
    apply List.map_congr_left
    intro i _
    show PyData.int _ = PyData.int _
    congr 1
    show ((b + 1 : Nat) : Int) + (i : Int) = (b : Int) + ((i + 1 : Nat) : Int)
    omega
theorem ixs_snd {β : Type} (f : Iw → β) : ∀ (r : List Iw) (b : Nat), (ixs r b).map (fun p => f p.2) = r.map f
  | [], _ => rfl
  | x :: r, b => by
    show f x :: (ixs r (b + 1)).map _ = f x :: r.map f
    rw [ixs_snd f r (b + 1)]
theorem ixs_flat {β : Type} (f : Iw → List β) : ∀ (r : List Iw) (b : Nat), (ixs r b).flatMap (fun p => f p.2) = r.flatMap f
  | [], _ => rfl
  | x :: r, b => by
    show f x ++ (ixs r (b + 1)).flatMap _ = f x ++ r.flatMap f
    rw [ixs_flat f r (b + 1)]
theorem ixs_mem : ∀ (r : List Iw) (b : Nat) (p : Nat × Iw), p ∈ ixs r b → b ≤ p.1 ∧ r[p.1 - b]? = some p.2
  | [], _, _, h => by cases h
  | x :: r, b, p, h => by
    rcases List.mem_cons.mp h with rfl | h
    · exact ⟨Nat.le_refl _, by simp⟩
    · obtain ⟨a, c⟩ := ixs_mem r (b + 1) p h
      refine ⟨by omega, ?_⟩
      rw [show p.1 - b = (p.1 - (b + 1)) + 1 by omega]
      simpa using c
def cutI (xs : List Iw) (b e : Nat) : List Iw := (xs.drop b).take (e - b)
theorem cutI_len {xs : List Iw} {b e : Nat} (h : b ≤ e) (he : e ≤ xs.length) : (cutI xs b e).length = e - b := by
  unfold cutI
  rw [List.length_take, List.length_drop]; omega
theorem ixs_at {xs : List Iw} {b e : Nat} (h : b ≤ e) (he : e ≤ xs.length) (p : Nat × Iw) (hp : p ∈ ixs (cutI xs b e) b) : xs[p.1]? = some p.2 ∧ p.1 < xs.length := by
  obtain ⟨h1, h2⟩ := ixs_mem _ _ _ hp
  have hl : p.1 - b < (cutI xs b e).length := (List.getElem?_eq_some_iff.mp h2).1
  rw [cutI_len h he] at hl
  unfold cutI at h2
  rw [List.getElem?_take_of_lt hl, List.getElem?_drop, show b + (p.1 - b) = p.1 by omega] at h2
  exact ⟨h2, by omega⟩
def itemsIs (xs : List Iw) (I : D) : Prop := I = .list (xs.map iwD) ∨ I = .tuple (xs.map iwD)
theorem iw_at {xs : List Iw} {i : Nat} {x : Iw} (e : xs[i]? = some x) : atI (xs.map iwD) (i : Int) = some (iwD x) := atI_nat' (by omega) (by rw [Int.toNat_natCast, List.getElem?_map, e]; rfl)
def saidW : List Iw → List D
  | [] => [.str "empty", .str ""]
  | x :: r => [.str "call", .tuple [.int (x.n / 2), .str (if x.n % 2 = 1 then "read" else "write"), .tuple (r.map fun y => .int y.n), .bool (decide (x.k = .word))]]
/-- what is told of these items: their kind and what; done: an end was there -/
def toldW (inner : List Iw) (done : Bool) : List D :=
  if done = false then [.str "torn", .str "end"] else
  if (inner.map Iw.k).any isTorn = true then [.str "torn", .str "bits"] else saidW (inner.filter fun x => isSaid x.k)
def begW (xs : List Iw) (b : Nat) : Int := match xs[b]? with | some x => x.b | none => 0
def endW (xs : List Iw) (e : Nat) : Int := match xs[e - 1]? with | some x => x.e | none => 0
def entW (xs : List Iw) (b e : Nat) (done : Bool) : D := .tuple (toldW (cutI xs b e) done ++ [.int (begW xs b), .int (endW xs e), .tuple (rngL (b : Nat) (e : Nat))])
theorem partsW {I : D} {xs : List Iw} {b e : Nat} (kd wd : D) (hI : itemsIs xs I) (h : b < e) (he : e ≤ xs.length) : fn_item_of_parts [I, kd, wd, .list (rngL (b : Nat) (e : Nat))] = some (.ok (.tuple [kd, wd, .int (begW xs b), .int (endW xs e), .tuple (rngL (b : Nat) (e : Nat))])) := by
  have hb : xs[b]? = some xs[b] := List.getElem?_eq_getElem (by omega)
  have hee : xs[e - 1]? = some xs[e - 1] := List.getElem?_eq_getElem (by omega)
  have e1 : begW xs b = xs[b].b := by unfold begW; rw [hb]
  have e2 : endW xs e = xs[e - 1].e := by unfold endW; rw [hee]
  rw [e1, e2]
  exact parts_ok hI (.inl rfl) (rng_first h) (rng_last h) (iw_at hb) (iw_at hee)
theorem kinds_comp {I : D} {xs : List Iw} {b e : Nat} (hI : itemsIs xs I) (h : b < e) (he : e ≤ xs.length) (hl : xs.length ≤ 1000) :
    C__call_of_0 [.val I, .val (.list (rngL (b : Nat) (e : Nat))), .un, .un, .un, .un, .un, .un, .un, .un] = some (.ok (((cutI xs b e).map Iw.k).map kdD) [.val I, .val (.list (rngL (b : Nat) (e : Nat))), .un, .un, .un, .un, .un, .un, .un, .un]) := by
  have hr := ixs_rng (cutI xs b e) b
  rw [cutI_len (by omega) he, show b + (e - b) = e by omega] at hr
  have hi : mItems (mVar 1) [.val I, .val (.list (rngL (b : Nat) (e : Nat))), .un, .un, .un, .un, .un, .un, .un, .un] = some (.ok (rngL (b : Nat) (e : Nat)) [.val I, .val (.list (rngL (b : Nat) (e : Nat))), .un, .un, .un, .un, .un, .un, .un, .un]) := by
    generalize rngL (b : Nat) (e : Nat) = R
    simp [mSeq, mIf, mBol, mBin, mBinL, mBind, mLift, mPure, mPeek, mVar, ixD, iI, bolD, mAsg, mCall1, mCallN, intD, modD, iIc, cMod, mStore, mStoreO, mDone, gSet, mOwn, mPut, setD, mRet, mDrop, mStuck, mTru, truD, mOrT, mAndT, mNotT, mAnd, mOr, mNot, mIsi, isiT_eq, typD, lenD, mCons, mTup, mLst, mLstN, mVal, oOr, addD, subD, mulD, mulI, iIc, cMul, ltD, leD, gtD, geD, gTupD, gCons2, gsNil, mCallV, mCallB, mRs, tupleD, mRetF, mChain, mScr, mScrLen, mScrIx, mMut, appD, max2D, min2D, mRng1, mRng2, rngD1, rngD2, rngOk, mItems, itemsD, mAsgN, mParEE, mParEN, mUn, negD, mCallN1, listD, unsE, powD, cPow, divD, cDiv, mFor, mSl, mSlL, slD, mNoPart, mPart, intO, mSlN, mSlNL, slN, mRevN, revO, mParNC, andD, orD, xorD, shrD, shlD, cShr, mStepN, mStepNL, stepO, mCatN, mCatNL, catN]
  refine comp_is (vs := [8]) (ρe := [.val I, .val (.list (rngL (b : Nat) (e : Nat))), .un, .un, .un, .un, .un, .un, .un, .un]) hi (fit_of2 (by rw [rngL_length]; omega)) ?_
  have ho : ((cutI xs b e).map Iw.k).map kdD = (ixs (cutI xs b e) b).map fun p => kdD p.2.k := by
    rw [ixs_snd (fun x => kdD x.k), List.map_map]; rfl
  rw [ho]
  generalize hR : rngL (b : Nat) (e : Nat) = R at *
  rw [← hr]
  refine go_mapA _ _ _ fun p hp => ?_
  obtain ⟨h1, h2⟩ := ixs_at (by omega) he p hp
  have hat := iw_at h1
  have z0 : ∀ p q r s t : D, atI [p, q, r, s, t] 0 = some p := fun _ _ _ _ _ => rfl
  refine ⟨[.val I, .val (.list R), .un, .un, .un, .un, .un, .un, .val (.int (p.1 : Nat)), .un], [.val I, .val (.list R), .un, .un, .un, .un, .un, .un, .val (.int (p.1 : Nat)), .un], by rw [hr]; simp [unsE, mStore], ?_, by rw [hr]; simp [unsE]⟩
  have hit : iwD p.2 = .tuple [kdD p.2.k, whatW p.2, .int p.2.b, .int p.2.e, .tuple p.2.pl] := rfl
  rw [hit] at hat
  unfold itemsIs at hI
  generalize xs.map iwD = X at *
  rcases hI with rfl | rfl <;> simp [mSeq, mIf, mBol, mBin, mBinL, mBind, mLift, mPure, mPeek, mVar, ixD, iI, bolD, mAsg, mCall1, mCallN, intD, modD, iIc, cMod, mStore, mStoreO, mDone, gSet, mOwn, mPut, setD, mRet, mDrop, mStuck, mTru, truD, mOrT, mAndT, mNotT, mAnd, mOr, mNot, mIsi, isiT_eq, typD, lenD, mCons, mTup, mLst, mLstN, mVal, oOr, addD, subD, mulD, mulI, iIc, cMul, ltD, leD, gtD, geD, gTupD, gCons2, gsNil, mCallV, mCallB, mRs, tupleD, mRetF, mChain, mScr, mScrLen, mScrIx, mMut, appD, max2D, min2D, mRng1, mRng2, rngD1, rngD2, rngOk, mItems, itemsD, mAsgN, mParEE, mParEN, mUn, negD, mCallN1, listD, unsE, powD, cPow, divD, cDiv, mFor, mSl, mSlL, slD, mNoPart, mPart, intO, mSlN, mSlNL, slN, mRevN, revO, mParNC, andD, orD, xorD, shrD, shlD, cShr, mStepN, mStepNL, stepO, mCatN, mCatNL, catN, hat, z0]

def By8 (xs : List Iw) : Prop := ∀ x ∈ xs, isSaid x.k = true → 0 ≤ x.n ∧ x.n < 256
theorem said_comp {I : D} {xs : List Iw} {b e : Nat} {s2 : Sl} (hI : itemsIs xs I) (h : b < e) (he : e ≤ xs.length) (hl : xs.length ≤ 1000) :
    C__call_of_1 [.val I, .val (.list (rngL (b : Nat) (e : Nat))), s2, .un, .un, .un, .un, .un, .un, .un] = some (.ok (((cutI xs b e).filter fun x => isSaid x.k).map iwD) [.val I, .val (.list (rngL (b : Nat) (e : Nat))), s2, .un, .un, .un, .un, .un, .un, .un]) := by
  have hr := ixs_rng (cutI xs b e) b
  rw [cutI_len (by omega) he, show b + (e - b) = e by omega] at hr
  have hi : mItems (mVar 1) [.val I, .val (.list (rngL (b : Nat) (e : Nat))), s2, .un, .un, .un, .un, .un, .un, .un] = some (.ok (rngL (b : Nat) (e : Nat)) [.val I, .val (.list (rngL (b : Nat) (e : Nat))), s2, .un, .un, .un, .un, .un, .un, .un]) := by
    generalize rngL (b : Nat) (e : Nat) = R
    simp [mSeq, mIf, mBol, mBin, mBinL, mBind, mLift, mPure, mPeek, mVar, ixD, iI, bolD, mAsg, mCall1, mCallN, intD, modD, iIc, cMod, mStore, mStoreO, mDone, gSet, mOwn, mPut, setD, mRet, mDrop, mStuck, mTru, truD, mOrT, mAndT, mNotT, mAnd, mOr, mNot, mIsi, isiT_eq, typD, lenD, mCons, mTup, mLst, mLstN, mVal, oOr, addD, subD, mulD, mulI, iIc, cMul, ltD, leD, gtD, geD, gTupD, gCons2, gsNil, mCallV, mCallB, mRs, tupleD, mRetF, mChain, mScr, mScrLen, mScrIx, mMut, appD, max2D, min2D, mRng1, mRng2, rngD1, rngD2, rngOk, mItems, itemsD, mAsgN, mParEE, mParEN, mUn, negD, mCallN1, listD, unsE, powD, cPow, divD, cDiv, mFor, mSl, mSlL, slD, mNoPart, mPart, intO, mSlN, mSlNL, slN, mRevN, revO, mParNC, andD, orD, xorD, shrD, shlD, cShr, mStepN, mStepNL, stepO, mCatN, mCatNL, catN]
  refine comp_is (vs := [8]) (ρe := [.val I, .val (.list (rngL (b : Nat) (e : Nat))), s2, .un, .un, .un, .un, .un, .un, .un]) hi (fit_of2 (by rw [rngL_length]; omega)) ?_
  have ho : ((cutI xs b e).filter fun x => isSaid x.k).map iwD = (ixs (cutI xs b e) b).flatMap fun p => if isSaid p.2.k = true then [iwD p.2] else [] := by
    rw [ixs_flat (fun x => if isSaid x.k = true then [iwD x] else [])]
    generalize cutI xs b e = ys
    induction ys with
    | nil => rfl
    | cons y ys ih =>
      rw [List.filter_cons, List.flatMap_cons]
      by_cases z : isSaid y.k = true
      · rw [if_pos z, if_pos z, List.map_cons, ih]; rfl
      · rw [if_neg z, if_neg z, ih]; rfl
  rw [ho]
  generalize hR : rngL (b : Nat) (e : Nat) = R at *
  rw [← hr]
  refine go_fm _ _ _ fun p hp => ?_
  obtain ⟨h1, h2⟩ := ixs_at (by omega) he p hp
  have hat := iw_at h1
  have z0 : ∀ p q r s t : D, atI [p, q, r, s, t] 0 = some p := fun _ _ _ _ _ => rfl
  have hw := in_wm p.2.k
  have hit : iwD p.2 = .tuple [kdD p.2.k, whatW p.2, .int p.2.b, .int p.2.e, .tuple p.2.pl] := rfl
  refine ⟨[.val I, .val (.list R), s2, .un, .un, .un, .un, .un, .val (.int (p.1 : Nat)), .un], [.val I, .val (.list R), s2, .un, .un, .un, .un, .un, .val (.int (p.1 : Nat)), .un], isSaid p.2.k, by rw [hr]; simp [unsE, mStore], ?_, fun z => ⟨iwD p.2, [.val I, .val (.list R), s2, .un, .un, .un, .un, .un, .val (.int (p.1 : Nat)), .un], ?_, by rw [hr]; simp [unsE], by rw [if_pos z]⟩, fun z => ⟨by rw [hr]; simp [unsE], by rw [if_neg (by rw [z]; simp)]⟩⟩
  · rw [hit] at hat
    unfold itemsIs at hI
    generalize xs.map iwD = X at *
    rcases hI with rfl | rfl <;> simp [mSeq, mIf, mBol, mBin, mBinL, mBind, mLift, mPure, mPeek, mVar, ixD, iI, bolD, mAsg, mCall1, mCallN, intD, modD, iIc, cMod, mStore, mStoreO, mDone, gSet, mOwn, mPut, setD, mRet, mDrop, mStuck, mTru, truD, mOrT, mAndT, mNotT, mAnd, mOr, mNot, mIsi, isiT_eq, typD, lenD, mCons, mTup, mLst, mLstN, mVal, oOr, addD, subD, mulD, mulI, iIc, cMul, ltD, leD, gtD, geD, gTupD, gCons2, gsNil, mCallV, mCallB, mRs, tupleD, mRetF, mChain, mScr, mScrLen, mScrIx, mMut, appD, max2D, min2D, mRng1, mRng2, rngD1, rngD2, rngOk, mItems, itemsD, mAsgN, mParEE, mParEN, mUn, negD, mCallN1, listD, unsE, powD, cPow, divD, cDiv, mFor, mSl, mSlL, slD, mNoPart, mPart, intO, mSlN, mSlNL, slN, mRevN, revO, mParNC, andD, orD, xorD, shrD, shlD, cShr, mStepN, mStepNL, stepO, mCatN, mCatNL, catN, hat, z0, hw, fit]
  · unfold itemsIs at hI
    generalize xs.map iwD = X at *
    rcases hI with rfl | rfl <;> simp [mSeq, mIf, mBol, mBin, mBinL, mBind, mLift, mPure, mPeek, mVar, ixD, iI, bolD, mAsg, mCall1, mCallN, intD, modD, iIc, cMod, mStore, mStoreO, mDone, gSet, mOwn, mPut, setD, mRet, mDrop, mStuck, mTru, truD, mOrT, mAndT, mNotT, mAnd, mOr, mNot, mIsi, isiT_eq, typD, lenD, mCons, mTup, mLst, mLstN, mVal, oOr, addD, subD, mulD, mulI, iIc, cMul, ltD, leD, gtD, geD, gTupD, gCons2, gsNil, mCallV, mCallB, mRs, tupleD, mRetF, mChain, mScr, mScrLen, mScrIx, mMut, appD, max2D, min2D, mRng1, mRng2, rngD1, rngD2, rngOk, mItems, itemsD, mAsgN, mParEE, mParEN, mUn, negD, mCallN1, listD, unsE, powD, cPow, divD, cDiv, mFor, mSl, mSlL, slD, mNoPart, mPart, intO, mSlN, mSlNL, slN, mRevN, revO, mParNC, andD, orD, xorD, shrD, shlD, cShr, mStepN, mStepNL, stepO, mCatN, mCatNL, catN, hat]
theorem num_comp {I P : D} {ys : List Iw} {s2 : Sl} (hs : ∀ y ∈ ys, isSaid y.k = true) (hl : ys.length ≤ 1000) :
    C__call_of_2 [.val I, .val P, s2, .own (ys.map iwD), .un, .un, .un, .un, .un, .un] = some (.ok (ys.map fun y => .int y.n) [.val I, .val P, s2, .val (.list (ys.map iwD)), .un, .un, .un, .un, .un, .un]) := by
  have hi : mItems (mVar 3) [.val I, .val P, s2, .own (ys.map iwD), .un, .un, .un, .un, .un, .un] = some (.ok (ys.map iwD) [.val I, .val P, s2, .val (.list (ys.map iwD)), .un, .un, .un, .un, .un, .un]) := by
    generalize ys.map iwD = Y
    simp [mSeq, mIf, mBol, mBin, mBinL, mBind, mLift, mPure, mPeek, mVar, ixD, iI, bolD, mAsg, mCall1, mCallN, intD, modD, iIc, cMod, mStore, mStoreO, mDone, gSet, mOwn, mPut, setD, mRet, mDrop, mStuck, mTru, truD, mOrT, mAndT, mNotT, mAnd, mOr, mNot, mIsi, isiT_eq, typD, lenD, mCons, mTup, mLst, mLstN, mVal, oOr, addD, subD, mulD, mulI, iIc, cMul, ltD, leD, gtD, geD, gTupD, gCons2, gsNil, mCallV, mCallB, mRs, tupleD, mRetF, mChain, mScr, mScrLen, mScrIx, mMut, appD, max2D, min2D, mRng1, mRng2, rngD1, rngD2, rngOk, mItems, itemsD, mAsgN, mParEE, mParEN, mUn, negD, mCallN1, listD, unsE, powD, cPow, divD, cDiv, mFor, mSl, mSlL, slD, mNoPart, mPart, intO, mSlN, mSlNL, slN, mRevN, revO, mParNC, andD, orD, xorD, shrD, shlD, cShr, mStepN, mStepNL, stepO, mCatN, mCatNL, catN]
  refine comp_is (vs := [9]) (ρe := [.val I, .val P, s2, .val (.list (ys.map iwD)), .un, .un, .un, .un, .un, .un]) hi (fit_of2 (by rw [List.length_map]; omega)) ?_
  refine go_mapA _ _ _ fun y hy => ?_
  have z1 : ∀ p q r s t : D, atI [p, q, r, s, t] 1 = some q := fun _ _ _ _ _ => rfl
  have hit : iwD y = .tuple [kdD y.k, .int y.n, .int y.b, .int y.e, .tuple y.pl] := by
    unfold iwD whatW
    rw [if_pos (hs y hy)]
  exact ⟨[.val I, .val P, s2, .val (.list (ys.map iwD)), .un, .un, .un, .un, .un, .val (iwD y)], [.val I, .val P, s2, .val (.list (ys.map iwD)), .un, .un, .un, .un, .un, .val (iwD y)], by simp [unsE, mStore], by rw [hit]; simp [mSeq, mIf, mBol, mBin, mBinL, mBind, mLift, mPure, mPeek, mVar, ixD, iI, bolD, mAsg, mCall1, mCallN, intD, modD, iIc, cMod, mStore, mStoreO, mDone, gSet, mOwn, mPut, setD, mRet, mDrop, mStuck, mTru, truD, mOrT, mAndT, mNotT, mAnd, mOr, mNot, mIsi, isiT_eq, typD, lenD, mCons, mTup, mLst, mLstN, mVal, oOr, addD, subD, mulD, mulI, iIc, cMul, ltD, leD, gtD, geD, gTupD, gCons2, gsNil, mCallV, mCallB, mRs, tupleD, mRetF, mChain, mScr, mScrLen, mScrIx, mMut, appD, max2D, min2D, mRng1, mRng2, rngD1, rngD2, rngOk, mItems, itemsD, mAsgN, mParEE, mParEN, mUn, negD, mCallN1, listD, unsE, powD, cPow, divD, cDiv, mFor, mSl, mSlL, slD, mNoPart, mPart, intO, mSlN, mSlNL, slN, mRevN, revO, mParNC, andD, orD, xorD, shrD, shlD, cShr, mStepN, mStepNL, stepO, mCatN, mCatNL, catN, z1], by simp [unsE]⟩
theorem and_one : ∀ n : Fin 256, Builtin.bitAnd (n.val : Int) 1 = (n.val : Int) % 2 := by decide +kernel
theorem and_is {n : Int} (h0 : 0 ≤ n) (h1 : n < 256) : Builtin.bitAnd n 1 = n % 2 := by
  have := and_one ⟨n.toNat, by omega⟩
  rw [show ((⟨n.toNat, by omega⟩ : Fin 256).val : Int) = n by show ((n.toNat : Nat) : Int) = n; omega] at this
  exact this
theorem call_ok {I : D} {xs : List Iw} {b e : Nat} (hI : itemsIs xs I) (h : b < e) (he : e ≤ xs.length) (hl : xs.length ≤ 1000) (h8 : By8 xs) : fn__call_of [I, .list (rngL (b : Nat) (e : Nat))] = some (.ok (entW xs b e true)) := by
  have h1 := kinds_comp (b := b) (e := e) hI h he hl
  have h2 := in_torn ((cutI xs b e).map Iw.k)
  have hp := fun kd wd => partsW (I := I) (xs := xs) (b := b) (e := e) kd wd hI h he
  cases hT : ((cutI xs b e).map Iw.k).any isTorn with
  | true =>
    rw [hT] at h2
    have he : entW xs b e true = .tuple [.str "torn", .str "bits", .int (begW xs b), .int (endW xs e), .tuple (rngL (b : Nat) (e : Nat))] := by
      unfold entW toldW
      rw [if_neg (by simp), if_pos hT]; rfl
    rw [he]
    have hp1 := hp (.str "torn") (.str "bits")
    generalize ((cutI xs b e).map Iw.k).map kdD = KS at *
    generalize rngL (b : Nat) (e : Nat) = R at *
    simp [fn__call_of, runV, m__call_of, env0, mSeq, mIf, mBol, mBin, mBinL, mBind, mLift, mPure, mPeek, mVar, ixD, iI, bolD, mAsg, mCall1, mCallN, intD, modD, iIc, cMod, mStore, mStoreO, mDone, gSet, mOwn, mPut, setD, mRet, mDrop, mStuck, mTru, truD, mOrT, mAndT, mNotT, mAnd, mOr, mNot, mIsi, isiT_eq, typD, lenD, mCons, mTup, mLst, mLstN, mVal, oOr, addD, subD, mulD, mulI, iIc, cMul, ltD, leD, gtD, geD, gTupD, gCons2, gsNil, mCallV, mCallB, mRs, tupleD, mRetF, mChain, mScr, mScrLen, mScrIx, mMut, appD, max2D, min2D, mRng1, mRng2, rngD1, rngD2, rngOk, mItems, itemsD, mAsgN, mParEE, mParEN, mUn, negD, mCallN1, listD, unsE, powD, cPow, divD, cDiv, mFor, mSl, mSlL, slD, mNoPart, mPart, intO, mSlN, mSlNL, slN, mRevN, revO, mParNC, andD, orD, xorD, shrD, shlD, cShr, mStepN, mStepNL, stepO, mCatN, mCatNL, catN, h1, h2, hp1]
  | false =>
    rw [hT] at h2
    have h3 := fun s2 => said_comp (s2 := s2) hI h he hl
    have hsd : ∀ y ∈ (cutI xs b e).filter (fun x => isSaid x.k), isSaid y.k = true ∧ y ∈ xs := fun y hy => by
      obtain ⟨a, c⟩ := List.mem_filter.mp hy
      exact ⟨c, List.mem_of_mem_drop (List.mem_of_mem_take a)⟩
    have hsl : ((cutI xs b e).filter (fun x => isSaid x.k)).length ≤ 1000 := Nat.le_trans (List.length_filter_le _ _) (by rw [cutI_len (by omega) he]; omega)
    have hen : entW xs b e true = .tuple (saidW ((cutI xs b e).filter fun x => isSaid x.k) ++ [.int (begW xs b), .int (endW xs e), .tuple (rngL (b : Nat) (e : Nat))]) := by
      unfold entW toldW
      rw [if_neg (by simp), if_neg (by rw [hT]; simp)]
    rw [hen]
    generalize (cutI xs b e).filter (fun x => isSaid x.k) = ys at *
    cases ys with
    | nil =>
      have hp1 := hp (.str "empty") (.str "")
      show _ = some (Except.ok (PyData.tuple [.str "empty", .str "", .int (begW xs b), .int (endW xs e), .tuple (rngL (b : Nat) (e : Nat))]))
      generalize ((cutI xs b e).map Iw.k).map kdD = KS at *
      generalize rngL (b : Nat) (e : Nat) = R at *
      simp [fn__call_of, runV, m__call_of, env0, mSeq, mIf, mBol, mBin, mBinL, mBind, mLift, mPure, mPeek, mVar, ixD, iI, bolD, mAsg, mCall1, mCallN, intD, modD, iIc, cMod, mStore, mStoreO, mDone, gSet, mOwn, mPut, setD, mRet, mDrop, mStuck, mTru, truD, mOrT, mAndT, mNotT, mAnd, mOr, mNot, mIsi, isiT_eq, typD, lenD, mCons, mTup, mLst, mLstN, mVal, oOr, addD, subD, mulD, mulI, iIc, cMul, ltD, leD, gtD, geD, gTupD, gCons2, gsNil, mCallV, mCallB, mRs, tupleD, mRetF, mChain, mScr, mScrLen, mScrIx, mMut, appD, max2D, min2D, mRng1, mRng2, rngD1, rngD2, rngOk, mItems, itemsD, mAsgN, mParEE, mParEN, mUn, negD, mCallN1, listD, unsE, powD, cPow, divD, cDiv, mFor, mSl, mSlL, slD, mNoPart, mPart, intO, mSlN, mSlNL, slN, mRevN, revO, mParNC, andD, orD, xorD, shrD, shlD, cShr, mStepN, mStepNL, stepO, mCatN, mCatNL, catN, h1, h2, h3, hp1]
    | cons x r =>
      have hx := h8 x (hsd x List.mem_cons_self).2 (hsd x List.mem_cons_self).1
      have h4 := fun s2 P => num_comp (I := I) (P := P) (s2 := s2) (ys := x :: r) (fun y hy => (hsd y hy).1) hsl
      have ha := and_is hx.1 hx.2
      have hpw := hp (.str "call") (.tuple [.int (x.n / 2), .str (if x.n % 2 = 1 then "read" else "write"), .tuple (r.map fun y => .int y.n), .bool (decide (x.k = .word))])
      have hw := kd_word x.k
      have z0 : ∀ (p q r s t : D), atI [p, q, r, s, t] 0 = some p := fun _ _ _ _ _ => rfl
      have y0 : ∀ (p : D) (q : List D), atI (p :: q) 0 = some p := fun p q => atI_nat' (by omega) rfl
      have hit : iwD x = .tuple [kdD x.k, whatW x, .int x.b, .int x.e, .tuple x.pl] := rfl
      have t1 : ∀ o : List D, tupleD [.list o] = some (.tuple o) := fun _ => rfl
      show _ = some (Except.ok (PyData.tuple [.str "call", .tuple [.int (x.n / 2), .str (if x.n % 2 = 1 then "read" else "write"), .tuple (r.map fun y => .int y.n), .bool (decide (x.k = .word))], .int (begW xs b), .int (endW xs e), .tuple (rngL (b : Nat) (e : Nat))]))
      have hdr : ((x :: r).map fun y => PyData.int y.n) = .int x.n :: r.map fun y => .int y.n := rfl
      rw [hdr] at h4
      have hdr2 : (x :: r).map iwD = iwD x :: r.map iwD := rfl
      rw [hdr2] at h3 h4
      rw [hit] at h3 h4
      have hrl : (r.map fun y => PyData.int y.n).length + 1 ≤ 1000 := by rw [List.length_map]; simpa using hsl
      have htk : ((r.map fun y => PyData.int y.n).take (r.map fun y => PyData.int y.n).length) = r.map fun y => PyData.int y.n := List.take_of_length_le (Nat.le_refl _)
      generalize (r.map fun y => PyData.int y.n) = NS at *
      generalize r.map iwD = RW at *
      generalize ((cutI xs b e).map Iw.k).map kdD = KS at *
      generalize rngL (b : Nat) (e : Nat) = R at *
      by_cases z : x.n % 2 = 1
      · rw [if_pos z] at hpw ⊢
        simp [fn__call_of, runV, m__call_of, env0, mSeq, mIf, mBol, mBin, mBinL, mBind, mLift, mPure, mPeek, mVar, ixD, iI, bolD, mAsg, mCall1, mCallN, intD, modD, iIc, cMod, mStore, mStoreO, mDone, gSet, mOwn, mPut, setD, mRet, mDrop, mStuck, mTru, truD, mOrT, mAndT, mNotT, mAnd, mOr, mNot, mIsi, isiT_eq, typD, lenD, mCons, mTup, mLst, mLstN, mVal, oOr, addD, subD, mulD, mulI, iIc, cMul, ltD, leD, gtD, geD, gTupD, gCons2, gsNil, mCallV, mCallB, mRs, tupleD, mRetF, mChain, mScr, mScrLen, mScrIx, mMut, appD, max2D, min2D, mRng1, mRng2, rngD1, rngD2, rngOk, mItems, itemsD, mAsgN, mParEE, mParEN, mUn, negD, mCallN1, listD, unsE, powD, cPow, divD, cDiv, mFor, mSl, mSlL, slD, mNoPart, mPart, intO, mSlN, mSlNL, slN, mRevN, revO, mParNC, andD, orD, xorD, shrD, shlD, cShr, mStepN, mStepNL, stepO, mCatN, mCatNL, catN, h1, h2, h3, h4, gStarD, ha, z, eq_int, y0, z0, hw, t1, hpw, fit, htk]
      · rw [if_neg z] at hpw ⊢
        simp [fn__call_of, runV, m__call_of, env0, mSeq, mIf, mBol, mBin, mBinL, mBind, mLift, mPure, mPeek, mVar, ixD, iI, bolD, mAsg, mCall1, mCallN, intD, modD, iIc, cMod, mStore, mStoreO, mDone, gSet, mOwn, mPut, setD, mRet, mDrop, mStuck, mTru, truD, mOrT, mAndT, mNotT, mAnd, mOr, mNot, mIsi, isiT_eq, typD, lenD, mCons, mTup, mLst, mLstN, mVal, oOr, addD, subD, mulD, mulI, iIc, cMul, ltD, leD, gtD, geD, gTupD, gCons2, gsNil, mCallV, mCallB, mRs, tupleD, mRetF, mChain, mScr, mScrLen, mScrIx, mMut, appD, max2D, min2D, mRng1, mRng2, rngD1, rngD2, rngOk, mItems, itemsD, mAsgN, mParEE, mParEN, mUn, negD, mCallN1, listD, unsE, powD, cPow, divD, cDiv, mFor, mSl, mSlL, slD, mNoPart, mPart, intO, mSlN, mSlNL, slN, mRevN, revO, mParNC, andD, orD, xorD, shrD, shlD, cShr, mStepN, mStepNL, stepO, mCatN, mCatNL, catN, h1, h2, h3, h4, gStarD, ha, z, eq_int, y0, z0, hw, t1, hpw, fit, htk]

/-! ### calls_in: one item behind another -/
def partsP (op : Option Nat) (i : Nat) : List D := match op with
  | some b => rngL (b : Nat) (i : Nat)
  | none => []
theorem rng_succ {a b : Nat} (h : a ≤ b) : rngL (a : Nat) ((b + 1 : Nat) : Int) = rngL (a : Nat) (b : Nat) ++ [.int (b : Nat)] := by
  unfold rngL
  rw [show (((b + 1 : Nat) : Int) - (a : Int)).toNat = ((b : Int) - (a : Int)).toNat + 1 by omega, List.range_succ, List.map_append]
  congr 1
  show [PyData.int ((a : Int) + ((((b : Int) - (a : Int)).toNat : Nat) : Int))] = _
  congr 2
  omega
theorem rng_self (a : Nat) : rngL (a : Nat) ((a : Nat) : Int) = [] := by
  unfold rngL
  rw [show ((a : Int) - (a : Int)).toNat = 0 by omega]; rfl
theorem rng_cons {a b : Nat} (h : a < b) : ∃ r rs, rngL (a : Nat) (b : Nat) = r :: rs := by
  have : (rngL (a : Nat) (b : Nat)).length ≠ 0 := by rw [rngL_length]; omega
  cases e : rngL (a : Nat) (b : Nat) with
  | nil => rw [e] at this; exact absurd rfl this
  | cons r rs => exact ⟨r, rs, rfl⟩
def nextOp : Kd → Nat → Option Nat → Option Nat
  | .start, i, _ => some i
  | .stop, _, _ => none
  | _, _, op => op
def outC (xs : List Iw) : Kd → Nat → Option Nat → List D
  | .start, i, some b => [entW xs b i true]
  | .stop, i, some b => [entW xs b (i + 1) true]
  | _, _, _ => []
theorem calls_turn {I : D} {xs : List Iw} {x : Iw} {i : Nat} {op : Option Nat} {C : List D} (hI : itemsIs xs I) (hi : xs[i]? = some x) (hop : ∀ b, op = some b → b < i) (hl : xs.length ≤ 1000) (h8 : By8 xs) (hC : C.length ≤ 1000) :
    L_calls_in_0 [.val I, .own C, .own (partsP op i), .val (.int (i : Nat)), .val (iwD x)] = some (.ok .nx [.val I, .own (C ++ outC xs x.k i op), .own (partsP (nextOp x.k i op) (i + 1)), .val (.int (i : Nat)), .val (iwD x)]) := by
  have hlt : i < xs.length := (List.getElem?_eq_some_iff.mp hi).1
  have z0 : ∀ p q r s t : D, atI [p, q, r, s, t] 0 = some p := fun _ _ _ _ _ => rfl
  have hit : iwD x = .tuple [kdD x.k, whatW x, .int x.b, .int x.e, .tuple x.pl] := rfl
  have k1 := kd_start x.k
  have k2 := kd_stop x.k
  have f1 : C.length ≤ 16000000 := by omega
  have hone : rngL (i : Nat) ((i + 1 : Nat) : Int) = [.int (i : Nat)] := by rw [rng_succ (Nat.le_refl _), rng_self]; rfl
  rw [hit]
  cases op with
  | none =>
    cases hk : x.k with
    | start =>
      rw [hk] at k1 k2
      show _ = some (R.ok Fl.nx [_, Sl.own (C ++ []), Sl.own (rngL (i : Nat) ((i + 1 : Nat) : Int)), _, _])
      rw [hone, List.append_nil]
      simp [L_calls_in_0, mSeq, mIf, mBol, mBin, mBinL, mBind, mLift, mPure, mPeek, mVar, ixD, iI, bolD, mAsg, mCall1, mCallN, intD, modD, iIc, cMod, mStore, mStoreO, mDone, gSet, mOwn, mPut, setD, mRet, mDrop, mStuck, mTru, truD, mOrT, mAndT, mNotT, mAnd, mOr, mNot, mIsi, isiT_eq, typD, lenD, mCons, mTup, mLst, mLstN, mVal, oOr, addD, subD, mulD, mulI, iIc, cMul, ltD, leD, gtD, geD, gTupD, gCons2, gsNil, mCallV, mCallB, mRs, tupleD, mRetF, mChain, mScr, mScrLen, mScrIx, mMut, appD, max2D, min2D, mRng1, mRng2, rngD1, rngD2, rngOk, mItems, itemsD, mAsgN, mParEE, mParEN, mUn, negD, mCallN1, listD, unsE, powD, cPow, divD, cDiv, mFor, mSl, mSlL, slD, mNoPart, mPart, intO, mSlN, mSlNL, slN, mRevN, revO, mParNC, andD, orD, xorD, shrD, shlD, cShr, mStepN, mStepNL, stepO, mCatN, mCatNL, catN, z0, k1, k2, partsP, isSt, fit, appD]
    | stop =>
      rw [hk] at k1 k2
      show _ = some (R.ok Fl.nx [_, Sl.own (C ++ []), Sl.own [], _, _])
      rw [List.append_nil]
      simp [L_calls_in_0, mSeq, mIf, mBol, mBin, mBinL, mBind, mLift, mPure, mPeek, mVar, ixD, iI, bolD, mAsg, mCall1, mCallN, intD, modD, iIc, cMod, mStore, mStoreO, mDone, gSet, mOwn, mPut, setD, mRet, mDrop, mStuck, mTru, truD, mOrT, mAndT, mNotT, mAnd, mOr, mNot, mIsi, isiT_eq, typD, lenD, mCons, mTup, mLst, mLstN, mVal, oOr, addD, subD, mulD, mulI, iIc, cMul, ltD, leD, gtD, geD, gTupD, gCons2, gsNil, mCallV, mCallB, mRs, tupleD, mRetF, mChain, mScr, mScrLen, mScrIx, mMut, appD, max2D, min2D, mRng1, mRng2, rngD1, rngD2, rngOk, mItems, itemsD, mAsgN, mParEE, mParEN, mUn, negD, mCallN1, listD, unsE, powD, cPow, divD, cDiv, mFor, mSl, mSlL, slD, mNoPart, mPart, intO, mSlN, mSlNL, slN, mRevN, revO, mParNC, andD, orD, xorD, shrD, shlD, cShr, mStepN, mStepNL, stepO, mCatN, mCatNL, catN, z0, k1, k2, partsP, isSt, fit, appD]
    | word =>
      rw [hk] at k1 k2
      show _ = some (R.ok Fl.nx [_, Sl.own (C ++ []), Sl.own [], _, _])
      rw [List.append_nil]
      simp [L_calls_in_0, mSeq, mIf, mBol, mBin, mBinL, mBind, mLift, mPure, mPeek, mVar, ixD, iI, bolD, mAsg, mCall1, mCallN, intD, modD, iIc, cMod, mStore, mStoreO, mDone, gSet, mOwn, mPut, setD, mRet, mDrop, mStuck, mTru, truD, mOrT, mAndT, mNotT, mAnd, mOr, mNot, mIsi, isiT_eq, typD, lenD, mCons, mTup, mLst, mLstN, mVal, oOr, addD, subD, mulD, mulI, iIc, cMul, ltD, leD, gtD, geD, gTupD, gCons2, gsNil, mCallV, mCallB, mRs, tupleD, mRetF, mChain, mScr, mScrLen, mScrIx, mMut, appD, max2D, min2D, mRng1, mRng2, rngD1, rngD2, rngOk, mItems, itemsD, mAsgN, mParEE, mParEN, mUn, negD, mCallN1, listD, unsE, powD, cPow, divD, cDiv, mFor, mSl, mSlL, slD, mNoPart, mPart, intO, mSlN, mSlNL, slN, mRevN, revO, mParNC, andD, orD, xorD, shrD, shlD, cShr, mStepN, mStepNL, stepO, mCatN, mCatNL, catN, z0, k1, k2, partsP, isSt, fit, appD]
    | mute =>
      rw [hk] at k1 k2
      show _ = some (R.ok Fl.nx [_, Sl.own (C ++ []), Sl.own [], _, _])
      rw [List.append_nil]
      simp [L_calls_in_0, mSeq, mIf, mBol, mBin, mBinL, mBind, mLift, mPure, mPeek, mVar, ixD, iI, bolD, mAsg, mCall1, mCallN, intD, modD, iIc, cMod, mStore, mStoreO, mDone, gSet, mOwn, mPut, setD, mRet, mDrop, mStuck, mTru, truD, mOrT, mAndT, mNotT, mAnd, mOr, mNot, mIsi, isiT_eq, typD, lenD, mCons, mTup, mLst, mLstN, mVal, oOr, addD, subD, mulD, mulI, iIc, cMul, ltD, leD, gtD, geD, gTupD, gCons2, gsNil, mCallV, mCallB, mRs, tupleD, mRetF, mChain, mScr, mScrLen, mScrIx, mMut, appD, max2D, min2D, mRng1, mRng2, rngD1, rngD2, rngOk, mItems, itemsD, mAsgN, mParEE, mParEN, mUn, negD, mCallN1, listD, unsE, powD, cPow, divD, cDiv, mFor, mSl, mSlL, slD, mNoPart, mPart, intO, mSlN, mSlNL, slN, mRevN, revO, mParNC, andD, orD, xorD, shrD, shlD, cShr, mStepN, mStepNL, stepO, mCatN, mCatNL, catN, z0, k1, k2, partsP, isSt, fit, appD]
    | torn =>
      rw [hk] at k1 k2
      show _ = some (R.ok Fl.nx [_, Sl.own (C ++ []), Sl.own [], _, _])
      rw [List.append_nil]
      simp [L_calls_in_0, mSeq, mIf, mBol, mBin, mBinL, mBind, mLift, mPure, mPeek, mVar, ixD, iI, bolD, mAsg, mCall1, mCallN, intD, modD, iIc, cMod, mStore, mStoreO, mDone, gSet, mOwn, mPut, setD, mRet, mDrop, mStuck, mTru, truD, mOrT, mAndT, mNotT, mAnd, mOr, mNot, mIsi, isiT_eq, typD, lenD, mCons, mTup, mLst, mLstN, mVal, oOr, addD, subD, mulD, mulI, iIc, cMul, ltD, leD, gtD, geD, gTupD, gCons2, gsNil, mCallV, mCallB, mRs, tupleD, mRetF, mChain, mScr, mScrLen, mScrIx, mMut, appD, max2D, min2D, mRng1, mRng2, rngD1, rngD2, rngOk, mItems, itemsD, mAsgN, mParEE, mParEN, mUn, negD, mCallN1, listD, unsE, powD, cPow, divD, cDiv, mFor, mSl, mSlL, slD, mNoPart, mPart, intO, mSlN, mSlNL, slN, mRevN, revO, mParNC, andD, orD, xorD, shrD, shlD, cShr, mStepN, mStepNL, stepO, mCatN, mCatNL, catN, z0, k1, k2, partsP, isSt, fit, appD]
  | some b =>
    have hb := hop b rfl
    have hc1 := call_ok (b := b) (e := i) hI hb (by omega) hl h8
    have hc2 := call_ok (b := b) (e := i + 1) hI (by omega) (by omega) hl h8
    have hrs := rng_succ (a := b) (b := i) (by omega)
    have hrl : (rngL (b : Nat) (i : Nat)).length ≤ 1000 := by rw [rngL_length]; omega
    obtain ⟨r, rs, hr⟩ := rng_cons hb
    rw [hrs] at hc2
    rw [hr] at hc1 hc2 hrl
    have f2 : rs.length + 1 ≤ 16000000 := by simp only [List.length_cons] at hrl; omega
    have f3 : rs.length < 16000000 := by simp only [List.length_cons] at hrl; omega
    have hP : partsP (some b) i = r :: rs := hr
    rw [hP]
    have hother : ∀ k : Kd, k = .word ∨ k = .mute ∨ k = .torn → x.k = k → L_calls_in_0 [.val I, .own C, .own (r :: rs), .val (.int (i : Nat)), .val (.tuple [kdD x.k, whatW x, .int x.b, .int x.e, .tuple x.pl])] = some (.ok .nx [.val I, .own (C ++ []), .own (r :: rs ++ [.int (i : Nat)]), .val (.int (i : Nat)), .val (.tuple [kdD x.k, whatW x, .int x.b, .int x.e, .tuple x.pl])]) := by
      intro k hk0 hk
      rw [hk] at k1 k2 ⊢
      rw [List.append_nil]
      rcases hk0 with rfl | rfl | rfl <;> simp [L_calls_in_0, mSeq, mIf, mBol, mBin, mBinL, mBind, mLift, mPure, mPeek, mVar, ixD, iI, bolD, mAsg, mCall1, mCallN, intD, modD, iIc, cMod, mStore, mStoreO, mDone, gSet, mOwn, mPut, setD, mRet, mDrop, mStuck, mTru, truD, mOrT, mAndT, mNotT, mAnd, mOr, mNot, mIsi, isiT_eq, typD, lenD, mCons, mTup, mLst, mLstN, mVal, oOr, addD, subD, mulD, mulI, iIc, cMul, ltD, leD, gtD, geD, gTupD, gCons2, gsNil, mCallV, mCallB, mRs, tupleD, mRetF, mChain, mScr, mScrLen, mScrIx, mMut, appD, max2D, min2D, mRng1, mRng2, rngD1, rngD2, rngOk, mItems, itemsD, mAsgN, mParEE, mParEN, mUn, negD, mCallN1, listD, unsE, powD, cPow, divD, cDiv, mFor, mSl, mSlL, slD, mNoPart, mPart, intO, mSlN, mSlNL, slN, mRevN, revO, mParNC, andD, orD, xorD, shrD, shlD, cShr, mStepN, mStepNL, stepO, mCatN, mCatNL, catN, z0, k1, k2, isSt, fit, appD, f2, f3]
    have hP2 : partsP (some b) (i + 1) = r :: rs ++ [.int (i : Nat)] := by
      show rngL (b : Nat) ((i + 1 : Nat) : Int) = _
      rw [hrs, hr]
    cases hk : x.k with
    | start =>
      rw [hk] at k1 k2
      show _ = some (R.ok Fl.nx [_, Sl.own (C ++ [entW xs b i true]), Sl.own (rngL (i : Nat) ((i + 1 : Nat) : Int)), _, _])
      rw [hone]
      generalize entW xs b i true = E at *
      simp [L_calls_in_0, mSeq, mIf, mBol, mBin, mBinL, mBind, mLift, mPure, mPeek, mVar, ixD, iI, bolD, mAsg, mCall1, mCallN, intD, modD, iIc, cMod, mStore, mStoreO, mDone, gSet, mOwn, mPut, setD, mRet, mDrop, mStuck, mTru, truD, mOrT, mAndT, mNotT, mAnd, mOr, mNot, mIsi, isiT_eq, typD, lenD, mCons, mTup, mLst, mLstN, mVal, oOr, addD, subD, mulD, mulI, iIc, cMul, ltD, leD, gtD, geD, gTupD, gCons2, gsNil, mCallV, mCallB, mRs, tupleD, mRetF, mChain, mScr, mScrLen, mScrIx, mMut, appD, max2D, min2D, mRng1, mRng2, rngD1, rngD2, rngOk, mItems, itemsD, mAsgN, mParEE, mParEN, mUn, negD, mCallN1, listD, unsE, powD, cPow, divD, cDiv, mFor, mSl, mSlL, slD, mNoPart, mPart, intO, mSlN, mSlNL, slN, mRevN, revO, mParNC, andD, orD, xorD, shrD, shlD, cShr, mStepN, mStepNL, stepO, mCatN, mCatNL, catN, z0, k1, k2, isSt, fit, appD, hc1, f1, f2, f3]
    | stop =>
      rw [hk] at k1 k2
      show _ = some (R.ok Fl.nx [_, Sl.own (C ++ [entW xs b (i + 1) true]), Sl.own [], _, _])
      have hc3 : fn__call_of [I, .list (r :: (rs ++ [.int (i : Nat)]))] = some (.ok (entW xs b (i + 1) true)) := hc2
      generalize entW xs b (i + 1) true = E at *
      simp [L_calls_in_0, mSeq, mIf, mBol, mBin, mBinL, mBind, mLift, mPure, mPeek, mVar, ixD, iI, bolD, mAsg, mCall1, mCallN, intD, modD, iIc, cMod, mStore, mStoreO, mDone, gSet, mOwn, mPut, setD, mRet, mDrop, mStuck, mTru, truD, mOrT, mAndT, mNotT, mAnd, mOr, mNot, mIsi, isiT_eq, typD, lenD, mCons, mTup, mLst, mLstN, mVal, oOr, addD, subD, mulD, mulI, iIc, cMul, ltD, leD, gtD, geD, gTupD, gCons2, gsNil, mCallV, mCallB, mRs, tupleD, mRetF, mChain, mScr, mScrLen, mScrIx, mMut, appD, max2D, min2D, mRng1, mRng2, rngD1, rngD2, rngOk, mItems, itemsD, mAsgN, mParEE, mParEN, mUn, negD, mCallN1, listD, unsE, powD, cPow, divD, cDiv, mFor, mSl, mSlL, slD, mNoPart, mPart, intO, mSlN, mSlNL, slN, mRevN, revO, mParNC, andD, orD, xorD, shrD, shlD, cShr, mStepN, mStepNL, stepO, mCatN, mCatNL, catN, z0, k1, k2, isSt, fit, appD, hc3, f1, f2, f3]
    | word =>
      have := hother .word (.inl rfl) hk
      rw [hk] at this
      show _ = some (R.ok Fl.nx [_, Sl.own (C ++ []), Sl.own (partsP (some b) (i + 1)), _, _])
      rw [hP2]
      exact this
    | mute =>
      have := hother .mute (.inr (.inl rfl)) hk
      rw [hk] at this
      show _ = some (R.ok Fl.nx [_, Sl.own (C ++ []), Sl.own (partsP (some b) (i + 1)), _, _])
      rw [hP2]
      exact this
    | torn =>
      have := hother .torn (.inr (.inr rfl)) hk
      rw [hk] at this
      show _ = some (R.ok Fl.nx [_, Sl.own (C ++ []), Sl.own (partsP (some b) (i + 1)), _, _])
      rw [hP2]
      exact this

theorem loopC_cons (xs : List Iw) (k : Kd) (r : List Kd) (i : Nat) (op : Option Nat) : loopC (entW xs) (k :: r) i op = (outC xs k i op ++ (loopC (entW xs) r (i + 1) (nextOp k i op)).1, (loopC (entW xs) r (i + 1) (nextOp k i op)).2) := by
  cases k <;> cases op <;> rfl
theorem outC_len (xs : List Iw) (k : Kd) (i : Nat) (op : Option Nat) : (outC xs k i op).length ≤ 1 := by
  cases k <;> cases op <;> first | exact Nat.le_refl _ | exact Nat.zero_le _
theorem calls_loop {I : D} {xs : List Iw} (hI : itemsIs xs I) (hl : xs.length ≤ 900) (h8 : By8 xs) : ∀ (r : List Iw) (i : Nat) (C : List D) (op : Option Nat) (s3 s4 : Sl), xs.drop i = r → (∀ b, op = some b → b < i) → C.length ≤ i → i + r.length = xs.length →
    ∃ s3' s4', mForL (gTupD 2 (gCons2 (mStore 3) (gCons2 (mStore 4) gsNil))) L_calls_in_0 ((r.zipIdx i).map fun p => .tuple [.int (p.2 : Nat), iwD p.1]) [.val I, .own C, .own (partsP op i), s3, s4] = some (.ok .nx [.val I, .own (C ++ (loopC (entW xs) (r.map Iw.k) i op).1), .own (partsP (loopC (entW xs) (r.map Iw.k) i op).2 xs.length), s3', s4']) ∧ (∀ b, (loopC (entW xs) (r.map Iw.k) i op).2 = some b → b < xs.length) ∧ (C ++ (loopC (entW xs) (r.map Iw.k) i op).1).length ≤ xs.length
  | [], i, C, op, s3, s4, _, hop, hC, hn => by
    rw [List.length_nil, Nat.add_zero] at hn
    subst hn
    exact ⟨s3, s4, by rw [List.map_nil]; show _ = some (R.ok Fl.nx [_, Sl.own (C ++ []), Sl.own (partsP op xs.length), _, _]); rw [List.append_nil]; rfl, hop, by show (C ++ []).length ≤ _; rw [List.append_nil]; exact hC⟩
  | x :: r, i, C, op, s3, s4, hd, hop, hC, hn => by
    have hi : xs[i]? = some x := by
      have : (xs.drop i)[0]? = some x := by rw [hd]; rfl
      rw [List.getElem?_drop, Nat.add_zero] at this
      exact this
    have hd2 : xs.drop (i + 1) = r := by rw [← List.drop_drop (i := 1) (j := i), hd]; rfl
    rw [List.length_cons] at hn
    have ht := calls_turn (C := C) hI hi hop (by omega) h8 (by omega)
    have hol := outC_len xs x.k i op
    obtain ⟨s3', s4', h1, h2, h3⟩ := calls_loop hI hl h8 r (i + 1) (C ++ outC xs x.k i op) (nextOp x.k i op) (.val (.int (i : Nat))) (.val (iwD x)) hd2 (by
      intro b hb
      generalize x.k = k at hb
      cases k with
      | start => cases hb; omega
      | stop => cases hb
      | word => have := hop b hb; omega
      | mute => have := hop b hb; omega
      | torn => have := hop b hb; omega) (by rw [List.length_append]; omega) (by omega)
    rw [List.map_cons, loopC_cons]
    refine ⟨s3', s4', ?_, h2, by rw [List.append_assoc] at h3; exact h3⟩
    rw [List.zipIdx_cons, List.map_cons]
    unfold mForL
    have hs : gTupD 2 (gCons2 (mStore 3) (gCons2 (mStore 4) gsNil)) (.tuple [.int (i : Nat), iwD x]) [.val I, .own C, .own (partsP op i), s3, s4] = some (.ok () [.val I, .own C, .own (partsP op i), .val (.int (i : Nat)), .val (iwD x)]) := by
      generalize iwD x = X
      simp [gTupD, gCons2, gsNil, mStore, mBind, mPure]
    rw [bind_is hs, bind_is ht]
    rw [List.append_assoc] at h1
    exact h1
theorem calls_ok {I : D} {xs : List Iw} (hI : itemsIs xs I) (hl : xs.length ≤ 900) (h8 : By8 xs) : fn_calls_in [I] = some (.ok (.tuple (walkC (entW xs) (xs.map Iw.k) 0 none))) := by
  obtain ⟨s3, s4, h1, h2, h3⟩ := calls_loop hI hl h8 xs 0 [] none .un .un rfl (fun b h => by cases h) (Nat.zero_le _) (by omega)
  rw [walk_loop, Nat.zero_add, List.length_map]
  rw [List.nil_append] at h1 h3
  have hi : mEnumB (mCons (mVar 0) (mPure [])) [.val I, .own [], .own [], .un, .un] = some (.ok ((xs.zipIdx 0).map fun p => .tuple [.int (p.2 : Nat), iwD p.1]) [.val I, .own [], .own [], .un, .un]) := by
    rw [← enum_map]
    unfold itemsIs at hI
    generalize xs.map iwD = X at *
    rcases hI with rfl | rfl <;> simp [mSeq, mIf, mBol, mBin, mBinL, mBind, mLift, mPure, mPeek, mVar, ixD, iI, bolD, mAsg, mCall1, mCallN, intD, modD, iIc, cMod, mStore, mStoreO, mDone, gSet, mOwn, mPut, setD, mRet, mDrop, mStuck, mTru, truD, mOrT, mAndT, mNotT, mAnd, mOr, mNot, mIsi, isiT_eq, typD, lenD, mCons, mTup, mLst, mLstN, mVal, oOr, addD, subD, mulD, mulI, iIc, cMul, ltD, leD, gtD, geD, gTupD, gCons2, gsNil, mCallV, mCallB, mRs, tupleD, mRetF, mChain, mScr, mScrLen, mScrIx, mMut, appD, max2D, min2D, mRng1, mRng2, rngD1, rngD2, rngOk, mItems, itemsD, mAsgN, mParEE, mParEN, mUn, negD, mCallN1, listD, unsE, powD, cPow, divD, cDiv, mFor, mSl, mSlL, slD, mNoPart, mPart, intO, mSlN, mSlNL, slN, mRevN, revO, mParNC, andD, orD, xorD, shrD, shlD, cShr, mStepN, mStepNL, stepO, mCatN, mCatNL, catN, mEnumB, enumBD]
  have hR : R_calls_in_0 [.val I, .own [], .own [], .un, .un] = some (.ok .nx [.val I, .own (loopC (entW xs) (xs.map Iw.k) 0 none).1, .own (partsP (loopC (entW xs) (xs.map Iw.k) 0 none).2 xs.length), s3, s4]) := by
    unfold R_calls_in_0 mFor
    rw [bind_is hi]
    exact h1
  have t1 : ∀ o : List D, tupleD [.list o] = some (.tuple o) := fun _ => rfl
  generalize loopC (entW xs) (xs.map Iw.k) 0 none = q at *
  obtain ⟨L, op⟩ := q
  dsimp only at h2 h3 hR ⊢
  cases op with
  | none =>
    show _ = some (Except.ok (PyData.tuple (L ++ [])))
    rw [List.append_nil]
    simp [fn_calls_in, runV, m_calls_in, env0, mSeq, mIf, mBol, mBin, mBinL, mBind, mLift, mPure, mPeek, mVar, ixD, iI, bolD, mAsg, mCall1, mCallN, intD, modD, iIc, cMod, mStore, mStoreO, mDone, gSet, mOwn, mPut, setD, mRet, mDrop, mStuck, mTru, truD, mOrT, mAndT, mNotT, mAnd, mOr, mNot, mIsi, isiT_eq, typD, lenD, mCons, mTup, mLst, mLstN, mVal, oOr, addD, subD, mulD, mulI, iIc, cMul, ltD, leD, gtD, geD, gTupD, gCons2, gsNil, mCallV, mCallB, mRs, tupleD, mRetF, mChain, mScr, mScrLen, mScrIx, mMut, appD, max2D, min2D, mRng1, mRng2, rngD1, rngD2, rngOk, mItems, itemsD, mAsgN, mParEE, mParEN, mUn, negD, mCallN1, listD, unsE, powD, cPow, divD, cDiv, mFor, mSl, mSlL, slD, mNoPart, mPart, intO, mSlN, mSlNL, slN, mRevN, revO, mParNC, andD, orD, xorD, shrD, shlD, cShr, mStepN, mStepNL, stepO, mCatN, mCatNL, catN, hR, fit, partsP, t1]
  | some b =>
    have hb := h2 b rfl
    have hp := partsW (I := I) (xs := xs) (b := b) (e := xs.length) (.str "torn") (.str "end") hI hb (Nat.le_refl _)
    have he : entW xs b xs.length false = .tuple [.str "torn", .str "end", .int (begW xs b), .int (endW xs xs.length), .tuple (rngL (b : Nat) (xs.length : Nat))] := rfl
    show _ = some (Except.ok (PyData.tuple (L ++ [entW xs b xs.length false])))
    rw [he]
    have hP : partsP (some b) xs.length = rngL (b : Nat) (xs.length : Nat) := rfl
    rw [hP] at hR
    have f1 : L.length ≤ 16000000 := by omega
    obtain ⟨r, rs, hr⟩ := rng_cons hb
    rw [hr] at hp hR ⊢
    clear hi h1 h3 he
    simp [fn_calls_in, runV, m_calls_in, env0, mSeq, mIf, mBol, mBin, mBinL, mBind, mLift, mPure, mPeek, mVar, ixD, iI, bolD, mAsg, mCall1, mCallN, intD, modD, iIc, cMod, mStore, mStoreO, mDone, gSet, mOwn, mPut, setD, mRet, mDrop, mStuck, mTru, truD, mOrT, mAndT, mNotT, mAnd, mOr, mNot, mIsi, isiT_eq, typD, lenD, mCons, mTup, mLst, mLstN, mVal, oOr, addD, subD, mulD, mulI, iIc, cMul, ltD, leD, gtD, geD, gTupD, gCons2, gsNil, mCallV, mCallB, mRs, tupleD, mRetF, mChain, mScr, mScrLen, mScrIx, mMut, appD, max2D, min2D, mRng1, mRng2, rngD1, rngD2, rngOk, mItems, itemsD, mAsgN, mParEE, mParEN, mUn, negD, mCallN1, listD, unsE, powD, cPow, divD, cDiv, mFor, mSl, mSlL, slD, mNoPart, mPart, intO, mSlN, mSlNL, slN, mRevN, revO, mParNC, andD, orD, xorD, shrD, shlD, cShr, mStepN, mStepNL, stepO, mCatN, mCatNL, catN, hR, fit, t1, hp, f1, appD]

/-! ### the law's own calls -/
def ShAll (xs : List Iw) : Prop := ∀ x ∈ xs, Sh 3 (iwD x)
theorem ne_ints_nil (ns : List Nat) : neD (.list (ns.map fun i => .int (i : Nat))) (.list []) = some (.bool (!ns.isEmpty)) := by
  have h : Sh 1 (.list (ns.map fun i => PyData.int (i : Nat))) := Sh.list fun d hd => by
    obtain ⟨i, _, rfl⟩ := List.mem_map.mp hd
    exact Sh.int _
  have h0 : Sh 1 (.list ([] : List D)) := Sh.list fun d hd => by cases hd
  rw [ne_sh h h0 (by omega) (by omega)]
  cases ns <;> simp [PyData.eqv, PyData.eqvAll]
theorem sh_items {ys : List Iw} (h : ShAll ys) : Sh 4 (.list (ys.map iwD)) := Sh.list fun d hd => by
  obtain ⟨y, hy, rfl⟩ := List.mem_map.mp hd
  exact h y hy
theorem ne_items_nil {ys : List Iw} (h : ShAll ys) : neD (.list (ys.map iwD)) (.list []) = some (.bool (!ys.isEmpty)) := by
  have h0 : Sh 1 (.list ([] : List D)) := Sh.list fun d hd => by cases hd
  rw [ne_sh (sh_items h) h0 (by omega) (by omega)]
  cases ys <;> simp [PyData.eqv, PyData.eqvAll]
theorem eq_items_nil {ys : List Iw} (h : ShAll ys) : eqD (.list (ys.map iwD)) (.list []) = some (.bool ys.isEmpty) := by
  have h0 : Sh 1 (.list ([] : List D)) := Sh.list fun d hd => by cases hd
  rw [eq_sh (sh_items h) h0 (by omega) (by omega)]
  cases ys <;> simp [PyData.eqv, PyData.eqvAll]
theorem starts_comp {xs : List Iw} {s1 : Sl} (hl : xs.length ≤ 900) : C__law_calls_0 [.val (.list (xs.map iwD)), s1, .un, .un, .un, .un, .un, .un, .un, .un, .un, .un, .un] = some (.ok ((stFrom (xs.map Iw.k) 0).map fun i => .int (i : Nat)) [.val (.list (xs.map iwD)), s1, .un, .un, .un, .un, .un, .un, .un, .un, .un, .un, .un]) := by
  have hi : mEnum (mCons (mVar 0) (mPure [])) [.val (.list (xs.map iwD)), s1, .un, .un, .un, .un, .un, .un, .un, .un, .un, .un, .un] = some (.ok (enumL (xs.map iwD)) [.val (.list (xs.map iwD)), s1, .un, .un, .un, .un, .un, .un, .un, .un, .un, .un, .un]) := by
    generalize xs.map iwD = X
    simp [mSeq, mIf, mBol, mBin, mBinL, mBind, mLift, mPure, mPeek, mVar, ixD, iI, bolD, mAsg, mCall1, mCallN, intD, modD, iIc, cMod, mStore, mStoreO, mDone, gSet, mOwn, mPut, setD, mRet, mDrop, mStuck, mTru, truD, mOrT, mAndT, mNotT, mAnd, mOr, mNot, mIsi, isiT_eq, typD, lenD, mCons, mTup, mLst, mLstN, mVal, oOr, addD, subD, mulD, mulI, iIc, cMul, ltD, leD, gtD, geD, gTupD, gCons2, gsNil, mCallV, mCallB, mRs, tupleD, mRetF, mChain, mScr, mScrLen, mScrIx, mMut, appD, max2D, min2D, mRng1, mRng2, rngD1, rngD2, rngOk, mItems, itemsD, mAsgN, mParEE, mParEN, mUn, negD, mCallN1, listD, unsE, powD, cPow, divD, cDiv, mFor, mSl, mSlL, slD, mNoPart, mPart, intO, mSlN, mSlNL, slN, mRevN, revO, mParNC, andD, orD, xorD, shrD, shlD, cShr, mStepN, mStepNL, stepO, mCatN, mCatNL, catN, mEnum, enumD]
  refine comp_is (vs := [11, 12]) (ρe := [.val (.list (xs.map iwD)), s1, .un, .un, .un, .un, .un, .un, .un, .un, .un, .un, .un]) hi (fit_of2 (by rw [enumL_length, List.length_map]; omega)) ?_
  have ho : ∀ (ys : List Iw) (i : Nat), (stFrom (ys.map Iw.k) i).map (fun i => PyData.int (i : Nat)) = (ys.zipIdx i).flatMap fun p => if isSt p.1.k = true then [PyData.int (p.2 : Nat)] else [] := by
    intro ys
    induction ys with
    | nil => exact fun _ => rfl
    | cons y ys ih =>
      intro i
      rw [List.map_cons, List.zipIdx_cons, List.flatMap_cons, ← ih (i + 1)]
      rw [show ∀ (k : Kd) (r : List Kd), stFrom (k :: r) i = if isSt k = true then i :: stFrom r (i + 1) else stFrom r (i + 1) from fun _ _ => rfl]
      by_cases z : isSt y.k = true
      · rw [if_pos z, if_pos z]; rfl
      · rw [if_neg z, if_neg z]; rfl
  rw [ho xs 0, enum_map]
  refine go_fm _ _ _ fun p hp => ?_
  have k1 := kd_start p.1.k
  have z0 : ∀ p q r s t : D, atI [p, q, r, s, t] 0 = some p := fun _ _ _ _ _ => rfl
  have hit : iwD p.1 = .tuple [kdD p.1.k, whatW p.1, .int p.1.b, .int p.1.e, .tuple p.1.pl] := rfl
  refine ⟨[.val (.list (xs.map iwD)), s1, .un, .un, .un, .un, .un, .un, .un, .un, .un, .val (.int (p.2 : Nat)), .val (iwD p.1)], [.val (.list (xs.map iwD)), s1, .un, .un, .un, .un, .un, .un, .un, .un, .un, .val (.int (p.2 : Nat)), .val (iwD p.1)], isSt p.1.k, by simp [gTupD, gNamesD, unsE, mBind, mStore, mPure], ?_, fun z => ⟨.int (p.2 : Nat), [.val (.list (xs.map iwD)), s1, .un, .un, .un, .un, .un, .un, .un, .un, .un, .val (.int (p.2 : Nat)), .val (iwD p.1)], by simp [mSeq, mIf, mBol, mBin, mBinL, mBind, mLift, mPure, mPeek, mVar, ixD, iI, bolD, mAsg, mCall1, mCallN, intD, modD, iIc, cMod, mStore, mStoreO, mDone, gSet, mOwn, mPut, setD, mRet, mDrop, mStuck, mTru, truD, mOrT, mAndT, mNotT, mAnd, mOr, mNot, mIsi, isiT_eq, typD, lenD, mCons, mTup, mLst, mLstN, mVal, oOr, addD, subD, mulD, mulI, iIc, cMul, ltD, leD, gtD, geD, gTupD, gCons2, gsNil, mCallV, mCallB, mRs, tupleD, mRetF, mChain, mScr, mScrLen, mScrIx, mMut, appD, max2D, min2D, mRng1, mRng2, rngD1, rngD2, rngOk, mItems, itemsD, mAsgN, mParEE, mParEN, mUn, negD, mCallN1, listD, unsE, powD, cPow, divD, cDiv, mFor, mSl, mSlL, slD, mNoPart, mPart, intO, mSlN, mSlNL, slN, mRevN, revO, mParNC, andD, orD, xorD, shrD, shlD, cShr, mStepN, mStepNL, stepO, mCatN, mCatNL, catN], by simp [unsE], by rw [if_pos z]⟩, fun z => ⟨by simp [unsE], by rw [if_neg (by rw [z]; simp)]⟩⟩
  rw [hit]
  generalize xs.map iwD = X
  simp [mSeq, mIf, mBol, mBin, mBinL, mBind, mLift, mPure, mPeek, mVar, ixD, iI, bolD, mAsg, mCall1, mCallN, intD, modD, iIc, cMod, mStore, mStoreO, mDone, gSet, mOwn, mPut, setD, mRet, mDrop, mStuck, mTru, truD, mOrT, mAndT, mNotT, mAnd, mOr, mNot, mIsi, isiT_eq, typD, lenD, mCons, mTup, mLst, mLstN, mVal, oOr, addD, subD, mulD, mulI, iIc, cMul, ltD, leD, gtD, geD, gTupD, gCons2, gsNil, mCallV, mCallB, mRs, tupleD, mRetF, mChain, mScr, mScrLen, mScrIx, mMut, appD, max2D, min2D, mRng1, mRng2, rngD1, rngD2, rngOk, mItems, itemsD, mAsgN, mParEE, mParEN, mUn, negD, mCallN1, listD, unsE, powD, cPow, divD, cDiv, mFor, mSl, mSlL, slD, mNoPart, mPart, intO, mSlN, mSlNL, slN, mRevN, revO, mParNC, andD, orD, xorD, shrD, shlD, cShr, mStepN, mStepNL, stepO, mCatN, mCatNL, catN, z0, k1]
theorem ends_comp {xs : List Iw} {b : Nat} {s1 s2 s4 s5 s6 s7 s8 s9 s10 : Sl} (hl : xs.length ≤ 900) (hb : b < xs.length) : C__law_calls_1 [.val (.list (xs.map iwD)), s1, s2, .val (.int (b : Nat)), s4, s5, s6, s7, s8, s9, s10, .un, .un] = some (.ok ((ssFrom ((xs.map Iw.k).drop (b + 1)) (b + 1)).map fun i => .int (i : Nat)) [.val (.list (xs.map iwD)), s1, s2, .val (.int (b : Nat)), s4, s5, s6, s7, s8, s9, s10, .un, .un]) := by
  have hr : mRng2 (mCons (mBinL addD 3 (mPure (.int 1))) (mCons (mCall1 lenD (mPeek 0)) (mPure []))) [.val (.list (xs.map iwD)), s1, s2, .val (.int (b : Nat)), s4, s5, s6, s7, s8, s9, s10, .un, .un] = some (.ok (rngL ((b + 1 : Nat) : Int) (xs.length : Nat)) [.val (.list (xs.map iwD)), s1, s2, .val (.int (b : Nat)), s4, s5, s6, s7, s8, s9, s10, .un, .un]) :=
    rng2_is (by simp [mSeq, mIf, mBol, mBin, mBinL, mBind, mLift, mPure, mPeek, mVar, ixD, iI, bolD, mAsg, mCall1, mCallN, intD, modD, iIc, cMod, mStore, mStoreO, mDone, gSet, mOwn, mPut, setD, mRet, mDrop, mStuck, mTru, truD, mOrT, mAndT, mNotT, mAnd, mOr, mNot, mIsi, isiT_eq, typD, lenD, mCons, mTup, mLst, mLstN, mVal, oOr, addD, subD, mulD, mulI, iIc, cMul, ltD, leD, gtD, geD, gTupD, gCons2, gsNil, mCallV, mCallB, mRs, tupleD, mRetF, mChain, mScr, mScrLen, mScrIx, mMut, appD, max2D, min2D, mRng1, mRng2, rngD1, rngD2, rngOk, mItems, itemsD, mAsgN, mParEE, mParEN, mUn, negD, mCallN1, listD, unsE, powD, cPow, divD, cDiv, mFor, mSl, mSlL, slD, mNoPart, mPart, intO, mSlN, mSlNL, slN, mRevN, revO, mParNC, andD, orD, xorD, shrD, shlD, cShr, mStepN, mStepNL, stepO, mCatN, mCatNL, catN]) (rngOk_le (by omega) (by omega)) (rngOk_le (by omega) (by omega))
  refine comp_is (vs := [11]) (ρe := [.val (.list (xs.map iwD)), s1, s2, .val (.int (b : Nat)), s4, s5, s6, s7, s8, s9, s10, .un, .un]) hr (fit_of2 (by rw [rngL_length]; omega)) ?_
  have hc : cutI xs (b + 1) xs.length = xs.drop (b + 1) := by
    unfold cutI
    exact List.take_of_length_le (by rw [List.length_drop]; exact Nat.le_refl _)
  have hx := ixs_rng (cutI xs (b + 1) xs.length) (b + 1)
  rw [cutI_len (by omega) (Nat.le_refl _), show b + 1 + (xs.length - (b + 1)) = xs.length by omega] at hx
  have ho : ∀ (ys : List Iw) (i : Nat), (ssFrom (ys.map Iw.k) i).map (fun i => PyData.int (i : Nat)) = (ixs ys i).flatMap fun p => if isSS p.2.k = true then [PyData.int (p.1 : Nat)] else [] := by
    intro ys
    induction ys with
    | nil => exact fun _ => rfl
    | cons y ys ih =>
      intro i
      show _ = (if isSS y.k = true then [PyData.int (i : Nat)] else []) ++ (ixs ys (i + 1)).flatMap _
      rw [List.map_cons, ← ih (i + 1)]
      rw [show ∀ (k : Kd) (r : List Kd), ssFrom (k :: r) i = if isSS k = true then i :: ssFrom r (i + 1) else ssFrom r (i + 1) from fun _ _ => rfl]
      by_cases z : isSS y.k = true
      · rw [if_pos z, if_pos z]; rfl
      · rw [if_neg z, if_neg z]; rfl
  rw [← List.map_drop, ← hc, ho, ← hx]
  refine go_fm _ _ _ fun p hp => ?_
  obtain ⟨h1, h2⟩ := ixs_at (by omega) (Nat.le_refl _) p hp
  have hat := iw_at h1
  have k1 := in_ss p.2.k
  have z0 : ∀ p q r s t : D, atI [p, q, r, s, t] 0 = some p := fun _ _ _ _ _ => rfl
  have hit : iwD p.2 = .tuple [kdD p.2.k, whatW p.2, .int p.2.b, .int p.2.e, .tuple p.2.pl] := rfl
  rw [hit] at hat
  refine ⟨[.val (.list (xs.map iwD)), s1, s2, .val (.int (b : Nat)), s4, s5, s6, s7, s8, s9, s10, .val (.int (p.1 : Nat)), .un], [.val (.list (xs.map iwD)), s1, s2, .val (.int (b : Nat)), s4, s5, s6, s7, s8, s9, s10, .val (.int (p.1 : Nat)), .un], isSS p.2.k, by simp [unsE, mStore], ?_, fun z => ⟨.int (p.1 : Nat), [.val (.list (xs.map iwD)), s1, s2, .val (.int (b : Nat)), s4, s5, s6, s7, s8, s9, s10, .val (.int (p.1 : Nat)), .un], by simp [mSeq, mIf, mBol, mBin, mBinL, mBind, mLift, mPure, mPeek, mVar, ixD, iI, bolD, mAsg, mCall1, mCallN, intD, modD, iIc, cMod, mStore, mStoreO, mDone, gSet, mOwn, mPut, setD, mRet, mDrop, mStuck, mTru, truD, mOrT, mAndT, mNotT, mAnd, mOr, mNot, mIsi, isiT_eq, typD, lenD, mCons, mTup, mLst, mLstN, mVal, oOr, addD, subD, mulD, mulI, iIc, cMul, ltD, leD, gtD, geD, gTupD, gCons2, gsNil, mCallV, mCallB, mRs, tupleD, mRetF, mChain, mScr, mScrLen, mScrIx, mMut, appD, max2D, min2D, mRng1, mRng2, rngD1, rngD2, rngOk, mItems, itemsD, mAsgN, mParEE, mParEN, mUn, negD, mCallN1, listD, unsE, powD, cPow, divD, cDiv, mFor, mSl, mSlL, slD, mNoPart, mPart, intO, mSlN, mSlNL, slN, mRevN, revO, mParNC, andD, orD, xorD, shrD, shlD, cShr, mStepN, mStepNL, stepO, mCatN, mCatNL, catN], by simp [unsE], by rw [if_pos z]⟩, fun z => ⟨by simp [unsE], by rw [if_neg (by rw [z]; simp)]⟩⟩
  generalize xs.map iwD = X at *
  simp [mSeq, mIf, mBol, mBin, mBinL, mBind, mLift, mPure, mPeek, mVar, ixD, iI, bolD, mAsg, mCall1, mCallN, intD, modD, iIc, cMod, mStore, mStoreO, mDone, gSet, mOwn, mPut, setD, mRet, mDrop, mStuck, mTru, truD, mOrT, mAndT, mNotT, mAnd, mOr, mNot, mIsi, isiT_eq, typD, lenD, mCons, mTup, mLst, mLstN, mVal, oOr, addD, subD, mulD, mulI, iIc, cMul, ltD, leD, gtD, geD, gTupD, gCons2, gsNil, mCallV, mCallB, mRs, tupleD, mRetF, mChain, mScr, mScrLen, mScrIx, mMut, appD, max2D, min2D, mRng1, mRng2, rngD1, rngD2, rngOk, mItems, itemsD, mAsgN, mParEE, mParEN, mUn, negD, mCallN1, listD, unsE, powD, cPow, divD, cDiv, mFor, mSl, mSlL, slD, mNoPart, mPart, intO, mSlN, mSlNL, slN, mRevN, revO, mParNC, andD, orD, xorD, shrD, shlD, cShr, mStepN, mStepNL, stepO, mCatN, mCatNL, catN, z0, k1, hat, fit]
theorem filt_flat (ys : List Iw) (q : Iw → Bool) : (ys.filter q).map iwD = ys.flatMap fun x => if q x = true then [iwD x] else [] := by
  induction ys with
  | nil => rfl
  | cons y ys ih =>
    rw [List.filter_cons, List.flatMap_cons]
    by_cases z : q y = true
    · rw [if_pos z, if_pos z, List.map_cons, ih]; rfl
    · rw [if_neg z, if_neg z, ih]; rfl
theorem lsaid_comp {ys : List Iw} {s0 s1 s2 s3 s4 s5 s7 s8 s9 s10 s11 : Sl} (hl : ys.length ≤ 900) : C__law_calls_2 [s0, s1, s2, s3, s4, s5, .val (.list (ys.map iwD)), s7, s8, s9, s10, s11, .un] = some (.ok ((ys.filter fun x => isSaid x.k).map iwD) [s0, s1, s2, s3, s4, s5, .val (.list (ys.map iwD)), s7, s8, s9, s10, s11, .un]) := by
  have hi : mItems (mVar 6) [s0, s1, s2, s3, s4, s5, .val (.list (ys.map iwD)), s7, s8, s9, s10, s11, .un] = some (.ok (ys.map iwD) [s0, s1, s2, s3, s4, s5, .val (.list (ys.map iwD)), s7, s8, s9, s10, s11, .un]) := by
    generalize ys.map iwD = Y
    simp [mSeq, mIf, mBol, mBin, mBinL, mBind, mLift, mPure, mPeek, mVar, ixD, iI, bolD, mAsg, mCall1, mCallN, intD, modD, iIc, cMod, mStore, mStoreO, mDone, gSet, mOwn, mPut, setD, mRet, mDrop, mStuck, mTru, truD, mOrT, mAndT, mNotT, mAnd, mOr, mNot, mIsi, isiT_eq, typD, lenD, mCons, mTup, mLst, mLstN, mVal, oOr, addD, subD, mulD, mulI, iIc, cMul, ltD, leD, gtD, geD, gTupD, gCons2, gsNil, mCallV, mCallB, mRs, tupleD, mRetF, mChain, mScr, mScrLen, mScrIx, mMut, appD, max2D, min2D, mRng1, mRng2, rngD1, rngD2, rngOk, mItems, itemsD, mAsgN, mParEE, mParEN, mUn, negD, mCallN1, listD, unsE, powD, cPow, divD, cDiv, mFor, mSl, mSlL, slD, mNoPart, mPart, intO, mSlN, mSlNL, slN, mRevN, revO, mParNC, andD, orD, xorD, shrD, shlD, cShr, mStepN, mStepNL, stepO, mCatN, mCatNL, catN]
  refine comp_is (vs := [12]) (ρe := [s0, s1, s2, s3, s4, s5, .val (.list (ys.map iwD)), s7, s8, s9, s10, s11, .un]) hi (fit_of2 (by rw [List.length_map]; omega)) ?_
  rw [filt_flat]
  refine go_fm _ _ _ fun y hy => ?_
  have k1 := in_wm y.k
  have z0 : ∀ p q r s t : D, atI [p, q, r, s, t] 0 = some p := fun _ _ _ _ _ => rfl
  have hit : iwD y = .tuple [kdD y.k, whatW y, .int y.b, .int y.e, .tuple y.pl] := rfl
  refine ⟨[s0, s1, s2, s3, s4, s5, .val (.list (ys.map iwD)), s7, s8, s9, s10, s11, .val (iwD y)], [s0, s1, s2, s3, s4, s5, .val (.list (ys.map iwD)), s7, s8, s9, s10, s11, .val (iwD y)], isSaid y.k, by simp [unsE, mStore], ?_, fun z => ⟨iwD y, [s0, s1, s2, s3, s4, s5, .val (.list (ys.map iwD)), s7, s8, s9, s10, s11, .val (iwD y)], by simp [mSeq, mIf, mBol, mBin, mBinL, mBind, mLift, mPure, mPeek, mVar, ixD, iI, bolD, mAsg, mCall1, mCallN, intD, modD, iIc, cMod, mStore, mStoreO, mDone, gSet, mOwn, mPut, setD, mRet, mDrop, mStuck, mTru, truD, mOrT, mAndT, mNotT, mAnd, mOr, mNot, mIsi, isiT_eq, typD, lenD, mCons, mTup, mLst, mLstN, mVal, oOr, addD, subD, mulD, mulI, iIc, cMul, ltD, leD, gtD, geD, gTupD, gCons2, gsNil, mCallV, mCallB, mRs, tupleD, mRetF, mChain, mScr, mScrLen, mScrIx, mMut, appD, max2D, min2D, mRng1, mRng2, rngD1, rngD2, rngOk, mItems, itemsD, mAsgN, mParEE, mParEN, mUn, negD, mCallN1, listD, unsE, powD, cPow, divD, cDiv, mFor, mSl, mSlL, slD, mNoPart, mPart, intO, mSlN, mSlNL, slN, mRevN, revO, mParNC, andD, orD, xorD, shrD, shlD, cShr, mStepN, mStepNL, stepO, mCatN, mCatNL, catN], by simp [unsE], by rw [if_pos z]⟩, fun z => ⟨by simp [unsE], by rw [if_neg (by rw [z]; simp)]⟩⟩
  rw [hit]
  generalize ys.map iwD = Y at *
  simp [mSeq, mIf, mBol, mBin, mBinL, mBind, mLift, mPure, mPeek, mVar, ixD, iI, bolD, mAsg, mCall1, mCallN, intD, modD, iIc, cMod, mStore, mStoreO, mDone, gSet, mOwn, mPut, setD, mRet, mDrop, mStuck, mTru, truD, mOrT, mAndT, mNotT, mAnd, mOr, mNot, mIsi, isiT_eq, typD, lenD, mCons, mTup, mLst, mLstN, mVal, oOr, addD, subD, mulD, mulI, iIc, cMul, ltD, leD, gtD, geD, gTupD, gCons2, gsNil, mCallV, mCallB, mRs, tupleD, mRetF, mChain, mScr, mScrLen, mScrIx, mMut, appD, max2D, min2D, mRng1, mRng2, rngD1, rngD2, rngOk, mItems, itemsD, mAsgN, mParEE, mParEN, mUn, negD, mCallN1, listD, unsE, powD, cPow, divD, cDiv, mFor, mSl, mSlL, slD, mNoPart, mPart, intO, mSlN, mSlNL, slN, mRevN, revO, mParNC, andD, orD, xorD, shrD, shlD, cShr, mStepN, mStepNL, stepO, mCatN, mCatNL, catN, z0, k1, fit]
theorem ltorn_comp {ys : List Iw} {s0 s1 s2 s3 s4 s5 s7 s8 s9 s10 s11 : Sl} (hl : ys.length ≤ 900) : C__law_calls_3 [s0, s1, s2, s3, s4, s5, .val (.list (ys.map iwD)), s7, s8, s9, s10, s11, .un] = some (.ok ((ys.filter fun x => isTorn x.k).map iwD) [s0, s1, s2, s3, s4, s5, .val (.list (ys.map iwD)), s7, s8, s9, s10, s11, .un]) := by
  have hi : mItems (mVar 6) [s0, s1, s2, s3, s4, s5, .val (.list (ys.map iwD)), s7, s8, s9, s10, s11, .un] = some (.ok (ys.map iwD) [s0, s1, s2, s3, s4, s5, .val (.list (ys.map iwD)), s7, s8, s9, s10, s11, .un]) := by
    generalize ys.map iwD = Y
    simp [mSeq, mIf, mBol, mBin, mBinL, mBind, mLift, mPure, mPeek, mVar, ixD, iI, bolD, mAsg, mCall1, mCallN, intD, modD, iIc, cMod, mStore, mStoreO, mDone, gSet, mOwn, mPut, setD, mRet, mDrop, mStuck, mTru, truD, mOrT, mAndT, mNotT, mAnd, mOr, mNot, mIsi, isiT_eq, typD, lenD, mCons, mTup, mLst, mLstN, mVal, oOr, addD, subD, mulD, mulI, iIc, cMul, ltD, leD, gtD, geD, gTupD, gCons2, gsNil, mCallV, mCallB, mRs, tupleD, mRetF, mChain, mScr, mScrLen, mScrIx, mMut, appD, max2D, min2D, mRng1, mRng2, rngD1, rngD2, rngOk, mItems, itemsD, mAsgN, mParEE, mParEN, mUn, negD, mCallN1, listD, unsE, powD, cPow, divD, cDiv, mFor, mSl, mSlL, slD, mNoPart, mPart, intO, mSlN, mSlNL, slN, mRevN, revO, mParNC, andD, orD, xorD, shrD, shlD, cShr, mStepN, mStepNL, stepO, mCatN, mCatNL, catN]
  refine comp_is (vs := [12]) (ρe := [s0, s1, s2, s3, s4, s5, .val (.list (ys.map iwD)), s7, s8, s9, s10, s11, .un]) hi (fit_of2 (by rw [List.length_map]; omega)) ?_
  rw [filt_flat]
  refine go_fm _ _ _ fun y hy => ?_
  have k1 := kd_torn y.k
  have z0 : ∀ p q r s t : D, atI [p, q, r, s, t] 0 = some p := fun _ _ _ _ _ => rfl
  have hit : iwD y = .tuple [kdD y.k, whatW y, .int y.b, .int y.e, .tuple y.pl] := rfl
  refine ⟨[s0, s1, s2, s3, s4, s5, .val (.list (ys.map iwD)), s7, s8, s9, s10, s11, .val (iwD y)], [s0, s1, s2, s3, s4, s5, .val (.list (ys.map iwD)), s7, s8, s9, s10, s11, .val (iwD y)], isTorn y.k, by simp [unsE, mStore], ?_, fun z => ⟨iwD y, [s0, s1, s2, s3, s4, s5, .val (.list (ys.map iwD)), s7, s8, s9, s10, s11, .val (iwD y)], by simp [mSeq, mIf, mBol, mBin, mBinL, mBind, mLift, mPure, mPeek, mVar, ixD, iI, bolD, mAsg, mCall1, mCallN, intD, modD, iIc, cMod, mStore, mStoreO, mDone, gSet, mOwn, mPut, setD, mRet, mDrop, mStuck, mTru, truD, mOrT, mAndT, mNotT, mAnd, mOr, mNot, mIsi, isiT_eq, typD, lenD, mCons, mTup, mLst, mLstN, mVal, oOr, addD, subD, mulD, mulI, iIc, cMul, ltD, leD, gtD, geD, gTupD, gCons2, gsNil, mCallV, mCallB, mRs, tupleD, mRetF, mChain, mScr, mScrLen, mScrIx, mMut, appD, max2D, min2D, mRng1, mRng2, rngD1, rngD2, rngOk, mItems, itemsD, mAsgN, mParEE, mParEN, mUn, negD, mCallN1, listD, unsE, powD, cPow, divD, cDiv, mFor, mSl, mSlL, slD, mNoPart, mPart, intO, mSlN, mSlNL, slN, mRevN, revO, mParNC, andD, orD, xorD, shrD, shlD, cShr, mStepN, mStepNL, stepO, mCatN, mCatNL, catN], by simp [unsE], by rw [if_pos z]⟩, fun z => ⟨by simp [unsE], by rw [if_neg (by rw [z]; simp)]⟩⟩
  rw [hit]
  generalize ys.map iwD = Y at *
  simp [mSeq, mIf, mBol, mBin, mBinL, mBind, mLift, mPure, mPeek, mVar, ixD, iI, bolD, mAsg, mCall1, mCallN, intD, modD, iIc, cMod, mStore, mStoreO, mDone, gSet, mOwn, mPut, setD, mRet, mDrop, mStuck, mTru, truD, mOrT, mAndT, mNotT, mAnd, mOr, mNot, mIsi, isiT_eq, typD, lenD, mCons, mTup, mLst, mLstN, mVal, oOr, addD, subD, mulD, mulI, iIc, cMul, ltD, leD, gtD, geD, gTupD, gCons2, gsNil, mCallV, mCallB, mRs, tupleD, mRetF, mChain, mScr, mScrLen, mScrIx, mMut, appD, max2D, min2D, mRng1, mRng2, rngD1, rngD2, rngOk, mItems, itemsD, mAsgN, mParEE, mParEN, mUn, negD, mCallN1, listD, unsE, powD, cPow, divD, cDiv, mFor, mSl, mSlL, slD, mNoPart, mPart, intO, mSlN, mSlNL, slN, mRevN, revO, mParNC, andD, orD, xorD, shrD, shlD, cShr, mStepN, mStepNL, stepO, mCatN, mCatNL, catN, z0, k1]
theorem lnum_comp {y : Iw} {ys : List Iw} {s0 s1 s2 s3 s4 s5 s6 s8 s9 s10 s11 : Sl} (hs : ∀ y ∈ ys, isSaid y.k = true) (hl : ys.length ≤ 900) : C__law_calls_4 [s0, s1, s2, s3, s4, s5, s6, .own ((y :: ys).map iwD), s8, s9, s10, s11, .un] = some (.ok (ys.map fun y => .int y.n) [s0, s1, s2, s3, s4, s5, s6, .own ((y :: ys).map iwD), s8, s9, s10, s11, .un]) := by
  have hct : cutL ((y :: ys).map iwD) (some 1) none = ys.map iwD := cut_drop _ 1
  have hi : mItems (mSlL 7 (mPart (mPure (.int 1))) mNoPart) [s0, s1, s2, s3, s4, s5, s6, .own ((y :: ys).map iwD), s8, s9, s10, s11, .un] = some (.ok (ys.map iwD) [s0, s1, s2, s3, s4, s5, s6, .own ((y :: ys).map iwD), s8, s9, s10, s11, .un]) := by
    generalize (y :: ys).map iwD = Y at *
    generalize ys.map iwD = Z at *
    simp [mSeq, mIf, mBol, mBin, mBinL, mBind, mLift, mPure, mPeek, mVar, ixD, iI, bolD, mAsg, mCall1, mCallN, intD, modD, iIc, cMod, mStore, mStoreO, mDone, gSet, mOwn, mPut, setD, mRet, mDrop, mStuck, mTru, truD, mOrT, mAndT, mNotT, mAnd, mOr, mNot, mIsi, isiT_eq, typD, lenD, mCons, mTup, mLst, mLstN, mVal, oOr, addD, subD, mulD, mulI, iIc, cMul, ltD, leD, gtD, geD, gTupD, gCons2, gsNil, mCallV, mCallB, mRs, tupleD, mRetF, mChain, mScr, mScrLen, mScrIx, mMut, appD, max2D, min2D, mRng1, mRng2, rngD1, rngD2, rngOk, mItems, itemsD, mAsgN, mParEE, mParEN, mUn, negD, mCallN1, listD, unsE, powD, cPow, divD, cDiv, mFor, mSl, mSlL, slD, mNoPart, mPart, intO, mSlN, mSlNL, slN, mRevN, revO, mParNC, andD, orD, xorD, shrD, shlD, cShr, mStepN, mStepNL, stepO, mCatN, mCatNL, catN, mSlL, mPart, mNoPart, slD, intO, hct]
  refine comp_is (vs := [12]) (ρe := [s0, s1, s2, s3, s4, s5, s6, .own ((y :: ys).map iwD), s8, s9, s10, s11, .un]) hi (fit_of2 (by rw [List.length_map]; omega)) ?_
  refine go_mapA _ _ _ fun z hz => ?_
  have z1 : ∀ p q r s t : D, atI [p, q, r, s, t] 1 = some q := fun _ _ _ _ _ => rfl
  have hit : iwD z = .tuple [kdD z.k, .int z.n, .int z.b, .int z.e, .tuple z.pl] := by
    unfold iwD whatW
    rw [if_pos (hs z hz)]
  refine ⟨[s0, s1, s2, s3, s4, s5, s6, .own ((y :: ys).map iwD), s8, s9, s10, s11, .val (iwD z)], [s0, s1, s2, s3, s4, s5, s6, .own ((y :: ys).map iwD), s8, s9, s10, s11, .val (iwD z)], by simp [unsE, mStore], ?_, by simp [unsE]⟩
  rw [hit]
  generalize (y :: ys).map iwD = Y at *
  simp [mSeq, mIf, mBol, mBin, mBinL, mBind, mLift, mPure, mPeek, mVar, ixD, iI, bolD, mAsg, mCall1, mCallN, intD, modD, iIc, cMod, mStore, mStoreO, mDone, gSet, mOwn, mPut, setD, mRet, mDrop, mStuck, mTru, truD, mOrT, mAndT, mNotT, mAnd, mOr, mNot, mIsi, isiT_eq, typD, lenD, mCons, mTup, mLst, mLstN, mVal, oOr, addD, subD, mulD, mulI, iIc, cMul, ltD, leD, gtD, geD, gTupD, gCons2, gsNil, mCallV, mCallB, mRs, tupleD, mRetF, mChain, mScr, mScrLen, mScrIx, mMut, appD, max2D, min2D, mRng1, mRng2, rngD1, rngD2, rngOk, mItems, itemsD, mAsgN, mParEE, mParEN, mUn, negD, mCallN1, listD, unsE, powD, cPow, divD, cDiv, mFor, mSl, mSlL, slD, mNoPart, mPart, intO, mSlN, mSlNL, slN, mRevN, revO, mParNC, andD, orD, xorD, shrD, shlD, cShr, mStepN, mStepNL, stepO, mCatN, mCatNL, catN, z1]

theorem cutI_item {xs : List Iw} {b e i : Nat} (h : b + i < e) (he : e ≤ xs.length) : (cutI xs b e)[i]? = xs[b + i]? := by
  unfold cutI
  rw [List.getElem?_take_of_lt (by omega), List.getElem?_drop]
theorem entry_ok {xs : List Iw} {b e : Nat} {done : Bool} {F told : List D} {s2 s4 s7 s9 s10 : Sl} (h : b < e) (he : e ≤ xs.length) (hl : xs.length ≤ 900) (hF : F.length ≤ 900) (ht : toldW (cutI xs b e) done = told) (htl : told.length = 2) :
    (mDrop (mMut 1 appD (mCons (mBinL addD 8 (mTup (mCons (mBin ixD (mBinL ixD 6 (mPure (.int 0))) (mPure (.int 2))) (mCons (mBin ixD (mBinL ixD 6 (mBin subD (mCall1 lenD (mPeek 6)) (mPure (.int 1)))) (mPure (.int 3))) (mCons (mCall1 tupleD (mVal (mRgN2 (mVar 3) (mVar 5)))) (mPure [])))))) (mPure [])))) [.val (.list (xs.map iwD)), .own F, s2, .val (.int (b : Nat)), s4, .val (.int (e : Nat)), .val (.list ((cutI xs b e).map iwD)), s7, .val (.tuple told), s9, s10, .un, .un] = some (.ok .nx [.val (.list (xs.map iwD)), .own (F ++ [entW xs b e done]), s2, .val (.int (b : Nat)), s4, .val (.int (e : Nat)), .val (.list ((cutI xs b e).map iwD)), s7, .val (.tuple told), s9, s10, .un, .un]) := by
  have hb : xs[b]? = some xs[b] := List.getElem?_eq_getElem (by omega)
  have hee : xs[e - 1]? = some xs[e - 1] := List.getElem?_eq_getElem (by omega)
  have hcl := cutI_len (xs := xs) (b := b) (e := e) (by omega) he
  have c1 : (cutI xs b e)[0]? = some xs[b] := by rw [cutI_item (by omega) he, Nat.add_zero, hb]
  have c2 : (cutI xs b e)[e - b - 1]? = some xs[e - 1] := by rw [cutI_item (by omega) he, show b + (e - b - 1) = e - 1 by omega, hee]
  have a1 : atI ((cutI xs b e).map iwD) 0 = some (iwD xs[b]) := iw_at c1
  have a2 : atI ((cutI xs b e).map iwD) ((e - b - 1 : Nat) : Int) = some (iwD xs[e - 1]) := iw_at c2
  have hen : entW xs b e done = .tuple (told ++ [.int xs[b].b, .int xs[e - 1].e, .tuple (rngL (b : Nat) (e : Nat))]) := by
    unfold entW
    rw [ht]
    have e1 : begW xs b = xs[b].b := by unfold begW; rw [hb]
    have e2 : endW xs e = xs[e - 1].e := by unfold endW; rw [hee]
    rw [e1, e2]
  have z2 : ∀ p q r s t : D, atI [p, q, r, s, t] 2 = some r := fun _ _ _ _ _ => rfl
  have z3 : ∀ p q r s t : D, atI [p, q, r, s, t] 3 = some s := fun _ _ _ _ _ => rfl
  have i1 : ∀ x : Iw, iwD x = .tuple [kdD x.k, whatW x, .int x.b, .int x.e, .tuple x.pl] := fun _ => rfl
  rw [i1] at a1 a2
  have hrg : rgOf ((b : Nat) : Int) (.int (e : Nat)) = some (rngL (b : Nat) (e : Nat)) := by
    unfold rgOf
    have r1 : rngOk (b : Int) = true := rngOk_le (by omega) (by omega)
    have r2 : rngOk (e : Int) = true := rngOk_le (by omega) (by omega)
    have r3 : fit ((e : Int) - (b : Int)).toNat = true := decide_eq_true (by omega)
    simp only [r1, r2, r3, Bool.and_self, if_true]
  have hCL : ((cutI xs b e).map iwD).length = e - b := by rw [List.length_map, hcl]
  have cst : ((e - b : Nat) : Int) - 1 = ((e - b - 1 : Nat) : Int) := by omega
  have t1 : ∀ o : List D, tupleD [.list o] = some (.tuple o) := fun _ => rfl
  have f1 : F.length ≤ 16000000 := by omega
  rw [hen]
  generalize (cutI xs b e).map iwD = C at *
  generalize rngL (b : Nat) (e : Nat) = R at *
  generalize xs.map iwD = X at *
  generalize e - b - 1 = l at *
  generalize e - b = m at *
  generalize xs[b] = xb at *
  generalize xs[e - 1] = xe at *
  obtain ⟨p, q, rfl⟩ : ∃ p q : D, told = [p, q] := by
    match told, htl with
    | [p, q], _ => exact ⟨p, q, rfl⟩
  simp [mSeq, mIf, mBol, mBin, mBinL, mBind, mLift, mPure, mPeek, mVar, ixD, iI, bolD, mAsg, mCall1, mCallN, intD, modD, iIc, cMod, mStore, mStoreO, mDone, gSet, mOwn, mPut, setD, mRet, mDrop, mStuck, mTru, truD, mOrT, mAndT, mNotT, mAnd, mOr, mNot, mIsi, isiT_eq, typD, lenD, mCons, mTup, mLst, mLstN, mVal, oOr, addD, subD, mulD, mulI, iIc, cMul, ltD, leD, gtD, geD, gTupD, gCons2, gsNil, mCallV, mCallB, mRs, tupleD, mRetF, mChain, mScr, mScrLen, mScrIx, mMut, appD, max2D, min2D, mRng1, mRng2, rngD1, rngD2, rngOk, mItems, itemsD, mAsgN, mParEE, mParEN, mUn, negD, mCallN1, listD, unsE, powD, cPow, divD, cDiv, mFor, mSl, mSlL, slD, mNoPart, mPart, intO, mSlN, mSlNL, slN, mRevN, revO, mParNC, andD, orD, xorD, shrD, shlD, cShr, mStepN, mStepNL, stepO, mCatN, mCatNL, catN, a1, a2, hCL, cst, z2, z3, mRgN2, hrg, t1, fit, catT, catL, appD, f1]
theorem any_filter (ys : List Iw) (q : Iw → Bool) : (!(ys.filter q).isEmpty) = ys.any q := by
  induction ys with
  | nil => rfl
  | cons y ys ih =>
    rw [List.filter_cons, List.any_cons]
    by_cases z : q y = true
    · rw [if_pos z, z]; rfl
    · rw [if_neg z, ih]
      rw [Bool.not_eq_true] at z
      rw [z]; rfl
/-- what is told, at an end of the items e -/
theorem told_ok {xs : List Iw} {b e : Nat} {done : Bool} {F E : List D} {s2 s8 s9 s10 : Sl} (h : b < e) (he : e ≤ xs.length) (hl : xs.length ≤ 900) (hF : F.length ≤ 900) (h8 : By8 xs) (hS : ShAll xs) (hE : neD (.list E) (.list []) = some (.bool done)) :
    ∃ told s9' s10', (mSeq (mAsg (mTup (mCons (mPure (.str "torn")) (mCons (mPure (.str "end")) (mPure [])))) (mStore 8))
  (mIf (mAndT (mBol (mBinL neD 4 (mLst (mPure [])))) ((mBol (mBin neD (mVal C__law_calls_3) (mLst (mPure [])))))) (mAsg (mTup (mCons (mPure (.str "torn")) (mCons (mPure (.str "bits")) (mPure [])))) (mStore 8)) (mIf (mAndT (mBol (mBinL neD 4 (mLst (mPure [])))) ((mBol (mBinL eqD 7 (mLst (mPure [])))))) (mAsg (mTup (mCons (mPure (.str "empty")) (mCons (mPure (.str "")) (mPure [])))) (mStore 8)) (mIf (mBol (mBinL neD 4 (mLst (mPure [])))) (mSeq (mAsg (mBin ixD (mBinL ixD 7 (mPure (.int 0))) (mPure (.int 1))) (mStore 9))
  (mSeq (mAsg (mBin ixD (mLst (mCons (mPure (.str "write")) (mCons (mPure (.str "read")) (mPure [])))) (mBin modD (mCall1 intD (mPeek 9)) (mPure (.int 2)))) (mStore 10))
  (mAsg (mTup (mCons (mPure (.str "call")) (mCons (mTup (mCons (mBinL divD 9 (mPure (.int 2))) (mCons (mVar 10) (mCons (mCall1 tupleD (mVal C__law_calls_4)) (mCons (mBin eqD (mBin ixD (mBinL ixD 7 (mPure (.int 0))) (mPure (.int 0))) (mPure (.str "word"))) (mPure [])))))) (mPure [])))) (mStore 8)))) (mPure .nx))))) [.val (.list (xs.map iwD)), .own F, s2, .val (.int (b : Nat)), .own E, .val (.int (e : Nat)), .val (.list ((cutI xs b e).map iwD)), .own (((cutI xs b e).filter fun x => isSaid x.k).map iwD), s8, s9, s10, .un, .un] = some (.ok .nx [.val (.list (xs.map iwD)), .own F, s2, .val (.int (b : Nat)), .own E, .val (.int (e : Nat)), .val (.list ((cutI xs b e).map iwD)), .own (((cutI xs b e).filter fun x => isSaid x.k).map iwD), .val (.tuple told), s9', s10', .un, .un]) ∧ toldW (cutI xs b e) done = told ∧ told.length = 2 := by
  have hcl : (cutI xs b e).length ≤ 900 := by rw [cutI_len (by omega) he]; omega
  have hmem : ∀ y ∈ cutI xs b e, y ∈ xs := fun y hy => List.mem_of_mem_drop (List.mem_of_mem_take hy)
  have any2 : ((cutI xs b e).map Iw.k).any isTorn = (cutI xs b e).any fun x => isTorn x.k := by rw [List.any_map]; rfl
  cases done with
  | false =>
    refine ⟨[.str "torn", .str "end"], s9, s10, ?_, rfl, rfl⟩
    generalize ((cutI xs b e).filter fun x => isSaid x.k).map iwD = SD at *
    generalize (cutI xs b e).map iwD = C at *
    generalize xs.map iwD = X at *
    simp [mSeq, mIf, mBol, mBin, mBinL, mBind, mLift, mPure, mPeek, mVar, ixD, iI, bolD, mAsg, mCall1, mCallN, intD, modD, iIc, cMod, mStore, mStoreO, mDone, gSet, mOwn, mPut, setD, mRet, mDrop, mStuck, mTru, truD, mOrT, mAndT, mNotT, mAnd, mOr, mNot, mIsi, isiT_eq, typD, lenD, mCons, mTup, mLst, mLstN, mVal, oOr, addD, subD, mulD, mulI, iIc, cMul, ltD, leD, gtD, geD, gTupD, gCons2, gsNil, mCallV, mCallB, mRs, tupleD, mRetF, mChain, mScr, mScrLen, mScrIx, mMut, appD, max2D, min2D, mRng1, mRng2, rngD1, rngD2, rngOk, mItems, itemsD, mAsgN, mParEE, mParEN, mUn, negD, mCallN1, listD, unsE, powD, cPow, divD, cDiv, mFor, mSl, mSlL, slD, mNoPart, mPart, intO, mSlN, mSlNL, slN, mRevN, revO, mParNC, andD, orD, xorD, shrD, shlD, cShr, mStepN, mStepNL, stepO, mCatN, mCatNL, catN, hE, fit]
  | true =>
    have hT := fun s7 s8 => ltorn_comp (ys := cutI xs b e) (s0 := .val (.list (xs.map iwD))) (s1 := .own F) (s2 := s2) (s3 := .val (.int (b : Nat))) (s4 := .own E) (s5 := .val (.int (e : Nat))) (s7 := s7) (s8 := s8) (s9 := s9) (s10 := s10) (s11 := .un) hcl
    have hn := ne_items_nil (ys := (cutI xs b e).filter fun x => isTorn x.k) fun y hy => hS y (hmem y (List.mem_filter.mp hy).1)
    rw [any_filter, ← any2] at hn
    have htw : toldW (cutI xs b e) true = if ((cutI xs b e).map Iw.k).any isTorn = true then [.str "torn", .str "bits"] else saidW ((cutI xs b e).filter fun x => isSaid x.k) := by
      unfold toldW
      rw [if_neg (by simp)]
    rw [htw]
    have hse := eq_items_nil (ys := (cutI xs b e).filter fun x => isSaid x.k) fun y hy => hS y (hmem y (List.mem_filter.mp hy).1)
    have hsd : ∀ y ∈ (cutI xs b e).filter (fun x => isSaid x.k), isSaid y.k = true ∧ y ∈ xs := fun y hy => ⟨(List.mem_filter.mp hy).2, hmem y (List.mem_filter.mp hy).1⟩
    have hsl : ((cutI xs b e).filter (fun x => isSaid x.k)).length ≤ 900 := Nat.le_trans (List.length_filter_le _ _) hcl
    generalize ((cutI xs b e).filter fun x => isTorn x.k).map iwD = TN at *
    generalize (cutI xs b e).filter (fun x => isSaid x.k) = ys at *
    generalize (cutI xs b e).map iwD = C at *
    by_cases z : ((cutI xs b e).map Iw.k).any isTorn = true
    · rw [z] at hn
      rw [if_pos z]
      refine ⟨[.str "torn", .str "bits"], s9, s10, ?_, rfl, rfl⟩
      generalize ys.map iwD = SD at *
      generalize xs.map iwD = X at *
      simp [mSeq, mIf, mBol, mBin, mBinL, mBind, mLift, mPure, mPeek, mVar, ixD, iI, bolD, mAsg, mCall1, mCallN, intD, modD, iIc, cMod, mStore, mStoreO, mDone, gSet, mOwn, mPut, setD, mRet, mDrop, mStuck, mTru, truD, mOrT, mAndT, mNotT, mAnd, mOr, mNot, mIsi, isiT_eq, typD, lenD, mCons, mTup, mLst, mLstN, mVal, oOr, addD, subD, mulD, mulI, iIc, cMul, ltD, leD, gtD, geD, gTupD, gCons2, gsNil, mCallV, mCallB, mRs, tupleD, mRetF, mChain, mScr, mScrLen, mScrIx, mMut, appD, max2D, min2D, mRng1, mRng2, rngD1, rngD2, rngOk, mItems, itemsD, mAsgN, mParEE, mParEN, mUn, negD, mCallN1, listD, unsE, powD, cPow, divD, cDiv, mFor, mSl, mSlL, slD, mNoPart, mPart, intO, mSlN, mSlNL, slN, mRevN, revO, mParNC, andD, orD, xorD, shrD, shlD, cShr, mStepN, mStepNL, stepO, mCatN, mCatNL, catN, hE, fit, hT, hn]
    · rw [if_neg z]
      rw [Bool.not_eq_true] at z
      rw [z] at hn
      cases ys with
      | nil =>
        refine ⟨[.str "empty", .str ""], s9, s10, ?_, rfl, rfl⟩
        have hse' : eqD (.list []) (.list []) = some (.bool true) := hse
        generalize xs.map iwD = X at *
        simp [mSeq, mIf, mBol, mBin, mBinL, mBind, mLift, mPure, mPeek, mVar, ixD, iI, bolD, mAsg, mCall1, mCallN, intD, modD, iIc, cMod, mStore, mStoreO, mDone, gSet, mOwn, mPut, setD, mRet, mDrop, mStuck, mTru, truD, mOrT, mAndT, mNotT, mAnd, mOr, mNot, mIsi, isiT_eq, typD, lenD, mCons, mTup, mLst, mLstN, mVal, oOr, addD, subD, mulD, mulI, iIc, cMul, ltD, leD, gtD, geD, gTupD, gCons2, gsNil, mCallV, mCallB, mRs, tupleD, mRetF, mChain, mScr, mScrLen, mScrIx, mMut, appD, max2D, min2D, mRng1, mRng2, rngD1, rngD2, rngOk, mItems, itemsD, mAsgN, mParEE, mParEN, mUn, negD, mCallN1, listD, unsE, powD, cPow, divD, cDiv, mFor, mSl, mSlL, slD, mNoPart, mPart, intO, mSlN, mSlNL, slN, mRevN, revO, mParNC, andD, orD, xorD, shrD, shlD, cShr, mStepN, mStepNL, stepO, mCatN, mCatNL, catN, hE, fit, hT, hn, hse']
      | cons x r =>
        have hx := h8 x (hsd x List.mem_cons_self).2 (hsd x List.mem_cons_self).1
        have h4 := fun s8 s9 s10 => lnum_comp (y := x) (ys := r) (s0 := .val (.list (xs.map iwD))) (s1 := .own F) (s2 := s2) (s3 := .val (.int (b : Nat))) (s4 := .own E) (s5 := .val (.int (e : Nat))) (s6 := .val (.list C)) (s8 := s8) (s9 := s9) (s10 := s10) (s11 := .un) (fun y hy => (hsd y (List.mem_cons_of_mem _ hy)).1) (by simp only [List.length_cons] at hsl; omega)
        have hw := kd_word x.k
        have z0 : ∀ (p q r s t : D), atI [p, q, r, s, t] 0 = some p := fun _ _ _ _ _ => rfl
        have z1 : ∀ (p q r s t : D), atI [p, q, r, s, t] 1 = some q := fun _ _ _ _ _ => rfl
        have y0 : ∀ (p : D) (q : List D), atI (p :: q) 0 = some p := fun p q => atI_nat' (by omega) rfl
        have hwx : whatW x = .int x.n := by unfold whatW; rw [if_pos (hsd x List.mem_cons_self).1]
        have hdr2 : (x :: r).map iwD = .tuple [kdD x.k, .int x.n, .int x.b, .int x.e, .tuple x.pl] :: r.map iwD := by
          rw [List.map_cons]
          unfold iwD
          rw [hwx]
        have hse' : eqD (.list ((x :: r).map iwD)) (.list []) = some (.bool false) := hse
        rw [hdr2] at h4 hse' ⊢
        have t1 : ∀ o : List D, tupleD [.list o] = some (.tuple o) := fun _ => rfl
        have w0 : atI [PyData.str "write", .str "read"] 0 = some (.str "write") := rfl
        have w1 : atI [PyData.str "write", .str "read"] 1 = some (.str "read") := rfl
        have hsw : saidW (x :: r) = [.str "call", .tuple [.int (x.n / 2), .str (if x.n % 2 = 1 then "read" else "write"), .tuple (r.map fun y => .int y.n), .bool (decide (x.k = .word))]] := rfl
        rw [hsw]
        generalize (r.map fun y => PyData.int y.n) = NS at *
        generalize r.map iwD = RW at *
        generalize xs.map iwD = X at *
        rcases (show x.n % 2 = 0 ∨ x.n % 2 = 1 by omega) with q | q
        · rw [if_neg (by omega)]
          refine ⟨[.str "call", .tuple [.int (x.n / 2), .str "write", .tuple NS, .bool (decide (x.k = .word))]], .val (.int x.n), .val (.str "write"), ?_, rfl, rfl⟩
          simp [mSeq, mIf, mBol, mBin, mBinL, mBind, mLift, mPure, mPeek, mVar, ixD, iI, bolD, mAsg, mCall1, mCallN, intD, modD, iIc, cMod, mStore, mStoreO, mDone, gSet, mOwn, mPut, setD, mRet, mDrop, mStuck, mTru, truD, mOrT, mAndT, mNotT, mAnd, mOr, mNot, mIsi, isiT_eq, typD, lenD, mCons, mTup, mLst, mLstN, mVal, oOr, addD, subD, mulD, mulI, iIc, cMul, ltD, leD, gtD, geD, gTupD, gCons2, gsNil, mCallV, mCallB, mRs, tupleD, mRetF, mChain, mScr, mScrLen, mScrIx, mMut, appD, max2D, min2D, mRng1, mRng2, rngD1, rngD2, rngOk, mItems, itemsD, mAsgN, mParEE, mParEN, mUn, negD, mCallN1, listD, unsE, powD, cPow, divD, cDiv, mFor, mSl, mSlL, slD, mNoPart, mPart, intO, mSlN, mSlNL, slN, mRevN, revO, mParNC, andD, orD, xorD, shrD, shlD, cShr, mStepN, mStepNL, stepO, mCatN, mCatNL, catN, hE, fit, hT, hn, hse', y0, z0, z1, q, w0, h4, t1, hw]
        · rw [if_pos q]
          refine ⟨[.str "call", .tuple [.int (x.n / 2), .str "read", .tuple NS, .bool (decide (x.k = .word))]], .val (.int x.n), .val (.str "read"), ?_, rfl, rfl⟩
          simp [mSeq, mIf, mBol, mBin, mBinL, mBind, mLift, mPure, mPeek, mVar, ixD, iI, bolD, mAsg, mCall1, mCallN, intD, modD, iIc, cMod, mStore, mStoreO, mDone, gSet, mOwn, mPut, setD, mRet, mDrop, mStuck, mTru, truD, mOrT, mAndT, mNotT, mAnd, mOr, mNot, mIsi, isiT_eq, typD, lenD, mCons, mTup, mLst, mLstN, mVal, oOr, addD, subD, mulD, mulI, iIc, cMul, ltD, leD, gtD, geD, gTupD, gCons2, gsNil, mCallV, mCallB, mRs, tupleD, mRetF, mChain, mScr, mScrLen, mScrIx, mMut, appD, max2D, min2D, mRng1, mRng2, rngD1, rngD2, rngOk, mItems, itemsD, mAsgN, mParEE, mParEN, mUn, negD, mCallN1, listD, unsE, powD, cPow, divD, cDiv, mFor, mSl, mSlL, slD, mNoPart, mPart, intO, mSlN, mSlNL, slN, mRevN, revO, mParNC, andD, orD, xorD, shrD, shlD, cShr, mStepN, mStepNL, stepO, mCatN, mCatNL, catN, hE, fit, hT, hn, hse', y0, z0, z1, q, w1, h4, t1, hw]
theorem lcall_turn {xs : List Iw} {b : Nat} {F : List D} {s2 s4 s5 s6 s7 s8 s9 s10 : Sl} (hb : b < xs.length) (hl : xs.length ≤ 900) (hF : F.length ≤ 900) (h8 : By8 xs) (hS : ShAll xs) :
    ∃ s4' s5' s6' s7' s8' s9' s10', L__law_calls_0 [.val (.list (xs.map iwD)), .own F, s2, .val (.int (b : Nat)), s4, s5, s6, s7, s8, s9, s10, .un, .un] = some (.ok .nx [.val (.list (xs.map iwD)), .own (F ++ [callAt (entW xs) b ((xs.map Iw.k).drop (b + 1)) (b + 1)]), s2, .val (.int (b : Nat)), s4', s5', s6', s7', s8', s9', s10', .un, .un]) := by
  have e1 := ends_comp (s1 := .own F) (s2 := s2) (s4 := s4) (s5 := s5) (s6 := s6) (s7 := s7) (s8 := s8) (s9 := s9) (s10 := s10) hl hb
  have hN := ss_next ((xs.map Iw.k).drop (b + 1)) (b + 1)
  rw [callAt_next]
  have hdl : b + 1 + ((xs.map Iw.k).drop (b + 1)).length = xs.length := by rw [List.length_drop, List.length_map]; omega
  rw [hdl]
  have hlen : (ssFrom ((xs.map Iw.k).drop (b + 1)) (b + 1)).length ≤ 900 := by
    have : ∀ (ks : List Kd) (i : Nat), (ssFrom ks i).length ≤ ks.length := by
      intro ks
      induction ks with
      | nil => exact fun _ => Nat.le_refl _
      | cons k ks ih =>
        intro i
        rw [show ssFrom (k :: ks) i = if isSS k = true then i :: ssFrom ks (i + 1) else ssFrom ks (i + 1) from rfl]
        have := ih (i + 1)
        split
        · rw [List.length_cons, List.length_cons]; omega
        · rw [List.length_cons]; omega
    have := this ((xs.map Iw.k).drop (b + 1)) (b + 1)
    rw [List.length_drop, List.length_map] at this
    omega
  -- what is done once the end is known
  have tail : ∀ (e : Nat) (done : Bool) (E : List D), b < e → e ≤ xs.length → neD (.list E) (.list []) = some (.bool done) →
      ∃ s4' s5' s6' s7' s8' s9' s10', (mSeq (mAsg (mSlL 0 (mPart (mVar 3)) (mPart (mVar 5))) (mStore 6))
  (mSeq (mAsgN C__law_calls_2 7)
  (mSeq (mAsg (mTup (mCons (mPure (.str "torn")) (mCons (mPure (.str "end")) (mPure [])))) (mStore 8))
  (mSeq (mIf (mAndT (mBol (mBinL neD 4 (mLst (mPure [])))) ((mBol (mBin neD (mVal C__law_calls_3) (mLst (mPure [])))))) (mAsg (mTup (mCons (mPure (.str "torn")) (mCons (mPure (.str "bits")) (mPure [])))) (mStore 8)) (mIf (mAndT (mBol (mBinL neD 4 (mLst (mPure [])))) ((mBol (mBinL eqD 7 (mLst (mPure [])))))) (mAsg (mTup (mCons (mPure (.str "empty")) (mCons (mPure (.str "")) (mPure [])))) (mStore 8)) (mIf (mBol (mBinL neD 4 (mLst (mPure [])))) (mSeq (mAsg (mBin ixD (mBinL ixD 7 (mPure (.int 0))) (mPure (.int 1))) (mStore 9))
  (mSeq (mAsg (mBin ixD (mLst (mCons (mPure (.str "write")) (mCons (mPure (.str "read")) (mPure [])))) (mBin modD (mCall1 intD (mPeek 9)) (mPure (.int 2)))) (mStore 10))
  (mAsg (mTup (mCons (mPure (.str "call")) (mCons (mTup (mCons (mBinL divD 9 (mPure (.int 2))) (mCons (mVar 10) (mCons (mCall1 tupleD (mVal C__law_calls_4)) (mCons (mBin eqD (mBin ixD (mBinL ixD 7 (mPure (.int 0))) (mPure (.int 0))) (mPure (.str "word"))) (mPure [])))))) (mPure [])))) (mStore 8)))) (mPure .nx))))
  (mDrop (mMut 1 appD (mCons (mBinL addD 8 (mTup (mCons (mBin ixD (mBinL ixD 6 (mPure (.int 0))) (mPure (.int 2))) (mCons (mBin ixD (mBinL ixD 6 (mBin subD (mCall1 lenD (mPeek 6)) (mPure (.int 1)))) (mPure (.int 3))) (mCons (mCall1 tupleD (mVal (mRgN2 (mVar 3) (mVar 5)))) (mPure [])))))) (mPure [])))))))) [.val (.list (xs.map iwD)), .own F, s2, .val (.int (b : Nat)), .own E, .val (.int (e : Nat)), s6, s7, s8, s9, s10, .un, .un] = some (.ok .nx [.val (.list (xs.map iwD)), .own (F ++ [entW xs b e done]), s2, .val (.int (b : Nat)), s4', s5', s6', s7', s8', s9', s10', .un, .un]) := by
    intro e done E h1 h2 hE
    obtain ⟨told, s9', s10', q1, q2, q3⟩ := told_ok (b := b) (e := e) (F := F) (s2 := s2) (s8 := s8) (s9 := s9) (s10 := s10) h1 h2 hl hF h8 hS hE
    have q4 := entry_ok (F := F) (s2 := s2) (s4 := .own E) (s7 := .own (((cutI xs b e).filter fun x => isSaid x.k).map iwD)) (s9 := s9') (s10 := s10') h1 h2 hl hF q2 q3
    have hcut := cut_mid (xs.map iwD) (a := b) (b := e) (by omega)
    have hcm : ((xs.map iwD).drop b).take (e - b) = (cutI xs b e).map iwD := by unfold cutI; rw [List.map_take, List.map_drop]
    rw [hcm] at hcut
    have q5 := fun s7 => lsaid_comp (ys := cutI xs b e) (s0 := .val (.list (xs.map iwD))) (s1 := .own F) (s2 := s2) (s3 := .val (.int (b : Nat))) (s4 := .own E) (s5 := .val (.int (e : Nat))) (s7 := s7) (s8 := s8) (s9 := s9) (s10 := s10) (s11 := .un) (by rw [cutI_len (by omega) h2]; omega)
    refine ⟨.own E, .val (.int (e : Nat)), .val (.list ((cutI xs b e).map iwD)), .own (((cutI xs b e).filter fun x => isSaid x.k).map iwD), .val (.tuple told), s9', s10', ?_⟩
    refine (seq_nx (ρ' := [.val (.list (xs.map iwD)), .own F, s2, .val (.int (b : Nat)), .own E, .val (.int (e : Nat)), .val (.list ((cutI xs b e).map iwD)), s7, s8, s9, s10, .un, .un]) ?_).trans ?_
    · generalize (cutI xs b e).map iwD = C at *
      generalize xs.map iwD = X at *
      simp [mSeq, mIf, mBol, mBin, mBinL, mBind, mLift, mPure, mPeek, mVar, ixD, iI, bolD, mAsg, mCall1, mCallN, intD, modD, iIc, cMod, mStore, mStoreO, mDone, gSet, mOwn, mPut, setD, mRet, mDrop, mStuck, mTru, truD, mOrT, mAndT, mNotT, mAnd, mOr, mNot, mIsi, isiT_eq, typD, lenD, mCons, mTup, mLst, mLstN, mVal, oOr, addD, subD, mulD, mulI, iIc, cMul, ltD, leD, gtD, geD, gTupD, gCons2, gsNil, mCallV, mCallB, mRs, tupleD, mRetF, mChain, mScr, mScrLen, mScrIx, mMut, appD, max2D, min2D, mRng1, mRng2, rngD1, rngD2, rngOk, mItems, itemsD, mAsgN, mParEE, mParEN, mUn, negD, mCallN1, listD, unsE, powD, cPow, divD, cDiv, mFor, mSl, mSlL, slD, mNoPart, mPart, intO, mSlN, mSlNL, slN, mRevN, revO, mParNC, andD, orD, xorD, shrD, shlD, cShr, mStepN, mStepNL, stepO, mCatN, mCatNL, catN, mSlL, mPart, slD, intO, hcut]
    refine (seq_nx (ρ' := [.val (.list (xs.map iwD)), .own F, s2, .val (.int (b : Nat)), .own E, .val (.int (e : Nat)), .val (.list ((cutI xs b e).map iwD)), .own (((cutI xs b e).filter fun x => isSaid x.k).map iwD), s8, s9, s10, .un, .un]) ?_).trans ?_
    · have := q5 s7
      generalize ((cutI xs b e).filter fun x => isSaid x.k).map iwD = SD at *
      generalize (cutI xs b e).map iwD = C at *
      generalize xs.map iwD = X at *
      simp [mSeq, mIf, mBol, mBin, mBinL, mBind, mLift, mPure, mPeek, mVar, ixD, iI, bolD, mAsg, mCall1, mCallN, intD, modD, iIc, cMod, mStore, mStoreO, mDone, gSet, mOwn, mPut, setD, mRet, mDrop, mStuck, mTru, truD, mOrT, mAndT, mNotT, mAnd, mOr, mNot, mIsi, isiT_eq, typD, lenD, mCons, mTup, mLst, mLstN, mVal, oOr, addD, subD, mulD, mulI, iIc, cMul, ltD, leD, gtD, geD, gTupD, gCons2, gsNil, mCallV, mCallB, mRs, tupleD, mRetF, mChain, mScr, mScrLen, mScrIx, mMut, appD, max2D, min2D, mRng1, mRng2, rngD1, rngD2, rngOk, mItems, itemsD, mAsgN, mParEE, mParEN, mUn, negD, mCallN1, listD, unsE, powD, cPow, divD, cDiv, mFor, mSl, mSlL, slD, mNoPart, mPart, intO, mSlN, mSlNL, slN, mRevN, revO, mParNC, andD, orD, xorD, shrD, shlD, cShr, mStepN, mStepNL, stepO, mCatN, mCatNL, catN, this]
    exact (seq2 q1).trans q4
  have z0 : ∀ p q r s t : D, atI [p, q, r, s, t] 0 = some p := fun _ _ _ _ _ => rfl
  have y0 : ∀ (p : D) (q : List D), atI (p :: q) 0 = some p := fun p q => atI_nat' (by omega) rfl
  cases hns : nextSS ((xs.map Iw.k).drop (b + 1)) (b + 1) with
  | none =>
    rw [hns] at hN
    have hnil : ssFrom ((xs.map Iw.k).drop (b + 1)) (b + 1) = [] := List.head?_eq_none_iff.mp hN
    rw [hnil] at e1
    obtain ⟨a, c, d, f, g, i, j, q⟩ := tail xs.length false [] hb (Nat.le_refl _) (ne_ints_nil [])
    refine ⟨a, c, d, f, g, i, j, ?_⟩
    have hne : neD (.list []) (.list []) = some (.bool false) := ne_ints_nil []
    refine (seq_nx (ρ' := [.val (.list (xs.map iwD)), .own F, s2, .val (.int (b : Nat)), .own [], s5, s6, s7, s8, s9, s10, .un, .un]) ?_).trans ?_
    · have e1' : C__law_calls_1 [.val (.list (xs.map iwD)), .own F, s2, .val (.int (b : Nat)), s4, s5, s6, s7, s8, s9, s10, .un, .un] = some (.ok [] [.val (.list (xs.map iwD)), .own F, s2, .val (.int (b : Nat)), s4, s5, s6, s7, s8, s9, s10, .un, .un]) := e1
      generalize xs.map iwD = X at *
      simp [mSeq, mIf, mBol, mBin, mBinL, mBind, mLift, mPure, mPeek, mVar, ixD, iI, bolD, mAsg, mCall1, mCallN, intD, modD, iIc, cMod, mStore, mStoreO, mDone, gSet, mOwn, mPut, setD, mRet, mDrop, mStuck, mTru, truD, mOrT, mAndT, mNotT, mAnd, mOr, mNot, mIsi, isiT_eq, typD, lenD, mCons, mTup, mLst, mLstN, mVal, oOr, addD, subD, mulD, mulI, iIc, cMul, ltD, leD, gtD, geD, gTupD, gCons2, gsNil, mCallV, mCallB, mRs, tupleD, mRetF, mChain, mScr, mScrLen, mScrIx, mMut, appD, max2D, min2D, mRng1, mRng2, rngD1, rngD2, rngOk, mItems, itemsD, mAsgN, mParEE, mParEN, mUn, negD, mCallN1, listD, unsE, powD, cPow, divD, cDiv, mFor, mSl, mSlL, slD, mNoPart, mPart, intO, mSlN, mSlNL, slN, mRevN, revO, mParNC, andD, orD, xorD, shrD, shlD, cShr, mStepN, mStepNL, stepO, mCatN, mCatNL, catN, e1']
    refine (seq_nx (ρ' := [.val (.list (xs.map iwD)), .own F, s2, .val (.int (b : Nat)), .own [], .val (.int (xs.length : Nat)), s6, s7, s8, s9, s10, .un, .un]) ?_).trans ?_
    · have hL : (xs.map iwD).length = xs.length := List.length_map _
      generalize xs.map iwD = X at *
      simp [mSeq, mIf, mBol, mBin, mBinL, mBind, mLift, mPure, mPeek, mVar, ixD, iI, bolD, mAsg, mCall1, mCallN, intD, modD, iIc, cMod, mStore, mStoreO, mDone, gSet, mOwn, mPut, setD, mRet, mDrop, mStuck, mTru, truD, mOrT, mAndT, mNotT, mAnd, mOr, mNot, mIsi, isiT_eq, typD, lenD, mCons, mTup, mLst, mLstN, mVal, oOr, addD, subD, mulD, mulI, iIc, cMul, ltD, leD, gtD, geD, gTupD, gCons2, gsNil, mCallV, mCallB, mRs, tupleD, mRetF, mChain, mScr, mScrLen, mScrIx, mMut, appD, max2D, min2D, mRng1, mRng2, rngD1, rngD2, rngOk, mItems, itemsD, mAsgN, mParEE, mParEN, mUn, negD, mCallN1, listD, unsE, powD, cPow, divD, cDiv, mFor, mSl, mSlL, slD, mNoPart, mPart, intO, mSlN, mSlNL, slN, mRevN, revO, mParNC, andD, orD, xorD, shrD, shlD, cShr, mStepN, mStepNL, stepO, mCatN, mCatNL, catN, hL, y0, fit, catL]
    refine (seq_nx (ρ' := [.val (.list (xs.map iwD)), .own F, s2, .val (.int (b : Nat)), .own [], .val (.int (xs.length : Nat)), s6, s7, s8, s9, s10, .un, .un]) ?_).trans q
    generalize xs.map iwD = X at *
    simp [mSeq, mIf, mBol, mBin, mBinL, mBind, mLift, mPure, mPeek, mVar, ixD, iI, bolD, mAsg, mCall1, mCallN, intD, modD, iIc, cMod, mStore, mStoreO, mDone, gSet, mOwn, mPut, setD, mRet, mDrop, mStuck, mTru, truD, mOrT, mAndT, mNotT, mAnd, mOr, mNot, mIsi, isiT_eq, typD, lenD, mCons, mTup, mLst, mLstN, mVal, oOr, addD, subD, mulD, mulI, iIc, cMul, ltD, leD, gtD, geD, gTupD, gCons2, gsNil, mCallV, mCallB, mRs, tupleD, mRetF, mChain, mScr, mScrLen, mScrIx, mMut, appD, max2D, min2D, mRng1, mRng2, rngD1, rngD2, rngOk, mItems, itemsD, mAsgN, mParEE, mParEN, mUn, negD, mCallN1, listD, unsE, powD, cPow, divD, cDiv, mFor, mSl, mSlL, slD, mNoPart, mPart, intO, mSlN, mSlNL, slN, mRevN, revO, mParNC, andD, orD, xorD, shrD, shlD, cShr, mStepN, mStepNL, stepO, mCatN, mCatNL, catN, hne, fit]
  | some p =>
    obtain ⟨e, st⟩ := p
    rw [hns] at hN
    obtain ⟨rest, hcons⟩ : ∃ rest, ssFrom ((xs.map Iw.k).drop (b + 1)) (b + 1) = e :: rest := by
      cases hq : ssFrom ((xs.map Iw.k).drop (b + 1)) (b + 1) with
      | nil => rw [hq] at hN; cases hN
      | cons r rs =>
        rw [hq] at hN
        have : some r = some e := hN
        cases this
        exact ⟨rs, rfl⟩
    rw [hcons] at e1 hlen
    obtain ⟨k1, k2, k3⟩ := next_kind _ _ _ _ hns
    rw [List.length_drop, List.length_map] at k2
    have hel : e < xs.length := by omega
    have hxe : xs[e]? = some xs[e] := List.getElem?_eq_getElem hel
    rw [List.getElem?_drop, show b + 1 + (e - (b + 1)) = e by omega, List.getElem?_map, hxe] at k3
    have hk : xs[e].k = if st = true then Kd.stop else Kd.start := Option.some.inj k3
    have hat := iw_at hxe
    have hit : iwD xs[e] = .tuple [kdD xs[e].k, whatW xs[e], .int xs[e].b, .int xs[e].e, .tuple xs[e].pl] := rfl
    rw [hit] at hat
    have hst : eqD (kdD xs[e].k) (.str "stop") = some (.bool st) := by
      rw [kd_stop, hk]
      cases st <;> rfl
    have hne : neD (.list ((e :: rest).map fun i => PyData.int (i : Nat))) (.list []) = some (.bool true) := ne_ints_nil (e :: rest)
    have hmc : (e :: rest).map (fun i => PyData.int (i : Nat)) = .int (e : Nat) :: rest.map fun i => .int (i : Nat) := rfl
    rw [hmc] at e1 hne
    have hrl : (rest.map fun i => PyData.int (i : Nat)).length + 1 + 1 ≤ 16000000 := by
      rw [List.length_map]
      simp only [List.length_cons] at hlen
      omega
    generalize (rest.map fun i => PyData.int (i : Nat)) = RS at *
    generalize xs[e] = xe at *
    rw [show resE (entW xs) b xs.length (some (e, st)) = entW xs b (if st = true then e + 1 else e) true from rfl]
    obtain ⟨a, c, d, f, g, i, j, q⟩ := tail (if st = true then e + 1 else e) true (.int (e : Nat) :: RS) (by split <;> omega) (by split <;> omega) hne
    refine ⟨a, c, d, f, g, i, j, ?_⟩
    refine (seq_nx (ρ' := [.val (.list (xs.map iwD)), .own F, s2, .val (.int (b : Nat)), .own (.int (e : Nat) :: RS), s5, s6, s7, s8, s9, s10, .un, .un]) ?_).trans ?_
    · generalize xs.map iwD = X at *
      simp [mSeq, mIf, mBol, mBin, mBinL, mBind, mLift, mPure, mPeek, mVar, ixD, iI, bolD, mAsg, mCall1, mCallN, intD, modD, iIc, cMod, mStore, mStoreO, mDone, gSet, mOwn, mPut, setD, mRet, mDrop, mStuck, mTru, truD, mOrT, mAndT, mNotT, mAnd, mOr, mNot, mIsi, isiT_eq, typD, lenD, mCons, mTup, mLst, mLstN, mVal, oOr, addD, subD, mulD, mulI, iIc, cMul, ltD, leD, gtD, geD, gTupD, gCons2, gsNil, mCallV, mCallB, mRs, tupleD, mRetF, mChain, mScr, mScrLen, mScrIx, mMut, appD, max2D, min2D, mRng1, mRng2, rngD1, rngD2, rngOk, mItems, itemsD, mAsgN, mParEE, mParEN, mUn, negD, mCallN1, listD, unsE, powD, cPow, divD, cDiv, mFor, mSl, mSlL, slD, mNoPart, mPart, intO, mSlN, mSlNL, slN, mRevN, revO, mParNC, andD, orD, xorD, shrD, shlD, cShr, mStepN, mStepNL, stepO, mCatN, mCatNL, catN, e1]
    refine (seq_nx (ρ' := [.val (.list (xs.map iwD)), .own F, s2, .val (.int (b : Nat)), .own (.int (e : Nat) :: RS), .val (.int (e : Nat)), s6, s7, s8, s9, s10, .un, .un]) ?_).trans ?_
    · have hL : (xs.map iwD).length = xs.length := List.length_map _
      generalize xs.map iwD = X at *
      simp [mSeq, mIf, mBol, mBin, mBinL, mBind, mLift, mPure, mPeek, mVar, ixD, iI, bolD, mAsg, mCall1, mCallN, intD, modD, iIc, cMod, mStore, mStoreO, mDone, gSet, mOwn, mPut, setD, mRet, mDrop, mStuck, mTru, truD, mOrT, mAndT, mNotT, mAnd, mOr, mNot, mIsi, isiT_eq, typD, lenD, mCons, mTup, mLst, mLstN, mVal, oOr, addD, subD, mulD, mulI, iIc, cMul, ltD, leD, gtD, geD, gTupD, gCons2, gsNil, mCallV, mCallB, mRs, tupleD, mRetF, mChain, mScr, mScrLen, mScrIx, mMut, appD, max2D, min2D, mRng1, mRng2, rngD1, rngD2, rngOk, mItems, itemsD, mAsgN, mParEE, mParEN, mUn, negD, mCallN1, listD, unsE, powD, cPow, divD, cDiv, mFor, mSl, mSlL, slD, mNoPart, mPart, intO, mSlN, mSlNL, slN, mRevN, revO, mParNC, andD, orD, xorD, shrD, shlD, cShr, mStepN, mStepNL, stepO, mCatN, mCatNL, catN, hL, y0, fit, catL, hrl]
    refine (seq_nx (ρ' := [.val (.list (xs.map iwD)), .own F, s2, .val (.int (b : Nat)), .own (.int (e : Nat) :: RS), .val (.int ((if st = true then e + 1 else e : Nat) : Int)), s6, s7, s8, s9, s10, .un, .un]) ?_).trans q
    generalize xs.map iwD = X at *
    cases st <;> simp [mSeq, mIf, mBol, mBin, mBinL, mBind, mLift, mPure, mPeek, mVar, ixD, iI, bolD, mAsg, mCall1, mCallN, intD, modD, iIc, cMod, mStore, mStoreO, mDone, gSet, mOwn, mPut, setD, mRet, mDrop, mStuck, mTru, truD, mOrT, mAndT, mNotT, mAnd, mOr, mNot, mIsi, isiT_eq, typD, lenD, mCons, mTup, mLst, mLstN, mVal, oOr, addD, subD, mulD, mulI, iIc, cMul, ltD, leD, gtD, geD, gTupD, gCons2, gsNil, mCallV, mCallB, mRs, tupleD, mRetF, mChain, mScr, mScrLen, mScrIx, mMut, appD, max2D, min2D, mRng1, mRng2, rngD1, rngD2, rngOk, mItems, itemsD, mAsgN, mParEE, mParEN, mUn, negD, mCallN1, listD, unsE, powD, cPow, divD, cDiv, mFor, mSl, mSlL, slD, mNoPart, mPart, intO, mSlN, mSlNL, slN, mRevN, revO, mParNC, andD, orD, xorD, shrD, shlD, cShr, mStepN, mStepNL, stepO, mCatN, mCatNL, catN, hne, fit, hat, z0, hst]

theorem st_lt : ∀ (ks : List Kd) (i b : Nat), b ∈ stFrom ks i → b < i + ks.length
  | [], _, _, h => by cases h
  | k :: ks, i, b, h => by
    rw [show stFrom (k :: ks) i = if isSt k = true then i :: stFrom ks (i + 1) else stFrom ks (i + 1) from rfl] at h
    rw [List.length_cons]
    split at h
    · rcases List.mem_cons.mp h with rfl | h
      · omega
      · have := st_lt ks (i + 1) b h; omega
    · have := st_lt ks (i + 1) b h; omega
theorem st_len : ∀ (ks : List Kd) (i : Nat), (stFrom ks i).length ≤ ks.length
  | [], _ => Nat.le_refl _
  | k :: ks, i => by
    rw [show stFrom (k :: ks) i = if isSt k = true then i :: stFrom ks (i + 1) else stFrom ks (i + 1) from rfl]
    have := st_len ks (i + 1)
    split
    · rw [List.length_cons, List.length_cons]; omega
    · rw [List.length_cons]; omega
theorem law_calls_ok {xs : List Iw} (hl : xs.length ≤ 900) (h8 : By8 xs) (hS : ShAll xs) : fn__law_calls [.list (xs.map iwD)] = some (.ok (.list (walkC (entW xs) (xs.map Iw.k) 0 none))) := by
  have hw := walk_starts (entW xs) (xs.map Iw.k) 0 none
  rw [show walkC (entW xs) (xs.map Iw.k) 0 none = startsC (entW xs) (xs.map Iw.k) 0 from hw, starts_map (entW xs) (xs.map Iw.k) (xs.map Iw.k) 0 rfl]
  have e1 := starts_comp (s1 := .own []) hl
  have hsl := st_len (xs.map Iw.k) 0
  rw [List.length_map] at hsl
  have hlt : ∀ b ∈ stFrom (xs.map Iw.k) 0, b < xs.length := fun b h => by
    have := st_lt _ _ _ h
    rw [List.length_map, Nat.zero_add] at this
    exact this
  generalize stFrom (xs.map Iw.k) 0 = S at *
  obtain ⟨ρ', h2, s3, s4, s5, s6, s7, s8, s9, s10, rfl⟩ := forL_ix (g := mStore 3) (body := L__law_calls_0) (fun i ρ => ∃ s3 s4 s5 s6 s7 s8 s9 s10, ρ = [.val (.list (xs.map iwD)), .own ((S.take i).map fun b => callAt (entW xs) b ((xs.map Iw.k).drop (b + 1)) (b + 1)), .val (.list (S.map fun i => .int (i : Nat))), s3, s4, s5, s6, s7, s8, s9, s10, .un, .un]) (S.map fun i => .int (i : Nat)) 0 [.val (.list (xs.map iwD)), .own [], .val (.list (S.map fun i => .int (i : Nat))), .un, .un, .un, .un, .un, .un, .un, .un, .un, .un] ⟨_, _, _, _, _, _, _, _, rfl⟩ (by
    rintro j d ρ hd ⟨s3, s4, s5, s6, s7, s8, s9, s10, rfl⟩
    rw [Nat.zero_add]
    rw [List.getElem?_map] at hd
    cases hj : S[j]? with
    | none => rw [hj] at hd; cases hd
    | some b =>
      rw [hj] at hd
      have hd' : PyData.int (b : Nat) = d := Option.some.inj hd
      subst hd'
      obtain ⟨a, c, e, f, g, i, k, q⟩ := lcall_turn (F := (S.take j).map fun b => callAt (entW xs) b ((xs.map Iw.k).drop (b + 1)) (b + 1)) (s2 := .val (.list (S.map fun i => .int (i : Nat)))) (s4 := s4) (s5 := s5) (s6 := s6) (s7 := s7) (s8 := s8) (s9 := s9) (s10 := s10) (hlt b (List.mem_of_getElem? hj)) hl (by rw [List.length_map, List.length_take]; omega) h8 hS
      have ht : S.take (j + 1) = S.take j ++ [b] := by
        rw [List.take_succ, hj]; rfl
      rw [ht, List.map_append]
      exact ⟨_, _, by simp [mStore], Or.inl q, _, _, _, _, _, _, _, _, rfl⟩)
  rw [List.length_map, Nat.zero_add, List.take_length] at h2
  have hR : R__law_calls_0 [.val (.list (xs.map iwD)), .own [], .own (S.map fun i => .int (i : Nat)), .un, .un, .un, .un, .un, .un, .un, .un, .un, .un] = some (.ok .nx [.val (.list (xs.map iwD)), .own (S.map fun b => callAt (entW xs) b ((xs.map Iw.k).drop (b + 1)) (b + 1)), .val (.list (S.map fun i => .int (i : Nat))), s3, s4, s5, s6, s7, s8, s9, s10, .un, .un]) := by
    have hi : mItems (mVar 2) [.val (.list (xs.map iwD)), .own [], .own (S.map fun i => .int (i : Nat)), .un, .un, .un, .un, .un, .un, .un, .un, .un, .un] = some (.ok (S.map fun i => .int (i : Nat)) [.val (.list (xs.map iwD)), .own [], .val (.list (S.map fun i => .int (i : Nat))), .un, .un, .un, .un, .un, .un, .un, .un, .un, .un]) := by
      generalize (S.map fun i => PyData.int (i : Nat)) = SS
      generalize xs.map iwD = X
      simp [mSeq, mIf, mBol, mBin, mBinL, mBind, mLift, mPure, mPeek, mVar, ixD, iI, bolD, mAsg, mCall1, mCallN, intD, modD, iIc, cMod, mStore, mStoreO, mDone, gSet, mOwn, mPut, setD, mRet, mDrop, mStuck, mTru, truD, mOrT, mAndT, mNotT, mAnd, mOr, mNot, mIsi, isiT_eq, typD, lenD, mCons, mTup, mLst, mLstN, mVal, oOr, addD, subD, mulD, mulI, iIc, cMul, ltD, leD, gtD, geD, gTupD, gCons2, gsNil, mCallV, mCallB, mRs, tupleD, mRetF, mChain, mScr, mScrLen, mScrIx, mMut, appD, max2D, min2D, mRng1, mRng2, rngD1, rngD2, rngOk, mItems, itemsD, mAsgN, mParEE, mParEN, mUn, negD, mCallN1, listD, unsE, powD, cPow, divD, cDiv, mFor, mSl, mSlL, slD, mNoPart, mPart, intO, mSlN, mSlNL, slN, mRevN, revO, mParNC, andD, orD, xorD, shrD, shlD, cShr, mStepN, mStepNL, stepO, mCatN, mCatNL, catN]
    unfold R__law_calls_0 mFor
    rw [bind_is hi]
    exact h2
  clear h2
  generalize (S.map fun b => callAt (entW xs) b ((xs.map Iw.k).drop (b + 1)) (b + 1)) = O at *
  generalize (S.map fun i => PyData.int (i : Nat)) = SS at *
  generalize xs.map iwD = X at *
  simp [fn__law_calls, runV, m__law_calls, env0, mSeq, mIf, mBol, mBin, mBinL, mBind, mLift, mPure, mPeek, mVar, ixD, iI, bolD, mAsg, mCall1, mCallN, intD, modD, iIc, cMod, mStore, mStoreO, mDone, gSet, mOwn, mPut, setD, mRet, mDrop, mStuck, mTru, truD, mOrT, mAndT, mNotT, mAnd, mOr, mNot, mIsi, isiT_eq, typD, lenD, mCons, mTup, mLst, mLstN, mVal, oOr, addD, subD, mulD, mulI, iIc, cMul, ltD, leD, gtD, geD, gTupD, gCons2, gsNil, mCallV, mCallB, mRs, tupleD, mRetF, mChain, mScr, mScrLen, mScrIx, mMut, appD, max2D, min2D, mRng1, mRng2, rngD1, rngD2, rngOk, mItems, itemsD, mAsgN, mParEE, mParEN, mUn, negD, mCallN1, listD, unsE, powD, cPow, divD, cDiv, mFor, mSl, mSlL, slD, mNoPart, mPart, intO, mSlN, mSlNL, slN, mRevN, revO, mParNC, andD, orD, xorD, shrD, shlD, cShr, mStepN, mStepNL, stepO, mCatN, mCatNL, catN, e1, hR, fit]
/-! ### items as the law draws them -/
def Num (i : Int) : Prop := 0 ≤ i ∧ i < 100000
structure Gw (x : Iw) : Prop where
  n : isSaid x.k = true → 0 ≤ x.n ∧ x.n < 256
  w : isSaid x.k = false → x.w = .str "" ∨ x.w = .str "bits" ∨ x.w = .str "end"
  b : Num x.b
  e : Num x.e
  pl : ∃ ms : List Int, x.pl = ms.map (fun m => .tuple [.str "d", .int m]) ∧ ms.length ≤ 9 ∧ ∀ m ∈ ms, Num m
theorem gw_by8 {xs : List Iw} (h : ∀ x ∈ xs, Gw x) : By8 xs := fun x hx => (h x hx).n
theorem shw_txt0 : Shw 40 0 (.str "") := shw_str (by decide +kernel) (by decide +kernel)
theorem shw_txt1 : Shw 40 0 (.str "bits") := shw_str (by decide +kernel) (by decide +kernel)
theorem shw_txt2 : Shw 40 0 (.str "end") := shw_str (by decide +kernel) (by decide +kernel)
theorem shw_d : Shw 40 0 (.str "d") := shw_str (by decide +kernel) (by decide +kernel)
theorem shw_kd (k : Kd) : Shw 40 0 (kdD k) := by cases k <;> exact shw_str (by decide +kernel) (by decide +kernel)
theorem shw_num {i : Int} (h : Num i) : Shw 40 0 (.int i) := shw_mono (shw_int (by have := h.1; have := h.2; omega)) (by omega) (by omega)
theorem sh_txt (s : String) : Sh 0 (.str (Str.ofString s)) := ⟨by simp [PyData.canLay0, strOk_of], by simp [PyData.depth]⟩
theorem sh_kd (k : Kd) : Sh 0 (kdD k) := by cases k <;> exact sh_txt _
theorem what_is {x : Iw} (h : Gw x) : (∃ n, whatW x = .int n ∧ 0 ≤ n ∧ n < 256) ∨ whatW x = .str "" ∨ whatW x = .str "bits" ∨ whatW x = .str "end" := by
  unfold whatW
  cases hk : isSaid x.k with
  | true => rw [if_pos rfl]; exact .inl ⟨x.n, rfl, h.n hk⟩
  | false => rw [if_neg (by simp)]; exact .inr (h.w hk)
theorem gw_shw {x : Iw} (h : Gw x) : Shw 6000 3 (iwD x) := by
  have hw : Shw 40 0 (whatW x) := by
    rcases what_is h with ⟨n, e, h0, h1⟩ | e | e | e
    · rw [e]; exact shw_mono (shw_int (by omega)) (by omega) (by omega)
    · rw [e]; exact shw_txt0
    · rw [e]; exact shw_txt1
    · rw [e]; exact shw_txt2
  obtain ⟨ms, e, hl, hm⟩ := h.pl
  have hp : Shw 1000 2 (.tuple x.pl) := by
    have := shw_tuple (B := 100) (n := 1) (ds := ms.map fun m => PyData.tuple [.str "d", .int m]) fun d hd => by
      obtain ⟨m, hm', rfl⟩ := List.mem_map.mp hd
      refine shw_mono (shw_tuple (B := 40) (n := 0) fun d hd => ?_) (by simp) (by omega)
      simp only [List.mem_cons, List.not_mem_nil, or_false] at hd
      rcases hd with rfl | rfl
      · exact shw_d
      · exact shw_num (hm m hm')
    rw [List.length_map] at this
    rw [e]
    exact shw_mono this (by
      have : (100 + 2) * ms.length ≤ (100 + 2) * 9 := Nat.mul_le_mul_left _ hl
      omega) (by omega)
  have := shw_tuple (B := 1000) (n := 2) (ds := [kdD x.k, whatW x, .int x.b, .int x.e, .tuple x.pl]) fun d hd => by
    simp only [List.mem_cons, List.not_mem_nil, or_false] at hd
    rcases hd with rfl | rfl | rfl | rfl | rfl
    · exact shw_mono (shw_kd x.k) (by omega) (by omega)
    · exact shw_mono hw (by omega) (by omega)
    · exact shw_mono (shw_num h.b) (by omega) (by omega)
    · exact shw_mono (shw_num h.e) (by omega) (by omega)
    · exact hp
  exact shw_mono this (by simp) (by omega)
theorem gw_sh {x : Iw} (h : Gw x) : Sh 3 (iwD x) := by
  have hw : Sh 0 (whatW x) := by
    rcases what_is h with ⟨n, e, h0, h1⟩ | e | e | e
    · rw [e]; exact Sh.int _
    · rw [e]; exact sh_txt _
    · rw [e]; exact sh_txt _
    · rw [e]; exact sh_txt _
  obtain ⟨ms, e, hl, hm⟩ := h.pl
  refine Sh.tuple fun d hd => ?_
  simp only [List.mem_cons, List.not_mem_nil, or_false] at hd
  rcases hd with rfl | rfl | rfl | rfl | rfl
  · exact (sh_kd _).mono (by omega)
  · exact hw.mono (by omega)
  · exact (Sh.int _).mono (by omega)
  · exact (Sh.int _).mono (by omega)
  · rw [e]
    refine Sh.tuple fun d hd => ?_
    obtain ⟨m, hm', rfl⟩ := List.mem_map.mp hd
    refine Sh.tuple fun d hd => ?_
    simp only [List.mem_cons, List.not_mem_nil, or_false] at hd
    rcases hd with rfl | rfl
    · exact sh_txt _
    · exact Sh.int _
theorem gw_repr {xs : List Iw} (h : ∀ x ∈ xs, Gw x) (hl : xs.length ≤ 100) : ∃ z, PyData.strOk z = true ∧ reprG [.list (xs.map iwD)] = some (.str z) := by
  have hs : Shw (2 + (6000 + 2) * (xs.map iwD).length) 4 (.list (xs.map iwD)) := shw_list (B := 6000) (n := 3) fun d hd => by
    obtain ⟨x, hx, rfl⟩ := List.mem_map.mp hd
    exact gw_shw (h x hx)
  exact ⟨_, hs.ok, repr_shw hs (by rw [List.length_map]; omega) (by omega)⟩

def plL (a s : Int) (m : Nat) : List D := ((List.range m).map fun k => a + 2 * s * (k : Nat)).map fun i => .tuple [.str "d", .int i]
theorem plL_len (a s : Int) (m : Nat) : (plL a s m).length = m := by simp [plL]
theorem plL_last (a s : Int) {m : Nat} (h : 0 < m) : atI (plL a s m) ((m : Int) - 1) = some (.tuple [.str "d", .int (a + 2 * s * ((m : Int) - 1))]) := by
  refine atI_nat' (by omega) ?_
  rw [show ((m : Int) - 1).toNat = m - 1 by omega]
  unfold plL
  rw [List.getElem?_map, List.getElem?_map, List.getElem?_range (by omega)]
  show some (PyData.tuple [.str "d", .int (a + 2 * s * ((m - 1 : Nat) : Int))]) = _
  rw [show ((m - 1 : Nat) : Int) = (m : Int) - 1 by omega]
theorem place_comp0 {s0 s1 s2 s4 s5 s6 s8 s9 s10 s12 : Sl} {a s : Int} {m : Nat} (hm : m ≤ 100) (ha : a.natAbs < 1000000) (hs : s.natAbs < 1000) :
    C__law_twowire_0 [s0, s1, s2, .val (.int a), s4, s5, s6, .val (.int s), s8, s9, s10, .val (.int (m : Nat)), s12, .un] = some (.ok (plL a s m) [s0, s1, s2, .val (.int a), s4, s5, s6, .val (.int s), s8, s9, s10, .val (.int (m : Nat)), s12, .un]) := by
  have hr : mRng1 (mCons (mVar 11) (mPure [])) [s0, s1, s2, .val (.int a), s4, s5, s6, .val (.int s), s8, s9, s10, .val (.int (m : Nat)), s12, .un] = some (.ok (rngL 0 (m : Nat)) [s0, s1, s2, .val (.int a), s4, s5, s6, .val (.int s), s8, s9, s10, .val (.int (m : Nat)), s12, .un]) := rng1_is (by simp [mSeq, mIf, mBol, mBin, mBinL, mBind, mLift, mPure, mPeek, mVar, ixD, iI, bolD, mAsg, mCall1, mCallN, intD, modD, iIc, cMod, mStore, mStoreO, mDone, gSet, mOwn, mPut, setD, mRet, mDrop, mStuck, mTru, truD, mOrT, mAndT, mNotT, mAnd, mOr, mNot, mIsi, isiT_eq, typD, lenD, mCons, mTup, mLst, mLstN, mVal, oOr, addD, subD, mulD, mulI, iIc, cMul, ltD, leD, gtD, geD, gTupD, gCons2, gsNil, mCallV, mCallB, mRs, tupleD, mRetF, mChain, mScr, mScrLen, mScrIx, mMut, appD, max2D, min2D, mRng1, mRng2, rngD1, rngD2, rngOk, mItems, itemsD, mAsgN, mParEE, mParEN, mUn, negD, mCallN1, listD, unsE, powD, cPow, divD, cDiv, mFor, mSl, mSlL, slD, mNoPart, mPart, intO, mSlN, mSlNL, slN, mRevN, revO, mParNC, andD, orD, xorD, shrD, shlD, cShr, mStepN, mStepNL, stepO, mCatN, mCatNL, catN]) (rngOk_le (by omega) (by omega))
  refine comp_is (vs := [13]) (ρe := [s0, s1, s2, .val (.int a), s4, s5, s6, .val (.int s), s8, s9, s10, .val (.int (m : Nat)), s12, .un]) hr (fit_of2 (by rw [rngL_length]; omega)) ?_
  rw [rngL_nat]
  unfold plL
  rw [List.map_map]
  refine go_mapA _ _ _ fun k hk => ?_
  have := List.mem_range.mp hk
  have f1 : (2 * s).natAbs < 100000 := by omega
  refine ⟨[s0, s1, s2, .val (.int a), s4, s5, s6, .val (.int s), s8, s9, s10, .val (.int (m : Nat)), s12, .val (.int (k : Nat))], [s0, s1, s2, .val (.int a), s4, s5, s6, .val (.int s), s8, s9, s10, .val (.int (m : Nat)), s12, .val (.int (k : Nat))], by simp [unsE, mStore], ?_, by simp [unsE]⟩
  have m1 : mulD (.int 2) (.int s) = some (.int (2 * s)) := mul_ok (by omega)
  have m2 : mulD (.int (2 * s)) (.int (k : Nat)) = some (.int (2 * s * (k : Nat))) := mul_ok (by omega)
  simp [mSeq, mIf, mBol, mBin, mBinL, mBind, mLift, mPure, mPeek, mVar, ixD, iI, bolD, mAsg, mCall1, mCallN, intD, modD, iIc, cMod, mStore, mStoreO, mDone, gSet, mOwn, mPut, setD, mRet, mDrop, mStuck, mTru, truD, mOrT, mAndT, mNotT, mAnd, mOr, mNot, mIsi, isiT_eq, typD, lenD, mCons, mTup, mLst, mLstN, mVal, oOr, addD, subD, mulI, iIc, cMul, ltD, leD, gtD, geD, gTupD, gCons2, gsNil, mCallV, mCallB, mRs, tupleD, mRetF, mChain, mScr, mScrLen, mScrIx, mMut, appD, max2D, min2D, mRng1, mRng2, rngD1, rngD2, rngOk, mItems, itemsD, mAsgN, mParEE, mParEN, mUn, negD, mCallN1, listD, unsE, powD, cPow, divD, cDiv, mFor, mSl, mSlL, slD, mNoPart, mPart, intO, mSlN, mSlNL, slN, mRevN, revO, mParNC, andD, orD, xorD, shrD, shlD, cShr, mStepN, mStepNL, stepO, mCatN, mCatNL, catN, m1, m2, fit]
theorem place_comp1 {s0 s1 s2 s4 s5 s6 s8 s9 s11 s12 : Sl} {a s : Int} {m : Nat} (hm : m ≤ 100) (ha : a.natAbs < 1000000) (hs : s.natAbs < 1000) :
    C__law_twowire_1 [s0, s1, s2, .val (.int a), s4, s5, s6, .val (.int s), s8, s9, .val (.int (m : Nat)), s11, s12, .un] = some (.ok (plL a s m) [s0, s1, s2, .val (.int a), s4, s5, s6, .val (.int s), s8, s9, .val (.int (m : Nat)), s11, s12, .un]) := by
  have hr : mRng1 (mCons (mVar 10) (mPure [])) [s0, s1, s2, .val (.int a), s4, s5, s6, .val (.int s), s8, s9, .val (.int (m : Nat)), s11, s12, .un] = some (.ok (rngL 0 (m : Nat)) [s0, s1, s2, .val (.int a), s4, s5, s6, .val (.int s), s8, s9, .val (.int (m : Nat)), s11, s12, .un]) := rng1_is (by simp [mSeq, mIf, mBol, mBin, mBinL, mBind, mLift, mPure, mPeek, mVar, ixD, iI, bolD, mAsg, mCall1, mCallN, intD, modD, iIc, cMod, mStore, mStoreO, mDone, gSet, mOwn, mPut, setD, mRet, mDrop, mStuck, mTru, truD, mOrT, mAndT, mNotT, mAnd, mOr, mNot, mIsi, isiT_eq, typD, lenD, mCons, mTup, mLst, mLstN, mVal, oOr, addD, subD, mulD, mulI, iIc, cMul, ltD, leD, gtD, geD, gTupD, gCons2, gsNil, mCallV, mCallB, mRs, tupleD, mRetF, mChain, mScr, mScrLen, mScrIx, mMut, appD, max2D, min2D, mRng1, mRng2, rngD1, rngD2, rngOk, mItems, itemsD, mAsgN, mParEE, mParEN, mUn, negD, mCallN1, listD, unsE, powD, cPow, divD, cDiv, mFor, mSl, mSlL, slD, mNoPart, mPart, intO, mSlN, mSlNL, slN, mRevN, revO, mParNC, andD, orD, xorD, shrD, shlD, cShr, mStepN, mStepNL, stepO, mCatN, mCatNL, catN]) (rngOk_le (by omega) (by omega))
  refine comp_is (vs := [13]) (ρe := [s0, s1, s2, .val (.int a), s4, s5, s6, .val (.int s), s8, s9, .val (.int (m : Nat)), s11, s12, .un]) hr (fit_of2 (by rw [rngL_length]; omega)) ?_
  rw [rngL_nat]
  unfold plL
  rw [List.map_map]
  refine go_mapA _ _ _ fun k hk => ?_
  have := List.mem_range.mp hk
  have f1 : (2 * s).natAbs < 100000 := by omega
  refine ⟨[s0, s1, s2, .val (.int a), s4, s5, s6, .val (.int s), s8, s9, .val (.int (m : Nat)), s11, s12, .val (.int (k : Nat))], [s0, s1, s2, .val (.int a), s4, s5, s6, .val (.int s), s8, s9, .val (.int (m : Nat)), s11, s12, .val (.int (k : Nat))], by simp [unsE, mStore], ?_, by simp [unsE]⟩
  have m1 : mulD (.int 2) (.int s) = some (.int (2 * s)) := mul_ok (by omega)
  have m2 : mulD (.int (2 * s)) (.int (k : Nat)) = some (.int (2 * s * (k : Nat))) := mul_ok (by omega)
  simp [mSeq, mIf, mBol, mBin, mBinL, mBind, mLift, mPure, mPeek, mVar, ixD, iI, bolD, mAsg, mCall1, mCallN, intD, modD, iIc, cMod, mStore, mStoreO, mDone, gSet, mOwn, mPut, setD, mRet, mDrop, mStuck, mTru, truD, mOrT, mAndT, mNotT, mAnd, mOr, mNot, mIsi, isiT_eq, typD, lenD, mCons, mTup, mLst, mLstN, mVal, oOr, addD, subD, mulI, iIc, cMul, ltD, leD, gtD, geD, gTupD, gCons2, gsNil, mCallV, mCallB, mRs, tupleD, mRetF, mChain, mScr, mScrLen, mScrIx, mMut, appD, max2D, min2D, mRng1, mRng2, rngD1, rngD2, rngOk, mItems, itemsD, mAsgN, mParEE, mParEN, mUn, negD, mCallN1, listD, unsE, powD, cPow, divD, cDiv, mFor, mSl, mSlL, slD, mNoPart, mPart, intO, mSlN, mSlNL, slN, mRevN, revO, mParNC, andD, orD, xorD, shrD, shlD, cShr, mStepN, mStepNL, stepO, mCatN, mCatNL, catN, m1, m2, fit]
theorem place_comp2 {s0 s1 s2 s4 s5 s6 s7 s8 s9 s10 s12 : Sl} {a : Int} {m : Nat} (hm : m ≤ 100) (ha : a.natAbs < 1000000) :
    C__law_twowire_2 [s0, s1, s2, .val (.int a), s4, s5, s6, s7, s8, s9, s10, .val (.int (m : Nat)), s12, .un] = some (.ok (plL a 1 m) [s0, s1, s2, .val (.int a), s4, s5, s6, s7, s8, s9, s10, .val (.int (m : Nat)), s12, .un]) := by
  have hr : mRng1 (mCons (mVar 11) (mPure [])) [s0, s1, s2, .val (.int a), s4, s5, s6, s7, s8, s9, s10, .val (.int (m : Nat)), s12, .un] = some (.ok (rngL 0 (m : Nat)) [s0, s1, s2, .val (.int a), s4, s5, s6, s7, s8, s9, s10, .val (.int (m : Nat)), s12, .un]) := rng1_is (by simp [mSeq, mIf, mBol, mBin, mBinL, mBind, mLift, mPure, mPeek, mVar, ixD, iI, bolD, mAsg, mCall1, mCallN, intD, modD, iIc, cMod, mStore, mStoreO, mDone, gSet, mOwn, mPut, setD, mRet, mDrop, mStuck, mTru, truD, mOrT, mAndT, mNotT, mAnd, mOr, mNot, mIsi, isiT_eq, typD, lenD, mCons, mTup, mLst, mLstN, mVal, oOr, addD, subD, mulD, mulI, iIc, cMul, ltD, leD, gtD, geD, gTupD, gCons2, gsNil, mCallV, mCallB, mRs, tupleD, mRetF, mChain, mScr, mScrLen, mScrIx, mMut, appD, max2D, min2D, mRng1, mRng2, rngD1, rngD2, rngOk, mItems, itemsD, mAsgN, mParEE, mParEN, mUn, negD, mCallN1, listD, unsE, powD, cPow, divD, cDiv, mFor, mSl, mSlL, slD, mNoPart, mPart, intO, mSlN, mSlNL, slN, mRevN, revO, mParNC, andD, orD, xorD, shrD, shlD, cShr, mStepN, mStepNL, stepO, mCatN, mCatNL, catN]) (rngOk_le (by omega) (by omega))
  refine comp_is (vs := [13]) (ρe := [s0, s1, s2, .val (.int a), s4, s5, s6, s7, s8, s9, s10, .val (.int (m : Nat)), s12, .un]) hr (fit_of2 (by rw [rngL_length]; omega)) ?_
  rw [rngL_nat]
  unfold plL
  rw [List.map_map]
  refine go_mapA _ _ _ fun k hk => ?_
  have := List.mem_range.mp hk
  refine ⟨[s0, s1, s2, .val (.int a), s4, s5, s6, s7, s8, s9, s10, .val (.int (m : Nat)), s12, .val (.int (k : Nat))], [s0, s1, s2, .val (.int a), s4, s5, s6, s7, s8, s9, s10, .val (.int (m : Nat)), s12, .val (.int (k : Nat))], by simp [unsE, mStore], ?_, by simp [unsE]⟩
  have m2 : mulD (.int 2) (.int (k : Nat)) = some (.int (2 * (k : Nat))) := mul_ok (by omega)
  simp [mSeq, mIf, mBol, mBin, mBinL, mBind, mLift, mPure, mPeek, mVar, ixD, iI, bolD, mAsg, mCall1, mCallN, intD, modD, iIc, cMod, mStore, mStoreO, mDone, gSet, mOwn, mPut, setD, mRet, mDrop, mStuck, mTru, truD, mOrT, mAndT, mNotT, mAnd, mOr, mNot, mIsi, isiT_eq, typD, lenD, mCons, mTup, mLst, mLstN, mVal, oOr, addD, subD, mulI, iIc, cMul, ltD, leD, gtD, geD, gTupD, gCons2, gsNil, mCallV, mCallB, mRs, tupleD, mRetF, mChain, mScr, mScrLen, mScrIx, mMut, appD, max2D, min2D, mRng1, mRng2, rngD1, rngD2, rngOk, mItems, itemsD, mAsgN, mParEE, mParEN, mUn, negD, mCallN1, listD, unsE, powD, cPow, divD, cDiv, mFor, mSl, mSlL, slD, mNoPart, mPart, intO, mSlN, mSlNL, slN, mRevN, revO, mParNC, andD, orD, xorD, shrD, shlD, cShr, mStepN, mStepNL, stepO, mCatN, mCatNL, catN, m2, fit]
theorem kd_ne_stop (k : Kd) : neD (kdD k) (.str "stop") = some (.bool (!decide (k = .stop))) := by cases k <;> first | exact ne_same _ | exact neT (by decide +kernel)

theorem pick3d {p q r : D} {i : Int} (h0 : 0 ≤ i) (h1 : i < 3) : ∃ m, atI [p, q, r] i = some m ∧ (m = p ∨ m = q ∨ m = r) := by
  obtain ⟨x, hd, e⟩ := ix_in (ds := [p, q, r]) h0 (by simpa using h1)
  simp only [List.mem_cons, List.not_mem_nil, or_false] at hd
  exact ⟨x, e, hd⟩
theorem kind_step {bs : List D} {op : Bool} {f : Int} {s1 s2 s3 s5 s7 s11 s12 : Sl} (hb : Bx bs) :
    ∃ (k : Kd) (w : D) (m : Nat) (op' : Bool) (bs' : List D), (mIf (mAndT (mTru (mPeek 4)) ((mBol (mBinL ltD 6 (mPure (.int 6)))))) (mPar3 8 9 10 (mBin ixD (mLst (mCons (mPure (.str "word")) (mCons (mPure (.str "word")) (mCons (mPure (.str "mute")) (mPure []))))) (mCallB 0 2 fn__law_take (mCons (mPure (.int 3)) (mPure [])))) (mCallB 0 2 fn__law_take (mCons (mPure (.int 256)) (mPure []))) (mPure (.int 9))) (mIf (mAndT (mTru (mPeek 4)) ((mBol (mBinL ltD 6 (mPure (.int 8)))))) (mAsg (mTup (mCons (mPure (.str "stop")) (mCons (mPure (.bool false)) (mPure [])))) (gTupD 2 (gCons2 (mStore 8) (gCons2 (mStore 4) gsNil)))) (mAsg (mPure (.bool true)) (mStore 4)))) [.io bs, s1, s2, s3, .val (.bool op), s5, .val (.int f), s7, .val (.str "start"), .val (.str ""), .val (.int 1), s11, s12, .un] = some (.ok .nx [.io bs', s1, s2, s3, .val (.bool op'), s5, .val (.int f), s7, .val (kdD k), .val w, .val (.int (m : Nat)), s11, s12, .un]) ∧ Bx bs' ∧ (m = 1 ∨ m = 9) ∧ (isSaid k = true → ∃ n, w = .int n ∧ 0 ≤ n ∧ n < 256) ∧ (isSaid k = false → w = .str "") := by
  cases op with
  | false =>
    refine ⟨.start, .str "", 1, true, bs, ?_, hb, .inl rfl, fun h => (by cases h), fun _ => rfl⟩
    simp [mSeq, mIf, mBol, mBin, mBinL, mBind, mLift, mPure, mPeek, mVar, ixD, iI, bolD, mAsg, mCall1, mCallN, intD, modD, iIc, cMod, mStore, mStoreO, mDone, gSet, mOwn, mPut, setD, mRet, mDrop, mStuck, mTru, truD, mOrT, mAndT, mNotT, mAnd, mOr, mNot, mIsi, isiT_eq, typD, lenD, mCons, mTup, mLst, mLstN, mVal, oOr, addD, subD, mulD, mulI, iIc, cMul, ltD, leD, gtD, geD, gTupD, gCons2, gsNil, mCallV, mCallB, mRs, tupleD, mRetF, mChain, mScr, mScrLen, mScrIx, mMut, appD, max2D, min2D, mRng1, mRng2, rngD1, rngD2, rngOk, mItems, itemsD, mAsgN, mParEE, mParEN, mUn, negD, mCallN1, listD, unsE, powD, cPow, divD, cDiv, mFor, mSl, mSlL, slD, mNoPart, mPart, intO, mSlN, mSlNL, slN, mRevN, revO, mParNC, andD, orD, xorD, shrD, shlD, cShr, mStepN, mStepNL, stepO, mCatN, mCatNL, catN, kdD]
  | true =>
    by_cases c : f < 6
    · obtain ⟨r, b1, e1, r0, r1, hb1⟩ := take_ok (m := 3) hb (by omega) (by omega)
      obtain ⟨d, e2, hd⟩ := pick3d (p := .str "word") (q := .str "word") (r := .str "mute") r0 r1
      obtain ⟨n, b2, e3, n0, n1, hb2⟩ := take_ok (m := 256) hb1 (by omega) (by omega)
      obtain ⟨k, hk, hs⟩ : ∃ k : Kd, d = kdD k ∧ isSaid k = true := by
        rcases hd with rfl | rfl | rfl
        · exact ⟨.word, rfl, rfl⟩
        · exact ⟨.word, rfl, rfl⟩
        · exact ⟨.mute, rfl, rfl⟩
      subst hk
      refine ⟨k, .int n, 9, true, b2, ?_, hb2, .inr rfl, fun _ => ⟨n, rfl, n0, n1⟩, fun h => (by rw [hs] at h; cases h)⟩
      simp [mSeq, mIf, mBol, mBin, mBinL, mBind, mLift, mPure, mPeek, mVar, ixD, iI, bolD, mAsg, mCall1, mCallN, intD, modD, iIc, cMod, mStore, mStoreO, mDone, gSet, mOwn, mPut, setD, mRet, mDrop, mStuck, mTru, truD, mOrT, mAndT, mNotT, mAnd, mOr, mNot, mIsi, isiT_eq, typD, lenD, mCons, mTup, mLst, mLstN, mVal, oOr, addD, subD, mulD, mulI, iIc, cMul, ltD, leD, gtD, geD, gTupD, gCons2, gsNil, mCallV, mCallB, mRs, tupleD, mRetF, mChain, mScr, mScrLen, mScrIx, mMut, appD, max2D, min2D, mRng1, mRng2, rngD1, rngD2, rngOk, mItems, itemsD, mAsgN, mParEE, mParEN, mUn, negD, mCallN1, listD, unsE, powD, cPow, divD, cDiv, mFor, mSl, mSlL, slD, mNoPart, mPart, intO, mSlN, mSlNL, slN, mRevN, revO, mParNC, andD, orD, xorD, shrD, shlD, cShr, mStepN, mStepNL, stepO, mCatN, mCatNL, catN, c, e1, e2, e3, mPar3, fit]
    · by_cases c2 : f < 8
      · refine ⟨.stop, .str "", 1, false, bs, ?_, hb, .inl rfl, fun h => (by cases h), fun _ => rfl⟩
        simp [mSeq, mIf, mBol, mBin, mBinL, mBind, mLift, mPure, mPeek, mVar, ixD, iI, bolD, mAsg, mCall1, mCallN, intD, modD, iIc, cMod, mStore, mStoreO, mDone, gSet, mOwn, mPut, setD, mRet, mDrop, mStuck, mTru, truD, mOrT, mAndT, mNotT, mAnd, mOr, mNot, mIsi, isiT_eq, typD, lenD, mCons, mTup, mLst, mLstN, mVal, oOr, addD, subD, mulD, mulI, iIc, cMul, ltD, leD, gtD, geD, gTupD, gCons2, gsNil, mCallV, mCallB, mRs, tupleD, mRetF, mChain, mScr, mScrLen, mScrIx, mMut, appD, max2D, min2D, mRng1, mRng2, rngD1, rngD2, rngOk, mItems, itemsD, mAsgN, mParEE, mParEN, mUn, negD, mCallN1, listD, unsE, powD, cPow, divD, cDiv, mFor, mSl, mSlL, slD, mNoPart, mPart, intO, mSlN, mSlNL, slN, mRevN, revO, mParNC, andD, orD, xorD, shrD, shlD, cShr, mStepN, mStepNL, stepO, mCatN, mCatNL, catN, kdD, c, c2, fit]
      · refine ⟨.start, .str "", 1, true, bs, ?_, hb, .inl rfl, fun h => (by cases h), fun _ => rfl⟩
        simp [mSeq, mIf, mBol, mBin, mBinL, mBind, mLift, mPure, mPeek, mVar, ixD, iI, bolD, mAsg, mCall1, mCallN, intD, modD, iIc, cMod, mStore, mStoreO, mDone, gSet, mOwn, mPut, setD, mRet, mDrop, mStuck, mTru, truD, mOrT, mAndT, mNotT, mAnd, mOr, mNot, mIsi, isiT_eq, typD, lenD, mCons, mTup, mLst, mLstN, mVal, oOr, addD, subD, mulD, mulI, iIc, cMul, ltD, leD, gtD, geD, gTupD, gCons2, gsNil, mCallV, mCallB, mRs, tupleD, mRetF, mChain, mScr, mScrLen, mScrIx, mMut, appD, max2D, min2D, mRng1, mRng2, rngD1, rngD2, rngOk, mItems, itemsD, mAsgN, mParEE, mParEN, mUn, negD, mCallN1, listD, unsE, powD, cPow, divD, cDiv, mFor, mSl, mSlL, slD, mNoPart, mPart, intO, mSlN, mSlNL, slN, mRevN, revO, mParNC, andD, orD, xorD, shrD, shlD, cShr, mStepN, mStepNL, stepO, mCatN, mCatNL, catN, kdD, c, c2]
theorem gw_new {k : Kd} {w : D} {a s : Int} {m : Nat} (n : Int) (ha0 : 0 ≤ a) (ha1 : a < 50000) (hs0 : 0 < s) (hs1 : s ≤ 4) (hm0 : 0 < m) (hm1 : m ≤ 9) (hn : isSaid k = true → 0 ≤ n ∧ n < 256) (hw : isSaid k = false → w = .str "" ∨ w = .str "bits" ∨ w = .str "end") :
    Gw ⟨k, w, n, a, a + 2 * s * ((m : Int) - 1) + 1, plL a s m⟩ := by
  have hb : ∀ j : Int, 0 ≤ j → j ≤ 8 → 0 ≤ 2 * s * j ∧ 2 * s * j ≤ 64 := fun j h0 h1 => by
    have h2 : 0 ≤ 2 * s := by omega
    have h3 : 2 * s * j ≤ 2 * s * 8 := Int.mul_le_mul_of_nonneg_left h1 h2
    have h4 : 0 ≤ 2 * s * j := Int.mul_nonneg h2 h0
    omega
  have h1 := hb ((m : Int) - 1) (by omega) (by omega)
  refine ⟨hn, hw, ⟨ha0, by show a < 100000; omega⟩, ⟨by show 0 ≤ a + 2 * s * ((m : Int) - 1) + 1; omega, by show a + 2 * s * ((m : Int) - 1) + 1 < 100000; omega⟩, (List.range m).map (fun k => a + 2 * s * (k : Nat)), rfl, by simpa using hm1, fun i hi => ?_⟩
  obtain ⟨j, hj, rfl⟩ := List.mem_map.mp hi
  have hj := List.mem_range.mp hj
  have := hb (j : Int) (by omega) (by omega)
  exact ⟨by omega, by omega⟩
/-- a word of drawn things is put behind the others -/
theorem put_step {bs : List D} {op : Bool} {xs : List Iw} {k : Kd} {w : D} {a s : Int} {m : Nat} {s1 s5 s6 s11 s12 : Sl} (hx : ∀ x ∈ xs, Gw x) (hl : xs.length ≤ 200) (ha0 : 0 ≤ a) (ha1 : a < 50000) (hs0 : 0 < s) (hs1 : s ≤ 4) (hm : m = 1 ∨ m = 9) (hn : isSaid k = true → ∃ n, w = .int n ∧ 0 ≤ n ∧ n < 256) (hw : isSaid k = false → w = .str "") :
    ∃ (y : Iw) (a' : Int) (s12' : Sl), (mSeq (mAsg (mCall1 tupleD (mVal C__law_twowire_1)) (mStore 12))
  (mSeq (mDrop (mMut 2 appD (mCons (mTup (mCons (mVar 8) (mCons (mVar 9) (mCons (mVar 3) (mCons (mBin addD (mBin ixD (mBinL ixD 12 (mBinL subD 10 (mPure (.int 1)))) (mPure (.int 1))) (mPure (.int 1))) (mCons (mVar 12) (mPure []))))))) (mPure []))))
  (mAsg (mBinL addD 3 (mBin mulD (mBin mulD (mPure (.int 2)) (mPeek 7)) (mPeek 10))) (mStore 3)))) [.io bs, s1, .own (xs.map iwD), .val (.int a), .val (.bool op), s5, s6, .val (.int s), .val (kdD k), .val w, .val (.int (m : Nat)), s11, s12, .un] = some (.ok .nx [.io bs, s1, .own ((xs ++ [y]).map iwD), .val (.int a'), .val (.bool op), s5, s6, .val (.int s), .val (kdD k), .val w, .val (.int (m : Nat)), s11, s12', .un]) ∧ Gw y ∧ a ≤ a' ∧ a' ≤ a + 72 := by
  obtain ⟨n, hn'⟩ : ∃ n : Int, isSaid k = true → w = .int n ∧ 0 ≤ n ∧ n < 256 := by
    cases hk : isSaid k with
    | true =>
      obtain ⟨n, h⟩ := hn hk
      exact ⟨n, fun _ => h⟩
    | false => exact ⟨0, fun h => by cases h⟩
  have hg := gw_new (k := k) (w := w) (a := a) (s := s) (m := m) n ha0 ha1 hs0 hs1 (by omega) (by omega) (fun h => (hn' h).2) (fun h => .inl (hw h))
  have hwd : whatW ⟨k, w, n, a, a + 2 * s * ((m : Int) - 1) + 1, plL a s m⟩ = w := by
    unfold whatW
    dsimp only
    split
    · rename_i h; exact (hn' h).1.symm
    · rfl
  have hit : iwD ⟨k, w, n, a, a + 2 * s * ((m : Int) - 1) + 1, plL a s m⟩ = .tuple [kdD k, w, .int a, .int (a + 2 * s * ((m : Int) - 1) + 1), .tuple (plL a s m)] := by
    unfold iwD
    rw [hwd]
  have hc := place_comp1 (s0 := .io bs) (s1 := s1) (s2 := .own (xs.map iwD)) (s4 := .val (.bool op)) (s5 := s5) (s6 := s6) (s8 := .val (kdD k)) (s9 := .val w) (s11 := s11) (s12 := s12) (a := a) (s := s) (m := m) (by omega) (by omega) (by omega)
  have hla := plL_last a s (m := m) (by omega)
  have t1 : ∀ o : List D, tupleD [.list o] = some (.tuple o) := fun _ => rfl
  have m1 : mulD (.int 2) (.int s) = some (.int (2 * s)) := mul_ok (by omega)
  have m2 : mulD (.int (2 * s)) (.int (m : Nat)) = some (.int (2 * s * (m : Nat))) := mul_ok (by omega)
  have z1 : ∀ p q : D, atI [p, q] 1 = some q := fun _ _ => rfl
  have hbd : 0 ≤ 2 * s * (m : Int) ∧ 2 * s * (m : Int) ≤ 72 := by
    have h2 : 0 ≤ 2 * s := by omega
    have h3 : 2 * s * (m : Int) ≤ 2 * s * 9 := Int.mul_le_mul_of_nonneg_left (by omega) h2
    have h4 : 0 ≤ 2 * s * (m : Int) := Int.mul_nonneg h2 (by omega)
    omega
  have hXl : (xs.map iwD).length ≤ 16000000 := by rw [List.length_map]; omega
  refine ⟨_, a + 2 * s * (m : Int), .val (.tuple (plL a s m)), ?_, hg, by omega, by omega⟩
  rw [List.map_append, List.map_singleton, hit]
  generalize plL a s m = PL at *
  generalize xs.map iwD = X at *
  generalize (m : Int) = M at *
  generalize kdD k = kd at *
  simp [mSeq, mIf, mBol, mBin, mBinL, mBind, mLift, mPure, mPeek, mVar, ixD, iI, bolD, mAsg, mCall1, mCallN, intD, modD, iIc, cMod, mStore, mStoreO, mDone, gSet, mOwn, mPut, setD, mRet, mDrop, mStuck, mTru, truD, mOrT, mAndT, mNotT, mAnd, mOr, mNot, mIsi, isiT_eq, typD, lenD, mCons, mTup, mLst, mLstN, mVal, oOr, addD, subD, mulI, iIc, cMul, ltD, leD, gtD, geD, gTupD, gCons2, gsNil, mCallV, mCallB, mRs, tupleD, mRetF, mChain, mScr, mScrLen, mScrIx, mMut, appD, max2D, min2D, mRng1, mRng2, rngD1, rngD2, rngOk, mItems, itemsD, mAsgN, mParEE, mParEN, mUn, negD, mCallN1, listD, unsE, powD, cPow, divD, cDiv, mFor, mSl, mSlL, slD, mNoPart, mPart, intO, mSlN, mSlNL, slN, mRevN, revO, mParNC, andD, orD, xorD, shrD, shlD, cShr, mStepN, mStepNL, stepO, mCatN, mCatNL, catN, hc, t1, hla, z1, m1, m2, fit, appD, hXl]

/-- a torn one ahead of it, perhaps -/
theorem torn_step {bs : List D} {op : Bool} {xs : List Iw} {a s : Int} {m : Nat} {s1 s5 s6 s8 s9 s11 s12 : Sl} (hb : Bx bs) (hx : ∀ x ∈ xs, Gw x) (hl : xs.length ≤ 200) (ha0 : 0 ≤ a) (ha1 : a < 50000) (hs0 : 0 < s) (hs1 : s ≤ 4) (hm : m = 1 ∨ m = 9) :
    ∃ (xs' : List Iw) (a' : Int) (bs' : List D) (s11' s12' : Sl), (mIf (mAndT (mBol (mBinL neD 2 (mLst (mPure [])))) (mAndT (mBol (mBin neD (mBin ixD (mBinL ixD 2 (mUn negD (mPure (.int 1)))) (mPure (.int 0))) (mPure (.str "stop")))) (mAndT (mBol (mBinL eqD 10 (mPure (.int 1)))) ((mBol (mBin eqD (mCallB 0 2 fn__law_take (mCons (mPure (.int 4)) (mPure []))) (mPure (.int 0)))))))) (mSeq (mAsg (mBin addD (mPure (.int 2)) (mCallB 0 2 fn__law_take (mCons (mPure (.int 7)) (mPure [])))) (mStore 11))
  (mSeq (mAsg (mCall1 tupleD (mVal C__law_twowire_0)) (mStore 12))
  (mSeq (mDrop (mMut 2 appD (mCons (mTup (mCons (mPure (.str "torn")) (mCons (mPure (.str "bits")) (mCons (mVar 3) (mCons (mBin addD (mBin ixD (mBinL ixD 12 (mBinL subD 11 (mPure (.int 1)))) (mPure (.int 1))) (mPure (.int 1))) (mCons (mVar 12) (mPure []))))))) (mPure []))))
  (mAsg (mBinL addD 3 (mBin mulD (mBin mulD (mPure (.int 2)) (mPeek 7)) (mPeek 11))) (mStore 3))))) (mPure .nx)) [.io bs, s1, .own (xs.map iwD), .val (.int a), .val (.bool op), s5, s6, .val (.int s), s8, s9, .val (.int (m : Nat)), s11, s12, .un] = some (.ok .nx [.io bs', s1, .own (xs'.map iwD), .val (.int a'), .val (.bool op), s5, s6, .val (.int s), s8, s9, .val (.int (m : Nat)), s11', s12', .un]) ∧ Bx bs' ∧ (∀ x ∈ xs', Gw x) ∧ xs'.length ≤ xs.length + 1 ∧ a ≤ a' ∧ a' ≤ a + 64 := by
  have hne := ne_items_nil (ys := xs) fun x h => gw_sh (hx x h)
  cases xs with
  | nil =>
    refine ⟨[], a, bs, s11, s12, ?_, hb, fun x h => (by cases h), Nat.zero_le _, Int.le_refl _, by omega⟩
    have hne' : neD (.list []) (.list []) = some (.bool false) := hne
    simp [mSeq, mIf, mBol, mBin, mBinL, mBind, mLift, mPure, mPeek, mVar, ixD, iI, bolD, mAsg, mCall1, mCallN, intD, modD, iIc, cMod, mStore, mStoreO, mDone, gSet, mOwn, mPut, setD, mRet, mDrop, mStuck, mTru, truD, mOrT, mAndT, mNotT, mAnd, mOr, mNot, mIsi, isiT_eq, typD, lenD, mCons, mTup, mLst, mLstN, mVal, oOr, addD, subD, mulD, mulI, iIc, cMul, ltD, leD, gtD, geD, gTupD, gCons2, gsNil, mCallV, mCallB, mRs, tupleD, mRetF, mChain, mScr, mScrLen, mScrIx, mMut, appD, max2D, min2D, mRng1, mRng2, rngD1, rngD2, rngOk, mItems, itemsD, mAsgN, mParEE, mParEN, mUn, negD, mCallN1, listD, unsE, powD, cPow, divD, cDiv, mFor, mSl, mSlL, slD, mNoPart, mPart, intO, mSlN, mSlNL, slN, mRevN, revO, mParNC, andD, orD, xorD, shrD, shlD, cShr, mStepN, mStepNL, stepO, mCatN, mCatNL, catN, hne', fit]
  | cons y ys =>
    have hne' : neD (.list ((y :: ys).map iwD)) (.list []) = some (.bool true) := hne
    obtain ⟨zs, z, hz⟩ : ∃ (zs : List Iw) (z : Iw), y :: ys = zs ++ [z] := ⟨(y :: ys).dropLast, (y :: ys).getLast (by simp), (List.dropLast_concat_getLast (by simp)).symm⟩
    rw [hz] at hne' hx hl ⊢
    clear hne
    have hlast : atI ((zs ++ [z]).map iwD) (-1) = some (iwD z) := by
      rw [List.map_append]
      exact atI_last _ _
    have hit : iwD z = .tuple [kdD z.k, whatW z, .int z.b, .int z.e, .tuple z.pl] := rfl
    rw [hit] at hlast
    have z0 : ∀ p q r s t : D, atI [p, q, r, s, t] 0 = some p := fun _ _ _ _ _ => rfl
    have z1 : ∀ p q : D, atI [p, q] 1 = some q := fun _ _ => rfl
    have hk := kd_ne_stop z.k
    have stay : ∀ bs', Bx bs' → ∃ (xs' : List Iw) (a' : Int) (bs2 : List D) (s11' s12' : Sl), (some (R.ok Fl.nx [.io bs', s1, .own ((zs ++ [z]).map iwD), .val (.int a), .val (.bool op), s5, s6, .val (.int s), s8, s9, .val (.int (m : Nat)), s11, s12, .un])) = some (.ok .nx [.io bs2, s1, .own (xs'.map iwD), .val (.int a'), .val (.bool op), s5, s6, .val (.int s), s8, s9, .val (.int (m : Nat)), s11', s12', .un]) ∧ Bx bs2 ∧ (∀ x ∈ xs', Gw x) ∧ xs'.length ≤ (zs ++ [z]).length + 1 ∧ a ≤ a' ∧ a' ≤ a + 64 := fun bs' hb' => ⟨zs ++ [z], a, bs', s11, s12, rfl, hb', hx, Nat.le_succ _, Int.le_refl _, by omega⟩
    by_cases c : z.k = .stop
    · rw [c] at hk hlast
      have hk' : neD (kdD .stop) (.str "stop") = some (.bool false) := hk
      obtain ⟨xs', a', bs2, t11, t12, e, r⟩ := stay bs hb
      refine ⟨xs', a', bs2, t11, t12, ?_, r⟩
      rw [← e]
      generalize (zs ++ [z]).map iwD = X at *
      simp [mSeq, mIf, mBol, mBin, mBinL, mBind, mLift, mPure, mPeek, mVar, ixD, iI, bolD, mAsg, mCall1, mCallN, intD, modD, iIc, cMod, mStore, mStoreO, mDone, gSet, mOwn, mPut, setD, mRet, mDrop, mStuck, mTru, truD, mOrT, mAndT, mNotT, mAnd, mOr, mNot, mIsi, isiT_eq, typD, lenD, mCons, mTup, mLst, mLstN, mVal, oOr, addD, subD, mulD, mulI, iIc, cMul, ltD, leD, gtD, geD, gTupD, gCons2, gsNil, mCallV, mCallB, mRs, tupleD, mRetF, mChain, mScr, mScrLen, mScrIx, mMut, appD, max2D, min2D, mRng1, mRng2, rngD1, rngD2, rngOk, mItems, itemsD, mAsgN, mParEE, mParEN, mUn, negD, mCallN1, listD, unsE, powD, cPow, divD, cDiv, mFor, mSl, mSlL, slD, mNoPart, mPart, intO, mSlN, mSlNL, slN, mRevN, revO, mParNC, andD, orD, xorD, shrD, shlD, cShr, mStepN, mStepNL, stepO, mCatN, mCatNL, catN, hne', fit, hlast, z0, hk', negD]
    · rw [decide_eq_false c] at hk
      rcases hm with rfl | rfl
      · obtain ⟨t, b1, e1, t0, t1, hb1⟩ := take_ok (m := 4) hb (by omega) (by omega)
        by_cases c2 : t = 0
        · subst c2
          obtain ⟨r, b2, e2, r0, r1, hb2⟩ := take_ok (m := 7) hb1 (by omega) (by omega)
          obtain ⟨q, hq⟩ : ∃ q : Nat, 2 + r = (q : Int) := ⟨(2 + r).toNat, by omega⟩
          have hq2 : 2 ≤ q ∧ q ≤ 8 := by omega
          have hg := gw_new (k := .torn) (w := .str "bits") (a := a) (s := s) (m := q) 0 ha0 ha1 hs0 hs1 (by omega) (by omega) (fun h => by cases h) (fun _ => .inr (.inl rfl))
          have hc := place_comp0 (s0 := .io b2) (s1 := s1) (s2 := .own ((zs ++ [z]).map iwD)) (s4 := .val (.bool op)) (s5 := s5) (s6 := s6) (s8 := s8) (s9 := s9) (s10 := .val (.int (1 : Nat))) (s12 := s12) (a := a) (s := s) (m := q) (by omega) (by omega) (by omega)
          have hla := plL_last a s (m := q) (by omega)
          have t1' : ∀ o : List D, tupleD [.list o] = some (.tuple o) := fun _ => rfl
          have m1 : mulD (.int 2) (.int s) = some (.int (2 * s)) := mul_ok (by omega)
          have m2 : mulD (.int (2 * s)) (.int (q : Nat)) = some (.int (2 * s * (q : Nat))) := mul_ok (by omega)
          have hbd : 0 ≤ 2 * s * (q : Int) ∧ 2 * s * (q : Int) ≤ 64 := by
            have h2 : 0 ≤ 2 * s := by omega
            have h3 : 2 * s * (q : Int) ≤ 2 * s * 8 := Int.mul_le_mul_of_nonneg_left (by omega) h2
            have h4 : 0 ≤ 2 * s * (q : Int) := Int.mul_nonneg h2 (by omega)
            omega
          have hXl : ((zs ++ [z]).map iwD).length ≤ 16000000 := by rw [List.length_map]; omega
          have hit2 : iwD ⟨.torn, .str "bits", 0, a, a + 2 * s * ((q : Int) - 1) + 1, plL a s q⟩ = .tuple [.str "torn", .str "bits", .int a, .int (a + 2 * s * ((q : Int) - 1) + 1), .tuple (plL a s q)] := rfl
          refine ⟨zs ++ [z] ++ [⟨.torn, .str "bits", 0, a, a + 2 * s * ((q : Int) - 1) + 1, plL a s q⟩], a + 2 * s * (q : Int), b2, .val (.int (q : Nat)), .val (.tuple (plL a s q)), ?_, hb2, fun x h => ?_, by rw [List.length_append]; exact Nat.le_refl _, by omega, by omega⟩
          · rw [List.map_append (l₁ := zs ++ [z]), List.map_singleton, hit2]
            generalize plL a s q = PL at *
            generalize (zs ++ [z]).map iwD = X at *
            generalize (q : Int) = Q at *
            have hc' : C__law_twowire_0 [.io b2, s1, .own X, .val (.int a), .val (.bool op), s5, s6, .val (.int s), s8, s9, .val (.int 1), .val (.int Q), s12, .un] = some (.ok PL [.io b2, s1, .own X, .val (.int a), .val (.bool op), s5, s6, .val (.int s), s8, s9, .val (.int 1), .val (.int Q), s12, .un]) := hc
            simp [mSeq, mIf, mBol, mBin, mBinL, mBind, mLift, mPure, mPeek, mVar, ixD, iI, bolD, mAsg, mCall1, mCallN, intD, modD, iIc, cMod, mStore, mStoreO, mDone, gSet, mOwn, mPut, setD, mRet, mDrop, mStuck, mTru, truD, mOrT, mAndT, mNotT, mAnd, mOr, mNot, mIsi, isiT_eq, typD, lenD, mCons, mTup, mLst, mLstN, mVal, oOr, addD, subD, mulI, iIc, cMul, ltD, leD, gtD, geD, gTupD, gCons2, gsNil, mCallV, mCallB, mRs, tupleD, mRetF, mChain, mScr, mScrLen, mScrIx, mMut, appD, max2D, min2D, mRng1, mRng2, rngD1, rngD2, rngOk, mItems, itemsD, mAsgN, mParEE, mParEN, mUn, negD, mCallN1, listD, unsE, powD, cPow, divD, cDiv, mFor, mSl, mSlL, slD, mNoPart, mPart, intO, mSlN, mSlNL, slN, mRevN, revO, mParNC, andD, orD, xorD, shrD, shlD, cShr, mStepN, mStepNL, stepO, mCatN, mCatNL, catN, hne', fit, hlast, z0, hk, negD, eq_int, e1, e2, hq, hc', t1', hla, z1, m1, m2, appD, hXl]
          · rcases List.mem_append.mp h with h | h
            · exact hx x h
            · rw [List.mem_singleton.mp h]; exact hg
        · obtain ⟨xs', a', bs2, t11, t12, e, r⟩ := stay b1 hb1
          refine ⟨xs', a', bs2, t11, t12, ?_, r⟩
          rw [← e]
          generalize (zs ++ [z]).map iwD = X at *
          simp [mSeq, mIf, mBol, mBin, mBinL, mBind, mLift, mPure, mPeek, mVar, ixD, iI, bolD, mAsg, mCall1, mCallN, intD, modD, iIc, cMod, mStore, mStoreO, mDone, gSet, mOwn, mPut, setD, mRet, mDrop, mStuck, mTru, truD, mOrT, mAndT, mNotT, mAnd, mOr, mNot, mIsi, isiT_eq, typD, lenD, mCons, mTup, mLst, mLstN, mVal, oOr, addD, subD, mulD, mulI, iIc, cMul, ltD, leD, gtD, geD, gTupD, gCons2, gsNil, mCallV, mCallB, mRs, tupleD, mRetF, mChain, mScr, mScrLen, mScrIx, mMut, appD, max2D, min2D, mRng1, mRng2, rngD1, rngD2, rngOk, mItems, itemsD, mAsgN, mParEE, mParEN, mUn, negD, mCallN1, listD, unsE, powD, cPow, divD, cDiv, mFor, mSl, mSlL, slD, mNoPart, mPart, intO, mSlN, mSlNL, slN, mRevN, revO, mParNC, andD, orD, xorD, shrD, shlD, cShr, mStepN, mStepNL, stepO, mCatN, mCatNL, catN, hne', fit, hlast, z0, hk, negD, eq_int, e1, c2]
      · obtain ⟨xs', a', bs2, t11, t12, e, r⟩ := stay bs hb
        refine ⟨xs', a', bs2, t11, t12, ?_, r⟩
        rw [← e]
        generalize (zs ++ [z]).map iwD = X at *
        simp [mSeq, mIf, mBol, mBin, mBinL, mBind, mLift, mPure, mPeek, mVar, ixD, iI, bolD, mAsg, mCall1, mCallN, intD, modD, iIc, cMod, mStore, mStoreO, mDone, gSet, mOwn, mPut, setD, mRet, mDrop, mStuck, mTru, truD, mOrT, mAndT, mNotT, mAnd, mOr, mNot, mIsi, isiT_eq, typD, lenD, mCons, mTup, mLst, mLstN, mVal, oOr, addD, subD, mulD, mulI, iIc, cMul, ltD, leD, gtD, geD, gTupD, gCons2, gsNil, mCallV, mCallB, mRs, tupleD, mRetF, mChain, mScr, mScrLen, mScrIx, mMut, appD, max2D, min2D, mRng1, mRng2, rngD1, rngD2, rngOk, mItems, itemsD, mAsgN, mParEE, mParEN, mUn, negD, mCallN1, listD, unsE, powD, cPow, divD, cDiv, mFor, mSl, mSlL, slD, mNoPart, mPart, intO, mSlN, mSlNL, slN, mRevN, revO, mParNC, andD, orD, xorD, shrD, shlD, cShr, mStepN, mStepNL, stepO, mCatN, mCatNL, catN, hne', fit, hlast, z0, hk, negD, eq_int]

theorem wire_turn {bs : List D} {op : Bool} {xs : List Iw} {a : Int} {s1 s5 s6 s7 s8 s9 s10 s11 s12 : Sl} (hb : Bx bs) (hx : ∀ x ∈ xs, Gw x) (hl : xs.length ≤ 150) (ha0 : 0 ≤ a) (ha1 : a < 40000) :
    ∃ (xs' : List Iw) (a' : Int) (op' : Bool) (bs' : List D) (t6 t7 t8 t9 t10 t11 t12 : Sl), L__law_twowire_0 [.io bs, s1, .own (xs.map iwD), .val (.int a), .val (.bool op), s5, s6, s7, s8, s9, s10, s11, s12, .un] = some (.ok .nx [.io bs', s1, .own (xs'.map iwD), .val (.int a'), .val (.bool op'), s5, t6, t7, t8, t9, t10, t11, t12, .un]) ∧ Bx bs' ∧ (∀ x ∈ xs', Gw x) ∧ xs'.length ≤ xs.length + 2 ∧ 0 ≤ a' ∧ a' ≤ a + 136 := by
  obtain ⟨f, b1, e1, f0, f1, hb1⟩ := take_ok (m := 10) hb (by omega) (by omega)
  obtain ⟨r, b2, e2, r0, r1, hb2⟩ := take_ok (m := 3) hb1 (by omega) (by omega)
  obtain ⟨k, w, m, op', b3, e3, hb3, hm, hn, hw⟩ := kind_step (op := op) (f := f) (s1 := s1) (s2 := .own (xs.map iwD)) (s3 := .val (.int a)) (s5 := s5) (s7 := .val (.int (2 + r))) (s11 := s11) (s12 := s12) hb2
  obtain ⟨xs1, a1, b4, t11, t12, e4, hb4, hx1, hl1, h1, h2⟩ := torn_step (op := op') (xs := xs) (a := a) (s := 2 + r) (m := m) (s1 := s1) (s5 := s5) (s6 := .val (.int f)) (s8 := .val (kdD k)) (s9 := .val w) (s11 := s11) (s12 := s12) hb3 hx (by omega) ha0 (by omega) (by omega) (by omega) hm
  obtain ⟨y, a2, t12', e5, hy, h3, h4⟩ := put_step (bs := b4) (op := op') (xs := xs1) (k := k) (w := w) (a := a1) (s := 2 + r) (m := m) (s1 := s1) (s5 := s5) (s6 := .val (.int f)) (s11 := t11) (s12 := t12) hx1 (by omega) (by omega) (by omega) (by omega) (by omega) hm hn hw
  refine ⟨xs1 ++ [y], a2, op', b4, .val (.int f), .val (.int (2 + r)), .val (kdD k), .val w, .val (.int (m : Nat)), t11, t12', ?_, hb4, fun x h => ?_, by rw [List.length_append, List.length_singleton]; omega, by omega, by omega⟩
  · refine (seq_nx (ρ' := [.io b1, s1, .own (xs.map iwD), .val (.int a), .val (.bool op), s5, .val (.int f), s7, s8, s9, s10, s11, s12, .un]) ?_).trans ?_
    · generalize xs.map iwD = X
      simp [mSeq, mIf, mBol, mBin, mBinL, mBind, mLift, mPure, mPeek, mVar, ixD, iI, bolD, mAsg, mCall1, mCallN, intD, modD, iIc, cMod, mStore, mStoreO, mDone, gSet, mOwn, mPut, setD, mRet, mDrop, mStuck, mTru, truD, mOrT, mAndT, mNotT, mAnd, mOr, mNot, mIsi, isiT_eq, typD, lenD, mCons, mTup, mLst, mLstN, mVal, oOr, addD, subD, mulD, mulI, iIc, cMul, ltD, leD, gtD, geD, gTupD, gCons2, gsNil, mCallV, mCallB, mRs, tupleD, mRetF, mChain, mScr, mScrLen, mScrIx, mMut, appD, max2D, min2D, mRng1, mRng2, rngD1, rngD2, rngOk, mItems, itemsD, mAsgN, mParEE, mParEN, mUn, negD, mCallN1, listD, unsE, powD, cPow, divD, cDiv, mFor, mSl, mSlL, slD, mNoPart, mPart, intO, mSlN, mSlNL, slN, mRevN, revO, mParNC, andD, orD, xorD, shrD, shlD, cShr, mStepN, mStepNL, stepO, mCatN, mCatNL, catN, e1]
    refine (seq_nx (ρ' := [.io b2, s1, .own (xs.map iwD), .val (.int a), .val (.bool op), s5, .val (.int f), .val (.int (2 + r)), .val (.str "start"), .val (.str ""), .val (.int 1), s11, s12, .un]) ?_).trans ?_
    · generalize xs.map iwD = X
      simp [mSeq, mIf, mBol, mBin, mBinL, mBind, mLift, mPure, mPeek, mVar, ixD, iI, bolD, mAsg, mCall1, mCallN, intD, modD, iIc, cMod, mStore, mStoreO, mDone, gSet, mOwn, mPut, setD, mRet, mDrop, mStuck, mTru, truD, mOrT, mAndT, mNotT, mAnd, mOr, mNot, mIsi, isiT_eq, typD, lenD, mCons, mTup, mLst, mLstN, mVal, oOr, addD, subD, mulD, mulI, iIc, cMul, ltD, leD, gtD, geD, gTupD, gCons2, gsNil, mCallV, mCallB, mRs, tupleD, mRetF, mChain, mScr, mScrLen, mScrIx, mMut, appD, max2D, min2D, mRng1, mRng2, rngD1, rngD2, rngOk, mItems, itemsD, mAsgN, mParEE, mParEN, mUn, negD, mCallN1, listD, unsE, powD, cPow, divD, cDiv, mFor, mSl, mSlL, slD, mNoPart, mPart, intO, mSlN, mSlNL, slN, mRevN, revO, mParNC, andD, orD, xorD, shrD, shlD, cShr, mStepN, mStepNL, stepO, mCatN, mCatNL, catN, e2, fit]
    exact (seq_nx e3).trans ((seq_nx e4).trans e5)
  · rcases List.mem_append.mp h with h | h
    · exact hx1 x h
    · rw [List.mem_singleton.mp h]; exact hy
theorem wire_ok {bs : List D} {B : Int} (hb : Bx bs) (B0 : 0 ≤ B) (B1 : B ≤ 40) : ∃ (xs : List Iw) (bs' : List D), fn__law_twowire bs [.int B] = some (.ok (.list (xs.map iwD)), bs') ∧ Bx bs' ∧ (∀ x ∈ xs, Gw x) ∧ xs.length ≤ 90 := by
  obtain ⟨r, b1, e1, r0, r1, hb1⟩ := take_ok (m := 9) hb (by omega) (by omega)
  obtain ⟨n, b2, e2, n0, n1, hb2⟩ := take_ok (m := B + 1) hb1 (by omega) (by omega)
  have hr : mRng1 (mCons (mCallB 0 2 fn__law_take (mCons (mBinL addD 1 (mPure (.int 1))) (mPure []))) (mPure [])) [.io b1, .val (.int B), .own [], .val (.int (1 + r)), .val (.bool false), .un, .un, .un, .un, .un, .un, .un, .un, .un] = some (.ok (rngL 0 n) [.io b2, .val (.int B), .own [], .val (.int (1 + r)), .val (.bool false), .un, .un, .un, .un, .un, .un, .un, .un, .un]) := by
    refine rng1_is ?_ (rngOk_le (by omega) (by omega))
    simp [mSeq, mIf, mBol, mBin, mBinL, mBind, mLift, mPure, mPeek, mVar, ixD, iI, bolD, mAsg, mCall1, mCallN, intD, modD, iIc, cMod, mStore, mStoreO, mDone, gSet, mOwn, mPut, setD, mRet, mDrop, mStuck, mTru, truD, mOrT, mAndT, mNotT, mAnd, mOr, mNot, mIsi, isiT_eq, typD, lenD, mCons, mTup, mLst, mLstN, mVal, oOr, addD, subD, mulD, mulI, iIc, cMul, ltD, leD, gtD, geD, gTupD, gCons2, gsNil, mCallV, mCallB, mRs, tupleD, mRetF, mChain, mScr, mScrLen, mScrIx, mMut, appD, max2D, min2D, mRng1, mRng2, rngD1, rngD2, rngOk, mItems, itemsD, mAsgN, mParEE, mParEN, mUn, negD, mCallN1, listD, unsE, powD, cPow, divD, cDiv, mFor, mSl, mSlL, slD, mNoPart, mPart, intO, mSlN, mSlNL, slN, mRevN, revO, mParNC, andD, orD, xorD, shrD, shlD, cShr, mStepN, mStepNL, stepO, mCatN, mCatNL, catN, e2]
  obtain ⟨ρ', h2, b3, xs, a, op, s5, s6, s7, s8, s9, s10, s11, s12, rfl, hb3, hx, hl, ha0, ha1⟩ := forL_ix (g := mStore 5) (body := L__law_twowire_0) (fun i ρ => ∃ (bs : List D) (xs : List Iw) (a : Int) (op : Bool) (s5 s6 s7 s8 s9 s10 s11 s12 : Sl), ρ = [.io bs, .val (.int B), .own (xs.map iwD), .val (.int a), .val (.bool op), s5, s6, s7, s8, s9, s10, s11, s12, .un] ∧ Bx bs ∧ (∀ x ∈ xs, Gw x) ∧ xs.length ≤ 2 * i ∧ 0 ≤ a ∧ a ≤ 10 + 136 * (i : Int)) (rngL 0 n) 0 [.io b2, .val (.int B), .own [], .val (.int (1 + r)), .val (.bool false), .un, .un, .un, .un, .un, .un, .un, .un, .un] ⟨b2, [], 1 + r, false, .un, .un, .un, .un, .un, .un, .un, .un, rfl, hb2, fun x h => (by cases h), Nat.zero_le _, by omega, by omega⟩ (by
    rintro j d ρ hd ⟨bs, xs, a, op, s5, s6, s7, s8, s9, s10, s11, s12, rfl, hb, hx, hl, ha0, ha1⟩
    rw [Nat.zero_add] at hl ha1 ⊢
    obtain ⟨rfl, hj⟩ := rngL_get hd
    obtain ⟨xs', a', op', bs', t6, t7, t8, t9, t10, t11, t12, q, hb', hx', hl', h0, h1⟩ := wire_turn (op := op) (s1 := .val (.int B)) (s5 := .val (.int (0 + (j : Nat)))) (s6 := s6) (s7 := s7) (s8 := s8) (s9 := s9) (s10 := s10) (s11 := s11) (s12 := s12) hb hx (by omega) ha0 (by omega)
    exact ⟨_, _, by simp [mStore], Or.inl q, bs', xs', a', op', _, _, _, _, _, _, _, _, rfl, hb', hx', by omega, h0, by omega⟩)
  rw [rngL_length, Nat.zero_add] at hl ha1
  have hR : R__law_twowire_0 [.io b1, .val (.int B), .own [], .val (.int (1 + r)), .val (.bool false), .un, .un, .un, .un, .un, .un, .un, .un, .un] = some (.ok .nx [.io b3, .val (.int B), .own (xs.map iwD), .val (.int a), .val (.bool op), s5, s6, s7, s8, s9, s10, s11, s12, .un]) := by
    unfold R__law_twowire_0 mFor
    rw [bind_is hr]
    exact h2
  have hpre : ∀ {α : Type}, True := fun {α} => trivial
  cases op with
  | false =>
    refine ⟨xs, b3, ?_, hb3, hx, by omega⟩
    clear h2 hr
    generalize xs.map iwD = X at *
    simp [fn__law_twowire, runB, m__law_twowire, env0B, mSeq, mIf, mBol, mBin, mBinL, mBind, mLift, mPure, mPeek, mVar, ixD, iI, bolD, mAsg, mCall1, mCallN, intD, modD, iIc, cMod, mStore, mStoreO, mDone, gSet, mOwn, mPut, setD, mRet, mDrop, mStuck, mTru, truD, mOrT, mAndT, mNotT, mAnd, mOr, mNot, mIsi, isiT_eq, typD, lenD, mCons, mTup, mLst, mLstN, mVal, oOr, addD, subD, mulD, mulI, iIc, cMul, ltD, leD, gtD, geD, gTupD, gCons2, gsNil, mCallV, mCallB, mRs, tupleD, mRetF, mChain, mScr, mScrLen, mScrIx, mMut, appD, max2D, min2D, mRng1, mRng2, rngD1, rngD2, rngOk, mItems, itemsD, mAsgN, mParEE, mParEN, mUn, negD, mCallN1, listD, unsE, powD, cPow, divD, cDiv, mFor, mSl, mSlL, slD, mNoPart, mPart, intO, mSlN, mSlNL, slN, mRevN, revO, mParNC, andD, orD, xorD, shrD, shlD, cShr, mStepN, mStepNL, stepO, mCatN, mCatNL, catN, mParL, e1, hR, fit]
  | true =>
    obtain ⟨t, b4, e4, t0, t1, hb4⟩ := take_ok (m := 3) hb3 (by omega) (by omega)
    by_cases c : t = 0
    · subst c
      obtain ⟨v, b5, e5, v0, v1, hb5⟩ := take_ok (m := 8) hb4 (by omega) (by omega)
      obtain ⟨q, hq⟩ : ∃ q : Nat, 1 + v = (q : Int) := ⟨(1 + v).toNat, by omega⟩
      have hg := gw_new (k := .torn) (w := .str "end") (a := a) (s := 1) (m := q) 0 ha0 (by omega) (by omega) (by omega) (by omega) (by omega) (fun h => by cases h) (fun _ => .inr (.inr rfl))
      have hc := place_comp2 (s0 := .io b5) (s1 := .val (.int B)) (s2 := .own (xs.map iwD)) (s4 := .val (.bool true)) (s5 := s5) (s6 := s6) (s7 := s7) (s8 := s8) (s9 := s9) (s10 := s10) (s12 := s12) (a := a) (m := q) (by omega) (by omega)
      have hla := plL_last a 1 (m := q) (by omega)
      have t1' : ∀ o : List D, tupleD [.list o] = some (.tuple o) := fun _ => rfl
      have z1 : ∀ p q : D, atI [p, q] 1 = some q := fun _ _ => rfl
      have hXl : (xs.map iwD).length ≤ 16000000 := by rw [List.length_map]; omega
      have hit2 : iwD ⟨.torn, .str "end", 0, a, a + 2 * 1 * ((q : Int) - 1) + 1, plL a 1 q⟩ = .tuple [.str "torn", .str "end", .int a, .int (a + 2 * 1 * ((q : Int) - 1) + 1), .tuple (plL a 1 q)] := rfl
      refine ⟨xs ++ [⟨.torn, .str "end", 0, a, a + 2 * 1 * ((q : Int) - 1) + 1, plL a 1 q⟩], b5, ?_, hb5, fun x h => ?_, by rw [List.length_append, List.length_singleton]; omega⟩
      · rw [List.map_append, List.map_singleton, hit2]
        clear h2 hr hit2
        generalize plL a 1 q = PL at *
        generalize xs.map iwD = X at *
        generalize (q : Int) = Q at *
        simp [fn__law_twowire, runB, m__law_twowire, env0B, mSeq, mIf, mBol, mBin, mBinL, mBind, mLift, mPure, mPeek, mVar, ixD, iI, bolD, mAsg, mCall1, mCallN, intD, modD, iIc, cMod, mStore, mStoreO, mDone, gSet, mOwn, mPut, setD, mRet, mDrop, mStuck, mTru, truD, mOrT, mAndT, mNotT, mAnd, mOr, mNot, mIsi, isiT_eq, typD, lenD, mCons, mTup, mLst, mLstN, mVal, oOr, addD, subD, mulD, mulI, iIc, cMul, ltD, leD, gtD, geD, gTupD, gCons2, gsNil, mCallV, mCallB, mRs, tupleD, mRetF, mChain, mScr, mScrLen, mScrIx, mMut, appD, max2D, min2D, mRng1, mRng2, rngD1, rngD2, rngOk, mItems, itemsD, mAsgN, mParEE, mParEN, mUn, negD, mCallN1, listD, unsE, powD, cPow, divD, cDiv, mFor, mSl, mSlL, slD, mNoPart, mPart, intO, mSlN, mSlNL, slN, mRevN, revO, mParNC, andD, orD, xorD, shrD, shlD, cShr, mStepN, mStepNL, stepO, mCatN, mCatNL, catN, mParL, e1, hR, fit, e4, e5, hq, hc, t1', hla, z1, appD, hXl, eq_int]
      · rcases List.mem_append.mp h with h | h
        · exact hx x h
        · rw [List.mem_singleton.mp h]; exact hg
    · refine ⟨xs, b4, ?_, hb4, hx, by omega⟩
      clear h2 hr
      generalize xs.map iwD = X at *
      simp [fn__law_twowire, runB, m__law_twowire, env0B, mSeq, mIf, mBol, mBin, mBinL, mBind, mLift, mPure, mPeek, mVar, ixD, iI, bolD, mAsg, mCall1, mCallN, intD, modD, iIc, cMod, mStore, mStoreO, mDone, gSet, mOwn, mPut, setD, mRet, mDrop, mStuck, mTru, truD, mOrT, mAndT, mNotT, mAnd, mOr, mNot, mIsi, isiT_eq, typD, lenD, mCons, mTup, mLst, mLstN, mVal, oOr, addD, subD, mulD, mulI, iIc, cMul, ltD, leD, gtD, geD, gTupD, gCons2, gsNil, mCallV, mCallB, mRs, tupleD, mRetF, mChain, mScr, mScrLen, mScrIx, mMut, appD, max2D, min2D, mRng1, mRng2, rngD1, rngD2, rngOk, mItems, itemsD, mAsgN, mParEE, mParEN, mUn, negD, mCallN1, listD, unsE, powD, cPow, divD, cDiv, mFor, mSl, mSlL, slD, mNoPart, mPart, intO, mSlN, mSlNL, slN, mRevN, revO, mParNC, andD, orD, xorD, shrD, shlD, cShr, mStepN, mStepNL, stepO, mCatN, mCatNL, catN, mParL, e1, hR, fit, e4, c, eq_int]

/-! ### what is told is alike -/
theorem alk_mono {n : Nat} {d : D} (h : Alk n d) : Alk (n + 1) d := by
  induction h with
  | int n i => exact .int _ i
  | bool n b => exact .bool _ b
  | str n s => exact .str _ s
  | tup n ds hl _ ih => exact .tup _ ds hl ih
  | lst n ds hl _ ih => exact .lst _ ds hl ih
theorem alk_rng (a b : Nat) (h : b ≤ 1000) : Alk 1 (.tuple (rngL (a : Nat) (b : Nat))) := .tup 0 _ (by rw [rngL_length]; omega) fun d hd => by
  obtain ⟨i, rfl, _⟩ := rngL_mem hd
  exact .int _ _
theorem alk_told {inner : List Iw} {done : Bool} (hl : inner.length ≤ 1000) : ∀ d ∈ toldW inner done, Alk 2 d := by
  intro d hd
  unfold toldW at hd
  split at hd
  · simp only [List.mem_cons, List.not_mem_nil, or_false] at hd
    rcases hd with rfl | rfl <;> exact .str _ _
  · split at hd
    · simp only [List.mem_cons, List.not_mem_nil, or_false] at hd
      rcases hd with rfl | rfl <;> exact .str _ _
    · have hfl := List.length_filter_le (fun x : Iw => isSaid x.k) inner
      generalize inner.filter (fun x => isSaid x.k) = ys at *
      cases ys with
      | nil =>
        have hd : d ∈ [PyData.str "empty", .str ""] := hd
        simp only [List.mem_cons, List.not_mem_nil, or_false] at hd
        rcases hd with rfl | rfl <;> exact .str _ _
      | cons x r =>
        have hd : d ∈ [PyData.str "call", .tuple [.int (x.n / 2), .str (if x.n % 2 = 1 then "read" else "write"), .tuple (r.map fun y => .int y.n), .bool (decide (x.k = .word))]] := hd
        simp only [List.mem_cons, List.not_mem_nil, or_false] at hd
        rcases hd with rfl | rfl
        · exact .str _ _
        · refine .tup 1 _ (by simp) fun d hd => ?_
          simp only [List.mem_cons, List.not_mem_nil, or_false] at hd
          rcases hd with rfl | rfl | rfl | rfl
          · exact .int _ _
          · split <;> exact .str _ _
          · refine .tup 0 _ (by rw [List.length_map]; simp only [List.length_cons] at hfl; omega) fun d hd => ?_
            obtain ⟨y, _, rfl⟩ := List.mem_map.mp hd
            exact .int _ _
          · exact .bool _ _
theorem alk_ent {xs : List Iw} {b e : Nat} {done : Bool} (he : e ≤ 1000) (hl : xs.length ≤ 1000) : Alk 3 (entW xs b e done) := by
  have hcl : (cutI xs b e).length ≤ 1000 := by
    unfold cutI
    rw [List.length_take, List.length_drop]; omega
  have htl : (toldW (cutI xs b e) done).length ≤ 2 := by
    unfold toldW
    split
    · exact Nat.le_refl _
    · split
      · exact Nat.le_refl _
      · generalize (cutI xs b e).filter (fun x => isSaid x.k) = ys
        cases ys <;> exact Nat.le_refl _
  refine .tup 2 _ (by rw [List.length_append]; simp only [List.length_cons, List.length_nil]; omega) fun d hd => ?_
  rcases List.mem_append.mp hd with h | h
  · exact alk_told hcl d h
  · simp only [List.mem_cons, List.not_mem_nil, or_false] at h
    rcases h with rfl | rfl | rfl
    · exact .int _ _
    · exact .int _ _
    · exact alk_mono (alk_rng b e he)
theorem alk_walk {xs : List Iw} (hl : xs.length ≤ 900) : ∀ (ks : List Kd) (i : Nat) (op : Option Nat), i + ks.length ≤ 900 → (∀ d ∈ walkC (entW xs) ks i op, Alk 3 d) ∧ (walkC (entW xs) ks i op).length ≤ ks.length + 1
  | [], i, none, h => ⟨fun d hd => (by cases hd), Nat.zero_le _⟩
  | [], i, some b, h => ⟨fun d hd => (by rw [List.mem_singleton.mp hd]; exact alk_ent (by simp at h; omega) (by omega)), Nat.le_refl _⟩
  | k :: ks, i, op, h => by
    rw [List.length_cons] at h
    have rest : ∀ op', (∀ d ∈ walkC (entW xs) ks (i + 1) op', Alk 3 d) ∧ (walkC (entW xs) ks (i + 1) op').length ≤ ks.length + 1 := fun op' => alk_walk hl ks (i + 1) op' (by omega)
    have keep : ∀ op', (∀ d ∈ walkC (entW xs) ks (i + 1) op', Alk 3 d) ∧ (walkC (entW xs) ks (i + 1) op').length ≤ (k :: ks).length + 1 := fun op' => ⟨(rest op').1, by have := (rest op').2; rw [List.length_cons]; omega⟩
    have more : ∀ (b e : Nat) op', e ≤ 1000 → (∀ d ∈ entW xs b e true :: walkC (entW xs) ks (i + 1) op', Alk 3 d) ∧ (entW xs b e true :: walkC (entW xs) ks (i + 1) op').length ≤ (k :: ks).length + 1 := fun b e op' he => ⟨fun d hd => by
      rcases List.mem_cons.mp hd with rfl | hd
      · exact alk_ent he (by omega)
      · exact (rest op').1 d hd, by have := (rest op').2; rw [List.length_cons, List.length_cons]; omega⟩
    cases k with
    | start =>
      cases op with
      | none => exact keep (some i)
      | some b => exact more b i (some i) (by omega)
    | stop =>
      cases op with
      | none => exact keep none
      | some b => exact more b (i + 1) none (by omega)
    | word => exact keep op
    | mute => exact keep op
    | torn => exact keep op
theorem items_turn {xs : List Iw} {s0 s1 s2 s3 s4 s6 s7 : Sl} (hx : ∀ x ∈ xs, Gw x) (hl : xs.length ≤ 100) : ∃ s6' s7', L_law_0 [s0, s1, s2, s3, s4, .val (.list (xs.map iwD)), s6, s7] = some (.ok .nx [s0, s1, s2, s3, s4, .val (.list (xs.map iwD)), s6', s7']) := by
  have e1 := law_calls_ok (xs := xs) (by omega) (gw_by8 hx) fun x h => gw_sh (hx x h)
  have e2 := calls_ok (I := .list (xs.map iwD)) (xs := xs) (.inl rfl) (by omega) (gw_by8 hx)
  have e3 := calls_ok (I := .tuple (xs.map iwD)) (xs := xs) (.inr rfl) (by omega) (gw_by8 hx)
  obtain ⟨z, hz, e4⟩ := gw_repr hx hl
  have e5 := ne_shw hz
  obtain ⟨ha, hal⟩ := alk_walk (xs := xs) (by omega) (xs.map Iw.k) 0 none (by rw [List.length_map]; omega)
  rw [List.length_map] at hal
  have e6 : fn__law_alike 6 [.tuple (walkC (entW xs) (xs.map Iw.k) 0 none), .tuple (walkC (entW xs) (xs.map Iw.k) 0 none)] = some (.ok (.bool true)) := alike_self 4 1 _ (.tup 3 _ (by omega) ha)
  have t1 : ∀ o : List D, tupleD [.list o] = some (.tuple o) := fun _ => rfl
  refine ⟨.val (.str z), .val (.tuple (walkC (entW xs) (xs.map Iw.k) 0 none)), ?_⟩
  generalize walkC (entW xs) (xs.map Iw.k) 0 none = O at *
  generalize xs.map iwD = X at *
  simp [L_law_0, mSeq, mIf, mBol, mBin, mBinL, mBind, mLift, mPure, mPeek, mVar, ixD, iI, bolD, mAsg, mCall1, mCallN, intD, modD, iIc, cMod, mStore, mStoreO, mDone, gSet, mOwn, mPut, setD, mRet, mDrop, mStuck, mTru, truD, mOrT, mAndT, mNotT, mAnd, mOr, mNot, mIsi, isiT_eq, typD, lenD, mCons, mTup, mLst, mLstN, mVal, oOr, addD, subD, mulD, mulI, iIc, cMul, ltD, leD, gtD, geD, gTupD, gCons2, gsNil, mCallV, mCallB, mRs, tupleD, mRetF, mChain, mScr, mScrLen, mScrIx, mMut, appD, max2D, min2D, mRng1, mRng2, rngD1, rngD2, rngOk, mItems, itemsD, mAsgN, mParEE, mParEN, mUn, negD, mCallN1, listD, unsE, powD, cPow, divD, cDiv, mFor, mSl, mSlL, slD, mNoPart, mPart, intO, mSlN, mSlNL, slN, mRevN, revO, mParNC, andD, orD, xorD, shrD, shlD, cShr, mStepN, mStepNL, stepO, mCatN, mCatNL, catN, e1, e2, e3, e4, e5, e6, t1]
theorem cell_turn {ns : List Int} {k : Int} (s2 s3 s4 s5 s6 s7 : Sl) (h0 : 0 ≤ k) (h1 : k < 1000) :
    ∃ a b c d e f, L_law_1 [.scr ns, .val (.int k), s2, s3, s4, s5, s6, s7] = some (.ok .nx [.scr ns, .val (.int k), a, b, c, d, e, f]) := by
  obtain ⟨bs, e1, hb⟩ := box_ok ns k h0 h1
  obtain ⟨xs, b1, e2, hb1, hx, hxl⟩ := wire_ok (B := 30) hb (by omega) (by omega)
  obtain ⟨ys, b2, e3, hb2, hy, hyl⟩ := wire_ok (B := 8) hb1 (by omega) (by omega)
  obtain ⟨t, b3, e4, t0, t1, hb3⟩ := take_ok (m := (xs.length : Int) + 1) hb2 (by omega) (by omega)
  obtain ⟨q, rfl⟩ : ∃ q : Nat, t = (q : Int) := ⟨t.toNat, by omega⟩
  have hct := cut_take (xs.map iwD) q
  rw [← List.map_take] at hct
  obtain ⟨ρ', h5, c5, c6, c7, rfl⟩ := forL_inv (g := mStore 5) (body := L_law_0) (fun ρ => ∃ s5 s6 s7, ρ = [.scr ns, .val (.int k), .own b3, .val (.list (xs.map iwD)), .val (.list (ys.map iwD)), s5, s6, s7]) [.list (xs.map iwD), .list (ys.map iwD), .list (xs.map iwD), .list ((xs.take q).map iwD)] [.scr ns, .val (.int k), .own b3, .val (.list (xs.map iwD)), .val (.list (ys.map iwD)), s5, s6, s7] ⟨_, _, _, rfl⟩ (by
    rintro d ρ hd ⟨s5, s6, s7, rfl⟩
    obtain ⟨zs, rfl, hz, hzl⟩ : ∃ zs : List Iw, d = .list (zs.map iwD) ∧ (∀ x ∈ zs, Gw x) ∧ zs.length ≤ 100 := by
      simp only [List.mem_cons, List.not_mem_nil, or_false] at hd
      rcases hd with rfl | rfl | rfl | rfl
      · exact ⟨xs, rfl, hx, by omega⟩
      · exact ⟨ys, rfl, hy, by omega⟩
      · exact ⟨xs, rfl, hx, by omega⟩
      · exact ⟨xs.take q, rfl, fun x h => hx x (List.mem_of_mem_take h), by rw [List.length_take]; omega⟩
    obtain ⟨a, b, q⟩ := items_turn (xs := zs) (s0 := .scr ns) (s1 := .val (.int k)) (s2 := .own b3) (s3 := .val (.list (xs.map iwD))) (s4 := .val (.list (ys.map iwD))) (s6 := s6) (s7 := s7) hz hzl
    exact ⟨_, _, by simp [mStore], Or.inl q, _, _, _, rfl⟩)
  have hi : mItems (mTup (mCons (mVar 3) (mCons (mVar 4) (mCons (mVar 3) (mCons (mSlL 3 mNoPart (mPart (mCallB 2 2 fn__law_take (mCons (mBin addD (mCall1 lenD (mPeek 3)) (mPure (.int 1))) (mPure []))))) (mPure [])))))) [.scr ns, .val (.int k), .own b2, .val (.list (xs.map iwD)), .val (.list (ys.map iwD)), s5, s6, s7] = some (.ok [.list (xs.map iwD), .list (ys.map iwD), .list (xs.map iwD), .list ((xs.take q).map iwD)] [.scr ns, .val (.int k), .own b3, .val (.list (xs.map iwD)), .val (.list (ys.map iwD)), s5, s6, s7]) := by
    have hL : (xs.map iwD).length = xs.length := List.length_map _
    generalize (xs.take q).map iwD = T at *
    generalize ys.map iwD = Y at *
    generalize xs.map iwD = X at *
    simp [mSeq, mIf, mBol, mBin, mBinL, mBind, mLift, mPure, mPeek, mVar, ixD, iI, bolD, mAsg, mCall1, mCallN, intD, modD, iIc, cMod, mStore, mStoreO, mDone, gSet, mOwn, mPut, setD, mRet, mDrop, mStuck, mTru, truD, mOrT, mAndT, mNotT, mAnd, mOr, mNot, mIsi, isiT_eq, typD, lenD, mCons, mTup, mLst, mLstN, mVal, oOr, addD, subD, mulD, mulI, iIc, cMul, ltD, leD, gtD, geD, gTupD, gCons2, gsNil, mCallV, mCallB, mRs, tupleD, mRetF, mChain, mScr, mScrLen, mScrIx, mMut, appD, max2D, min2D, mRng1, mRng2, rngD1, rngD2, rngOk, mItems, itemsD, mAsgN, mParEE, mParEN, mUn, negD, mCallN1, listD, unsE, powD, cPow, divD, cDiv, mFor, mSl, mSlL, slD, mNoPart, mPart, intO, mSlN, mSlNL, slN, mRevN, revO, mParNC, andD, orD, xorD, shrD, shlD, cShr, mStepN, mStepNL, stepO, mCatN, mCatNL, catN, hL, e4, mSlL, mPart, mNoPart, slD, intO, hct, fit]
  have hR : R_law_0 [.scr ns, .val (.int k), .own b2, .val (.list (xs.map iwD)), .val (.list (ys.map iwD)), s5, s6, s7] = some (.ok .nx [.scr ns, .val (.int k), .own b3, .val (.list (xs.map iwD)), .val (.list (ys.map iwD)), c5, c6, c7]) := by
    unfold R_law_0 mFor
    rw [bind_is hi]
    exact h5
  refine ⟨.own b3, .val (.list (xs.map iwD)), .val (.list (ys.map iwD)), c5, c6, c7, ?_⟩
  refine (seq_nx (ρ' := [.scr ns, .val (.int k), .own bs, s3, s4, s5, s6, s7]) (by simp [mAsgS, mSeq, mIf, mBol, mBin, mBinL, mBind, mLift, mPure, mPeek, mVar, ixD, iI, bolD, mAsg, mCall1, mCallN, intD, modD, iIc, cMod, mStore, mStoreO, mDone, gSet, mOwn, mPut, setD, mRet, mDrop, mStuck, mTru, truD, mOrT, mAndT, mNotT, mAnd, mOr, mNot, mIsi, isiT_eq, typD, lenD, mCons, mTup, mLst, mLstN, mVal, oOr, addD, subD, mulD, mulI, iIc, cMul, ltD, leD, gtD, geD, gTupD, gCons2, gsNil, mCallV, mCallB, mRs, tupleD, mRetF, mChain, mScr, mScrLen, mScrIx, mMut, appD, max2D, min2D, mRng1, mRng2, rngD1, rngD2, rngOk, mItems, itemsD, mAsgN, mParEE, mParEN, mUn, negD, mCallN1, listD, unsE, powD, cPow, divD, cDiv, mFor, mSl, mSlL, slD, mNoPart, mPart, intO, mSlN, mSlNL, slN, mRevN, revO, mParNC, andD, orD, xorD, shrD, shlD, cShr, mStepN, mStepNL, stepO, mCatN, mCatNL, catN, e1])).trans ?_
  refine (seq_nx (ρ' := [.scr ns, .val (.int k), .own b2, .val (.list (xs.map iwD)), .val (.list (ys.map iwD)), s5, s6, s7]) ?_).trans hR
  generalize ys.map iwD = Y at *
  generalize xs.map iwD = X at *
  simp [mSeq, mIf, mBol, mBin, mBinL, mBind, mLift, mPure, mPeek, mVar, ixD, iI, bolD, mAsg, mCall1, mCallN, intD, modD, iIc, cMod, mStore, mStoreO, mDone, gSet, mOwn, mPut, setD, mRet, mDrop, mStuck, mTru, truD, mOrT, mAndT, mNotT, mAnd, mOr, mNot, mIsi, isiT_eq, typD, lenD, mCons, mTup, mLst, mLstN, mVal, oOr, addD, subD, mulD, mulI, iIc, cMul, ltD, leD, gtD, geD, gTupD, gCons2, gsNil, mCallV, mCallB, mRs, tupleD, mRetF, mChain, mScr, mScrLen, mScrIx, mMut, appD, max2D, min2D, mRng1, mRng2, rngD1, rngD2, rngOk, mItems, itemsD, mAsgN, mParEE, mParEN, mUn, negD, mCallN1, listD, unsE, powD, cPow, divD, cDiv, mFor, mSl, mSlL, slD, mNoPart, mPart, intO, mSlN, mSlNL, slN, mRevN, revO, mParNC, andD, orD, xorD, shrD, shlD, cShr, mStepN, mStepNL, stepO, mCatN, mCatNL, catN, e2, e3]
theorem law_true (ns : List Int) (hn : ns.length ≤ 63) : fn_law ns = some (.ok (.bool true)) := by
  have hM : ∃ M : Int, 0 ≤ M ∧ M ≤ 6 ∧ mRng1 (mCons (mCallN max2D (mCons (mPure (.int 2)) (mCons (mCallN min2D (mCons (mPure (.int 6)) (mCons (mScrLen 0) (mPure [])))) (mPure [])))) (mPure [])) [.scr ns, .un, .un, .un, .un, .un, .un, .un] = some (.ok (rngL 0 M) [.scr ns, .un, .un, .un, .un, .un, .un, .un]) := by
    have h0 : ∃ M : Int, 0 ≤ M ∧ M ≤ 6 ∧ max2D [.int 2, .int (if (ns.length : Int) < 6 then (ns.length : Int) else 6)] = some (.int M) :=
      ⟨_, by split <;> split <;> omega, by split <;> split <;> omega, rfl⟩
    obtain ⟨M, h1, h2, h3⟩ := h0
    refine ⟨M, h1, h2, rng1_is ?_ (rngOk_le (by omega) (by omega))⟩
    simp [mCons, mCallN, min2D, mBind, mPure, mLift, mScrLen, mScr, h3]
  obtain ⟨M, h1, h2, hr⟩ := hM
  obtain ⟨ρ', h, _⟩ := forL_inv (g := mStore 1) (body := L_law_1) (fun ρ => ∃ z a b c d e f, ρ = [.scr ns, z, a, b, c, d, e, f]) (rngL 0 M) [.scr ns, .un, .un, .un, .un, .un, .un, .un] ⟨_, _, _, _, _, _, _, rfl⟩ (by
    rintro x ρ hd ⟨z, a, b, c, d, e, f, rfl⟩
    obtain ⟨t, rfl, t0, t1⟩ := rngL_mem hd
    obtain ⟨a', b', c', d', e', f', q⟩ := cell_turn (ns := ns) (k := t) a b c d e f t0 (by omega)
    exact ⟨_, _, by simp [mStore], Or.inl q, _, _, _, _, _, _, _, rfl⟩)
  have hR : R_law_1 [.scr ns, .un, .un, .un, .un, .un, .un, .un] = some (.ok .nx ρ') := by
    unfold R_law_1 mFor
    rw [bind_is hr]
    exact h
  simp [fn_law, runL, m_law, env0S, mSeq, mIf, mBol, mBin, mBinL, mBind, mLift, mPure, mPeek, mVar, ixD, iI, bolD, mAsg, mCall1, mCallN, intD, modD, iIc, cMod, mStore, mStoreO, mDone, gSet, mOwn, mPut, setD, mRet, mDrop, mStuck, mTru, truD, mOrT, mAndT, mNotT, mAnd, mOr, mNot, mIsi, isiT_eq, typD, lenD, mCons, mTup, mLst, mLstN, mVal, oOr, addD, subD, mulD, mulI, iIc, cMul, ltD, leD, gtD, geD, gTupD, gCons2, gsNil, mCallV, mCallB, mRs, tupleD, mRetF, mChain, mScr, mScrLen, mScrIx, mMut, appD, max2D, min2D, mRng1, mRng2, rngD1, rngD2, rngOk, mItems, itemsD, mAsgN, mParEE, mParEN, mUn, negD, mCallN1, listD, unsE, powD, cPow, divD, cDiv, mFor, mSl, mSlL, slD, mNoPart, mPart, intO, mSlN, mSlNL, slN, mRevN, revO, mParNC, andD, orD, xorD, shrD, shlD, cShr, mStepN, mStepNL, stepO, mCatN, mCatNL, catN, hR]

end Pf
namespace Pf
open PySem PySem.Spec L2 Dd
theorem all_mk {l : PySem.W.OpenLaw} {w : World} {K : PySem.W.Frag} {h : Heap} {mg : Str → Option Value} {fa f1 f2 f3 f4 f5 f6 f7 f8 f9 : Addr} (X : K.In h) (G : h.Ns mainGlobals mg) (hfa : mg "law" = some (.ref fa))
    {od1 an1 od2 an2 od3 an3 od4 an4 od5 an5 od6 an6 od7 an7 od8 an8 od9 an9 : Option Addr} {sl1 sl2 sl3 sl4 sl5 sl6 sl7 sl8 sl9 : Array (Option Value)} {oc1 kV1 dc1 pm1 cd1 ct1 oc2 kV2 dc2 pm2 cd2 ct2 oc3 kV3 dc3 pm3 cd3 ct3 oc4 kV4 dc4 pm4 cd4 ct4 oc5 kV5 dc5 pm5 cd5 ct5 oc6 kV6 dc6 pm6 cd6 ct6 oc7 kV7 dc7 pm7 cd7 ct7 oc8 kV8 dc8 pm8 cd8 ct8 oc9 kV9 dc9 pm9 cd9 ct9 : Value}
    (a1 : PySem.W.nsIn K mainGlobals "item_of_parts" = some (some (.ref f1))) (l1 : K.lookup f1 = some ⟨oc1, od1, .func (PySem.W.fnOf "item_of_parts" "item_of_parts" (defArgs s_item_of_parts) (defBody s_item_of_parts) (defScope s_item_of_parts) .none kV1 dc1 pm1 an1 cd1 ct1), sl1⟩) (c1 : PySem.W.codeIn K cd1 "item_of_parts" = true) (k1 : PySem.W.keepIn K (.ref f1) = true)
    (a2 : PySem.W.nsIn K mainGlobals "_call_of" = some (some (.ref f2))) (l2 : K.lookup f2 = some ⟨oc2, od2, .func (PySem.W.fnOf "_call_of" "_call_of" (defArgs s__call_of) (defBody s__call_of) (defScope s__call_of) .none kV2 dc2 pm2 an2 cd2 ct2), sl2⟩) (c2 : PySem.W.codeIn K cd2 "_call_of" = true) (k2 : PySem.W.keepIn K (.ref f2) = true)
    (a3 : PySem.W.nsIn K mainGlobals "calls_in" = some (some (.ref f3))) (l3 : K.lookup f3 = some ⟨oc3, od3, .func (PySem.W.fnOf "calls_in" "calls_in" (defArgs s_calls_in) (defBody s_calls_in) (defScope s_calls_in) .none kV3 dc3 pm3 an3 cd3 ct3), sl3⟩) (c3 : PySem.W.codeIn K cd3 "calls_in" = true) (k3 : PySem.W.keepIn K (.ref f3) = true)
    (a4 : PySem.W.nsIn K mainGlobals "_law_box" = some (some (.ref f4))) (l4 : K.lookup f4 = some ⟨oc4, od4, .func (PySem.W.fnOf "_law_box" "_law_box" (defArgs s__law_box) (defBody s__law_box) (defScope s__law_box) .none kV4 dc4 pm4 an4 cd4 ct4), sl4⟩) (c4 : PySem.W.codeIn K cd4 "_law_box" = true) (k4 : PySem.W.keepIn K (.ref f4) = true)
    (a5 : PySem.W.nsIn K mainGlobals "_law_take" = some (some (.ref f5))) (l5 : K.lookup f5 = some ⟨oc5, od5, .func (PySem.W.fnOf "_law_take" "_law_take" (defArgs s__law_take) (defBody s__law_take) (defScope s__law_take) .none kV5 dc5 pm5 an5 cd5 ct5), sl5⟩) (c5 : PySem.W.codeIn K cd5 "_law_take" = true) (k5 : PySem.W.keepIn K (.ref f5) = true)
    (a6 : PySem.W.nsIn K mainGlobals "_law_alike" = some (some (.ref f6))) (l6 : K.lookup f6 = some ⟨oc6, od6, .func (PySem.W.fnOf "_law_alike" "_law_alike" (defArgs s__law_alike) (defBody s__law_alike) (defScope s__law_alike) .none kV6 dc6 pm6 an6 cd6 ct6), sl6⟩) (c6 : PySem.W.codeIn K cd6 "_law_alike" = true) (k6 : PySem.W.keepIn K (.ref f6) = true)
    (a7 : PySem.W.nsIn K mainGlobals "_law_twowire" = some (some (.ref f7))) (l7 : K.lookup f7 = some ⟨oc7, od7, .func (PySem.W.fnOf "_law_twowire" "_law_twowire" (defArgs s__law_twowire) (defBody s__law_twowire) (defScope s__law_twowire) .none kV7 dc7 pm7 an7 cd7 ct7), sl7⟩) (c7 : PySem.W.codeIn K cd7 "_law_twowire" = true) (k7 : PySem.W.keepIn K (.ref f7) = true)
    (a8 : PySem.W.nsIn K mainGlobals "_law_calls" = some (some (.ref f8))) (l8 : K.lookup f8 = some ⟨oc8, od8, .func (PySem.W.fnOf "_law_calls" "_law_calls" (defArgs s__law_calls) (defBody s__law_calls) (defScope s__law_calls) .none kV8 dc8 pm8 an8 cd8 ct8), sl8⟩) (c8 : PySem.W.codeIn K cd8 "_law_calls" = true) (k8 : PySem.W.keepIn K (.ref f8) = true)
    (a9 : PySem.W.nsIn K mainGlobals "law" = some (some (.ref f9))) (l9 : K.lookup f9 = some ⟨oc9, od9, .func (PySem.W.fnOf "law" "law" (defArgs s_law) (defBody s_law) (defScope s_law) .none kV9 dc9 pm9 an9 cd9 ct9), sl9⟩) (c9 : PySem.W.codeIn K cd9 "law" = true) (k9 : PySem.W.keepIn K (.ref f9) = true)
    (z1 : PySem.W.nsIn K mainGlobals "all" = some none)
    (z2 : PySem.W.nsIn K mainGlobals "bool" = some none)
    (z3 : PySem.W.nsIn K mainGlobals "dict" = some none)
    (z4 : PySem.W.nsIn K mainGlobals "enumerate" = some none)
    (z5 : PySem.W.nsIn K mainGlobals "int" = some none)
    (z6 : PySem.W.nsIn K mainGlobals "isinstance" = some none)
    (z7 : PySem.W.nsIn K mainGlobals "len" = some none)
    (z8 : PySem.W.nsIn K mainGlobals "list" = some none)
    (z9 : PySem.W.nsIn K mainGlobals "max" = some none)
    (z10 : PySem.W.nsIn K mainGlobals "min" = some none)
    (z11 : PySem.W.nsIn K mainGlobals "range" = some none)
    (z12 : PySem.W.nsIn K mainGlobals "repr" = some none)
    (z13 : PySem.W.nsIn K mainGlobals "sorted" = some none)
    (z14 : PySem.W.nsIn K mainGlobals "str" = some none)
    (z15 : PySem.W.nsIn K mainGlobals "tuple" = some none)
    (z16 : PySem.W.nsIn K mainGlobals "zip" = some none) :
    ∃ fd : FuncData, (∀ (s : Shared) (v : Value), BindsTo s fd ⟨[v], []⟩ [("_law_script", v)]) ∧ ∀ base : Heap, K.In base → base.Ns mainGlobals mg → LawFn l.prog w K mg base fa fd "_law_script" 8 fn_law := by
  have e := hfa.symm.trans (PySem.W.mg_of X G a9)
  cases e
  have F1 := fun_mk (st := s_item_of_parts) l1 c1 k1
  have b1 := F1.binds (ps := ["items", "kind", "what", "parts"]) fun _ _ _ _ _ _ us hl => match us, hl with | [_, _, _, _], _ => rfl
  have F2 := fun_mk (st := s__call_of) l2 c2 k2
  have b2 := F2.binds (ps := ["items", "parts"]) fun _ _ _ _ _ _ us hl => match us, hl with | [_, _], _ => rfl
  have F3 := fun_mk (st := s_calls_in) l3 c3 k3
  have b3 := F3.binds (ps := ["items"]) fun _ _ _ _ _ _ us hl => match us, hl with | [_], _ => rfl
  have F4 := fun_mk (st := s__law_box) l4 c4 k4
  have b4 := F4.binds (ps := ["_law_script", "_law_k"]) fun _ _ _ _ _ _ us hl => match us, hl with | [_, _], _ => rfl
  have F5 := fun_mk (st := s__law_take) l5 c5 k5
  have b5 := F5.binds (ps := ["_law_box_here", "_law_many"]) fun _ _ _ _ _ _ us hl => match us, hl with | [_, _], _ => rfl
  have F6 := fun_mk (st := s__law_alike) l6 c6 k6
  have b6 := F6.binds (ps := ["_law_found", "_law_due"]) fun _ _ _ _ _ _ us hl => match us, hl with | [_, _], _ => rfl
  have F7 := fun_mk (st := s__law_twowire) l7 c7 k7
  have b7 := F7.binds (ps := ["_law_box_here", "_law_bound"]) fun _ _ _ _ _ _ us hl => match us, hl with | [_, _], _ => rfl
  have F8 := fun_mk (st := s__law_calls) l8 c8 k8
  have b8 := F8.binds (ps := ["_law_items"]) fun _ _ _ _ _ _ us hl => match us, hl with | [_], _ => rfl
  have F9 := fun_mk (st := s_law) l9 c9 k9
  have b9 := F9.binds (ps := ["_law_script"]) fun _ _ _ _ _ _ us hl => match us, hl with | [_], _ => rfl
  let T : Tx K mg := ⟨_, _, F1, PySem.W.mg_of X G a1, b1, _, _, F2, PySem.W.mg_of X G a2, b2, _, _, F3, PySem.W.mg_of X G a3, b3, _, _, F4, PySem.W.mg_of X G a4, b4, _, _, F5, PySem.W.mg_of X G a5, b5, _, _, F6, PySem.W.mg_of X G a6, b6, _, _, F7, PySem.W.mg_of X G a7, b7, _, _, F8, PySem.W.mg_of X G a8, b8, _, _, F9, PySem.W.mg_of X G a9, b9, PySem.W.mg_none_of X G z1, PySem.W.mg_none_of X G z2, PySem.W.mg_none_of X G z3, PySem.W.mg_none_of X G z4, PySem.W.mg_none_of X G z5, PySem.W.mg_none_of X G z6, PySem.W.mg_none_of X G z7, PySem.W.mg_none_of X G z8, PySem.W.mg_none_of X G z9, PySem.W.mg_none_of X G z10, PySem.W.mg_none_of X G z11, PySem.W.mg_none_of X G z12, PySem.W.mg_none_of X G z13, PySem.W.mg_none_of X G z14, PySem.W.mg_none_of X G z15, PySem.W.mg_none_of X G z16⟩
  exact ⟨_, fun s v => .of_eq rfl, fun base _ _ => ok_law T⟩
end Pf
open PySem PySem.W PyProof.Rows
set_option maxRecDepth 100000 in
set_option maxHeartbeats 0 in
theorem PySem.Challenge.cw_wirelooker_k51_calls_read_holds : PySem.Challenge.rw_wirelooker_k51_calls_read.Holds := by
  w_on; o_law; k_head; (case hw => w_witness2)
  k_fill
  refine Dd.walk_ofG (l := PySem.Challenge.rw_wirelooker_k51_calls_read) (n := 63) (k := 8) (p := "_law_script") (g := Pf.fn_law) rfl (by decide) rfl ⟨rfl, by decide, by decide⟩ (fun w h Y => PySem.W.kIn_of Y) ?F (fun ns hl => Pf.law_true ns hl)
  case F =>
    intro w mg fa h KX G hmg
    refine' Pf.all_mk KX G hmg ?a1 ?l1 ?c1 ?k1 ?a2 ?l2 ?c2 ?k2 ?a3 ?l3 ?c3 ?k3 ?a4 ?l4 ?c4 ?k4 ?a5 ?l5 ?c5 ?k5 ?a6 ?l6 ?c6 ?k6 ?a7 ?l7 ?c7 ?k7 ?a8 ?l8 ?c8 ?k8 ?a9 ?l9 ?c9 ?k9 ?z1 ?z2 ?z3 ?z4 ?z5 ?z6 ?z7 ?z8 ?z9 ?z10 ?z11 ?z12 ?z13 ?z14 ?z15 ?z16
    (case a1 => k_is); (case l1 => k_is); (case c1 => k_is); (case k1 => k_is); (case a2 => k_is); (case l2 => k_is); (case c2 => k_is); (case k2 => k_is); (case a3 => k_is); (case l3 => k_is); (case c3 => k_is); (case k3 => k_is); (case a4 => k_is); (case l4 => k_is); (case c4 => k_is); (case k4 => k_is); (case a5 => k_is); (case l5 => k_is); (case c5 => k_is); (case k5 => k_is); (case a6 => k_is); (case l6 => k_is); (case c6 => k_is); (case k6 => k_is); (case a7 => k_is); (case l7 => k_is); (case c7 => k_is); (case k7 => k_is); (case a8 => k_is); (case l8 => k_is); (case c8 => k_is); (case k8 => k_is); (case a9 => k_is); (case l9 => k_is); (case c9 => k_is); (case k9 => k_is); (case z1 => k_is); (case z2 => k_is); (case z3 => k_is); (case z4 => k_is); (case z5 => k_is); (case z6 => k_is); (case z7 => k_is); (case z8 => k_is); (case z9 => k_is); (case z10 => k_is); (case z11 => k_is); (case z12 => k_is); (case z13 => k_is); (case z14 => k_is); (case z15 => k_is); (case z16 => k_is)
