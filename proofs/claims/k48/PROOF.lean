import PyProof.Rows.All
import PySem.Challenge.RW_wirelooker_k48_packets_read
import Wide.All
import OpenK.AllK
import Wide.FinOn
import PyProof.EqAt
import PyProof.EqKinds
import PyProof.TupleCall
import HandS.Base
import HandS.Call
import HandS.List
import HandS.Comp
import HandS.Iter
import HandS.Text
import HandS.Words
import HandS.Exc
import HandS.IsInst
import HandS.Flow
import HandS.Wide
import HandS.RaiseMore
import HandS.Zip
import HandS.CallSlots
import HandS.WordsExc
import HandS.ExcOwn
import HandS.SortInts
import HandS.TupMul
import HandS.Star
import HandS.Conv
import HandS.More
import HandS.SortRule
import HandS.TryOnly
import HandS.SortKw
import KE.DataMinMax
import ObjForm.LawKit
import HandS.TupAny
import HandS.Style
import PyProof.ReprRoads
import HandS.Ends
import PyProof.WalksMore
import PyProof.Rows.SumAny
import KE.GoesMore
import KE.GoesZip
import HandS.ExcField
import KE.KExcInit
import KE.KExcIs
import KE.KIsAll
import PyProof.ExcBaseAll.IndexError
import PyProof.ExcBaseAll.LookupError
import HandS.Defaults
import KE.KRevSl
import KE.GoesEnum
import KE.BitLaws
import KE.OsArith
set_option Elab.async false
set_option linter.all false
set_option maxRecDepth 100000
set_option maxHeartbeats 4000000
namespace Dd
open PySem PySem.Spec L2
abbrev D := PyData
inductive Sl where
  | un
  | val (d : D)
  | own (ds : List D)
  | io (ds : List D)
  | scr (ns : List Int)
abbrev En := List Sl
mutual
inductive Dp (K : PySem.W.Frag) (H : Hp) : V → D → Prop
  | non : Dp K H .non .none
  | bl (b : Bool) : Dp K H (.bl b) (.bool b)
  | int (i : Int) : Dp K H (.int i) (.int i)
  | str (x : Str) : Dp K H (.str x) (.str x)
  | lst {a : Addr} {xs : List V} {ds : List D} : Rd H a (.lst xs) → DpAll K H xs ds → Dp K H (.ref a) (.list ds)
  | tup {a : Addr} {xs : List V} {ds : List D} : SqT K H a xs → DpAll K H xs ds → Dp K H (.ref a) (.tuple ds)
inductive DpAll (K : PySem.W.Frag) (H : Hp) : List V → List D → Prop
  | nil : DpAll K H [] []
  | cons {v : V} {vs : List V} {d : D} {ds : List D} : Dp K H v d → DpAll K H vs ds → DpAll K H (v :: vs) (d :: ds)
end
mutual
theorem Dp.l2 {K : PySem.W.Frag} {F : Hp} : ∀ {v : V} {d : D}, Dp K F v d → L2.Dp K F v d
  | _, _, .non => .non
  | _, _, .bl b => .bl b
  | _, _, .int i => .int i
  | _, _, .str x => .str x
  | _, _, .lst h t => .lst (.inl h) (DpAll.l2 t)
  | _, _, .tup h t => .tup h (DpAll.l2 t)
theorem DpAll.l2 {K : PySem.W.Frag} {F : Hp} : ∀ {vs : List V} {ds : List D}, DpAll K F vs ds → L2.DpAll K F vs ds
  | _, _, .nil => .nil
  | _, _, .cons h t => .cons (Dp.l2 h) (DpAll.l2 t)
end
structure Ct where
  F0 : Hp
  H0 : Hp
  io : Option Addr
  pr : Hp
structure Ok (K : PySem.W.Frag) (c : Ct) (σ : St) (H F : Hp) (ρ : En) : Prop where
  len : σ.length = ρ.length
  sub : Same F H
  ge : Same c.F0 F
  fe : ∀ b o, F b = some o → c.F0 b = some o ∨ c.H0 b = none
  keep : ∀ b o, c.H0 b = some o → c.io ≠ some b → H b = some o
  iod : ∀ p, c.io = some p → F p = none ∧ c.H0 p ≠ none ∧ c.pr p = none ∧ ∃ xs, H p = some (.lst xs)
  prt : ∀ b o, c.pr b = some o → H b = some o ∧ F b = none ∧ c.H0 b = none
  val : ∀ (i : Nat) (d : D), ρ[i]? = some (.val d) → ∃ v, σ[i]? = some (some v) ∧ Dp K F v d
  own : ∀ (i : Nat) (ds : List D), ρ[i]? = some (.own ds) → ∃ p vs, σ[i]? = some (some (.ref p)) ∧ H p = some (.lst vs) ∧ DpAll K F vs ds ∧ F p = none ∧ c.H0 p = none ∧ c.pr p = none
  ios : ∀ (i : Nat) (ds : List D), ρ[i]? = some (.io ds) → i = 0 ∧ ∃ p vs, c.io = some p ∧ σ[i]? = some (some (.ref p)) ∧ H p = some (.lst vs) ∧ DpAll K F vs ds
  scr : ∀ (i : Nat) (ns : List Int), ρ[i]? = some (.scr ns) → c.io = none ∧ ∃ a, σ[i]? = some (some (.ref a)) ∧ SqL K c.H0 a (ns.map V.int)
  sep : ∀ (i j : Nat) (ds es : List D) (p : Addr), ρ[i]? = some (.own ds) → ρ[j]? = some (.own es) → σ[i]? = some (some (.ref p)) → σ[j]? = some (some (.ref p)) → i = j

section
variable {K : PySem.W.Frag} {F F' : Hp}
theorem Rd.mono {a : Addr} {u : HO} (s : Same F F') (h : Rd F a u) : Rd F' a u := by
  rcases h with h | ⟨o, h⟩
  · exact .inl (s _ _ h)
  · exact .inr ⟨o, s _ _ h⟩
theorem SqL.mono {a : Addr} {xs : List V} (s : Same F F') (h : SqL K F a xs) : SqL K F' a xs := h.imp (Rd.mono s) id
theorem SqT.mono {a : Addr} {xs : List V} (s : Same F F') (h : SqT K F a xs) : SqT K F' a xs := h.imp (Rd.mono s) id
mutual
theorem Dp.mono (s : Same F F') : ∀ {v : V} {d : D}, Dp K F v d → Dp K F' v d
  | _, _, .non => .non
  | _, _, .bl b => .bl b
  | _, _, .int i => .int i
  | _, _, .str x => .str x
  | _, _, .lst h t => .lst (Rd.mono s h) (DpAll.mono s t)
  | _, _, .tup h t => .tup (SqT.mono s h) (DpAll.mono s t)
theorem DpAll.mono (s : Same F F') : ∀ {vs : List V} {ds : List D}, DpAll K F vs ds → DpAll K F' vs ds
  | _, _, .nil => .nil
  | _, _, .cons h t => .cons (Dp.mono s h) (DpAll.mono s t)
end
theorem DpAll.length : ∀ {vs : List V} {ds : List D}, DpAll K F vs ds → vs.length = ds.length
  | _, _, .nil => rfl
  | _, _, .cons _ t => by simp [DpAll.length t]
theorem DpAll.get : ∀ {vs : List V} {ds : List D} {i : Nat} {v : V}, DpAll K F vs ds → vs[i]? = some v → ∃ d, ds[i]? = some d ∧ Dp K F v d
  | _, _, _, _, .nil, e => by simp at e
  | _, _, 0, v, .cons h t, e => by
    simp at e; subst e
    exact ⟨_, rfl, h⟩
  | _, _, i + 1, v, .cons h t, e => by
    obtain ⟨d, q, r⟩ := DpAll.get (i := i) (v := v) t (by simpa using e)
    exact ⟨d, by simpa using q, r⟩
theorem DpAll.getd : ∀ {vs : List V} {ds : List D} {i : Nat} {d : D}, DpAll K F vs ds → ds[i]? = some d → ∃ v, vs[i]? = some v ∧ Dp K F v d
  | _, _, _, _, .nil, e => by simp at e
  | _, _, 0, v, .cons h t, e => by
    simp at e; subst e
    exact ⟨_, rfl, h⟩
  | _, _, i + 1, v, .cons h t, e => by
    obtain ⟨d, q, r⟩ := DpAll.getd (i := i) (d := v) t (by simpa using e)
    exact ⟨d, by simpa using q, r⟩
theorem DpAll.append : ∀ {vs ws : List V} {ds es : List D}, DpAll K F vs ds → DpAll K F ws es → DpAll K F (vs ++ ws) (ds ++ es)
  | _, _, _, _, .nil, s => s
  | _, _, _, _, .cons h t, s => .cons h (DpAll.append t s)
theorem DpAll.set {v : V} {d : D} (r : Dp K F v d) : ∀ {vs : List V} {ds : List D} (i : Nat), DpAll K F vs ds → DpAll K F (vs.set i v) (ds.set i d)
  | _, _, _, .nil => .nil
  | _, _, 0, .cons _ t => .cons r t
  | _, _, i + 1, .cons h t => .cons h (DpAll.set r i t)
theorem DpAll.take : ∀ {vs : List V} {ds : List D} (n : Nat), DpAll K F vs ds → DpAll K F (vs.take n) (ds.take n)
  | _, _, 0, _ => .nil
  | _, _, _ + 1, .nil => .nil
  | _, _, n + 1, .cons h t => .cons h (DpAll.take n t)
theorem DpAll.drop : ∀ {vs : List V} {ds : List D} (n : Nat), DpAll K F vs ds → DpAll K F (vs.drop n) (ds.drop n)
  | _, _, 0, h => h
  | _, _, _ + 1, .nil => .nil
  | _, _, n + 1, .cons _ t => DpAll.drop n t
theorem DpAll.eraseIdx : ∀ {vs : List V} {ds : List D} (i : Nat), DpAll K F vs ds → DpAll K F (vs.eraseIdx i) (ds.eraseIdx i)
  | _, _, _, .nil => .nil
  | _, _, 0, .cons _ t => t
  | _, _, i + 1, .cons h t => .cons h (DpAll.eraseIdx i t)
theorem DpAll.one {v : V} {d : D} (h : Dp K F v d) : DpAll K F [v] [d] := .cons h .nil
theorem DpAll.reverse : ∀ {vs : List V} {ds : List D}, DpAll K F vs ds → DpAll K F vs.reverse ds.reverse
  | _, _, .nil => .nil
  | _, _, .cons h t => by
    rw [List.reverse_cons, List.reverse_cons]
    exact DpAll.append (DpAll.reverse t) (DpAll.one h)
theorem DpAll.ints : ∀ {vs : List V} {ns : List Int}, DpAll K F vs (ns.map PyData.int) → vs = ns.map V.int
  | _, [], .nil => rfl
  | _, n :: ns, .cons h t => by
    cases h
    rw [DpAll.ints t]; rfl
theorem DpAll.bls : ∀ {vs : List V} {ns : List Bool}, DpAll K F vs (ns.map PyData.bool) → vs = ns.map V.bl
  | _, [], .nil => rfl
  | _, n :: ns, .cons h t => by
    cases h
    rw [DpAll.bls t]; rfl
theorem DpAll.strs : ∀ {vs : List V} {ns : List Str}, DpAll K F vs (ns.map PyData.str) → vs = ns.map V.str
  | _, [], .nil => rfl
  | _, n :: ns, .cons h t => by
    cases h
    rw [DpAll.strs t]; rfl
theorem DpAll.ofInts : ∀ (ns : List Int), DpAll K F (ns.map V.int) (ns.map PyData.int)
  | [] => .nil
  | n :: ns => .cons (.int n) (DpAll.ofInts ns)
theorem DpAll.ofStrs : ∀ (ns : List Str), DpAll K F (ns.map V.str) (ns.map PyData.str)
  | [] => .nil
  | n :: ns => .cons (.str n) (DpAll.ofStrs ns)
theorem Same.updN {p : Addr} {o : HO} (h : F p = none) : Same F (upd F p o) := fun b u e => by
  rw [upd_ne (ne_of_none e h)]; exact e
theorem Same.upd2 {H : Hp} {p : Addr} {o : HO} (h : Same F H) : Same (upd F p o) (upd H p o) := fun b u e => by
  by_cases hb : b = p
  · subst hb; rw [upd_same] at e ⊢; exact e
  · rw [upd_ne hb] at e ⊢; exact h _ _ e
end

/-! ### the heap grows -/
section
variable {K : PySem.W.Frag} {c : Ct} {σ : St} {H F : Hp} {ρ : En} {p : Addr} {o : HO}
theorem Ok.new (ok : Ok K c σ H F ρ) (h : H p = none) : F p = none ∧ c.H0 p = none ∧ c.pr p = none ∧ c.F0 p = none ∧ c.io ≠ some p := by
  have hF : F p = none := ok.sub.free h
  have hio : c.io ≠ some p := fun e => by
    obtain ⟨_, _, _, xs, q⟩ := ok.iod p e
    rw [h] at q; cases q
  refine ⟨hF, ?_, ?_, ok.ge.free hF, hio⟩
  · cases q : c.H0 p with
    | none => rfl
    | some u => rw [ok.keep p u q hio] at h; cases h
  · cases q : c.pr p with
    | none => rfl
    | some u => rw [(ok.prt p u q).1] at h; cases h
/-- a new object, seen by all -/
theorem Ok.alloc (ok : Ok K c σ H F ρ) (h : H p = none) : Ok K c σ (upd H p o) (upd F p o) ρ := by
  obtain ⟨hF, h0, hp, hF0, hio⟩ := ok.new h
  have s : Same F (upd F p o) := Same.updN hF
  have k : ∀ b u, H b = some u → upd H p o b = some u := Same.updN h
  refine ⟨ok.len, Same.upd2 ok.sub, ok.ge.trans s, fun b u e => ?_, fun b u e n => k _ _ (ok.keep b u e n), fun q e => ?_, fun b u e => ?_, fun i d e => ?_, fun i ds e => ?_, fun i ds e => ?_, ok.scr, ok.sep⟩
  · by_cases hb : b = p
    · subst hb; exact .inr h0
    · rw [upd_ne hb] at e; exact ok.fe b u e
  · obtain ⟨a1, a2, a3, xs, a4⟩ := ok.iod q e
    refine ⟨?_, a2, a3, xs, k _ _ a4⟩
    rw [upd_ne (ne_of_none a4 h)]; exact a1
  · obtain ⟨a1, a2, a3⟩ := ok.prt b u e
    refine ⟨k _ _ a1, ?_, a3⟩
    rw [upd_ne (ne_of_none a1 h)]; exact a2
  · obtain ⟨v, a1, a2⟩ := ok.val i d e
    exact ⟨v, a1, Dp.mono s a2⟩
  · obtain ⟨q, vs, a1, a2, a3, a4, a5, a6⟩ := ok.own i ds e
    refine ⟨q, vs, a1, k _ _ a2, DpAll.mono s a3, ?_, a5, a6⟩
    rw [upd_ne (ne_of_none a2 h)]; exact a4
  · obtain ⟨z, q, vs, a1, a2, a3, a4⟩ := ok.ios i ds e
    exact ⟨z, q, vs, a1, a2, k _ _ a3, DpAll.mono s a4⟩
abbrev Ct.put (c : Ct) (p : Addr) (o : HO) : Ct := { c with pr := upd c.pr p o }
/-- a new object, kept apart -/
theorem Ok.allocP (ok : Ok K c σ H F ρ) (h : H p = none) : Ok K (c.put p o) σ (upd H p o) F ρ := by
  obtain ⟨hF, h0, hp, hF0, hio⟩ := ok.new h
  have k : ∀ b u, H b = some u → upd H p o b = some u := Same.updN h
  refine ⟨ok.len, fun b u e => k _ _ (ok.sub b u e), ok.ge, ok.fe, fun b u e n => k _ _ (ok.keep b u e n), fun q e => ?_, fun b u e => ?_, ok.val, fun i ds e => ?_, fun i ds e => ?_, ok.scr, ok.sep⟩
  · obtain ⟨a1, a2, a3, xs, a4⟩ := ok.iod q e
    refine ⟨a1, a2, ?_, xs, k _ _ a4⟩
    show upd c.pr p o q = none
    rw [upd_ne (ne_of_none a4 h)]; exact a3
  · by_cases hb : b = p
    · subst hb
      refine ⟨?_, hF, h0⟩
      rw [upd_same]; exact (upd_same (H := c.pr)).symm.trans e
    · have e' : c.pr b = some u := by rw [← e]; exact (upd_ne hb).symm
      obtain ⟨a1, a2, a3⟩ := ok.prt b u e'
      exact ⟨k _ _ a1, a2, a3⟩
  · obtain ⟨q, vs, a1, a2, a3, a4, a5, a6⟩ := ok.own i ds e
    refine ⟨q, vs, a1, k _ _ a2, a3, a4, a5, ?_⟩
    show upd c.pr p o q = none
    rw [upd_ne (ne_of_none a2 h)]; exact a6
  · obtain ⟨z, q, vs, a1, a2, a3, a4⟩ := ok.ios i ds e
    exact ⟨z, q, vs, a1, a2, k _ _ a3, a4⟩
/-- what is kept apart is changed -/
theorem Ok.putP {o' : HO} (ok : Ok K (c.put p o) σ H F ρ) : Ok K (c.put p o') σ (upd H p o') F ρ := by
  obtain ⟨hH, hF, h0⟩ := ok.prt p o upd_same
  have hio : c.io ≠ some p := fun e => by
    obtain ⟨_, a2, _⟩ := ok.iod p e
    exact a2 h0
  refine ⟨ok.len, fun b u e => ?_, ok.ge, ok.fe, fun b u e n => ?_, fun q e => ?_, fun b u e => ?_, ok.val, fun i ds e => ?_, fun i ds e => ?_, ok.scr, ok.sep⟩
  · rw [upd_ne (ne_of_none e hF)]; exact ok.sub b u e
  · rw [upd_ne (ne_of_none e h0)]; exact ok.keep b u e n
  · obtain ⟨a1, a2, a3, xs, a4⟩ := ok.iod q e
    have ne : q ≠ p := fun z => by subst z; exact a2 h0
    refine ⟨a1, a2, ?_, xs, by rw [upd_ne ne]; exact a4⟩
    show upd c.pr p o' q = none
    rw [upd_ne ne]; exact (upd_ne ne).symm.trans a3
  · by_cases hb : b = p
    · subst hb
      refine ⟨?_, hF, h0⟩
      rw [upd_same]; exact (upd_same (H := c.pr)).symm.trans e
    · have e' : (c.put p o).pr b = some u := (upd_ne hb).trans ((upd_ne hb).symm.trans e)
      obtain ⟨a1, a2, a3⟩ := ok.prt b u e'
      exact ⟨by rw [upd_ne hb]; exact a1, a2, a3⟩
  · obtain ⟨q, vs, a1, a2, a3, a4, a5, a6⟩ := ok.own i ds e
    have ne : q ≠ p := fun z => by
      subst z
      have a6' : upd c.pr q o q = none := a6
      rw [upd_same] at a6'; cases a6'
    refine ⟨q, vs, a1, by rw [upd_ne ne]; exact a2, a3, a4, a5, ?_⟩
    show upd c.pr p o' q = none
    rw [upd_ne ne]; exact (upd_ne ne).symm.trans a6
  · obtain ⟨z, q, vs, a1, a2, a3, a4⟩ := ok.ios i ds e
    have ne : q ≠ p := fun z => by subst z; exact hio a1
    exact ⟨z, q, vs, a1, a2, by rw [upd_ne ne]; exact a3, a4⟩
/-- what was kept apart is seen by all -/
theorem Ok.freeP (ok : Ok K (c.put p o) σ H F ρ) (hp : c.pr p = none) : Ok K c σ H (upd F p o) ρ := by
  obtain ⟨hH, hF, h0⟩ := ok.prt p o upd_same
  have s : Same F (upd F p o) := Same.updN hF
  refine ⟨ok.len, fun b u e => ?_, ok.ge.trans s, fun b u e => ?_, ok.keep, fun q e => ?_, fun b u e => ?_, fun i d e => ?_, fun i ds e => ?_, fun i ds e => ?_, ok.scr, ok.sep⟩
  · by_cases hb : b = p
    · subst hb; rw [upd_same] at e; cases e; exact hH
    · rw [upd_ne hb] at e; exact ok.sub b u e
  · by_cases hb : b = p
    · subst hb; exact .inr h0
    · rw [upd_ne hb] at e; exact ok.fe b u e
  · obtain ⟨a1, a2, a3, xs, a4⟩ := ok.iod q e
    have ne : q ≠ p := fun z => by subst z; exact a2 h0
    exact ⟨by rw [upd_ne ne]; exact a1, a2, (upd_ne ne).symm.trans a3, xs, a4⟩
  · have ne : b ≠ p := fun z => by subst z; rw [hp] at e; cases e
    obtain ⟨a1, a2, a3⟩ := ok.prt b u ((upd_ne ne).trans e)
    exact ⟨a1, by rw [upd_ne ne]; exact a2, a3⟩
  · obtain ⟨v, a1, a2⟩ := ok.val i d e
    exact ⟨v, a1, Dp.mono s a2⟩
  · obtain ⟨q, vs, a1, a2, a3, a4, a5, a6⟩ := ok.own i ds e
    have ne : q ≠ p := fun z => by
      subst z
      have a6' : upd c.pr q o q = none := a6
      rw [upd_same] at a6'; cases a6'
    exact ⟨q, vs, a1, a2, DpAll.mono s a3, by rw [upd_ne ne]; exact a4, a5, (upd_ne ne).symm.trans a6⟩
  · obtain ⟨z, q, vs, a1, a2, a3, a4⟩ := ok.ios i ds e
    exact ⟨z, q, vs, a1, a2, a3, DpAll.mono s a4⟩

/-! ### slots -/
def notIo : Option Sl → Bool
  | some (.io _) => false
  | _ => true
theorem get_set {α : Type} {l : List α} {i j : Nat} {a : α} (h : i < l.length) : (l.set i a)[j]? = if i = j then some a else l[j]? := by
  by_cases e : i = j
  · subst e; simp [h]
  · rw [List.getElem?_set_ne e, if_neg e]
/-- slot i gets any value; u says what is known of it -/
theorem Ok.set {v : Option V} {u : Sl} {i : Nat} (ok : Ok K c σ H F ρ) (hi : i < ρ.length)
    (hv : ∀ d, u = .val d → ∃ w, v = some w ∧ Dp K F w d)
    (ho : ∀ ds, u = .own ds → ∃ p vs, v = some (.ref p) ∧ H p = some (.lst vs) ∧ DpAll K F vs ds ∧ F p = none ∧ c.H0 p = none ∧ c.pr p = none ∧ ∀ (j : Nat) (es : List D), ρ[j]? = some (.own es) → σ[j]? = some (some (.ref p)) → j = i)
    (hio : ∀ ds, u ≠ .io ds) (hsc : ∀ ns, u ≠ .scr ns) : Ok K c (σ.set i v) H F (ρ.set i u) := by
  have hs : i < σ.length := by rw [ok.len]; exact hi
  refine ⟨by rw [List.length_set, List.length_set]; exact ok.len, ok.sub, ok.ge, ok.fe, ok.keep, ok.iod, ok.prt, fun j d e => ?_, fun j ds e => ?_, fun j ds e => ?_, fun j ns e => ?_, fun j k ds es p a b x y => ?_⟩
  · rw [get_set hi] at e
    rw [get_set hs]
    by_cases q : i = j
    · rw [if_pos q] at e ⊢
      obtain ⟨w, e1, e2⟩ := hv d (Option.some.inj e)
      exact ⟨w, by rw [e1], e2⟩
    · rw [if_neg q] at e ⊢
      exact ok.val j d e
  · rw [get_set hi] at e
    rw [get_set hs]
    by_cases q : i = j
    · rw [if_pos q] at e ⊢
      obtain ⟨p, vs, e1, e2, e3, e4, e5, e6, _⟩ := ho ds (Option.some.inj e)
      exact ⟨p, vs, by rw [e1], e2, e3, e4, e5, e6⟩
    · rw [if_neg q] at e ⊢
      exact ok.own j ds e
  · rw [get_set hi] at e
    rw [get_set hs]
    by_cases q : i = j
    · rw [if_pos q] at e
      exact absurd (Option.some.inj e) (hio ds)
    · rw [if_neg q] at e ⊢
      exact ok.ios j ds e
  · rw [get_set hi] at e
    rw [get_set hs]
    by_cases q : i = j
    · rw [if_pos q] at e
      exact absurd (Option.some.inj e) (hsc ns)
    · rw [if_neg q] at e ⊢
      exact ok.scr j ns e
  · rw [get_set hi] at a b
    rw [get_set hs] at x y
    by_cases q : i = j
    · rw [if_pos q] at a x
      obtain ⟨p', vs, e1, _, _, _, _, _, e7⟩ := ho ds (Option.some.inj a)
      have ep : p' = p := by
        have z := Option.some.inj x
        rw [e1] at z
        cases z; rfl
      subst ep
      by_cases q2 : i = k
      · rw [← q, q2]
      · rw [if_neg q2] at b y
        rw [e7 k es b y]; exact q.symm
    · rw [if_neg q] at a x
      by_cases q2 : i = k
      · rw [if_pos q2] at b y
        obtain ⟨p', vs, e1, _, _, _, _, _, e7⟩ := ho es (Option.some.inj b)
        have ep : p' = p := by
          have z := Option.some.inj y
          rw [e1] at z
          cases z; rfl
        subst ep
        rw [e7 j ds a x]; exact q2
      · rw [if_neg q2] at b y
        exact ok.sep j k ds es p a b x y
theorem Ok.setV {v : V} {d : D} {i : Nat} (ok : Ok K c σ H F ρ) (hi : i < ρ.length) (h : Dp K F v d) : Ok K c (σ.set i (some v)) H F (ρ.set i (.val d)) :=
  ok.set hi (fun d' e => ⟨v, rfl, by cases e; exact h⟩) (fun _ e => by cases e) (fun _ e => by cases e) (fun _ e => by cases e)
theorem Ok.setU {v : Option V} {i : Nat} (ok : Ok K c σ H F ρ) (hi : i < ρ.length) : Ok K c (σ.set i v) H F (ρ.set i .un) :=
  ok.set hi (fun d' e => by cases e) (fun _ e => by cases e) (fun _ e => by cases e) (fun _ e => by cases e)
/-- what was kept apart becomes a slot's own -/
theorem Ok.ownP {xs : List V} {ds : List D} {i : Nat} (ok : Ok K (c.put p (.lst xs)) σ H F ρ) (hp : c.pr p = none) (hd : DpAll K F xs ds) (hi : i < ρ.length) : Ok K c (σ.set i (some (.ref p))) H F (ρ.set i (.own ds)) := by
  obtain ⟨hH, hF, h0⟩ := ok.prt p _ upd_same
  have nown : ∀ {q : Addr}, (c.put p (.lst xs)).pr q = none → q ≠ p := fun {q} a z => by
    subst z
    have a' : upd c.pr q (.lst xs) q = none := a
    rw [upd_same] at a'; cases a'
  have ok' : Ok K c σ H F ρ := by
    refine ⟨ok.len, ok.sub, ok.ge, ok.fe, ok.keep, fun q e => ?_, fun b u e => ?_, ok.val, fun j es e => ?_, ok.ios, ok.scr, ok.sep⟩
    · obtain ⟨a1, a2, a3, a4⟩ := ok.iod q e
      exact ⟨a1, a2, (upd_ne (nown a3)).symm.trans a3, a4⟩
    · have ne : b ≠ p := fun z => by subst z; rw [hp] at e; cases e
      exact ok.prt b u ((upd_ne ne).trans e)
    · obtain ⟨q, vs, a1, a2, a3, a4, a5, a6⟩ := ok.own j es e
      exact ⟨q, vs, a1, a2, a3, a4, a5, (upd_ne (nown a6)).symm.trans a6⟩
  refine ok'.set hi (fun d' e => by cases e) (fun es e => ?_) (fun _ e => by cases e) (fun _ e => by cases e)
  cases e
  refine ⟨p, xs, rfl, hH, hd, hF, h0, hp, fun j es a b => ?_⟩
  obtain ⟨q, vs, a1, _, _, _, _, a6⟩ := ok.own j es a
  rw [b] at a1
  have z : p = q := by cases a1; rfl
  exact absurd z.symm (nown a6)
/-- a slot's own list is from now on seen by all -/
theorem Ok.frz {i : Nat} {ds : List D} (ok : Ok K c σ H F ρ) (e : ρ[i]? = some (.own ds)) : ∃ (F' : Hp) (p : Addr), Same F F' ∧ σ[i]? = some (some (.ref p)) ∧ Dp K F' (.ref p) (.list ds) ∧ Ok K c σ H F' (ρ.set i (.val (.list ds))) := by
  obtain ⟨p, vs, a1, a2, a3, a4, a5, a6⟩ := ok.own i ds e
  have hi : i < ρ.length := by
    rcases Nat.lt_or_ge i ρ.length with h | h
    · exact h
    · rw [List.getElem?_eq_none h] at e; cases e
  have s : Same F (upd F p (.lst vs)) := Same.updN a4
  have dp : Dp K (upd F p (.lst vs)) (.ref p) (.list ds) := .lst (.inl upd_same) (DpAll.mono s a3)
  refine ⟨upd F p (.lst vs), p, s, a1, dp, ?_⟩
  refine ⟨by rw [List.length_set]; exact ok.len, fun b u q => ?_, ok.ge.trans s, fun b u q => ?_, ok.keep, fun q z => ?_, fun b u q => ?_, fun j d q => ?_, fun j es q => ?_, fun j es q => ?_, fun j ns q => ?_, fun j k es fs q x y u w => ?_⟩
  · by_cases hb : b = p
    · subst hb; rw [upd_same] at q; cases q; exact a2
    · rw [upd_ne hb] at q; exact ok.sub b u q
  · by_cases hb : b = p
    · subst hb; exact .inr a5
    · rw [upd_ne hb] at q; exact ok.fe b u q
  · obtain ⟨b1, b2, b3, b4⟩ := ok.iod q z
    have ne : q ≠ p := fun z => by subst z; exact b2 a5
    exact ⟨by rw [upd_ne ne]; exact b1, b2, b3, b4⟩
  · have ne : b ≠ p := fun z => by subst z; rw [a6] at q; cases q
    obtain ⟨b1, b2, b3⟩ := ok.prt b u q
    exact ⟨b1, by rw [upd_ne ne]; exact b2, b3⟩
  · rw [get_set hi] at q
    by_cases z : i = j
    · rw [if_pos z] at q
      subst z
      cases q
      exact ⟨_, a1, dp⟩
    · rw [if_neg z] at q
      obtain ⟨v, b1, b2⟩ := ok.val j d q
      exact ⟨v, b1, Dp.mono s b2⟩
  · rw [get_set hi] at q
    by_cases z : i = j
    · rw [if_pos z] at q; cases q
    · rw [if_neg z] at q
      obtain ⟨r, ws, b1, b2, b3, b4, b5, b6⟩ := ok.own j es q
      have ne : r ≠ p := fun y => by
        subst y
        exact z (ok.sep i j ds es r e q a1 b1)
      exact ⟨r, ws, b1, b2, DpAll.mono s b3, by rw [upd_ne ne]; exact b4, b5, b6⟩
  · rw [get_set hi] at q
    by_cases z : i = j
    · rw [if_pos z] at q; cases q
    · rw [if_neg z] at q
      obtain ⟨y, r, ws, b1, b2, b3, b4⟩ := ok.ios j es q
      exact ⟨y, r, ws, b1, b2, b3, DpAll.mono s b4⟩
  · rw [get_set hi] at q
    by_cases z : i = j
    · rw [if_pos z] at q; cases q
    · rw [if_neg z] at q
      exact ok.scr j ns q
  · rw [get_set hi] at x y
    by_cases z : i = j
    · rw [if_pos z] at x; cases x
    · rw [if_neg z] at x
      by_cases z2 : i = k
      · rw [if_pos z2] at y; cases y
      · rw [if_neg z2] at y
        exact ok.sep j k es fs q x y u w
/-- a slot's own list is changed -/
theorem Ok.change {i : Nat} {ds ds' : List D} {vs' : List V} (ok : Ok K c σ H F ρ) (e : ρ[i]? = some (.own ds)) (p : Addr) (hp : σ[i]? = some (some (.ref p))) (hd : DpAll K F vs' ds') : Ok K c σ (upd H p (.lst vs')) F (ρ.set i (.own ds')) := by
  obtain ⟨p', vs, a1, a2, a3, a4, a5, a6⟩ := ok.own i ds e
  have hpp : p' = p := by rw [hp] at a1; cases a1; rfl
  subst hpp
  have hi : i < ρ.length := by
    rcases Nat.lt_or_ge i ρ.length with h | h
    · exact h
    · rw [List.getElem?_eq_none h] at e; cases e
  refine ⟨by rw [List.length_set]; exact ok.len, fun b u q => ?_, ok.ge, ok.fe, fun b u q n => ?_, fun q z => ?_, fun b u q => ?_, fun j d q => ?_, fun j es q => ?_, fun j es q => ?_, fun j ns q => ?_, fun j k es fs q x y u w => ?_⟩
  · rw [upd_ne (ne_of_none q a4)]; exact ok.sub b u q
  · rw [upd_ne (ne_of_none q a5)]; exact ok.keep b u q n
  · obtain ⟨b1, b2, b3, xs, b4⟩ := ok.iod q z
    have ne : q ≠ p' := fun z => by subst z; exact b2 a5
    exact ⟨b1, b2, b3, xs, by rw [upd_ne ne]; exact b4⟩
  · have ne : b ≠ p' := fun z => by subst z; rw [a6] at q; cases q
    obtain ⟨b1, b2, b3⟩ := ok.prt b u q
    exact ⟨by rw [upd_ne ne]; exact b1, b2, b3⟩
  · rw [get_set hi] at q
    by_cases z : i = j
    · rw [if_pos z] at q; cases q
    · rw [if_neg z] at q
      exact ok.val j d q
  · rw [get_set hi] at q
    by_cases z : i = j
    · rw [if_pos z] at q
      subst z
      cases q
      exact ⟨p', vs', a1, upd_same, hd, a4, a5, a6⟩
    · rw [if_neg z] at q
      obtain ⟨r, ws, b1, b2, b3, b4, b5, b6⟩ := ok.own j es q
      have ne : r ≠ p' := fun y => by
        subst y
        exact z (ok.sep i j ds es r e q a1 b1)
      exact ⟨r, ws, b1, by rw [upd_ne ne]; exact b2, b3, b4, b5, b6⟩
  · rw [get_set hi] at q
    by_cases z : i = j
    · rw [if_pos z] at q; cases q
    · rw [if_neg z] at q
      obtain ⟨y, r, ws, b1, b2, b3, b4⟩ := ok.ios j es q
      have ne : r ≠ p' := fun y => by
        subst y
        obtain ⟨_, c2, _⟩ := ok.iod r b1
        exact c2 a5
      exact ⟨y, r, ws, b1, b2, by rw [upd_ne ne]; exact b3, b4⟩
  · rw [get_set hi] at q
    by_cases z : i = j
    · rw [if_pos z] at q; cases q
    · rw [if_neg z] at q
      exact ok.scr j ns q
  · rw [get_set hi] at x y
    by_cases z : i = j
    · subst z
      by_cases z2 : i = k
      · exact z2
      · rw [if_neg z2] at y
        exact ok.sep i k ds fs q e y u w
    · rw [if_neg z] at x
      by_cases z2 : i = k
      · subst z2
        exact ok.sep j i es ds q x e u w
      · rw [if_neg z2] at y
        exact ok.sep j k es fs q x y u w
/-- the caller's list is changed -/
theorem Ok.changeI {i : Nat} {ds ds' : List D} {vs' : List V} (ok : Ok K c σ H F ρ) (e : ρ[i]? = some (.io ds)) (p : Addr) (hp : σ[i]? = some (some (.ref p))) (hd : DpAll K F vs' ds') : Ok K c σ (upd H p (.lst vs')) F (ρ.set i (.io ds')) := by
  obtain ⟨i0, p', vs, a1, a2, a3, a4⟩ := ok.ios i ds e
  have hpp : p' = p := by rw [hp] at a2; cases a2; rfl
  subst hpp
  obtain ⟨b1, b2, b3, xs, b4⟩ := ok.iod p' a1
  have hi : i < ρ.length := by
    rcases Nat.lt_or_ge i ρ.length with h | h
    · exact h
    · rw [List.getElem?_eq_none h] at e; cases e
  have noi : ∀ {q : Addr}, c.io = some q → q = p' := fun {q} z => by rw [a1] at z; cases z; rfl
  refine ⟨by rw [List.length_set]; exact ok.len, fun b u q => ?_, ok.ge, ok.fe, fun b u q n => ?_, fun q z => ?_, fun b u q => ?_, fun j d q => ?_, fun j es q => ?_, fun j es q => ?_, fun j ns q => ?_, fun j k es fs q x y u w => ?_⟩
  · rw [upd_ne (ne_of_none q b1)]; exact ok.sub b u q
  · have ne : b ≠ p' := fun z => by subst z; exact n a1
    rw [upd_ne ne]; exact ok.keep b u q n
  · have := noi z
    subst this
    exact ⟨b1, b2, b3, vs', upd_same⟩
  · have ne : b ≠ p' := fun z => by subst z; rw [b3] at q; cases q
    obtain ⟨c1, c2, c3⟩ := ok.prt b u q
    exact ⟨by rw [upd_ne ne]; exact c1, c2, c3⟩
  · rw [get_set hi] at q
    by_cases z : i = j
    · rw [if_pos z] at q; cases q
    · rw [if_neg z] at q
      exact ok.val j d q
  · rw [get_set hi] at q
    by_cases z : i = j
    · rw [if_pos z] at q; cases q
    · rw [if_neg z] at q
      obtain ⟨r, ws, c1, c2, c3, c4, c5, c6⟩ := ok.own j es q
      have ne : r ≠ p' := fun y => by
        subst y
        exact b2 c5
      exact ⟨r, ws, c1, by rw [upd_ne ne]; exact c2, c3, c4, c5, c6⟩
  · rw [get_set hi] at q
    by_cases z : i = j
    · rw [if_pos z] at q
      subst z
      cases q
      exact ⟨i0, p', vs', a1, a2, upd_same, hd⟩
    · rw [if_neg z] at q
      obtain ⟨y, _⟩ := ok.ios j es q
      exact absurd (i0.trans y.symm) z
  · rw [get_set hi] at q
    by_cases z : i = j
    · rw [if_pos z] at q; cases q
    · rw [if_neg z] at q
      exact ok.scr j ns q
  · rw [get_set hi] at x y
    by_cases z : i = j
    · rw [if_pos z] at x; cases x
    · rw [if_neg z] at x
      by_cases z2 : i = k
      · rw [if_pos z2] at y; cases y
      · rw [if_neg z2] at y
        exact ok.sep j k es fs q x y u w
end
end Dd

namespace Dd
open PySem PySem.Spec L2
/-- an error: its class, its fields -/
structure Ex where
  C : Str
  fs : List (Str × D)
inductive R (α : Type) where
  | ok (a : α) (ρ : En)
  | ex (e : Ex) (ρ : En)
abbrev M (α : Type) := En → Option (R α)
def mPure {α : Type} (a : α) : M α := fun ρ => some (.ok a ρ)
def mBind {α β : Type} (m : M α) (f : α → M β) : M β := fun ρ => match m ρ with
  | none => none
  | some (.ok a ρ') => f a ρ'
  | some (.ex e ρ') => some (.ex e ρ')
def mLift {α : Type} (o : Option α) : M α := fun ρ => match o with
  | none => none
  | some a => some (.ok a ρ)
def mStuck {α : Type} : M α := fun _ => none

def ExR (K : PySem.W.Frag) (e : Ex) (cls : Value) (x : Option Addr) (F' H' : Hp) : Prop :=
  ∃ Ca : Addr, PySem.W.nsIn K mainGlobals e.C = some (some (.ref Ca)) ∧ cls = .ref Ca ∧ ∃ (dd : Addr) (vs : List (Str × V)), x = some dd ∧ F' dd = some (.xd vs) ∧ vs.map (·.1) = e.fs.map (·.1) ∧ DpAll K F' (vs.map (·.2)) (e.fs.map (·.2))

def post {α : Type} (K : PySem.W.Frag) (W : WX) (c : Ct) (σ : St) (F : Hp) (G : α → Hp → Hp → Prop) : Option (R α) → Prop
  | none => False
  | some (.ok a ρ') => ∀ H' F', Ok K c σ H' F' ρ' → Same F F' → G a H' F'
  | some (.ex e ρ') => ∀ cls x H' F', Ok K c σ H' F' ρ' → Same F F' → ExR K e cls x F' H' → W cls x σ H'
section
variable {α β : Type} {K : PySem.W.Frag} {W : WX} {c : Ct} {σ : St} {F H : Hp} {ρ : En}
theorem post_weak {G : α → Hp → Hp → Prop} {F1 : Hp} (s : Same F F1) : ∀ {r : Option (R α)}, post K W c σ F G r → post K W c σ F1 G r
  | some (.ok a ρ'), h => fun H' F' ok s' => h H' F' ok (s.trans s')
  | some (.ex e ρ'), h => fun cls x H' F' ok s' => h cls x H' F' ok (s.trans s')
theorem post_mono {G G' : α → Hp → Hp → Prop} (k : ∀ a H' F', Same F F' → G a H' F' → G' a H' F') : ∀ {r : Option (R α)}, post K W c σ F G r → post K W c σ F G' r
  | some (.ok a ρ'), h => fun H' F' ok s => k a H' F' s (h H' F' ok s)
  | some (.ex e ρ'), h => h
theorem post_bind {G : β → Hp → Hp → Prop} {m : M α} {f : α → M β} (h : post K W c σ F G (mBind m f ρ)) :
    post K W c σ F (fun a H1 F1 => ∃ ρ1, Ok K c σ H1 F1 ρ1 ∧ Same F F1 ∧ post K W c σ F1 G (f a ρ1)) (m ρ) := by
  unfold mBind at h
  cases e : m ρ with
  | none => rw [e] at h; exact h
  | some r =>
    rw [e] at h
    cases r with
    | ok a ρ' => exact fun H' F' ok s => ⟨ρ', ok, s, post_weak s h⟩
    | ex x ρ' => exact h
theorem post_ok {G : α → Hp → Hp → Prop} {a : α} (h : post K W c σ F G (some (.ok a ρ))) (ok : Ok K c σ H F ρ) : G a H F := h H F ok (Same.refl F)
theorem post_lift {G : α → Hp → Hp → Prop} {o : Option α} (h : post K W c σ F G (mLift o ρ)) : ∃ a, o = some a ∧ post K W c σ F G (some (.ok a ρ)) := by
  unfold mLift at h
  cases o with
  | none => exact h.elim
  | some a => exact ⟨a, rfl, h⟩
end
/-! ### the judgements -/
abbrev qE (K : PySem.W.Frag) (Q : VK) : D → Hp → Hp → Prop := fun d H' F' => ∀ v, Dp K F' v d → Q v H'
abbrev qT (Q : Bool → Hp → Prop) : Bool → Hp → Hp → Prop := fun b H' _ => Q b H'
abbrev qA (K : PySem.W.Frag) (Q : List V → Hp → Prop) : List D → Hp → Hp → Prop := fun ds H' F' => ∀ vs, DpAll K F' vs ds → Q vs H'
def Pk (K : PySem.W.Frag) (H F : Hp) (x : V) (a : D) : Prop := Dp K F x a ∨ ∃ (p : Addr) (vs : List V) (ds : List D), x = .ref p ∧ a = .list ds ∧ H p = some (.lst vs) ∧ DpAll K F vs ds
abbrev qP (K : PySem.W.Frag) (Q : VK) : D → Hp → Hp → Prop := fun d H' F' => ∀ v, Pk K H' F' v d → Q v H'
def tE (K : PySem.W.Frag) (W : WX) (m : M D) : TE := fun σ H Q => ∃ c F ρ, Ok K c σ H F ρ ∧ post K W c σ F (qE K Q) (m ρ)
/-- a value that may be a slot's own list: looked at, then gone -/
def tP (K : PySem.W.Frag) (W : WX) (m : M D) : TE := fun σ H Q => ∃ c F ρ, Ok K c σ H F ρ ∧ post K W c σ F (qP K Q) (m ρ)
def tT (K : PySem.W.Frag) (W : WX) (m : M Bool) : TT := fun σ H Q => ∃ c F ρ, Ok K c σ H F ρ ∧ post K W c σ F (qT Q) (m ρ)
def tA (K : PySem.W.Frag) (W : WX) (m : M (List D)) : TA := fun σ H Q => ∃ c F ρ, Ok K c σ H F ρ ∧ post K W c σ F (qA K Q) (m ρ)
inductive Fl where
  | nx | bk | ct
  | rt (d : D)
  | rf (ds : List D)
def postS (K : PySem.W.Frag) (W : WX) (c : Ct) (F : Hp) (Dn : Ends) : Option (R Fl) → Prop
  | none => False
  | some (.ok .nx ρ') => ∀ σ' H' F', Ok K c σ' H' F' ρ' → Same F F' → Dn.nx σ' H'
  | some (.ok .bk ρ') => ∀ σ' H' F', Ok K c σ' H' F' ρ' → Same F F' → Dn.bk σ' H'
  | some (.ok .ct ρ') => ∀ σ' H' F', Ok K c σ' H' F' ρ' → Same F F' → Dn.ct σ' H'
  | some (.ok (.rt d) ρ') => ∀ σ' v H' F', Ok K c σ' H' F' ρ' → Same F F' → Dp K F' v d → Dn.rt v H'
  | some (.ok (.rf ds) ρ') => ∀ σ' p vs H' F', Ok K c σ' H' F' ρ' → Same F F' → H' p = some (.lst vs) → DpAll K F' vs ds → F' p = none → c.H0 p = none → Dn.rt (.ref p) H'
  | some (.ex e ρ') => ∀ σ' cls x H' F', Ok K c σ' H' F' ρ' → Same F F' → ExR K e cls x F' H' → W cls x σ' H'
def tS (K : PySem.W.Frag) (W : WX) (m : M Fl) : TS := fun Dn σ H => ∃ c F ρ, Ok K c σ H F ρ ∧ postS K W c F Dn (m ρ)
/-- a store: of a value, by a target -/
def postG (K : PySem.W.Frag) (W : WX) (c : Ct) (F : Hp) (Q : St → Hp → Prop) : Option (R Unit) → Prop
  | none => False
  | some (.ok _ ρ') => ∀ σ' H' F', Ok K c σ' H' F' ρ' → Same F F' → Q σ' H'
  | some (.ex e ρ') => ∀ σ' cls x H' F', Ok K c σ' H' F' ρ' → Same F F' → ExR K e cls x F' H' → W cls x σ' H'
def tG (K : PySem.W.Frag) (W : WX) (g : D → M Unit) : TG := fun v σ H Q => ∃ c F ρ d, Ok K c σ H F ρ ∧ Dp K F v d ∧ postG K W c F Q (g d ρ)
def tGs (K : PySem.W.Frag) (W : WX) (g : List D → M Unit) : TGs := fun vs σ H Q => ∃ c F ρ ds, Ok K c σ H F ρ ∧ DpAll K F vs ds ∧ postG K W c F Q (g ds ρ)
section
variable {X : Cx} {e : Expr} {es : List Expr} {st : Stmt} {sts : List Stmt}
theorem PE.imp {t t' : TE} (h : PE X e t) (k : ∀ σ H Q, t' σ H Q → t σ H Q) : PE X e t' := ⟨fun pins s σ H Q I q => h.run pins s σ H Q I (k σ H Q q)⟩
theorem PT.imp {t t' : TT} (h : PT X e t) (k : ∀ σ H Q, t' σ H Q → t σ H Q) : PT X e t' := ⟨fun pins s σ H Q I q => h.run pins s σ H Q I (k σ H Q q)⟩
theorem PA.imp {t t' : TA} (h : PA X es t) (k : ∀ σ H Q, t' σ H Q → t σ H Q) : PA X es t' := ⟨fun pos pins s σ H Q I q => h.run pos pins s σ H Q I (k σ H Q q)⟩
theorem PS.imp {t t' : TS} (h : PS X st t) (k : ∀ Dn σ H, t' Dn σ H → t Dn σ H) : PS X st t' := ⟨fun pins s σ H Dn I q => h.run pins s σ H Dn I (k Dn σ H q)⟩
theorem PSs.imp {t t' : TS} (h : PSs X sts t) (k : ∀ Dn σ H, t' Dn σ H → t Dn σ H) : PSs X sts t' := ⟨fun pins s σ H Dn I q => h.run pins s σ H Dn I (k Dn σ H q)⟩
theorem PG.imp {t t' : TG} (h : PG X e t) (k : ∀ v σ H Q, t' v σ H Q → t v σ H Q) : PG X e t' := ⟨fun pins s σ H v u Q I r q => h.run pins s σ H v u Q I r (k v σ H Q q)⟩
theorem PGs.imp {t t' : TGs} (h : PGs X es t) (k : ∀ v σ H Q, t' v σ H Q → t v σ H Q) : PGs X es t' := ⟨fun pins s σ H v u Q I r q => h.run pins s σ H v u Q I r (k v σ H Q q)⟩
theorem PI.imp {tg : Expr} {t t' : TI} (h : PI X tg e t) (k : ∀ σ H Q, t' σ H Q → t σ H Q) : PI X tg e t' := ⟨fun pins s σ H Q I q => h.run pins s σ H Q I (k σ H Q q)⟩
end
section
variable {K : PySem.W.Frag} {W : WX} {c : Ct} {σ : St} {F H : Hp} {ρ : En}
theorem postS_weak {Dn : Ends} {F1 : Hp} (s : Same F F1) : ∀ {r : Option (R Fl)}, postS K W c F Dn r → postS K W c F1 Dn r
  | some (.ok .nx ρ'), h => fun σ' H' F' ok s' => h σ' H' F' ok (s.trans s')
  | some (.ok .bk ρ'), h => fun σ' H' F' ok s' => h σ' H' F' ok (s.trans s')
  | some (.ok .ct ρ'), h => fun σ' H' F' ok s' => h σ' H' F' ok (s.trans s')
  | some (.ok (.rt d) ρ'), h => fun σ' v H' F' ok s' => h σ' v H' F' ok (s.trans s')
  | some (.ok (.rf d) ρ'), h => fun σ' p v H' F' ok s' => h σ' p v H' F' ok (s.trans s')
  | some (.ex e ρ'), h => fun σ' cls x H' F' ok s' => h σ' cls x H' F' ok (s.trans s')
theorem postG_weak {Q : St → Hp → Prop} {F1 : Hp} (s : Same F F1) : ∀ {r : Option (R Unit)}, postG K W c F Q r → postG K W c F1 Q r
  | some (.ok _ ρ'), h => fun σ' H' F' ok s' => h σ' H' F' ok (s.trans s')
  | some (.ex e ρ'), h => fun σ' cls x H' F' ok s' => h σ' cls x H' F' ok (s.trans s')
/-- an expression ahead of what is stated of a statement -/
theorem postS_bind {α : Type} {Dn : Ends} {m : M α} {f : α → M Fl} (h : postS K W c F Dn (mBind m f ρ)) :
    post K W c σ F (fun a H1 F1 => ∃ ρ1, Ok K c σ H1 F1 ρ1 ∧ Same F F1 ∧ postS K W c F1 Dn (f a ρ1)) (m ρ) := by
  unfold mBind at h
  cases e : m ρ with
  | none => rw [e] at h; exact h.elim
  | some r =>
    rw [e] at h
    cases r with
    | ok a ρ' => exact fun H' F' ok s => ⟨ρ', ok, s, postS_weak s h⟩
    | ex x ρ' => exact fun cls y H' F' ok s q => h σ cls y H' F' ok s q
theorem postG_bind {α : Type} {Q : St → Hp → Prop} {m : M α} {f : α → M Unit} (h : postG K W c F Q (mBind m f ρ)) :
    post K W c σ F (fun a H1 F1 => ∃ ρ1, Ok K c σ H1 F1 ρ1 ∧ Same F F1 ∧ postG K W c F1 Q (f a ρ1)) (m ρ) := by
  unfold mBind at h
  cases e : m ρ with
  | none => rw [e] at h; exact h.elim
  | some r =>
    rw [e] at h
    cases r with
    | ok a ρ' => exact fun H' F' ok s => ⟨ρ', ok, s, postG_weak s h⟩
    | ex x ρ' => exact fun cls y H' F' ok s q => h σ cls y H' F' ok s q
/-- a store ahead of what is stated of a statement, of a store -/
theorem postG_mono {Q Q' : St → Hp → Prop} (k : ∀ σ' H', Q σ' H' → Q' σ' H') : ∀ {r : Option (R Unit)}, postG K W c F Q r → postG K W c F Q' r
  | some (.ok _ ρ'), h => fun σ' H' F' ok s' => k _ _ (h σ' H' F' ok s')
  | some (.ex e ρ'), h => h
theorem postS_bindG {Dn : Ends} {m : M Unit} {f : Unit → M Fl} (h : postS K W c F Dn (mBind m f ρ)) :
    postG K W c F (fun σ1 H1 => ∃ F1 ρ1, Ok K c σ1 H1 F1 ρ1 ∧ Same F F1 ∧ postS K W c F1 Dn (f () ρ1)) (m ρ) := by
  unfold mBind at h
  cases e : m ρ with
  | none => rw [e] at h; exact h.elim
  | some r =>
    rw [e] at h
    cases r with
    | ok a ρ' => exact fun σ' H' F' ok s => ⟨F', ρ', ok, s, postS_weak s h⟩
    | ex x ρ' => exact h
theorem postG_bindG {Q : St → Hp → Prop} {m : M Unit} {f : Unit → M Unit} (h : postG K W c F Q (mBind m f ρ)) :
    postG K W c F (fun σ1 H1 => ∃ F1 ρ1, Ok K c σ1 H1 F1 ρ1 ∧ Same F F1 ∧ postG K W c F1 Q (f () ρ1)) (m ρ) := by
  unfold mBind at h
  cases e : m ρ with
  | none => rw [e] at h; exact h.elim
  | some r =>
    rw [e] at h
    cases r with
    | ok a ρ' => exact fun σ' H' F' ok s => ⟨F', ρ', ok, s, postG_weak s h⟩
    | ex x ρ' => exact h
end

/-! ### what a looked-at value is -/
section
variable {K : PySem.W.Frag} {c : Ct} {σ : St} {F H : Hp} {ρ : En} {x : V}
theorem Pk.of {a : D} (h : Dp K F x a) : Pk K H F x a := .inl h
theorem Pk.dp {a : D} (s : Same F H) (h : Pk K H F x a) : L2.Dp K H x a := by
  rcases h with h | ⟨p, vs, ds, rfl, rfl, h, r⟩
  · exact Dp.l2 (Dp.mono s h)
  · exact .lst (SqL.of h) (DpAll.l2 (DpAll.mono s r))
theorem Pk.rd {ds : List D} (s : Same F H) (h : Pk K H F x (.list ds)) : ∃ p vs, x = .ref p ∧ Rd H p (.lst vs) ∧ DpAll K F vs ds := by
  rcases h with h | ⟨p, vs, es, rfl, e, h, r⟩
  · cases h with
    | lst h r => exact ⟨_, _, rfl, Rd.mono s h, r⟩
  · cases e
    exact ⟨p, vs, rfl, .inl h, r⟩
theorem Pk.lst {ds : List D} (s : Same F H) (h : Pk K H F x (.list ds)) : ∃ p vs, x = .ref p ∧ SqL K H p vs ∧ DpAll K F vs ds := by
  rcases h with h | ⟨p, vs, es, rfl, e, h, r⟩
  · cases h with
    | lst h r => exact ⟨_, _, rfl, .inl (Rd.mono s h), r⟩
  · cases e
    exact ⟨p, vs, rfl, SqL.of h, r⟩
theorem Pk.tup {ds : List D} (s : Same F H) (h : Pk K H F x (.tuple ds)) : ∃ p vs, x = .ref p ∧ SqT K H p vs ∧ DpAll K F vs ds := by
  rcases h with h | ⟨p, vs, es, rfl, e, h, r⟩
  · cases h with
    | tup h r => exact ⟨_, _, rfl, SqT.mono s h, r⟩
  · cases e
theorem Pk.int {i : Int} (h : Pk K H F x (.int i)) : x = .int i := by
  rcases h with h | ⟨p, vs, es, rfl, e, h, r⟩
  · cases h; rfl
  · cases e
theorem Pk.bool {i : Bool} (h : Pk K H F x (.bool i)) : x = .bl i := by
  rcases h with h | ⟨p, vs, es, rfl, e, h, r⟩
  · cases h; rfl
  · cases e
theorem Pk.str {i : Str} (h : Pk K H F x (.str i)) : x = .str i := by
  rcases h with h | ⟨p, vs, es, rfl, e, h, r⟩
  · cases h; rfl
  · cases e
theorem Pk.none (h : Pk K H F x .none) : x = .non := by
  rcases h with h | ⟨p, vs, es, rfl, e, h, r⟩
  · cases h; rfl
  · cases e
end

/-! ### names -/
def mVar (i : Nat) : M D := fun ρ => match ρ[i]? with
  | some (.val d) => some (.ok d ρ)
  | some (.own ds) => some (.ok (.list ds) (ρ.set i (.val (.list ds))))
  | _ => none
def mPeek (i : Nat) : M D := fun ρ => match ρ[i]? with
  | some (.val d) => some (.ok d ρ)
  | some (.own ds) => some (.ok (.list ds) ρ)
  | some (.io ds) => some (.ok (.list ds) ρ)
  | _ => none
section
variable {X : Cx} {K : PySem.W.Frag} {W : WX} {c : Ct} {σ : St} {F H : Hp} {ρ : En}
theorem peek_at {i : Nat} {Q : VK} (ok : Ok K c σ H F ρ) (h : post K W c σ F (qP K Q) (mPeek i ρ)) : ∃ v d, σ[i]? = some (some v) ∧ Pk K H F v d ∧ mPeek i ρ = some (.ok d ρ) ∧ Q v H := by
  unfold mPeek at h ⊢
  split at h
  · rename_i d e
    obtain ⟨v, a1, a2⟩ := ok.val i d e
    exact ⟨v, d, a1, .inl a2, rfl, h H F ok (Same.refl F) v (.inl a2)⟩
  · rename_i ds e
    obtain ⟨p, vs, a1, a2, a3, _⟩ := ok.own i ds e
    have q : Pk K H F (.ref p) (.list ds) := .inr ⟨p, vs, ds, rfl, rfl, a2, a3⟩
    exact ⟨.ref p, _, a1, q, rfl, h H F ok (Same.refl F) _ q⟩
  · rename_i ds e
    obtain ⟨_, p, vs, _, a1, a2, a3⟩ := ok.ios i ds e
    have q : Pk K H F (.ref p) (.list ds) := .inr ⟨p, vs, ds, rfl, rfl, a2, a3⟩
    exact ⟨.ref p, _, a1, q, rfl, h H F ok (Same.refl F) _ q⟩
  · exact h.elim
theorem tVar_of {i : Nat} {Q : VK} (h : tE K W (mVar i) σ H Q) : tVar i σ H Q := by
  obtain ⟨c, F, ρ, ok, h⟩ := h
  unfold mVar at h
  split at h
  · rename_i d e
    obtain ⟨v, a1, a2⟩ := ok.val i d e
    exact ⟨v, a1, h H F ok (Same.refl F) v a2⟩
  · rename_i ds e
    obtain ⟨F', p, s, a1, a2, ok'⟩ := ok.frz e
    exact ⟨.ref p, a1, h H F' ok' s _ a2⟩
  · exact h.elim
theorem tVar_ofP {i : Nat} {Q : VK} (h : tP K W (mPeek i) σ H Q) : tVar i σ H Q := by
  obtain ⟨c, F, ρ, ok, h⟩ := h
  obtain ⟨v, d, a1, _, _, q⟩ := peek_at ok h
  exact ⟨v, a1, q⟩
theorem tP_of {m : M D} {Q : VK} (h : tP K W m σ H Q) : tE K W m σ H Q := by
  obtain ⟨c, F, ρ, ok, h⟩ := h
  exact ⟨c, F, ρ, ok, post_mono (fun a H' F' _ q v r => q v (.inl r)) h⟩
theorem dv (i : Nat) {x : Str} {pos : Pos} (hN : X.N[i]? = some x := by rfl) (hv : Vis X.env.scope x := by first | exact Or.inl rfl | exact Or.inr (Or.inl rfl) | exact Or.inr (Or.inr rfl)) (hd : (x == ("__debug__" : Str)) = false := by decide)
    (hcd : (x == ("__classdict__" : Str)) = false := by decide) : PE X (.Name x pos) (tE K W (mVar i)) := PE.imp (pe_var hN hv hd hcd) fun _ _ _ => tVar_of
theorem dpk (i : Nat) {x : Str} {pos : Pos} (hN : X.N[i]? = some x := by rfl) (hv : Vis X.env.scope x := by first | exact Or.inl rfl | exact Or.inr (Or.inl rfl) | exact Or.inr (Or.inr rfl)) (hd : (x == ("__debug__" : Str)) = false := by decide)
    (hcd : (x == ("__classdict__" : Str)) = false := by decide) : PE X (.Name x pos) (tP K W (mPeek i)) := PE.imp (pe_var hN hv hd hcd) fun _ _ _ => tVar_ofP
/-- any value may be looked at -/
theorem dP {e : Expr} {m : M D} (h : PE X e (tE K W m)) : PE X e (tP K W m) := PE.imp h fun _ _ _ => tP_of
/-! constants -/
theorem tC_of {v : V} {d : D} {Q : VK} (r : ∀ F, Dp K F v d) (h : tE K W (mPure d) σ H Q) : tC v σ H Q := by
  obtain ⟨c, F, ρ, ok, h⟩ := h
  exact h H F ok (Same.refl F) v (r F)
theorem dInt {i : Int} {j pos} : PE X (.Constant (.int i) j pos) (tE K W (mPure (.int i))) := PE.imp pe_int fun _ _ _ => tC_of fun _ => .int i
theorem dBl {b : Bool} {j pos} : PE X (.Constant (.bool b) j pos) (tE K W (mPure (.bool b))) := PE.imp pe_bl fun _ _ _ => tC_of fun _ => .bl b
theorem dNon {j pos} : PE X (.Constant .none j pos) (tE K W (mPure .none)) := PE.imp pe_non fun _ _ _ => tC_of fun _ => .non
theorem dStr {x : Str} {j pos} : PE X (.Constant (.str x) j pos) (tE K W (mPure (.str x))) := PE.imp pe_str fun _ _ _ => tC_of fun _ => .str x
/-- what the run never comes to -/
theorem dNever {e : Expr} : PE X e (tE K W mStuck) := ⟨fun _ _ _ _ _ _ h => by obtain ⟨_, _, _, _, h⟩ := h; exact h.elim⟩
theorem dNeverS {st : Stmt} : PS X st (tS K W mStuck) := ⟨fun _ _ _ _ _ _ h => by obtain ⟨_, _, _, _, h⟩ := h; exact h.elim⟩

/-! ### two values, and what comes of them -/
/-- a rule of the layer serves g -/
def OpD (K : PySem.W.Frag) (r : R2) (g : D → D → Option D) : Prop :=
  ∀ {W : WX} {c : Ct} {σ : St} {H F : Hp} {ρ : En} {x y : V} {a b d : D} {Q : VK}, Ok K c σ H F ρ → Pk K H F x a → Pk K H F y b → g a b = some d → post K W c σ F (qE K Q) (some (.ok d ρ)) → r x y H Q
def mBin (g : D → D → Option D) (ma mb : M D) : M D := mBind ma fun a => mBind mb fun b => mLift (g a b)
theorem post_peek {α : Type} {i : Nat} {G : α → Hp → Hp → Prop} {f : D → M α} (ok : Ok K c σ H F ρ) (h : post K W c σ F G (mBind (mPeek i) f ρ)) : ∃ v d, σ[i]? = some (some v) ∧ Pk K H F v d ∧ post K W c σ F G (f d ρ) := by
  unfold mBind mPeek at h
  cases e : ρ[i]? with
  | none => rw [e] at h; exact h.elim
  | some u =>
    rw [e] at h
    cases u with
    | un => exact h.elim
    | val d =>
      obtain ⟨v, a1, a2⟩ := ok.val i d e
      exact ⟨v, d, a1, .inl a2, h⟩
    | own ds =>
      obtain ⟨p, vs, a1, a2, a3, _⟩ := ok.own i ds e
      exact ⟨.ref p, _, a1, .inr ⟨p, vs, ds, rfl, rfl, a2, a3⟩, h⟩
    | io ds =>
      obtain ⟨_, p, vs, _, a1, a2, a3⟩ := ok.ios i ds e
      exact ⟨.ref p, _, a1, .inr ⟨p, vs, ds, rfl, rfl, a2, a3⟩, h⟩
    | scr ns => exact h.elim
/-- the left one is a slot, read behind the right one -/
def mBinL (g : D → D → Option D) (i : Nat) (mb : M D) : M D := mBind (mPeek i) fun _ => mBind mb fun b => mBind (mPeek i) fun a => mLift (g a b)
theorem tOp_of {r : R2} {g : D → D → Option D} (ho : OpD K r g) {ma mb : M D} {Q : VK} (h : tE K W (mBin g ma mb) σ H Q) : tOp r (tE K W ma) (tP K W mb) σ H Q := by
  obtain ⟨c, F, ρ, ok, h⟩ := h
  refine ⟨c, F, ρ, ok, post_mono ?_ (post_bind h)⟩
  rintro a H1 F1 _ ⟨ρ1, ok1, s1, h1⟩ x rx
  refine ⟨c, F1, ρ1, ok1, post_mono ?_ (post_bind h1)⟩
  rintro b H2 F2 s2' ⟨ρ2, ok2, s2, h2⟩ y ry
  obtain ⟨d, e, h3⟩ := post_lift h2
  exact ho ok2 (.inl (Dp.mono s2 rx)) ry e h3
theorem tOp_ofL {r : R2} {g : D → D → Option D} (ho : OpD K r g) {i : Nat} {mb : M D} {Q : VK} (h : tE K W (mBinL g i mb) σ H Q) : tOp r (tVar i) (tP K W mb) σ H Q := by
  obtain ⟨c, F, ρ, ok, h⟩ := h
  obtain ⟨v, _, ev, _, h⟩ := post_peek ok h
  refine ⟨v, ev, c, F, ρ, ok, post_mono ?_ (post_bind h)⟩
  rintro b H2 F2 _ ⟨ρ2, ok2, s2, h2⟩ y ry
  obtain ⟨v', a, ev', pk, h3⟩ := post_peek ok2 h2
  obtain ⟨d, e, h4⟩ := post_lift h3
  have ee : v' = v := by rw [ev] at ev'; cases ev'; rfl
  subst ee
  exact ho ok2 pk ry e h4
end
end Dd

namespace Dd
open PySem PySem.Spec L2
section
variable {K : PySem.W.Frag}
/-! ### operators -/
def fit (n : Nat) : Bool := decide (n ≤ 16000000)
theorem fit_le {n : Nat} (h : fit n = true) : n ≤ sizeLine := by
  have := of_decide_eq_true h
  rw [sizeLine_eq]; omega
theorem fit_lt {n : Nat} (h : fit n = true) : n < sizeLine := by
  have := of_decide_eq_true h
  rw [sizeLine_eq]; omega
/-- ints -/
def iI (f : Int → Int → D) : D → D → Option D
  | .int i, .int j => some (f i j)
  | _, _ => none
def iIc (C : Int → Int → Bool) (f : Int → Int → D) : D → D → Option D
  | .int i, .int j => if C i j = true then some (f i j) else none
  | _, _ => none
theorem opD_I {g : Int → Int → V} {f : Int → Int → D} (h : ∀ F i j, Dp K F (g i j) (f i j)) : OpD K (rI0 g) (iI f) := by
  intro W c σ H F ρ x y a b d Q ok rx ry e q
  unfold iI at e
  split at e
  · rename_i i j
    cases e
    exact ⟨i, j, rx.int, ry.int, post_ok q ok _ (h F i j)⟩
  · cases e
theorem opD_Ic {Cp : Int → Int → Prop} {C : Int → Int → Bool} {g : Int → Int → V} {f : Int → Int → D} (hC : ∀ i j, C i j = true → Cp i j) (h : ∀ F i j, Dp K F (g i j) (f i j)) : OpD K (rI Cp g) (iIc C f) := by
  intro W c σ H F ρ x y a b d Q ok rx ry e q
  unfold iIc at e
  split at e
  · rename_i i j
    split at e
    · rename_i hc
      cases e
      exact ⟨i, j, rx.int, ry.int, hC i j hc, post_ok q ok _ (h F i j)⟩
    · cases e
  · cases e
/-- one rule or another -/
def oOr (g g' : D → D → Option D) : D → D → Option D := fun a b => match g a b with
  | some d => some d
  | none => g' a b
theorem opD_or {r r' : R2} {g g' : D → D → Option D} (h : OpD K r g) (h' : OpD K r' g') : OpD K (fun x y H Q => r x y H Q ∨ r' x y H Q) (oOr g g') := by
  intro W c σ H F ρ x y a b d Q ok rx ry e q
  unfold oOr at e
  split at e
  · rename_i d' e'
    cases e
    exact .inl (h ok rx ry e' q)
  · exact .inr (h' ok rx ry e q)
/-- a new list, a new tuple -/
theorem new_lst {W : WX} {c : Ct} {σ : St} {H F : Hp} {ρ : En} {Q : VK} {vs : List V} {ds : List D} (ok : Ok K c σ H F ρ) (hd : DpAll K F vs ds) (q : post K W c σ F (qE K Q) (some (.ok (.list ds) ρ))) (p : Addr) (hp : H p = none) :
    Q (.ref p) (upd H p (.lst vs)) :=
  q _ _ (ok.alloc hp) (Same.updN (ok.new hp).1) _ (.lst (.inl upd_same) (DpAll.mono (Same.updN (ok.new hp).1) hd))
theorem new_tup {W : WX} {c : Ct} {σ : St} {H F : Hp} {ρ : En} {Q : VK} {vs : List V} {ds : List D} (ok : Ok K c σ H F ρ) (hd : DpAll K F vs ds) (q : post K W c σ F (qE K Q) (some (.ok (.tuple ds) ρ))) (p : Addr) (hp : H p = none) :
    Q (.ref p) (upd H p (.tup vs)) :=
  q _ _ (ok.alloc hp) (Same.updN (ok.new hp).1) _ (.tup (SqT.of upd_same) (DpAll.mono (Same.updN (ok.new hp).1) hd))

theorem sq_raw {X : Cx} {pins : List (Addr × Obj)} {σ : St} {H : Hp} {s : Shared} {a : Addr} {xs : List V} (I : Inv X pins σ H s) (h : Rd H a (.lst xs)) :
    xs.length ≤ sizeLine ∧ ∃ (its : List Value) (n : Nat), Vals xs its ∧ xs.length = its.length ∧ s.heap.get? a = some { cls := .type "list", data := .seq its.toArray n } := by
  have q : ObjOk X.prog X.w H s.heap a (.lst xs) := h.ok I.hok
  obtain ⟨z, its, n, r, e⟩ := q
  exact ⟨z, its, n, r, r.length, e⟩
/-- list + list, any -/
def rCatS : R2 := fun x y H Q => ∃ l b xs zs, x = .ref l ∧ y = .ref b ∧ Rd H l (.lst xs) ∧ Rd H b (.lst zs) ∧ xs.length + zs.length ≤ sizeLine ∧ ∀ p, H p = none → Q (.ref p) (upd H p (.lst (xs ++ zs)))
theorem op_catS {X : Cx} : OpR X (binaryOp .Add) rCatS := by
  intro pins s σ H x y v u Q I rx ry h
  obtain ⟨l, b, xs, zs, rfl, rfl, hH, hB, hz, q⟩ := h
  cases rx
  cases ry
  obtain ⟨z, its, n, r, hl, e⟩ := sq_raw I hH
  obtain ⟨z2, its2, n2, r2, hl2, e2⟩ := sq_raw I hB
  refine PySem.P.add_list e e2 ?_ (by rw [List.size_toArray, List.size_toArray]; omega)
  have ea : its.toArray ++ its2.toArray = (its ++ its2).toArray := by simp
  rw [ea]
  exact ⟨.ref _, _, I.lnew (t' := s.toks) (r.append r2) (by rw [List.length_append]; omega), rfl, q _ I.fresh⟩
def catL : D → D → Option D
  | .list xs, .list ys => if fit (xs.length + ys.length) = true then some (.list (xs ++ ys)) else none
  | _, _ => none
def catT : D → D → Option D
  | .tuple xs, .tuple ys => if (!xs.isEmpty && fit (xs.length + ys.length)) = true then some (.tuple (xs ++ ys)) else none
  | _, _ => none
def catS : D → D → Option D
  | .str x, .str y => if fit (x.length + y.length) = true then some (.str (x ++ y)) else none
  | _, _ => none
theorem opD_catL : OpD K rCatS catL := by
  intro W c σ H F ρ x y a b d Q ok rx ry e q
  unfold catL at e
  split at e
  · rename_i xs ys
    split at e
    · rename_i hc
      cases e
      obtain ⟨p, vs, rfl, hp, dp⟩ := Pk.rd ok.sub rx
      obtain ⟨p2, vs2, rfl, hp2, dp2⟩ := Pk.rd ok.sub ry
      exact ⟨p, p2, vs, vs2, rfl, rfl, hp, hp2, by rw [DpAll.length dp, DpAll.length dp2]; exact fit_le hc, fun p hp => new_lst ok (DpAll.append dp dp2) q p hp⟩
    · cases e
  · cases e
theorem opD_catT : OpD K (rCatT K) catT := by
  intro W c σ H F ρ x y a b d Q ok rx ry e q
  unfold catT at e
  split at e
  · rename_i xs ys
    split at e
    · rename_i hc
      cases e
      obtain ⟨p, vs, rfl, hp, dp⟩ := Pk.tup ok.sub rx
      obtain ⟨p2, vs2, rfl, hp2, dp2⟩ := Pk.tup ok.sub ry
      rw [Bool.and_eq_true] at hc
      refine ⟨p, p2, vs, vs2, rfl, rfl, hp, hp2, fun z => ?_, by rw [DpAll.length dp, DpAll.length dp2]; exact fit_le hc.2, fun z => ?_, fun z p hp => new_tup ok (DpAll.append dp dp2) q p hp⟩
      · subst z
        cases dp
        simp at hc
      · subst z
        cases dp2
        rw [List.append_nil] at q
        rcases rx with rx | ⟨_, _, _, _, e, _⟩
        · exact post_ok q ok _ rx
        · cases e
    · cases e
  · cases e
def rAddStr : R2 := fun x y H Q => ∃ i j, x = .str i ∧ y = .str j ∧ i.length + j.length ≤ sizeLine ∧ Q (.str (i ++ j)) H
theorem opD_catS : OpD K rAddStr catS := by
  intro W c σ H F ρ x y a b d Q ok rx ry e q
  unfold catS at e
  split at e
  · rename_i i j
    split at e
    · rename_i hc
      cases e
      exact ⟨i, j, rx.str, ry.str, fit_le hc, post_ok q ok _ (.str _)⟩
    · cases e
  · cases e
def addD : D → D → Option D := oOr (iI fun i j => .int (i + j)) (oOr catL (oOr catT catS))
def rAddA (K : PySem.W.Frag) : R2 := fun x y H Q => rI0 (fun i j => .int (i + j)) x y H Q ∨ (rCatS x y H Q ∨ (rCatT K x y H Q ∨ rAddStr x y H Q))
theorem opD_add : OpD K (rAddA K) addD := opD_or (opD_I fun _ _ _ => .int _) (opD_or opD_catL (opD_or opD_catT opD_catS))
theorem or_addA {X : Cx} : OpR X (binaryOp .Add) (rAddA X.K) := OpR.or op_add (OpR.or op_catS (OpR.or op_catT op_add_str))
def subD : D → D → Option D := iI fun i j => .int (i - j)
theorem opD_sub : OpD K (rI0 fun i j => .int (i - j)) subD := opD_I fun _ _ _ => .int _
/-- * of ints, one of them small; of a list by an int -/
def cMul (i j : Int) : Bool := decide (i.natAbs < 18446744073709551616) || decide (j.natAbs < 18446744073709551616)
theorem cMul_ok (i j : Int) (h : cMul i j = true) : CMul i j := by
  unfold cMul at h
  simp only [Bool.or_eq_true, decide_eq_true_eq] at h
  exact h.imp (fun q => by omega) (fun q => by omega)
def mulI : D → D → Option D := iIc cMul fun i j => .int (i * j)
def cDiv (_ j : Int) : Bool := decide (0 < j) && decide (j.natAbs < 1152921504606846976)
theorem cDiv_ok (i j : Int) (h : cDiv i j = true) : CDivW i j := by
  unfold cDiv at h
  simp only [Bool.and_eq_true, decide_eq_true_eq] at h
  exact wide_div (b := 60) h.1 h.2 (by decide) (by decide)
def divD : D → D → Option D := iIc cDiv fun i j => .int (i / j)
theorem opD_div : OpD K (rI CDivW fun i j => .int (i / j)) divD := opD_Ic cDiv_ok fun _ _ _ => .int _
def cMod (_ j : Int) : Bool := decide (0 < j)
def modD : D → D → Option D := iIc cMod fun i j => .int (i % j)
theorem opD_mod : OpD K (rI (fun _ j => 0 < j) fun i j => .int (i % j)) modD := opD_Ic (fun _ _ h => of_decide_eq_true h) fun _ _ _ => .int _
def cPow (i j : Int) : Bool := decide (0 ≤ j) && decide (j ≤ 1000000) && decide (i.natAbs < 2 ^ 64)
def powD : D → D → Option D := iIc cPow fun i j => .int (i ^ j.toNat)
theorem opD_pow : OpD K (rI CPow fun i j => .int (i ^ j.toNat)) powD := opD_Ic (fun i j h => by
  unfold cPow at h
  simp only [Bool.and_eq_true, decide_eq_true_eq] at h
  exact ⟨h.1.1, h.1.2, h.2⟩) fun _ _ _ => .int _
def rRepL : R2 := fun x y H Q => ∃ l k xs, x = .ref l ∧ y = .int k ∧ H l = some (.lst xs) ∧ -(2 ^ 63) ≤ k ∧ k < 2 ^ 63 ∧ xs.length * k.toNat ≤ sizeLine ∧
  ∀ p, H p = none → Q (.ref p) (upd H p (.lst (List.replicate k.toNat xs).flatten))
/-- comparing -/
def ltD : D → D → Option D := iI fun i j => .bool (decide (i < j))
def leD : D → D → Option D := iI fun i j => .bool (decide (i ≤ j))
def gtD : D → D → Option D := iI fun i j => .bool (decide (j < i))
def geD : D → D → Option D := iI fun i j => .bool (decide (j ≤ i))
theorem opD_lt : OpD K (rI0 fun i j => .bl (decide (i < j))) ltD := opD_I fun _ _ _ => .bl _
theorem opD_le : OpD K (rI0 fun i j => .bl (decide (i ≤ j))) leD := opD_I fun _ _ _ => .bl _
theorem opD_gt : OpD K (rI0 fun i j => .bl (decide (j < i))) gtD := opD_I fun _ _ _ => .bl _
theorem opD_ge : OpD K (rI0 fun i j => .bl (decide (j ≤ i))) geD := opD_I fun _ _ _ => .bl _
def eqD (a b : D) : Option D := if (SeqAt.shaped a && SeqAt.shaped b) = true then some (.bool (PyData.eqv a b)) else none
def neD (a b : D) : Option D := if (SeqAt.shaped a && SeqAt.shaped b) = true then some (.bool (!PyData.eqv a b)) else none
theorem opD_eq : OpD K (rEqD K) eqD := by
  intro W c σ H F ρ x y a b d Q ok rx ry e q
  unfold eqD at e
  split at e
  · rename_i hc
    cases e
    rw [Bool.and_eq_true] at hc
    exact ⟨a, b, Pk.dp ok.sub rx, Pk.dp ok.sub ry, hc.1, hc.2, post_ok q ok _ (.bl _)⟩
  · cases e
theorem opD_ne : OpD K (rNeD K) neD := by
  intro W c σ H F ρ x y a b d Q ok rx ry e q
  unfold neD at e
  split at e
  · rename_i hc
    cases e
    rw [Bool.and_eq_true] at hc
    exact ⟨a, b, Pk.dp ok.sub rx, Pk.dp ok.sub ry, hc.1, hc.2, post_ok q ok _ (.bl _)⟩
  · cases e
def isNon : D → Bool
  | .none => true
  | _ => false
theorem isNon_of {H F : Hp} {x : V} {a : D} (h : Pk K H F x a) : decide (x = .non) = isNon a := by
  rcases h with h | ⟨p, vs, es, rfl, rfl, h, r⟩
  · cases h <;> rfl
  · rfl
def isD : D → D → Option D
  | a, .none => some (.bool (isNon a))
  | _, _ => none
def isntD : D → D → Option D
  | a, .none => some (.bool (!isNon a))
  | _, _ => none
theorem opD_is : OpD K (fun x y H Q => y = .non ∧ Q (.bl (decide (x = .non))) H) isD := by
  intro W c σ H F ρ x y a b d Q ok rx ry e q
  unfold isD at e
  split at e
  · cases e
    refine ⟨ry.none, post_ok q ok _ ?_⟩
    rw [isNon_of rx]; exact .bl _
  · cases e
theorem opD_isnt : OpD K (fun x y H Q => y = .non ∧ Q (.bl (!decide (x = .non))) H) isntD := by
  intro W c σ H F ρ x y a b d Q ok rx ry e q
  unfold isntD at e
  split at e
  · cases e
    refine ⟨ry.none, post_ok q ok _ ?_⟩
    rw [isNon_of rx]; exact .bl _
  · cases e
/-- in a list, a tuple of plain things -/
def toV : D → V
  | .none => .non
  | .bool b => .bl b
  | .int i => .int i
  | .str x => .str x
  | _ => .non
def flatD : D → Bool
  | .none | .bool _ | .int _ | .str _ => true
  | _ => false
theorem flat_of {F : Hp} {x : V} {a : D} (h : Dp K F x a) (f : flatD a = true) : x = toV a := by
  cases h <;> first | rfl | cases f
theorem flats_of {F : Hp} : ∀ {vs : List V} {ds : List D}, DpAll K F vs ds → ds.all flatD = true → vs = ds.map toV
  | _, _, .nil, _ => rfl
  | _, _, .cons h t, f => by
    simp only [List.all_cons, Bool.and_eq_true] at f
    rw [flat_of h f.1, flats_of t f.2]; rfl
def inFlat (a : D) (ds : List D) : Bool := inV (toV a) (ds.map toV)
def inOk (a : D) (ds : List D) : Bool := flatD a && ds.all flatD && flatV (toV a) && (ds.map toV).all flatV
def inD (neg : Bool) : D → D → Option D
  | a, .list ds => if inOk a ds = true then some (.bool (if neg then !inFlat a ds else inFlat a ds)) else none
  | a, .tuple ds => if inOk a ds = true then some (.bool (if neg then !inFlat a ds else inFlat a ds)) else none
  | _, _ => none
theorem opD_in (neg : Bool) : OpD K (rIn K neg) (inD neg) := by
  intro W c σ H F ρ x y a b d Q ok rx ry e q
  have go : ∀ (ds : List D) (p : Addr) (vs : List V), inOk a ds = true → DpAll K F vs ds → d = .bool (if neg then !inFlat a ds else inFlat a ds) → (SqL K H p vs ∨ SqT K H p vs) → y = .ref p → rIn K neg x y H Q := by
    intro ds p vs hc dp ed hs ey
    unfold inOk at hc
    simp only [Bool.and_eq_true] at hc
    obtain ⟨⟨⟨h1, h2⟩, h3⟩, h4⟩ := hc
    have ex : x = toV a := by
      rcases rx with rx | ⟨_, _, _, _, e', _⟩
      · exact flat_of rx h1
      · subst e'; cases h1
    have ev : vs = ds.map toV := flats_of dp h2
    subst ex ev ed
    exact ⟨p, _, ey, hs, h3, h4, post_ok q ok _ (.bl _)⟩
  unfold inD at e
  split at e
  · split at e
    · rename_i hc
      cases e
      obtain ⟨p, vs, ey, hp, dp⟩ := Pk.lst ok.sub ry
      exact go _ p vs hc dp rfl (.inl hp) ey
    · cases e
  · split at e
    · rename_i hc
      cases e
      obtain ⟨p, vs, ey, hp, dp⟩ := Pk.tup ok.sub ry
      exact go _ p vs hc dp rfl (.inr hp) ey
    · cases e
  · cases e
/-- an item by its place -/
def ixD : D → D → Option D
  | .list ds, .int i => atI ds i
  | .tuple ds, .int i => atI ds i
  | .str z, .int i => if fit z.length = true then (atI z.cps.toList i).map fun c => .str ⟨#[c]⟩ else none
  | _, _ => none
theorem atI_D {F : Hp} {vs : List V} {ds : List D} {i : Int} {d : D} (h : DpAll K F vs ds) (e : atI ds i = some d) : ∃ v, atI vs i = some v ∧ Dp K F v d := by
  unfold atI at e ⊢
  rw [DpAll.length h]
  cases q : ixN ds.length i with
  | none => rw [q] at e; cases e
  | some j =>
    rw [q] at e
    exact DpAll.getd h e
theorem opD_ix : OpD K (rIx K) ixD := by
  intro W c σ H F ρ x y a b d Q ok rx ry e q
  unfold ixD at e
  split at e
  · rename_i ds i
    obtain ⟨p, vs, rfl, hp, dp⟩ := Pk.lst ok.sub rx
    obtain ⟨v, e1, e2⟩ := atI_D dp e
    exact .inl ⟨p, vs, i, v, rfl, ry.int, hp, e1, post_ok q ok _ e2⟩
  · rename_i ds i
    obtain ⟨p, vs, rfl, hp, dp⟩ := Pk.tup ok.sub rx
    obtain ⟨v, e1, e2⟩ := atI_D dp e
    exact .inr (.inl ⟨p, vs, i, v, rfl, ry.int, hp, e1, post_ok q ok _ e2⟩)
  · rename_i z i
    split at e
    · rename_i hf
      cases q' : atI z.cps.toList i with
      | none => rw [q'] at e; cases e
      | some c' =>
        rw [q'] at e
        cases e
        exact .inr (.inr ⟨z, i, c', rx.str, ry.int, fit_le hf, q', post_ok q ok _ (.str _)⟩)
    · cases e
  · cases e
end
end Dd

namespace Dd
open PySem PySem.Spec L2
section
variable {X : Cx} {W : WX} {a b c' : Expr} {ma mb mc : M D} {pos : Pos} {σ : St} {H : Hp} {K : PySem.W.Frag}
/-! ### operators in an expression -/
theorem dOp {op : Operator} {r : R2} {g : D → D → Option D} (ho : OpR X (binaryOp op) r) (hd : OpD X.K r g) (ha : PE X a (tE X.K W ma)) (hb : PE X b (tP X.K W mb)) : PE X (.BinOp a op b pos) (tE X.K W (mBin g ma mb)) :=
  PE.imp (pe_op ho ha hb) fun _ _ _ => tOp_of hd
theorem dOpL {op : Operator} {r : R2} {g : D → D → Option D} {i : Nat} (ho : OpR X (binaryOp op) r) (hd : OpD X.K r g) (ha : PE X a (tVar i)) (hb : PE X b (tP X.K W mb)) : PE X (.BinOp a op b pos) (tE X.K W (mBinL g i mb)) :=
  PE.imp (pe_op ho ha hb) fun _ _ _ => tOp_ofL hd
theorem dCmp {op : CmpOp} {r : R2} {g : D → D → Option D} (ho : OpR X (compareOp op) r) (hd : OpD X.K r g) (hm : behindInMarks op b = false) (ha : PE X a (tE X.K W ma)) (hb : PE X b (tP X.K W mb)) : PE X (.Compare a [op] [b] pos) (tE X.K W (mBin g ma mb)) :=
  PE.imp (pe_cmpR ho ha hb hm) fun _ _ _ => tOp_of hd
theorem dCmpL {op : CmpOp} {r : R2} {g : D → D → Option D} {i : Nat} (ho : OpR X (compareOp op) r) (hd : OpD X.K r g) (hm : behindInMarks op b = false) (ha : PE X a (tVar i)) (hb : PE X b (tP X.K W mb)) : PE X (.Compare a [op] [b] pos) (tE X.K W (mBinL g i mb)) :=
  PE.imp (pe_cmpR ho ha hb hm) fun _ _ _ => tOp_ofL hd
theorem dIx (ha : PE X a (tE X.K W ma)) (hb : PE X b (tP X.K W mb)) (hs : PlainIx b := by exact fun _ _ => rfl) : PE X (.Subscript a b pos) (tE X.K W (mBin ixD ma mb)) := PE.imp (pe_ix ix_seq ha hb hs) fun _ _ _ => tOp_of opD_ix
theorem dIxL {i : Nat} (ha : PE X a (tVar i)) (hb : PE X b (tP X.K W mb)) (hs : PlainIx b := by exact fun _ _ => rfl) : PE X (.Subscript a b pos) (tE X.K W (mBinL ixD i mb)) := PE.imp (pe_ix ix_seq ha hb hs) fun _ _ _ => tOp_ofL opD_ix
/-- one value -/
def mUn (g : D → Option D) (ma : M D) : M D := mBind ma fun a => mLift (g a)
def negD : D → Option D
  | .int i => some (.int (-i))
  | _ => none
theorem dNeg (ha : PE X a (tE X.K W ma)) : PE X (.UnaryOp .USub a pos) (tE X.K W (mUn negD ma)) := by
  refine PE.imp (pe_un un_neg ha) ?_
  rintro σ H Q ⟨c, F, ρ, ok, h⟩
  refine ⟨c, F, ρ, ok, post_mono ?_ (post_bind h)⟩
  rintro d H1 F1 _ ⟨ρ1, ok1, s1, h1⟩ x rx
  obtain ⟨d', e, h2⟩ := post_lift h1
  unfold negD at e
  split at e
  · cases e
    cases rx
    exact ⟨_, rfl, post_ok (W := W) h2 ok1 _ (.int _)⟩
  · cases e
/-! ### truth -/
def truD : D → Option Bool
  | .none => some false
  | .bool b => some b
  | .int i => some (i != 0)
  | .str x => if fit x.length = true then some ((x.length : Int) != 0) else none
  | .list ds => some (!ds.isEmpty)
  | .tuple ds => some (!ds.isEmpty)
  | .dict _ => none
theorem isEmpty_dp {F : Hp} {vs : List V} {ds : List D} (h : DpAll K F vs ds) : vs.isEmpty = ds.isEmpty := by cases h <;> rfl
theorem tru_of {c : Ct} {F : Hp} {ρ : En} (ok : Ok K c σ H F ρ) {x : V} {d : D} {k : Bool} (r : Pk K H F x d) (e : truD d = some k) : TruV K x H k := by
  cases d with
  | none => cases r.none; cases e; rfl
  | bool b => cases r.bool; cases e; rfl
  | int i => cases r.int; cases e; rfl
  | str z =>
    cases r.str
    have e : (if fit z.length = true then some ((z.length : Int) != 0) else none) = some k := e
    split at e
    · rename_i hf
      cases e
      exact ⟨fit_le hf, rfl⟩
    · cases e
  | list ds =>
    obtain ⟨p, vs, rfl, hp, dp⟩ := Pk.lst ok.sub r
    cases e
    exact .inl ⟨vs, hp, by rw [isEmpty_dp dp]⟩
  | tuple ds =>
    obtain ⟨p, vs, rfl, hp, dp⟩ := Pk.tup ok.sub r
    cases e
    exact .inr (.inl ⟨vs, hp, by rw [isEmpty_dp dp]⟩)
  | dict _ => cases e
def mTru (m : M D) : M Bool := mBind m fun d => mLift (truD d)
/-- any expression but comparisons, and, or, not: by its value's truth -/
theorem dTru (ha : PE X a (tP X.K W ma)) (he : ∀ whole, isTrue a X.env whole = (do let v ← whole; standAt a.pos; holding [v] (truthy v)) := by exact fun _ => rfl) : PT X a (tT X.K W (mTru ma)) := by
  refine PT.imp (pt_truth ha he) ?_
  rintro σ H Q ⟨c, F, ρ, ok, h⟩
  refine ⟨c, F, ρ, ok, post_mono ?_ (post_bind h)⟩
  rintro d H1 F1 _ ⟨ρ1, ok1, s1, h1⟩ x rx
  obtain ⟨k, e, h2⟩ := post_lift h1
  exact ⟨k, tru_of ok1 rx e, post_ok (W := W) h2 ok1⟩
def bolD : D → Option Bool
  | .bool b => some b
  | _ => none
def mBol (m : M D) : M Bool := mBind m fun d => mLift (bolD d)
theorem tTest_of {t : TE} {m : M D} (ht : ∀ σ H Q, tE K W m σ H Q → t σ H Q) {Q : Bool → Hp → Prop} (h : tT K W (mBol m) σ H Q) : tTest t σ H Q := by
  obtain ⟨c, F, ρ, ok, h⟩ := h
  refine ht _ _ _ ⟨c, F, ρ, ok, post_mono ?_ (post_bind h)⟩
  rintro d H1 F1 _ ⟨ρ1, ok1, s1, h1⟩ x rx
  obtain ⟨k, e, h2⟩ := post_lift h1
  unfold bolD at e
  split at e
  · cases e
    cases rx
    exact ⟨_, rfl, post_ok (W := W) h2 ok1⟩
  · cases e
theorem dtCmp {op : CmpOp} {r : R2} {g : D → D → Option D} (ho : OpR X (compareOp op) r) (hd : OpD X.K r g) (hm : behindInMarks op b = false) (ha : PE X a (tE X.K W ma)) (hb : PE X b (tP X.K W mb)) : PT X (.Compare a [op] [b] pos) (tT X.K W (mBol (mBin g ma mb))) :=
  PT.imp (pt_cmpR ho ha hb hm) fun _ _ _ => tTest_of fun _ _ _ => tOp_of hd
theorem dtCmpL {op : CmpOp} {r : R2} {g : D → D → Option D} {i : Nat} (ho : OpR X (compareOp op) r) (hd : OpD X.K r g) (hm : behindInMarks op b = false) (ha : PE X a (tVar i)) (hb : PE X b (tP X.K W mb)) : PT X (.Compare a [op] [b] pos) (tT X.K W (mBol (mBinL g i mb))) :=
  PT.imp (pt_cmpR ho ha hb hm) fun _ _ _ => tTest_of fun _ _ _ => tOp_ofL hd
/-- a < b < c -/
def mChain (g g' : D → D → Option D) (ma mb mc : M D) : M D := mBind ma fun a => mBind mb fun b => mBind (mLift (g a b)) fun r => mBind (mLift (bolD r)) fun k => if k = true then mBind mc fun c => mLift (g' b c) else mPure (.bool false)
theorem tChain_of {r r' : R2} {g g' : D → D → Option D} (ho : OpD K r g) (ho' : OpD K r' g') {Q : VK} (h : tE K W (mChain g g' ma mb mc) σ H Q) : tChain r r' (tE K W ma) (tE K W mb) (tP K W mc) σ H Q := by
  obtain ⟨c, F, ρ, ok, h⟩ := h
  refine ⟨c, F, ρ, ok, post_mono ?_ (post_bind h)⟩
  rintro a H1 F1 _ ⟨ρ1, ok1, s1, h1⟩ x rx
  refine ⟨c, F1, ρ1, ok1, post_mono ?_ (post_bind h1)⟩
  rintro b H2 F2 s2' ⟨ρ2, ok2, s2, h2⟩ y ry
  obtain ⟨d, e, h3⟩ := post_lift (o := g a b) (by exact post_mono (fun _ _ _ _ q => q) (post_bind h2))
  obtain ⟨ρ3, ok3, s3, h4⟩ := post_ok (W := W) h3 ok2
  refine ho (W := W) ok3 (.inl (Dp.mono (s2.trans s3) rx)) (.inl (Dp.mono s3 ry)) e ?_
  obtain ⟨k, ek, h5⟩ := post_lift (o := bolD d) (by exact post_mono (fun _ _ _ _ q => q) (post_bind h4))
  unfold bolD at ek
  split at ek
  · rename_i k'
    cases ek
    intro H' F' ok' s' v rv
    obtain ⟨ρ4, ok4, s4, h6⟩ := h5 H' F' ok' s'
    cases rv
    refine ⟨k, rfl, ?_⟩
    cases k with
    | false =>
      rw [if_neg (by decide)] at h6 ⊢
      exact post_ok (W := W) h6 ok4 _ (.bl _)
    | true =>
      rw [if_pos rfl] at h6 ⊢
      refine ⟨c, F', ρ4, ok4, post_mono ?_ (post_bind h6)⟩
      rintro z H5 F5 _ ⟨ρ5, ok5, s5, h7⟩ w' rw'
      obtain ⟨d', e', h8⟩ := post_lift h7
      exact ho' ok5 (.inl (Dp.mono ((s3.trans s').trans s5) ry)) rw' e' h8
  · cases ek
theorem dChain {op op' : CmpOp} {r r' : R2} {g g' : D → D → Option D} (ho : OpR X (compareOp op) r) (hd : OpD X.K r g) (ho' : OpR X (compareOp op') r') (hd' : OpD X.K r' g') (ha : PE X a (tE X.K W ma)) (hb : PE X b (tE X.K W mb)) (hc : PE X c' (tP X.K W mc)) (hm : lastMarks [op, op'] [b, c'] = false := by with_unfolding_all rfl) :
    PE X (.Compare a [op, op'] [b, c'] pos) (tE X.K W (mChain g g' ma mb mc)) := PE.imp (pe_chain ho ho' ha hb hc hm) fun _ _ _ => tChain_of hd hd'
theorem dtChain {op op' : CmpOp} {r r' : R2} {g g' : D → D → Option D} (ho : OpR X (compareOp op) r) (hd : OpD X.K r g) (ho' : OpR X (compareOp op') r') (hd' : OpD X.K r' g') (ha : PE X a (tE X.K W ma)) (hb : PE X b (tE X.K W mb)) (hc : PE X c' (tP X.K W mc)) (hm : lastMarks [op, op'] [b, c'] = false := by with_unfolding_all rfl) :
    PT X (.Compare a [op, op'] [b, c'] pos) (tT X.K W (mBol (mChain g g' ma mb mc))) := PT.imp (pt_chain ho ho' ha hb hc hm) fun _ _ _ => tTest_of fun _ _ _ => tChain_of hd hd'
/-! ### and, or, not -/
def mIf {α : Type} (mc : M Bool) (ma mb : M α) : M α := mBind mc fun k => if k = true then ma else mb
def mAndT (ma mb : M Bool) : M Bool := mBind ma fun k => if k = true then mb else mPure false
def mOrT (ma mb : M Bool) : M Bool := mBind ma fun k => if k = true then mPure true else mb
def mNotT (ma : M Bool) : M Bool := mBind ma fun k => mPure (!k)
variable {ta tb : M Bool} {rest : List Expr}
theorem dtNot (ha : PT X a (tT X.K W ta)) : PT X (.UnaryOp .Not a pos) (tT X.K W (mNotT ta)) := by
  refine PT.imp (pt_not ha) ?_
  rintro σ H Q ⟨c, F, ρ, ok, h⟩
  refine ⟨c, F, ρ, ok, post_mono ?_ (post_bind h)⟩
  rintro k H1 F1 _ ⟨ρ1, ok1, s1, h1⟩
  exact post_ok (W := W) h1 ok1
theorem PW.imp {e : Expr} {t t' : TT} (h : PW X e t) (k : ∀ σ H Q, t' σ H Q → t σ H Q) : PW X e t' := ⟨fun wh pins s σ H Q I q => h.run wh pins s σ H Q I (k σ H Q q)⟩
theorem dwAnd1 (ha : PT X a (tT X.K W ta)) : PW X (.BoolOp .And [a] pos) (tT X.K W ta) := pw_and1 ha
theorem dwOr1 (ha : PT X a (tT X.K W ta)) : PW X (.BoolOp .Or [a] pos) (tT X.K W ta) := pw_or1 ha
theorem dwAnd (ha : PT X a (tT X.K W ta)) (hb : PW X (.BoolOp .And (b :: rest) pos) (tT X.K W tb)) : PW X (.BoolOp .And (a :: b :: rest) pos) (tT X.K W (mAndT ta tb)) := by
  refine PW.imp (pw_and ha hb) ?_
  rintro σ H Q ⟨c, F, ρ, ok, h⟩
  refine ⟨c, F, ρ, ok, post_mono ?_ (post_bind h)⟩
  rintro k H1 F1 _ ⟨ρ1, ok1, s1, h1⟩
  cases k with
  | true => exact ⟨c, F1, ρ1, ok1, h1⟩
  | false => exact post_ok (W := W) h1 ok1
theorem dwOr (ha : PT X a (tT X.K W ta)) (hb : PW X (.BoolOp .Or (b :: rest) pos) (tT X.K W tb)) : PW X (.BoolOp .Or (a :: b :: rest) pos) (tT X.K W (mOrT ta tb)) := by
  refine PW.imp (pw_or ha hb) ?_
  rintro σ H Q ⟨c, F, ρ, ok, h⟩
  refine ⟨c, F, ρ, ok, post_mono ?_ (post_bind h)⟩
  rintro k H1 F1 _ ⟨ρ1, ok1, s1, h1⟩
  cases k with
  | true => exact post_ok (W := W) h1 ok1
  | false => exact ⟨c, F1, ρ1, ok1, h1⟩
/-- .. as values -/
def mAnd (ma mb : M D) : M D := mBind ma fun a => mBind (mLift (truD a)) fun k => if k = true then mb else mPure a
def mOr (ma mb : M D) : M D := mBind ma fun a => mBind (mLift (truD a)) fun k => if k = true then mPure a else mb
def mNot (ma : M D) : M D := mBind ma fun a => mBind (mLift (truD a)) fun k => mPure (.bool (!k))
theorem dOne {op : BoolOp} (ha : PE X a (tE X.K W ma)) : PE X (.BoolOp op [a] pos) (tE X.K W ma) := pe_one ha
theorem dAnd (ha : PE X a (tE X.K W ma)) (hb : PE X (.BoolOp .And (b :: rest) pos) (tE X.K W mb)) : PE X (.BoolOp .And (a :: b :: rest) pos) (tE X.K W (mAnd ma mb)) := by
  refine PE.imp (pe_andT ha hb) ?_
  rintro σ H Q ⟨c, F, ρ, ok, h⟩
  refine ⟨c, F, ρ, ok, post_mono ?_ (post_bind h)⟩
  rintro a H1 F1 _ ⟨ρ1, ok1, s1, h1⟩ x rx
  obtain ⟨k, e, h2⟩ := post_lift (o := truD a) (by exact post_mono (fun _ _ _ _ q => q) (post_bind h1))
  obtain ⟨ρ2, ok2, s2, h3⟩ := post_ok (W := W) h2 ok1
  refine ⟨k, tru_of ok1 (.inl rx) e, ?_⟩
  cases k with
  | true => exact ⟨c, F1, ρ2, ok2, h3⟩
  | false => exact post_ok (W := W) h3 ok2 _ rx
theorem dOr (ha : PE X a (tE X.K W ma)) (hb : PE X (.BoolOp .Or (b :: rest) pos) (tE X.K W mb)) : PE X (.BoolOp .Or (a :: b :: rest) pos) (tE X.K W (mOr ma mb)) := by
  refine PE.imp (pe_orT ha hb) ?_
  rintro σ H Q ⟨c, F, ρ, ok, h⟩
  refine ⟨c, F, ρ, ok, post_mono ?_ (post_bind h)⟩
  rintro a H1 F1 _ ⟨ρ1, ok1, s1, h1⟩ x rx
  obtain ⟨k, e, h2⟩ := post_lift (o := truD a) (by exact post_mono (fun _ _ _ _ q => q) (post_bind h1))
  obtain ⟨ρ2, ok2, s2, h3⟩ := post_ok (W := W) h2 ok1
  refine ⟨k, tru_of ok1 (.inl rx) e, ?_⟩
  cases k with
  | true => exact post_ok (W := W) h3 ok2 _ rx
  | false => exact ⟨c, F1, ρ2, ok2, h3⟩
theorem dNot (ha : PE X a (tP X.K W ma)) : PE X (.UnaryOp .Not a pos) (tE X.K W (mNot ma)) := by
  refine PE.imp (pe_notT ha) ?_
  rintro σ H Q ⟨c, F, ρ, ok, h⟩
  refine ⟨c, F, ρ, ok, post_mono ?_ (post_bind h)⟩
  rintro a H1 F1 _ ⟨ρ1, ok1, s1, h1⟩ x rx
  obtain ⟨k, e, h2⟩ := post_lift (o := truD a) (by exact post_mono (fun _ _ _ _ q => q) (post_bind h1))
  obtain ⟨ρ2, ok2, s2, h3⟩ := post_ok (W := W) h2 ok1
  exact ⟨k, tru_of ok1 rx e, post_ok (W := W) h3 ok2 _ (.bl _)⟩
theorem dIf {cnd : Expr} {mc : M Bool} (hc : PT X cnd (tT X.K W mc)) (ha : PE X a (tE X.K W ma)) (hb : PE X b (tE X.K W mb)) : PE X (.IfExp cnd a b pos) (tE X.K W (mIf mc ma mb)) := by
  refine PE.imp (pe_ifExp hc ha hb) ?_
  rintro σ H Q ⟨c, F, ρ, ok, h⟩
  refine ⟨c, F, ρ, ok, post_mono ?_ (post_bind h)⟩
  rintro k H1 F1 _ ⟨ρ1, ok1, s1, h1⟩
  cases k with
  | true => exact ⟨c, F1, ρ1, ok1, h1⟩
  | false => exact ⟨c, F1, ρ1, ok1, h1⟩
/-! ### argument lists, displays -/
variable {es : List Expr} {ms : M (List D)}
def mCons (m : M D) (ms : M (List D)) : M (List D) := mBind m fun d => mBind ms fun ds => mPure (d :: ds)
theorem dNil : PA X [] (tA X.K W (mPure [])) := PA.imp pa_nil (by
  rintro σ H Q ⟨c, F, ρ, ok, h⟩
  exact post_ok (W := W) h ok _ .nil)
theorem dCons (ha : PE X a (tE X.K W ma)) (hr : PA X es (tA X.K W ms)) (hs : starEach (a :: es) X.env = (false, eval a X.env) :: starEach es X.env := by rfl) : PA X (a :: es) (tA X.K W (mCons ma ms)) := by
  refine PA.imp (pa_cons ha hr hs) ?_
  rintro σ H Q ⟨c, F, ρ, ok, h⟩
  refine ⟨c, F, ρ, ok, post_mono ?_ (post_bind h)⟩
  rintro d H1 F1 _ ⟨ρ1, ok1, s1, h1⟩ x rx
  refine ⟨c, F1, ρ1, ok1, post_mono ?_ (post_bind h1)⟩
  rintro ds H2 F2 _ ⟨ρ2, ok2, s2, h2⟩ xs rxs
  exact post_ok (W := W) h2 ok2 _ (.cons (Dp.mono s2 rx) rxs)
def mTup (ms : M (List D)) : M D := mBind ms fun ds => mLift (if fit ds.length = true then some (.tuple ds) else none)
def mLst (ms : M (List D)) : M D := mBind ms fun ds => mLift (if fit ds.length = true then some (.list ds) else none)
theorem dTup {x1} (h : PA X es (tA X.K W ms)) : PE X (.Tuple es x1 pos) (tE X.K W (mTup ms)) := by
  refine PE.imp (pe_tup h) ?_
  rintro σ H Q ⟨c, F, ρ, ok, h⟩
  refine ⟨c, F, ρ, ok, post_mono ?_ (post_bind h)⟩
  rintro ds H1 F1 _ ⟨ρ1, ok1, s1, h1⟩ xs rx
  obtain ⟨d, e, h2⟩ := post_lift h1
  split at e
  · rename_i hf
    cases e
    exact ⟨by rw [DpAll.length rx]; exact fit_le hf, fun p hp => new_tup ok1 rx h2 p hp⟩
  · cases e
theorem dLst (h : PA X es (tA X.K W ms)) : PE X (.List es pos) (tE X.K W (mLst ms)) := by
  refine PE.imp (pe_lst h) ?_
  rintro σ H Q ⟨c, F, ρ, ok, h⟩
  refine ⟨c, F, ρ, ok, post_mono ?_ (post_bind h)⟩
  rintro ds H1 F1 _ ⟨ρ1, ok1, s1, h1⟩ xs rx
  obtain ⟨d, e, h2⟩ := post_lift h1
  split at e
  · rename_i hf
    cases e
    exact ⟨by rw [DpAll.length rx]; exact fit_le hf, fun p hp => new_lst ok1 rx h2 p hp⟩
  · cases e
/-! ### built-ins by name -/
inductive PkAll (K : PySem.W.Frag) (H F : Hp) : List V → List D → Prop
  | nil : PkAll K H F [] []
  | cons {v : V} {vs : List V} {d : D} {ds : List D} : Pk K H F v d → PkAll K H F vs ds → PkAll K H F (v :: vs) (d :: ds)
theorem PkAll.of {F : Hp} : ∀ {vs : List V} {ds : List D}, DpAll K F vs ds → PkAll K H F vs ds
  | _, _, .nil => .nil
  | _, _, .cons h t => .cons (.inl h) (PkAll.of t)
def CallD (K : PySem.W.Frag) (r : List V → Hp → VK → Prop) (g : List D → Option D) : Prop :=
  ∀ {W : WX} {c : Ct} {σ : St} {H F : Hp} {ρ : En} {xs : List V} {ds : List D} {d : D} {Q : VK}, Ok K c σ H F ρ → PkAll K H F xs ds → g ds = some d → post K W c σ F (qE K Q) (some (.ok d ρ)) → r xs H Q
def mCall1 (g : List D → Option D) (m : M D) : M D := mBind m fun d => mLift (g [d])
def mCallN (g : List D → Option D) (ms : M (List D)) : M D := mBind ms fun ds => mLift (g ds)
variable {x : Str} {p : Pos} {id T : String} {r : List V → Hp → VK → Prop} {g : List D → Option D}
theorem tCB1 (hd : CallD K r g) {Q : VK} (h : tE K W (mCall1 g ma) σ H Q) : tCB r (tCons (tP K W ma) tNil) σ H Q := by
  obtain ⟨c, F, ρ, ok, h⟩ := h
  refine ⟨c, F, ρ, ok, post_mono ?_ (post_bind h)⟩
  rintro d H1 F1 _ ⟨ρ1, ok1, s1, h1⟩ x rx
  obtain ⟨d', e, h2⟩ := post_lift h1
  exact hd ok1 (.cons rx .nil) e h2
theorem tCBn (hd : CallD K r g) {Q : VK} (h : tE K W (mCallN g ms) σ H Q) : tCB r (tA K W ms) σ H Q := by
  obtain ⟨c, F, ρ, ok, h⟩ := h
  refine ⟨c, F, ρ, ok, post_mono ?_ (post_bind h)⟩
  rintro ds H1 F1 _ ⟨ρ1, ok1, s1, h1⟩ xs rx
  obtain ⟨d', e, h2⟩ := post_lift h1
  exact hd ok1 (.of rx) e h2
theorem dB1 (hc : CallR X (.builtin id) r) (hd : CallD X.K r g) (hm : X.mg x = none) (hv : bootBuiltins x = some (.builtin id)) (ha : PE X a (tP X.K W ma)) (hg : Gl X x := by rfl) (hs : starEach (a :: []) X.env = (false, eval a X.env) :: starEach [] X.env := by rfl) (hn : x ≠ "__name__" := by decide) (hdb : (x == ("__debug__" : Str)) = false := by decide)
    (hpl : (backTo pos (starEach [] X.env)).any (·.1) = false := by rfl) : PE X (.Call (.Name x p) [a] [] pos) (tE X.K W (mCall1 g ma)) :=
  PE.imp (pe_callB hc hg hm hv (pa_cons ha pa_nil hs) hn hdb hs hpl) fun _ _ _ => tCB1 hd
theorem dTy1 (hc : CallR X (.type T) r) (hd : CallD X.K r g) (hm : X.mg x = none) (hv : bootBuiltins x = some (.type T)) (ha : PE X a (tP X.K W ma)) (hg : Gl X x := by rfl) (hs : starEach (a :: []) X.env = (false, eval a X.env) :: starEach [] X.env := by rfl) (hn : x ≠ "__name__" := by decide) (hdb : (x == ("__debug__" : Str)) = false := by decide)
    (hpl : (backTo pos (starEach [] X.env)).any (·.1) = false := by rfl) : PE X (.Call (.Name x p) [a] [] pos) (tE X.K W (mCall1 g ma)) :=
  PE.imp (pe_callTy hc hg hm hv (pa_cons ha pa_nil hs) hn hdb hs hpl) fun _ _ _ => tCB1 hd
theorem dBn (hc : CallR X (.builtin id) r) (hd : CallD X.K r g) (hm : X.mg x = none) (hv : bootBuiltins x = some (.builtin id)) (ha : PA X (a :: es) (tA X.K W ms)) (hg : Gl X x := by rfl) (hs : starEach (a :: es) X.env = (false, eval a X.env) :: starEach es X.env := by rfl) (hn : x ≠ "__name__" := by decide) (hdb : (x == ("__debug__" : Str)) = false := by decide)
    (hpl : (backTo pos (starEach es X.env)).any (·.1) = false := by rfl) : PE X (.Call (.Name x p) (a :: es) [] pos) (tE X.K W (mCallN g ms)) :=
  PE.imp (pe_callB hc hg hm hv ha hn hdb hs hpl) fun _ _ _ => tCBn hd
end
end Dd

namespace Dd
open PySem PySem.Spec L2
section
variable {X : Cx} {W : WX} {K : PySem.W.Frag} {e tg : Expr} {st : Stmt} {sts : List Stmt} {m : M D} {pos : Pos} {m1 m2 : M Fl}
/-! ### statements -/
def mSeq (m1 m2 : M Fl) : M Fl := mBind m1 fun f => match f with
  | .nx => m2
  | o => mPure o
theorem bind_ok {α β : Type} {m : M α} {f : α → M β} {ρ ρ' : En} {b : β} (h : mBind m f ρ = some (.ok b ρ')) : ∃ a ρ1, m ρ = some (.ok a ρ1) ∧ f a ρ1 = some (.ok b ρ') := by
  unfold mBind at h
  cases e : m ρ with
  | none => rw [e] at h; cases h
  | some r =>
    rw [e] at h
    cases r with
    | ok a ρ1 => exact ⟨a, ρ1, rfl, h⟩
    | ex x ρ1 => cases h
theorem seq_post {c : Ct} {F : Hp} {Dn : Ends} {ρ : En} (h : postS K W c F Dn (mSeq m1 m2 ρ)) : postS K W c F { Dn with nx := tS K W m2 Dn } (m1 ρ) := by
  unfold mSeq mBind at h
  cases e : m1 ρ with
  | none => rw [e] at h; exact h
  | some r =>
    rw [e] at h
    cases r with
    | ex x ρ1 => exact h
    | ok f ρ1 =>
      cases f with
      | nx => exact fun σ' H' F' ok s => ⟨c, F', ρ1, ok, postS_weak s h⟩
      | bk => exact h
      | ct => exact h
      | rt d => exact h
      | rf ds => exact h
theorem dsCons (h1 : PS X st (tS X.K W m1)) (h2 : PSs X sts (tS X.K W m2)) : PSs X (st :: sts) (tS X.K W (mSeq m1 m2)) :=
  PSs.imp (pss_cons h1 h2) fun Dn σ H ⟨c, F, ρ, ok, h⟩ => ⟨c, F, ρ, ok, seq_post h⟩
theorem dsOne (h1 : PS X st (tS X.K W m1)) : PSs X [st] (tS X.K W m1) := pss_one h1
theorem dsNil : PSs X [] (tS X.K W (mPure .nx)) := PSs.imp pss_nil fun Dn σ H ⟨c, F, ρ, ok, h⟩ => h σ H F ok (Same.refl F)
theorem dPass : PS X (.Pass pos) (tS X.K W (mPure .nx)) := PS.imp ps_pass fun Dn σ H ⟨c, F, ρ, ok, h⟩ => h σ H F ok (Same.refl F)
theorem dBreak : PS X (.Break pos) (tS X.K W (mPure .bk)) := PS.imp ps_break fun Dn σ H ⟨c, F, ρ, ok, h⟩ => h σ H F ok (Same.refl F)
theorem dCont : PS X (.Continue pos) (tS X.K W (mPure .ct)) := PS.imp ps_continue fun Dn σ H ⟨c, F, ρ, ok, h⟩ => h σ H F ok (Same.refl F)
def mRet (m : M D) : M Fl := mBind m fun d => mPure (.rt d)
theorem dRet (he : PE X e (tE X.K W m)) : PS X (.Return (some e) pos) (tS X.K W (mRet m)) := PS.imp (ps_ret he) (by
  rintro Dn σ H ⟨c, F, ρ, ok, h⟩
  refine ⟨c, F, ρ, ok, post_mono ?_ (postS_bind h)⟩
  rintro d H1 F1 _ ⟨ρ1, ok1, s1, h1⟩ v rv
  exact h1 σ v H1 F1 ok1 (Same.refl F1) rv)
theorem dRetN : PS X (.Return none pos) (tS X.K W (mPure (.rt .none))) := PS.imp ps_retN (by
  rintro Dn σ H ⟨c, F, ρ, ok, h⟩
  exact h σ .non H F ok (Same.refl F) .non)
/-- a new list is handed back, the caller's own -/
def mRetF (ms : M (List D)) : M Fl := mBind ms fun ds => mBind (mLift (if fit ds.length = true then some ds else none)) fun ds => mPure (.rf ds)
theorem dRetF {es : List Expr} {lp : Pos} {ms : M (List D)} (h : PA X es (tA X.K W ms)) : PS X (.Return (some (.List es lp)) pos) (tS X.K W (mRetF ms)) := PS.imp (ps_ret (pe_lst h)) (by
  rintro Dn σ H ⟨c, F, ρ, ok, h⟩
  refine ⟨c, F, ρ, ok, post_mono ?_ (postS_bind h)⟩
  rintro ds H1 F1 _ ⟨ρ1, ok1, s1, h1⟩ xs rx
  have h2 := postS_bind (σ := σ) h1
  obtain ⟨d, e, h3⟩ := post_lift h2
  split at e
  · rename_i hf
    cases e
    refine ⟨by rw [DpAll.length rx]; exact fit_le hf, fun p hp => ?_⟩
    obtain ⟨a1, a2, a3, a4, a5⟩ := ok1.new hp
    have k : Same H1 (upd H1 p (.lst xs)) := Same.updN hp
    have ok2 : Ok X.K c σ (upd H1 p (.lst xs)) F1 ρ1 := by
      obtain ok' := ok1.allocP (o := .lst xs) hp
      refine ⟨ok'.len, ok'.sub, ok'.ge, ok'.fe, ok'.keep, fun q z => ?_, fun b u z => ?_, ok'.val, fun i es z => ?_, ok'.ios, ok'.scr, ok'.sep⟩
      · obtain ⟨b1, b2, b3, xs', b4⟩ := ok1.iod q z
        exact ⟨b1, b2, b3, xs', k _ _ b4⟩
      · obtain ⟨b1, b2, b3⟩ := ok1.prt b u z
        exact ⟨k _ _ b1, b2, b3⟩
      · obtain ⟨q, vs, b1, b2, b3, b4, b5, b6⟩ := ok1.own i es z
        exact ⟨q, vs, b1, k _ _ b2, b3, b4, b5, b6⟩
    obtain ⟨ρ2, ok3, s3, h4⟩ := h3 _ _ ok2 (Same.refl F1)
    exact h4 σ p xs _ _ ok3 (Same.refl F1) upd_same rx a1 a2
  · cases e)
def mDrop (m : M D) : M Fl := mBind m fun _ => mPure .nx
theorem dExpr (he : PE X e (tE X.K W m)) (hs : swapsWith e none pos.line X.env = pure false := by rfl) : PS X (.Expr e pos) (tS X.K W (mDrop m)) := PS.imp (ps_expr he hs) (by
  rintro Dn σ H ⟨c, F, ρ, ok, h⟩
  refine ⟨c, F, ρ, ok, post_mono ?_ (postS_bind h)⟩
  rintro d H1 F1 _ ⟨ρ1, ok1, s1, h1⟩ v rv
  exact h1 σ H1 F1 ok1 (Same.refl F1))
theorem dIfS {cnd : Expr} {a b : List Stmt} {mc : M Bool} (hc : PT X cnd (tT X.K W mc)) (ha : PSs X a (tS X.K W m1)) (hb : PSs X b (tS X.K W m2)) : PS X (.If cnd a b pos) (tS X.K W (mIf mc m1 m2)) := PS.imp (ps_if hc ha hb) (by
  rintro Dn σ H ⟨c, F, ρ, ok, h⟩
  refine ⟨c, F, ρ, ok, post_mono ?_ (postS_bind h)⟩
  rintro k H1 F1 _ ⟨ρ1, ok1, s1, h1⟩
  cases k with
  | true => exact ⟨c, F1, ρ1, ok1, h1⟩
  | false => exact ⟨c, F1, ρ1, ok1, h1⟩)
/-! ### stores -/
def mStore (i : Nat) (d : D) : M Unit := fun ρ => if i < ρ.length then some (.ok () (ρ.set i (.val d))) else none
def mDone : M Fl := mPure .nx
theorem dgName {i : Nat} {x : Str} {p : Pos} (hN : X.N.Nodup) (hi : X.N[i]? = some x := by rfl) (hx : Loc X.env.scope x := by first | exact Or.inl rfl | exact Or.inr rfl) (hf : X.fn x = true ∨ X.env.scope.names.lookup x = some .local := by first | exact .inl rfl | exact .inr rfl) : PG X (.Name x p) (tG X.K W (mStore i)) := PG.imp (pg_name hN hi hx hf) (by
  rintro v σ H Q ⟨c, F, ρ, d, ok, r, h⟩
  unfold mStore at h
  split at h
  · rename_i hl
    exact h _ H F (ok.setV hl r) (Same.refl F)
  · exact h.elim)
theorem dgsNil : PGs X [] (tGs X.K W fun ds => match ds with | [] => mPure () | _ => mStuck) := PGs.imp pgs_nil (by
  rintro vs σ H Q ⟨c, F, ρ, ds, ok, r, h⟩
  cases r with
  | nil => exact ⟨rfl, h σ H F ok (Same.refl F)⟩
  | cons _ _ => exact h.elim)
def gCons2 (g : D → M Unit) (gs : List D → M Unit) : List D → M Unit
  | [] => mStuck
  | d :: ds => mBind (g d) fun _ => gs ds
theorem dgsCons {es : List Expr} {g : D → M Unit} {gs : List D → M Unit} (h1 : PG X e (tG X.K W g)) (h2 : PGs X es (tGs X.K W gs)) (hs : (assignEach (e :: es) X.env).map (·.2) = assign e X.env :: (assignEach es X.env).map (·.2) := by rfl) : PGs X (e :: es) (tGs X.K W (gCons2 g gs)) :=
  PGs.imp (pgs_cons h1 h2 hs) (by
  rintro vs σ H Q ⟨c, F, ρ, ds, ok, r, h⟩
  cases r with
  | nil => exact h.elim
  | cons r rr =>
    refine ⟨_, _, rfl, c, F, ρ, _, ok, r, postG_mono ?_ (postG_bindG h)⟩
    rintro σ1 H1 ⟨F1, ρ1, ok1, s1, h1⟩
    exact ⟨c, F1, ρ1, _, ok1, DpAll.mono s1 rr, h1⟩)
def gTupD (n : Nat) (gs : List D → M Unit) : D → M Unit
  | .tuple ds => if ds.length = n then gs ds else mStuck
  | _ => mStuck
theorem dgTup {es : List Expr} {k : Nat} {gs : List D → M Unit} {n : Nat} (hc : X.calm = true) (h : PGs X es (tGs X.K W gs)) (hn : (assignEach es X.env).length = n := by rfl) (hst : (assignEach es X.env).findIdx? (·.1) = none := by rfl) : PG X (.Tuple es k pos) (tG X.K W (gTupD n gs)) :=
  PG.imp (pg_tup hc h hn hst) (by
  rintro v σ H Q ⟨c, F, ρ, d, ok, r, h⟩
  unfold gTupD at h
  split at h
  · split at h
    · rename_i hl
      obtain ⟨p, vs, rfl, hp, dp⟩ := Pk.tup ok.sub (.inl r)
      exact ⟨p, vs, rfl, hp, by rw [DpAll.length dp]; exact hl, c, F, ρ, _, ok, dp, h⟩
    · exact h.elim
  · exact h.elim)
/-- a slot's own list (or the caller's): what it holds; it is changed -/
def mOwn (i : Nat) : M (List D) := fun ρ => match ρ[i]? with
  | some (.own ds) => some (.ok ds ρ)
  | some (.io ds) => some (.ok ds ρ)
  | _ => none
def mPut (i : Nat) (ds : List D) : M Unit := fun ρ => match ρ[i]? with
  | some (.own _) => some (.ok () (ρ.set i (.own ds)))
  | some (.io _) => some (.ok () (ρ.set i (.io ds)))
  | _ => none
theorem own_at {c : Ct} {σ : St} {H F : Hp} {ρ : En} {i : Nat} {α : Type} {G : α → Hp → Hp → Prop} {f : List D → M α} (ok : Ok K c σ H F ρ) (h : post K W c σ F G (mBind (mOwn i) f ρ)) :
    ∃ p vs ds, σ[i]? = some (some (.ref p)) ∧ H p = some (.lst vs) ∧ DpAll K F vs ds ∧ F p = none ∧ post K W c σ F G (f ds ρ) := by
  unfold mBind mOwn at h
  cases e : ρ[i]? with
  | none => rw [e] at h; exact h.elim
  | some u =>
    rw [e] at h
    cases u with
    | own ds =>
      obtain ⟨p, vs, a1, a2, a3, a4, _⟩ := ok.own i ds e
      exact ⟨p, vs, ds, a1, a2, a3, a4, h⟩
    | io ds =>
      obtain ⟨_, p, vs, a0, a1, a2, a3⟩ := ok.ios i ds e
      exact ⟨p, vs, ds, a1, a2, a3, (ok.iod p a0).1, h⟩
    | un => exact h.elim
    | val _ => exact h.elim
    | scr _ => exact h.elim
theorem own_atG {c : Ct} {σ : St} {H F : Hp} {ρ : En} {i : Nat} {Q : St → Hp → Prop} {f : List D → M Unit} (ok : Ok K c σ H F ρ) (h : postG K W c F Q (mBind (mOwn i) f ρ)) :
    ∃ p vs ds, σ[i]? = some (some (.ref p)) ∧ H p = some (.lst vs) ∧ DpAll K F vs ds ∧ F p = none ∧ postG K W c F Q (f ds ρ) := by
  unfold mBind mOwn at h
  cases e : ρ[i]? with
  | none => rw [e] at h; exact h.elim
  | some u =>
    rw [e] at h
    cases u with
    | own ds =>
      obtain ⟨p, vs, a1, a2, a3, a4, _⟩ := ok.own i ds e
      exact ⟨p, vs, ds, a1, a2, a3, a4, h⟩
    | io ds =>
      obtain ⟨_, p, vs, a0, a1, a2, a3⟩ := ok.ios i ds e
      exact ⟨p, vs, ds, a1, a2, a3, (ok.iod p a0).1, h⟩
    | un => exact h.elim
    | val _ => exact h.elim
    | scr _ => exact h.elim
theorem put_ok {c : Ct} {σ : St} {H F : Hp} {ρ : En} {i : Nat} {ds : List D} {vs' : List V} {p : Addr} {α : Type} {G : α → Hp → Hp → Prop} {f : Unit → M α} (ok : Ok K c σ H F ρ) (hp : σ[i]? = some (some (.ref p))) (hd : DpAll K F vs' ds)
    (h : post K W c σ F G (mBind (mPut i ds) f ρ)) : ∃ ρ', Ok K c σ (upd H p (.lst vs')) F ρ' ∧ post K W c σ F G (f () ρ') := by
  unfold mBind mPut at h
  cases e : ρ[i]? with
  | none => rw [e] at h; exact h.elim
  | some u =>
    rw [e] at h
    cases u with
    | own es => exact ⟨_, ok.change e p hp hd, h⟩
    | io es => exact ⟨_, ok.changeI e p hp hd, h⟩
    | un => exact h.elim
    | val _ => exact h.elim
    | scr _ => exact h.elim
theorem put_okG {c : Ct} {σ : St} {H F : Hp} {ρ : En} {i : Nat} {ds : List D} {vs' : List V} {p : Addr} {Q : St → Hp → Prop} (ok : Ok K c σ H F ρ) (hp : σ[i]? = some (some (.ref p))) (hd : DpAll K F vs' ds)
    (h : postG K W c F Q (mPut i ds ρ)) : Q σ (upd H p (.lst vs')) := by
  unfold mPut at h
  cases e : ρ[i]? with
  | none => rw [e] at h; exact h.elim
  | some u =>
    rw [e] at h
    cases u with
    | own es => exact h _ _ _ (ok.change e p hp hd) (Same.refl F)
    | io es => exact h _ _ _ (ok.changeI e p hp hd) (Same.refl F)
    | un => exact h.elim
    | val _ => exact h.elim
    | scr _ => exact h.elim
/-- x[k] = value, x a slot's own list -/
def setD : List D → D → D → Option (List D)
  | ds, .int k, d => (ixN ds.length k).map fun j => ds.set j d
  | _, _, _ => none
def gSet (i : Nat) (mk : M D) (d : D) : M Unit := mBind (mOwn i) fun _ => mBind mk fun k => mBind (mOwn i) fun ds => mBind (mLift (setD ds k d)) fun es => mPut i es
theorem dgSet {i : Nat} {o k : Expr} {mk : M D} (ho : PE X o (tVar i)) (hk : PE X k (tE X.K W mk))
    (ha : ∀ v, assign (.Subscript o k pos) X.env v = (do
      let ov ← holding [v] (eval o X.env)
      let iv ← holding [v, ov] (eval k X.env)
      standAt pos
      holding [v, ov, iv] (setItem ov iv v)
      release [v, ov, iv] []) := by exact fun _ => rfl) : PG X (.Subscript o k pos) (tG X.K W (gSet i mk)) := PG.imp (pg_sub ho hk set_list ha) (by
  rintro v σ H Q ⟨c, F, ρ, d, ok, r, h⟩
  obtain ⟨p, vs, ds, a1, a2, a3, a4, h⟩ := own_atG ok h
  refine ⟨.ref p, a1, c, F, ρ, ok, post_mono ?_ (postG_bind h)⟩
  rintro kd H1 F1 _ ⟨ρ1, ok1, s1, h1⟩ kv rk
  obtain ⟨p', vs1, ds1, b1, b2, b3, b4, h1⟩ := own_atG ok1 h1
  have ep : p' = p := by rw [a1] at b1; cases b1; rfl
  subst ep
  have h2 := postG_bind (σ := σ) h1
  obtain ⟨es, e, h3⟩ := post_lift h2
  obtain ⟨ρ2, ok2, s2, h4⟩ := h3 H1 F1 ok1 (Same.refl F1)
  cases kd with
  | int z =>
    cases rk
    have e : (ixN ds1.length z).map (fun j => ds1.set j d) = some es := e
    cases q : ixN ds1.length z with
    | none => rw [q] at e; cases e
    | some j =>
      rw [q] at e
      cases e
      refine ⟨p', vs1, z, j, rfl, rfl, b2, by rw [DpAll.length b3]; exact q, ?_⟩
      exact put_okG ok2 b1 (DpAll.set (Dp.mono s1 r) j b3) h4
  | none => cases e
  | bool _ => cases e
  | str _ => cases e
  | list _ => cases e
  | tuple _ => cases e
  | dict _ => cases e)
def mAsg (m : M D) (g : D → M Unit) : M Fl := mBind m fun d => mBind (g d) fun _ => mDone
theorem asg_of {Dn : Ends} {σ : St} {H : Hp} {g : D → M Unit} (h : tS K W (mAsg m g) Dn σ H) : tAsg (tE K W m) (tG K W g) Dn σ H := by
  obtain ⟨c, F, ρ, ok, h⟩ := h
  refine ⟨c, F, ρ, ok, post_mono ?_ (postS_bind h)⟩
  rintro d H1 F1 _ ⟨ρ1, ok1, s1, h1⟩ v rv
  refine ⟨c, F1, ρ1, d, ok1, rv, postG_mono ?_ (postS_bindG h1)⟩
  rintro σ2 H2 ⟨F2, ρ2, ok2, s2, h2⟩
  exact h2 σ2 H2 F2 ok2 (Same.refl F2)
theorem dAsg {g : D → M Unit} (he : PE X e (tE X.K W m)) (hg : PG X tg (tG X.K W g)) (hs : swapsWithSole [tg] e pos.line X.env = pure false := by rfl) (hw : swappedStores [tg] e X.env = pure none := by rfl)
    (h1 : (assignEach [tg] X.env).map (·.2) = [assign tg X.env] := by rfl) : PS X (.Assign [tg] e pos) (tS X.K W (mAsg m g)) := PS.imp (ps_asg he hg hs hw h1) fun _ _ _ => asg_of
/-- name = value -/
theorem dSet {i : Nat} {x : Str} {pos' : Pos} (hN : X.N.Nodup) (he : PE X e (tE X.K W m)) (hi : X.N[i]? = some x := by rfl) (hx : Loc X.env.scope x := by first | exact Or.inl rfl | exact Or.inr rfl) (hs : swapsWith e (some (.Name x pos')) pos.line X.env = pure false := by rfl)
    (hf : X.fn x = true ∨ X.env.scope.names.lookup x = some .local := by first | exact .inl rfl | exact .inr rfl) : PS X (.Assign [.Name x pos'] e pos) (tS X.K W (mAsg m (mStore i))) := PS.imp (ps_set hN hi hx he hs hf) (by
  rintro Dn σ H h
  obtain ⟨c, F, ρ, ok, h⟩ := h
  refine ⟨c, F, ρ, ok, post_mono ?_ (postS_bind h)⟩
  rintro d H1 F1 _ ⟨ρ1, ok1, s1, h1⟩ v rv
  have h2 := postS_bindG h1
  unfold mStore at h2
  split at h2
  · rename_i hl
    obtain ⟨F2, ρ2, ok2, s2, h3⟩ := h2 _ H1 F1 (ok1.setV hl rv) (Same.refl F1)
    exact h3 _ _ _ ok2 (Same.refl F2)
  · exact h2.elim)
/-- name = [..], its own -/
def mStoreO (i : Nat) (ds : List D) : M Unit := fun ρ => if i < ρ.length then some (.ok () (ρ.set i (.own ds))) else none
def mAsgO (ms : M (List D)) (i : Nat) : M Fl := mBind ms fun ds => mBind (mLift (if fit ds.length = true then some ds else none)) fun ds => mBind (mStoreO i ds) fun _ => mDone
theorem dSetO {i : Nat} {x : Str} {pos' lp : Pos} {es : List Expr} {ms : M (List D)} (hN : X.N.Nodup) (he : PA X es (tA X.K W ms)) (hi : X.N[i]? = some x := by rfl) (hx : Loc X.env.scope x := by first | exact Or.inl rfl | exact Or.inr rfl)
    (hs : swapsWith (.List es lp) (some (.Name x pos')) pos.line X.env = pure false := by rfl)
    (hf : X.fn x = true ∨ X.env.scope.names.lookup x = some .local := by first | exact .inl rfl | exact .inr rfl) : PS X (.Assign [.Name x pos'] (.List es lp) pos) (tS X.K W (mAsgO ms i)) := PS.imp (ps_set hN hi hx (pe_lst he) hs hf) (by
  rintro Dn σ H h
  obtain ⟨c, F, ρ, ok, h⟩ := h
  refine ⟨c, F, ρ, ok, post_mono ?_ (postS_bind h)⟩
  rintro ds H1 F1 _ ⟨ρ1, ok1, s1, h1⟩ xs rx
  have h2 := postS_bind (σ := σ) h1
  obtain ⟨d, e, h3⟩ := post_lift h2
  split at e
  · rename_i hf
    cases e
    refine ⟨by rw [DpAll.length rx]; exact fit_le hf, fun p hp => ?_⟩
    obtain ⟨ρ2, ok2, s2, h4⟩ := h3 H1 F1 ok1 (Same.refl F1)
    have hpr : c.pr p = none := (ok2.new hp).2.2.1
    have h5 := postS_bindG h4
    unfold mStoreO at h5
    split at h5
    · rename_i hl
      obtain ⟨F3, ρ3, ok3, s3, h6⟩ := h5 _ _ _ ((ok2.allocP (o := .lst xs) hp).ownP hpr rx hl) (Same.refl F1)
      exact h6 _ _ _ ok3 (Same.refl F3)
    · exact h5.elim
  · cases e)
/-- name op= value -/
def mAug (i : Nat) (g : D → D → Option D) (m : M D) : M Fl := mBind (mPeek i) fun _ => mBind m fun b => mBind (mPeek i) fun a => mBind (mLift (g a b)) fun d => mBind (mStore i d) fun _ => mDone
theorem peekS {c : Ct} {σ : St} {H F : Hp} {ρ : En} {i : Nat} {Dn : Ends} {f : D → M Fl} (ok : Ok K c σ H F ρ) (h : postS K W c F Dn (mBind (mPeek i) f ρ)) : ∃ v d, σ[i]? = some (some v) ∧ Pk K H F v d ∧ postS K W c F Dn (f d ρ) := by
  unfold mBind mPeek at h
  cases e : ρ[i]? with
  | none => rw [e] at h; exact h.elim
  | some u =>
    rw [e] at h
    cases u with
    | un => exact h.elim
    | val d =>
      obtain ⟨v, a1, a2⟩ := ok.val i d e
      exact ⟨v, d, a1, .inl a2, h⟩
    | own ds =>
      obtain ⟨p, vs, a1, a2, a3, _⟩ := ok.own i ds e
      exact ⟨.ref p, _, a1, .inr ⟨p, vs, ds, rfl, rfl, a2, a3⟩, h⟩
    | io ds =>
      obtain ⟨_, p, vs, _, a1, a2, a3⟩ := ok.ios i ds e
      exact ⟨.ref p, _, a1, .inr ⟨p, vs, ds, rfl, rfl, a2, a3⟩, h⟩
    | scr ns => exact h.elim
theorem dAug {i : Nat} {x : Str} {op : Operator} {r : R2} {g : D → D → Option D} {pos' : Pos} (hN : X.N.Nodup) (ho : OpR X (inplaceOp op) r) (hd : OpD X.K r g) (he : PE X e (tE X.K W m)) (hi : X.N[i]? = some x := by rfl) (hx : Loc X.env.scope x := by first | exact Or.inl rfl | exact Or.inr rfl)
    (hf : X.fn x = true ∨ X.env.scope.names.lookup x = some .local := by first | exact .inl rfl | exact .inr rfl) : PS X (.AugAssign (.Name x pos') op e pos) (tS X.K W (mAug i g m)) := PS.imp (ps_aug hN hi hx he (ti := r) ho hf) (by
  rintro Dn σ H ⟨c, F, ρ, ok, h⟩
  obtain ⟨v, _, ev, _, h⟩ := peekS ok h
  refine ⟨v, ev, c, F, ρ, ok, post_mono ?_ (postS_bind h)⟩
  rintro b H1 F1 _ ⟨ρ1, ok1, s1, h1⟩ y ry
  obtain ⟨v', a, ev', pk, h2⟩ := peekS ok1 h1
  have ee : v' = v := by rw [ev] at ev'; cases ev'; rfl
  subst ee
  obtain ⟨d, e, h3⟩ := post_lift (postS_bind (σ := σ) h2)
  refine hd (W := W) ok1 pk (.inl ry) e ?_
  intro H2 F2 ok2' s2' z rz
  obtain ⟨ρ2, ok2, s2, h4⟩ := h3 H2 F2 ok2' s2'
  have h5 := postS_bindG h4
  unfold mStore at h5
  split at h5
  · rename_i hl
    obtain ⟨F3, ρ3, ok3, s3, h6⟩ := h5 _ H2 F2 (ok2.setV hl rz) (Same.refl F2)
    exact h6 _ _ _ ok3 (Same.refl F3)
  · exact h5.elim)
/-! ### methods that change a slot's own list -/
def MutD (K : PySem.W.Frag) (r : V → List V → Hp → VK → Prop) (g : List D → List D → Option (List D × D)) : Prop :=
  ∀ {H F : Hp} {l : Addr} {xs vs : List V} {ds as ds' : List D} {d : D} {Q : VK}, Same F H → F l = none → H l = some (.lst xs) → DpAll K F xs ds → DpAll K F vs as → g ds as = some (ds', d) →
    (∀ xs' v, DpAll K F xs' ds' → Dp K F v d → Q v (upd H l (.lst xs'))) → r (.ref l) vs H Q
def mMut (i : Nat) (g : List D → List D → Option (List D × D)) (ms : M (List D)) : M D := mBind (mOwn i) fun _ => mBind ms fun as => mBind (mOwn i) fun ds => mBind (mLift (g ds as)) fun q => mBind (mPut i q.1) fun _ => mPure q.2
theorem mut_of {i : Nat} {r : V → List V → Hp → VK → Prop} {g : List D → List D → Option (List D × D)} (hd : MutD K r g) {ms : M (List D)} {σ : St} {H : Hp} {Q : VK} (h : tE K W (mMut i g ms) σ H Q) : tBM K "list" r (tVar i) (tA K W ms) σ H Q := by
  obtain ⟨c, F, ρ, ok, h⟩ := h
  obtain ⟨p, vs, ds, a1, a2, a3, a4, h⟩ := own_at ok h
  refine ⟨.ref p, a1, .inl ⟨rfl, vs, SqL.of a2⟩, c, F, ρ, ok, post_mono ?_ (post_bind h)⟩
  rintro as H1 F1 _ ⟨ρ1, ok1, s1, h1⟩ ws rw'
  obtain ⟨p', vs1, ds1, b1, b2, b3, b4, h1⟩ := own_at ok1 h1
  have ep : p' = p := by rw [a1] at b1; cases b1; rfl
  subst ep
  obtain ⟨⟨ds', d⟩, e, h2⟩ := post_lift (post_bind h1)
  obtain ⟨ρ2, ok2, s2, h3⟩ := h2 H1 F1 ok1 (Same.refl F1)
  refine hd ok1.sub b4 b2 b3 rw' e fun xs' v dx dv => ?_
  obtain ⟨ρ3, ok3, h4⟩ := put_ok ok2 b1 dx h3
  exact h4 _ _ ok3 (Same.refl F1) v dv
theorem mut_of0 {i : Nat} {r : V → List V → Hp → VK → Prop} {g : List D → List D → Option (List D × D)} (hd : MutD K r g) {σ : St} {H : Hp} {Q : VK} (h : tE K W (mMut i g (mPure [])) σ H Q) : tBM0 K "list" r (tVar i) σ H Q := by
  obtain ⟨c, F, ρ, ok, h⟩ := h
  obtain ⟨p, vs, ds, a1, a2, a3, a4, h⟩ := own_at ok h
  refine ⟨.ref p, a1, .inl ⟨rfl, vs, SqL.of a2⟩, ?_⟩
  obtain ⟨ρ1, ok1, s1, h1⟩ := (post_bind h) H F ok (Same.refl F)
  obtain ⟨p', vs1, ds1, b1, b2, b3, b4, h1⟩ := own_at ok1 h1
  have ep : p' = p := by rw [a1] at b1; cases b1; rfl
  subst ep
  obtain ⟨⟨ds', d⟩, e, h2⟩ := post_lift (post_bind h1)
  obtain ⟨ρ2, ok2, s2, h3⟩ := h2 H F ok1 (Same.refl F)
  refine hd ok1.sub b4 b2 b3 .nil e fun xs' v dx dv => ?_
  obtain ⟨ρ3, ok3, h4⟩ := put_ok ok2 b1 dx h3
  exact h4 _ _ ok3 (Same.refl F) v dv
def appD : List D → List D → Option (List D × D)
  | ds, [d] => if fit ds.length = true then some (ds ++ [d], .none) else none
  | _, _ => none
theorem mut_app : MutD K rAppend appD := by
  intro H F l xs vs ds as ds' d Q s hF hl hx hv e k
  cases hv with
  | nil => cases e
  | cons h t =>
    cases t with
    | cons _ _ => cases e
    | nil =>
      rename_i v0 d0
      have e : (if fit ds.length = true then some (ds ++ [d0], PyData.none) else none) = some (ds', d) := e
      by_cases hf : fit ds.length = true
      · rw [if_pos hf] at e
        cases e
        exact ⟨l, xs, _, rfl, rfl, hl, by rw [DpAll.length hx]; exact fit_lt hf, k _ _ (DpAll.append hx (.one h)) .non⟩
      · rw [if_neg hf] at e
        cases e
def popAtD : List D → List D → Option (List D × D)
  | ds, [.int i] => if decide (i.natAbs < 9223372036854775808) = true then (seqIndex? i ds.length).bind fun k => (ds[k]?).map fun d => (ds.eraseIdx k, d) else none
  | _, _ => none
theorem mut_popAt : MutD K rPopAt popAtD := by
  intro H F l xs vs ds as ds' d Q s hF hl hx hv e k
  unfold popAtD at e
  split at e
  · rename_i i
    cases hv with
    | cons h t =>
      cases t
      cases h
      split at e
      · rename_i hb
        have hb := of_decide_eq_true hb
        cases q : seqIndex? i ds.length with
        | none => rw [q] at e; cases e
        | some j =>
          rw [q] at e
          cases q2 : ds[j]? with
          | none => simp only [Option.bind_some] at e; rw [q2] at e; cases e
          | some y =>
            simp only [Option.bind_some] at e
            rw [q2] at e
            cases e
            obtain ⟨v, e1, e2⟩ := DpAll.getd hx q2
            exact ⟨l, xs, i, j, v, rfl, rfl, hl, by omega, by omega, by rw [DpAll.length hx]; exact q, e1, k _ _ (DpAll.eraseIdx j hx) e2⟩
      · cases e
  · cases e
def revD : List D → List D → Option (List D × D)
  | ds, [] => some (ds.reverse, .none)
  | _, _ => none
theorem mut_rev : MutD K rReverse revD := by
  intro H F l xs vs ds as ds' d Q s hF hl hx hv e k
  cases hv with
  | cons _ _ => cases e
  | nil =>
    cases e
    exact ⟨l, xs, rfl, rfl, hl, k _ _ (DpAll.reverse hx) .non⟩
end
end Dd

namespace Dd
open PySem PySem.Spec L2
section
variable {X : Cx} {W : WX} {K : PySem.W.Frag} {e tg : Expr} {m : M D} {pos : Pos}
/-! ### what is walked -/
structure ItD (K : PySem.W.Frag) (F : Hp) (J : It) (ds : List D) : Prop where
  go : ∀ H i, Same F H → i < ds.length → J.go i H
  stop : ∀ H i, Same F H → ds.length ≤ i → J.stop i H
  yld : ∀ H i x H' d, Same F H → ds[i]? = some d → J.yld i H x H' → (H' = H ∧ Dp K F x d) ∨ (∃ T xs es, d = .tuple es ∧ x = .ref T ∧ H T = none ∧ H' = upd H T (.tup xs) ∧ DpAll K F xs es)
def tI (K : PySem.W.Frag) (W : WX) (m : M (List D)) : TI := fun σ H R => ∃ c F ρ, Ok K c σ H F ρ ∧ post K W c σ F (fun ds H1 F1 => ∀ J, ItD K F1 J ds → R J H1) (m ρ)
theorem seq_inj_l {H : Hp} {a : Addr} {xs ys : List V} (h1 : H a = some (.lst xs) ∨ ∃ o, H a = some (.frz o (.lst xs))) (h2 : Rd H a (.lst ys)) : xs = ys := by
  rcases h1 with h1 | ⟨o, h1⟩ <;> rcases h2 with h2 | ⟨o', h2⟩ <;> (rw [h1] at h2; first | (cases h2; rfl) | (cases h2))
/-- a list or a tuple -/
def iSeq (K : PySem.W.Frag) (tl : TE) : TI := fun σ H R => tl σ H fun x H1 => ∃ a, x = .ref a ∧ (((∃ xs, SqL K H1 a xs) ∧ R (Itl K a) H1) ∨ ((∃ xs, SqT K H1 a xs) ∧ R (Itt K a) H1))
theorem pi_seq {l : Expr} {tl : TE} (hl : PE X l tl) : PI X tg l (iSeq X.K tl) := by
  refine ⟨fun pins s σ H R I h => ?_⟩
  refine thn (hl.run pins s σ H _ I h) fun v s1 ⟨x, H1, I1, r1, q1⟩ => ?_
  obtain ⟨a, e, ⟨⟨xs, hq⟩, q⟩ | ⟨⟨xs, hq⟩, q⟩⟩ := q1
  · subst e
    cases r1
    obtain ⟨its, rv, p, hz⟩ := I1.list hq
    refine wpAny_pyIter_list p.isList ?_
    refine ⟨s1.heap.objs.size, [s1.heap.objs.size], _, _, H1, rfl, I1.kept (t' := s1.toks) fun b o e => Heap.get?_push_of_some _ e, turn_list a _, ⟨_, Heap.get?_push_size _ rfl, rfl, rfl⟩, fun b hb => ?_, q⟩
    have e : b = s1.heap.objs.size := by simpa using hb
    subst e
    exact I1.fpOk (Nat.le_refl _) (I1.hok.fresh (Nat.le_refl _))
  · subst e
    cases r1
    obtain ⟨its, rv, p, hz⟩ := I1.tuple hq
    refine wpAny_pyIter_tuple (show s1.heap.IsTuple a its.toArray from p) ?_
    refine ⟨s1.heap.objs.size, [s1.heap.objs.size], _, _, H1, rfl, I1.kept (t' := s1.toks) fun b o e => Heap.get?_push_of_some _ e, turn_tuple a _, ⟨_, Heap.get?_push_size _ rfl, rfl, rfl⟩, fun b hb => ?_, q⟩
    have e : b = s1.heap.objs.size := by simpa using hb
    subst e
    exact I1.fpOk (Nat.le_refl _) (I1.hok.fresh (Nat.le_refl _))
/-- a value that is walked: a list's, a tuple's items -/
def itemsD : D → Option (List D)
  | .list ds => some ds
  | .tuple ds => some ds
  | _ => none
def mItems (m : M D) : M (List D) := mBind m fun d => mLift (itemsD d)
end
section
variable {X : Cx} {W : WX} {K : PySem.W.Frag} {e tg : Expr} {m : M D} {pos : Pos}
theorem lst_same {H : Hp} {a : Addr} {xs ys : List V} (h : Rd H a (.lst xs)) (h2 : Rd H a (.lst ys)) : xs = ys := by
  rcases h with h1 | ⟨o, h1⟩ <;> rcases h2 with h2 | ⟨o', h2⟩ <;> (rw [h1] at h2; first | (cases h2; rfl) | (cases h2))
/-- two readings of one sequence agree: by the machine's own heap -/
theorem itl_D {F : Hp} {a : Addr} {xs : List V} {ds : List D} (h : Rd F a (.lst xs)) (hd : DpAll K F xs ds) : ItD K F (Itl K a) ds where
  go := fun H i s hi => by
    obtain ⟨x, q⟩ : ∃ x, xs[i]? = some x := ⟨xs[i]'(by rw [DpAll.length hd]; exact hi), by simp⟩
    exact ⟨xs, x, .inl (Rd.mono s h), q⟩
  stop := fun H i s hi => ⟨xs, .inl (Rd.mono s h), by rw [DpAll.length hd]; exact hi⟩
  yld := fun H i x H' d s q y => by
    obtain ⟨e, y⟩ := y
    obtain ⟨v, q1, q2⟩ := DpAll.getd hd q
    have q3 := y xs (.inl (Rd.mono s h))
    rw [q3] at q1
    cases q1
    exact .inl ⟨e, q2⟩
theorem itt_D {F : Hp} {a : Addr} {xs : List V} {ds : List D} (h : SqT K F a xs) (hd : DpAll K F xs ds) : ItD K F (Itt K a) ds where
  go := fun H i s hi => by
    obtain ⟨x, q⟩ : ∃ x, xs[i]? = some x := ⟨xs[i]'(by rw [DpAll.length hd]; exact hi), by simp⟩
    exact ⟨xs, x, SqT.mono s h, q⟩
  stop := fun H i s hi => ⟨xs, SqT.mono s h, by rw [DpAll.length hd]; exact hi⟩
  yld := fun H i x H' d s q y => by
    obtain ⟨e, y⟩ := y
    obtain ⟨v, q1, q2⟩ := DpAll.getd hd q
    have q3 := y xs (SqT.mono s h)
    rw [q3] at q1
    cases q1
    exact .inl ⟨e, q2⟩
theorem diSeq (he : PE X e (tE X.K W m)) : PI X tg e (tI X.K W (mItems m)) := PI.imp (pi_seq he) (by
  rintro σ H R ⟨c, F, ρ, ok, h⟩
  refine ⟨c, F, ρ, ok, post_mono ?_ (post_bind h)⟩
  rintro d H1 F1 _ ⟨ρ1, ok1, s1, h1⟩ v rv
  obtain ⟨ds, e, h2⟩ := post_lift h1
  unfold itemsD at e
  split at e
  · cases e
    cases rv with
    | lst hr hd => exact ⟨_, rfl, .inl ⟨⟨_, .inl (Rd.mono ok1.sub hr)⟩, h2 H1 F1 ok1 (Same.refl F1) _ (itl_D hr hd)⟩⟩
  · cases e
    cases rv with
    | tup hr hd => exact ⟨_, rfl, .inr ⟨⟨_, SqT.mono ok1.sub hr⟩, h2 H1 F1 ok1 (Same.refl F1) _ (itt_D hr hd)⟩⟩
  · cases e)
/-- range -/
def rngL (lo hi : Int) : List D := (List.range (hi - lo).toNat).map fun i => .int (lo + (i : Nat))
def rngOk (i : Int) : Bool := decide (i.natAbs < 4611686018427387904)
def rngD1 : List D → Option (List D)
  | [.int j] => if rngOk j = true then some (rngL 0 j) else none
  | _ => none
def rngD2 : List D → Option (List D)
  | [.int i, .int j] => if (rngOk i && rngOk j) = true then some (rngL i j) else none
  | _ => none
theorem rngL_get {lo hi : Int} {i : Nat} {d : D} (h : (rngL lo hi)[i]? = some d) : d = .int (lo + (i : Nat)) ∧ i < (hi - lo).toNat := by
  unfold rngL at h
  rw [List.getElem?_map] at h
  by_cases q : i < (hi - lo).toNat
  · rw [List.getElem?_range q] at h
    cases h
    exact ⟨rfl, q⟩
  · rw [List.getElem?_eq_none (by simpa using q)] at h
    cases h
theorem rngL_length (lo hi : Int) : (rngL lo hi).length = (hi - lo).toNat := by simp [rngL]
theorem itr_D {F : Hp} {lo hi : Int} : ItD K F (Itr lo (hi - lo).toNat) (rngL lo hi) where
  go := fun H i s hi => by rw [rngL_length] at hi; exact hi
  stop := fun H i s hi => by rw [rngL_length] at hi; exact hi
  yld := fun H i x H' d s q y => by
    obtain ⟨e1, e2⟩ := y
    obtain ⟨e3, _⟩ := rngL_get q
    subst e1 e2 e3
    exact .inl ⟨rfl, .int _⟩
def mRng1 (ms : M (List D)) : M (List D) := mBind ms fun ds => mLift (rngD1 ds)
def mRng2 (ms : M (List D)) : M (List D) := mBind ms fun ds => mLift (rngD2 ds)
variable {a b : Expr} {ms : M (List D)} {p : Pos}
theorem rngOk_of {i : Int} (h : rngOk i = true) : -(2 ^ 62) ≤ i ∧ i < 2 ^ 62 := by
  unfold rngOk at h
  have h := of_decide_eq_true h
  exact ⟨by omega, by omega⟩
theorem diRng1 (hm : X.mg "range" = none) (ha : PA X [a] (tA X.K W ms)) (hg : Gl X "range" := by rfl) (hs : starEach [a] X.env = [(false, eval a X.env)] := by rfl) : PI X tg (.Call (.Name "range" p) [a] [] pos) (tI X.K W (mRng1 ms)) := PI.imp (pi_range1 hg hm ha hs) (by
  rintro σ H R ⟨c, F, ρ, ok, h⟩
  refine ⟨c, F, ρ, ok, post_mono ?_ (post_bind h)⟩
  rintro ds H1 F1 _ ⟨ρ1, ok1, s1, h1⟩ vs rv
  obtain ⟨out, e, h2⟩ := post_lift h1
  unfold rngD1 at e
  split at e
  · rename_i j
    split at e
    · rename_i hb
      cases e
      cases rv with
      | cons r t =>
        cases t
        cases r
        obtain ⟨b1, b2⟩ := rngOk_of hb
        refine ⟨j, rfl, b1, b2, h2 H1 F1 ok1 (Same.refl F1) _ ?_⟩
        have q := itr_D (K := X.K) (F := F1) (lo := 0) (hi := j)
        rw [Int.sub_zero] at q
        exact q
    · cases e
  · cases e)
theorem diRng2 (hm : X.mg "range" = none) (ha : PA X [a, b] (tA X.K W ms)) (hg : Gl X "range" := by rfl) (hs : starEach [a, b] X.env = [(false, eval a X.env), (false, eval b X.env)] := by rfl) (hs2 : starEach [b] X.env = [(false, eval b X.env)] := by rfl) : PI X tg (.Call (.Name "range" p) [a, b] [] pos) (tI X.K W (mRng2 ms)) := PI.imp (pi_range2 hg hm ha hs hs2) (by
  rintro σ H R ⟨c, F, ρ, ok, h⟩
  refine ⟨c, F, ρ, ok, post_mono ?_ (post_bind h)⟩
  rintro ds H1 F1 _ ⟨ρ1, ok1, s1, h1⟩ vs rv
  obtain ⟨out, e, h2⟩ := post_lift h1
  unfold rngD2 at e
  split at e
  · rename_i i j
    split at e
    · rename_i hb
      cases e
      cases rv with
      | cons r t =>
        cases t with
        | cons r' t' =>
          cases t'
          cases r
          cases r'
          rw [Bool.and_eq_true] at hb
          obtain ⟨b1, b2⟩ := rngOk_of hb.1
          obtain ⟨b3, b4⟩ := rngOk_of hb.2
          exact ⟨i, j, rfl, ⟨b1, b2, b3, b4⟩, h2 H1 F1 ok1 (Same.refl F1) _ itr_D⟩
    · cases e
  · cases e)
/-- enumerate of a list; zip of two lists, of two tuples -/
def enumL (ds : List D) : List D := (List.range ds.length).map fun i => .tuple [.int (i : Nat), ds.getD i .none]
def enumD : List D → Option (List D)
  | [.list ds] => some (enumL ds)
  | _ => none
theorem enumL_get {ds : List D} {i : Nat} {d : D} (h : (enumL ds)[i]? = some d) : ∃ y, ds[i]? = some y ∧ d = .tuple [.int (i : Nat), y] := by
  unfold enumL at h
  rw [List.getElem?_map] at h
  by_cases q : i < ds.length
  · rw [List.getElem?_range q] at h
    have e : ds[i]? = some ds[i] := List.getElem?_eq_getElem q
    refine ⟨ds[i], e, ?_⟩
    have h' := Option.some.inj h
    rw [← h']
    show PyData.tuple [PyData.int (i : Nat), ds.getD i PyData.none] = _
    rw [List.getD_eq_getElem?_getD, e]; rfl
  · rw [List.getElem?_eq_none (by simpa using q)] at h
    cases h
theorem enumL_length (ds : List D) : (enumL ds).length = ds.length := by simp [enumL]
theorem ite_D {F : Hp} {a : Addr} {xs : List V} {ds : List D} (h : Rd F a (.lst xs)) (hd : DpAll K F xs ds) : ItD K F (Ite K a) (enumL ds) where
  go := fun H i s hi => by
    rw [enumL_length] at hi
    obtain ⟨x, q⟩ : ∃ x, xs[i]? = some x := ⟨xs[i]'(by rw [DpAll.length hd]; exact hi), by simp⟩
    exact ⟨xs, x, .inl (Rd.mono s h), q⟩
  stop := fun H i s hi => ⟨xs, .inl (Rd.mono s h), by rw [enumL_length] at hi; rw [DpAll.length hd]; exact hi⟩
  yld := fun H i x H' d s q y => by
    obtain ⟨T, z, e1, e2, e3, y⟩ := y
    obtain ⟨yd, q1, e4⟩ := enumL_get q
    obtain ⟨v, q2, q3⟩ := DpAll.getd hd q1
    have q4 := y xs (.inl (Rd.mono s h))
    rw [q4] at q2
    cases q2
    exact .inr ⟨T, _, _, e4, e1, e2, e3, .cons (.int _) (.one q3)⟩
def mEnum (ms : M (List D)) : M (List D) := mBind ms fun ds => mLift (enumD ds)
variable {elts : List Expr} {kk : Nat} {tpos : Pos}
theorem diEnum (hm : X.mg "enumerate" = none) (ha : PA X [e] (tA X.K W ms)) (hg : Gl X "enumerate" := by rfl) (hs : starEach [e] X.env = [(false, eval e X.env)] := by rfl) : PI X (.Tuple elts kk tpos) (.Call (.Name "enumerate" p) [e] [] pos) (tI X.K W (mEnum ms)) := PI.imp (pi_enum hg hm ha hs) (by
  rintro σ H R ⟨c, F, ρ, ok, h⟩
  refine ⟨c, F, ρ, ok, post_mono ?_ (post_bind h)⟩
  rintro ds H1 F1 _ ⟨ρ1, ok1, s1, h1⟩ vs rv
  obtain ⟨out, e, h2⟩ := post_lift h1
  unfold enumD at e
  split at e
  · cases e
    cases rv with
    | cons r t =>
      cases t
      cases r with
      | lst hr hd => exact ⟨_, _, rfl, .inl (Rd.mono ok1.sub hr), h2 H1 F1 ok1 (Same.refl F1) _ (ite_D hr hd)⟩
  · cases e)
def zipL (ds es : List D) : List D := List.zipWith (fun x y => .tuple [x, y]) ds es
def zipD : List D → Option (List D)
  | [.list ds, .list es] => some (zipL ds es)
  | [.tuple ds, .tuple es] => some (zipL ds es)
  | _ => none
theorem zipL_get {ds es : List D} {i : Nat} {d : D} (h : (zipL ds es)[i]? = some d) : ∃ y z, ds[i]? = some y ∧ es[i]? = some z ∧ d = .tuple [y, z] := by
  unfold zipL at h
  rw [List.getElem?_zipWith] at h
  cases q1 : ds[i]? with
  | none => rw [q1] at h; cases h
  | some y =>
    cases q2 : es[i]? with
    | none => rw [q1, q2] at h; cases h
    | some z =>
      rw [q1, q2] at h
      cases h
      exact ⟨y, z, rfl, rfl, rfl⟩
theorem itz_D {F : Hp} {a b : Addr} {xs ys : List V} {ds es : List D} (h : Rd F a (.lst xs)) (hd : DpAll K F xs ds) (h2 : Rd F b (.lst ys)) (hd2 : DpAll K F ys es) : ItD K F (Itz K a b) (zipL ds es) where
  go := fun H i s hi => by
    have hl : i < ds.length ∧ i < es.length := by simp [zipL] at hi; omega
    obtain ⟨x, q⟩ : ∃ x, xs[i]? = some x := ⟨xs[i]'(by rw [DpAll.length hd]; exact hl.1), by simp⟩
    obtain ⟨y, q'⟩ : ∃ x, ys[i]? = some x := ⟨ys[i]'(by rw [DpAll.length hd2]; exact hl.2), by simp⟩
    exact ⟨xs, ys, x, y, .inl (Rd.mono s h), .inl (Rd.mono s h2), q, q'⟩
  stop := fun H i s hi => ⟨xs, ys, .inl (Rd.mono s h), .inl (Rd.mono s h2), by rw [DpAll.length hd, DpAll.length hd2]; simp [zipL] at hi; omega⟩
  yld := fun H i x H' d s q y => by
    obtain ⟨T, z, z2, e1, e2, e3, y, y2⟩ := y
    obtain ⟨yd, zd, q1, q1', e4⟩ := zipL_get q
    obtain ⟨v, q2, q3⟩ := DpAll.getd hd q1
    obtain ⟨v2, q2', q3'⟩ := DpAll.getd hd2 q1'
    have q4 := y xs (.inl (Rd.mono s h))
    have q5 := y2 ys (.inl (Rd.mono s h2))
    rw [q4] at q2
    rw [q5] at q2'
    cases q2
    cases q2'
    exact .inr ⟨T, _, _, e4, e1, e2, e3, .cons q3 (.one q3')⟩
theorem itzT_D {F : Hp} {a b : Addr} {xs ys : List V} {ds es : List D} (h : SqT K F a xs) (hd : DpAll K F xs ds) (h2 : SqT K F b ys) (hd2 : DpAll K F ys es) : ItD K F (RZ.ItzT K a b) (zipL ds es) where
  go := fun H i s hi => by
    have hl : i < ds.length ∧ i < es.length := by simp [zipL] at hi; omega
    obtain ⟨x, q⟩ : ∃ x, xs[i]? = some x := ⟨xs[i]'(by rw [DpAll.length hd]; exact hl.1), by simp⟩
    obtain ⟨y, q'⟩ : ∃ x, ys[i]? = some x := ⟨ys[i]'(by rw [DpAll.length hd2]; exact hl.2), by simp⟩
    exact ⟨xs, ys, x, y, SqT.mono s h, SqT.mono s h2, q, q'⟩
  stop := fun H i s hi => ⟨xs, ys, SqT.mono s h, SqT.mono s h2, by rw [DpAll.length hd, DpAll.length hd2]; simp [zipL] at hi; omega⟩
  yld := fun H i x H' d s q y => by
    obtain ⟨T, z, z2, e1, e2, e3, y, y2⟩ := y
    obtain ⟨yd, zd, q1, q1', e4⟩ := zipL_get q
    obtain ⟨v, q2, q3⟩ := DpAll.getd hd q1
    obtain ⟨v2, q2', q3'⟩ := DpAll.getd hd2 q1'
    have q4 := y xs (SqT.mono s h)
    have q5 := y2 ys (SqT.mono s h2)
    rw [q4] at q2
    rw [q5] at q2'
    cases q2
    cases q2'
    exact .inr ⟨T, _, _, e4, e1, e2, e3, .cons q3 (.one q3')⟩
def mZip (ms : M (List D)) : M (List D) := mBind ms fun ds => mLift (zipD ds)
theorem diZip (hm : X.mg "zip" = none) (ha : PA X [a, b] (tA X.K W ms)) (hg : Gl X "zip" := by rfl) (hs : starEach [a, b] X.env = (false, eval a X.env) :: starEach [b] X.env := by rfl) (hpl : (backTo pos (starEach [b] X.env)).any (·.1) = false := by rfl) :
    PI X (.Tuple elts kk tpos) (.Call (.Name "zip" p) [a, b] [] pos) (tI X.K W (mZip ms)) := PI.imp (RZ.pi_zipA hg hm ha hs hpl) (by
  rintro σ H R ⟨c, F, ρ, ok, h⟩
  refine ⟨c, F, ρ, ok, post_mono ?_ (post_bind h)⟩
  rintro ds H1 F1 _ ⟨ρ1, ok1, s1, h1⟩ vs rv
  obtain ⟨out, e, h2⟩ := post_lift h1
  unfold zipD at e
  split at e
  · cases e
    cases rv with
    | cons r t =>
      cases t with
      | cons r' t' =>
        cases t'
        cases r with
        | lst hr hd =>
          cases r' with
          | lst hr' hd' => exact ⟨_, _, _, _, rfl, .inl ⟨.inl (Rd.mono ok1.sub hr), .inl (Rd.mono ok1.sub hr'), h2 H1 F1 ok1 (Same.refl F1) _ (itz_D hr hd hr' hd')⟩⟩
  · cases e
    cases rv with
    | cons r t =>
      cases t with
      | cons r' t' =>
        cases t'
        cases r with
        | tup hr hd =>
          cases r' with
          | tup hr' hd' => exact ⟨_, _, _, _, rfl, .inr ⟨SqT.mono ok1.sub hr, SqT.mono ok1.sub hr', h2 H1 F1 ok1 (Same.refl F1) _ (itzT_D hr hd hr' hd')⟩⟩
  · cases e)
end
/-! ### for, while -/
def mForL (g : D → M Unit) (body : M Fl) : List D → M Fl
  | [] => mPure .nx
  | d :: ds => mBind (g d) fun _ => mBind body fun f => match f with
    | .nx => mForL g body ds
    | .ct => mForL g body ds
    | .bk => mPure .nx
    | o => mPure o
def mFor (mi : M (List D)) (g : D → M Unit) (body : M Fl) : M Fl := mBind mi fun ds => mForL g body ds
section
variable {X : Cx} {W : WX} {K : PySem.W.Frag} {e tg : Expr} {pos : Pos}
theorem yld_ok {c : Ct} {σ : St} {H F : Hp} {ρ : En} {J : It} {ds : List D} {i : Nat} {x : V} {H' : Hp} {d : D} (ok : Ok K c σ H F ρ) (hJ : ∀ H x H' d, Same F H → ds[i]? = some d → J.yld i H x H' → (H' = H ∧ Dp K F x d) ∨ (∃ T xs es, d = .tuple es ∧ x = .ref T ∧ H T = none ∧ H' = upd H T (.tup xs) ∧ DpAll K F xs es)) (e : ds[i]? = some d) (y : J.yld i H x H') :
    ∃ F', Ok K c σ H' F' ρ ∧ Same F F' ∧ Dp K F' x d := by
  rcases hJ H x H' d ok.sub e y with ⟨rfl, r⟩ | ⟨T, xs, es, rfl, rfl, hT, rfl, r⟩
  · exact ⟨F, ok, Same.refl F, r⟩
  · have s : Same F (upd F T (.tup xs)) := Same.updN (ok.new hT).1
    exact ⟨_, ok.alloc hT, s, .tup (SqT.of upd_same) (DpAll.mono s r)⟩
theorem ItD.mono {F F' : Hp} {J : It} {ds : List D} (s : Same F F') (h : ItD K F J ds) : ∀ (i : Nat) H x H' d, Same F' H → ds[i]? = some d → J.yld i H x H' → (H' = H ∧ Dp K F' x d) ∨ (∃ T xs es, d = .tuple es ∧ x = .ref T ∧ H T = none ∧ H' = upd H T (.tup xs) ∧ DpAll K F' xs es) := fun i H x H' d s' e y => by
  rcases h.yld H i x H' d (s.trans s') e y with ⟨a1, a2⟩ | ⟨T, xs, es, a1, a2, a3, a4, a5⟩
  · exact .inl ⟨a1, Dp.mono s a2⟩
  · exact .inr ⟨T, xs, es, a1, a2, a3, a4, DpAll.mono s a5⟩
theorem for_post {c : Ct} {F : Hp} {Dn : Ends} {ρ : En} {mb rest : M Fl} {N : St → Hp → Prop} (h : postS K W c F Dn (mBind mb (fun f => match f with
    | .nx => rest
    | .ct => rest
    | .bk => mPure .nx
    | o => mPure o) ρ)) (hN : ∀ σ' H' F' ρ', Ok K c σ' H' F' ρ' → Same F F' → postS K W c F' Dn (rest ρ') → N σ' H') : postS K W c F { Dn with nx := N, ct := N, bk := Dn.nx } (mb ρ) := by
  unfold mBind at h
  cases e : mb ρ with
  | none => rw [e] at h; exact h
  | some r =>
    rw [e] at h
    cases r with
    | ex x ρ1 => exact h
    | ok f ρ1 =>
      cases f with
      | nx => exact fun σ' H' F' ok s => hN σ' H' F' ρ1 ok s (postS_weak s h)
      | ct => exact fun σ' H' F' ok s => hN σ' H' F' ρ1 ok s (postS_weak s h)
      | bk => exact h
      | rt d => exact h
      | rf ds => exact h
theorem dFor {iter : Expr} {body : List Stmt} {mi : M (List D)} {g : D → M Unit} {mb : M Fl} (hp : PassesOwn (model X.prog X.w) X.A X.env X.xe) (hc : X.calm = true) (hi : PI X tg iter (tI X.K W mi)) (hg : PG X tg (tG X.K W g)) (hb : PSs X body (tS X.K W mb))
    (hs : ∀ x, foldedSetIterable iter X.env x = pure x := by exact fun _ => rfl) : PS X (.For tg iter body [] pos) (tS X.K W (mFor mi g mb)) := PS.imp (ps_for hp hc hi hg hb hs) (by
  rintro Dn σ H ⟨c, F, ρ, ok, h⟩
  refine ⟨c, F, ρ, ok, post_mono ?_ (postS_bind h)⟩
  rintro ds H1 F1 _ ⟨ρ1, ok1, s1, h1⟩ J hJ
  refine ⟨fun i n σ' H' => i + n = ds.length ∧ ∃ F' ρ', Ok X.K c σ' H' F' ρ' ∧ Same F1 F' ∧ postS X.K W c F' Dn (mForL g mb (ds.drop i) ρ'), ⟨ds.length, by omega, F1, ρ1, ok1, Same.refl F1, h1⟩, ?_⟩
  rintro i n σ' H' ⟨en, F', ρ', ok', s', h'⟩
  by_cases hi : i < ds.length
  · obtain ⟨d, ed⟩ : ∃ d, ds[i]? = some d := ⟨ds[i], List.getElem?_eq_getElem hi⟩
    have edr : ds.drop i = d :: ds.drop (i + 1) := by
      rw [List.drop_eq_getElem_cons hi]
      have := List.getElem?_eq_getElem hi
      rw [ed] at this
      rw [Option.some.inj this]
    rw [edr] at h'
    refine .inr ⟨hJ.go H' i (s'.trans ok'.sub) hi, fun σ3 H3 => ∃ F3 ρ3, Ok X.K c σ3 H3 F3 ρ3 ∧ Same F1 F3 ∧ postS X.K W c F3 Dn (mForL g mb (ds.drop (i + 1)) ρ3), fun σ3 H3 w => ⟨n - 1, by omega, by omega, w⟩, fun x H2 y => ?_⟩
    obtain ⟨F2, ok2, s2, r2⟩ := yld_ok ok' (hJ.mono s' i) ed y
    refine ⟨c, F2, ρ', d, ok2, r2, postG_mono ?_ (postG_weak s2 (postS_bindG h'))⟩
    rintro σ4 H4 ⟨F4, ρ4, ok4, s4, h4⟩
    exact ⟨c, F4, ρ4, ok4, for_post h4 fun σ5 H5 F5 ρ5 ok5 s5 h5 => ⟨F5, ρ5, ok5, (s'.trans s4).trans s5, h5⟩⟩
  · have ei : ds.drop i = [] := List.drop_eq_nil_of_le (by omega)
    rw [ei] at h'
    exact .inl ⟨hJ.stop H' i (s'.trans ok'.sub) (by omega), h' σ' H' F' ok' (Same.refl F')⟩)
end
end Dd

namespace Dd
open PySem PySem.Spec L2
/-! ### while -/
def mWhileN (c : M Bool) (body : M Fl) : Nat → M Fl
  | 0 => mStuck
  | n + 1 => mBind c fun k => if k = true then mBind body fun f => match f with
    | .nx => mWhileN c body n
    | .ct => mWhileN c body n
    | .bk => mPure .nx
    | o => mPure o
    else mPure .nx
def mWhile (fuel : En → Nat) (c : M Bool) (body : M Fl) : M Fl := fun ρ => mWhileN c body (fuel ρ) ρ
section
variable {X : Cx} {W : WX} {K : PySem.W.Frag} {e tg : Expr} {pos : Pos}
theorem dWhile {cnd : Expr} {body : List Stmt} {mc : M Bool} {mb : M Fl} {fuel : En → Nat} (hp : PassesOwn (model X.prog X.w) X.A X.env X.xe) (hc : PT X cnd (tT X.K W mc)) (hb : PSs X body (tS X.K W mb)) : PS X (.While cnd body [] pos) (tS X.K W (mWhile fuel mc mb)) := PS.imp (ps_while hp hc hb) (by
  rintro Dn σ H ⟨c, F, ρ, ok, h⟩
  refine ⟨fun n σ' H' => ∃ F' ρ', Ok X.K c σ' H' F' ρ' ∧ Same F F' ∧ postS X.K W c F' Dn (mWhileN mc mb n ρ'), ⟨fuel ρ, F, ρ, ok, Same.refl F, h⟩, ?_⟩
  rintro n σ' H' ⟨F', ρ', ok', s', h'⟩
  cases n with
  | zero => exact h'.elim
  | succ n =>
    refine ⟨c, F', ρ', ok', post_mono ?_ (postS_bind h')⟩
    rintro k H1 F1 _ ⟨ρ1, ok1, s1, h1⟩
    cases k with
    | false => exact h1 σ' H1 F1 ok1 (Same.refl F1)
    | true =>
      refine ⟨fun σ3 H3 => ∃ F3 ρ3, Ok X.K c σ3 H3 F3 ρ3 ∧ Same F F3 ∧ postS X.K W c F3 Dn (mWhileN mc mb n ρ3), fun σ3 H3 w => ⟨n, Nat.lt_succ_self n, w⟩, ?_⟩
      exact ⟨c, F1, ρ1, ok1, for_post h1 fun σ5 H5 F5 ρ5 ok5 s5 h5 => ⟨F5, ρ5, ok5, (s'.trans s1).trans s5, h5⟩⟩)
/-! ### comprehensions -/
def WF : WX := fun _ _ _ _ => False
/-- the stores of a comprehension's target: one name, or a tuple of names -/
def unsE (ρ : En) : List Nat → En
  | [] => ρ
  | i :: is => (unsE ρ is).set i .un
def mUn_ (vs : List Nat) : M Unit := fun ρ => some (.ok () (unsE ρ vs))
theorem unsE_length (ρ : En) : ∀ vs, (unsE ρ vs).length = ρ.length
  | [] => rfl
  | v :: vs => by unfold unsE; rw [List.length_set, unsE_length ρ vs]
theorem ok_wipe {c : Ct} {σ : St} {H F : Hp} {ρ : En} (ok : Ok K c σ H F ρ) : ∀ vs : List Nat, Ok K c (wipe σ vs) H F (unsE ρ vs)
  | [] => ok
  | v :: vs => by
    have ok' := ok_wipe ok vs
    unfold wipe unsE
    by_cases h : v < (unsE ρ vs).length
    · exact ok'.setU h
    · have h1 : (unsE ρ vs).set v .un = unsE ρ vs := List.set_eq_of_length_le (by omega)
      have h2 : (wipe σ vs).set v none = wipe σ vs := List.set_eq_of_length_le (by rw [ok'.len]; omega)
      rw [h1, h2]; exact ok'
theorem unsE_at {ρ : En} {i : Nat} : ∀ {vs : List Nat}, i ∈ vs → (unsE ρ vs)[i]? = some .un ∨ (unsE ρ vs)[i]? = none
  | v :: vs, h => by
    unfold unsE
    by_cases e : v = i
    · subst e
      by_cases hl : v < (unsE ρ vs).length
      · left; simp [hl]
      · right; simp only [List.getElem?_eq_none_iff, List.length_set]; omega
    · rw [List.getElem?_set_ne e]
      exact unsE_at (by cases h with
        | head => exact absurd rfl e
        | tail _ h => exact h)
/-- nothing is known of the wiped slots: they may be what they were -/
theorem ok_unwipe {c : Ct} {σ : St} {H F : Hp} {ρ : En} {vs : List Nat} (ok : Ok K c (wipe σ vs) H F (unsE ρ vs)) : Ok K c σ H F (unsE ρ vs) := by
  have out : ∀ {i : Nat} {u : Sl}, (unsE ρ vs)[i]? = some u → u ≠ .un → (wipe σ vs)[i]? = σ[i]? := fun {i u} e n => by
    by_cases h : i ∈ vs
    · rcases unsE_at (ρ := ρ) h with q | q
      · rw [q] at e; exact absurd (Option.some.inj e).symm n
      · rw [q] at e; cases e
    · exact wipe_out h
  refine ⟨by rw [← ok.len, wipe_length], ok.sub, ok.ge, ok.fe, ok.keep, ok.iod, ok.prt, fun i d e => ?_, fun i ds e => ?_, fun i ds e => ?_, fun i ns e => ?_, fun i j ds es p a b x y => ?_⟩
  · obtain ⟨v, a1, a2⟩ := ok.val i d e
    exact ⟨v, by rw [← out e (by intro z; cases z)]; exact a1, a2⟩
  · obtain ⟨p, w, a1, a2⟩ := ok.own i ds e
    exact ⟨p, w, by rw [← out e (by intro z; cases z)]; exact a1, a2⟩
  · obtain ⟨z, p, w, a0, a1, a2⟩ := ok.ios i ds e
    exact ⟨z, p, w, a0, by rw [← out e (by intro z; cases z)]; exact a1, a2⟩
  · obtain ⟨z, p, a1, a2⟩ := ok.scr i ns e
    exact ⟨z, p, by rw [← out e (by intro z; cases z)]; exact a1, a2⟩
  · exact ok.sep i j ds es p a b (by rw [out a (by intro z; cases z)]; exact x) (by rw [out b (by intro z; cases z)]; exact y)
theorem unsE_self {ρ : En} : ∀ {vs : List Nat}, unsE (unsE ρ vs) vs = unsE ρ vs := fun {vs} => by
  apply List.ext_getElem?
  intro i
  by_cases h : i ∈ vs
  · rcases unsE_at (ρ := unsE ρ vs) h with q | q <;> rcases unsE_at (ρ := ρ) h with q' | q' <;> rw [q, q']
    · have := List.getElem?_eq_none_iff.mp q'
      have h2 : i < (unsE (unsE ρ vs) vs).length := by
        rcases Nat.lt_or_ge i (unsE (unsE ρ vs) vs).length with z | z
        · exact z
        · rw [List.getElem?_eq_none z] at q; cases q
      rw [unsE_length] at h2
      omega
    · have := List.getElem?_eq_none_iff.mp q
      rw [unsE_length] at this
      have h2 : i < (unsE ρ vs).length := by
        rcases Nat.lt_or_ge i (unsE ρ vs).length with z | z
        · exact z
        · rw [List.getElem?_eq_none z] at q'; cases q'
      omega
  · have o : ∀ (ρ : En) (vs : List Nat), i ∉ vs → (unsE ρ vs)[i]? = ρ[i]? := fun ρ vs => by
      induction vs with
      | nil => intro _; rfl
      | cons v vs ih =>
        intro h
        unfold unsE
        rw [List.getElem?_set_ne (fun z => h (by rw [z]; exact List.mem_cons_self)), ih fun z => h (List.mem_cons_of_mem _ z)]
    rw [o _ _ h]
/-- the target of a comprehension's for: where it stores, and that it stores nowhere else -/
structure CTg (K : PySem.W.Frag) (vs : List Nat) (g : TG) (gD : D → M Unit) : Prop where
  run : ∀ {c : Ct} {σ : St} {H F : Hp} {ρ : En} {v : V} {d : D} {u : Unit} {ρ' : En} {Q : St → Hp → Prop}, Ok K c σ H F ρ → Dp K F v d → gD d ρ = some (.ok u ρ') →
    (∀ σ', Ok K c σ' H F ρ' → wipe σ' vs = wipe σ vs → Q σ' H) → g v σ H Q
theorem wipe_set {σ : St} {i : Nat} {v : Option V} : ∀ {vs : List Nat}, i ∈ vs → wipe (σ.set i v) vs = wipe σ vs := fun {vs} h => by
  have o : ∀ (vs : List Nat) (σ : St), (wipe (σ.set i v) vs) = (wipe σ vs).set i v ∨ i ∈ vs := fun vs => by
    induction vs with
    | nil => intro σ; exact .inl rfl
    | cons w vs ih =>
      intro σ
      by_cases e : i = w
      · exact .inr (e ▸ List.mem_cons_self)
      · rcases ih σ with q | q
        · left; unfold wipe; rw [q, List.set_comm _ _ e]
        · exact .inr (List.mem_cons_of_mem _ q)
  induction vs with
  | nil => cases h
  | cons w vs ih =>
    unfold wipe
    by_cases e : i = w
    · subst e
      by_cases h' : i ∈ vs
      · rw [ih h']
      · rcases o vs σ with q | q
        · rw [q, List.set_set]
        · exact absurd q h'
    · have h' : i ∈ vs := by cases h with
        | head => exact absurd rfl e
        | tail _ h => exact h
      rw [ih h']
theorem ctName {vs : List Nat} {i : Nat} (h : i ∈ vs) : CTg K vs (gName i) (mStore i) := ⟨fun {c σ H F ρ v d u ρ' Q} ok r e k => by
  unfold mStore at e
  split at e
  · rename_i hl
    cases e
    exact k _ (ok.setV hl r) (wipe_set h)
  · cases e⟩
def gNamesT : List Nat → TGs
  | [] => gNil
  | i :: is => gCons (gName i) (gNamesT is)
def gNamesD : List Nat → List D → M Unit
  | [], [] => mPure ()
  | i :: is, d :: ds => mBind (mStore i d) fun _ => gNamesD is ds
  | _, _ => mStuck
theorem names_run {vs : List Nat} {c : Ct} {H F : Hp} : ∀ {is : List Nat} {xs : List V} {ds : List D} {σ : St} {ρ : En} {u : Unit} {ρ' : En} {Q : St → Hp → Prop}, (∀ i ∈ is, i ∈ vs) → Ok K c σ H F ρ → DpAll K F xs ds → gNamesD is ds ρ = some (.ok u ρ') →
    (∀ σ', Ok K c σ' H F ρ' → wipe σ' vs = wipe σ vs → Q σ' H) → gNamesT is xs σ H Q
  | [], _, _, σ, ρ, u, ρ', Q, hv, ok, .nil, e, k => by
    cases e
    exact ⟨rfl, k σ ok rfl⟩
  | [], _, _, σ, ρ, u, ρ', Q, hv, ok, .cons _ _, e, k => by cases e
  | i :: is, _, _, σ, ρ, u, ρ', Q, hv, ok, .nil, e, k => by cases e
  | i :: is, _, _, σ, ρ, u, ρ', Q, hv, ok, .cons (v := x) (vs := xs) (d := d) (ds := ds) r rr, e, k => by
    obtain ⟨_, ρ1, e1, e2⟩ := bind_ok e
    refine ⟨x, xs, rfl, ?_⟩
    unfold mStore at e1
    split at e1
    · rename_i hl
      cases e1
      refine names_run (vs := vs) (fun j hj => hv j (List.mem_cons_of_mem _ hj)) (ok.setV hl r) rr e2 fun σ' ok' w => k σ' ok' ?_
      rw [w, wipe_set (hv i List.mem_cons_self)]
    · cases e1
theorem ctTup {vs is : List Nat} (h : ∀ i ∈ is, i ∈ vs) : CTg K vs (gTup K is.length (gNamesT is)) (gTupD is.length (gNamesD is)) := ⟨fun {c σ H F ρ v d u ρ' Q} ok r e k => by
  unfold gTupD at e
  split at e
  · split at e
    · rename_i hl
      obtain ⟨p, xs, rfl, hp, dp⟩ := Pk.tup ok.sub (.inl r)
      exact ⟨p, xs, rfl, hp, by rw [DpAll.length dp]; exact hl, names_run h ok dp e k⟩
    · cases e
  · cases e⟩
def mGo (vs : List Nat) (g : D → M Unit) (tt : M Bool) (te : M D) : List D → M (List D)
  | [] => mPure []
  | d :: ds => mBind (g d) fun _ => mBind tt fun k => mBind (if k = true then mBind te fun y => mPure [y] else mPure []) fun es => mBind (mUn_ vs) fun _ => mBind (mGo vs g tt te ds) fun rest => mPure (es ++ rest)
/-- nothing is raised out of a comprehension -/
def mRest (vs : List Nat) (g : D → M Unit) (tt : M Bool) (te : M D) (ds : List D) : M (List D) := fun ρ => match mGo vs g tt te ds (unsE ρ vs) with
  | some (.ok out ρe) => if fit ds.length = true then some (.ok out (unsE ρe vs)) else none
  | _ => none
def mComp (vs : List Nat) (mi : M (List D)) (g : D → M Unit) (tt : M Bool) (te : M D) : M (List D) := mBind mi (mRest vs g tt te)
theorem go_length {vs : List Nat} {g : D → M Unit} {tt : M Bool} {te : M D} : ∀ {ds out : List D} {ρ ρ' : En}, mGo vs g tt te ds ρ = some (.ok out ρ') → out.length ≤ ds.length
  | [], out, ρ, ρ', h => by cases h; exact Nat.le_refl _
  | d :: ds, out, ρ, ρ', h => by
    obtain ⟨_, ρ1, h1, h⟩ := bind_ok h
    obtain ⟨k, ρ2, h2, h⟩ := bind_ok h
    obtain ⟨es, ρ3, h3, h⟩ := bind_ok h
    obtain ⟨_, ρ4, h4, h⟩ := bind_ok h
    obtain ⟨rest, ρ5, h5, h⟩ := bind_ok h
    cases h
    have l := go_length h5
    have l2 : es.length ≤ 1 := by
      cases k with
      | true =>
        obtain ⟨y, _, _, h3⟩ := bind_ok h3
        cases h3; exact Nat.le_refl _
      | false => cases h3; exact Nat.zero_le _
    rw [List.length_append, List.length_cons]
    omega
theorem wipe_wipe {σ : St} {vs : List Nat} : wipe (wipe σ vs) vs = wipe σ vs := by
  have o : ∀ (ws : List Nat), (∀ i ∈ ws, i ∈ vs) → wipe (wipe σ ws) vs = wipe σ vs := fun ws => by
    induction ws with
    | nil => intro _; rfl
    | cons w ws ih =>
      intro h
      show wipe ((wipe σ ws).set w none) vs = _
      rw [wipe_set (h w List.mem_cons_self), ih fun i hi => h i (List.mem_cons_of_mem _ hi)]
  exact o vs fun _ h => h
/-- the heart: the loop of a comprehension, the new list kept apart -/
theorem comp_core {mi : M (List D)} {vs : List Nat} {g : TG} {gD : D → M Unit} {mt : M Bool} {me : M D} (hg : CTg K vs g gD) {σ : St} {H : Hp} {Q : VK}
    {tt : TT} (ht : ∀ σ H Q, tT K WF mt σ H Q → tt σ H Q) {c : Ct} {F : Hp} {ρ : En} (ok : Ok K c σ H F ρ)
    (h : post K W c σ F (fun ds H1 F1 => ∃ ρ1, Ok K c σ H1 F1 ρ1 ∧ fit ds.length = true ∧ ∃ out ρe, mGo vs gD mt me ds (unsE ρ1 vs) = some (.ok out ρe) ∧
      ∀ p acc H2 F2, c.pr p = none → Ok K (c.put p (.lst acc)) σ H2 F2 (unsE ρe vs) → Same F1 F2 → DpAll K F2 acc out → Q (.ref p) H2) (mi ρ)) : tLc (tI K W mi) g tt (tE K WF me) vs σ H Q := by
  refine ⟨c, F, ρ, ok, post_mono ?_ h⟩
  rintro ds H1 F1 _ ⟨ρ1, ok1, hf, out, ρe, hgo, k⟩ J hJ p hp
  have hpr : c.pr p = none := (ok1.new hp).2.2.1
  refine ⟨fun i n H => i + n = ds.length ∧ ∃ acc o1 F2 ρ2 rest, Ok K (c.put p (.lst acc)) (wipe σ vs) H F2 (unsE ρ2 vs) ∧ Same F1 F2 ∧ DpAll K F2 acc o1 ∧ o1.length ≤ i ∧ mGo vs gD mt me (ds.drop i) (unsE ρ2 vs) = some (.ok rest ρe) ∧ out = o1 ++ rest,
    ⟨ds.length, by omega, [], [], F1, ρ1, out, ok_wipe (ok1.allocP hp) vs, Same.refl F1, .nil, Nat.le_refl _, hgo, rfl⟩, ?_⟩
  rintro i n H2 ⟨en, acc, o1, F2, ρ2, rest, ok2, s2, da, hl, hgo2, eo⟩
  by_cases hi : i < ds.length
  · obtain ⟨d, ed⟩ : ∃ d, ds[i]? = some d := ⟨ds[i], List.getElem?_eq_getElem hi⟩
    have edr : ds.drop i = d :: ds.drop (i + 1) := by
      rw [List.drop_eq_getElem_cons hi]
      have := List.getElem?_eq_getElem hi
      rw [ed] at this
      rw [Option.some.inj this]
    rw [edr] at hgo2
    obtain ⟨_, ρa, e1, g1⟩ := bind_ok hgo2
    obtain ⟨b, ρb, e2, g2⟩ := bind_ok g1
    obtain ⟨es, ρc, e3, g3⟩ := bind_ok g2
    obtain ⟨_, ρd, e4, g4⟩ := bind_ok g3
    obtain ⟨rest', ρf, e5, g5⟩ := bind_ok g4
    cases e4
    cases g5
    have hz : acc.length < sizeLine := by
      rw [DpAll.length da]
      have := of_decide_eq_true hf
      rw [sizeLine_eq]; omega
    refine .inr ⟨hJ.go H2 i (s2.trans ok2.sub) hi, fun H' => ∃ acc o1 F2 ρ2 rest, Ok K (c.put p (.lst acc)) (wipe σ vs) H' F2 (unsE ρ2 vs) ∧ Same F1 F2 ∧ DpAll K F2 acc o1 ∧ o1.length ≤ i + 1 ∧ mGo vs gD mt me (ds.drop (i + 1)) (unsE ρ2 vs) = some (.ok rest ρe) ∧ out = o1 ++ rest,
      fun H' w => ⟨n - 1, by omega, by omega, w⟩, fun x H' y => ?_⟩
    obtain ⟨F3, ok3, s3, r3⟩ := yld_ok ok2 (hJ.mono s2 i) ed y
    refine hg.run ok3 r3 e1 fun σ' ok4 hw => ?_
    rw [wipe_wipe] at hw
    refine ⟨hw, ht _ _ _ ⟨_, F3, ρa, ok4, ?_⟩⟩
    rw [e2]
    intro H5 F5 ok5 s5
    cases b with
    | false =>
      rw [if_neg (by decide)] at e3
      cases e3
      refine iteF ?_
      refine ⟨acc, o1, F5, ρb, rest', ?_, (s2.trans s3).trans s5, DpAll.mono (s3.trans s5) da, by omega, e5, by rw [eo]; rfl⟩
      have q := ok_wipe ok5 vs
      rw [hw] at q
      exact q
    | true =>
      rw [if_pos rfl] at e3
      obtain ⟨yd, ρy, e6, e7⟩ := bind_ok e3
      cases e7
      refine iteT ?_
      refine ⟨_, F5, ρb, ok5, ?_⟩
      rw [e6]
      intro H6 F6 ok6 s6 v rv
      refine ⟨acc, (ok6.prt p _ upd_same).1, hz, acc ++ [v], o1 ++ [yd], F6, _, rest', ?_, ((s2.trans s3).trans s5).trans s6, DpAll.append (DpAll.mono ((s3.trans s5).trans s6) da) (.one rv), by rw [List.length_append]; exact Nat.succ_le_succ hl, e5, by rw [eo]; simp⟩
      have q := ok_wipe (ok6.putP (o' := .lst (acc ++ [v]))) vs
      rw [hw] at q
      exact q
  · have ei : ds.drop i = [] := List.drop_eq_nil_of_le (by omega)
    rw [ei] at hgo2
    cases hgo2
    refine .inl ⟨hJ.stop H2 i (s2.trans ok2.sub) (by omega), ?_⟩
    rw [List.append_nil] at eo
    subst eo
    refine k p acc H2 F2 hpr ?_ s2 da
    rw [unsE_self]
    exact ok_unwipe ok2
theorem comp_read {α : Type} {vs : List Nat} {gD : D → M Unit} {mt : M Bool} {me : M D} {ds : List D} {ρ1 : En} {c : Ct} {σ : St} {F : Hp} {G : α → Hp → Hp → Prop} {f : List D → M α}
    (h : post K W c σ F G (mBind (mRest vs gD mt me ds) f ρ1)) :
    fit ds.length = true ∧ ∃ out ρe, mGo vs gD mt me ds (unsE ρ1 vs) = some (.ok out ρe) ∧ post K W c σ F G (f out (unsE ρe vs)) := by
  unfold mBind mRest at h
  cases q : mGo vs gD mt me ds (unsE ρ1 vs) with
  | none => rw [q] at h; exact h.elim
  | some r =>
    rw [q] at h
    cases r with
    | ex x ρ' => exact h.elim
    | ok out ρe =>
      by_cases hf : fit ds.length = true
      · simp only [if_pos hf] at h
        exact ⟨hf, out, ρe, rfl, h⟩
      · simp only [if_neg hf] at h
        exact h.elim
theorem bind_assoc {α β γ : Type} (m : M α) (f : α → M β) (g : β → M γ) (ρ : En) : mBind (mBind m f) g ρ = mBind m (fun a => mBind (f a) g) ρ := by
  unfold mBind
  cases m ρ with
  | none => rfl
  | some r => cases r <;> rfl
def mCompV (vs : List Nat) (mi : M (List D)) (g : D → M Unit) (tt : M Bool) (te : M D) : M D := mBind (mComp vs mi g tt te) fun out => mPure (.list out)
theorem comp_val {mi : M (List D)} {vs : List Nat} {g : TG} {gD : D → M Unit} {mt : M Bool} {me : M D} (hg : CTg K vs g gD) {σ : St} {H : Hp} {Q : VK}
    {tt : TT} (ht : ∀ σ H Q, tT K WF mt σ H Q → tt σ H Q) (h : tE K W (mCompV vs mi gD mt me) σ H Q) : tLc (tI K W mi) g tt (tE K WF me) vs σ H Q := by
  obtain ⟨c, F, ρ, ok, h⟩ := h
  refine comp_core hg ht ok ?_
  unfold mCompV mComp at h
  rw [bind_assoc] at h
  refine post_mono ?_ (post_bind h)
  rintro ds H1 F1 _ ⟨ρ1, ok1, s1, h1⟩
  obtain ⟨hf, out, ρe, hgo, h2⟩ := comp_read h1
  refine ⟨ρ1, ok1, hf, out, ρe, hgo, fun p acc H2 F2 hpr ok2 s2 da => ?_⟩
  obtain ⟨hH, hF, h0⟩ := ok2.prt p _ upd_same
  have s : Same F2 (upd F2 p (.lst acc)) := Same.updN hF
  exact h2 _ _ (ok2.freeP hpr) (s2.trans s) _ (.lst (.inl upd_same) (DpAll.mono s da))
/-- [..] as a value -/
theorem dComp {elt iter : Expr} {ifs : List Expr} {scope : Scope} {own : List (Str × Nat)} {mi : M (List D)} {g : TG} {gD : D → M Unit} {mt : M Bool} {me : M D} {tt : TT} (hc : X.calm = true) (hN : X.N.Nodup) (hi : PI X tg iter (tI X.K W mi)) (ok : BlkOk X.N X.env.scope scope own)
    (hg : ∀ (s : Shared) (H : Hp) (C : Addr) (cl : List (Str × Addr)) (fp : List Addr), PG (X.blk s H scope (compEnvC scope cl C X.env) fp) tg g) (ht : ∀ (s : Shared) (H : Hp) (C : Addr) (cl : List (Str × Addr)) (fp : List Addr), PTs (X.blk s H scope (compEnvC scope cl C X.env) fp) ifs tt)
    (he : ∀ (s : Shared) (H : Hp) (C : Addr) (cl : List (Str × Addr)) (fp : List Addr), PE (X.blk s H scope (compEnvC scope cl C X.env) fp) elt (tE X.K WF me)) (hG : CTg X.K (own.map (·.2)) g gD) (hT : ∀ σ H Q, tT X.K WF mt σ H Q → tt σ H Q)
    (hs : ∀ x, foldedSetIterable iter X.env x = pure x := by exact fun _ => rfl) : PE X (.ListComp elt [⟨tg, iter, ifs, 0⟩] scope pos) (tE X.K W (mCompV (own.map (·.2)) mi gD mt me)) :=
  PE.imp (pe_lc hc hN hi ok hg ht he hs) fun _ _ _ => comp_val hG hT
theorem tYes_of {σ : St} {H : Hp} {Q : Bool → Hp → Prop} (h : tT K WF (mPure true) σ H Q) : tYes σ H Q := by
  obtain ⟨c, F, ρ, ok, h⟩ := h
  exact h H F ok (Same.refl F)
/-- name = [..]: its own -/
def mAsgC (m : M (List D)) (i : Nat) : M Fl := mBind m fun ds => mBind (mStoreO i ds) fun _ => mDone
end
end Dd

namespace Dd
open PySem PySem.Spec L2
/-! ### what a def promises -/
structure Ext (F H F' H' : Hp) : Prop where
  ff : Same F F'
  fh : Same F' H'
  fe : ∀ b o, F' b = some o → F b = some o ∨ H b = none
  hh : Same H H'
structure ExtB (p : Addr) (F H F' H' : Hp) : Prop where
  ff : Same F F'
  fh : Same F' H'
  fe : ∀ b o, F' b = some o → F b = some o ∨ H b = none
  hh : ∀ b o, b ≠ p → H b = some o → H' b = some o
  fp : F' p = none
abbrev Rs (α : Type) := Except Ex α
def spV (K : PySem.W.Frag) (n : Nat) (f : List D → Option (Rs D)) : Sp := fun vs H Q E => ∃ F ds, Same F H ∧ DpAll K F vs ds ∧ ds.length = n ∧ match f ds with
  | none => False
  | some (.ok d) => ∀ v F' H', Ext F H F' H' → Dp K F' v d → Q v H'
  | some (.error e) => ∀ cls x F' H', Ext F H F' H' → ExR K e cls x F' H' → E cls x H'
def spF (K : PySem.W.Frag) (n : Nat) (f : List D → Option (Rs (List D))) : Sp := fun vs H Q E => ∃ F ds, Same F H ∧ DpAll K F vs ds ∧ ds.length = n ∧ match f ds with
  | none => False
  | some (.ok es) => ∀ p xs F' H', Ext F H F' H' → H p = none → F' p = none → H' p = some (.lst xs) → DpAll K F' xs es → Q (.ref p) H'
  | some (.error e) => ∀ cls x F' H', Ext F H F' H' → ExR K e cls x F' H' → E cls x H'
def spB (K : PySem.W.Frag) (n : Nat) (f : List D → List D → Option (Rs D × List D)) : Sp := fun vs H Q E => ∃ F p bs0 bs rest ds, vs = .ref p :: rest ∧ Same F H ∧ F p = none ∧ H p = some (.lst bs0) ∧ DpAll K F bs0 bs ∧ DpAll K F rest ds ∧ ds.length + 1 = n ∧ match f bs ds with
  | none => False
  | some (.ok d, bs') => ∀ v bs1 F' H', ExtB p F H F' H' → H' p = some (.lst bs1) → DpAll K F' bs1 bs' → Dp K F' v d → Q v H'
  | some (.error e, bs') => ∀ cls x bs1 F' H', ExtB p F H F' H' → H' p = some (.lst bs1) → DpAll K F' bs1 bs' → ExR K e cls x F' H' → E cls x H'
def spS (K : PySem.W.Frag) (n : Nat) (f : List Int → List D → Option (Rs (List D))) : Sp := fun vs H Q E => ∃ F a ns rest ds, vs = .ref a :: rest ∧ Same F H ∧ SqL K H a (ns.map V.int) ∧ DpAll K F rest ds ∧ ds.length + 1 = n ∧ match f ns ds with
  | none => False
  | some (.ok es) => ∀ p xs F' H', Ext F H F' H' → H p = none → F' p = none → H' p = some (.lst xs) → DpAll K F' xs es → Q (.ref p) H'
  | some (.error e) => ∀ cls x F' H', Ext F H F' H' → ExR K e cls x F' H' → E cls x H'
/-- the law: a list of ints, True -/
def spL (K : PySem.W.Frag) (f : List Int → Option (Rs D)) : Sp := fun vs H Q E => ∃ a ns, vs = [.ref a] ∧ SqL K H a (ns.map V.int) ∧ f ns = some (.ok (.bool true)) ∧ ∀ H', Q (.bl true) H'
def env0 (n : Nat) (ds : List D) : En := ds.map .val ++ List.replicate (n - ds.length) .un
def runV (m : M Fl) (n : Nat) (ds : List D) : Option (Rs D) := match m (env0 n ds) with
  | some (.ok (.rt d) _) => some (.ok d)
  | some (.ok .nx _) => some (.ok .none)
  | some (.ex e _) => some (.error e)
  | _ => none
def runF (m : M Fl) (n : Nat) (ds : List D) : Option (Rs (List D)) := match m (env0 n ds) with
  | some (.ok (.rf d) _) => some (.ok d)
  | some (.ex e _) => some (.error e)
  | _ => none
def env0B (n : Nat) (bs : List D) (ds : List D) : En := .io bs :: (ds.map .val ++ List.replicate (n - (ds.length + 1)) .un)
def runB (m : M Fl) (n : Nat) (bs : List D) (ds : List D) : Option (Rs D × List D) := match m (env0B n bs ds) with
  | some (.ok (.rt d) (.io bs' :: _)) => some (.ok d, bs')
  | some (.ok .nx (.io bs' :: _)) => some (.ok .none, bs')
  | some (.ex e (.io bs' :: _)) => some (.error e, bs')
  | _ => none
def env0S (n : Nat) (ns : List Int) (ds : List D) : En := .scr ns :: (ds.map .val ++ List.replicate (n - (ds.length + 1)) .un)
def runS (m : M Fl) (n : Nat) (ns : List Int) (ds : List D) : Option (Rs (List D)) := match m (env0S n ns ds) with
  | some (.ok (.rf d) _) => some (.ok d)
  | some (.ex e _) => some (.error e)
  | _ => none
def runL (m : M Fl) (n : Nat) (ns : List Int) : Option (Rs D) := match m (env0S n ns []) with
  | some (.ok (.rt d) _) => some (.ok d)
  | some (.ex e _) => some (.error e)
  | _ => none
section
variable {K : PySem.W.Frag} {F H : Hp}
abbrev noPr : Hp := fun _ => none
theorem start_get {N : List Str} {vs : List V} {i : Nat} {v : V} (h : vs[i]? = some v) : (L2.start N vs)[i]? = some (some v) := by
  unfold L2.start
  have hl : i < vs.length := by
    rcases Nat.lt_or_ge i vs.length with z | z
    · exact z
    · rw [List.getElem?_eq_none z] at h; cases h
  rw [List.getElem?_append_left (by simpa using hl), List.getElem?_map, h]; rfl
theorem start_len {N : List Str} {vs : List V} (h : vs.length ≤ N.length) : (L2.start N vs).length = N.length := by
  unfold L2.start
  rw [List.length_append, List.length_map, List.length_replicate]; omega
theorem env0_get {n : Nat} {ds : List D} {i : Nat} {u : Sl} (h : (env0 n ds)[i]? = some u) : (∃ d, ds[i]? = some d ∧ u = .val d) ∨ u = .un := by
  unfold env0 at h
  rcases Nat.lt_or_ge i ds.length with z | z
  · rw [List.getElem?_append_left (by simpa using z), List.getElem?_map] at h
    obtain ⟨d, e⟩ : ∃ d, ds[i]? = some d := ⟨ds[i], List.getElem?_eq_getElem z⟩
    rw [e] at h
    cases h
    exact .inl ⟨d, e, rfl⟩
  · rw [List.getElem?_append_right (by simpa using z)] at h
    rw [List.getElem?_replicate] at h
    split at h
    · cases h; exact .inr rfl
    · cases h
theorem start_ok {N : List Str} {vs : List V} {ds : List D} (s : Same F H) (r : DpAll K F vs ds) (h : ds.length ≤ N.length) : Ok K ⟨F, H, none, noPr⟩ (L2.start N vs) H F (env0 N.length ds) := by
  have hl := DpAll.length r
  refine ⟨?_, s, Same.refl F, fun b o e => .inl e, fun b o e _ => e, fun p e => (by cases e), fun b o e => (by cases e), fun i d e => ?_, fun i es e => ?_, fun i es e => ?_, fun i es e => ?_, fun i j es fs p e _ _ _ => ?_⟩
  · rw [start_len (by omega)]
    unfold env0
    rw [List.length_append, List.length_map, List.length_replicate]; omega
  · rcases env0_get e with ⟨d', e1, e2⟩ | e2
    · cases e2
      obtain ⟨v, q1, q2⟩ := DpAll.getd r e1
      exact ⟨v, start_get q1, q2⟩
    · cases e2
  all_goals
    rcases env0_get e with ⟨d', e1, e2⟩ | e2 <;> cases e2
theorem env0B_get {n : Nat} {u0 : Sl} {ds : List D} {i : Nat} {u : Sl} (h : (u0 :: (ds.map Sl.val ++ List.replicate (n - (ds.length + 1)) Sl.un))[i]? = some u) : (i = 0 ∧ u = u0) ∨ (∃ j d, i = j + 1 ∧ ds[j]? = some d ∧ u = .val d) ∨ u = .un := by
  cases i with
  | zero =>
    have h' : u0 = u := by simpa using h
    exact .inl ⟨rfl, h'.symm⟩
  | succ j =>
    have h' : (env0 (n - 1) ds)[j]? = some u := by
      unfold env0
      have e : n - 1 - ds.length = n - (ds.length + 1) := by omega
      rw [e]
      simpa using h
    rcases env0_get h' with ⟨d, e1, e2⟩ | e2
    · exact .inr (.inl ⟨j, d, rfl, e1, e2⟩)
    · exact .inr (.inr e2)
theorem startB_ok {N : List Str} {p : Addr} {bs0 rest : List V} {bs ds : List D} (s : Same F H) (hF : F p = none) (hp : H p = some (.lst bs0)) (rb : DpAll K F bs0 bs) (r : DpAll K F rest ds) (h : ds.length + 1 ≤ N.length) :
    Ok K ⟨F, H, some p, noPr⟩ (L2.start N (.ref p :: rest)) H F (env0B N.length bs ds) := by
  have hl := DpAll.length r
  refine ⟨?_, s, Same.refl F, fun b o e => .inl e, fun b o e _ => e, fun q e => ?_, fun b o e => (by cases e), fun i d e => ?_, fun i es e => ?_, fun i es e => ?_, fun i es e => ?_, fun i j es fs q e _ _ _ => ?_⟩
  · rw [start_len (by simp only [List.length_cons]; omega)]
    unfold env0B
    rw [List.length_cons, List.length_append, List.length_map, List.length_replicate]; omega
  · have e' : some p = some q := e
    cases e'
    exact ⟨hF, by show H p ≠ none; rw [hp]; exact Option.some_ne_none _, rfl, bs0, hp⟩
  · rcases env0B_get e with ⟨_, e2⟩ | ⟨j, d', rfl, e1, e2⟩ | e2 <;> cases e2
    obtain ⟨v, q1, q2⟩ := DpAll.getd r e1
    exact ⟨v, start_get (by simpa using q1), q2⟩
  · rcases env0B_get e with ⟨_, e2⟩ | ⟨j, d', rfl, e1, e2⟩ | e2 <;> cases e2
  · rcases env0B_get e with ⟨rfl, e2⟩ | ⟨j, d', rfl, e1, e2⟩ | e2 <;> cases e2
    exact ⟨rfl, p, bs0, rfl, start_get rfl, hp, rb⟩
  · rcases env0B_get e with ⟨_, e2⟩ | ⟨j, d', rfl, e1, e2⟩ | e2 <;> cases e2
  · rcases env0B_get e with ⟨_, e2⟩ | ⟨j, d', rfl, e1, e2⟩ | e2 <;> cases e2
theorem startS_ok {N : List Str} {a : Addr} {ns : List Int} {rest : List V} {ds : List D} (s : Same F H) (hp : SqL K H a (ns.map V.int)) (r : DpAll K F rest ds) (h : ds.length + 1 ≤ N.length) :
    Ok K ⟨F, H, none, noPr⟩ (L2.start N (.ref a :: rest)) H F (env0S N.length ns ds) := by
  have hl := DpAll.length r
  refine ⟨?_, s, Same.refl F, fun b o e => .inl e, fun b o e _ => e, fun q e => (by cases e), fun b o e => (by cases e), fun i d e => ?_, fun i es e => ?_, fun i es e => ?_, fun i es e => ?_, fun i j es fs q e _ _ _ => ?_⟩
  · rw [start_len (by simp only [List.length_cons]; omega)]
    unfold env0S
    rw [List.length_cons, List.length_append, List.length_map, List.length_replicate]; omega
  · rcases env0B_get e with ⟨_, e2⟩ | ⟨j, d', rfl, e1, e2⟩ | e2 <;> cases e2
    obtain ⟨v, q1, q2⟩ := DpAll.getd r e1
    exact ⟨v, start_get (by simpa using q1), q2⟩
  · rcases env0B_get e with ⟨_, e2⟩ | ⟨j, d', rfl, e1, e2⟩ | e2 <;> cases e2
  · rcases env0B_get e with ⟨_, e2⟩ | ⟨j, d', rfl, e1, e2⟩ | e2 <;> cases e2
  · rcases env0B_get e with ⟨rfl, e2⟩ | ⟨j, d', rfl, e1, e2⟩ | e2 <;> cases e2
    exact ⟨rfl, a, start_get rfl, hp⟩
  · rcases env0B_get e with ⟨_, e2⟩ | ⟨j, d', rfl, e1, e2⟩ | e2 <;> cases e2
theorem Ok.ext {σ : St} {F' H' : Hp} {ρ : En} {pr : Hp} (ok : Ok K ⟨F, H, none, pr⟩ σ H' F' ρ) : Ext F H F' H' := ⟨ok.ge, ok.sub, ok.fe, fun b o e => ok.keep b o e (by simp)⟩
theorem Ok.extB {σ : St} {F' H' : Hp} {ρ : En} {pr : Hp} {p : Addr} (ok : Ok K ⟨F, H, some p, pr⟩ σ H' F' ρ) : ExtB p F H F' H' :=
  ⟨ok.ge, ok.sub, ok.fe, fun b o n e => ok.keep b o e (by intro z; cases z; exact n rfl), (ok.iod p rfl).1⟩
/-! ### behind a call -/
theorem Ok.call {c : Ct} {σ : St} {F' H' : Hp} {ρ : En} (ok : Ok K c σ H F ρ) (x : Ext F H F' H') : Ok K c σ H' F' ρ := by
  have nf : ∀ {b o}, H b = some o → F b = none → F' b = none := fun {b o} h n => by
    cases q : F' b with
    | none => rfl
    | some u =>
      rcases x.fe b u q with z | z
      · rw [n] at z; cases z
      · rw [h] at z; cases z
  refine ⟨ok.len, x.fh, ok.ge.trans x.ff, fun b o e => ?_, fun b o e n => x.hh _ _ (ok.keep b o e n), fun p e => ?_, fun b o e => ?_, fun i d e => ?_, fun i ds e => ?_, fun i ds e => ?_, ok.scr, ok.sep⟩
  · rcases x.fe b o e with z | z
    · exact ok.fe b o z
    · exact .inr (ok.new z).2.1
  · obtain ⟨a1, a2, a3, xs, a4⟩ := ok.iod p e
    exact ⟨nf a4 a1, a2, a3, xs, x.hh _ _ a4⟩
  · obtain ⟨a1, a2, a3⟩ := ok.prt b o e
    exact ⟨x.hh _ _ a1, nf a1 a2, a3⟩
  · obtain ⟨v, a1, a2⟩ := ok.val i d e
    exact ⟨v, a1, Dp.mono x.ff a2⟩
  · obtain ⟨p, vs, a1, a2, a3, a4, a5, a6⟩ := ok.own i ds e
    exact ⟨p, vs, a1, x.hh _ _ a2, DpAll.mono x.ff a3, nf a2 a4, a5, a6⟩
  · obtain ⟨z, p, vs, a0, a1, a2, a3⟩ := ok.ios i ds e
    exact ⟨z, p, vs, a0, a1, x.hh _ _ a2, DpAll.mono x.ff a3⟩
/-- the list at p, a slot's own or the caller's, was changed by a call -/
theorem Ok.callB {c : Ct} {σ : St} {F' H' : Hp} {ρ : En} {i : Nat} {p : Addr} {bs0 bs1 : List V} {bs bs' : List D} (ok : Ok K c σ H F ρ) (hi : ρ[i]? = some (.own bs) ∨ ρ[i]? = some (.io bs)) (hp : σ[i]? = some (some (.ref p))) (x : ExtB p F H F' H') (hb : H' p = some (.lst bs1)) (rb : DpAll K F' bs1 bs') :
    ∃ ρ', mPut i bs' ρ = some (.ok () ρ') ∧ Ok K c σ H' F' ρ' := by
  -- the heap with p as it was ahead of the call
  have nf : ∀ {b o}, H b = some o → F b = none → F' b = none := fun {b o} h n => by
    cases q : F' b with
    | none => rfl
    | some u =>
      rcases x.fe b u q with z | z
      · rw [n] at z; cases z
      · rw [h] at z; cases z
  have hpH : ∃ vs, H p = some (.lst vs) ∧ DpAll K F vs bs := by
    rcases hi with hi | hi
    · obtain ⟨q, vs, a1, a2, a3, _⟩ := ok.own i bs hi
      rw [hp] at a1; cases a1; exact ⟨vs, a2, a3⟩
    · obtain ⟨_, q, vs, _, a1, a2, a3⟩ := ok.ios i bs hi
      rw [hp] at a1; cases a1; exact ⟨vs, a2, a3⟩
  obtain ⟨vs0, hpH, r0⟩ := hpH
  have x0 : Ext F H F' (upd H' p (.lst vs0)) := ⟨x.ff, fun b o e => by rw [upd_ne (ne_of_none e x.fp)]; exact x.fh b o e, x.fe, fun b o e => by
    by_cases hb' : b = p
    · subst hb'; rw [upd_same]; rw [hpH] at e; exact e
    · rw [upd_ne hb']; exact x.hh b o hb' e⟩
  have ok1 := ok.call x0
  have back : upd (upd H' p (.lst vs0)) p (.lst bs1) = H' := by
    rw [upd_upd]
    funext b
    unfold upd
    split
    · rename_i h; rw [h, hb]
    · rfl
  rcases hi with hi | hi
  · have q := ok1.change hi p hp rb
    rw [back] at q
    exact ⟨_, by unfold mPut; rw [hi], q⟩
  · have q := ok1.changeI hi p hp rb
    rw [back] at q
    exact ⟨_, by unfold mPut; rw [hi], q⟩
end
/-! ### calls of defs -/
section
variable {X : Cx} {W : WX} {K : PySem.W.Frag} {ms : M (List D)} {n : Nat} {σ : St} {H : Hp}
def mRs (o : Option (Rs D)) : M D := fun ρ => match o with
  | none => none
  | some (.ok d) => some (.ok d ρ)
  | some (.error e) => some (.ex e ρ)
def mCallV (n : Nat) (f : List D → Option (Rs D)) (ms : M (List D)) : M D := mBind ms fun ds => if ds.length = n then mRs (f ds) else mStuck
theorem callV_of {f : List D → Option (Rs D)} {Q : VK} (h : tE K W (mCallV n f ms) σ H Q) : tCallS (spV K n f) (WE W) (tA K W ms) σ H Q := by
  obtain ⟨c, F, ρ, ok, h⟩ := h
  refine ⟨c, F, ρ, ok, post_mono ?_ (post_bind h)⟩
  rintro ds H1 F1 _ ⟨ρ1, ok1, s1, h1⟩ vs rv
  split at h1
  · rename_i hl
    refine ⟨F1, ds, ok1.sub, rv, hl, ?_⟩
    unfold mRs at h1
    cases e : f ds with
    | none => rw [e] at h1; exact h1
    | some r =>
      rw [e] at h1
      cases r with
      | ok d => exact fun v F' H' x r => h1 H' F' (ok1.call x) x.ff v r
      | error e => exact fun cls y F' H' x r => h1 cls y H' F' (ok1.call x) x.ff r
  · exact h1.elim
/-- a call that changes a slot's own list -/
def mCallB (i n : Nat) (f : List D → List D → Option (Rs D × List D)) (ms : M (List D)) : M D := mBind (mOwn i) fun _ => mBind ms fun ds => mBind (mOwn i) fun bs => if ds.length + 1 = n then (match f bs ds with
  | none => mStuck
  | some (r, bs') => mBind (mPut i bs') fun _ => mRs (some r)) else mStuck
theorem own_is {α : Type} {ρ : En} {i : Nat} {r : R (List D)} (h : mOwn i ρ = some r) : ∃ ds, r = .ok ds ρ ∧ (ρ[i]? = some (.own ds) ∨ ρ[i]? = some (.io ds)) := by
  unfold mOwn at h
  split at h
  · rename_i ds e; cases h; exact ⟨ds, rfl, .inl e⟩
  · rename_i ds e; cases h; exact ⟨ds, rfl, .inr e⟩
  · cases h
theorem callB_of {i : Nat} {f : List D → List D → Option (Rs D × List D)} {Q : VK} (h : tE K W (mCallB i n f ms) σ H Q) : tCallS (spB K n f) (WE W) (tCons (tVar i) (tA K W ms)) σ H Q := by
  obtain ⟨c, F, ρ, ok, h⟩ := h
  obtain ⟨p, vs, ds0, a1, a2, a3, a4, h⟩ := own_at ok h
  refine ⟨.ref p, a1, c, F, ρ, ok, post_mono ?_ (post_bind h)⟩
  rintro ds H1 F1 _ ⟨ρ1, ok1, s1, h1⟩ ws rw'
  have hw : ∃ bs, (ρ1[i]? = some (.own bs) ∨ ρ1[i]? = some (.io bs)) ∧ post K W c σ F1 (qE K Q) ((if ds.length + 1 = n then (match f bs ds with
      | none => mStuck
      | some (r, bs') => mBind (mPut i bs') fun _ => mRs (some r)) else mStuck) ρ1) := by
    unfold mBind at h1
    cases e : mOwn i ρ1 with
    | none => rw [e] at h1; exact h1.elim
    | some r =>
      obtain ⟨bs, rfl, e2⟩ := own_is (α := D) e
      rw [e] at h1
      exact ⟨bs, e2, h1⟩
  obtain ⟨bs, hi, h2⟩ := hw
  obtain ⟨p', vs1, b1, b2, b3, b4⟩ : ∃ p vs, σ[i]? = some (some (.ref p)) ∧ H1 p = some (.lst vs) ∧ DpAll K F1 vs bs ∧ F1 p = none := by
    rcases hi with hi | hi
    · obtain ⟨q, vs, c1, c2, c3, c4, _⟩ := ok1.own i bs hi
      exact ⟨q, vs, c1, c2, c3, c4⟩
    · obtain ⟨_, q, vs, c0, c1, c2, c3⟩ := ok1.ios i bs hi
      exact ⟨q, vs, c1, c2, c3, (ok1.iod q c0).1⟩
  have ep : p' = p := by rw [a1] at b1; cases b1; rfl
  subst ep
  split at h2
  · rename_i hl
    refine ⟨F1, p', vs1, bs, ws, ds, rfl, ok1.sub, b4, b2, b3, rw', hl, ?_⟩
    cases e : f bs ds with
    | none => rw [e] at h2; exact h2
    | some q =>
      rw [e] at h2
      obtain ⟨r, bs'⟩ := q
      cases r with
      | ok d =>
        intro v bs1 F' H' x hb rb rv
        obtain ⟨ρ2, e2, ok2⟩ := ok1.callB (bs0 := vs1) hi b1 x hb rb
        have h3 := post_bind h2
        rw [e2] at h3
        obtain ⟨ρ3, ok3, s3, h4⟩ := h3 H' F' ok2 x.ff
        exact h4 H' F' ok3 (Same.refl F') v rv
      | error ex =>
        intro cls y bs1 F' H' x hb rb rv
        obtain ⟨ρ2, e2, ok2⟩ := ok1.callB (bs0 := vs1) hi b1 x hb rb
        have h3 := post_bind h2
        rw [e2] at h3
        obtain ⟨ρ3, ok3, s3, h4⟩ := h3 H' F' ok2 x.ff
        exact h4 cls y H' F' ok3 (Same.refl F') rv
  · exact h2.elim
/-- name = f(..), f hands back a new list: its own -/
def mAsgF (i n : Nat) (f : List D → Option (Rs (List D))) (ms : M (List D)) : M Fl := mBind ms fun ds => if ds.length = n then (match f ds with
  | none => mStuck
  | some (.ok es) => mBind (mStoreO i es) fun _ => mDone
  | some (.error e) => fun ρ => some (.ex e ρ)) else mStuck
theorem ok_fresh {c : Ct} {F F' H' : Hp} {ρ : En} {p : Addr} {xs : List V} {es : List D} {i : Nat} (ok : Ok K c σ H F ρ) (x : Ext F H F' H') (hp : H p = none) (hf : F' p = none) (hl : H' p = some (.lst xs)) (r : DpAll K F' xs es) (hi : i < ρ.length) :
    Ok K c (σ.set i (some (.ref p))) H' F' (ρ.set i (.own es)) := by
  have ok1 := ok.call x
  obtain ⟨b1, b2, b3, b4, b5⟩ := ok.new hp
  refine ok1.set hi (fun d' e => by cases e) (fun fs e => ?_) (fun _ e => by cases e) (fun _ e => by cases e)
  cases e
  refine ⟨p, xs, rfl, hl, r, hf, b2, b3, fun j fs a b => ?_⟩
  obtain ⟨q, vs, a1, a2, _⟩ := ok.own j fs a
  rw [b] at a1
  have z : p = q := by cases a1; rfl
  subst z
  rw [hp] at a2; cases a2
theorem asgF_of {i : Nat} {f : List D → Option (Rs (List D))} {Dn : Ends} (h : tS K W (mAsgF i n f ms) Dn σ H) : tAsg (tCallS (spF K n f) (WE W) (tA K W ms)) (gName i) Dn σ H := by
  obtain ⟨c, F, ρ, ok, h⟩ := h
  refine ⟨c, F, ρ, ok, post_mono ?_ (postS_bind h)⟩
  rintro ds H1 F1 _ ⟨ρ1, ok1, s1, h1⟩ vs rv
  split at h1
  · rename_i hl
    refine ⟨F1, ds, ok1.sub, rv, hl, ?_⟩
    cases e : f ds with
    | none => rw [e] at h1; exact h1
    | some r =>
      rw [e] at h1
      cases r with
      | error e => exact fun cls y F' H' x r => h1 σ cls y H' F' (ok1.call x) x.ff r
      | ok es =>
        intro p xs F' H' x hp hf hl' rx
        have h2 := postS_bindG h1
        unfold mStoreO at h2
        split at h2
        · rename_i hi
          obtain ⟨F3, ρ3, ok3, s3, h6⟩ := h2 _ H' F' (ok_fresh ok1 x hp hf hl' rx hi) x.ff
          exact h6 _ _ _ ok3 (Same.refl F3)
        · exact h2.elim
  · exact h1.elim
/-- name = _law_box(script, ..) -/
def mScr (j : Nat) : M (List Int) := fun ρ => match ρ[j]? with
  | some (.scr ns) => some (.ok ns ρ)
  | _ => none
def mAsgS (i j n : Nat) (f : List Int → List D → Option (Rs (List D))) (ms : M (List D)) : M Fl := mBind (mScr j) fun ns => mBind ms fun ds => if ds.length + 1 = n then (match f ns ds with
  | none => mStuck
  | some (.ok es) => mBind (mStoreO i es) fun _ => mDone
  | some (.error e) => fun ρ => some (.ex e ρ)) else mStuck
theorem Ok.scrH {c : Ct} {F : Hp} {ρ : En} {j : Nat} {ns : List Int} (ok : Ok K c σ H F ρ) (e : ρ[j]? = some (.scr ns)) : c.io = none ∧ ∃ a, σ[j]? = some (some (.ref a)) ∧ SqL K c.H0 a (ns.map V.int) ∧ SqL K H a (ns.map V.int) := by
  obtain ⟨a0, a, a1, a2⟩ := ok.scr j ns e
  exact ⟨a0, a, a1, a2, SqL.mono (fun b o q => ok.keep b o q (by rw [a0]; simp)) a2⟩
theorem asgS_of {i j : Nat} {f : List Int → List D → Option (Rs (List D))} {Dn : Ends} (h : tS K W (mAsgS i j n f ms) Dn σ H) : tAsg (tCallS (spS K n f) (WE W) (tCons (tVar j) (tA K W ms))) (gName i) Dn σ H := by
  obtain ⟨c, F, ρ, ok, h⟩ := h
  have hj : ∃ ns, ρ[j]? = some (.scr ns) ∧ postS K W c F Dn (mBind ms (fun ds => if ds.length + 1 = n then (match f ns ds with
      | none => mStuck
      | some (.ok es) => mBind (mStoreO i es) fun _ => mDone
      | some (.error e) => fun ρ => some (.ex e ρ)) else mStuck) ρ) := by
    unfold mAsgS mBind mScr at h
    cases e : ρ[j]? with
    | none => rw [e] at h; exact h.elim
    | some u =>
      rw [e] at h
      cases u with
      | scr ns => exact ⟨ns, rfl, h⟩
      | un => exact h.elim
      | val _ => exact h.elim
      | own _ => exact h.elim
      | io _ => exact h.elim
  obtain ⟨ns, ej, h⟩ := hj
  obtain ⟨a0, a, a1, a2, a3⟩ := ok.scrH ej
  refine ⟨.ref a, a1, c, F, ρ, ok, post_mono ?_ (postS_bind h)⟩
  rintro ds H1 F1 _ ⟨ρ1, ok1, s1, h1⟩ vs rv
  have a4 : SqL K H1 a (ns.map V.int) := SqL.mono (fun b o q => ok1.keep b o q (by rw [a0]; simp)) a2
  split at h1
  · rename_i hl
    refine ⟨F1, a, ns, vs, ds, rfl, ok1.sub, a4, rv, hl, ?_⟩
    cases e : f ns ds with
    | none => rw [e] at h1; exact h1
    | some r =>
      rw [e] at h1
      cases r with
      | error e => exact fun cls y F' H' x r => h1 σ cls y H' F' (ok1.call x) x.ff r
      | ok es =>
        intro p xs F' H' x hp hf hl' rx
        have h2 := postS_bindG h1
        unfold mStoreO at h2
        split at h2
        · rename_i hi
          obtain ⟨F3, ρ3, ok3, s3, h6⟩ := h2 _ H' F' (ok_fresh ok1 x hp hf hl' rx hi) x.ff
          exact h6 _ _ _ ok3 (Same.refl F3)
        · exact h2.elim
  · exact h1.elim
/-- len(script), script[..] -/
def mScrLen (j : Nat) : M D := mBind (mScr j) fun ns => mPure (.int (ns.length : Nat))
def mScrIx (j : Nat) (m : M D) : M D := mBind (mScr j) fun ns => mBind m fun d => mLift (match d with
  | .int i => (atI ns i).map PyData.int
  | _ => none)
theorem scr_at {α : Type} {c : Ct} {F : Hp} {ρ : En} {j : Nat} {G : α → Hp → Hp → Prop} {f : List Int → M α} (h : post K W c σ F G (mBind (mScr j) f ρ)) : ∃ ns, ρ[j]? = some (.scr ns) ∧ post K W c σ F G (f ns ρ) := by
  unfold mBind mScr at h
  cases e : ρ[j]? with
  | none => rw [e] at h; exact h.elim
  | some u =>
    rw [e] at h
    cases u with
    | scr ns => exact ⟨ns, rfl, h⟩
    | un => exact h.elim
    | val _ => exact h.elim
    | own _ => exact h.elim
    | io _ => exact h.elim
variable {pos p : Pos} {a : Expr} {m : M D}
theorem dScrLen {j : Nat} (hm : X.mg "len" = none) (ha : PE X a (tVar j)) (hg : Gl X "len" := by rfl) (hs : starEach (a :: []) X.env = (false, eval a X.env) :: starEach [] X.env := by rfl) (hpl : (backTo pos (starEach [] X.env)).any (·.1) = false := by rfl) : PE X (.Call (.Name "len" p) [a] [] pos) (tE X.K W (mScrLen j)) :=
  PE.imp (pe_callB call_len_seq hg hm PySem.boot_len (pa_cons ha pa_nil hs) (by decide) (by decide) hs hpl) (by
  rintro σ H Q ⟨c, F, ρ, ok, h⟩
  obtain ⟨ns, ej, h⟩ := scr_at h
  obtain ⟨a0, a, a1, a2, a3⟩ := ok.scrH ej
  refine ⟨.ref a, a1, a, _, rfl, .inl a3, ?_⟩
  rw [List.length_map]
  exact h H F ok (Same.refl F) _ (.int _))
theorem dScrIx {j : Nat} {b : Expr} (ha : PE X a (tVar j)) (hb : PE X b (tE X.K W m)) (hs : PlainIx b := by exact fun _ _ => rfl) : PE X (.Subscript a b pos) (tE X.K W (mScrIx j m)) := PE.imp (pe_ix ix_list ha hb hs) (by
  rintro σ H Q ⟨c, F, ρ, ok, h⟩
  obtain ⟨ns, ej, h⟩ := scr_at h
  obtain ⟨a0, a, a1, a2, a3⟩ := ok.scrH ej
  refine ⟨.ref a, a1, c, F, ρ, ok, post_mono ?_ (post_bind h)⟩
  rintro d H1 F1 _ ⟨ρ1, ok1, s1, h1⟩ v rv
  obtain ⟨d', e, h2⟩ := post_lift h1
  split at e
  · rename_i i
    cases rv
    cases q : atI ns i with
    | none => rw [q] at e; cases e
    | some z =>
      rw [q] at e
      cases e
      refine ⟨a, _, i, .int z, rfl, rfl, SqL.mono (fun b o q => ok1.keep b o q (by rw [a0]; simp)) a2, ?_, h2 H1 F1 ok1 (Same.refl F1) _ (.int z)⟩
      unfold atI at q ⊢
      rw [List.length_map]
      cases q2 : ixN ns.length i with
      | none => rw [q2] at q; cases q
      | some k =>
        rw [q2] at q
        show (ns.map V.int)[k]? = _
        rw [List.getElem?_map, show ns[k]? = some z from q]; rfl
  · cases e)
end
/-! ### a def by its body -/
section
variable {P : Program} {w : World} {K : PySem.W.Frag} {mg : Str → Option Value} {base : Heap} {x qual : Str} {st : Stmt} {f : Addr} {fd : FuncData} {N ps : List Str} {k : Nat} {m : M Fl}
abbrev Body (P : Program) (w : World) (K : PySem.W.Frag) (mg : Str → Option Value) (base : Heap) (qual : Str) (st : Stmt) (f : Addr) (N : List Str) (k : Nat) (m : M Fl) : Prop :=
  ∀ (cdv : Value) (A : Around) (outer : List Env) (s : Shared) (H : Hp) (E : XK), Room k (A.deeper (PyProof.Rows.envOfC qual (defScope st) s.heap.objs.size f cdv)) →
    PSs (cxOf (L2.CX P w) P w K mg base N qual (defScope st) f cdv A outer s H E) (defBody st) (tS K (fun cls d _ H => E cls d H) m)
theorem FnScope.le {sc : Scope} (S : FnScope N ps sc) : ps.length ≤ N.length := by
  have := congrArg List.length S.pre
  rw [List.length_take] at this
  omega
theorem okV (Fn : Fun K x qual st f fd) (S : FnScope N ps (defScope st)) (hb : Body P w K mg base qual st f N k m) : FnOk P w K mg base (L2.CX P w) (k + 1) f fd ps (spV K ps.length (runV m N.length)) := by
  refine Fn.okX S (fun vs H Q E h => ?_) (fun cdv A outer s H vs Q E hr h => ⟨_, hb cdv A outer s H E hr, ?_⟩)
  · obtain ⟨F, ds, _, r, hl, _⟩ := h
    rw [DpAll.length r]; exact hl
  · obtain ⟨F, ds, s', r, hl, h⟩ := h
    refine ⟨_, F, _, start_ok s' r (by rw [hl]; exact FnScope.le S), ?_⟩
    unfold runV at h
    cases e : m (env0 N.length ds) with
    | none => rw [e] at h; exact h
    | some q =>
      rw [e] at h
      cases q with
      | ex y ρ' => exact fun σ' cls z H' F' ok _ r' => h cls z F' H' ok.ext r'
      | ok fl ρ' =>
        cases fl with
        | nx => exact fun σ' H' F' ok _ => h .non F' H' ok.ext .non
        | rt d => exact fun σ' v H' F' ok _ r' => h v F' H' ok.ext r'
        | bk => exact h.elim
        | ct => exact h.elim
        | rf _ => exact h.elim
theorem okF (Fn : Fun K x qual st f fd) (S : FnScope N ps (defScope st)) (hb : Body P w K mg base qual st f N k m) : FnOk P w K mg base (L2.CX P w) (k + 1) f fd ps (spF K ps.length (runF m N.length)) := by
  refine Fn.okX S (fun vs H Q E h => ?_) (fun cdv A outer s H vs Q E hr h => ⟨_, hb cdv A outer s H E hr, ?_⟩)
  · obtain ⟨F, ds, _, r, hl, _⟩ := h
    rw [DpAll.length r]; exact hl
  · obtain ⟨F, ds, s', r, hl, h⟩ := h
    refine ⟨_, F, _, start_ok s' r (by rw [hl]; exact FnScope.le S), ?_⟩
    unfold runF at h
    cases e : m (env0 N.length ds) with
    | none => rw [e] at h; exact h
    | some q =>
      rw [e] at h
      cases q with
      | ex y ρ' => exact fun σ' cls z H' F' ok _ r' => h cls z F' H' ok.ext r'
      | ok fl ρ' =>
        cases fl with
        | nx => exact h.elim
        | rt d => exact h.elim
        | bk => exact h.elim
        | ct => exact h.elim
        | rf es => exact fun σ' p xs H' F' ok _ hp r' hf h0 => h p xs F' H' ok.ext h0 hf hp r'
theorem okB (Fn : Fun K x qual st f fd) (S : FnScope N ps (defScope st)) (hb : Body P w K mg base qual st f N k m) : FnOk P w K mg base (L2.CX P w) (k + 1) f fd ps (spB K ps.length (runB m N.length)) := by
  refine Fn.okX S (fun vs H Q E h => ?_) (fun cdv A outer s H vs Q E hr h => ⟨_, hb cdv A outer s H E hr, ?_⟩)
  · obtain ⟨F, p, bs0, bs, rest, ds, rfl, _, _, _, _, r, hl, _⟩ := h
    rw [List.length_cons, DpAll.length r]; exact hl
  · obtain ⟨F, p, bs0, bs, rest, ds, rfl, s', hF, hp, rb, r, hl, h⟩ := h
    refine ⟨_, F, _, startB_ok s' hF hp rb r (by rw [hl]; exact FnScope.le S), ?_⟩
    have fin : ∀ {σ' H' F' ρ' bs'}, Ok K ⟨F, H, some p, noPr⟩ σ' H' F' (.io bs' :: ρ') → ∃ bs1, H' p = some (.lst bs1) ∧ DpAll K F' bs1 bs' := fun {σ' H' F' ρ' bs'} ok => by
      obtain ⟨_, q, vs, c0, c1, c2, c3⟩ := ok.ios 0 bs' rfl
      have e : some p = some q := c0
      cases e
      exact ⟨vs, c2, c3⟩
    unfold runB at h
    cases e : m (env0B N.length bs ds) with
    | none => rw [e] at h; exact h
    | some q =>
      rw [e] at h
      cases q with
      | ex y ρ' =>
        intro σ' cls z H' F' ok _ r'
        cases ρ' with
        | nil => exact h.elim
        | cons u ρ' =>
          cases u with
          | io bs' =>
            obtain ⟨bs1, b1, b2⟩ := fin ok
            exact h cls z bs1 F' H' ok.extB b1 b2 r'
          | un => exact h.elim
          | val _ => exact h.elim
          | own _ => exact h.elim
          | scr _ => exact h.elim
      | ok fl ρ' =>
        cases fl with
        | nx =>
          intro σ' H' F' ok _
          cases ρ' with
          | nil => exact h.elim
          | cons u ρ' =>
            cases u with
            | io bs' =>
              obtain ⟨bs1, b1, b2⟩ := fin ok
              exact h .non bs1 F' H' ok.extB b1 b2 .non
            | un => exact h.elim
            | val _ => exact h.elim
            | own _ => exact h.elim
            | scr _ => exact h.elim
        | rt d =>
          intro σ' v H' F' ok _ r'
          cases ρ' with
          | nil => exact h.elim
          | cons u ρ' =>
            cases u with
            | io bs' =>
              obtain ⟨bs1, b1, b2⟩ := fin ok
              exact h v bs1 F' H' ok.extB b1 b2 r'
            | un => exact h.elim
            | val _ => exact h.elim
            | own _ => exact h.elim
            | scr _ => exact h.elim
        | bk => exact h.elim
        | ct => exact h.elim
        | rf _ => exact h.elim
theorem okS (Fn : Fun K x qual st f fd) (S : FnScope N ps (defScope st)) (hb : Body P w K mg base qual st f N k m) : FnOk P w K mg base (L2.CX P w) (k + 1) f fd ps (spS K ps.length (runS m N.length)) := by
  refine Fn.okX S (fun vs H Q E h => ?_) (fun cdv A outer s H vs Q E hr h => ⟨_, hb cdv A outer s H E hr, ?_⟩)
  · obtain ⟨F, a, ns, rest, ds, rfl, _, _, r, hl, _⟩ := h
    rw [List.length_cons, DpAll.length r]; exact hl
  · obtain ⟨F, a, ns, rest, ds, rfl, s', hp, r, hl, h⟩ := h
    refine ⟨_, F, _, startS_ok s' hp r (by rw [hl]; exact FnScope.le S), ?_⟩
    unfold runS at h
    cases e : m (env0S N.length ns ds) with
    | none => rw [e] at h; exact h
    | some q =>
      rw [e] at h
      cases q with
      | ex y ρ' => exact fun σ' cls z H' F' ok _ r' => h cls z F' H' ok.ext r'
      | ok fl ρ' =>
        cases fl with
        | nx => exact h.elim
        | rt d => exact h.elim
        | bk => exact h.elim
        | ct => exact h.elim
        | rf es => exact fun σ' p xs H' F' ok _ hp r' hf h0 => h p xs F' H' ok.ext h0 hf hp r'
theorem okL (Fn : Fun K x qual st f fd) (hps : ps.length = 1) (S : FnScope N ps (defScope st)) (hb : Body P w K mg base qual st f N k m) : FnOk P w K mg base (L2.CX P w) (k + 1) f fd ps (spL K (runL m N.length)) := by
  refine Fn.okX S (fun vs H Q E h => ?_) (fun cdv A outer s H vs Q E hr h => ⟨_, hb cdv A outer s H E hr, ?_⟩)
  · obtain ⟨a, ns, rfl, _⟩ := h
    rw [hps]; rfl
  · obtain ⟨a, ns, rfl, hp, h, hQ⟩ := h
    refine ⟨_, fun _ => none, _, startS_ok (F := fun _ => none) (ds := []) (fun b o e => by cases e) hp .nil (by have := FnScope.le S; rw [hps] at this; exact this), ?_⟩
    unfold runL at h
    cases e : m (env0S N.length ns []) with
    | none => rw [e] at h; cases h
    | some q =>
      rw [e] at h
      cases q with
      | ex y ρ' => cases h
      | ok fl ρ' =>
        cases fl with
        | nx => cases h
        | rt d =>
          cases h
          intro σ' v H' F' ok _ r'
          cases r'
          exact hQ H'
        | bk => cases h
        | ct => cases h
        | rf es => cases h
end
end Dd

namespace Dd
open PySem PySem.Spec L2
section
variable {X : Cx} {W : WX} {K : PySem.W.Frag}
/-! ### built-ins -/
def rOr (r r' : List V → Hp → VK → Prop) : List V → Hp → VK → Prop := fun xs H Q => r xs H Q ∨ r' xs H Q
def cOr (g g' : List D → Option D) : List D → Option D := fun ds => match g ds with
  | some d => some d
  | none => g' ds
theorem callD_or {r r' : List V → Hp → VK → Prop} {g g' : List D → Option D} (h : CallD K r g) (h' : CallD K r' g') : CallD K (rOr r r') (cOr g g') := by
  intro W c σ H F ρ xs ds d Q ok rx e q
  unfold cOr at e
  split at e
  · rename_i d' e'
    cases e
    exact .inl (h ok rx e' q)
  · exact .inr (h' ok rx e q)
theorem pk1 {H F : Hp} {xs : List V} {d : D} (h : PkAll K H F xs [d]) : ∃ x, xs = [x] ∧ Pk K H F x d := by
  cases h with
  | cons r t => cases t; exact ⟨_, rfl, r⟩
theorem pk2 {H F : Hp} {xs : List V} {d e : D} (h : PkAll K H F xs [d, e]) : ∃ x y, xs = [x, y] ∧ Pk K H F x d ∧ Pk K H F y e := by
  cases h with
  | cons r t =>
    obtain ⟨y, rfl, r'⟩ := pk1 t
    exact ⟨_, y, rfl, r, r'⟩
def lenD : List D → Option D
  | [.list ds] => some (.int (ds.length : Nat))
  | [.tuple ds] => some (.int (ds.length : Nat))
  | [.str z] => if fit z.length = true then some (.int (z.length : Nat)) else none
  | _ => none
def rLen (K : PySem.W.Frag) : List V → Hp → VK → Prop := rOr (fun xs H Q => ∃ p ys, xs = [.ref p] ∧ (SqL K H p ys ∨ SqT K H p ys) ∧ Q (.int ys.length) H) (fun xs H Q => ∃ z, xs = [.str z] ∧ z.length ≤ sizeLine ∧ Q (.int z.length) H)
theorem cr_len : CallR X (.builtin "len") (rLen X.K) := CallR.or call_len_seq call_len_str
theorem cd_len : CallD K (rLen K) lenD := by
  intro W c σ H F ρ xs ds d Q ok rx e q
  unfold lenD at e
  split at e
  · cases e
    obtain ⟨x, rfl, r⟩ := pk1 rx
    obtain ⟨p, vs, rfl, hp, dp⟩ := Pk.lst ok.sub r
    exact .inl ⟨p, vs, rfl, .inl hp, by rw [DpAll.length dp]; exact post_ok q ok _ (.int _)⟩
  · cases e
    obtain ⟨x, rfl, r⟩ := pk1 rx
    obtain ⟨p, vs, rfl, hp, dp⟩ := Pk.tup ok.sub r
    exact .inl ⟨p, vs, rfl, .inr hp, by rw [DpAll.length dp]; exact post_ok q ok _ (.int _)⟩
  · split at e
    · rename_i hf
      cases e
      obtain ⟨x, rfl, r⟩ := pk1 rx
      cases r.str
      exact .inr ⟨_, rfl, fit_le hf, post_ok q ok _ (.int _)⟩
    · cases e
  · cases e
def intD : List D → Option D
  | [.int i] => some (.int i)
  | [.bool k] => some (.int (if k then 1 else 0))
  | _ => none
theorem cd_int : CallD K (fun xs H Q => (∃ i, xs = [.int i] ∧ Q (.int i) H) ∨ ∃ k, xs = [.bl k] ∧ Q (.int (if k then 1 else 0)) H) intD := by
  intro W c σ H F ρ xs ds d Q ok rx e q
  unfold intD at e
  split at e
  · cases e
    obtain ⟨x, rfl, r⟩ := pk1 rx
    cases r.int
    exact .inl ⟨_, rfl, post_ok q ok _ (.int _)⟩
  · cases e
    obtain ⟨x, rfl, r⟩ := pk1 rx
    cases r.bool
    exact .inr ⟨_, rfl, post_ok q ok _ (.int _)⟩
  · cases e
def max2D : List D → Option D
  | [.int i, .int j] => some (.int (if j > i then j else i))
  | _ => none
def min2D : List D → Option D
  | [.int i, .int j] => some (.int (if j < i then j else i))
  | _ => none
theorem cd_max2 : CallD K (fun xs H Q => ∃ i j, xs = [.int i, .int j] ∧ Q (.int (if j > i then j else i)) H) max2D := by
  intro W c σ H F ρ xs ds d Q ok rx e q
  unfold max2D at e
  split at e
  · cases e
    obtain ⟨x, y, rfl, r, r'⟩ := pk2 rx
    cases r.int
    cases r'.int
    exact ⟨_, _, rfl, post_ok q ok _ (.int _)⟩
  · cases e
theorem cd_min2 : CallD K (fun xs H Q => ∃ i j, xs = [.int i, .int j] ∧ Q (.int (if j < i then j else i)) H) min2D := by
  intro W c σ H F ρ xs ds d Q ok rx e q
  unfold min2D at e
  split at e
  · cases e
    obtain ⟨x, y, rfl, r, r'⟩ := pk2 rx
    cases r.int
    cases r'.int
    exact ⟨_, _, rfl, post_ok q ok _ (.int _)⟩
  · cases e
def tupleD : List D → Option D
  | [.list ds] => some (.tuple ds)
  | [.tuple ds] => some (.tuple ds)
  | _ => none
theorem cd_tuple : CallD K (fun xs H Q => ∃ p ys, xs = [.ref p] ∧ ((SqL K H p ys ∧ ∀ l, H l = none → Q (.ref l) (upd H l (.tup ys))) ∨ (SqT K H p ys ∧ Q (.ref p) H))) tupleD := by
  intro W c σ H F ρ xs ds d Q ok rx e q
  unfold tupleD at e
  split at e
  · cases e
    obtain ⟨x, rfl, r⟩ := pk1 rx
    obtain ⟨p, vs, rfl, hp, dp⟩ := Pk.lst ok.sub r
    exact ⟨p, vs, rfl, .inl ⟨hp, fun l hl => new_tup ok dp q l hl⟩⟩
  · cases e
    obtain ⟨x, rfl, r⟩ := pk1 rx
    obtain ⟨p, vs, rfl, hp, dp⟩ := Pk.tup ok.sub r
    refine ⟨p, vs, rfl, .inr ⟨hp, ?_⟩⟩
    rcases r with r | ⟨_, _, _, _, e, _⟩
    · exact post_ok q ok _ r
    · cases e
  · cases e
/-- ints, bools of a list -/
def toInts : List D → Option (List Int)
  | [] => some []
  | .int i :: ds => (toInts ds).map (i :: ·)
  | _ => none
theorem toInts_eq : ∀ {ds : List D} {ns : List Int}, toInts ds = some ns → ds = ns.map PyData.int
  | [], ns, h => by cases h; rfl
  | d :: ds, ns, h => by
    cases d with
    | int i =>
      have h : (toInts ds).map (i :: ·) = some ns := h
      cases q : toInts ds with
      | none => rw [q] at h; cases h
      | some ms =>
        rw [q] at h
        cases h
        rw [toInts_eq q]; rfl
    | none => cases h
    | bool _ => cases h
    | str _ => cases h
    | list _ => cases h
    | tuple _ => cases h
    | dict _ => cases h
theorem toInts_map : ∀ (ns : List Int), toInts (ns.map PyData.int) = some ns
  | [] => rfl
  | n :: ns => by
    show (toInts (ns.map PyData.int)).map (n :: ·) = _
    rw [toInts_map ns]; rfl
def toBools : List D → Option (List Bool)
  | [] => some []
  | .bool i :: ds => (toBools ds).map (i :: ·)
  | _ => none
theorem toBools_eq : ∀ {ds : List D} {ns : List Bool}, toBools ds = some ns → ds = ns.map PyData.bool
  | [], ns, h => by cases h; rfl
  | d :: ds, ns, h => by
    cases d with
    | bool i =>
      have h : (toBools ds).map (i :: ·) = some ns := h
      cases q : toBools ds with
      | none => rw [q] at h; cases h
      | some ms =>
        rw [q] at h
        cases h
        rw [toBools_eq q]; rfl
    | none => cases h
    | int _ => cases h
    | str _ => cases h
    | list _ => cases h
    | tuple _ => cases h
    | dict _ => cases h
theorem toBools_map : ∀ (ns : List Bool), toBools (ns.map PyData.bool) = some ns
  | [] => rfl
  | n :: ns => by
    show (toBools (ns.map PyData.bool)).map (n :: ·) = _
    rw [toBools_map ns]; rfl
def sumD : List D → Option D
  | [.list ds] => (toInts ds).map fun ns => .int ns.sum
  | _ => none
def allD : List D → Option D
  | [.list ds] => (toBools ds).map fun bs => .bool (bs.all id)
  | _ => none
def anyD : List D → Option D
  | [.list ds] => (toBools ds).map fun bs => .bool (bs.any id)
  | _ => none
theorem cd_sum : CallD K (rSum K) sumD := by
  intro W c σ H F ρ xs ds d Q ok rx e q
  unfold sumD at e
  split at e
  · rename_i es
    cases q2 : toInts es with
    | none => rw [q2] at e; cases e
    | some ns =>
      rw [q2] at e
      cases e
      obtain ⟨x, rfl, r⟩ := pk1 rx
      obtain ⟨p, vs, rfl, hp, dp⟩ := Pk.lst ok.sub r
      rw [toInts_eq q2] at dp
      rw [DpAll.ints dp] at hp
      exact ⟨p, ns, rfl, hp, post_ok q ok _ (.int _)⟩
  · cases e
theorem cd_all : CallD K (rAll K) allD := by
  intro W c σ H F ρ xs ds d Q ok rx e q
  unfold allD at e
  split at e
  · rename_i es
    cases q2 : toBools es with
    | none => rw [q2] at e; cases e
    | some ns =>
      rw [q2] at e
      cases e
      obtain ⟨x, rfl, r⟩ := pk1 rx
      obtain ⟨p, vs, rfl, hp, dp⟩ := Pk.lst ok.sub r
      rw [toBools_eq q2] at dp
      rw [DpAll.bls dp] at hp
      exact ⟨p, ns, rfl, hp, post_ok q ok _ (.bl _)⟩
  · cases e
theorem cd_any : CallD K (rAny K) anyD := by
  intro W c σ H F ρ xs ds d Q ok rx e q
  unfold anyD at e
  split at e
  · rename_i es
    cases q2 : toBools es with
    | none => rw [q2] at e; cases e
    | some ns =>
      rw [q2] at e
      cases e
      obtain ⟨x, rfl, r⟩ := pk1 rx
      obtain ⟨p, vs, rfl, hp, dp⟩ := Pk.lst ok.sub r
      rw [toBools_eq q2] at dp
      rw [DpAll.bls dp] at hp
      exact ⟨p, ns, rfl, hp, post_ok q ok _ (.bl _)⟩
  · cases e
/-- repr of what is plain -/
def reprD : List D → Option D
  | [.none] => some (.str "None")
  | [.bool b] => some (.str (if b then "True" else "False"))
  | [.int i] => if i.natAbs.log2 < 1920 then some (.str (toString i)) else none
  | [.str x] => if fit (reprText x).length = true then some (.str (reprText x)) else none
  | _ => none
def rRepr : List V → Hp → VK → Prop := fun xs H Q => (xs = [.non] ∧ Q (.str "None") H) ∨ (∃ b : Bool, xs = [.bl b] ∧ Q (.str (if b then "True" else "False")) H) ∨ (∃ i : Int, xs = [.int i] ∧ i.natAbs.log2 < 1920 ∧ Q (.str (toString i)) H) ∨ ∃ x, xs = [.str x] ∧ (reprText x).length ≤ sizeLine ∧ Q (.str (reprText x)) H
theorem cr_repr : CallR X (.builtin "repr") rRepr := by
  intro pins s σ H xs us Q I r h
  rcases h with ⟨rfl, q⟩ | ⟨b, rfl, q⟩ | ⟨i, rfl, hi, q⟩ | ⟨x, rfl, hx, q⟩
  · obtain ⟨u, rfl, ru⟩ := vals1 r
    cases ru
    exact PySem.P.repr_of_none ⟨.str "None", H, I.tok _, ⟨_, rfl⟩, q⟩
  · obtain ⟨u, rfl, ru⟩ := vals1 r
    cases ru
    exact PySem.P.repr_of_bool ⟨.str _, H, I.tok _, ⟨_, rfl⟩, q⟩
  · obtain ⟨u, rfl, ru⟩ := vals1 r
    obtain ⟨t, rfl⟩ := ru
    exact PySem.P.repr_of_int hi ⟨.str _, H, I.tok _, ⟨_, rfl⟩, q⟩
  · obtain ⟨u, rfl, ru⟩ := vals1 r
    obtain ⟨t, rfl⟩ := ru
    exact PySem.P.repr_of_str ⟨.str _, H, I.tok _, ⟨_, rfl⟩, q⟩ hx
theorem cd_repr : CallD K rRepr reprD := by
  intro W c σ H F ρ xs ds d Q ok rx e q
  unfold reprD at e
  split at e
  · cases e
    obtain ⟨x, rfl, r⟩ := pk1 rx
    cases r.none
    exact .inl ⟨rfl, post_ok q ok _ (.str _)⟩
  · cases e
    obtain ⟨x, rfl, r⟩ := pk1 rx
    cases r.bool
    exact .inr (.inl ⟨_, rfl, post_ok q ok _ (.str _)⟩)
  · split at e
    · rename_i hf
      cases e
      obtain ⟨x, rfl, r⟩ := pk1 rx
      cases r.int
      exact .inr (.inr (.inl ⟨_, rfl, hf, post_ok q ok _ (.str _)⟩))
    · cases e
  · split at e
    · rename_i hf
      cases e
      obtain ⟨x, rfl, r⟩ := pk1 rx
      cases r.str
      exact .inr (.inr (.inr ⟨_, rfl, fit_le hf, post_ok q ok _ (.str _)⟩))
    · cases e
  · cases e
/-! ### isinstance -/
def typD : D → String
  | .none => "NoneType"
  | .bool _ => "bool"
  | .int _ => "int"
  | .str _ => "str"
  | .list _ => "list"
  | .tuple _ => "tuple"
  | .dict _ => "dict"
theorem typ_of {c : Ct} {σ : St} {H F : Hp} {ρ : En} (ok : Ok K c σ H F ρ) {x : V} {d : D} (r : Pk K H F x d) : TyX K H x (.type (typD d)) := by
  cases d with
  | none => cases r.none; exact .base .non
  | bool b => cases r.bool; exact .base (.bl b)
  | int i => cases r.int; exact .base (.int i)
  | str z => cases r.str; exact .base (.str z)
  | list ds =>
    obtain ⟨p, vs, rfl, hp, dp⟩ := Pk.rd ok.sub r
    rcases hp with hp | ⟨o, hp⟩
    · exact .base (.lst hp)
    · exact .base (.frz hp)
  | tuple ds =>
    obtain ⟨p, vs, rfl, hp, dp⟩ := Pk.tup ok.sub r
    rcases hp with (hp | ⟨o, hp⟩) | ⟨o, its, n, h1, h2, _⟩
    · exact .base (.tup hp)
    · exact .fTuple hp
    · exact .kTuple h1 h2
  | dict _ =>
    rcases r with r | ⟨_, _, _, _, e, _⟩
    · cases r
    · cases e
def isiT (T : String) (d : D) : Bool := match kitB (typD d) T with
  | some b => b
  | none => false
def isiOk (T : String) : Bool := (kitB "NoneType" T).isSome && (kitB "bool" T).isSome && (kitB "int" T).isSome && (kitB "str" T).isSome && (kitB "list" T).isSome && (kitB "tuple" T).isSome && (kitB "dict" T).isSome
theorem isi_kit {T : String} (h : isiOk T = true) (d : D) : PySem.W.kitOne K (.type (typD d)) (.type T) = some (isiT T d) := by
  unfold isiOk at h
  simp only [Bool.and_eq_true] at h
  obtain ⟨⟨⟨⟨⟨⟨h1, h2⟩, h3⟩, h4⟩, h5⟩, h6⟩, h7⟩ := h
  refine kit_ty ?_
  unfold isiT
  cases d <;> (unfold typD; first
    | (obtain ⟨b, e⟩ := Option.isSome_iff_exists.mp h1; rw [e])
    | (obtain ⟨b, e⟩ := Option.isSome_iff_exists.mp h2; rw [e])
    | (obtain ⟨b, e⟩ := Option.isSome_iff_exists.mp h3; rw [e])
    | (obtain ⟨b, e⟩ := Option.isSome_iff_exists.mp h4; rw [e])
    | (obtain ⟨b, e⟩ := Option.isSome_iff_exists.mp h5; rw [e])
    | (obtain ⟨b, e⟩ := Option.isSome_iff_exists.mp h6; rw [e])
    | (obtain ⟨b, e⟩ := Option.isSome_iff_exists.mp h7; rw [e]))
def mIsi (T : String) (m : M D) : M D := mBind m fun d => mPure (.bool (isiT T d))
variable {a : Expr} {m : M D} {p q pos : Pos} {tn : Str} {T : String}
theorem dIsi (hm : X.mg "isinstance" = none) (hmT : X.mg tn = none) (hT : isiOk T = true) (ha : PE X a (tP X.K W m)) (hv : bootBuiltins tn = some (.type T)) (hg : Gl X "isinstance" := by rfl) (hgT : Gl X tn := by rfl)
    (hn : tn ≠ "__name__" := by decide) (hdb : (tn == ("__debug__" : Str)) = false := by decide) (hs : starEach [a, .Name tn q] X.env = (false, eval a X.env) :: starEach [.Name tn q] X.env := by rfl) (hs2 : starEach [.Name tn q] X.env = (false, eval (.Name tn q) X.env) :: starEach [] X.env := by rfl) (hpl : (backTo pos (starEach [.Name tn q] X.env)).any (·.1) = false := by rfl)
    (hbi : bootBuiltins "isinstance" = some (.builtin "isinstance") := by decide +kernel) : PE X (.Call (.Name "isinstance" p) [a, .Name tn q] [] pos) (tE X.K W (mIsi T m)) :=
  PE.imp (pe_callB call_isi hg hm hbi (pa_cons ha (pa_cons (pe_bltn hgT hmT hv (hn := hn) (hd := hdb) (r := (show RelV (V.ty T) (Value.type T) from rfl))) pa_nil hs2) hs) (by decide) (by decide) hs hpl) (by
  rintro σ H Q ⟨c, F, ρ, ok, h⟩
  refine ⟨c, F, ρ, ok, post_mono ?_ (post_bind h)⟩
  rintro d H1 F1 _ ⟨ρ1, ok1, s1, h1⟩ v rv
  exact ⟨v, _, _, _, _, rfl, .ty T, typ_of ok1 rv, isi_kit hT d, h1 H1 F1 ok1 (Same.refl F1) _ (.bl _)⟩)
end
/-! ### a new list, not yet anyone's -/
def postN (K : PySem.W.Frag) (W : WX) (c : Ct) (σ : St) (F : Hp) (Q : VK) : Option (R (List D)) → Prop
  | none => False
  | some (.ok out ρ') => ∀ p xs H' F', Ok K (c.put p (.lst xs)) σ H' F' ρ' → c.pr p = none → Same F F' → DpAll K F' xs out → Q (.ref p) H'
  | some (.ex e ρ') => ∀ cls x H' F', Ok K c σ H' F' ρ' → Same F F' → ExR K e cls x F' H' → W cls x σ H'
def tN (K : PySem.W.Frag) (W : WX) (m : M (List D)) : TE := fun σ H Q => ∃ c F ρ, Ok K c σ H F ρ ∧ postN K W c σ F Q (m ρ)
section
variable {X : Cx} {W : WX} {K : PySem.W.Frag} {σ : St} {H F : Hp} {ρ : En} {c : Ct}
theorem postN_weak {Q : VK} {F1 : Hp} (s : Same F F1) : ∀ {r : Option (R (List D))}, postN K W c σ F Q r → postN K W c σ F1 Q r
  | some (.ok a ρ'), h => fun p xs H' F' ok hp s' => h p xs H' F' ok hp (s.trans s')
  | some (.ex e ρ'), h => fun cls x H' F' ok s' => h cls x H' F' ok (s.trans s')
theorem postN_bind {α : Type} {Q : VK} {m : M α} {f : α → M (List D)} (h : postN K W c σ F Q (mBind m f ρ)) :
    post K W c σ F (fun a H1 F1 => ∃ ρ1, Ok K c σ H1 F1 ρ1 ∧ Same F F1 ∧ postN K W c σ F1 Q (f a ρ1)) (m ρ) := by
  unfold mBind at h
  cases e : m ρ with
  | none => rw [e] at h; exact h
  | some r =>
    rw [e] at h
    cases r with
    | ok a ρ' => exact fun H' F' ok s => ⟨ρ', ok, s, postN_weak s h⟩
    | ex x ρ' => exact h
theorem new_N {Q : VK} {vs : List V} {ds : List D} (ok : Ok K c σ H F ρ) (hd : DpAll K F vs ds) (q : postN K W c σ F Q (some (.ok ds ρ))) (p : Addr) (hp : H p = none) : Q (.ref p) (upd H p (.lst vs)) :=
  q p vs _ F (ok.allocP hp) (ok.new hp).2.2.1 (Same.refl F) hd
theorem postN_lift {Q : VK} {o : Option (List D)} (h : postN K W c σ F Q (mLift o ρ)) : ∃ a, o = some a ∧ postN K W c σ F Q (some (.ok a ρ)) := by
  unfold mLift at h
  cases o with
  | none => exact h.elim
  | some a => exact ⟨a, rfl, h⟩
def mVal (m : M (List D)) : M D := mBind m fun ds => mPure (.list ds)
theorem tE_N {m : M (List D)} {Q : VK} (h : tE K W (mVal m) σ H Q) : tN K W m σ H Q := by
  obtain ⟨c, F, ρ, ok, h⟩ := h
  refine ⟨c, F, ρ, ok, ?_⟩
  unfold mVal mBind at h
  cases e : m ρ with
  | none => rw [e] at h; exact h
  | some r =>
    rw [e] at h
    cases r with
    | ex x ρ' => exact h
    | ok out ρ' =>
      intro p xs H' F' ok' hp s' r
      obtain ⟨hH, hF, h0⟩ := ok'.prt p _ upd_same
      have s : Same F' (upd F' p (.lst xs)) := Same.updN hF
      exact h H' _ (ok'.freeP hp) (s'.trans s) _ (.lst (.inl upd_same) (DpAll.mono s r))
theorem dVal {e : Expr} {m : M (List D)} (h : PE X e (tN X.K W m)) : PE X e (tE X.K W (mVal m)) := PE.imp h fun _ _ _ => tE_N
def mAsgN (m : M (List D)) (i : Nat) : M Fl := mBind m fun ds => mBind (mStoreO i ds) fun _ => mDone
theorem asgN_of {m : M (List D)} {i : Nat} {Dn : Ends} (h : tS K W (mAsgN m i) Dn σ H) : tAsg (tN K W m) (gName i) Dn σ H := by
  obtain ⟨c, F, ρ, ok, h⟩ := h
  refine ⟨c, F, ρ, ok, ?_⟩
  unfold mAsgN mBind at h
  cases e : m ρ with
  | none => rw [e] at h; exact h.elim
  | some r =>
    rw [e] at h
    cases r with
    | ex x ρ' => exact fun cls y H' F' ok s r => h σ cls y H' F' ok s r
    | ok out ρ' =>
      intro p xs H' F' ok' hp s' r
      have h5 : postS K W c F Dn (mBind (mStoreO i out) (fun _ => mDone) ρ') := h
      have h6 := postS_bindG h5
      unfold mStoreO at h6
      split at h6
      · rename_i hl
        obtain ⟨F3, ρ3, ok3, s3, h7⟩ := h6 _ H' F' (ok'.ownP hp r hl) s'
        exact h7 _ _ _ ok3 (Same.refl F3)
      · exact h6.elim
theorem dsN {i : Nat} {x : Str} {pos pos' : Pos} {e : Expr} {m : M (List D)} (hN : X.N.Nodup) (he : PE X e (tN X.K W m)) (hi : X.N[i]? = some x := by rfl) (hx : Loc X.env.scope x := by first | exact Or.inl rfl | exact Or.inr rfl)
    (hs : swapsWith e (some (.Name x pos')) pos.line X.env = pure false := by rfl)
    (hf : X.fn x = true ∨ X.env.scope.names.lookup x = some .local := by first | exact .inl rfl | exact .inr rfl) : PS X (.Assign [.Name x pos'] e pos) (tS X.K W (mAsgN m i)) := PS.imp (ps_set hN hi hx he hs hf) fun _ _ _ => asgN_of
/-- a comprehension, as a new list; on one line with its name -/
theorem comp_N {mi : M (List D)} {vs : List Nat} {g : TG} {gD : D → M Unit} {mt : M Bool} {me : M D} (hg : CTg K vs g gD) {Q : VK}
    {tt : TT} (ht : ∀ σ H Q, tT K WF mt σ H Q → tt σ H Q) (h : tN K W (mComp vs mi gD mt me) σ H Q) : tLc (tI K W mi) g tt (tE K WF me) vs σ H Q := by
  obtain ⟨c, F, ρ, ok, h⟩ := h
  refine comp_core hg ht ok ?_
  unfold mComp at h
  refine post_mono ?_ (postN_bind h)
  rintro ds H1 F1 _ ⟨ρ1, ok1, s1, h1⟩
  unfold mRest at h1
  cases q : mGo vs gD mt me ds (unsE ρ1 vs) with
  | none => rw [q] at h1; exact h1.elim
  | some r =>
    rw [q] at h1
    cases r with
    | ex x ρ' => exact h1.elim
    | ok out ρe =>
      by_cases hf : fit ds.length = true
      · simp only [if_pos hf] at h1
        exact ⟨ρ1, ok1, hf, out, ρe, q, fun p acc H2 F2 hpr ok2 s2 da => h1 p acc H2 F2 ok2 hpr s2 da⟩
      · simp only [if_neg hf] at h1
        exact h1.elim
theorem dCompN {elt iter tg : Expr} {ifs : List Expr} {scope : Scope} {own : List (Str × Nat)} {pos : Pos} {mi : M (List D)} {g : TG} {gD : D → M Unit} {mt : M Bool} {me : M D} {tt : TT} (hc : X.calm = true) (hN : X.N.Nodup) (hi : PI X tg iter (tI X.K W mi)) (ok : BlkOk X.N X.env.scope scope own)
    (hg : ∀ (s : Shared) (H : Hp) (C : Addr) (cl : List (Str × Addr)) (fp : List Addr), PG (X.blk s H scope (compEnvC scope cl C X.env) fp) tg g) (ht : ∀ (s : Shared) (H : Hp) (C : Addr) (cl : List (Str × Addr)) (fp : List Addr), PTs (X.blk s H scope (compEnvC scope cl C X.env) fp) ifs tt)
    (he : ∀ (s : Shared) (H : Hp) (C : Addr) (cl : List (Str × Addr)) (fp : List Addr), PE (X.blk s H scope (compEnvC scope cl C X.env) fp) elt (tE X.K WF me)) (hG : CTg X.K (own.map (·.2)) g gD) (hT : ∀ σ H Q, tT X.K WF mt σ H Q → tt σ H Q)
    (hs : ∀ x, foldedSetIterable iter X.env x = pure x := by exact fun _ => rfl) : PE X (.ListComp elt [⟨tg, iter, ifs, 0⟩] scope pos) (tN X.K W (mComp (own.map (·.2)) mi gD mt me)) :=
  PE.imp (pe_lc hc hN hi ok hg ht he hs) fun _ _ _ => comp_N hG hT
theorem dsCompN {i : Nat} {y : Str} {py spos : Pos} {elt iter tg : Expr} {ifs : List Expr} {scope : Scope} {own : List (Str × Nat)} {pos : Pos} {mi : M (List D)} {g : TG} {gD : D → M Unit} {mt : M Bool} {me : M D} {tt : TT} (hc : X.calm = true) (hN : X.N.Nodup)
    (hsw : swapsWith (.ListComp elt [⟨tg, iter, ifs, 0⟩] scope pos) (some (.Name y py)) spos.line X.env = pure true) (hi : PI X tg iter (tI X.K W mi)) (ok : BlkOk X.N X.env.scope scope own)
    (hg : ∀ (s : Shared) (H : Hp) (C : Addr) (cl : List (Str × Addr)) (fp : List Addr), PG (X.blk s H scope (compEnvC scope cl C X.env) fp) tg g) (ht : ∀ (s : Shared) (H : Hp) (C : Addr) (cl : List (Str × Addr)) (fp : List Addr), PTs (X.blk s H scope (compEnvC scope cl C X.env) fp) ifs tt)
    (he : ∀ (s : Shared) (H : Hp) (C : Addr) (cl : List (Str × Addr)) (fp : List Addr), PE (X.blk s H scope (compEnvC scope cl C X.env) fp) elt (tE X.K WF me)) (hG : CTg X.K (own.map (·.2)) g gD) (hT : ∀ σ H Q, tT X.K WF mt σ H Q → tt σ H Q)
    (hy : X.N[i]? = some y := by rfl) (hyl : X.env.scope.names.lookup y = some .local := by rfl)
    (hs : ∀ x, foldedSetIterable iter X.env x = pure x := by exact fun _ => rfl) : PS X (.Assign [.Name y py] (.ListComp elt [⟨tg, iter, ifs, 0⟩] scope pos) spos) (tS X.K W (mAsgN (mComp (own.map (·.2)) mi gD mt me) i)) :=
  PS.imp (ps_setLc hc hN hy hyl hsw hi ok hg ht he hs) fun Dn σ H h => by
    have q := asgN_of h
    exact comp_N hG hT q
/-- list(..), sorted(..), .. -/
def CallN (K : PySem.W.Frag) (r : List V → Hp → VK → Prop) (g : List D → Option (List D)) : Prop :=
  ∀ {W : WX} {c : Ct} {σ : St} {H F : Hp} {ρ : En} {xs : List V} {ds : List D} {out : List D} {Q : VK}, Ok K c σ H F ρ → PkAll K H F xs ds → g ds = some out → postN K W c σ F Q (some (.ok out ρ)) → r xs H Q
def mCallN1 (g : List D → Option (List D)) (m : M D) : M (List D) := mBind m fun d => mLift (g [d])
variable {a : Expr} {ma mb : M D} {x : Str} {p pos : Pos} {id T : String} {r : List V → Hp → VK → Prop} {g : List D → Option (List D)}
theorem tCBN1 (hd : CallN K r g) {Q : VK} (h : tN K W (mCallN1 g ma) σ H Q) : tCB r (tCons (tP K W ma) tNil) σ H Q := by
  obtain ⟨c, F, ρ, ok, h⟩ := h
  refine ⟨c, F, ρ, ok, post_mono ?_ (postN_bind h)⟩
  rintro d H1 F1 _ ⟨ρ1, ok1, s1, h1⟩ x rx
  obtain ⟨d', e, h2⟩ := postN_lift h1
  exact hd ok1 (.cons rx .nil) e h2
theorem dBN1 (hc : CallR X (.builtin id) r) (hd : CallN X.K r g) (hm : X.mg x = none) (hv : bootBuiltins x = some (.builtin id)) (ha : PE X a (tP X.K W ma)) (hg : Gl X x := by rfl) (hs : starEach (a :: []) X.env = (false, eval a X.env) :: starEach [] X.env := by rfl) (hn : x ≠ "__name__" := by decide) (hdb : (x == ("__debug__" : Str)) = false := by decide)
    (hpl : (backTo pos (starEach [] X.env)).any (·.1) = false := by rfl) : PE X (.Call (.Name x p) [a] [] pos) (tN X.K W (mCallN1 g ma)) :=
  PE.imp (pe_callB hc hg hm hv (pa_cons ha pa_nil hs) hn hdb hs hpl) fun _ _ _ => tCBN1 hd
theorem dTyN1 (hc : CallR X (.type T) r) (hd : CallN X.K r g) (hm : X.mg x = none) (hv : bootBuiltins x = some (.type T)) (ha : PE X a (tP X.K W ma)) (hg : Gl X x := by rfl) (hs : starEach (a :: []) X.env = (false, eval a X.env) :: starEach [] X.env := by rfl) (hn : x ≠ "__name__" := by decide) (hdb : (x == ("__debug__" : Str)) = false := by decide)
    (hpl : (backTo pos (starEach [] X.env)).any (·.1) = false := by rfl) : PE X (.Call (.Name x p) [a] [] pos) (tN X.K W (mCallN1 g ma)) :=
  PE.imp (pe_callTy hc hg hm hv (pa_cons ha pa_nil hs) hn hdb hs hpl) fun _ _ _ => tCBN1 hd
def listD : List D → Option (List D)
  | [.list ds] => some ds
  | [.tuple ds] => some ds
  | _ => none
theorem cn_list : CallN K (fun xs H Q => ∃ p ys, xs = [.ref p] ∧ (SqL K H p ys ∨ SqT K H p ys) ∧ ∀ l, H l = none → Q (.ref l) (upd H l (.lst ys))) listD := by
  intro W c σ H F ρ xs ds d Q ok rx e q
  unfold listD at e
  split at e
  · cases e
    obtain ⟨x, rfl, r⟩ := pk1 rx
    obtain ⟨p, vs, rfl, hp, dp⟩ := Pk.lst ok.sub r
    exact ⟨p, vs, rfl, .inl hp, fun l hl => new_N ok dp q l hl⟩
  · cases e
    obtain ⟨x, rfl, r⟩ := pk1 rx
    obtain ⟨p, vs, rfl, hp, dp⟩ := Pk.tup ok.sub r
    exact ⟨p, vs, rfl, .inr hp, fun l hl => new_N ok dp q l hl⟩
  · cases e
end
end Dd

namespace Dd
open PySem PySem.Spec L2
section
variable {X : Cx} {W : WX} {K : PySem.W.Frag} {σ : St} {H F : Hp} {ρ : En} {c : Ct}
/-! ### a tuple by 0, by 1 -/
theorem tuple_mul0 (l : Addr) (items : Array Value) (n : Nat) (dd : Option Addr) (sl : Array (Option Value)) (u : Tok) (c1 : items.isEmpty = false) :
    Meets (Builtin.«tuple.__mul__» ⟨[.ref l, .int 0 u], []⟩) (fun _ R s => s.heap.get? l = some { cls := .type "tuple", dict := dd, data := .seq items n, slots := sl } ∧
      R (.ok (.ret (Value.ref s.heap.objs.size))) { s with heap := s.heap.push { cls := Value.type "tuple", data := Data.seq #[] }, toks := s.toks }) :=
  .of_wp fun prog w A R s h => by
    obtain ⟨hp, g, d, tk, os⟩ := s
    obtain ⟨hl, h⟩ := h
    have f1 := AutoSeq1.idx_int
    have c1' : (items.isEmpty || (0 : Int) == 1) = false := by rw [c1]; rfl
    wp_walk using wpAny_loadPart' hl
    repeat (first
      | (refine wpAny_ite_false (decide_eq_false (by rw [c1']; exact Bool.false_ne_true)) ?_; wp_walk using wpAny_loadPart' hl))
    exact ⟨_, rfl, h⟩
theorem tuple_mul1 (l : Addr) (items : Array Value) (n : Nat) (dd : Option Addr) (sl : Array (Option Value)) (u : Tok) :
    Meets (Builtin.«tuple.__mul__» ⟨[.ref l, .int 1 u], []⟩) (fun _ R s => s.heap.get? l = some { cls := .type "tuple", dict := dd, data := .seq items n, slots := sl } ∧
      R (.ok (.ret (Value.ref l))) s) :=
  .of_wp fun prog w A R s h => by
    obtain ⟨hp, g, d, tk, os⟩ := s
    obtain ⟨hl, h⟩ := h
    have f1 := AutoSeq1.idx_int
    have c1' : (items.isEmpty || (1 : Int) == 1) = true := by simp
    wp_walk using wpAny_loadPart' hl
    repeat (first
      | (refine wpAny_ite_true (decide_eq_true (by rw [c1'])) ?_; wp_walk using wpAny_loadPart' hl))
    exact ⟨_, rfl, h⟩

def rRep01 (K : PySem.W.Frag) : R2 := fun x y H Q => ∃ l xs, x = .ref l ∧ SqT K H l xs ∧ xs ≠ [] ∧ ((y = .int 0 ∧ ∀ p, H p = none → Q (.ref p) (upd H p (.tup []))) ∨ (y = .int 1 ∧ Q (.ref l) H))
theorem op_rep01 : OpR X (binaryOp .Mult) (rRep01 X.K) := by
  intro pins s σ H vx vy v u Q I rx ry hh
  obtain ⟨l, xs, rfl, hT, hne, hh⟩ := hh
  cases rx
  obtain ⟨its, rr, ⟨⟨cls, dd, data, sl⟩, hob, hcl, n, hdt⟩, hsz⟩ := I.tuple hT
  simp only at hcl hdt
  subst hcl hdt
  have hemp : its.toArray.isEmpty = false := by
    cases its with
    | nil => exact absurd (List.eq_nil_of_length_eq_zero (by rw [rr.length]; rfl)) hne
    | cons _ _ => rfl
  rcases hh with ⟨rfl, q⟩ | ⟨rfl, q⟩
  · obtain ⟨t, rfl⟩ := ry
    refine wpAny_binaryOp_repeat_ref (T := "tuple") (U := "int") (by decide) ⟨_, hob, rfl⟩ (fun s' => typeIs_int s' 0 t) noFill_tuple_mul F.fills_int_mul F.slot_int_rmul repeat_tuple F.slot_int_index.lookup
      (call_meets F.slot_int_rmul (typeIs_int s 0 t) F.entry_int_rmul (F.args_int_rmul_2 _ _) (int_rmul_tuple 0 t l its.toArray n dd sl)
        ⟨hob, rfl, ⟨_, hob, rfl⟩, call_meets F.slot_tuple_mul ⟨_, hob, rfl⟩ F.entry_tuple_mul (F.args_tuple_mul_2 _ _) (tuple_mul0 l its.toArray n dd sl t hemp) ⟨hob, ?_⟩⟩)
    refine ⟨.ref s.heap.objs.size, _, I.laid (t' := s.toks) (o := .tup []) (fun b ob qq => Heap.get?_push_of_some _ qq) (Nat.le_refl _) ?_, rfl, q _ (I.hok.fresh (Nat.le_refl _))⟩
    exact ⟨Nat.zero_le _, [], .nil, PyProof.Rows.IsTup.new _ _⟩
  · obtain ⟨t, rfl⟩ := ry
    refine wpAny_binaryOp_repeat_ref (T := "tuple") (U := "int") (by decide) ⟨_, hob, rfl⟩ (fun s' => typeIs_int s' 1 t) noFill_tuple_mul F.fills_int_mul F.slot_int_rmul repeat_tuple F.slot_int_index.lookup
      (call_meets F.slot_int_rmul (typeIs_int s 1 t) F.entry_int_rmul (F.args_int_rmul_2 _ _) (int_rmul_tuple 1 t l its.toArray n dd sl)
        ⟨hob, rfl, ⟨_, hob, rfl⟩, call_meets F.slot_tuple_mul ⟨_, hob, rfl⟩ F.entry_tuple_mul (F.args_tuple_mul_2 _ _) (tuple_mul1 l its.toArray n dd sl t) ⟨hob, ?_⟩⟩)
    exact ⟨.ref l, H, I.tok _, rfl, q⟩
def repT : D → D → Option D
  | .tuple ds, .int k => if ds.isEmpty = true then none else if k = 0 then some (.tuple []) else if k = 1 then some (.tuple ds) else none
  | _, _ => none
theorem opD_repT : OpD K (rRep01 K) repT := by
  intro W c σ H F ρ x y a b d Q ok rx ry e q
  unfold repT at e
  split at e
  · rename_i ds k
    obtain ⟨p, vs, rfl, hp, dp⟩ := Pk.tup ok.sub rx
    by_cases he : ds.isEmpty = true
    · rw [if_pos he] at e; cases e
    · rw [if_neg he] at e
      have hne : vs ≠ [] := fun z => by
        subst z
        cases dp
        exact he rfl
      by_cases h0 : k = 0
      · rw [if_pos h0] at e
        cases e
        subst h0
        exact ⟨p, vs, rfl, hp, hne, .inl ⟨ry.int, fun l hl => new_tup ok .nil q l hl⟩⟩
      · rw [if_neg h0] at e
        by_cases h1 : k = 1
        · rw [if_pos h1] at e
          cases e
          subst h1
          refine ⟨p, vs, rfl, hp, hne, .inr ⟨ry.int, ?_⟩⟩
          rcases rx with rx | ⟨_, _, _, _, e, _⟩
          · exact post_ok q ok _ rx
          · cases e
        · rw [if_neg h1] at e
          cases e
  · cases e
/-- a list by an int -/
theorem DpAll.rep {vs : List V} {ds : List D} (h : DpAll K F vs ds) : ∀ k : Nat, DpAll K F (List.replicate k vs).flatten (List.replicate k ds).flatten
  | 0 => .nil
  | k + 1 => by
    rw [List.replicate_succ, List.replicate_succ, List.flatten_cons, List.flatten_cons]
    exact DpAll.append h (DpAll.rep h k)
def repLD : D → D → Option (List D)
  | .list ds, .int k => if (decide (k.natAbs < 9223372036854775808) && fit (ds.length * k.toNat)) = true then some (List.replicate k.toNat ds).flatten else none
  | _, _ => none
/-- [..] * k: the list is a display -/
def mRepN (ms : M (List D)) (mk : M D) : M (List D) := mBind ms fun ds => mBind (mLift (if fit ds.length = true then some ds else none)) fun ds => mBind mk fun k => mLift (repLD (.list ds) k)
theorem ok_unput {p : Addr} {o : HO} (ok : Ok K (c.put p o) σ H F ρ) (hp : c.pr p = none) : Ok K c σ H F ρ := by
  have nown : ∀ {q : Addr}, (c.put p o).pr q = none → q ≠ p := fun {q} a z => by
    subst z
    have a' : upd c.pr q o q = none := a
    rw [upd_same] at a'; cases a'
  refine ⟨ok.len, ok.sub, ok.ge, ok.fe, ok.keep, fun q e => ?_, fun b u e => ?_, ok.val, fun j es e => ?_, ok.ios, ok.scr, ok.sep⟩
  · obtain ⟨a1, a2, a3, a4⟩ := ok.iod q e
    exact ⟨a1, a2, (upd_ne (nown a3)).symm.trans a3, a4⟩
  · have ne : b ≠ p := fun z => by subst z; rw [hp] at e; cases e
    exact ok.prt b u ((upd_ne ne).trans e)
  · obtain ⟨q, vs, a1, a2, a3, a4, a5, a6⟩ := ok.own j es e
    exact ⟨q, vs, a1, a2, a3, a4, a5, (upd_ne (nown a6)).symm.trans a6⟩
theorem rep_of {ms : M (List D)} {mk : M D} {Q : VK} (h : tN K W (mRepN ms mk) σ H Q) : tOp rRep (tLst (tA K W ms)) (tE K W mk) σ H Q := by
  obtain ⟨c, F, ρ, ok, h⟩ := h
  refine ⟨c, F, ρ, ok, post_mono ?_ (postN_bind h)⟩
  rintro ds H1 F1 _ ⟨ρ1, ok1, s1, h1⟩ xs rx
  obtain ⟨ds', e, h2⟩ := post_lift (postN_bind h1)
  split at e
  · rename_i hf
    cases e
    refine ⟨by rw [DpAll.length rx]; exact fit_le hf, fun p hp => ?_⟩
    obtain ⟨ρ2, ok2, s2, h3⟩ := h2 H1 F1 ok1 (Same.refl F1)
    have hpr := (ok2.new hp).2.2.1
    refine ⟨c.put p (.lst xs), F1, ρ2, ok2.allocP hp, ?_⟩
    have h4 := postN_bind h3
    cases e2 : mk ρ2 with
    | none => rw [e2] at h4; exact h4.elim
    | some r =>
      rw [e2] at h4
      cases r with
      | ex y ρ3 => exact fun cls z H' F' ok' s' r => h4 cls z H' F' (ok_unput ok' hpr) s' r
      | ok kd ρ3 =>
        intro H' F' ok' s' kv rk
        obtain ⟨ρ4, ok4, s4, h5⟩ := h4 H' F' (ok_unput ok' hpr) s'
        obtain ⟨out, e3, h6⟩ := postN_lift h5
        cases kd with
        | int k =>
          cases rk
          unfold repLD at e3
          simp only at e3
          split at e3
          · rename_i hb
            cases e3
            simp only [Bool.and_eq_true] at hb
            refine ⟨p, k, xs, rfl, rfl, (ok'.prt p _ upd_same).1, by have := of_decide_eq_true hb.1; omega, by have := of_decide_eq_true hb.1; omega, by rw [DpAll.length rx]; exact fit_le hb.2, fun l hl => ?_⟩
            exact new_N ok4 (DpAll.rep (DpAll.mono s' rx) k.toNat) h6 l hl
          · cases e3
        | none => cases e3
        | bool _ => cases e3
        | str _ => cases e3
        | list _ => cases e3
        | tuple _ => cases e3
        | dict _ => cases e3
  · cases e
theorem dRepN {es : List Expr} {lp pos : Pos} {b : Expr} {ms : M (List D)} {mk : M D} (ha : PA X es (tA X.K W ms)) (hb : PE X b (tE X.K W mk)) : PE X (.BinOp (.List es lp) .Mult b pos) (tN X.K W (mRepN ms mk)) := PE.imp (pe_op op_rep (pe_lst ha) hb) fun _ _ _ => rep_of
def mulD : D → D → Option D := oOr mulI repT
def rMulA (K : PySem.W.Frag) : R2 := fun x y H Q => rI CMul (fun i j => .int (i * j)) x y H Q ∨ rRep01 K x y H Q
theorem opD_mul : OpD K (rMulA K) mulD := opD_or (opD_Ic cMul_ok fun _ _ _ => .int _) opD_repT
theorem or_mulA : OpR X (binaryOp .Mult) (rMulA X.K) := OpR.or op_mul op_rep01
/-! ### a, b = x, y -/
variable {i j : Nat} {x y : Str} {a b : Expr} {ma mb : M D} {px py pt pos : Pos} {kt k2 : Nat} {pt2 : Pos}
def mParEE (i j : Nat) (ma mb : M D) : M Fl := mBind ma fun a => mBind mb fun b => mBind (mStore i a) fun _ => mBind (mStore j b) fun _ => mDone
theorem parEE_of {Dn : Ends} (h : tS K W (mParEE i j ma mb) Dn σ H) : tPar i j (tCons (tE K W ma) (tCons (tE K W mb) tNil)) Dn σ H := by
  obtain ⟨c, F, ρ, ok, h⟩ := h
  refine ⟨c, F, ρ, ok, post_mono ?_ (postS_bind h)⟩
  rintro d1 H1 F1 _ ⟨ρ1, ok1, s1, h1⟩ v1 r1
  refine ⟨c, F1, ρ1, ok1, post_mono ?_ (postS_bind h1)⟩
  rintro d2 H2 F2 _ ⟨ρ2, ok2, s2, h2⟩ v2 r2
  refine ⟨v1, v2, rfl, ?_⟩
  have h3 := postS_bindG h2
  unfold mStore at h3
  split at h3
  · rename_i hl
    obtain ⟨F3, ρ3, ok3, s3, h4⟩ := h3 _ H2 F2 (ok2.setV hl (Dp.mono s2 r1)) (Same.refl F2)
    have h5 := postS_bindG h4
    unfold mStore at h5
    split at h5
    · rename_i hl2
      obtain ⟨F4, ρ4, ok4, s4, h6⟩ := h5 _ H2 F3 (ok3.setV hl2 (Dp.mono s3 r2)) (Same.refl F3)
      exact h6 _ _ _ ok4 (Same.refl F4)
    · exact h5.elim
  · exact h3.elim
theorem dParEE (hc : X.calm = true) (hN : X.N.Nodup) (hij : i ≠ j) (ha : PE X a (tE X.K W ma)) (hb : PE X b (tE X.K W mb)) (hi : X.N[i]? = some x := by rfl) (hj : X.N[j]? = some y := by rfl)
    (hx : X.env.scope.names.lookup x = some .local := by rfl) (hy : X.env.scope.names.lookup y = some .local := by rfl)
    (hw : swappedStores [.Tuple [.Name x px, .Name y py] kt pt] (.Tuple [a, b] k2 pt2) X.env = pure (some [x, y]) := by rfl)
    (hs : swapsWithSole [.Tuple [.Name x px, .Name y py] kt pt] (.Tuple [a, b] k2 pt2) pos.line X.env = pure false := by rfl)
    (hs1 : starEach [a, b] X.env = (false, eval a X.env) :: starEach [b] X.env := by rfl) (hs2 : starEach [b] X.env = (false, eval b X.env) :: starEach [] X.env := by rfl) :
    PS X (.Assign [.Tuple [.Name x px, .Name y py] kt pt] (.Tuple [a, b] k2 pt2) pos) (tS X.K W (mParEE i j ma mb)) :=
  PS.imp (ps_par hc hN hi hj hij hx hy (pa_cons ha (pa_cons hb pa_nil hs2) hs1) hw hs) fun _ _ _ => parEE_of
/-- .. the second a new list -/
def mParEN (i j : Nat) (ma : M D) (mb : M (List D)) : M Fl := mBind ma fun a => mBind mb fun b => mBind (mStore i a) fun _ => mBind (mStoreO j b) fun _ => mDone
theorem parEN_of {mn : M (List D)} {Dn : Ends} (h : tS K W (mParEN i j ma mn) Dn σ H) : tPar i j (tCons (tE K W ma) (tCons (tN K W mn) tNil)) Dn σ H := by
  obtain ⟨c, F, ρ, ok, h⟩ := h
  refine ⟨c, F, ρ, ok, post_mono ?_ (postS_bind h)⟩
  rintro d1 H1 F1 _ ⟨ρ1, ok1, s1, h1⟩ v1 r1
  refine ⟨c, F1, ρ1, ok1, ?_⟩
  unfold mBind at h1
  cases e : mn ρ1 with
  | none => rw [e] at h1; exact h1.elim
  | some r =>
    rw [e] at h1
    cases r with
    | ex y ρ' => exact fun cls z H' F' ok s r => h1 σ cls z H' F' ok s r
    | ok out ρ2 =>
      intro p xs H' F' ok' hp s' rx
      refine ⟨v1, .ref p, rfl, ?_⟩
      have h2 : postS K W c F1 Dn (mBind (mStore i d1) (fun _ => mBind (mStoreO j out) fun _ => mDone) ρ2) := h1
      have h3 := postS_bindG h2
      unfold mStore at h3
      split at h3
      · rename_i hl
        have okA := ok'.setV hl (Dp.mono s' r1)
        have h4 : postS K W c F1 Dn (mBind (mStoreO j out) (fun _ => mDone) (ρ2.set i (.val d1))) := by
          unfold mBind mStore at h2
          simp only [if_pos hl] at h2
          exact h2
        have h5 := postS_bindG h4
        unfold mStoreO at h5
        split at h5
        · rename_i hl2
          obtain ⟨F4, ρ4, ok4, s4, h6⟩ := h5 _ H' F' (okA.ownP hp rx hl2) s'
          exact h6 _ _ _ ok4 (Same.refl F4)
        · exact h5.elim
      · exact h3.elim
theorem dParEN {mn : M (List D)} (hc : X.calm = true) (hN : X.N.Nodup) (hij : i ≠ j) (ha : PE X a (tE X.K W ma)) (hb : PE X b (tN X.K W mn)) (hi : X.N[i]? = some x := by rfl) (hj : X.N[j]? = some y := by rfl)
    (hx : X.env.scope.names.lookup x = some .local := by rfl) (hy : X.env.scope.names.lookup y = some .local := by rfl)
    (hw : swappedStores [.Tuple [.Name x px, .Name y py] kt pt] (.Tuple [a, b] k2 pt2) X.env = pure (some [x, y]) := by rfl)
    (hs : swapsWithSole [.Tuple [.Name x px, .Name y py] kt pt] (.Tuple [a, b] k2 pt2) pos.line X.env = pure false := by rfl)
    (hs1 : starEach [a, b] X.env = (false, eval a X.env) :: starEach [b] X.env := by rfl) (hs2 : starEach [b] X.env = (false, eval b X.env) :: starEach [] X.env := by rfl) :
    PS X (.Assign [.Tuple [.Name x px, .Name y py] kt pt] (.Tuple [a, b] k2 pt2) pos) (tS X.K W (mParEN i j ma mn)) :=
  PS.imp (ps_par hc hN hi hj hij hx hy (pa_cons ha (pa_cons hb pa_nil hs2) hs1) hw hs) fun _ _ _ => parEN_of
/-- a new list, written -/
theorem dLstN {es : List Expr} {ms : M (List D)} {pos : Pos} (h : PA X es (tA X.K W ms)) : PE X (.List es pos) (tN X.K W (mBind ms fun ds => mLift (if fit ds.length = true then some ds else none))) := PE.imp (pe_lst h) (by
  rintro σ H Q ⟨c, F, ρ, ok, h⟩
  refine ⟨c, F, ρ, ok, post_mono ?_ (postN_bind h)⟩
  rintro ds H1 F1 _ ⟨ρ1, ok1, s1, h1⟩ xs rx
  obtain ⟨d, e, h2⟩ := postN_lift h1
  split at e
  · rename_i hf
    cases e
    exact ⟨by rw [DpAll.length rx]; exact fit_le hf, fun p hp => new_N ok1 rx h2 p hp⟩
  · cases e)
end
/-! ### calls, in short -/
section
variable {X : Cx} {W : WX} {k n : Nat} {f : Addr} {fd : FuncData} {ps : List Str} {x : Str} {p pos : Pos} {e : Expr} {es : List Expr} {ms : M (List D)}
theorem dCallV {g : List D → Option (Rs D)} (F : FnOk X.prog X.w X.K X.mg X.base (L2.CX X.prog X.w) k f fd ps (spV X.K n g)) (hr : Room k X.A) (hm : X.mg x = some (.ref f)) (hk : PySem.W.keepIn X.K (.ref f) = true) (hb : Binds X.K fd ps []) (tk : Takes X W)
    (ha : PA X (e :: es) (tA X.K W ms)) (hg : Gl X x := by rfl) (hdb : (x == ("__debug__" : Str)) = false := by decide) (he : starEach (e :: es) X.env = (false, eval e X.env) :: starEach es X.env := by rfl) (hpl : (backTo pos (starEach es X.env)).any (·.1) = false := by rfl) :
    PE X (.Call (.Name x p) (e :: es) [] pos) (tE X.K W (mCallV n g ms)) := PE.imp (pe_callS F hr hg hm hk hb (fun σ => passAt tk σ) ha hdb he hpl) fun _ _ _ => callV_of
theorem dCallB {i : Nat} {g : List D → List D → Option (Rs D × List D)} (F : FnOk X.prog X.w X.K X.mg X.base (L2.CX X.prog X.w) k f fd ps (spB X.K n g)) (hr : Room k X.A) (hm : X.mg x = some (.ref f)) (hk : PySem.W.keepIn X.K (.ref f) = true) (hb : Binds X.K fd ps []) (tk : Takes X W)
    (h1 : PE X e (tVar i)) (ha : PA X es (tA X.K W ms)) (hg : Gl X x := by rfl) (hdb : (x == ("__debug__" : Str)) = false := by decide) (he : starEach (e :: es) X.env = (false, eval e X.env) :: starEach es X.env := by rfl) (hpl : (backTo pos (starEach es X.env)).any (·.1) = false := by rfl) :
    PE X (.Call (.Name x p) (e :: es) [] pos) (tE X.K W (mCallB i n g ms)) := PE.imp (pe_callS F hr hg hm hk hb (fun σ => passAt tk σ) (pa_cons h1 ha he) hdb he hpl) fun _ _ _ => callB_of
theorem dCallSt {i j : Nat} {y : Str} {pos' spos : Pos} {g : List Int → List D → Option (Rs (List D))} (F : FnOk X.prog X.w X.K X.mg X.base (L2.CX X.prog X.w) k f fd ps (spS X.K n g)) (hr : Room k X.A) (hm : X.mg x = some (.ref f)) (hk : PySem.W.keepIn X.K (.ref f) = true) (hb : Binds X.K fd ps []) (tk : Takes X W) (hN : X.N.Nodup)
    (h1 : PE X e (tVar j)) (ha : PA X es (tA X.K W ms)) (hg : Gl X x := by rfl) (hdb : (x == ("__debug__" : Str)) = false := by decide) (he : starEach (e :: es) X.env = (false, eval e X.env) :: starEach es X.env := by rfl) (hpl : (backTo pos (starEach es X.env)).any (·.1) = false := by rfl)
    (hi : X.N[i]? = some y := by rfl) (hx : Loc X.env.scope y := by first | exact Or.inl rfl | exact Or.inr rfl)
    (hs : swapsWith (.Call (.Name x p) (e :: es) [] pos) (some (.Name y pos')) spos.line X.env = pure false := by rfl)
    (hf : X.fn y = true ∨ X.env.scope.names.lookup y = some .local := by first | exact .inl rfl | exact .inr rfl) :
    PS X (.Assign [.Name y pos'] (.Call (.Name x p) (e :: es) [] pos) spos) (tS X.K W (mAsgS i j n g ms)) := PS.imp (ps_set hN hi hx (pe_callS F hr hg hm hk hb (fun σ => passAt tk σ) (pa_cons h1 ha he) hdb he hpl) hs hf) fun _ _ _ => asgS_of
end
theorem hCX0 {P : Program} {w : World} {H : Hp} {s : Shared} {e : Value} {s' : Shared} (h : L2.CX P w [] H s (fun _ _ _ => False) e s') : False := by
  obtain ⟨_, _, _, _, _, _, _, _, _, _, _, _, z⟩ := h
  exact z
theorem b_len : bootBuiltins "len" = some (.builtin "len") := by decide +kernel
theorem b_int : bootBuiltins "int" = some (.type "int") := by decide +kernel
theorem b_bool : bootBuiltins "bool" = some (.type "bool") := by decide +kernel
theorem b_str : bootBuiltins "str" = some (.type "str") := by decide +kernel
theorem b_tuple : bootBuiltins "tuple" = some (.type "tuple") := by decide +kernel
theorem b_list : bootBuiltins "list" = some (.type "list") := by decide +kernel
theorem b_dict : bootBuiltins "dict" = some (.type "dict") := by decide +kernel
theorem b_sum : bootBuiltins "sum" = some (.builtin "sum") := by decide +kernel
theorem b_all : bootBuiltins "all" = some (.builtin "all") := by decide +kernel
theorem b_any : bootBuiltins "any" = some (.builtin "any") := by decide +kernel
theorem b_min : bootBuiltins "min" = some (.builtin "min") := by decide +kernel
theorem b_max : bootBuiltins "max" = some (.builtin "max") := by decide +kernel
theorem b_repr : bootBuiltins "repr" = some (.builtin "repr") := by decide +kernel
theorem b_sorted : bootBuiltins "sorted" = some (.builtin "sorted") := by decide +kernel
theorem i_int : isiOk "int" = true := by decide +kernel
theorem i_bool : isiOk "bool" = true := by decide +kernel
theorem i_str : isiOk "str" = true := by decide +kernel
theorem i_tuple : isiOk "tuple" = true := by decide +kernel
theorem i_list : isiOk "list" = true := by decide +kernel
theorem i_dict : isiOk "dict" = true := by decide +kernel
end Dd

namespace Dd
open PySem PySem.Spec L2
def gsNil : List D → M Unit
  | [] => mPure ()
  | _ => mStuck
def mLstN (ms : M (List D)) : M (List D) := mBind ms fun ds => mLift (if fit ds.length = true then some ds else none)
section
variable {X : Cx} {W : WX} {K : PySem.W.Frag}
theorem dgsNil2 : PGs X [] (tGs X.K W gsNil) := PGs.imp pgs_nil (by
  rintro vs σ H Q ⟨c, F, ρ, ds, ok, r, h⟩
  cases r with
  | nil => exact ⟨rfl, h σ H F ok (Same.refl F)⟩
  | cons _ _ => exact h.elim)
def insD : List D → List D → Option (List D × D)
  | ds, [.int i, d] => if (fit ds.length && decide (0 ≤ i) && decide (i.natAbs < 9223372036854775808)) = true then some (ds.take i.toNat ++ [d] ++ ds.drop i.toNat, .none) else none
  | _, _ => none
def rIns : V → List V → Hp → VK → Prop := fun x vs H Q => ∃ (l : Addr) (xs : List V) (i : Int) (y : V), x = .ref l ∧ vs = [.int i, y] ∧ H l = some (.lst xs) ∧ xs.length < sizeLine ∧ 0 ≤ i ∧ i < 2 ^ 63 ∧ Q .non (upd H l (.lst (xs.take i.toNat ++ [y] ++ xs.drop i.toNat)))
theorem mut_ins : MutD K rIns insD := by
  intro H F l xs vs ds as ds' d Q s hF hl hx hv e k
  unfold insD at e
  split at e
  · rename_i i y
    split at e
    · rename_i hb
      cases e
      simp only [Bool.and_eq_true] at hb
      cases hv with
      | cons h t =>
        cases t with
        | cons h' t' =>
          cases t'
          cases h
          exact ⟨l, xs, i, _, rfl, rfl, hl, by rw [DpAll.length hx]; exact fit_lt hb.1.1, of_decide_eq_true hb.1.2, by have := of_decide_eq_true hb.2; omega, k _ _ (DpAll.append (DpAll.append (DpAll.take _ hx) (.one h')) (DpAll.drop _ hx)) .non⟩
    · cases e
  · cases e
theorem opD_addI : OpD K (rI0 fun i j => .int (i + j)) (iI fun i j => .int (i + j)) := opD_I fun _ _ _ => .int _
end
end Dd

namespace Dd
open PySem PySem.Spec L2
/-! ### a def by its body, its scope and its statements spelled out -/
section
variable {P : Program} {w : World} {K : PySem.W.Frag} {mg : Str → Option Value} {base : Heap} {x qual : Str} {st : Stmt} {f : Addr} {fd : FuncData} {N ps : List Str} {k : Nat} {m : M Fl} {sc : Scope} {bd : List Stmt}
abbrev BodyL (P : Program) (w : World) (K : PySem.W.Frag) (mg : Str → Option Value) (base : Heap) (qual : Str) (sc : Scope) (bd : List Stmt) (f : Addr) (N : List Str) (k : Nat) (m : M Fl) : Prop :=
  ∀ (cdv : Value) (A : Around) (outer : List Env) (s : Shared) (H : Hp) (E : XK), Room k (A.deeper (PyProof.Rows.envOfC qual sc s.heap.objs.size f cdv)) →
    PSs (cxOf (L2.CX P w) P w K mg base N qual sc f cdv A outer s H E) bd (tS K (fun cls d _ H => E cls d H) m)
theorem okV2 (Fn : Fun K x qual st f fd) (S : FnScope N ps (defScope st)) (h1 : defScope st = sc) (h2 : defBody st = bd) (hb : BodyL P w K mg base qual sc bd f N k m) : FnOk P w K mg base (L2.CX P w) (k + 1) f fd ps (spV K ps.length (runV m N.length)) := by
  subst h1 h2
  exact okV Fn S hb
theorem okF2 (Fn : Fun K x qual st f fd) (S : FnScope N ps (defScope st)) (h1 : defScope st = sc) (h2 : defBody st = bd) (hb : BodyL P w K mg base qual sc bd f N k m) : FnOk P w K mg base (L2.CX P w) (k + 1) f fd ps (spF K ps.length (runF m N.length)) := by
  subst h1 h2
  exact okF Fn S hb
theorem okB2 (Fn : Fun K x qual st f fd) (S : FnScope N ps (defScope st)) (h1 : defScope st = sc) (h2 : defBody st = bd) (hb : BodyL P w K mg base qual sc bd f N k m) : FnOk P w K mg base (L2.CX P w) (k + 1) f fd ps (spB K ps.length (runB m N.length)) := by
  subst h1 h2
  exact okB Fn S hb
theorem okS2 (Fn : Fun K x qual st f fd) (S : FnScope N ps (defScope st)) (h1 : defScope st = sc) (h2 : defBody st = bd) (hb : BodyL P w K mg base qual sc bd f N k m) : FnOk P w K mg base (L2.CX P w) (k + 1) f fd ps (spS K ps.length (runS m N.length)) := by
  subst h1 h2
  exact okS Fn S hb
theorem okL2 (Fn : Fun K x qual st f fd) (hps : ps.length = 1) (S : FnScope N ps (defScope st)) (h1 : defScope st = sc) (h2 : defBody st = bd) (hb : BodyL P w K mg base qual sc bd f N k m) : FnOk P w K mg base (L2.CX P w) (k + 1) f fd ps (spL K (runL m N.length)) := by
  subst h1 h2
  exact okL Fn hps S hb
end
end Dd

namespace Dd
open PySem PySem.Spec L2
/-! ### reasoning about runs -/
theorem bind_is {α β : Type} {m : M α} {f : α → M β} {ρ ρ' : En} {a : α} (h : m ρ = some (.ok a ρ')) : mBind m f ρ = f a ρ' := by
  unfold mBind; rw [h]
theorem seq_nx {m1 m2 : M Fl} {ρ ρ' : En} (h : m1 ρ = some (.ok .nx ρ')) : mSeq m1 m2 ρ = m2 ρ' := bind_is h
/-- a loop by an invariant over its turns; no turn leaves it -/
theorem forL_ix {g : D → M Unit} {body : M Fl} (P : Nat → En → Prop) : ∀ (ds : List D) (i : Nat) (ρ : En), P i ρ →
    (∀ j d ρ, ds[j]? = some d → P (i + j) ρ → ∃ ρ1 ρ2, g d ρ = some (.ok () ρ1) ∧ (body ρ1 = some (.ok .nx ρ2) ∨ body ρ1 = some (.ok .ct ρ2)) ∧ P (i + j + 1) ρ2) →
    ∃ ρ', mForL g body ds ρ = some (.ok .nx ρ') ∧ P (i + ds.length) ρ'
  | [], i, ρ, p, _ => ⟨ρ, rfl, p⟩
  | d :: ds, i, ρ, p, h => by
    obtain ⟨ρ1, ρ2, e1, e2, p2⟩ := h 0 d ρ rfl p
    obtain ⟨ρ', e3, p3⟩ := forL_ix P ds (i + 1) ρ2 p2 fun j d' ρ' e q => by
      obtain ⟨a, b, c1, c2, c3⟩ := h (j + 1) d' ρ' (by simpa using e) (by rw [show i + (j + 1) = i + 1 + j from by omega]; exact q)
      exact ⟨a, b, c1, c2, by rw [show i + 1 + j + 1 = i + (j + 1) + 1 from by omega]; exact c3⟩
    refine ⟨ρ', ?_, by rw [List.length_cons, show i + (ds.length + 1) = i + 1 + ds.length from by omega]; exact p3⟩
    unfold mForL
    rw [bind_is e1]
    rcases e2 with e2 | e2 <;> (rw [bind_is e2]; exact e3)
theorem forL_inv {g : D → M Unit} {body : M Fl} (P : En → Prop) (ds : List D) (ρ : En) (p : P ρ)
    (h : ∀ d ρ, d ∈ ds → P ρ → ∃ ρ1 ρ2, g d ρ = some (.ok () ρ1) ∧ (body ρ1 = some (.ok .nx ρ2) ∨ body ρ1 = some (.ok .ct ρ2)) ∧ P ρ2) :
    ∃ ρ', mForL g body ds ρ = some (.ok .nx ρ') ∧ P ρ' := by
  obtain ⟨ρ', e, q⟩ := forL_ix (fun _ => P) ds 0 ρ p fun j d ρ e q => h d ρ (List.mem_of_getElem? e) q
  exact ⟨ρ', e, q⟩
/-- a comprehension whose turns leave the slots as they were -/
theorem go_filter {vs : List Nat} {g : D → M Unit} {tt : M Bool} {te : M D} {ρ : En} {p : D → Bool} {f : D → D} : ∀ (ds : List D),
    (∀ d ∈ ds, ∃ ρ1 ρ2, g d ρ = some (.ok () ρ1) ∧ tt ρ1 = some (.ok (p d) ρ2) ∧ (p d = true → ∃ ρ3, te ρ2 = some (.ok (f d) ρ3) ∧ unsE ρ3 vs = ρ) ∧ (p d = false → unsE ρ2 vs = ρ)) →
    mGo vs g tt te ds ρ = some (.ok ((ds.filter p).map f) ρ)
  | [], _ => rfl
  | d :: ds, h => by
    obtain ⟨ρ1, ρ2, e1, e2, h3, h4⟩ := h d List.mem_cons_self
    have ih := go_filter (vs := vs) (g := g) (tt := tt) (te := te) ds fun d' h' => h d' (List.mem_cons_of_mem _ h')
    unfold mGo
    rw [bind_is e1, bind_is e2]
    cases q : p d with
    | true =>
      obtain ⟨ρ3, e3, e4⟩ := h3 q
      rw [if_pos rfl]
      have e5 : (mBind te fun y => mPure [y]) ρ2 = some (.ok [f d] ρ3) := by rw [bind_is e3]; rfl
      rw [bind_is e5]
      have e6 : mUn_ vs ρ3 = some (.ok () ρ) := by unfold mUn_; rw [e4]
      rw [bind_is e6, bind_is ih, List.filter_cons_of_pos q]; rfl
    | false =>
      rw [if_neg (by decide)]
      have e5 : (mPure ([] : List D)) ρ2 = some (.ok [] ρ2) := rfl
      rw [bind_is e5]
      have e6 : mUn_ vs ρ2 = some (.ok () ρ) := by unfold mUn_; rw [h4 q]
      rw [bind_is e6, bind_is ih, List.filter_cons_of_neg (by rw [q]; decide)]; rfl
theorem go_map {vs : List Nat} {g : D → M Unit} {te : M D} {ρ : En} {f : D → D} (ds : List D)
    (h : ∀ d ∈ ds, ∃ ρ1 ρ3, g d ρ = some (.ok () ρ1) ∧ te ρ1 = some (.ok (f d) ρ3) ∧ unsE ρ3 vs = ρ) :
    mGo vs g (mPure true) te ds ρ = some (.ok (ds.map f) ρ) := by
  have q := go_filter (vs := vs) (g := g) (tt := mPure true) (te := te) (ρ := ρ) (p := fun _ => true) (f := f) ds fun d hd => by
    obtain ⟨ρ1, ρ3, e1, e2, e3⟩ := h d hd
    exact ⟨ρ1, ρ1, e1, rfl, fun _ => ⟨ρ3, e2, e3⟩, fun z => by cases z⟩
  rw [q, List.filter_eq_self.mpr (fun _ _ => rfl)]
theorem comp_is {vs : List Nat} {mi : M (List D)} {g : D → M Unit} {tt : M Bool} {te : M D} {ρ ρ1 ρe : En} {ds out : List D} (h1 : mi ρ = some (.ok ds ρ1)) (h2 : fit ds.length = true) (h3 : mGo vs g tt te ds (unsE ρ1 vs) = some (.ok out ρe)) :
    mComp vs mi g tt te ρ = some (.ok out (unsE ρe vs)) := by
  unfold mComp
  rw [bind_is h1]
  unfold mRest
  rw [h3]
  simp only [if_pos h2]
theorem atI_nat' {α : Type} {xs : List α} {i : Int} {v : α} (h0 : 0 ≤ i) (h : xs[i.toNat]? = some v) : atI xs i = some v := by
  have := atI_nat h
  rwa [Int.toNat_of_nonneg h0] at this
theorem rngL_mem {lo hi : Int} {d : D} (h : d ∈ rngL lo hi) : ∃ i : Int, d = .int i ∧ lo ≤ i ∧ i < hi := by
  obtain ⟨i, e⟩ := List.getElem?_of_mem h
  obtain ⟨e1, e2⟩ := rngL_get e
  exact ⟨_, e1, by omega, by omega⟩
def isiS (T t : String) : Bool := match kitB t T with
  | some b => b
  | none => false
theorem isiT_eq {T : String} {d : D} : isiT T d = isiS T (typD d) := rfl
theorem isi_int_NoneType : isiS "int" "NoneType" = false := by decide +kernel
theorem isi_int_bool : isiS "int" "bool" = true := by decide +kernel
theorem isi_int_int : isiS "int" "int" = true := by decide +kernel
theorem isi_int_str : isiS "int" "str" = false := by decide +kernel
theorem isi_int_list : isiS "int" "list" = false := by decide +kernel
theorem isi_int_tuple : isiS "int" "tuple" = false := by decide +kernel
theorem isi_int_dict : isiS "int" "dict" = false := by decide +kernel
theorem isi_bool_NoneType : isiS "bool" "NoneType" = false := by decide +kernel
theorem isi_bool_bool : isiS "bool" "bool" = true := by decide +kernel
theorem isi_bool_int : isiS "bool" "int" = false := by decide +kernel
theorem isi_bool_str : isiS "bool" "str" = false := by decide +kernel
theorem isi_bool_list : isiS "bool" "list" = false := by decide +kernel
theorem isi_bool_tuple : isiS "bool" "tuple" = false := by decide +kernel
theorem isi_bool_dict : isiS "bool" "dict" = false := by decide +kernel
theorem isi_str_NoneType : isiS "str" "NoneType" = false := by decide +kernel
theorem isi_str_bool : isiS "str" "bool" = false := by decide +kernel
theorem isi_str_int : isiS "str" "int" = false := by decide +kernel
theorem isi_str_str : isiS "str" "str" = true := by decide +kernel
theorem isi_str_list : isiS "str" "list" = false := by decide +kernel
theorem isi_str_tuple : isiS "str" "tuple" = false := by decide +kernel
theorem isi_str_dict : isiS "str" "dict" = false := by decide +kernel
theorem isi_list_NoneType : isiS "list" "NoneType" = false := by decide +kernel
theorem isi_list_bool : isiS "list" "bool" = false := by decide +kernel
theorem isi_list_int : isiS "list" "int" = false := by decide +kernel
theorem isi_list_str : isiS "list" "str" = false := by decide +kernel
theorem isi_list_list : isiS "list" "list" = true := by decide +kernel
theorem isi_list_tuple : isiS "list" "tuple" = false := by decide +kernel
theorem isi_list_dict : isiS "list" "dict" = false := by decide +kernel
theorem isi_tuple_NoneType : isiS "tuple" "NoneType" = false := by decide +kernel
theorem isi_tuple_bool : isiS "tuple" "bool" = false := by decide +kernel
theorem isi_tuple_int : isiS "tuple" "int" = false := by decide +kernel
theorem isi_tuple_str : isiS "tuple" "str" = false := by decide +kernel
theorem isi_tuple_list : isiS "tuple" "list" = false := by decide +kernel
theorem isi_tuple_tuple : isiS "tuple" "tuple" = true := by decide +kernel
theorem isi_tuple_dict : isiS "tuple" "dict" = false := by decide +kernel
theorem isi_dict_NoneType : isiS "dict" "NoneType" = false := by decide +kernel
theorem isi_dict_bool : isiS "dict" "bool" = false := by decide +kernel
theorem isi_dict_int : isiS "dict" "int" = false := by decide +kernel
theorem isi_dict_str : isiS "dict" "str" = false := by decide +kernel
theorem isi_dict_list : isiS "dict" "list" = false := by decide +kernel
theorem isi_dict_tuple : isiS "dict" "tuple" = false := by decide +kernel
theorem isi_dict_dict : isiS "dict" "dict" = true := by decide +kernel
theorem toBools_mapf {α : Type} (p : α → Bool) : ∀ (ds : List α), toBools (ds.map fun x => PyData.bool (p x)) = some (ds.map p)
  | [] => rfl
  | d :: ds => by
    show (toBools (ds.map fun x => PyData.bool (p x))).map (p d :: ·) = _
    rw [toBools_mapf p ds]; rfl
theorem allD_mapf {α : Type} (p : α → Bool) (ds : List α) : allD [.list (ds.map fun x => PyData.bool (p x))] = some (.bool (ds.all p)) := by
  show (toBools (ds.map fun x => PyData.bool (p x))).map _ = _
  rw [toBools_mapf]
  show some (PyData.bool ((ds.map p).all id)) = _
  rw [List.all_map]; rfl
theorem anyD_mapf {α : Type} (p : α → Bool) (ds : List α) : anyD [.list (ds.map fun x => PyData.bool (p x))] = some (.bool (ds.any p)) := by
  show (toBools (ds.map fun x => PyData.bool (p x))).map _ = _
  rw [toBools_mapf]
  show some (PyData.bool ((ds.map p).any id)) = _
  rw [List.any_map]; rfl
theorem sh_int (i : Int) : SeqAt.shaped (.int i) = true := by simp [SeqAt.shaped, PyData.canLay0, PyData.depth]
theorem sh_bool (i : Bool) : SeqAt.shaped (.bool i) = true := by simp [SeqAt.shaped, PyData.canLay0, PyData.depth]
theorem sh_none : SeqAt.shaped .none = true := by simp [SeqAt.shaped, PyData.canLay0, PyData.depth]
theorem eq_int (i j : Int) : eqD (.int i) (.int j) = some (.bool (decide (i = j))) := by
  have e : PyData.eqv (.int i) (.int j) = decide (i = j) := by
    simp only [PyData.eqv]
    by_cases h : i = j <;> simp [h]
  simp [eqD, sh_int, e]
theorem ne_int (i j : Int) : neD (.int i) (.int j) = some (.bool (!decide (i = j))) := by
  have e : PyData.eqv (.int i) (.int j) = decide (i = j) := by
    simp only [PyData.eqv]
    by_cases h : i = j <;> simp [h]
  simp [neD, sh_int, e]
/-- data whose lists go at most n deep, all texts laid -/
def Sh (n : Nat) (d : D) : Prop := d.canLay0 = true ∧ d.depth ≤ n
theorem Sh.shaped {n : Nat} {d : D} (h : Sh n d) (hn : n ≤ 64) : SeqAt.shaped d = true := by
  simp only [SeqAt.shaped, Bool.and_eq_true, decide_eq_true_eq]
  exact ⟨h.1, by have := h.2; omega⟩
theorem Sh.mono {n m : Nat} {d : D} (h : Sh n d) (hn : n ≤ m) : Sh m d := ⟨h.1, Nat.le_trans h.2 hn⟩
theorem Sh.int (i : Int) : Sh 0 (.int i) := ⟨by simp [PyData.canLay0], by simp [PyData.depth]⟩
theorem Sh.bool (i : Bool) : Sh 0 (.bool i) := ⟨by simp [PyData.canLay0], by simp [PyData.depth]⟩
theorem Sh.none : Sh 0 .none := ⟨by simp [PyData.canLay0], by simp [PyData.depth]⟩
theorem sh_all {n : Nat} : ∀ {ds : List D}, (∀ d ∈ ds, Sh n d) → PyData.canLayAll0 ds = true ∧ PyData.depthAll ds ≤ n
  | [], _ => ⟨by simp [PyData.canLayAll0], by simp [PyData.depthAll]⟩
  | d :: ds, h => by
    obtain ⟨a, b⟩ := h d List.mem_cons_self
    obtain ⟨a', b'⟩ := sh_all (ds := ds) fun x hx => h x (List.mem_cons_of_mem _ hx)
    refine ⟨by simp only [PyData.canLayAll0, a, a', Bool.and_self], ?_⟩
    simp only [PyData.depthAll]
    omega
theorem Sh.list {n : Nat} {ds : List D} (h : ∀ d ∈ ds, Sh n d) : Sh (n + 1) (.list ds) := by
  obtain ⟨a, b⟩ := sh_all h
  exact ⟨by simp only [PyData.canLay0, a], by simp only [PyData.depth]; omega⟩
theorem Sh.tuple {n : Nat} {ds : List D} (h : ∀ d ∈ ds, Sh n d) : Sh (n + 1) (.tuple ds) := by
  obtain ⟨a, b⟩ := sh_all h
  exact ⟨by simp only [PyData.canLay0, a], by simp only [PyData.depth]; omega⟩
theorem Sh.ints (ns : List Int) : Sh 1 (.list (ns.map PyData.int)) := Sh.list fun d hd => by
  obtain ⟨i, _, rfl⟩ := List.mem_map.mp hd
  exact Sh.int i
theorem eq_sh {n m : Nat} {a b : D} (ha : Sh n a) (hb : Sh m b) (hn : n ≤ 64) (hm : m ≤ 64) : eqD a b = some (.bool (PyData.eqv a b)) := by
  simp [eqD, ha.shaped hn, hb.shaped hm]
theorem ne_sh {n m : Nat} {a b : D} (ha : Sh n a) (hb : Sh m b) (hn : n ≤ 64) (hm : m ≤ 64) : neD a b = some (.bool (!PyData.eqv a b)) := by
  simp [neD, ha.shaped hn, hb.shaped hm]
theorem eqvAll_refl : ∀ (ds : List D), (∀ d ∈ ds, PyData.eqv d d = true) → PyData.eqvAll ds ds = true
  | [], _ => by simp [PyData.eqvAll]
  | d :: ds, h => by
    simp only [PyData.eqvAll, Bool.and_eq_true]
    exact ⟨h d List.mem_cons_self, eqvAll_refl ds fun x hx => h x (List.mem_cons_of_mem _ hx)⟩
/-- repr of truths -/
def reprB (b : Bool) : D := .str (if b then "True" else "False")
theorem repr_bool (b : Bool) : reprD [.bool b] = some (reprB b) := rfl
theorem ne_reprB (a b : Bool) : neD (reprB a) (reprB b) = some (.bool (!decide (a = b))) := by
  have h1 : ∀ b, SeqAt.shaped (reprB b) = true := fun b => by cases b <;> decide +kernel
  have h2 : PyData.eqv (reprB a) (reprB b) = decide (a = b) := by cases a <;> cases b <;> decide +kernel
  simp [neD, h1, h2]
theorem rng2_is {ms : M (List D)} {ρ ρ1 : En} {i j : Int} (h : ms ρ = some (.ok [.int i, .int j] ρ1)) (hi : rngOk i = true) (hj : rngOk j = true) : mRng2 ms ρ = some (.ok (rngL i j) ρ1) := by
  unfold mRng2
  rw [bind_is h]
  have e : rngD2 [.int i, .int j] = some (rngL i j) := by
    show (if (rngOk i && rngOk j) = true then some (rngL i j) else none) = _
    rw [hi, hj]; rfl
  rw [e]; rfl
theorem rng1_is {ms : M (List D)} {ρ ρ1 : En} {j : Int} (h : ms ρ = some (.ok [.int j] ρ1)) (hj : rngOk j = true) : mRng1 ms ρ = some (.ok (rngL 0 j) ρ1) := by
  unfold mRng1
  rw [bind_is h]
  have e : rngD1 [.int j] = some (rngL 0 j) := by
    show (if rngOk j = true then some (rngL 0 j) else none) = _
    rw [hj]; rfl
  rw [e]; rfl
theorem rngOk_le {i : Int} (h0 : -1000000000000 ≤ i) (h1 : i ≤ 1000000000000) : rngOk i = true := by
  unfold rngOk
  exact decide_eq_true (by omega)
end Dd

namespace Dd
open PySem PySem.Spec L2
section
variable {X : Cx} {W : WX} {K : PySem.W.Frag}
/-! ### isinstance by several types -/
inductive TyNs (X : Cx) : List Expr → List String → Prop
  | nil : TyNs X [] []
  | cons {tn : Str} {T : String} {q : Pos} {es : List Expr} {Ts : List String} (h : PE X (.Name tn q) (tC (.ty T))) (hT : isiOk T = true) (r : TyNs X es Ts) (hs : starEach (.Name tn q :: es) X.env = (false, eval (.Name tn q) X.env) :: starEach es X.env) : TyNs X (.Name tn q :: es) (T :: Ts)
theorem tys {tn : Str} {T : String} {q : Pos} {es : List Expr} {Ts : List String} (hmT : X.mg tn = none) (hT : isiOk T = true) (hv : bootBuiltins tn = some (.type T)) (r : TyNs X es Ts) (hgT : Gl X tn := by rfl)
    (hn : tn ≠ "__name__" := by decide) (hdb : (tn == ("__debug__" : Str)) = false := by decide) (hs : starEach (.Name tn q :: es) X.env = (false, eval (.Name tn q) X.env) :: starEach es X.env := by rfl) : TyNs X (.Name tn q :: es) (T :: Ts) :=
  .cons (pe_bltn hgT hmT hv (hn := hn) (hd := hdb) (r := (show RelV (V.ty T) (Value.type T) from rfl))) hT r hs
def tTys (Ts : List String) : TA := fun _ H Q => Q (Ts.map V.ty) H
theorem pa_tys : ∀ {es : List Expr} {Ts : List String}, TyNs X es Ts → PA X es (tTys Ts)
  | _, _, .nil => pa_nil
  | _, _, .cons h _ r hs => pa_cons h (pa_tys r) hs
theorem tys_ok : ∀ {es : List Expr} {Ts : List String}, TyNs X es Ts → ∀ T ∈ Ts, isiOk T = true
  | _, _, .nil, T, h => by cases h
  | _, _, .cons _ hT r _, T, h => by
    rcases List.mem_cons.mp h with rfl | h
    · exact hT
    · exact tys_ok r T h
theorem tys_pair : ∀ Ts : List String, Paired ClsV (Ts.map V.ty) (Ts.map Value.type)
  | [] => .nil
  | T :: Ts => .cons (.ty T) (tys_pair Ts)
def isiA (Ts : List String) (d : D) : Bool := Ts.any fun T => isiT T d
theorem isiA_kit : ∀ {Ts : List String}, (∀ T ∈ Ts, isiOk T = true) → ∀ d : D, PySem.W.kitAny K (.type (typD d)) (Ts.map Value.type) = some (isiA Ts d)
  | [], _, d => kitAny_nil
  | T :: Ts, h, d => by
    refine kitAny_cons (isi_kit (h T List.mem_cons_self) d) (fun e => ?_) fun e => ?_
    · rw [isiA_kit (fun T' h' => h T' (List.mem_cons_of_mem _ h')) d]
      show some (Ts.any fun T => isiT T d) = some ((T :: Ts).any fun T => isiT T d)
      rw [List.any_cons, e, Bool.false_or]
    · show ((T :: Ts).any fun T => isiT T d) = true
      rw [List.any_cons, e, Bool.true_or]
theorem pk_alloc {c : Ct} {σ : St} {H F : Hp} {ρ : En} {x : V} {d : D} {p : Addr} {o : HO} (ok : Ok K c σ H F ρ) (h : H p = none) (r : Pk K H F x d) : Pk K (upd H p o) (upd F p o) x d := by
  have s : Same F (upd F p o) := Same.updN (ok.new h).1
  rcases r with r | ⟨q, vs, ds, rfl, rfl, hq, r⟩
  · exact .inl (Dp.mono s r)
  · exact .inr ⟨q, vs, ds, rfl, rfl, Same.updN h _ _ hq, DpAll.mono s r⟩
def mIsiA (Ts : List String) (m : M D) : M D := mBind m fun d => mPure (.bool (isiA Ts d))
variable {a : Expr} {m : M D} {p pos tpos : Pos} {es : List Expr} {Ts : List String} {k : Nat}
theorem dIsiA (hm : X.mg "isinstance" = none) (ht : TyNs X es Ts) (ha : PE X a (tP X.K W m)) (hl : Ts.length ≤ 100 := by decide) (hg : Gl X "isinstance" := by rfl)
    (hs : starEach [a, .Tuple es k tpos] X.env = (false, eval a X.env) :: starEach [.Tuple es k tpos] X.env := by rfl) (hs2 : starEach [.Tuple es k tpos] X.env = (false, eval (.Tuple es k tpos) X.env) :: starEach [] X.env := by rfl) (hpl : (backTo pos (starEach [.Tuple es k tpos] X.env)).any (·.1) = false := by rfl)
    (hbi : bootBuiltins "isinstance" = some (.builtin "isinstance") := by decide +kernel) : PE X (.Call (.Name "isinstance" p) [a, .Tuple es k tpos] [] pos) (tE X.K W (mIsiA Ts m)) :=
  PE.imp (pe_callB call_isiT hg hm hbi (pa_cons ha (pa_cons (pe_tup (pa_tys ht)) pa_nil hs2) hs) (by decide) (by decide) hs hpl) (by
  rintro σ H Q ⟨c, F, ρ, ok, h⟩
  refine ⟨c, F, ρ, ok, post_mono ?_ (post_bind h)⟩
  rintro d H1 F1 _ ⟨ρ1, ok1, s1, h1⟩ v rv
  show (Ts.map V.ty).length ≤ sizeLine ∧ ∀ q, H1 q = none → rIsiT X.K [v, .ref q] (upd H1 q (.tup (Ts.map V.ty))) Q
  refine ⟨by rw [List.length_map, sizeLine_eq]; omega, fun q hq => ?_⟩
  have ok2 := ok1.alloc (o := .tup (Ts.map V.ty)) hq
  exact ⟨v, q, _, _, _, _, rfl, upd_same, tys_pair Ts, typ_of ok2 (pk_alloc ok1 hq rv), isiA_kit (tys_ok ht) d, h1 _ _ ok2 (Same.updN (ok1.new hq).1) _ (.bl _)⟩)
end
/-! ### a def that calls itself -/
section
variable {P : Program} {w : World} {K : PySem.W.Frag} {mg : Str → Option Value} {base : Heap} {j n : Nat} {f : Addr} {fd : FuncData} {ps : List Str}
theorem okV0 {g : List D → Option (Rs D)} (hg : ∀ ds, g ds = none) : FnOk P w K mg base (L2.CX P w) j f fd ps (spV K n g) := by
  have no : ∀ vs H Q E, ¬ spV K n g vs H Q E := fun vs H Q E h => by
    obtain ⟨F, ds, _, _, _, h⟩ := h
    simp only [hg] at h
  exact ⟨fun vs H Q E h => absurd h (no _ _ _ _), fun A outer s H args us vs Q E _ _ _ _ h => absurd h (no _ _ _ _)⟩
end
end Dd

namespace Dd
open PySem PySem.Spec L2
/-! ### sorted: lists of pairs of ints -/
def leP (p q : Int × Int) : Bool := !SrtO.lexB q p
theorem leP_iff {p q : Int × Int} : leP p q = true ↔ p.1 < q.1 ∨ (p.1 = q.1 ∧ p.2 ≤ q.2) := by
  unfold leP
  rw [Bool.not_eq_true', SrtO.lexB_no]
  omega
/-- sorted(xs), xs a list whose members stand for pairs of ints by R -/
def rSortDP (K : PySem.W.Frag) : List V → Hp → VK → Prop := fun vs H Q => ∃ (R : V → Int × Int → Prop) (a : Addr) (xs : List V) (ps : List (Int × Int)), vs = [V.ref a] ∧ SqL K H a xs ∧ Paired R xs ps ∧ (∀ x p, R x p → ∃ t, x = V.ref t ∧ SqT K H t [.int p.1, .int p.2]) ∧
  ∀ ys qs l, Paired R ys qs → qs.Perm ps → qs.Pairwise (fun p q => leP p q = true) → H l = none → Q (.ref l) (upd H l (.lst ys))
theorem isPair_inj {h : Heap} {v : Value} {a b c d : Int} (p : Srt.IsPair h v a b) (q : Srt.IsPair h v c d) : a = c ∧ b = d := by
  obtain ⟨t, o, t1, t2, n, e, ho, hc, hd⟩ := p
  obtain ⟨t', o', t1', t2', n', e', ho', hc', hd'⟩ := q
  subst e
  cases e'
  rw [ho] at ho'
  cases ho'
  rw [hd] at hd'
  injection hd' with h1 _
  injection h1 with h1
  injection h1 with h2 h3
  injection h3 with h3 _
  injection h2 with h2 _
  injection h3 with h3 _
  exact ⟨h2, h3⟩
open Classical in
noncomputable def pairOf (h : Heap) (u : Value) : Int × Int := if e : ∃ p : Int × Int, Srt.IsPair h u p.1 p.2 then Classical.choose e else (0, 0)
theorem pairOf_is {h : Heap} {u : Value} {p : Int × Int} (e : Srt.IsPair h u p.1 p.2) : pairOf h u = p := by
  have e' : ∃ p : Int × Int, Srt.IsPair h u p.1 p.2 := ⟨p, e⟩
  unfold pairOf
  rw [dif_pos e']
  obtain ⟨a, b⟩ := isPair_inj (Classical.choose_spec e') e
  exact Prod.ext a b
theorem paired_left {α β : Type} {R : α → β → Prop} : ∀ {xs : List α} {ps : List β}, Paired R xs ps → ∀ x ∈ xs, ∃ p, R x p
  | _, _, .nil, x, h => by cases h
  | _, _, .cons r t, x, h => by
    rcases List.mem_cons.mp h with rfl | h
    · exact ⟨_, r⟩
    · exact paired_left t x h
theorem paired_map {α β γ : Type} {R : α → β → Prop} {f : γ → α} {g : γ → β} : ∀ {us : List γ}, (∀ u ∈ us, R (f u) (g u)) → Paired R (us.map f) (us.map g)
  | [], _ => .nil
  | u :: us, h => .cons (h u List.mem_cons_self) (paired_map fun v hv => h v (List.mem_cons_of_mem _ hv))
theorem paired_fn {α β γ : Type} {R : α → β → Prop} {f : γ → α} {g : γ → β} : ∀ {us : List γ} {ps : List β}, Paired R (us.map f) ps → (∀ u ∈ us, ∀ p, R (f u) p → g u = p) → ps = us.map g
  | [], _, .nil, _ => rfl
  | u :: us, _, .cons r t, h => by
    rw [List.map_cons, h u List.mem_cons_self _ r, paired_fn t fun v hv => h v (List.mem_cons_of_mem _ hv)]
section
variable {X : Cx} {K : PySem.W.Frag}
theorem cr_sortDP : CallR X (.builtin "sorted") (rSortDP X.K) := by
  intro pins s σ H vs us Q I r h
  obtain ⟨R, a, xs, ps, rfl, hs, hx, hR, q⟩ := h
  obtain ⟨its, rv, hl, hz⟩ := I.list hs
  obtain ⟨u, rfl, ru⟩ := vals1 r
  obtain rfl : u = Value.ref a := ru
  obtain ⟨e1, e2⟩ := refs_back rv fun x m => by
    obtain ⟨p, hp⟩ := paired_left hx x m
    obtain ⟨t, e, _⟩ := hR x p hp
    exact ⟨t, e⟩
  have isP : ∀ v ∈ its, ∀ p, R (backV v) p → Srt.IsPair s.heap v p.1 p.2 := fun v hv p hp => by
    obtain ⟨t, rfl⟩ := e2 v hv
    obtain ⟨t', e, hT⟩ := hR _ p hp
    cases e
    obtain ⟨its2, r2, ⟨o, ho, hc, n, hd⟩, _⟩ := I.tuple hT
    obtain ⟨u1, u2, rfl, ri, rj⟩ := vals2 r2
    obtain ⟨t1, rfl⟩ := ri
    obtain ⟨t2, rfl⟩ := rj
    exact ⟨t, o, t1, t2, n, rfl, ho, hc, hd⟩
  have hk : ∀ v ∈ its, ∀ p, R (backV v) p → pairOf s.heap v = p := fun v hv p hp => pairOf_is (isP v hv p hp)
  have hg : ∀ v ∈ its, R (backV v) (pairOf s.heap v) := fun v hv => by
    have hm : backV v ∈ xs := by rw [e1]; exact List.mem_map.mpr ⟨_, hv, rfl⟩
    obtain ⟨p, hp⟩ := paired_left hx _ hm
    rw [hk v hv p hp]; exact hp
  have hps : ps = its.map (pairOf s.heap) := by
    rw [e1] at hx
    exact paired_fn hx hk
  refine SrtO.sorted_pairsO (k := pairOf s.heap) hl.isList (by rw [← rv.length]; exact hz) (fun v hv => isP v hv _ (hg v hv)) fun h' d out h1 h2 kp hd hn => ?_
  have h3 : ∀ u ∈ out, ∃ a, u = Value.ref a := fun u hu => e2 u (h2.perm.mem_iff.mp hu)
  obtain ⟨n, hn⟩ := hn
  refine ⟨.ref d, upd H d (.lst (out.map backV)), I.laid (t' := s.toks) kp hd ⟨?_, out, n, vals_back h3, hn⟩, rfl, q _ (out.map (pairOf s.heap)) d (paired_map fun u hu => hg u (h2.perm.mem_iff.mp hu)) ?_ ?_ (I.hok.fresh hd)⟩
  · rw [List.length_map, h2.perm.length_eq, ← rv.length]
    exact hz
  · rw [hps]
    exact h2.perm.map _
  · refine List.pairwise_map.mpr (h1.imp fun {x y} h => ?_)
    have h' : SrtO.lexB (pairOf s.heap y) (pairOf s.heap x) = false := h
    unfold leP
    rw [h']; rfl
end
/-! ### the sorted list is one -/
theorem sorted_uniq {α : Type} (le : α → α → Bool) (anti : ∀ a b, le a b = true → le b a = true → a = b) : ∀ {l m : List α}, l.Perm m → l.Pairwise (fun a b => le a b = true) → m.Pairwise (fun a b => le a b = true) → l = m
  | [], m, h, _, _ => (List.Perm.nil_eq h)
  | x :: l, [], h, _, _ => absurd h.length_eq (by simp)
  | x :: l, y :: m, h, hl, hm => by
    have hxy : x = y := by
      rcases List.mem_cons.mp (h.mem_iff.mp (List.mem_cons_self (a := x) (l := l))) with e | hx
      · exact e
      · rcases List.mem_cons.mp (h.mem_iff.mpr (List.mem_cons_self (a := y) (l := m))) with e | hy
        · exact e.symm
        · exact anti _ _ ((List.pairwise_cons.mp hl).1 y hy) ((List.pairwise_cons.mp hm).1 x hx)
    subst hxy
    rw [sorted_uniq le anti h.cons_inv (List.pairwise_cons.mp hl).2 (List.pairwise_cons.mp hm).2]
def insP (p : Int × Int) : List (Int × Int) → List (Int × Int)
  | [] => [p]
  | q :: qs => if leP p q = true then p :: q :: qs else q :: insP p qs
def sortP : List (Int × Int) → List (Int × Int)
  | [] => []
  | p :: ps => insP p (sortP ps)
theorem insP_perm (p : Int × Int) : ∀ qs, (insP p qs).Perm (p :: qs)
  | [] => List.Perm.refl _
  | q :: qs => by
    unfold insP
    split
    · exact List.Perm.refl _
    · exact ((insP_perm p qs).cons q).trans (List.Perm.swap p q qs)
theorem sortP_perm : ∀ ps, (sortP ps).Perm ps
  | [] => List.Perm.refl _
  | p :: ps => (insP_perm p (sortP ps)).trans ((sortP_perm ps).cons p)
theorem leP_tot (p q : Int × Int) (h : ¬ leP p q = true) : leP q p = true := by
  rw [leP_iff] at h ⊢
  omega
theorem leP_trans {p q r : Int × Int} (h1 : leP p q = true) (h2 : leP q r = true) : leP p r = true := by
  rw [leP_iff] at h1 h2 ⊢
  omega
theorem insP_pw (p : Int × Int) : ∀ {qs}, qs.Pairwise (fun a b => leP a b = true) → (insP p qs).Pairwise (fun a b => leP a b = true)
  | [], _ => List.pairwise_singleton _ _
  | q :: qs, h => by
    unfold insP
    obtain ⟨h1, h2⟩ := List.pairwise_cons.mp h
    split
    · rename_i hp
      refine List.pairwise_cons.mpr ⟨fun r hr => ?_, h⟩
      rcases List.mem_cons.mp hr with rfl | hr
      · exact hp
      · exact leP_trans hp (h1 r hr)
    · rename_i hp
      refine List.pairwise_cons.mpr ⟨fun r hr => ?_, insP_pw p h2⟩
      rcases List.mem_cons.mp ((insP_perm p qs).mem_iff.mp hr) with rfl | hr
      · exact leP_tot _ _ hp
      · exact h1 r hr
theorem sortP_pw : ∀ ps, (sortP ps).Pairwise (fun a b => leP a b = true)
  | [] => List.Pairwise.nil
  | p :: ps => insP_pw p (sortP_pw ps)
theorem leP_anti (a b : Int × Int) (h1 : leP a b = true) (h2 : leP b a = true) : a = b := by
  rw [leP_iff] at h1 h2
  exact Prod.ext (by omega) (by omega)
theorem sortP_eq {qs ps : List (Int × Int)} (h : qs.Perm ps) (hq : qs.Pairwise (fun a b => leP a b = true)) : qs = sortP ps :=
  sorted_uniq leP leP_anti (h.trans (sortP_perm ps).symm) hq (sortP_pw ps)
def toPair : D → Option (Int × Int)
  | .tuple [.int a, .int b] => some (a, b)
  | _ => none
def toPairs : List D → Option (List (Int × Int))
  | [] => some []
  | d :: ds => match toPair d with
    | some p => (toPairs ds).map (p :: ·)
    | none => none
def pairD (p : Int × Int) : D := .tuple [.int p.1, .int p.2]
theorem toPair_eq {d : D} {p : Int × Int} (h : toPair d = some p) : d = pairD p := by
  unfold toPair at h
  split at h
  · cases h; rfl
  · cases h
theorem toPairs_eq : ∀ {ds : List D} {ps : List (Int × Int)}, toPairs ds = some ps → ds = ps.map pairD
  | [], _, h => by cases h; rfl
  | d :: ds, ps, h => by
    unfold toPairs at h
    split at h
    · rename_i p e
      cases q : toPairs ds with
      | none => rw [q] at h; cases h
      | some qs =>
        rw [q] at h; cases h
        rw [List.map_cons, ← toPair_eq e, ← toPairs_eq q]
    · cases h
theorem toPairs_map : ∀ ps : List (Int × Int), toPairs (ps.map pairD) = some ps
  | [] => rfl
  | p :: ps => by
    show (toPairs (ps.map pairD)).map (p :: ·) = _
    rw [toPairs_map ps]; rfl
def sortD : List D → Option (List D)
  | [.list ds] => (toPairs ds).map fun ps => (sortP ps).map pairD
  | _ => none
section
variable {K : PySem.W.Frag}
abbrev RP (K : PySem.W.Frag) (F : Hp) (x : V) (p : Int × Int) : Prop := Dp K F x (pairD p)
theorem rp_all {F : Hp} : ∀ {xs : List V} {ps : List (Int × Int)}, DpAll K F xs (ps.map pairD) → Paired (RP K F) xs ps
  | _, [], .nil => .nil
  | _, _ :: _, .cons h t => .cons h (rp_all t)
theorem all_rp {F : Hp} : ∀ {xs : List V} {ps : List (Int × Int)}, Paired (RP K F) xs ps → DpAll K F xs (ps.map pairD)
  | _, _, .nil => .nil
  | _, _, .cons h t => .cons h (all_rp t)
theorem cn_sort : CallN K (rSortDP K) sortD := by
  intro W c σ H F ρ xs ds out Q ok rx e q
  unfold sortD at e
  split at e
  · rename_i es
    cases e2 : toPairs es with
    | none => rw [e2] at e; cases e
    | some ps =>
      rw [e2] at e; cases e
      obtain ⟨x, rfl, r⟩ := pk1 rx
      obtain ⟨p, vs, rfl, hp, dp⟩ := Pk.lst ok.sub r
      have e3 := toPairs_eq e2
      subst e3
      refine ⟨RP K F, p, vs, ps, rfl, hp, rp_all dp, fun x p h => ?_, fun ys qs l hy hperm hpw hl => ?_⟩
      · have h2 : Dp K H x (pairD p) := Dp.mono ok.sub h
        unfold pairD at h2
        cases h2 with
        | tup h t =>
          cases t with
          | cons a t =>
            cases t with
            | cons b t =>
              cases t; cases a; cases b
              exact ⟨_, rfl, h⟩
      · have e4 := sortP_eq hperm hpw
        subst e4
        exact new_N ok (all_rp hy) q l hl
  · cases e
end
end Dd

namespace Dd
open PySem PySem.Spec L2
/-! ### a, b = a new list, a constant -/
section
variable {X : Cx} {W : WX} {K : PySem.W.Frag} {σ : St} {H : Hp} {i j : Nat} {x y : Str} {a b : Expr} {mn : M (List D)} {px py pt pos : Pos} {kt k2 : Nat} {pt2 : Pos} {v : V} {d : D}
def mParNC (i j : Nat) (mn : M (List D)) (d : D) : M Fl := mBind mn fun out => mBind (mStoreO i out) fun _ => mBind (mStore j d) fun _ => mDone
theorem parNC_of (hd : ∀ F, Dp K F v d) {Dn : Ends} (h : tS K W (mParNC i j mn d) Dn σ H) : tPar i j (tCons (tN K W mn) (tCons (tC v) tNil)) Dn σ H := by
  obtain ⟨c, F, ρ, ok, h⟩ := h
  refine ⟨c, F, ρ, ok, ?_⟩
  unfold mParNC mBind at h
  cases e : mn ρ with
  | none => rw [e] at h; exact h.elim
  | some r =>
    rw [e] at h
    cases r with
    | ex y ρ' => exact fun cls z H' F' ok s r => h σ cls z H' F' ok s r
    | ok out ρ2 =>
      intro p xs H' F' ok' hp s' rx
      refine ⟨.ref p, v, rfl, ?_⟩
      have h2 : postS K W c F Dn (mBind (mStoreO i out) (fun _ => mBind (mStore j d) fun _ => mDone) ρ2) := h
      have h3 := postS_bindG h2
      unfold mStoreO at h3
      split at h3
      · rename_i hl
        obtain ⟨F4, ρ4, ok4, s4, h4⟩ := h3 _ H' F' (ok'.ownP hp rx hl) s'
        have h5 := postS_bindG h4
        unfold mStore at h5
        split at h5
        · rename_i hl2
          obtain ⟨F5, ρ5, ok5, s5, h6⟩ := h5 _ H' F4 (ok4.setV hl2 (hd _)) (Same.refl _)
          exact h6 _ _ _ ok5 (Same.refl _)
        · exact h5.elim
      · exact h3.elim
theorem dParNC (hc : X.calm = true) (hN : X.N.Nodup) (hij : i ≠ j) (ha : PE X a (tN X.K W mn)) (hb : PE X b (tC v)) (hd : ∀ F, Dp X.K F v d) (hi : X.N[i]? = some x := by rfl) (hj : X.N[j]? = some y := by rfl)
    (hx : X.env.scope.names.lookup x = some .local := by rfl) (hy : X.env.scope.names.lookup y = some .local := by rfl)
    (hw : swappedStores [.Tuple [.Name x px, .Name y py] kt pt] (.Tuple [a, b] k2 pt2) X.env = pure (some [x, y]) := by rfl)
    (hs : swapsWithSole [.Tuple [.Name x px, .Name y py] kt pt] (.Tuple [a, b] k2 pt2) pos.line X.env = pure false := by rfl)
    (hs1 : starEach [a, b] X.env = (false, eval a X.env) :: starEach [b] X.env := by rfl) (hs2 : starEach [b] X.env = (false, eval b X.env) :: starEach [] X.env := by rfl) :
    PS X (.Assign [.Tuple [.Name x px, .Name y py] kt pt] (.Tuple [a, b] k2 pt2) pos) (tS X.K W (mParNC i j mn d)) :=
  PS.imp (ps_par hc hN hi hj hij hx hy (pa_cons ha (pa_cons hb pa_nil hs2) hs1) hw hs) fun _ _ _ => parNC_of hd
end
/-! ### range, downwards -/
section
variable {X : Cx} {W : WX} {K : PySem.W.Frag} {tg a b e : Expr} {ms : M (List D)} {p pos : Pos}
def rngDn (i j : Int) : List D := (List.range (i - j).toNat).map fun k => .int (i - (k : Nat))
def rngD3 : List D → Option (List D)
  | [.int i, .int j, .int c] => if (rngOk i && rngOk j && decide (c = -1)) = true then some (rngDn i j) else none
  | _ => none
theorem rngDn_get {i j : Int} {k : Nat} {d : D} (h : (rngDn i j)[k]? = some d) : d = .int (i - (k : Nat)) ∧ k < (i - j).toNat := by
  unfold rngDn at h
  rw [List.getElem?_map] at h
  by_cases q : k < (i - j).toNat
  · rw [List.getElem?_range q] at h
    cases h
    exact ⟨rfl, q⟩
  · rw [List.getElem?_eq_none (by simpa using q)] at h
    cases h
theorem rngDn_length (i j : Int) : (rngDn i j).length = (i - j).toNat := by simp [rngDn]
theorem itc_D {F : Hp} {i j : Int} : ItD K F (Itc i (-1) (i - j).toNat) (rngDn i j) where
  go := fun H k s hi => by rw [rngDn_length] at hi; exact hi
  stop := fun H k s hi => by rw [rngDn_length] at hi; exact hi
  yld := fun H k x H' d s q y => by
    obtain ⟨e1, e2⟩ := y
    obtain ⟨e3, _⟩ := rngDn_get q
    subst e1 e2 e3
    refine .inl ⟨rfl, ?_⟩
    have e : i + (k : Nat) * (-1) = i - (k : Nat) := by omega
    rw [e]
    exact .int _
def mRng3 (ms : M (List D)) : M (List D) := mBind ms fun ds => mLift (rngD3 ds)
theorem diRng3 {c : Expr} (hm : X.mg "range" = none) (ha : PA X [a, b, c] (tA X.K W ms)) (hg : Gl X "range" := by rfl) (hs : starEach [a, b, c] X.env = (false, eval a X.env) :: starEach [b, c] X.env := by rfl) (hpl : (backTo pos (starEach [b, c] X.env)).any (·.1) = false := by rfl) : PI X tg (.Call (.Name "range" p) [a, b, c] [] pos) (tI X.K W (mRng3 ms)) := PI.imp (pi_range3 hg hm ha hs hpl) (by
  rintro σ H R ⟨c, F, ρ, ok, h⟩
  refine ⟨c, F, ρ, ok, post_mono ?_ (post_bind h)⟩
  rintro ds H1 F1 _ ⟨ρ1, ok1, s1, h1⟩ vs rv
  obtain ⟨out, e, h2⟩ := post_lift h1
  unfold rngD3 at e
  split at e
  · rename_i i j c'
    split at e
    · rename_i hb
      cases e
      simp only [Bool.and_eq_true, decide_eq_true_eq] at hb
      obtain ⟨⟨hb1, hb2⟩, hc⟩ := hb
      subst hc
      cases rv with
      | cons r t =>
        cases t with
        | cons r' t' =>
          cases t' with
          | cons r'' t'' =>
            cases t''
            cases r
            cases r'
            cases r''
            obtain ⟨b1, b2⟩ := rngOk_of hb1
            obtain ⟨b3, b4⟩ := rngOk_of hb2
            exact ⟨i, j, -1, _, rfl, RgC.neg b1 b2 b3 b4, h2 H1 F1 ok1 (Same.refl F1) _ itc_D⟩
    · cases e
  · cases e)
end
end Dd

namespace Dd
open PySem PySem.Spec L2
/-! ### *e in a display -/
section
variable {X : Cx} {W : WX} {K : PySem.W.Frag} {a : Expr} {es : List Expr} {p : Pos} {ma : M D} {mr : M (List D)}
def mStar (ma : M D) (mr : M (List D)) : M (List D) := mBind ma fun d => mBind (mLift (itemsD d)) fun xs => mBind mr fun ys => mPure (xs ++ ys)
theorem dStar (ha : PE X a (tP X.K W ma)) (hr : PA X es (tA X.K W mr)) (hs : starEach (.Starred a p :: es) X.env = (true, eval a X.env) :: starEach es X.env := by rfl) : PA X (.Starred a p :: es) (tA X.K W (mStar ma mr)) := by
  refine PA.imp (StX.pa_star ha hr hs) ?_
  rintro σ H Q ⟨c, F, ρ, ok, h⟩
  refine ⟨c, F, ρ, ok, post_mono ?_ (post_bind h)⟩
  rintro d H1 F1 _ ⟨ρ1, ok1, s1, h1⟩ v rv
  have main : ∀ (q : Addr) (vs : List V) (ds : List D), v = .ref q → (SqT X.K H1 q vs ∨ SqL X.K H1 q vs) → DpAll X.K F1 vs ds → post X.K W c σ F1 (qA X.K Q) ((mBind mr fun ys => mPure (ds ++ ys)) ρ1) → ∃ p xs, v = V.ref p ∧ (SqT X.K H1 p xs ∨ SqL X.K H1 p xs) ∧ tA X.K W mr σ H1 fun ys H2 => Q (xs ++ ys) H2 := by
    intro q vs ds hv hq hd h2
    refine ⟨q, vs, hv, hq, c, F1, ρ1, ok1, post_mono ?_ (post_bind h2)⟩
    rintro ys H2 F2 _ ⟨ρ2, ok2, s2, h3⟩ ws rw'
    exact post_ok (W := W) h3 ok2 _ (DpAll.append (DpAll.mono s2 hd) rw')
  cases d with
  | list ds =>
    obtain ⟨q, vs, rfl, hp, dp⟩ := Pk.lst ok1.sub rv
    exact main q vs ds rfl (.inr hp) dp h1
  | tuple ds =>
    obtain ⟨q, vs, rfl, hp, dp⟩ := Pk.tup ok1.sub rv
    exact main q vs ds rfl (.inl hp) dp h1
  | _ => exact (h1 : False).elim
end
end Dd

namespace Dd
open PySem PySem.Spec L2
/-! ### a, b, .. = a list -/
section
variable {X : Cx} {W : WX} {pos : Pos}
def gLstD (n : Nat) (gs : List D → M Unit) : D → M Unit
  | .list ds => if ds.length = n then gs ds else mStuck
  | _ => mStuck
theorem dgLst {es : List Expr} {k : Nat} {gs : List D → M Unit} {n : Nat} (hc : X.calm = true) (h : PGs X es (tGs X.K W gs)) (hn : (assignEach es X.env).length = n := by rfl) (hst : (assignEach es X.env).findIdx? (·.1) = none := by rfl) : PG X (.Tuple es k pos) (tG X.K W (gLstD n gs)) :=
  PG.imp (pg_lst hc h hn hst) (by
  rintro v σ H Q ⟨c, F, ρ, d, ok, r, h⟩
  unfold gLstD at h
  split at h
  · split at h
    · rename_i hl
      obtain ⟨p, vs, rfl, hp, dp⟩ := Pk.lst ok.sub (.inl r)
      exact ⟨p, vs, rfl, hp, by rw [DpAll.length dp]; exact hl, c, F, ρ, _, ok, dp, h⟩
    · exact h.elim
  · exact h.elim)
end
end Dd

namespace Dd
open PySem PySem.Spec L2 PySem.W
/-! ### min(a list of ints, default=d) -/
def rMinDef (K : PySem.W.Frag) : List V → List V → Hp → VK → Prop := fun vs zs H Q => ∃ (a : Addr) (ns : List Int) (d : V), vs = [V.ref a] ∧ zs = [d] ∧ SqL K H a (ns.map V.int) ∧
  Q (match ns with | [] => d | n :: r => .int (r.foldl min n)) H
theorem alikeAll_ints (ns : List Int) : AlikeAll (ns.map PyData.int) := by
  refine ⟨fun x hx y hy => ?_, fun x hx => ?_⟩
  · obtain ⟨i, _, rfl⟩ := List.mem_map.mp hx
    obtain ⟨j, _, rfl⟩ := List.mem_map.mp hy
    rfl
  · obtain ⟨i, _, rfl⟩ := List.mem_map.mp hx
    exact fun z => by cases z
theorem depth_ints : ∀ ns : List Int, PyData.depthAll (ns.map PyData.int) = 0
  | [] => by simp [PyData.depthAll]
  | n :: ns => by
    rw [List.map_cons]
    simp [PyData.depthAll, PyData.depth, depth_ints ns]
section
variable {X : Cx}
theorem cr_minDef (hc : X.calm = true) (hu : X.A.units + 64 < cLine) : CallRK X (.builtin "min") [Str.ofString "default"] (rMinDef X.K) := by
  intro pins s σ H xs zs us ws Q I rx rz h
  obtain ⟨a, ns, d, rfl, rfl, hs, q⟩ := h
  obtain ⟨its, rv, hl, hz⟩ := I.list hs
  obtain ⟨u, rfl, ru⟩ := vals1 rx
  obtain rfl : u = Value.ref a := ru
  obtain ⟨w, rfl, rw'⟩ := vals1 rz
  have hi := rv.ints
  show wpAny _ _ (call (.builtin "min") [.ref a] [(Str.ofString "default", w)]) _ _ s
  refine min_list_default (I.ok.hd hc) hl.isList (xs := ns.map PyData.int) (as := []) (PyProof.Rows.ints_readAll s.heap hi) (alikeAll_ints ns) (by rw [depth_ints]; omega) (fun e h' tk hk => ?_) fun y ys i v h' tk bs e hv hr hk => ?_
  · have e' : ns = [] := by cases ns with
      | nil => rfl
      | cons n r => cases e
    subst e'
    exact ⟨d, H, I.kept (t' := tk) hk, rw', q⟩
  · cases ns with
    | nil => cases e
    | cons n r =>
      injection e with e1 e2
      subst e1 e2
      rw [minD_ints] at hr
      cases hr
      exact ⟨.int (r.foldl min n), H, I.kept (t' := tk) hk, ⟨_, rfl⟩, q⟩
def minDefD : D → Option D
  | .list ds => (toInts ds).map fun ns => match ns with
    | [] => .none
    | n :: r => .int (r.foldl min n)
  | _ => none
variable {W : WX} {a : Expr} {m : M D} {p pos kp np : Pos} {jj : Nat}
def mMinDef (m : M D) : M D := mBind m fun d => mLift (minDefD d)
theorem dMinDef (hc : X.calm = true) (hu : X.A.units + 64 < cLine) (hm : X.mg "min" = none) (ha : PE X a (tP X.K W m)) (hg : Gl X "min" := by rfl) (hbi : bootBuiltins "min" = some (.builtin "min") := by decide +kernel)
    (hs : starEach (a :: []) X.env = (false, eval a X.env) :: starEach [] X.env := by rfl)
    (he : backTo pos (starEach (a :: []) X.env) = (false, eval a X.env) :: backTo pos (starEach [] X.env) := by rfl) (hpl : (backTo pos (starEach (a :: []) X.env)).any (·.1) = false := by rfl)
    (hall : (backToKw pos (keywordEach [⟨some "default", .Constant .none jj np, kp⟩] X.env)).all (·.1.isSome) = true := by rfl) (hnone : (backToKw pos (keywordEach [⟨some "default", .Constant .none jj np, kp⟩] X.env)).any (·.1.isNone) = false := by rfl) (hks : (backToKw pos (keywordEach [⟨some "default", .Constant .none jj np, kp⟩] X.env)).filterMap (·.1) = [Str.ofString "default"] := by rfl) :
    PE X (.Call (.Name "min" p) [a] [⟨some "default", .Constant .none jj np, kp⟩] pos) (tE X.K W (mMinDef m)) :=
  PE.imp (pe_callBK (cr_minDef hc hu) hg hm hbi (pa_cons ha pa_nil hs) (pk_cons pe_non pk_nil) (by decide) (by decide) he hpl hall hnone hks) (by
  rintro σ H Q ⟨c, F, ρ, ok, h⟩
  refine ⟨c, F, ρ, ok, post_mono ?_ (post_bind h)⟩
  rintro d H1 F1 _ ⟨ρ1, ok1, s1, h1⟩ v rv
  show rMinDef X.K [v] [.non] H1 Q
  obtain ⟨d', e, h2⟩ := post_lift h1
  unfold minDefD at e
  split at e
  · rename_i ds
    cases e2 : toInts ds with
    | none => rw [e2] at e; cases e
    | some ns =>
      rw [e2] at e
      cases e
      obtain ⟨q, vs, rfl, hp, dp⟩ := Pk.lst ok1.sub rv
      rw [toInts_eq e2] at dp
      rw [DpAll.ints dp] at hp
      refine ⟨q, ns, .non, rfl, rfl, hp, ?_⟩
      cases ns with
      | nil => exact h2 H1 F1 ok1 (Same.refl F1) _ .non
      | cons n r => exact h2 H1 F1 ok1 (Same.refl F1) _ (.int _)
  · cases e)
end
end Dd

namespace Dd
open PySem PySem.Spec L2
/-! ### slices -/
def cutL (ds : List D) (lo hi : Option Int) : List D := (ds.drop (HT.sIx ds.length 0 lo)).take (HT.sIx ds.length ds.length hi - HT.sIx ds.length 0 lo)
def slD : D → Option Int → Option Int → Option D
  | .list ds, lo, hi => some (.list (cutL ds lo hi))
  | .tuple ds, lo, hi => some (.tuple (cutL ds lo hi))
  | .str z, lo, hi => if fit z.length = true then some (.str (cutS z lo hi)) else none
  | _, _, _ => none
def intO : D → Option (Option Int)
  | .int i => some (some i)
  | _ => none
def mNoPart : M (Option Int) := mPure none
def mPart (m : M D) : M (Option Int) := mBind m fun d => mLift (intO d)
section
variable {X : Cx} {W : WX} {K : PySem.W.Frag} {σ : St} {H F : Hp} {ρ : En} {c : Ct}
def tO (K : PySem.W.Frag) (W : WX) (m : M (Option Int)) : TO := fun σ H Q => ∃ c F ρ, Ok K c σ H F ρ ∧ post K W c σ F (fun o H' _ => Q o H') (m ρ)
theorem PO.imp {e : Option Expr} {t t' : TO} (h : PO X e t) (k : ∀ σ H Q, t' σ H Q → t σ H Q) : PO X e t' := ⟨fun pins s σ H Q I q => h.run pins s σ H Q I (k σ H Q q)⟩
theorem dNoPart : PO X none (tO X.K W mNoPart) := PO.imp po_none (by
  rintro σ H Q ⟨c, F, ρ, ok, h⟩
  exact post_ok h ok)
theorem dPart {e : Expr} {m : M D} (h : PE X e (tE X.K W m)) : PO X (some e) (tO X.K W (mPart m)) := PO.imp (po_some h) (by
  rintro σ H Q ⟨c, F, ρ, ok, h⟩
  refine ⟨c, F, ρ, ok, post_mono ?_ (post_bind h)⟩
  rintro d H1 F1 _ ⟨ρ1, ok1, s1, h1⟩ v rv
  obtain ⟨o, e, h2⟩ := post_lift h1
  cases d with
  | int i =>
    cases e
    cases rv
    exact ⟨i, rfl, post_ok h2 ok1⟩
  | _ => cases e)
theorem DpAll.cut {vs : List V} {ds : List D} (h : DpAll K F vs ds) (lo hi : Option Int) : DpAll K F (cutV vs lo hi) (cutL ds lo hi) := by
  unfold cutV cutL
  rw [DpAll.length h]
  exact DpAll.take _ (DpAll.drop _ h)
def rSlAll (K : PySem.W.Frag) : V → Option Int → Option Int → Hp → VK → Prop := fun x lo hi H Q => rSlL K x lo hi H Q ∨ (rSlA K x lo hi H Q ∨ rSlS x lo hi H Q)
theorem sl_all' : SlR X (rSlAll X.K) := SlR.or sl_list (SlR.or sl_tupA sl_str)
theorem cutL_whole {ds : List D} {lo hi : Option Int} (h : HT.sIx ds.length 0 lo = 0 ∧ HT.sIx ds.length ds.length hi = ds.length) : cutL ds lo hi = ds := by
  unfold cutL
  rw [h.1, h.2]
  simp
theorem sl_of {W : WX} {x : V} {a d : D} {lo hi : Option Int} {Q : VK} (ok : Ok K c σ H F ρ) (rx : Pk K H F x a) (e : slD a lo hi = some d) (q : post K W c σ F (qE K Q) (some (.ok d ρ))) : rSlAll K x lo hi H Q := by
  cases a with
  | list ds =>
    cases e
    obtain ⟨p, vs, rfl, hp, dp⟩ := Pk.lst ok.sub rx
    exact .inl ⟨p, vs, rfl, hp, fun p hp => new_lst ok (DpAll.cut dp lo hi) q p hp⟩
  | tuple ds =>
    cases e
    obtain ⟨p, vs, rfl, hp, dp⟩ := Pk.tup ok.sub rx
    refine .inr (.inl ⟨p, vs, rfl, hp, fun z => ?_, fun _ p hp => new_tup ok (DpAll.cut dp lo hi) q p hp⟩)
    rw [DpAll.length dp] at z
    rw [cutL_whole z] at q
    rcases rx with rx | ⟨_, _, _, _, e, _⟩
    · exact post_ok q ok _ rx
    · cases e
  | str z =>
    unfold slD at e
    dsimp only at e
    split at e
    · rename_i hf
      cases e
      exact .inr (.inr ⟨z, rx.str, fit_le hf, post_ok q ok _ (.str _)⟩)
    · cases e
  | _ => cases e
def mSl (ma : M D) (ml mh : M (Option Int)) : M D := mBind ma fun a => mBind ml fun l => mBind mh fun h => mLift (slD a l h)
def mSlL (i : Nat) (ml mh : M (Option Int)) : M D := mBind (mPeek i) fun _ => mBind ml fun l => mBind mh fun h => mBind (mPeek i) fun a => mLift (slD a l h)
variable {ma : M D} {ml mh : M (Option Int)} {a : Expr} {lo hi : Option Expr} {pos p2 : Pos}
theorem tSl_of {Q : VK} (h : tE K W (mSl ma ml mh) σ H Q) : tSl (rSlAll K) (tE K W ma) (tO K W ml) (tO K W mh) σ H Q := by
  obtain ⟨c, F, ρ, ok, h⟩ := h
  refine ⟨c, F, ρ, ok, post_mono ?_ (post_bind h)⟩
  rintro a H1 F1 _ ⟨ρ1, ok1, s1, h1⟩ x rx
  refine ⟨c, F1, ρ1, ok1, post_mono ?_ (post_bind h1)⟩
  rintro l H2 F2 _ ⟨ρ2, ok2, s2, h2⟩
  refine ⟨c, F2, ρ2, ok2, post_mono ?_ (post_bind h2)⟩
  rintro u H3 F3 _ ⟨ρ3, ok3, s3, h3⟩
  obtain ⟨d, e, h4⟩ := post_lift h3
  exact sl_of ok3 (.inl (Dp.mono (s2.trans s3) rx)) e h4
theorem tSl_ofL {i : Nat} {Q : VK} (h : tE K W (mSlL i ml mh) σ H Q) : tSl (rSlAll K) (tVar i) (tO K W ml) (tO K W mh) σ H Q := by
  obtain ⟨c, F, ρ, ok, h⟩ := h
  obtain ⟨v, _, ev, _, h⟩ := post_peek ok h
  refine ⟨v, ev, c, F, ρ, ok, post_mono ?_ (post_bind h)⟩
  rintro l H2 F2 _ ⟨ρ2, ok2, s2, h2⟩
  refine ⟨c, F2, ρ2, ok2, post_mono ?_ (post_bind h2)⟩
  rintro u H3 F3 _ ⟨ρ3, ok3, s3, h3⟩
  obtain ⟨v', a, ev', pk, h3⟩ := post_peek ok3 h3
  obtain ⟨d, e, h4⟩ := post_lift h3
  have ee : v' = v := by rw [ev] at ev'; cases ev'; rfl
  subst ee
  exact sl_of ok3 pk e h4
theorem dSl (ha : PE X a (tE X.K W ma)) (hl : PO X lo (tO X.K W ml)) (hh : PO X hi (tO X.K W mh)) : PE X (.Subscript a (.Slice lo hi none p2) pos) (tE X.K W (mSl ma ml mh)) := PE.imp (pe_slice sl_all' ha hl hh) fun _ _ _ => tSl_of
theorem dSlL {i : Nat} (ha : PE X a (tVar i)) (hl : PO X lo (tO X.K W ml)) (hh : PO X hi (tO X.K W mh)) : PE X (.Subscript a (.Slice lo hi none p2) pos) (tE X.K W (mSlL i ml mh)) := PE.imp (pe_slice sl_all' ha hl hh) fun _ _ _ => tSl_ofL
/-! .. of a list, a new one -/
def slN : D → Option Int → Option Int → Option (List D)
  | .list ds, lo, hi => some (cutL ds lo hi)
  | _, _, _ => none
def mSlN (ma : M D) (ml mh : M (Option Int)) : M (List D) := mBind ma fun a => mBind ml fun l => mBind mh fun h => mLift (slN a l h)
def mSlNL (i : Nat) (ml mh : M (Option Int)) : M (List D) := mBind (mPeek i) fun _ => mBind ml fun l => mBind mh fun h => mBind (mPeek i) fun a => mLift (slN a l h)
theorem slN_of {W : WX} {x : V} {a : D} {ds : List D} {lo hi : Option Int} {Q : VK} (ok : Ok K c σ H F ρ) (rx : Pk K H F x a) (e : slN a lo hi = some ds) (q : postN K W c σ F Q (some (.ok ds ρ))) : rSlL K x lo hi H Q := by
  cases a with
  | list ds =>
    cases e
    obtain ⟨p, vs, rfl, hp, dp⟩ := Pk.lst ok.sub rx
    exact ⟨p, vs, rfl, hp, fun p hp => new_N ok (DpAll.cut dp lo hi) q p hp⟩
  | _ => cases e
theorem tSlN_of {Q : VK} (h : tN K W (mSlN ma ml mh) σ H Q) : tSl (rSlL K) (tE K W ma) (tO K W ml) (tO K W mh) σ H Q := by
  obtain ⟨c, F, ρ, ok, h⟩ := h
  refine ⟨c, F, ρ, ok, post_mono ?_ (postN_bind h)⟩
  rintro a H1 F1 _ ⟨ρ1, ok1, s1, h1⟩ x rx
  refine ⟨c, F1, ρ1, ok1, post_mono ?_ (postN_bind h1)⟩
  rintro l H2 F2 _ ⟨ρ2, ok2, s2, h2⟩
  refine ⟨c, F2, ρ2, ok2, post_mono ?_ (postN_bind h2)⟩
  rintro u H3 F3 _ ⟨ρ3, ok3, s3, h3⟩
  obtain ⟨d, e, h4⟩ := postN_lift h3
  exact slN_of ok3 (.inl (Dp.mono (s2.trans s3) rx)) e h4
theorem post_peekN {i : Nat} {Q : VK} {f : D → M (List D)} (ok : Ok K c σ H F ρ) (h : postN K W c σ F Q (mBind (mPeek i) f ρ)) : ∃ v d, σ[i]? = some (some v) ∧ Pk K H F v d ∧ postN K W c σ F Q (f d ρ) := by
  unfold mBind mPeek at h
  cases e : ρ[i]? with
  | none => rw [e] at h; exact h.elim
  | some u =>
    rw [e] at h
    cases u with
    | un => exact h.elim
    | val d =>
      obtain ⟨v, a1, a2⟩ := ok.val i d e
      exact ⟨v, d, a1, .inl a2, h⟩
    | own ds =>
      obtain ⟨p, vs, a1, a2, a3, _⟩ := ok.own i ds e
      exact ⟨.ref p, _, a1, .inr ⟨p, vs, ds, rfl, rfl, a2, a3⟩, h⟩
    | io ds =>
      obtain ⟨_, p, vs, _, a1, a2, a3⟩ := ok.ios i ds e
      exact ⟨.ref p, _, a1, .inr ⟨p, vs, ds, rfl, rfl, a2, a3⟩, h⟩
    | scr ns => exact h.elim
theorem tSlN_ofL {i : Nat} {Q : VK} (h : tN K W (mSlNL i ml mh) σ H Q) : tSl (rSlL K) (tVar i) (tO K W ml) (tO K W mh) σ H Q := by
  obtain ⟨c, F, ρ, ok, h⟩ := h
  obtain ⟨v, _, ev, _, h⟩ := post_peekN ok h
  refine ⟨v, ev, c, F, ρ, ok, post_mono ?_ (postN_bind h)⟩
  rintro l H2 F2 _ ⟨ρ2, ok2, s2, h2⟩
  refine ⟨c, F2, ρ2, ok2, post_mono ?_ (postN_bind h2)⟩
  rintro u H3 F3 _ ⟨ρ3, ok3, s3, h3⟩
  obtain ⟨v', a, ev', pk, h3⟩ := post_peekN ok3 h3
  obtain ⟨d, e, h4⟩ := postN_lift h3
  have ee : v' = v := by rw [ev] at ev'; cases ev'; rfl
  subst ee
  exact slN_of ok3 pk e h4
theorem dSlN (ha : PE X a (tE X.K W ma)) (hl : PO X lo (tO X.K W ml)) (hh : PO X hi (tO X.K W mh)) : PE X (.Subscript a (.Slice lo hi none p2) pos) (tN X.K W (mSlN ma ml mh)) := PE.imp (pe_slice sl_list ha hl hh) fun _ _ _ => tSlN_of
theorem dSlNL {i : Nat} (ha : PE X a (tVar i)) (hl : PO X lo (tO X.K W ml)) (hh : PO X hi (tO X.K W mh)) : PE X (.Subscript a (.Slice lo hi none p2) pos) (tN X.K W (mSlNL i ml mh)) := PE.imp (pe_slice sl_list ha hl hh) fun _ _ _ => tSlN_ofL
/-! ### a list turned round -/
def revO : D → Option (List D)
  | .list ds => some ds.reverse
  | _ => none
def mRevN (m : M D) : M (List D) := mBind m fun d => mLift (revO d)
variable {k : Nat} {p1 p3 : Pos}
theorem dRevN (ha : PE X a (tP X.K W ma)) : PE X (.Subscript a (.Slice none none (some (.UnaryOp .USub (.Constant (.int 1) k p1) p2)) p3) pos) (tN X.K W (mRevN ma)) := PE.imp (pe_revL ha) (by
  rintro σ H Q ⟨c, F, ρ, ok, h⟩
  refine ⟨c, F, ρ, ok, post_mono ?_ (postN_bind h)⟩
  rintro a H1 F1 _ ⟨ρ1, ok1, s1, h1⟩ x rx
  obtain ⟨ds, e, h2⟩ := postN_lift h1
  cases a with
  | list es =>
    cases e
    obtain ⟨p, vs, rfl, hp, dp⟩ := Pk.lst ok1.sub rx
    exact ⟨p, vs, rfl, hp, fun p hp => new_N ok1 (DpAll.reverse dp) h2 p hp⟩
  | _ => cases e)
end
end Dd

namespace Dd
open PySem PySem.Spec L2 PyProof.Rows
/-! ### the law's own def, at the caller that calls it: there nothing is being shown (no guard stands) -/
def LawFn (P : Program) (w : World) (K : PySem.W.Frag) (mg : Str → Option Value) (base : Heap) (f : Addr) (fd : FuncData) (p : Str) (k : Nat) (g : List Int → Option (Rs D)) : Prop :=
  ∀ (s : Shared) (H : Hp) (a : Addr) (ns : List Int), Room k callerA → Env0 P w K mg base callerA [] s H → BindsTo s fd ⟨[.ref a], []⟩ [(p, .ref a)] → SqL K H a (ns.map V.int) → g ns = some (.ok (.bool true)) →
    codeAny (model P w) callerA (.call (.ref f) ⟨[.ref a], []⟩) (CR (L2.CX P w) [] P w H s (fun v _ => v = .bl true) fun _ _ _ => False) s
section
variable {P : Program} {w : World} {K : PySem.W.Frag} {mg : Str → Option Value} {base : Heap} {x qual p : Str} {st : Stmt} {f : Addr} {fd : FuncData} {N : List Str} {k : Nat} {m : M Fl} {sc : Scope} {bd : List Stmt}
abbrev BodyG (P : Program) (w : World) (K : PySem.W.Frag) (mg : Str → Option Value) (base : Heap) (qual : Str) (sc : Scope) (bd : List Stmt) (f : Addr) (N : List Str) (k : Nat) (m : M Fl) : Prop :=
  ∀ (cdv : Value) (s : Shared) (H : Hp) (E : XK), Room k (callerA.deeper (envOfC qual sc s.heap.objs.size f cdv)) →
    PSs (cxOf (L2.CX P w) P w K mg base N qual sc f cdv callerA [] s H E) bd (tS K (fun cls d _ H => E cls d H) m)
theorem lawFn_of (Fn : Fun K x qual st f fd) (S : FnScope N [p] (defScope st)) (h1 : defScope st = sc) (h2 : defBody st = bd) (hb : BodyG P w K mg base qual sc bd f N k m) : LawFn P w K mg base f fd p (k + 1) (runL m N.length) := by
  subst h1 h2
  intro s H a ns room e0 bind sq done
  obtain ⟨oc, od, kV, doc, pm, an, cdv, ct, osl, rfl, at_f, code⟩ := Fn.ex
  have inK : K.In s.heap := e0.mod.kin.keeps fun b o e => (e0.bs b o e).1
  have par : ∀ y ∈ [(p, Value.ref a)], (defScope st).names.lookup y.1 = some .local ∨ ((defScope st).names.lookup y.1 = some .cell ∧ ((cellsFrom (s.heap.objs.size + 1) (defScope st).names []).lookup y.1).isSome = true) := by
    intro y hy
    rw [List.mem_singleton.mp hy]
    exact (S.par p (by simp)).imp id fun z => ⟨z, PySem.W.cellsFrom_some _ _ _ (.inl z)⟩
  refine codeAny_call_function room.depth (inK _ _ at_f) rfl S.co S.gen rfl (PySem.W.codeRec_of inK code) (bind _ _ _ _ ?_)
  refine wpAny_newFunctionEnv_cells S.kind par ?_
  rintro env rfl s1 y
  have nolim : s.heap.NoLimit := e0.mod.nolimit.keeps fun b o e => (e0.bs b o e).1
  refine ⟨nolim.keeps y.toInCall.keep, codeAny_func ?_⟩
  have run := hb cdv s H (fun _ _ _ => False) (room.deeper _)
  have J := inv_start (CX := L2.CX P w) (qual := qual) (f := f) (cd := cdv) (E := fun _ _ _ => False) (vs := [V.ref a]) S room.hd e0 rfl (.cons rfl .nil) y
  have goal : tS K (fun cls d _ H => (fun _ _ _ => False : XK) cls d H) m { nx := fun _ H' => (fun v (_ : Hp) => v = V.bl true) .non H', rt := fun v _ => v = V.bl true } (L2.start N [V.ref a]) H := by
    refine ⟨_, fun _ => none, _, startS_ok (F := fun _ => none) (ds := []) (fun b o e => by cases e) sq .nil (FnScope.le S), ?_⟩
    unfold runL at done
    cases e : m (env0S N.length ns []) with
    | none => rw [e] at done; cases done
    | some q =>
      rw [e] at done
      match q, done with
      | .ok (.rt d) ρ', done =>
        cases done
        intro σ' v H' F' _ _ rv
        cases rv
        rfl
      | .ok .nx ρ', done => cases done
      | .ok .bk ρ', done => cases done
      | .ok .ct ρ', done => cases done
      | .ok (.rf es) ρ', done => cases done
      | .ex z ρ', done => cases done
  refine wpAny_mono (run.run [] s1 _ H _ J goal) ?_ fun e s' hs => hs
  intro fl s' hs
  match fl, hs with
  | .ret u, ⟨v, σ', H', J', rv, q⟩ => exact ⟨v, H', J'.os, J'.bare, J'.base, J'.hok, rv, q⟩
  | .next, ⟨σ', H', J', q⟩ => exact ⟨V.non, H', J'.os, J'.bare, J'.base, J'.hok, rfl, q⟩
  | .brk, ⟨_, _, _, q⟩ => exact q.elim
  | .cont, ⟨_, _, _, q⟩ => exact q.elim
end
section
variable {P : Program} {w : World} {K : PySem.W.Frag} {mg mb : Str → Option Value} {f a : Addr} {fd : FuncData} {p : Str} {k : Nat} {g : List Int → Option (Rs D)} {s : Shared} {us : List Value} {ns : List Int}
/-- the script's object -/
def scrO (us : List Value) : Obj := { cls := .type "list", data := .seq us.toArray }
/-- what is tracked: nothing, or the script alone -/
structure Trk (K : PySem.W.Frag) (h : Heap) (a : Addr) (us : List Value) (ns : List Int) (H : Hp) : Prop where
  only : ∀ b u, H b = some u → b = a ∧ u = .frz (scrO us) (.lst (ns.map V.int)) ∧ K.lookup a = none
  seq : SqL K H a (ns.map V.int)
theorem trk_free {h : Heap} {H : Hp} (T : Trk K h a us ns H) {b : Addr} (e : b ≠ a ∨ K.lookup a ≠ none) : H b = none := by
  cases q : H b with
  | none => rfl
  | some u =>
    obtain ⟨z, _, l⟩ := T.only b u q
    rcases e with e | e
    · exact absurd z e
    · exact absurd l e
theorem trk_ex (inK : K.In s.heap) (obj : s.heap.get? a = some (scrO us)) (hints : IntsAre us ns) (fits : ns.length ≤ sizeLine) : ∃ H, Trk K s.heap a us ns H ∧ HOk P w H s.heap := by
  have vals := vals_ints hints
  have len := hints.length
  by_cases hk : K.lookup a = none
  · refine ⟨fun b => if b = a then some (.frz (scrO us) (.lst (ns.map V.int))) else none, ⟨fun b u e => ?_, .inl (.inr ⟨scrO us, if_pos rfl⟩)⟩, fun b u e => ?_⟩
    · by_cases hb : b = a
      · rw [if_pos hb] at e
        exact ⟨hb, (Option.some.inj e).symm, hk⟩
      · rw [if_neg hb] at e; cases e
    · by_cases hb : b = a
      · subst hb
        dsimp only at e
        rw [if_pos rfl] at e
        cases e
        exact ⟨obj, by rw [List.length_map]; exact fits, us, _, vals, obj⟩
      · dsimp only at e
        rw [if_neg hb] at e; cases e
  · obtain ⟨o, ho⟩ := Option.ne_none_iff_exists'.mp hk
    have e := inK a o ho
    rw [obj] at e
    cases e
    exact ⟨fun _ => none, ⟨fun b u e => (by cases e), .inr ⟨_, us.toArray, _, ho, rfl, rfl, rfl, by rw [List.size_toArray, len]; exact fits, by simpa using vals⟩⟩, fun b u e => (by cases e)⟩
theorem law_run (inK : K.In s.heap) (main : s.heap.Ns mainGlobals mg) (blt : s.heap.Ns builtinsNs mb) (boot : ∀ x : Str, x ≠ "__name__" → mb x = bootBuiltins x) (lim : s.heap.NoLimit) (gens : s.gens = #[])
    (obj : s.heap.get? a = some (scrO us)) (hints : IntsAre us ns) (fits : ns.length ≤ sizeLine) (room : Room k callerA)
    (F : ∀ base : Heap, K.In base → base.Ns mainGlobals mg → LawFn P w K mg base f fd p k g) (bind : ∀ (s : Shared) (u : Value), BindsTo s fd ⟨[u], []⟩ [(p, u)]) (done : g ns = some (.ok (.bool true))) :
    codeAny (model P w) callerA (.call (.ref f) ⟨[.ref a], []⟩) (fun r s' => r = .ok (.ret (.bool true)) ∧ OldK s.heap s'.heap ∧ s'.os = s.os ∧ AllBare s'.gens) s := by
  obtain ⟨H, T, ok⟩ := trk_ex (P := P) (w := w) inK obj hints fits
  have isList : ∀ {o : Obj}, s.heap.get? a = some o → ∀ es n, o.data ≠ .dict es n := fun {o} e es n d => by
    rw [obj] at e; cases e; cases d
  have shown : ∀ {b : Addr} {m : Str → Option Value}, s.heap.Ns b m → (hidT s.heap H).Ns b m := by
    rintro b m ⟨o, es, n, e, d, r⟩
    exact ⟨o, es, n, hidT_get e (trk_free T (.inl fun z => isList (z ▸ e) es n d)), d, r⟩
  have inKb : K.In (hidT s.heap H) := fun b o e => by
    refine hidT_get (inK b o e) (trk_free T ?_)
    by_cases z : b = a
    · exact .inr fun y => by rw [← z, e] at y; cases y
    · exact .inl z
  obtain ⟨mc, n1, n2⟩ := lim
  have mod : Mod K mg (hidT s.heap H) := ⟨inKb, shown main, ⟨mb, shown blt, boot⟩, ⟨mc, shown n1, n2⟩⟩
  have e0 : Env0 P w K mg (hidT s.heap H) callerA [] s H := ⟨rfl, mod, fun b o e => of_hidT e, (by rw [hidT_size]; exact Nat.le_refl _), trivial, fun b z => (by cases z), ok, .of_eq gens⟩
  refine codeAny_mono (F _ inKb (shown main) s H a ns room e0 (bind s (.ref a)) T.seq done) fun r s' h => ?_
  match r, h with
  | .error e, h => exact (hCX0 h).elim
  | .ok .next, h => exact h.elim
  | .ok .brk, h => exact h.elim
  | .ok .cont, h => exact h.elim
  | .ok (.ret u), ⟨v, H', os, bare, un, ok', rv, q⟩ =>
    subst q
    obtain rfl : u = Value.bool true := rv
    refine ⟨rfl, OldK.of_keep fun b o e => ?_, os, bare⟩
    cases y : H b with
    | none => exact un.keep b o e y (fun z => by cases z) fun z => by cases z
    | some u =>
      obtain ⟨rfl, rfl, _⟩ := T.only b u y
      have z := (ok' b _ (un.frzs b _ _ y)).1
      rw [obj] at e
      cases e
      exact z
end
theorem walk_ofG {l : PySem.W.OpenLaw} {n k : Nat} {q : Program} {loose : List Str} {XP : (Str → Option Value) → Heap → Prop} {YP : World → Heap → Prop} {d : DefRec} {K : Params → PySem.W.Frag} {p : Str} {g : List Int → Option (Rs D)}
    (most : l.most = some n) (small : n ≤ sizeLine) (noDef : d.params.defaults = []) (room : Room k callerA) (inK : ∀ (w : World) (h : Heap), YP w h → (K w.params).In h)
    (F : ∀ (w : World) (mg : Str → Option Value) (f : Addr) (h : Heap), (K w.params).In h → h.Ns mainGlobals mg → mg d.name = some (.ref f) →
      ∃ fd : FuncData, (∀ (s : Shared) (u : Value), BindsTo s fd ⟨[u], []⟩ [(p, u)]) ∧ ∀ base : Heap, (K w.params).In base → base.Ns mainGlobals mg → LawFn l.prog w (K w.params) mg base f fd p k g)
    (done : ∀ ns : List Int, ns.length ≤ n → g ns = some (.ok (.bool true))) : PySem.W.WalkO q loose XP YP l.row.toRowW d [] (fun f vs => PySem.call f vs) := by
  refine Att.attach_call most noDef ?_
  intro w s₀ s₁ mg mb f o pm cd doc a vs ns G Y _ _ _ hmg hobj hints hlen hg
  obtain ⟨fd, bind, hF⟩ := F w mg f _ (inK w _ Y) G.T.g hmg
  exact law_run (inK w _ Y) G.T.g G.T.b G.T.builtins G.T.nolimit hg hobj hints (Nat.le_trans hlen small) room hF bind (done ns hlen)
/-! ### what is shown: repr of anything that is read -/
section
variable {X : Cx} {K : PySem.W.Frag}
def rShow (K : PySem.W.Frag) : List V → Hp → VK → Prop := fun xs H Q => ∃ (a : Addr) (d : D), xs = [.ref a] ∧ L2.Dp K H (.ref a) d ∧ d.showable = true ∧ d.hasDict = false ∧ d.depth ≤ 60 ∧ d.shown.length ≤ sizeLine ∧ Q (.str d.shown) H
theorem cr_show (hg : X.A.guards = some []) (hu : X.A.units + 64 < cLine) : CallR X (.builtin "repr") (rShow X.K) := by
  intro pins s σ H xs us Q I rv h
  obtain ⟨a, d, rfl, dp, sh, nd, dep, len, q⟩ := h
  cases rv with
  | cons r1 r2 =>
    cases r2
    obtain ⟨as, rd⟩ := L2.Dp.reads I d _ _ dp r1
    cases r1
    exact repr_of_reads' rd sh (fun z => by rw [nd] at z; cases z) hg (by omega) (fun b o e => e) (fun h' u tk k => ⟨.str d.shown, H, I.kept k, ⟨_, rfl⟩, q⟩) len
def showOk : D → Bool
  | .list ds => (PyData.list ds).showable && !(PyData.list ds).hasDict && decide ((PyData.list ds).depth ≤ 60) && fit (PyData.list ds).shown.length
  | .tuple ds => (PyData.tuple ds).showable && !(PyData.tuple ds).hasDict && decide ((PyData.tuple ds).depth ≤ 60) && fit (PyData.tuple ds).shown.length
  | _ => false
def showD : List D → Option D
  | [d] => if showOk d = true then some (.str d.shown) else none
  | _ => none
theorem showOk_ref {d : D} (h : showOk d = true) : d.showable = true ∧ d.hasDict = false ∧ d.depth ≤ 60 ∧ d.shown.length ≤ sizeLine ∧ ((∃ ds, d = .list ds) ∨ ∃ ds, d = .tuple ds) := by
  cases d with
  | list ds =>
    simp only [showOk, Bool.and_eq_true, Bool.not_eq_true', decide_eq_true_eq] at h
    exact ⟨h.1.1.1, h.1.1.2, h.1.2, fit_le h.2, .inl ⟨_, rfl⟩⟩
  | tuple ds =>
    simp only [showOk, Bool.and_eq_true, Bool.not_eq_true', decide_eq_true_eq] at h
    exact ⟨h.1.1.1, h.1.1.2, h.1.2, fit_le h.2, .inr ⟨_, rfl⟩⟩
  | _ => cases h
theorem cd_show : CallD K (rShow K) showD := by
  intro W c σ H F ρ xs ds d Q ok r e q
  unfold showD at e
  split at e
  · rename_i d'
    split at e
    · rename_i hs
      cases e
      obtain ⟨x, rfl, pk⟩ := pk1 r
      obtain ⟨h1, h2, h3, h4, h5⟩ := showOk_ref hs
      have dp := Pk.dp ok.sub pk
      have hx : ∃ a, x = .ref a := by
        rcases h5 with ⟨es, rfl⟩ | ⟨es, rfl⟩
        · obtain ⟨p, _, e, _⟩ := Pk.lst ok.sub pk; exact ⟨p, e⟩
        · obtain ⟨p, _, e, _⟩ := Pk.tup ok.sub pk; exact ⟨p, e⟩
      obtain ⟨a, rfl⟩ := hx
      exact ⟨a, d', rfl, dp, h1, h2, h3, h4, post_ok q ok _ (.str _)⟩
    · cases e
  · cases e
def reprG : List D → Option D := cOr reprD showD
theorem cd_reprG : CallD K (rOr rRepr (rShow K)) reprG := callD_or cd_repr cd_show
theorem cr_reprG (hg : X.A.guards = some []) (hu : X.A.units + 64 < cLine) : CallR X (.builtin "repr") (rOr rRepr (rShow X.K)) := CallR.or cr_repr (cr_show hg hu)
end
end Dd

namespace Dd
open PySem PySem.Spec L2 PyProof.Rows
/-! ### bits -/
section
variable {K : PySem.W.Frag}
def andD : D → D → Option D := iI fun i j => .int (Builtin.bitAnd i j)
def orD : D → D → Option D := iI fun i j => .int (Builtin.bitOr i j)
def xorD : D → D → Option D := iI fun i j => .int (Builtin.bitXor i j)
theorem opD_and : OpD K (rI0 fun i j => .int (Builtin.bitAnd i j)) andD := opD_I fun _ _ _ => .int _
theorem opD_or_ : OpD K (rI0 fun i j => .int (Builtin.bitOr i j)) orD := opD_I fun _ _ _ => .int _
theorem opD_xor : OpD K (rI0 fun i j => .int (Builtin.bitXor i j)) xorD := opD_I fun _ _ _ => .int _
def cShr (_ j : Int) : Bool := decide (0 ≤ j)
def shrD : D → D → Option D := iIc cShr fun i j => .int (i / 2 ^ j.toNat)
theorem opD_shr : OpD K (rI (fun _ j => 0 ≤ j) fun i j => .int (i / 2 ^ j.toNat)) shrD := opD_Ic (fun _ _ h => of_decide_eq_true h) fun _ _ _ => .int _
def shlD : D → D → Option D := iIc cPow fun i j => .int (i * 2 ^ j.toNat)
theorem cPow_ok (i j : Int) (h : cPow i j = true) : CPow i j := by
  simp only [cPow, Bool.and_eq_true, decide_eq_true_eq] at h
  exact ⟨h.1.1, h.1.2, h.2⟩
theorem opD_shl : OpD K (rI CPow fun i j => .int (i * 2 ^ j.toNat)) shlD := opD_Ic cPow_ok fun _ _ _ => .int _
theorem opD_mulI : OpD K (rI CMul fun i j => .int (i * j)) mulI := opD_Ic cMul_ok fun _ _ _ => .int _
end
/-! ### a slice by steps, of a list -/
def pickL {α : Type} (ds : List α) (lo hi st : Option Int) : List α := (sliceRange (sliceBounds lo hi st ds.length).1 (sliceBounds lo hi st ds.length).2.1 (sliceBounds lo hi st ds.length).2.2).filterMap (ds[·]?)
section
variable {K : PySem.W.Frag} {F : Hp}
theorem picks_dp {vs : List V} {ds : List D} (h : DpAll K F vs ds) : ∀ idx : List Nat, DpAll K F (idx.filterMap (vs[·]?)) (idx.filterMap (ds[·]?))
  | [] => .nil
  | i :: idx => by
    have ih := picks_dp h idx
    cases e : ds[i]? with
    | none =>
      have l := DpAll.length h
      have e2 : vs[i]? = none := List.getElem?_eq_none (by rw [l]; exact List.getElem?_eq_none_iff.mp e)
      rw [List.filterMap_cons_none (by exact e2), List.filterMap_cons_none (by exact e)]
      exact ih
    | some d =>
      obtain ⟨v, e2, r⟩ := DpAll.getd h e
      rw [List.filterMap_cons_some (by exact e2), List.filterMap_cons_some (by exact e)]
      exact .cons r ih
theorem DpAll.pick {vs : List V} {ds : List D} (h : DpAll K F vs ds) (lo hi st : Option Int) : DpAll K F (pickL vs lo hi st) (pickL ds lo hi st) := by
  unfold pickL
  rw [DpAll.length h]
  exact picks_dp h _
theorem vals_get {xs : List V} {us : List Value} (r : Vals xs us) : ∀ i : Nat, (xs[i]? = none ∧ us[i]? = none) ∨ ∃ x u, xs[i]? = some x ∧ us[i]? = some u ∧ RelV x u := by
  induction r with
  | nil => intro i; exact .inl ⟨by simp, by simp⟩
  | cons h _ ih =>
    intro i
    cases i with
    | zero => exact .inr ⟨_, _, rfl, rfl, h⟩
    | succ i => simpa using ih i
theorem picks_vals {xs : List V} {us : List Value} (r : Vals xs us) : ∀ idx : List Nat, Vals (idx.filterMap (xs[·]?)) (idx.filterMap (us[·]?))
  | [] => .nil
  | i :: idx => by
    rcases vals_get r i with ⟨e1, e2⟩ | ⟨x, u, e1, e2, h⟩
    · rw [List.filterMap_cons_none (by exact e1), List.filterMap_cons_none (by exact e2)]
      exact picks_vals r idx
    · rw [List.filterMap_cons_some (by exact e1), List.filterMap_cons_some (by exact e2)]
      exact .cons h (picks_vals r idx)
end
def tStep (K : PySem.W.Frag) (te : TE) (tl : TO) (k : Int) : TE := fun σ H Q => te σ H fun x H1 => tl σ H1 fun l H2 => ∃ a xs, x = .ref a ∧ SqL K H2 a xs ∧ (pickL xs l none (some k)).length ≤ sizeLine ∧ ∀ p, H2 p = none → Q (.ref p) (upd H2 p (.lst (pickL xs l none (some k))))
section
variable {X : Cx} {e : Expr} {te : TE} {tl : TO} {lo : Option Expr} {k : Int} {j : Option Str} {p1 p3 pos : Pos}
theorem pe_step {kk : Nat} (k0 : k ≠ 0) (he : PE X e te) (hl : PO X lo tl) : PE X (.Subscript e (.Slice lo none (some (.Constant (.int k) kk p1)) p3) pos) (tStep X.K te tl k) := by
  refine ⟨fun pins s σ H Q I h => ?_⟩
  refine Subscript_ (thn (he.run pins s σ H _ I h) ?_)
  rintro v s1 ⟨x, H1, I1, rv, q1⟩
  refine wpAny_Slice (thn (hl.run pins s1 σ H1 _ I1 q1) ?_)
  rintro vl s2 ⟨l, H2, I2, pl, q2⟩
  refine thn (po_none.run pins s2 σ H2 (fun o H3 => o = none ∧ H3 = H2) I2 ⟨rfl, rfl⟩) ?_
  rintro vu s3 ⟨u, H3, I3, pu, rfl, rfl⟩
  refine thn ((po_some (pe_int (i := k) (j := kk) (pos := p1))).run pins s3 σ H3 (fun o H4 => o = some k ∧ H4 = H3) I3 ⟨k, rfl, rfl, rfl⟩) ?_
  rintro vs s4 ⟨o, H4, I4, ps, rfl, rfl⟩
  obtain ⟨a, xs, rfl, sq, fits, q⟩ := q2
  cases rv
  have I5 : Inv X pins σ H4 { s4 with heap := s4.heap.push { cls := .type "slice", data := .fields #[vl, vu, vs] } } := I4.kept (t' := s4.toks) fun b ob y => Heap.get?_push_of_some _ y
  obtain ⟨its, r, ht, hz⟩ := I5.list sq
  have len := r.length
  show wpAny (model X.prog X.w) X.A (subscriptTail e (.Slice lo none (some (.Constant (.int k) kk p1)) p3) (.ref a) (.ref s4.heap.objs.size)) (EP X pins σ Q) X.xe { s4 with heap := s4.heap.push { cls := .type "slice", data := .fields #[vl, vu, vs] } }
  refine tail_any (ops := [.ref a, .ref s4.heap.objs.size]) ht.isList.typeIs (PySem.slot_list_getitem.lookup) ?_ (by with_unfolding_all rfl)
  refine wpAny_getItem_list_slice ht.isList (Heap.IsSliceOf.new _ vl vu vs) pl pu ps (by intro z; exact k0 (Option.some.inj z)) ?_ (by rw [List.size_toArray]; omega)
  have same : slicePick its.toArray l none (some k) = (pickL its l none (some k)).toArray := by
    unfold slicePick pickL
    simp
  rw [same]
  refine ⟨.ref _, _, I5.laid (t' := s4.toks) (o := .lst (pickL xs l none (some k))) (fun b ob y => Heap.get?_push_of_some _ y) (Nat.le_refl _) ?_, rfl, q _ (I5.hok.fresh (Nat.le_refl _))⟩
  refine ⟨fits, _, 0, ?_, Heap.get?_push_size _ rfl⟩
  unfold pickL
  rw [len]
  exact picks_vals r _
end
def stepO (k : Int) : D → Option Int → Option (List D)
  | .list ds, lo => if fit (pickL ds lo none (some k)).length = true then some (pickL ds lo none (some k)) else none
  | _, _ => none
def mStepN (k : Int) (m : M D) (ml : M (Option Int)) : M (List D) := mBind m fun d => mBind ml fun l => mLift (stepO k d l)
section
variable {X : Cx} {W : WX} {e : Expr} {lo : Option Expr} {m : M D} {ml : M (Option Int)} {k : Int} {p1 p3 pos : Pos} {kk : Nat}
theorem dStepN (k0 : k ≠ 0) (he : PE X e (tE X.K W m)) (hl : PO X lo (tO X.K W ml)) : PE X (.Subscript e (.Slice lo none (some (.Constant (.int k) kk p1)) p3) pos) (tN X.K W (mStepN k m ml)) := PE.imp (pe_step k0 he hl) (by
  rintro σ H Q ⟨c, F, ρ, ok, h⟩
  refine ⟨c, F, ρ, ok, post_mono ?_ (postN_bind h)⟩
  rintro d H1 F1 _ ⟨ρ1, ok1, s1, h1⟩ x rx
  refine ⟨c, F1, ρ1, ok1, post_mono ?_ (postN_bind h1)⟩
  rintro l H2 F2 _ ⟨ρ2, ok2, s2, h2⟩
  obtain ⟨ds, e, h3⟩ := postN_lift h2
  cases d with
  | list es =>
    unfold stepO at e
    dsimp only at e
    split at e
    · rename_i hf
      cases e
      obtain ⟨p, vs, rfl, hp, dp⟩ := Pk.lst ok2.sub (.inl (Dp.mono s2 rx))
      refine ⟨p, vs, rfl, hp, ?_, fun p hp => new_N ok2 (DpAll.pick dp l none (some k)) h3 p hp⟩
      rw [DpAll.length (DpAll.pick dp l none (some k))]
      exact fit_le hf
    · cases e
  | _ => cases e)
end
/-! ### list + list, a new one -/
def catN : D → D → Option (List D)
  | .list xs, .list ys => if fit (xs.length + ys.length) = true then some (xs ++ ys) else none
  | _, _ => none
def mCatN (ma mb : M D) : M (List D) := mBind ma fun a => mBind mb fun b => mLift (catN a b)
def mCatNL (i : Nat) (mb : M D) : M (List D) := mBind (mPeek i) fun _ => mBind mb fun b => mBind (mPeek i) fun a => mLift (catN a b)
section
variable {X : Cx} {W : WX} {K : PySem.W.Frag} {c : Ct} {σ : L2.St} {F H : Hp} {ρ : En} {ma mb : M D} {a b : Expr} {pos : Pos}
theorem catN_of {x y : V} {a b : D} {ds : List D} {Q : VK} (ok : Ok K c σ H F ρ) (rx : Pk K H F x a) (ry : Pk K H F y b) (e : catN a b = some ds) (q : postN K W c σ F Q (some (.ok ds ρ))) : rCatS x y H Q := by
  unfold catN at e
  split at e
  · rename_i xs ys
    split at e
    · rename_i hf
      cases e
      obtain ⟨p, vs, rfl, hp, dp⟩ := Pk.rd ok.sub rx
      obtain ⟨p2, vs2, rfl, hp2, dp2⟩ := Pk.rd ok.sub ry
      exact ⟨p, p2, vs, vs2, rfl, rfl, hp, hp2, by rw [DpAll.length dp, DpAll.length dp2]; exact fit_le hf, fun p hp => new_N ok (DpAll.append dp dp2) q p hp⟩
    · cases e
  · cases e
theorem dCatN (ha : PE X a (tE X.K W ma)) (hb : PE X b (tP X.K W mb)) : PE X (.BinOp a .Add b pos) (tN X.K W (mCatN ma mb)) := PE.imp (pe_op op_catS ha hb) (by
  rintro σ H Q ⟨c, F, ρ, ok, h⟩
  refine ⟨c, F, ρ, ok, post_mono ?_ (postN_bind h)⟩
  rintro a H1 F1 _ ⟨ρ1, ok1, s1, h1⟩ x rx
  refine ⟨c, F1, ρ1, ok1, post_mono ?_ (postN_bind h1)⟩
  rintro b H2 F2 _ ⟨ρ2, ok2, s2, h2⟩ y ry
  obtain ⟨ds, e, h3⟩ := postN_lift h2
  exact catN_of ok2 (.inl (Dp.mono s2 rx)) ry e h3)
theorem dCatNL {i : Nat} (ha : PE X a (tVar i)) (hb : PE X b (tP X.K W mb)) : PE X (.BinOp a .Add b pos) (tN X.K W (mCatNL i mb)) := PE.imp (pe_op op_catS ha hb) (by
  rintro σ H Q ⟨c, F, ρ, ok, h⟩
  obtain ⟨v, _, ev, _, h⟩ := post_peekN ok h
  refine ⟨v, ev, c, F, ρ, ok, post_mono ?_ (postN_bind h)⟩
  rintro b H2 F2 _ ⟨ρ2, ok2, s2, h2⟩ y ry
  obtain ⟨v', a, ev', pk, h3⟩ := post_peekN ok2 h2
  obtain ⟨ds, e, h4⟩ := postN_lift h3
  have ee : v' = v := by rw [ev] at ev'; cases ev'; rfl
  subst ee
  exact catN_of ok2 pk ry e h4)
end
end Dd

namespace Dd
open PySem PySem.Spec L2 PyProof.Rows
/-! ### sum of a tuple of ints -/
theorem preSum_get (ns : List Int) : ∀ n : Nat, n ≤ ns.length → preSum (fun j => ns.getD j 0) n = (ns.take n).sum
  | 0, _ => rfl
  | n + 1, h => by
    have ih := preSum_get ns n (by omega)
    show preSum (fun j => ns.getD j 0) n + ns.getD n 0 = _
    rw [ih, List.take_succ, List.getElem?_eq_getElem (show n < ns.length by omega), List.sum_append, List.getD_eq_getElem?_getD, List.getElem?_eq_getElem (show n < ns.length by omega)]
    simp
theorem ints_get {us : List Value} {ns : List Int} (r : Vals (ns.map V.int) us) {i : Nat} {v : Value} (e : us[i]? = some v) : ∃ t, v = .int (ns.getD i 0) t := by
  rcases vals_get r i with ⟨_, e2⟩ | ⟨x, u, e1, e2, h⟩
  · rw [e2] at e; cases e
  · rw [e2] at e
    cases e
    rw [List.getElem?_map] at e1
    cases q : ns[i]? with
    | none => rw [q] at e1; cases e1
    | some n =>
      rw [q] at e1
      cases e1
      obtain ⟨t, rfl⟩ := h
      exact ⟨t, by rw [List.getD_eq_getElem?_getD, q]; rfl⟩
def rSumT (K : PySem.W.Frag) : List V → Hp → VK → Prop := fun xs H Q => ∃ (a : Addr) (ns : List Int), xs = [V.ref a] ∧ SqT K H a (ns.map V.int) ∧ Q (.int ns.sum) H
section
variable {X : Cx} {K : PySem.W.Frag}
theorem cr_sumT (hc : X.calm = true) : CallR X (.builtin "sum") (rSumT X.K) := by
  intro pins s σ H xs us Q I rv h
  obtain ⟨a, ns, rfl, sq, q⟩ := h
  obtain ⟨its, r, tup, _⟩ := I.tuple sq
  rw [Vals.ref1 rv]
  have calm : X.A.in1.handled = none := I.ok.hd hc
  have lt : a < s.heap.objs.size := by
    obtain ⟨o, e, _⟩ := show s.heap.IsTuple a its.toArray from tup
    exact Heap.lt_size e
  have len : its.length = ns.length := by rw [← r.length, List.length_map]
  refine call_sum_walkG (wpAny_pyIter_tuple (show s.heap.IsTuple a its.toArray from tup) ?_)
  refine ⟨_, _, _, _, _, _, fun j => ns.getD j 0, rfl, Walks.tuple (A := X.A.in1) calm s.heap.objs.size a (Nat.ne_of_lt lt) its.toArray, ⟨⟨_, Heap.get?_push_size _ rfl, rfl, rfl⟩, ?_⟩, ?_, fun i v e => ints_get r (by simpa using e), ?_⟩
  · exact (show s.heap.IsTuple a its.toArray from tup).at fun o e => Heap.get?_push_of_some _ e
  · intro b hb
    show b < (s.heap.push _).objs.size
    rw [Heap.size_push]
    simp only [List.mem_cons, List.not_mem_nil, or_false] at hb
    rcases hb with rfl | rfl
    · exact Nat.lt_succ_self _
    · exact Nat.lt_succ_of_lt lt
  · intro h' tk t' keep
    have e : preSum (fun j => ns.getD j 0) its.toArray.size = ns.sum := by
      rw [List.size_toArray, len, preSum_get ns _ (Nat.le_refl _), List.take_length]
    rw [e]
    refine ⟨.int ns.sum, H, I.kept fun b o y => ?_, ⟨_, rfl⟩, q⟩
    refine keep b o ?_ (Heap.get?_push_of_some _ y)
    intro z
    have z' : b = s.heap.objs.size := by simpa using z
    exact absurd (Heap.lt_size y) (by rw [z']; exact Nat.lt_irrefl _)
def sumT : List D → Option D
  | [.tuple ds] => (toInts ds).map fun ns => .int ns.sum
  | _ => none
theorem cd_sumT : CallD K (rSumT K) sumT := by
  intro W c σ H F ρ xs ds d Q ok r e q
  unfold sumT at e
  split at e
  · rename_i es
    cases q2 : toInts es with
    | none => rw [q2] at e; cases e
    | some ns =>
      rw [q2] at e
      cases e
      obtain ⟨x, rfl, pk⟩ := pk1 r
      obtain ⟨p, vs, rfl, hp, dp⟩ := Pk.tup ok.sub pk
      have e1 := toInts_eq q2
      subst e1
      have e2 := DpAll.ints dp
      subst e2
      exact ⟨p, ns, rfl, hp, post_ok q ok _ (.int _)⟩
  · cases e
def sumA : List D → Option D := cOr sumD sumT
theorem cr_sumA (hc : X.calm = true) : CallR X (.builtin "sum") (rOr (rSum X.K) (rSumT X.K)) := CallR.or (cr_sum hc) (cr_sumT hc)
theorem cd_sumA : CallD K (rOr (rSum K) (rSumT K)) sumA := callD_or cd_sum cd_sumT
end
/-! ### a slice by steps of a list that stands in a slot -/
def mStepNL (k : Int) (i : Nat) (ml : M (Option Int)) : M (List D) := mBind (mPeek i) fun _ => mBind ml fun l => mBind (mPeek i) fun d => mLift (stepO k d l)
section
variable {X : Cx} {W : WX} {e : Expr} {lo : Option Expr} {ml : M (Option Int)} {k : Int} {p1 p3 pos : Pos} {kk : Nat}
theorem dStepNL {i : Nat} (k0 : k ≠ 0) (he : PE X e (tVar i)) (hl : PO X lo (tO X.K W ml)) : PE X (.Subscript e (.Slice lo none (some (.Constant (.int k) kk p1)) p3) pos) (tN X.K W (mStepNL k i ml)) := PE.imp (pe_step k0 he hl) (by
  rintro σ H Q ⟨c, F, ρ, ok, h⟩
  obtain ⟨v, _, ev, _, h⟩ := post_peekN ok h
  refine ⟨v, ev, c, F, ρ, ok, post_mono ?_ (postN_bind h)⟩
  rintro l H2 F2 _ ⟨ρ2, ok2, s2, h2⟩
  obtain ⟨v', d, ev', pk, h3⟩ := post_peekN ok2 h2
  obtain ⟨ds, e, h4⟩ := postN_lift h3
  have ee : v' = v := by rw [ev] at ev'; cases ev'; rfl
  subst ee
  cases d with
  | list es =>
    unfold stepO at e
    dsimp only at e
    split at e
    · rename_i hf
      cases e
      obtain ⟨p, vs, rfl, hp, dp⟩ := Pk.lst ok2.sub pk
      refine ⟨p, vs, rfl, hp, ?_, fun p hp => new_N ok2 (DpAll.pick dp l none (some k)) h4 p hp⟩
      rw [DpAll.length (DpAll.pick dp l none (some k))]
      exact fit_le hf
    · cases e
  | _ => cases e)
end
end Dd

namespace Dd
open PySem PySem.Spec L2 PyProof.Rows
variable {K : PySem.W.Frag}
/-! ### zip of a list and a tuple, whichever is first -/
/-- a list (false) or a tuple (true), and an iterator of it -/
def SqB (K : PySem.W.Frag) : Bool → Hp → Addr → List V → Prop
  | false, H, a, xs => SqL K H a xs
  | true, H, a, xs => SqT K H a xs
def IsB : Bool → Heap → Addr → Array Value → Prop
  | false, h, a, its => h.IsList a its
  | true, h, a, its => h.IsTuple a its
def ItB : Bool → Heap → Addr → Addr → Nat → Prop
  | false, h, i, a, k => h.IsListIter i a k
  | true, h, i, a, k => h.IsTupleIter i a k
theorem ItB.at {b : Bool} {h h' : Heap} {i a : Addr} {k : Nat} (t : ItB b h i a k) (e : ∀ o, h.get? i = some o → h'.get? i = some o) : ItB b h' i a k := by
  cases b
  · exact Heap.IsListIter.at t e
  · exact Heap.IsTupleIter.at t e
theorem ItB.obj {b : Bool} {h : Heap} {i a : Addr} {k : Nat} (t : ItB b h i a k) : ∃ o, h.get? i = some o ∧ ∀ v, o.data ≠ .cell v := by
  cases b
  · obtain ⟨o, e, _, d⟩ := t
    exact ⟨o, e, fun v q => by rw [d] at q; cases q⟩
  · obtain ⟨o, e, _, d⟩ := t
    exact ⟨o, e, fun v q => by rw [d] at q; cases q⟩
theorem IsB.lt {b : Bool} {h : Heap} {a : Addr} {its : Array Value} (t : IsB b h a its) : a < h.objs.size := by
  cases b
  · obtain ⟨o, e, _⟩ := t
    exact Heap.lt_size e
  · obtain ⟨o, e, _⟩ := t
    exact Heap.lt_size e
theorem sqB_inv {X : Cx} {pins : List (Addr × Obj)} {σ : L2.St} {H : Hp} {s : Shared} {b : Bool} {a : Addr} {xs : List V} (I : Inv X pins σ H s) (h : SqB X.K b H a xs) : ∃ its : List Value, Vals xs its ∧ IsB b s.heap a its.toArray := by
  cases b
  · obtain ⟨its, rv, p, _⟩ := I.list h
    exact ⟨its, rv, p.isList⟩
  · obtain ⟨its, rv, p, _⟩ := I.tuple h
    exact ⟨its, rv, p⟩
theorem sqB_inj {X : Cx} {pins : List (Addr × Obj)} {σ : L2.St} {H : Hp} {s : Shared} {b : Bool} {a : Addr} {xs ys : List V} (I : Inv X pins σ H s) (h : SqB X.K b H a xs) (h' : SqB X.K b H a ys) : xs = ys := by
  cases b
  · exact I.list_inj h h'
  · exact I.tuple_inj h h'
theorem drawsB {prog : Program} {w : World} {A : Around} (hh : A.handled = none) (b : Bool) (it l : Addr) (hne : l ≠ it) (items : Array Value) :
    Draws prog w A it [it, l] items.size (fun i v => items[i]? = some v) (fun i h => ItB b h it l i ∧ IsB b h l items) := by
  cases b
  · exact Draws.list hh it l hne items
  · exact Draws.tuple hh it l hne items
theorem sepB {z TI TO i1 i2 a b : Addr} (D : ZipApart z TI TO i1 i2 a b) : ZipSep2 z TI TO i1 i2 [i1, a] [i2, b] where
  TIz := D.TIz
  TOz := D.TOz
  TITO := D.TITO
  TIi1 := D.TIi1
  mem1 := by simp
  zf1 := by simp [D.i1z.symm, D.l1z.symm]
  Tf1 := by simp [D.TOi1, D.l1TO.symm]
  TIi2 := D.TIi2
  mem2 := by simp
  zf2 := by simp [D.i2z.symm, D.l2z.symm]
  Tf2 := by simp [D.TOi2, D.l2TO.symm]
  sep1_2 := by simp [D.i12, D.l2i1.symm]
  sep2_1 := by simp [D.i12.symm, D.l1i2.symm]
/-- the items of both in new pairs -/
def Itzb (K : PySem.W.Frag) (b1 b2 : Bool) (a b : Addr) (n1 n2 : Nat) : It :=
  ⟨fun i H => ∃ (xs ys : List V) (x y : V), SqB K b1 H a xs ∧ SqB K b2 H b ys ∧ xs.length = n1 ∧ ys.length = n2 ∧ xs[i]? = some x ∧ ys[i]? = some y,
    fun i H v H' => ∃ T x y, v = .ref T ∧ H T = none ∧ H' = upd H T (.tup [x, y]) ∧ (∀ xs, SqB K b1 H a xs → xs[i]? = some x) ∧ ∀ ys, SqB K b2 H b ys → ys[i]? = some y,
    fun i H => ∃ xs ys : List V, SqB K b1 H a xs ∧ SqB K b2 H b ys ∧ xs.length = n1 ∧ ys.length = n2 ∧ (n1 ≤ i ∨ n2 ≤ i)⟩
theorem in1_handled {A : Around} (h : A.handled = none) : A.in1.handled = none := h
theorem turn_zipB {P : Program} {w : World} {elts : List Expr} {kk : Nat} {tpos : Pos} {b1 b2 : Bool} {a b z TI TO i1 i2 : Addr} {n1 n2 : Nat} (D : ZipApart z TI TO i1 i2 a b) :
    Turn P w K (.Tuple elts kk tpos) (Itzb K b1 b2 a b n1 n2) [z, TI, TO, i1, i2] z (fun i h => IsZip h z TI TO .none ∧ IsTupOf2 h TI (.ref i1) (.ref i2) ∧ (∃ x y, IsTupOf2 h TO x y) ∧ ItB b1 h i1 a i ∧ ItB b2 h i2 b i ∧ i ≤ n1 ∧ i ≤ n2) where
  mem := by simp
  obj := fun i h st c hc => by
    obtain ⟨hz, hTI, ⟨x, y, hTO⟩, h1, h2, hn1, hn2⟩ := st
    have e' : c = z ∨ c = TI ∨ c = TO ∨ c = i1 ∨ c = i2 := by simpa using hc
    rcases e' with rfl | rfl | rfl | rfl | rfl
    · exact ⟨_, hz, fun v q => nomatch q⟩
    · exact ⟨_, hTI, fun v q => nomatch q⟩
    · exact ⟨_, hTO, fun v q => nomatch q⟩
    · exact h1.obj
    · exact h2.obj
  keep := fun i h h' st k => by
    obtain ⟨hz, hTI, ⟨x, y, hTO⟩, h1, h2, hn1, hn2⟩ := st
    exact ⟨k z (by simp) _ hz, k TI (by simp) _ hTI, ⟨x, y, k TO (by simp) _ hTO⟩, h1.at fun o q => k i1 (by simp) o q, h2.at fun o q => k i2 (by simp) o q, hn1, hn2⟩
  item := by
    intro X hP hw hK hc i pins s σ H E I hf st hg
    subst hP hw hK
    obtain ⟨hz, hTI, ⟨x0, y0, hTO⟩, h1, h2, hn1, hn2⟩ := st
    obtain ⟨xs, ys, x, y, hqx, hqy, ln1, ln2, hx, hy⟩ := hg
    obtain ⟨its, rv, p⟩ := sqB_inv I hqx
    obtain ⟨its2, rv2, p2⟩ := sqB_inv I hqy
    obtain ⟨u, hu, ru⟩ := rv.get hx
    obtain ⟨u2, hu2, ru2⟩ := rv2.get hy
    have hzl : z < s.heap.objs.size := Heap.lt_size hz
    have hh := in1_handled (I.ok.hd hc)
    have lt1 : i < its.toArray.size := by
      have := (List.getElem?_eq_some_iff.mp hu).1
      simpa using this
    have lt2 : i < its2.toArray.size := by
      have := (List.getElem?_eq_some_iff.mp hu2).1
      simpa using this
    refine wpAny_pyNext_zipD2_item (sepB D) (drawsB hh b1 i1 a D.l1i1 its.toArray) (drawsB hh b2 i2 b D.l2i2 its2.toArray) hz hTI hTO ⟨h1, p⟩ ⟨h2, p2⟩ lt1 lt2 fun x1 x2 h' tk q1 q2 z' TO' d1 d2 hT hsz hk => ?_
    have ex1 : x1 = u := by
      have : its.toArray[i]? = some u := by simpa using hu
      rw [this] at q1
      exact (Option.some.inj q1).symm
    have ex2 : x2 = u2 := by
      have : its2.toArray[i]? = some u2 := by simpa using hu2
      rw [this] at q2
      exact (Option.some.inj q2).symm
    subst ex1 ex2
    refine ⟨_, rfl, wpAny_letOwnedTupleGo_zip (s := { s with heap := h', toks := tk }) z' fun h'' z'' sb => ?_⟩
    have hT2 : h''.get? s.heap.objs.size = some { cls := .type "tuple", data := .seq #[x1, x2] } := (sb.2 _ (Nat.ne_of_gt hzl)).trans hT
    have new : ObjOk X.prog X.w (upd H s.heap.objs.size (.tup [x, y])) h'' s.heap.objs.size (.tup [x, y]) :=
      ⟨by show 2 ≤ sizeLine; decide, [x1, x2], .cons ru (.cons ru2 .nil), ⟨_, hT2, rfl, _, rfl⟩⟩
    have I1 : Inv X pins σ (upd H s.heap.objs.size (.tup [x, y])) { s with heap := h'', toks := tk } :=
      I.turnedNew (t' := tk) (ch := [z, TI, TO, i1, i2]) (fun c o hb q => (sb.2 c (fun q' => hb (by simp [q']))).trans (hk c o (fun q' => hb (by simp [q'])) (fun q' => hb (by simp [q'])) (fun q' => hb (by simp [q'])) (fun q' => hb (by simp [q'])) q)) hf (Nat.le_refl _) new
    refine ⟨.ref s.heap.objs.size, _, I1, rfl, ⟨_, x, y, rfl, I.hok.fresh (Nat.le_refl _), rfl, fun l hl => by rw [sqB_inj I hl hqx]; exact hx, fun l hl => by rw [sqB_inj I hl hqy]; exact hy⟩, ⟨z'', ?_, ⟨x1, x2, ?_⟩, ?_, ?_, ?_, ?_⟩, fun c hcm => ?_⟩
    · exact (sb.2 _ D.TIz).trans (hk _ _ D.TIz D.TITO D.TIi1 D.TIi2 hTI)
    · exact (sb.2 _ D.TOz).trans TO'
    · exact d1.1.at fun o q => (sb.2 _ D.i1z).trans q
    · exact d2.1.at fun o q => (sb.2 _ D.i2z).trans q
    · have := (List.getElem?_eq_some_iff.mp hx).1; omega
    · have := (List.getElem?_eq_some_iff.mp hy).1; omega
    · have hlt : c < s.heap.objs.size := by
        have e' : c = z ∨ c = TI ∨ c = TO ∨ c = i1 ∨ c = i2 := by simpa using hcm
        rcases e' with rfl | rfl | rfl | rfl | rfl
        · exact hzl
        · exact Heap.lt_size hTI
        · exact Heap.lt_size hTO
        · obtain ⟨_, e1, _⟩ := h1.obj; exact Heap.lt_size e1
        · obtain ⟨_, e2, _⟩ := h2.obj; exact Heap.lt_size e2
      rw [upd_ne (Nat.ne_of_lt hlt)]
      exact (hf c hcm).1
  done := by
    intro X hP hw hK hc i pins s σ H E I hf st hg
    subst hP hw hK
    obtain ⟨hz, hTI, ⟨x0, y0, hTO⟩, h1, h2, hn1, hn2⟩ := st
    obtain ⟨xs, ys, hqx, hqy, ln1, ln2, hend⟩ := hg
    obtain ⟨its, rv, p⟩ := sqB_inv I hqx
    obtain ⟨its2, rv2, p2⟩ := sqB_inv I hqy
    have l1 := rv.length
    have l2 := rv2.length
    have hh := in1_handled (I.ok.hd hc)
    refine wpAny_pyNext_zipD2_end (sepB D) (drawsB hh b1 i1 a D.l1i1 its.toArray) (drawsB hh b2 i2 b D.l2i2 its2.toArray) hz hTI hTO ⟨h1, p⟩ ⟨h2, p2⟩ (by simp; omega) (by simp; omega) (by simp; omega) fun h' tk hk => ⟨rfl, I.turnedL (t' := tk) (ch := [z, TI, TO, i1, i2]) (fun c o hb q =>
      hk c o (fun q' => hb (by simp [q'])) (fun q' => hb (by simp [q'])) (fun q' => hb (by simp [q'])) (fun q' => hb (by simp [q'])) q) hf⟩
  self := fun A i s Q E st h => wpAny_pyIter_zip st.1 h
/-- iter of a list or a tuple -/
def objB : Bool → Addr → Obj
  | false, l => { cls := .type "list_iterator", data := .fields #[.ref l, .int 0 0] }
  | true, l => { cls := .type "tuple_iterator", data := .fields #[.ref l, .int 0 0] }
theorem beginsB (b : Bool) (l : Addr) (items : Array Value) : Begins (.ref l) (objB b l) fun h => IsB b h l items := by
  cases b
  · exact begins_list l items
  · exact begins_tuple l items
theorem itB_of {b : Bool} {h : Heap} {i l : Addr} (e : h.get? i = some (objB b l)) : ItB b h i l 0 := by
  cases b
  · exact ⟨_, e, rfl, rfl⟩
  · exact ⟨_, e, rfl, rfl⟩
def iZipB (K : PySem.W.Frag) (ta : TA) : TI := fun σ H R => ta σ H fun vs H1 => ∃ b1 b2 a b xs ys, vs = [.ref a, .ref b] ∧ SqB K b1 H1 a xs ∧ SqB K b2 H1 b ys ∧ R (Itzb K b1 b2 a b xs.length ys.length) H1
theorem pi_zipB {X : Cx} {e e2 : Expr} {ta : TA} {p pos tpos : Pos} {elts : List Expr} {kk : Nat} (hg : Gl X "zip") (hm : X.mg "zip" = none) (ha : PA X [e, e2] ta)
    (hs : starEach [e, e2] X.env = (false, eval e X.env) :: starEach [e2] X.env := by rfl) (hpl : (backTo pos (starEach [e2] X.env)).any (·.1) = false := by rfl) :
    PI X (.Tuple elts kk tpos) (.Call (.Name "zip" p) [e, e2] [] pos) (iZipB X.K ta) := by
  refine ⟨fun pins s σ H R I h => ?_⟩
  refine Call_ (ld_blt I hg hm PyProof.Rows.boot_zip (PyProof.Rows.callWith_type1 (thn (ha.run pos pins s σ H _ I h) fun us s1 ⟨vs, H1, I1, r1, q1⟩ => ?_) hs hpl))
  obtain ⟨b1, b2, a, b, xs, ys, ex, hqx, hqy, q⟩ := q1
  subst ex
  cases r1 with
  | cons r rr =>
    cases rr with
    | cons r' rr =>
      cases rr
      cases r
      cases r'
      have fresh5 : ∀ c, c ∈ [s1.heap.objs.size + 4, s1.heap.objs.size + 2, s1.heap.objs.size + 3, s1.heap.objs.size, s1.heap.objs.size + 1] → FpOk X pins H1 c := fun c hcm => by
        have e' : c = s1.heap.objs.size + 4 ∨ c = s1.heap.objs.size + 2 ∨ c = s1.heap.objs.size + 3 ∨ c = s1.heap.objs.size ∨ c = s1.heap.objs.size + 1 := by simpa using hcm
        have hle : s1.heap.objs.size ≤ c := by
          rcases e' with rfl | rfl | rfl | rfl | rfl
          · exact Nat.le_add_right _ _
          · exact Nat.le_add_right _ _
          · exact Nat.le_add_right _ _
          · exact Nat.le_refl _
          · exact Nat.le_add_right _ _
        exact I1.fpOk hle (I1.hok.fresh hle)
      obtain ⟨its, rv, p1⟩ := sqB_inv I1 hqx
      obtain ⟨its2, rv2, p2⟩ := sqB_inv I1 hqy
      refine zip_begins2 (beginsB b1 a its.toArray) (beginsB b2 b its2.toArray) p1 p2 fun h' hz hTI hTO h1 h2 hsz hk => wpAny_pyIter_zip hz ?_
      have I2 : Inv X pins σ H1 { s1 with heap := h' } := I1.kept (t' := s1.toks) hk
      exact ⟨s1.heap.objs.size + 4, [s1.heap.objs.size + 4, s1.heap.objs.size + 2, s1.heap.objs.size + 3, s1.heap.objs.size, s1.heap.objs.size + 1], _, _, H1, rfl, I2, turn_zipB (PySem.W.ktu_apart s1.heap.objs.size a b p1.lt p2.lt), ⟨hz, hTI, ⟨_, _, hTO⟩, itB_of h1, itB_of h2, Nat.zero_le _, Nat.zero_le _⟩, fresh5, q⟩
theorem sqB_mono {F H : Hp} {b : Bool} {a : Addr} {xs : List V} (s : Same F H) (h : SqB K b F a xs) : SqB K b H a xs := by
  cases b
  · rcases h with h | h
    · exact .inl (Rd.mono s h)
    · exact .inr h
  · exact SqT.mono s h
theorem itzB_D {F : Hp} {b1 b2 : Bool} {a b : Addr} {xs ys : List V} {ds es : List D} (h : SqB K b1 F a xs) (hd : DpAll K F xs ds) (h2 : SqB K b2 F b ys) (hd2 : DpAll K F ys es) : ItD K F (Itzb K b1 b2 a b xs.length ys.length) (zipL ds es) where
  go := fun H i s hi => by
    have hl : i < ds.length ∧ i < es.length := by simp [zipL] at hi; omega
    obtain ⟨x, q⟩ : ∃ x, xs[i]? = some x := ⟨xs[i]'(by rw [DpAll.length hd]; exact hl.1), by simp⟩
    obtain ⟨y, q'⟩ : ∃ x, ys[i]? = some x := ⟨ys[i]'(by rw [DpAll.length hd2]; exact hl.2), by simp⟩
    exact ⟨xs, ys, x, y, sqB_mono s h, sqB_mono s h2, rfl, rfl, q, q'⟩
  stop := fun H i s hi => ⟨xs, ys, sqB_mono s h, sqB_mono s h2, rfl, rfl, by rw [DpAll.length hd, DpAll.length hd2]; simp [zipL] at hi; omega⟩
  yld := fun H i x H' d s q y => by
    obtain ⟨T, z, z2, e1, e2, e3, y, y2⟩ := y
    obtain ⟨yd, zd, q1, q1', e4⟩ := zipL_get q
    obtain ⟨v, q2, q3⟩ := DpAll.getd hd q1
    obtain ⟨v2, q2', q3'⟩ := DpAll.getd hd2 q1'
    have q4 := y xs (sqB_mono s h)
    have q5 := y2 ys (sqB_mono s h2)
    rw [q4] at q2
    rw [q5] at q2'
    cases q2
    cases q2'
    exact .inr ⟨T, _, _, e4, e1, e2, e3, .cons q3 (.one q3')⟩
def zipBD : List D → Option (List D)
  | [.list ds, .list es] => some (zipL ds es)
  | [.tuple ds, .tuple es] => some (zipL ds es)
  | [.list ds, .tuple es] => some (zipL ds es)
  | [.tuple ds, .list es] => some (zipL ds es)
  | _ => none
def mZipB (ms : M (List D)) : M (List D) := mBind ms fun ds => mLift (zipBD ds)
def sqOf : D → Option (Bool × List D)
  | .list ds => some (false, ds)
  | .tuple ds => some (true, ds)
  | _ => none
theorem sqOf_dp {F : Hp} {x : V} {d : D} {b : Bool} {ds : List D} (h : Dp K F x d) (e : sqOf d = some (b, ds)) : ∃ a xs, x = .ref a ∧ SqB K b F a xs ∧ DpAll K F xs ds := by
  cases h with
  | lst hr hd => cases e; exact ⟨_, _, rfl, .inl hr, hd⟩
  | tup hr hd => cases e; exact ⟨_, _, rfl, hr, hd⟩
  | _ => cases e
theorem zipBD_of {ds : List D} {out : List D} (e : zipBD ds = some out) : ∃ d d' b b' es es', ds = [d, d'] ∧ sqOf d = some (b, es) ∧ sqOf d' = some (b', es') ∧ out = zipL es es' := by
  unfold zipBD at e
  split at e
  · cases e; exact ⟨_, _, _, _, _, _, rfl, rfl, rfl, rfl⟩
  · cases e; exact ⟨_, _, _, _, _, _, rfl, rfl, rfl, rfl⟩
  · cases e; exact ⟨_, _, _, _, _, _, rfl, rfl, rfl, rfl⟩
  · cases e; exact ⟨_, _, _, _, _, _, rfl, rfl, rfl, rfl⟩
  · cases e
variable {X : Cx} {W : WX} {a b : Expr} {elts : List Expr} {kk : Nat} {p pos tpos : Pos} {ms : M (List D)}
theorem diZipB (hm : X.mg "zip" = none) (ha : PA X [a, b] (tA X.K W ms)) (hg : Gl X "zip" := by rfl) (hs : starEach [a, b] X.env = (false, eval a X.env) :: starEach [b] X.env := by rfl) (hpl : (backTo pos (starEach [b] X.env)).any (·.1) = false := by rfl) :
    PI X (.Tuple elts kk tpos) (.Call (.Name "zip" p) [a, b] [] pos) (tI X.K W (mZipB ms)) := PI.imp (pi_zipB hg hm ha hs hpl) (by
  rintro σ H R ⟨c, F, ρ, ok, h⟩
  refine ⟨c, F, ρ, ok, post_mono ?_ (post_bind h)⟩
  rintro ds H1 F1 _ ⟨ρ1, ok1, s1, h1⟩ vs rv
  obtain ⟨out, e, h2⟩ := post_lift h1
  obtain ⟨d, d', b, b', es, es', e1, e2, e3, e4⟩ := zipBD_of e
  subst e1 e4
  cases rv with
  | cons r t =>
    cases t with
    | cons r' t' =>
      cases t'
      obtain ⟨a, xs, rfl, q1, q2⟩ := sqOf_dp r e2
      obtain ⟨a', xs', rfl, q1', q2'⟩ := sqOf_dp r' e3
      exact ⟨b, b', a, a', xs, xs', rfl, sqB_mono ok1.sub q1, sqB_mono ok1.sub q1', h2 H1 F1 ok1 (Same.refl F1) _ (itzB_D q1 q2 q1' q2')⟩)
end Dd

namespace Dd
open PySem PySem.Spec L2 PyProof.Rows
/-! ### defs that are called where nothing is being shown: what a def promises there -/
structure FnG (P : Program) (w : World) (K : PySem.W.Frag) (mg : Str → Option Value) (base : Heap) (CX : CXT) (k : Nat) (f : Addr) (fd : FuncData) (ps : List Str) (sp : Sp) : Prop where
  len : ∀ vs H Q E, sp vs H Q E → vs.length = ps.length
  run : ∀ (A : Around) (outer : List Env) (s : Shared) (H : Hp) (args : Args) (us : List Value) (vs : List V) (Q : VK) (E : XK), A.guards = some [] → Room k A → Env0 P w K mg base A outer s H → BindsTo s fd args (ps.zip us) → Vals vs us → sp vs H Q E →
    codeAny (model P w) A (.call (.ref f) args) (CR CX outer P w H s Q E) s
theorem FnG.mono {P : Program} {w : World} {K : PySem.W.Frag} {mg : Str → Option Value} {base : Heap} {CX : CXT} {j k : Nat} {f : Addr} {fd : FuncData} {ps : List Str} {sp : Sp} (F : FnG P w K mg base CX j f fd ps sp) (h : j ≤ k) : FnG P w K mg base CX k f fd ps sp :=
  ⟨F.len, fun A outer s H args us vs Q E hg hr => F.run A outer s H args us vs Q E hg (hr.mono h)⟩
section
variable {P : Program} {w : World} {K : PySem.W.Frag} {mg : Str → Option Value} {base : Heap} {x qual : Str} {st : Stmt} {f : Addr} {fd : FuncData} {N ps : List Str} {k : Nat} {m : M Fl} {sc : Scope} {bd : List Stmt}
theorem okXG {sp : Sp} (Fn : Fun K x qual st f fd) (S : FnScope N ps (defScope st)) (len : ∀ vs H Q E, sp vs H Q E → vs.length = ps.length)
    (hbody : ∀ (cdv : Value) (A : Around) (outer : List Env) (s : Shared) (H : Hp) (vs : List V) (Q : VK) (E : XK), A.guards = some [] → Room k (A.deeper (envOfC qual (defScope st) s.heap.objs.size f cdv)) → sp vs H Q E →
      ∃ t, PSs (cxOf (L2.CX P w) P w K mg base N qual (defScope st) f cdv A outer s H E) (defBody st) t ∧ t { nx := fun _ H' => Q .non H', rt := Q } (L2.start N vs) H) : FnG P w K mg base (L2.CX P w) (k + 1) f fd ps sp := by
  obtain ⟨oc, od, kV, doc, pm, an, cdv, ct, osl, rfl, at_f, code⟩ := Fn.ex
  refine ⟨len, fun A outer s H args us vs Q E hgd room e0 bind rv done => ?_⟩
  have inK : K.In s.heap := e0.mod.kin.keeps fun b o e => (e0.bs b o e).1
  have nolim : s.heap.NoLimit := e0.mod.nolimit.keeps fun b o e => (e0.bs b o e).1
  have par : ∀ y ∈ ps.zip us, (defScope st).names.lookup y.1 = some .local ∨ ((defScope st).names.lookup y.1 = some .cell ∧ ((cellsFrom (s.heap.objs.size + 1) (defScope st).names []).lookup y.1).isSome = true) := fun y hy =>
    (S.par y.1 (List.of_mem_zip (a := y.1) (b := y.2) hy).1).imp id fun z => ⟨z, PySem.W.cellsFrom_some _ _ _ (.inl z)⟩
  refine codeAny_call_function room.depth (inK _ _ at_f) rfl S.co S.gen rfl (PySem.W.codeRec_of inK code) (bind _ _ _ _ ?_)
  refine wpAny_newFunctionEnv_cells S.kind par ?_
  rintro env rfl s1 y
  refine ⟨nolim.keeps y.toInCall.keep, codeAny_func ?_⟩
  obtain ⟨t, run, goal⟩ := hbody cdv A outer s H vs Q E hgd (room.deeper _) done
  have J := inv_start (CX := L2.CX P w) (qual := qual) (f := f) (cd := cdv) (E := E) S room.hd e0 (len _ _ _ _ done) rv y
  refine wpAny_mono (run.run [] s1 _ H _ J goal) ?_ fun e s' hs => hs
  intro fl s' hs
  match fl, hs with
  | .ret u, ⟨v, σ', H', J', rv, q⟩ => exact ⟨v, H', J'.os, J'.bare, J'.base, J'.hok, rv, q⟩
  | .next, ⟨σ', H', J', q⟩ => exact ⟨V.non, H', J'.os, J'.bare, J'.base, J'.hok, rfl, q⟩
  | .brk, ⟨_, _, _, q⟩ => exact q.elim
  | .cont, ⟨_, _, _, q⟩ => exact q.elim
abbrev BodyC (P : Program) (w : World) (K : PySem.W.Frag) (mg : Str → Option Value) (base : Heap) (qual : Str) (sc : Scope) (bd : List Stmt) (f : Addr) (N : List Str) (k : Nat) (m : M Fl) : Prop :=
  ∀ (cdv : Value) (A : Around) (outer : List Env) (s : Shared) (H : Hp) (E : XK), A.guards = some [] → Room k (A.deeper (PyProof.Rows.envOfC qual sc s.heap.objs.size f cdv)) →
    PSs (cxOf (L2.CX P w) P w K mg base N qual sc f cdv A outer s H E) bd (tS K (fun cls d _ H => E cls d H) m)
theorem okV2G (Fn : Fun K x qual st f fd) (S : FnScope N ps (defScope st)) (h1 : defScope st = sc) (h2 : defBody st = bd) (hb : BodyC P w K mg base qual sc bd f N k m) : FnG P w K mg base (L2.CX P w) (k + 1) f fd ps (spV K ps.length (runV m N.length)) := by
  subst h1 h2
  refine okXG Fn S (fun vs H Q E h => ?_) (fun cdv A outer s H vs Q E hgd hr h => ⟨_, hb cdv A outer s H E hgd hr, ?_⟩)
  · obtain ⟨F, ds, _, r, hl, _⟩ := h
    rw [DpAll.length r]; exact hl
  · obtain ⟨F, ds, s', r, hl, h⟩ := h
    refine ⟨_, F, _, start_ok s' r (by rw [hl]; exact FnScope.le S), ?_⟩
    unfold runV at h
    cases e : m (env0 N.length ds) with
    | none => rw [e] at h; exact h
    | some q =>
      rw [e] at h
      cases q with
      | ex y ρ' => exact fun σ' cls z H' F' ok _ r' => h cls z F' H' ok.ext r'
      | ok fl ρ' =>
        cases fl with
        | nx => exact fun σ' H' F' ok _ => h .non F' H' ok.ext .non
        | rt d => exact fun σ' v H' F' ok _ r' => h v F' H' ok.ext r'
        | bk => exact h.elim
        | ct => exact h.elim
        | rf _ => exact h.elim
theorem okF2G (Fn : Fun K x qual st f fd) (S : FnScope N ps (defScope st)) (h1 : defScope st = sc) (h2 : defBody st = bd) (hb : BodyC P w K mg base qual sc bd f N k m) : FnG P w K mg base (L2.CX P w) (k + 1) f fd ps (spF K ps.length (runF m N.length)) := by
  subst h1 h2
  refine okXG Fn S (fun vs H Q E h => ?_) (fun cdv A outer s H vs Q E hgd hr h => ⟨_, hb cdv A outer s H E hgd hr, ?_⟩)
  · obtain ⟨F, ds, _, r, hl, _⟩ := h
    rw [DpAll.length r]; exact hl
  · obtain ⟨F, ds, s', r, hl, h⟩ := h
    refine ⟨_, F, _, start_ok s' r (by rw [hl]; exact FnScope.le S), ?_⟩
    unfold runF at h
    cases e : m (env0 N.length ds) with
    | none => rw [e] at h; exact h
    | some q =>
      rw [e] at h
      cases q with
      | ex y ρ' => exact fun σ' cls z H' F' ok _ r' => h cls z F' H' ok.ext r'
      | ok fl ρ' =>
        cases fl with
        | nx => exact h.elim
        | rt d => exact h.elim
        | bk => exact h.elim
        | ct => exact h.elim
        | rf es => exact fun σ' p xs H' F' ok _ hp r' hf h0 => h p xs F' H' ok.ext h0 hf hp r'
theorem okB2G (Fn : Fun K x qual st f fd) (S : FnScope N ps (defScope st)) (h1 : defScope st = sc) (h2 : defBody st = bd) (hb : BodyC P w K mg base qual sc bd f N k m) : FnG P w K mg base (L2.CX P w) (k + 1) f fd ps (spB K ps.length (runB m N.length)) := by
  subst h1 h2
  refine okXG Fn S (fun vs H Q E h => ?_) (fun cdv A outer s H vs Q E hgd hr h => ⟨_, hb cdv A outer s H E hgd hr, ?_⟩)
  · obtain ⟨F, p, bs0, bs, rest, ds, rfl, _, _, _, _, r, hl, _⟩ := h
    rw [List.length_cons, DpAll.length r]; exact hl
  · obtain ⟨F, p, bs0, bs, rest, ds, rfl, s', hF, hp, rb, r, hl, h⟩ := h
    refine ⟨_, F, _, startB_ok s' hF hp rb r (by rw [hl]; exact FnScope.le S), ?_⟩
    have fin : ∀ {σ' H' F' ρ' bs'}, Ok K ⟨F, H, some p, noPr⟩ σ' H' F' (.io bs' :: ρ') → ∃ bs1, H' p = some (.lst bs1) ∧ DpAll K F' bs1 bs' := fun {σ' H' F' ρ' bs'} ok => by
      obtain ⟨_, q, vs, c0, c1, c2, c3⟩ := ok.ios 0 bs' rfl
      have e : some p = some q := c0
      cases e
      exact ⟨vs, c2, c3⟩
    unfold runB at h
    cases e : m (env0B N.length bs ds) with
    | none => rw [e] at h; exact h
    | some q =>
      rw [e] at h
      cases q with
      | ex y ρ' =>
        intro σ' cls z H' F' ok _ r'
        cases ρ' with
        | nil => exact h.elim
        | cons u ρ' =>
          cases u with
          | io bs' =>
            obtain ⟨bs1, b1, b2⟩ := fin ok
            exact h cls z bs1 F' H' ok.extB b1 b2 r'
          | un => exact h.elim
          | val _ => exact h.elim
          | own _ => exact h.elim
          | scr _ => exact h.elim
      | ok fl ρ' =>
        cases fl with
        | nx =>
          intro σ' H' F' ok _
          cases ρ' with
          | nil => exact h.elim
          | cons u ρ' =>
            cases u with
            | io bs' =>
              obtain ⟨bs1, b1, b2⟩ := fin ok
              exact h .non bs1 F' H' ok.extB b1 b2 .non
            | un => exact h.elim
            | val _ => exact h.elim
            | own _ => exact h.elim
            | scr _ => exact h.elim
        | rt d =>
          intro σ' v H' F' ok _ r'
          cases ρ' with
          | nil => exact h.elim
          | cons u ρ' =>
            cases u with
            | io bs' =>
              obtain ⟨bs1, b1, b2⟩ := fin ok
              exact h v bs1 F' H' ok.extB b1 b2 r'
            | un => exact h.elim
            | val _ => exact h.elim
            | own _ => exact h.elim
            | scr _ => exact h.elim
        | bk => exact h.elim
        | ct => exact h.elim
        | rf _ => exact h.elim
theorem okS2G (Fn : Fun K x qual st f fd) (S : FnScope N ps (defScope st)) (h1 : defScope st = sc) (h2 : defBody st = bd) (hb : BodyC P w K mg base qual sc bd f N k m) : FnG P w K mg base (L2.CX P w) (k + 1) f fd ps (spS K ps.length (runS m N.length)) := by
  subst h1 h2
  refine okXG Fn S (fun vs H Q E h => ?_) (fun cdv A outer s H vs Q E hgd hr h => ⟨_, hb cdv A outer s H E hgd hr, ?_⟩)
  · obtain ⟨F, a, ns, rest, ds, rfl, _, _, r, hl, _⟩ := h
    rw [List.length_cons, DpAll.length r]; exact hl
  · obtain ⟨F, a, ns, rest, ds, rfl, s', hp, r, hl, h⟩ := h
    refine ⟨_, F, _, startS_ok s' hp r (by rw [hl]; exact FnScope.le S), ?_⟩
    unfold runS at h
    cases e : m (env0S N.length ns ds) with
    | none => rw [e] at h; exact h
    | some q =>
      rw [e] at h
      cases q with
      | ex y ρ' => exact fun σ' cls z H' F' ok _ r' => h cls z F' H' ok.ext r'
      | ok fl ρ' =>
        cases fl with
        | nx => exact h.elim
        | rt d => exact h.elim
        | bk => exact h.elim
        | ct => exact h.elim
        | rf es => exact fun σ' p xs H' F' ok _ hp r' hf h0 => h p xs F' H' ok.ext h0 hf hp r'
end
section
variable {P : Program} {w : World} {K : PySem.W.Frag} {mg : Str → Option Value} {base : Heap} {j n : Nat} {f : Addr} {fd : FuncData} {ps : List Str}
theorem okV0G {g : List D → Option (Rs D)} (hg : ∀ ds, g ds = none) : FnG P w K mg base (L2.CX P w) j f fd ps (spV K n g) := by
  have no : ∀ vs H Q E, ¬ spV K n g vs H Q E := fun vs H Q E h => by
    obtain ⟨F, ds, _, _, _, h⟩ := h
    simp only [hg] at h
  exact ⟨fun vs H Q E h => absurd h (no _ _ _ _), fun A outer s H args us vs Q E _ _ _ _ _ h => absurd h (no _ _ _ _)⟩
end
section
variable {X : Cx} {CX : CXT} {W : WX} {k n : Nat} {f : Addr} {fd : FuncData} {ps : List Str} {sp : Sp} {E : L2.St → XK} {t : TA} {x : Str} {p pos : Pos} {e : Expr} {es : List Expr} {ms : M (List D)}
theorem run_fnG {pins : List (Addr × Obj)} {σ : L2.St} {H : Hp} {s : Shared} {Q : VK} {us : List Value} {vs : List V} (F : FnG X.prog X.w X.K X.mg X.base CX k f fd ps sp) (hgd : X.A.guards = some []) (hr : Room k X.A) (hb : Binds X.K fd ps []) (hx : PassesAt CX X σ (E σ))
    (I : Inv X pins σ H s) (r : Vals vs us) (h : sp vs H Q (E σ)) : wpAny (model X.prog X.w) X.A (call (.ref f) us) (EP X pins σ Q) X.xe s := by
  have b := hb s us I.kIn (by rw [List.append_nil, ← r.length]; exact F.len _ _ _ _ h)
  rw [List.append_nil] at b
  refine wpAny_call (codeAny_mono (F.run X.A X.stack s H ⟨us, []⟩ us vs Q (E σ) hgd hr I.env0 b r h) fun q s' hq => ?_)
  match q, hq with
  | .error e, hq => exact hx pins H s e s' I hq
  | .ok (.ret u), hq => exact I.after hq
  | .ok .next, hq => exact False.elim hq
  | .ok .brk, hq => exact False.elim hq
  | .ok .cont, hq => exact False.elim hq
theorem pe_callG (F : FnG X.prog X.w X.K X.mg X.base CX k f fd ps sp) (hgd : X.A.guards = some []) (hr : Room k X.A) (hg : Gl X x) (hm : X.mg x = some (.ref f)) (hk : PySem.W.keepIn X.K (.ref f) = true) (hb : Binds X.K fd ps []) (hx : ∀ σ, PassesAt CX X σ (E σ))
    (ha : PA X (e :: es) t) (hdb : (x == ("__debug__" : Str)) = false := by decide) (he : starEach (e :: es) X.env = (false, eval e X.env) :: starEach es X.env := by rfl) (hpl : (backTo pos (starEach es X.env)).any (·.1) = false := by rfl) :
    PE X (.Call (.Name x p) (e :: es) [] pos) (tCallS sp E t) :=
  ⟨fun pins s σ H Q I h => wpAny_Call_Name_kw (ld_glob I hg hm (PySem.W.callWith_K (h₀ := X.base) I.ok.mod.kin hk (thn (ha.run pos pins s σ H _ I h) fun us s1 ⟨vs, H1, I1, r, q⟩ => ⟨I1.kIn, run_fnG F hgd hr hb (hx σ) I1 r q⟩) he hpl) hdb)⟩
theorem dCallVG {g : List D → Option (Rs D)} (hgd : X.A.guards = some []) (F : FnG X.prog X.w X.K X.mg X.base (L2.CX X.prog X.w) k f fd ps (spV X.K n g)) (hr : Room k X.A) (hm : X.mg x = some (.ref f)) (hk : PySem.W.keepIn X.K (.ref f) = true) (hb : Binds X.K fd ps []) (tk : Takes X W)
    (ha : PA X (e :: es) (tA X.K W ms)) (hg : Gl X x := by rfl) (hdb : (x == ("__debug__" : Str)) = false := by decide) (he : starEach (e :: es) X.env = (false, eval e X.env) :: starEach es X.env := by rfl) (hpl : (backTo pos (starEach es X.env)).any (·.1) = false := by rfl) :
    PE X (.Call (.Name x p) (e :: es) [] pos) (tE X.K W (mCallV n g ms)) := PE.imp (pe_callG F hgd hr hg hm hk hb (fun σ => passAt tk σ) ha hdb he hpl) fun _ _ _ => callV_of
theorem dCallBG {i : Nat} {g : List D → List D → Option (Rs D × List D)} (hgd : X.A.guards = some []) (F : FnG X.prog X.w X.K X.mg X.base (L2.CX X.prog X.w) k f fd ps (spB X.K n g)) (hr : Room k X.A) (hm : X.mg x = some (.ref f)) (hk : PySem.W.keepIn X.K (.ref f) = true) (hb : Binds X.K fd ps []) (tk : Takes X W)
    (h1 : PE X e (tVar i)) (ha : PA X es (tA X.K W ms)) (hg : Gl X x := by rfl) (hdb : (x == ("__debug__" : Str)) = false := by decide) (he : starEach (e :: es) X.env = (false, eval e X.env) :: starEach es X.env := by rfl) (hpl : (backTo pos (starEach es X.env)).any (·.1) = false := by rfl) :
    PE X (.Call (.Name x p) (e :: es) [] pos) (tE X.K W (mCallB i n g ms)) := PE.imp (pe_callG F hgd hr hg hm hk hb (fun σ => passAt tk σ) (pa_cons h1 ha he) hdb he hpl) fun _ _ _ => callB_of
theorem dCallStG {i j : Nat} {y : Str} {pos' spos : Pos} {g : List Int → List D → Option (Rs (List D))} (hgd : X.A.guards = some []) (F : FnG X.prog X.w X.K X.mg X.base (L2.CX X.prog X.w) k f fd ps (spS X.K n g)) (hr : Room k X.A) (hm : X.mg x = some (.ref f)) (hk : PySem.W.keepIn X.K (.ref f) = true) (hb : Binds X.K fd ps []) (tk : Takes X W) (hN : X.N.Nodup)
    (h1 : PE X e (tVar j)) (ha : PA X es (tA X.K W ms)) (hg : Gl X x := by rfl) (hdb : (x == ("__debug__" : Str)) = false := by decide) (he : starEach (e :: es) X.env = (false, eval e X.env) :: starEach es X.env := by rfl) (hpl : (backTo pos (starEach es X.env)).any (·.1) = false := by rfl)
    (hi : X.N[i]? = some y := by rfl) (hx : Loc X.env.scope y := by first | exact Or.inl rfl | exact Or.inr rfl)
    (hs : swapsWith (.Call (.Name x p) (e :: es) [] pos) (some (.Name y pos')) spos.line X.env = pure false := by rfl)
    (hf : X.fn y = true ∨ X.env.scope.names.lookup y = some .local := by first | exact .inl rfl | exact .inr rfl) :
    PS X (.Assign [.Name y pos'] (.Call (.Name x p) (e :: es) [] pos) spos) (tS X.K W (mAsgS i j n g ms)) := PS.imp (ps_set hN hi hx (pe_callG F hgd hr hg hm hk hb (fun σ => passAt tk σ) (pa_cons h1 ha he) hdb he hpl) hs hf) fun _ _ _ => asgS_of
end
end Dd

/-! ### an own exception's first field, whatever built-in class it is under -/
namespace PySem
namespace OwnE
open PySem.W PySem.Calls PyProof.Rows PySem.HandSPX
open Builtin Builtin.ObjectAttr
variable {prog : Program} {w : World} {A : Around} {E : Value → Shared → Prop} {R : Result → Shared → Prop} {hp : Heap} {g : Array GenState} {d : Drawn} {t : Nat} {os : OsState} {K : Frag} {B : String} {bmB : List Value}
theorem first_field {name : Str} {tk : Tok} {v : Value} {x C : Addr} {fv : Array Value} {cd : ClassData} (SF : StoreFacts B bmB "object.__setattr__" "object")
    (X : K.In hp) (hx : hp.get? x = some { cls := .ref C, data := .fields fv }) (hcd : clsIn K C = some cd) (hh : cd.hasDict = true) (ho : excOver K C bmB = true) (ha : takerIn K C name = some none)
    (hq : ∀ h' tk' dx, (∀ b o, b ≠ x → hp.get? b = some o → h'.get? b = some o) → hp.objs.size ≤ dx → dx ≠ x → h'.get? x = some { cls := .ref C, dict := some dx, data := .fields fv } →
      h'.Ns1 dx (fun y => if y = name then some v else none) → R (.ok (.ret .none)) ⟨h', g, d, tk', os⟩) :
    codeAny (model prog w) A (.call (.builtin "object.__setattr__") ⟨[.ref x, .str name tk, v], []⟩) R ⟨hp, g, d, t, os⟩ := by
  have I : InstAt hp x { cls := .ref C, data := .fields fv } C none := ⟨hx, rfl, rfl, trivial⟩
  refine osa_openX SF X I ho ha fun b => ?_
  have apart : x ≠ hp.objs.size := Nat.ne_of_lt (Heap.lt_size hx)
  have known : Looks (model prog w) hp (classData C) cd := looks_clsIn X hcd
  obtain ⟨nm, bs, mro, ns, qn, hd, sn, sb, ab, col, del⟩ := cd
  obtain rfl : hd = true := hh
  dsimp only
  unfold storeInOwnDict ownDictForStores
  repeat (first | with_reducible refine store_in_new ?_ ?_ | with_reducible refine wpAny_loadPart_at hx ?_ | with_reducible refine known.at ?_ | wp_step)
  · exact ⟨_, #[], _, (Heap.get?_update_ne _ _ _ _ apart.symm).trans (Heap.get?_push_at rfl rfl), rfl, fun e he => absurd he (by simp), fun _ => rfl⟩
  · intro h' tk' hn' hs
    have x1 : (hp.push { cls := .type "dict", data := .dict #[] }).get? x = some { cls := .ref C, data := .fields fv } := Heap.get?_push_of_some _ hx
    exact hq h' tk' hp.objs.size (fun c o hb ho => (hs.2 c (Nat.ne_of_lt (Heap.lt_size ho))).trans ((Heap.get?_update_ne _ _ _ _ hb).trans (Heap.get?_push_of_some _ ho)))
      (Nat.le_refl _) apart.symm ((hs.2 x apart).trans (Heap.get?_update_self _ x1 rfl)) hn'
end OwnE
end PySem

namespace Dd
open PySem PySem.Spec L2 PyProof.Rows
/-! ### raise C(e) -/
def mRaise (cn : Str) (fns : List Str) (ms : M (List D)) : M Fl := mBind ms fun ds ρ => if ds.length = fns.length then some (.ex ⟨cn, fns.zip ds⟩ ρ) else none
section
variable {X : Cx} {W : WX} {e : Expr} {cn f : Str} {C : Addr} {ms : M (List D)} {pos : Pos}
theorem dRaise1 (hc : X.calm = true) (n : PySem.W.nsIn X.K mainGlobals cn = some (some (.ref C))) (tk : Takes X W)
    (hp : PMk X e fun σ H Q => tA X.K W ms σ H fun vs H1 => ∃ v, vs = [v] ∧ ∀ d, H1 d = none → Q (.ref C) (some d) (upd H1 d (.xd [(f, v)]))) :
    PS X (.Raise (some e) none pos) (tS X.K W (mRaise cn [f] ms)) := PS.imp (ps_raise hc tk hp) (by
  rintro Dn σ H ⟨c, F, ρ, ok, h⟩
  refine ⟨c, F, ρ, ok, post_mono ?_ (postS_bind h)⟩
  rintro ds H1 F1 _ ⟨ρ1, ok1, s1, h1⟩ vs rv
  by_cases hl : ds.length = ([f] : List Str).length
  · rw [if_pos hl] at h1
    match ds, vs, rv, hl with
    | [y], [v], .cons r .nil, _ =>
      exact ⟨v, rfl, fun d hd => h1 σ _ _ _ _ (ok1.alloc hd) (Same.updN (ok1.new hd).1) ⟨C, n, rfl, d, [(f, v)], rfl, upd_same, rfl, .one (Dp.mono (Same.updN (ok1.new hd).1) r)⟩⟩
  · rw [if_neg hl] at h1
    exact h1.elim)
end
/-! ### a caught exception, in a suite -/
/-- what an own class must have for its fields to be read and its class to be asked for -/
structure ExTxt (K : PySem.W.Frag) (cn : Str) (C : Addr) : Prop where
  nm : PySem.W.nsIn K mainGlobals cn = some (some (.ref C))
  xf : XfC K C
  kt : ∀ x ox od, PySem.W.KitX K (.ref x) (.ref C) fun h => PySem.W.InstAt h x ox C od
/-- a part of a display in a suite: a text, a field, whether it is of a class -/
inductive Pt where
  | txt (x : Str)
  | fld (f : Str)
  | isi (b : Bool)
def ptV (fs : List (Str × V)) : Pt → Option V
  | .txt x => some (.str x)
  | .fld f => fs.lookup f
  | .isi b => some (.bl b)
def ptD (fs : List (Str × D)) : Pt → Option D
  | .txt x => some (.str x)
  | .fld f => fs.lookup f
  | .isi b => some (.bool b)
def ptsV (fs : List (Str × V)) : List Pt → Option (List V)
  | [] => some []
  | p :: ps => match ptV fs p, ptsV fs ps with
    | some v, some vs => some (v :: vs)
    | _, _ => none
def ptsD (fs : List (Str × D)) : List Pt → Option (List D)
  | [] => some []
  | p :: ps => match ptD fs p, ptsD fs ps with
    | some v, some vs => some (v :: vs)
    | _, _ => none
theorem lookup_rel {K : PySem.W.Frag} {F : Hp} {f : Str} {d : D} : ∀ {vs : List (Str × V)} {ds : List (Str × D)}, vs.map (·.1) = ds.map (·.1) → DpAll K F (vs.map (·.2)) (ds.map (·.2)) → ds.lookup f = some d → ∃ v, vs.lookup f = some v ∧ Dp K F v d
  | [], [], _, _, h => by cases h
  | [], _ :: _, e, _, _ => by cases e
  | _ :: _, [], e, _, _ => by cases e
  | (g, v) :: vs, (g', y) :: ds, e, r, h => by
    obtain ⟨rfl, e2⟩ := List.cons.inj e
    cases r with
    | cons r1 r2 =>
      by_cases hg : f = g
      · subst hg
        have : ((f, y) :: ds).lookup f = some y := by simp [List.lookup]
        rw [this] at h
        cases h
        exact ⟨v, by simp [List.lookup], r1⟩
      · have eb : (f == g) = false := by simpa using hg
        have e1 : ((g, y) :: ds).lookup f = ds.lookup f := by simp [List.lookup, eb]
        have e3 : ((g, v) :: vs).lookup f = vs.lookup f := by simp [List.lookup, eb]
        rw [e1] at h
        rw [e3]
        exact lookup_rel e2 r2 h
theorem pt_rel {K : PySem.W.Frag} {F : Hp} {vs : List (Str × V)} {ds : List (Str × D)} (e : vs.map (·.1) = ds.map (·.1)) (r : DpAll K F (vs.map (·.2)) (ds.map (·.2))) {d : D} : ∀ {p : Pt}, ptD ds p = some d → ∃ v, ptV vs p = some v ∧ Dp K F v d
  | .txt x, h => by cases h; exact ⟨_, rfl, .str x⟩
  | .fld f, h => lookup_rel e r h
  | .isi b, h => by cases h; exact ⟨_, rfl, .bl b⟩
theorem pts_rel {K : PySem.W.Frag} {F : Hp} {vs : List (Str × V)} {ds : List (Str × D)} (e : vs.map (·.1) = ds.map (·.1)) (r : DpAll K F (vs.map (·.2)) (ds.map (·.2))) : ∀ {ps : List Pt} {ys : List D}, ptsD ds ps = some ys → ∃ xs, ptsV vs ps = some xs ∧ DpAll K F xs ys
  | [], ys, h => by cases h; exact ⟨[], rfl, .nil⟩
  | p :: ps, ys, h => by
    unfold ptsD at h
    cases h1 : ptD ds p with
    | none => rw [h1] at h; cases h
    | some y =>
      cases h2 : ptsD ds ps with
      | none => rw [h1, h2] at h; cases h
      | some zs =>
        rw [h1, h2] at h
        cases h
        obtain ⟨x, e1, r1⟩ := pt_rel e r h1
        obtain ⟨xs, e2, r2⟩ := pts_rel e r h2
        exact ⟨x :: xs, by unfold ptsV; rw [e1, e2], .cons r1 r2⟩
section
variable {X : Cx} {a C dd : Addr} {i : Nat} {cls : Value} {d : Option Addr} {oe : Obj} {pn : List (Addr × Obj)} {cn f : Str} {pos p : Pos} {e ec : Expr} {es : List Expr}
def tPt (a C : Addr) (i : Nat) (cls : Value) (d : Option Addr) (p : Pt) : TE := fun σ H Q => ∃ dd fs v, σ[i]? = some (some (.ref a)) ∧ cls = .ref C ∧ d = some dd ∧ H dd = some (.xd fs) ∧ ptV fs p = some v ∧ Q v H
def tPts (a C : Addr) (i : Nat) (cls : Value) (d : Option Addr) (ps : List Pt) : TA := fun σ H Q => ∃ dd fs vs, σ[i]? = some (some (.ref a)) ∧ cls = .ref C ∧ d = some dd ∧ H dd = some (.xd fs) ∧ ptsV fs ps = some vs ∧ Q vs H
theorem pts_nil' : PA X [] (tPts a C i cls d []) := ⟨fun pos pins s σ H Q I ⟨_, _, vs, _, _, _, _, ev, q⟩ => by
  cases ev
  exact pa_nil.run pos pins s σ H Q I q⟩
theorem pts_cons' {q : Pt} {qs : List Pt} (h1 : PE X e (tPt a C i cls d q)) (h2 : PA X es (tPts a C i cls d qs)) (hs : starEach (e :: es) X.env = (false, eval e X.env) :: starEach es X.env := by rfl) : PA X (e :: es) (tPts a C i cls d (q :: qs)) :=
  ⟨fun pos pins s σ H Q I ⟨dd, fs, vs, hi, hc, hd, hx, ev, h⟩ => by
    refine (pa_cons h1 h2 hs).run pos pins s σ H Q I ?_
    unfold ptsV at ev
    cases e1 : ptV fs q with
    | none => rw [e1] at ev; cases ev
    | some v =>
      cases e2 : ptsV fs qs with
      | none => rw [e1, e2] at ev; cases ev
      | some ws =>
        rw [e1, e2] at ev
        cases ev
        exact ⟨dd, fs, v, hi, hc, hd, hx, e1, dd, fs, ws, hi, hc, hd, hx, e2, h⟩⟩
theorem pt_txt {m : Str} {j : Nat} : PE X (.Constant (.str m) j p) (tPt a C i cls d (.txt m)) := PE.imp pe_str fun σ H Q ⟨_, _, v, _, _, _, _, ev, q⟩ => by
  cases ev
  exact q
theorem pt_fld (T : ExTxt X.K cn C) (hno : PySem.W.findIn X.K (.ref C) f = some none) (hz : Zc cls d oe) (hf : ∃ vs, oe.data = .fields vs) (he : PE (X.suite a ((a, oe) :: pn)) e (tVar i)) (hb : attributeBase e f X.env (eval e X.env) = eval e X.env := by rfl) :
    PE (X.suite a ((a, oe) :: pn)) (.Attribute e f pos) (tPt a C i cls d (.fld f)) := PE.imp (pe_xf T.xf hno hz hf he hb) fun σ H Q ⟨dd, fs, v, hi, hc, hd, hx, ev, q⟩ =>
  ⟨.ref a, hi, rfl, hc, dd, fs, v, hd, hx, ev, q⟩
def rIsX (K : PySem.W.Frag) (a C : Addr) (cls : Value) (d : Option Addr) (cv : Value) (b : Bool) : List V → Hp → VK → Prop := fun xs H Q => ∃ (dd : Addr) (fs : List (Str × V)) (vv : V), xs = [.ref a, vv] ∧ (∀ u, RelV vv u → u = cv) ∧ cls = .ref C ∧ d = some dd ∧ H dd = some (.xd fs) ∧ PySem.W.kitOne K (.ref C) cv = some b ∧ Q (.bl b) H
theorem call_isX {cv : Value} {b : Bool} (T : ExTxt X.K cn C) (hz : Zc cls d oe) (hf : ∃ vs, oe.data = .fields vs) : CallR (X.suite a ((a, oe) :: pn)) (.builtin "isinstance") (rIsX X.K a C cls d cv b) := by
  intro pins s σ H xs us Q I r h
  obtain ⟨dd, fs, vv, rfl, k, rfl, rfl, hx, e, q⟩ := h
  obtain ⟨u1, u2, rfl, r1, r2⟩ := vals2 r
  obtain rfl := k _ r2
  obtain rfl : u1 = Value.ref a := r1
  obtain ⟨ha, _⟩ := I.pin (a, oe) (List.mem_append_left _ List.mem_cons_self)
  obtain ⟨vs, hd⟩ := hf
  have hx' : ObjOk X.prog X.w H s.heap dd (.xd fs) := I.hok dd _ hx
  obtain ⟨mA, hns, hr⟩ := hx'
  obtain ⟨od, ho, hl⟩ := lookIn_ns hns
  have J : PySem.W.InstAt s.heap a oe C (some od) := ⟨ha, hz.1, by unfold PySem.W.notCls; rw [hd] <;> rfl, by rw [hz.2]; exact ho⟩
  exact PySem.W.kia_one (T.kt a oe (some od)) I.kIn J e (fun z => nomatch z) fun tk => ⟨.bl b, H, I.tok tk, rfl, q⟩
theorem pt_isi {cv : Value} {vv : V} {b : Bool} (T : ExTxt X.K cn C) (k : PySem.W.kitOne X.K (.ref C) cv = some b) (kv : ∀ u, RelV vv u → u = cv) (hm : X.mg "isinstance" = none) (hz : Zc cls d oe) (hf : ∃ vs, oe.data = .fields vs)
    (he : PE (X.suite a ((a, oe) :: pn)) e (tVar i)) (hc : PE (X.suite a ((a, oe) :: pn)) ec (tC vv)) (hg : Gl X "isinstance" := by rfl)
    (hs1 : starEach [e, ec] X.env = (false, eval e X.env) :: starEach [ec] X.env := by rfl) (hs2 : starEach [ec] X.env = (false, eval ec X.env) :: starEach [] X.env := by rfl) (hpl : (backTo pos (starEach [ec] X.env)).any (·.1) = false := by rfl)
    (hbi : bootBuiltins "isinstance" = some (.builtin "isinstance") := by decide +kernel) :
    PE (X.suite a ((a, oe) :: pn)) (.Call (.Name "isinstance" p) [e, ec] [] pos) (tPt a C i cls d (.isi b)) :=
  PE.imp (pe_callB (X := X.suite a ((a, oe) :: pn)) (call_isX (cv := cv) (b := b) T hz hf) hg hm hbi (pa_cons he (pa_cons hc pa_nil hs2) hs1) (by decide) (by decide) hs1 hpl) fun σ H Q ⟨dd, fs, v, hi, hcl, hd, hx, ev, q⟩ => by
    cases ev
    exact ⟨.ref a, hi, dd, fs, vv, rfl, kv, hcl, hd, hx, k, q⟩
end
/-! ### try .. except C as e: v = (..) -/
def mSuite (v : Nat) (ps : List Pt) (e : Ex) : M Fl := fun ρ => match ptsD e.fs ps with
  | some ds => if v < ρ.length ∧ fit ds.length = true then some (.ok .nx (ρ.set v (.val (.tuple ds)))) else none
  | none => none
def mTry (cn : Str) (i : Nat) (mb : M Fl) (hs : Ex → M Fl) : M Fl := fun ρ => match mb ρ with
  | some (.ex e ρ') => if e.C = cn ∧ i < ρ'.length then (match hs e (ρ'.set i .un) with
    | some (.ok .nx ρ2) => some (.ok .nx (ρ2.set i .un))
    | _ => none) else none
  | r => r
section
variable {X : Cx} {Wout : WX} {x n cn y : Str} {c : Value} {C : Addr} {i v : Nat} {body : List Stmt} {es : List Expr} {np pos pos' yp tp sp : Pos} {kk : Nat} {mb : M Fl} {ps : List Pt}
theorem dTryT (hs : X.stack = X.env :: X.outer) (hf : X.env.frame = some X.env.locals) (hN : X.N.Nodup) (hi : X.N[i]? = some n) (hln : X.env.kindOf n = some .local) (hc : Names X x c) (tk : Takes X Wout)
    (T : ExTxt X.K cn C) (te : PySem.W.exmOne X.K (.ref C) c = some true)
    (hb : ∀ (W : WX) (pn : List (Addr × Obj)) (xe : Value → Shared → Prop), Takes (X.tr pn xe) W → PassesOwn (model X.prog X.w) X.A X.env xe → PSs (X.tr pn xe) body (tS X.K W mb))
    (hsu : ∀ (a : Addr) (oe : Obj) (cls : Value) (d : Option Addr) (pn : List (Addr × Obj)), Zc cls d oe → (∃ vs, oe.data = .fields vs) → PA (X.suite a ((a, oe) :: pn)) es (tPts a C i cls d ps))
    (hv : X.N[v]? = some y) (hy : Loc X.env.scope y := by first | exact Or.inl rfl | exact Or.inr rfl)
    (hsw : swapsWith (.Tuple es kk tp) (some (.Name y yp)) sp.line X.env = pure false := by rfl)
    (hfn : X.fn y = true ∨ X.env.scope.names.lookup y = some .local := by first | exact .inl rfl | exact .inr rfl) :
    PS X (.Try body [.ExceptHandler (some (.Name x np)) (some n) [.Assign [.Name y yp] (.Tuple es kk tp) sp] pos'] [] [] pos) (tS X.K Wout (mTry cn i mb (mSuite v ps))) := by
  refine PS.imp (ps_try_as (tb := fun W => tS X.K W mb) (ts := fun a cls d => tAsg (tTup (tPts a C i cls d ps)) (gName v)) hs hf hN hi hln hc tk hb (fun a oe cls d pn hz hfl => pss_one (ps_set (X := X.suite a ((a, oe) :: pn)) hN hv hy (pe_tup (hsu a oe cls d pn hz hfl)) hsw hfn))) ?_
  rintro D σ H ⟨cc, F, ρ, ok, h⟩
  refine ⟨cc, F, ρ, ok, ?_⟩
  unfold mTry at h
  cases em : mb ρ with
  | none => rw [em] at h; exact h.elim
  | some r =>
    rw [em] at h
    cases r with
    | ok fl ρ' => cases fl <;> exact h
    | ex e ρ' =>
      dsimp only at h
      split at h
      · rename_i hcn
        obtain ⟨hcn, hil⟩ := hcn
        intro σ' cls z H' F' ok' s' er
        obtain ⟨Ca, n1, rfl, dd, vs, rfl, hF, hnm, hdp⟩ := er
        have eC : Ca = C := by
          rw [hcn, T.nm] at n1
          exact (Value.ref.inj (Option.some.inj (Option.some.inj n1))).symm
        subst eC
        refine ⟨true, te, fun _ a ha => ?_, fun z => nomatch z⟩
        unfold mSuite at h
        cases ed : ptsD e.fs ps with
        | none => rw [ed] at h; exact h.elim
        | some ds =>
          rw [ed] at h
          dsimp only at h
          by_cases hq : v < (ρ'.set i .un).length ∧ fit ds.length = true
          · rw [if_pos hq] at h
            obtain ⟨hvl, hfit⟩ := hq
            obtain ⟨xs, ev, rx⟩ := pts_rel hnm hdp ed
            have ok1 := ok'.setU (v := some (.ref a)) hil
            refine ⟨dd, vs, xs, ?_, rfl, rfl, ok'.sub _ _ hF, ev, by rw [DpAll.length rx]; exact fit_le hfit, fun p hp => ?_⟩
            · have : i < σ'.length := by rw [ok'.len]; exact hil
              simp [this]
            · have ok2 := ok1.alloc (o := .tup xs) hp
              have sF : Same F' (upd F' p (.tup xs)) := Same.updN (ok1.new hp).1
              have ok3 := ok2.setV hvl (Dp.tup (.inl (.inl upd_same)) (DpAll.mono sF rx))
              have ok4 := ok3.setU (v := none) (i := i) (by rw [List.length_set, List.length_set]; exact hil)
              exact h _ _ _ ok4 (s'.trans sF)
          · rw [if_neg hq] at h
            exact h.elim
      · exact h.elim
end
end Dd

namespace Dd
open PySem PySem.Spec L2 PyProof.Rows
/-! ### list(range(..)), tuple(range(..)) -/
def rgOf (i : Int) : D → Option (List D)
  | .int j => if (rngOk i && rngOk j && fit (j - i).toNat) = true then some (rngL i j) else none
  | _ => none
theorem rgOf_ok {i : Int} {d : D} {out : List D} (e : rgOf i d = some out) : ∃ j, d = .int j ∧ RgOk i j ∧ out = rngL i j := by
  unfold rgOf at e
  split at e
  · rename_i j
    split at e
    · rename_i hb
      cases e
      rw [Bool.and_eq_true, Bool.and_eq_true] at hb
      obtain ⟨⟨h1, h2⟩, h3⟩ := hb
      obtain ⟨a1, a2⟩ := rngOk_of h1
      obtain ⟨a3, a4⟩ := rngOk_of h2
      have h4 : (j - i).toNat ≤ 16000000 := of_decide_eq_true h3
      exact ⟨j, rfl, ⟨a1, a2, a3, a4, by omega⟩, rfl⟩
    · cases e
  · cases e
theorem rg_rel {K : PySem.W.Frag} {F : Hp} {a : Int} : ∀ l : List Nat, DpAll K F (l.map fun i => V.int (a + (i : Nat))) (l.map fun i => PyData.int (a + (i : Nat)))
  | [] => .nil
  | x :: l => .cons (.int _) (rg_rel l)
def mRgN1 (ma : M D) : M (List D) := mBind ma fun d => mLift (rgOf 0 d)
def rgOf2 : D → D → Option D
  | .int i, b => (rgOf i b).map PyData.tuple
  | _, _ => none
def mRgN2 (ma mb : M D) : M (List D) := mBind ma fun a => mBind mb fun b => mLift (match a with
  | .int i => rgOf i b
  | _ => none)
def mTupRg1 (ma : M D) : M D := mBind ma fun d => mLift ((rgOf 0 d).map PyData.tuple)
def mTupRg2 (ma mb : M D) : M D := mBind ma fun a => mBind mb fun b => mLift (rgOf2 a b)
section
variable {X : Cx} {W : WX} {a b : Expr} {ma mb : M D} {p p2 pos pos2 : Pos}
theorem dLstRg1 (hc : X.calm = true) (hm : X.mg "list" = none) (hr : X.mg "range" = none) (ha : PE X a (tE X.K W ma)) (hg : Gl X "list" := by rfl) (hg2 : Gl X "range" := by rfl)
    (na : starEach [.Call (.Name "range" p2) [a] [] pos2] X.env = (false, eval (.Call (.Name "range" p2) [a] [] pos2) X.env) :: starEach [] X.env := by rfl) (nb : starEach [a] X.env = (false, eval a X.env) :: starEach [] X.env := by rfl) :
    PE X (.Call (.Name "list" p) [.Call (.Name "range" p2) [a] [] pos2] [] pos) (tN X.K W (mRgN1 ma)) := PE.imp (pe_listRg hc hg hm (prg_1 hg2 hr ha nb) na) (by
  rintro σ H Q ⟨c, F, ρ, ok, h⟩
  refine ⟨c, F, ρ, ok, post_mono ?_ (postN_bind h)⟩
  rintro d H1 F1 _ ⟨ρ1, ok1, s1, h1⟩ v rv
  obtain ⟨out, e, h2⟩ := postN_lift h1
  obtain ⟨j, rfl, hk, rfl⟩ := rgOf_ok e
  cases rv
  exact ⟨j, rfl, hk, fun q hq => new_N ok1 (rg_rel _) h2 q hq⟩)
theorem dLstRg2 (hc : X.calm = true) (hm : X.mg "list" = none) (hr : X.mg "range" = none) (ha : PE X a (tE X.K W ma)) (hb : PE X b (tE X.K W mb)) (hg : Gl X "list" := by rfl) (hg2 : Gl X "range" := by rfl)
    (na : starEach [.Call (.Name "range" p2) [a, b] [] pos2] X.env = (false, eval (.Call (.Name "range" p2) [a, b] [] pos2) X.env) :: starEach [] X.env := by rfl) (n1 : starEach [a, b] X.env = (false, eval a X.env) :: starEach [b] X.env := by rfl) (n2 : starEach [b] X.env = (false, eval b X.env) :: starEach [] X.env := by rfl)
    (hp : (backTo pos2 (starEach [b] X.env)).any (·.1) = false := by rfl) :
    PE X (.Call (.Name "list" p) [.Call (.Name "range" p2) [a, b] [] pos2] [] pos) (tN X.K W (mRgN2 ma mb)) := PE.imp (pe_listRg hc hg hm (prg_2 hg2 hr ha hb n1 n2 hp) na) (by
  rintro σ H Q ⟨c, F, ρ, ok, h⟩
  refine ⟨c, F, ρ, ok, post_mono ?_ (postN_bind h)⟩
  rintro d H1 F1 _ ⟨ρ1, ok1, s1, h1⟩ v rv
  refine ⟨c, F1, ρ1, ok1, post_mono ?_ (postN_bind h1)⟩
  rintro d2 H2 F2 _ ⟨ρ2, ok2, s2, h2⟩ v2 rv2
  obtain ⟨out, e, h3⟩ := postN_lift h2
  split at e
  · obtain ⟨j, rfl, hk, rfl⟩ := rgOf_ok e
    cases rv
    cases rv2
    exact ⟨_, j, rfl, rfl, hk, fun q hq => new_N ok2 (rg_rel _) h3 q hq⟩
  · cases e)
theorem dTupRg1 (hc : X.calm = true) (hm : X.mg "tuple" = none) (hr : X.mg "range" = none) (ha : PE X a (tE X.K W ma)) (hg : Gl X "tuple" := by rfl) (hg2 : Gl X "range" := by rfl)
    (na : starEach [.Call (.Name "range" p2) [a] [] pos2] X.env = (false, eval (.Call (.Name "range" p2) [a] [] pos2) X.env) :: starEach [] X.env := by rfl) (nb : starEach [a] X.env = (false, eval a X.env) :: starEach [] X.env := by rfl) :
    PE X (.Call (.Name "tuple" p) [.Call (.Name "range" p2) [a] [] pos2] [] pos) (tE X.K W (mTupRg1 ma)) := PE.imp (pe_tupRg hc hg hm (prg_1 hg2 hr ha nb) na) (by
  rintro σ H Q ⟨c, F, ρ, ok, h⟩
  refine ⟨c, F, ρ, ok, post_mono ?_ (post_bind h)⟩
  rintro d H1 F1 _ ⟨ρ1, ok1, s1, h1⟩ v rv
  obtain ⟨out, e, h2⟩ := post_lift h1
  obtain ⟨ds, e1, rfl⟩ := Option.map_eq_some_iff.mp e
  obtain ⟨j, rfl, hk, rfl⟩ := rgOf_ok e1
  cases rv
  exact ⟨j, rfl, hk, fun q hq => h2 _ _ (ok1.alloc hq) (Same.updN (ok1.new hq).1) _ (Dp.tup (.inl (.inl upd_same)) (rg_rel _))⟩)
theorem dTupRg2 (hc : X.calm = true) (hm : X.mg "tuple" = none) (hr : X.mg "range" = none) (ha : PE X a (tE X.K W ma)) (hb : PE X b (tE X.K W mb)) (hg : Gl X "tuple" := by rfl) (hg2 : Gl X "range" := by rfl)
    (na : starEach [.Call (.Name "range" p2) [a, b] [] pos2] X.env = (false, eval (.Call (.Name "range" p2) [a, b] [] pos2) X.env) :: starEach [] X.env := by rfl) (n1 : starEach [a, b] X.env = (false, eval a X.env) :: starEach [b] X.env := by rfl) (n2 : starEach [b] X.env = (false, eval b X.env) :: starEach [] X.env := by rfl)
    (hp : (backTo pos2 (starEach [b] X.env)).any (·.1) = false := by rfl) :
    PE X (.Call (.Name "tuple" p) [.Call (.Name "range" p2) [a, b] [] pos2] [] pos) (tE X.K W (mTupRg2 ma mb)) := PE.imp (pe_tupRg hc hg hm (prg_2 hg2 hr ha hb n1 n2 hp) na) (by
  rintro σ H Q ⟨c, F, ρ, ok, h⟩
  refine ⟨c, F, ρ, ok, post_mono ?_ (post_bind h)⟩
  rintro d H1 F1 _ ⟨ρ1, ok1, s1, h1⟩ v rv
  refine ⟨c, F1, ρ1, ok1, post_mono ?_ (post_bind h1)⟩
  rintro d2 H2 F2 _ ⟨ρ2, ok2, s2, h2⟩ v2 rv2
  obtain ⟨out, e, h3⟩ := post_lift h2
  unfold rgOf2 at e
  split at e
  · obtain ⟨ds, e1, rfl⟩ := Option.map_eq_some_iff.mp e
    obtain ⟨j, rfl, hk, rfl⟩ := rgOf_ok e1
    cases rv
    cases rv2
    exact ⟨_, j, rfl, rfl, hk, fun q hq => h3 _ _ (ok2.alloc hq) (Same.updN (ok2.new hq).1) _ (Dp.tup (.inl (.inl upd_same)) (rg_rel _))⟩
  · cases e)
end
end Dd

namespace Dd
open PySem PySem.Spec L2 PyProof.Rows
/-! ### calls with keywords, keyword-only parameters that lack -/
theorem kbn_of {K : PySem.W.Frag} {fd : FuncData} {ps : List Str} {n : Nat} {ks : List Str} {g : List Value → List Value → List Value} {gV : List V → List V → List V} {D : Addr} {ms : List (Str × Value)}
    (hms : ∀ q ∈ ms, PySem.W.nsIn K D q.1 = some (some q.2)) (h : ∀ us ws : List Value, us.length = n → ws.length = ks.length → KwChain D ms (bindArgs fd ⟨us, ks.zip ws⟩) (ps.zip (g us ws)))
    (rel : ∀ {vs : List V} {us : List Value} {zs : List V} {ws : List Value}, Vals vs us → Vals zs ws → Vals (gV vs zs) (g us ws)) : KBn K fd ps n ks g gV :=
  ⟨fun s us ws X l1 l2 => BindsTo.of_looks fun M => KwChain.looks X hms (h us ws l1 l2), rel⟩
def tCallK (n m : Nat) (sp : Sp) (gV : List V → List V → List V) (E : L2.St → XK) (t tk : TA) : TE := fun σ H Q => t σ H fun vs H1 => tk σ H1 fun zs H2 => vs.length = n ∧ zs.length = m ∧ sp (gV vs zs) H2 Q (E σ)
section
variable {X : Cx} {CX : CXT} {W : WX} {k n : Nat} {f : Addr} {fd : FuncData} {ps ks : List Str} {sp : Sp} {E : L2.St → XK} {x : Str} {p pos : Pos} {e : Expr} {es : List Expr} {kws : List Keyword} {t tk : TA} {g : List Value → List Value → List Value} {gV : List V → List V → List V}
theorem run_fnK {pins : List (Addr × Obj)} {σ : L2.St} {H : Hp} {s : Shared} {Q : VK} {us ws : List Value} {vs zs : List V} (F : FnG X.prog X.w X.K X.mg X.base CX k f fd ps sp) (hgd : X.A.guards = some []) (hr : Room k X.A) (hb : KBn X.K fd ps n ks g gV) (hx : PassesAt CX X σ (E σ))
    (I : Inv X pins σ H s) (r : Vals vs us) (rz : Vals zs ws) (l1 : vs.length = n) (l2 : zs.length = ks.length) (h : sp (gV vs zs) H Q (E σ)) : wpAny (model X.prog X.w) X.A (call (.ref f) us (ks.zip ws)) (EP X pins σ Q) X.xe s := by
  refine wpAny_call (codeAny_mono (F.run X.A X.stack s H ⟨us, ks.zip ws⟩ (g us ws) (gV vs zs) Q (E σ) hgd hr I.env0 (hb.to s us ws I.kIn (r.length.symm.trans l1) (rz.length.symm.trans l2)) (hb.rel r rz) h) fun q s' hq => ?_)
  match q, hq with
  | .error e, hq => exact hx pins H s e s' I hq
  | .ok (.ret u), hq => exact I.after hq
  | .ok .next, hq => exact False.elim hq
  | .ok .brk, hq => exact False.elim hq
  | .ok .cont, hq => exact False.elim hq
theorem pe_callK (F : FnG X.prog X.w X.K X.mg X.base CX k f fd ps sp) (hgd : X.A.guards = some []) (hr : Room k X.A) (hg : Gl X x) (hm : X.mg x = some (.ref f)) (hk : PySem.W.keepIn X.K (.ref f) = true) (hb : KBn X.K fd ps n ks g gV) (hx : ∀ σ, PassesAt CX X σ (E σ))
    (ha : PA X (e :: es) t) (hkw : PK X kws tk) (hall : (backToKw pos (keywordEach kws X.env)).all (·.1.isSome) = true := by rfl) (hks : (backToKw pos (keywordEach kws X.env)).filterMap (·.1) = ks := by rfl)
    (hdb : (x == ("__debug__" : Str)) = false := by decide) (he : starEach (e :: es) X.env = (false, eval e X.env) :: starEach es X.env := by rfl)
    (hpl : ((backTo pos (starEach (e :: es) X.env)).any (·.1) || (backToKw pos (keywordEach kws X.env)).any (·.1.isNone)) = false := by rfl) :
    PE X (.Call (.Name x p) (e :: es) kws pos) (tCallK n ks.length sp gV E t tk) :=
  ⟨fun pins s σ H Q I h => wpAny_Call_Name_kw (ld_glob I hg hm (PySem.W.callWith_KW (h₀ := X.base) I.ok.mod.kin hk hall (thn (ha.run pos pins s σ H _ I h) fun us s1 ⟨vs, H1, I1, r, q⟩ =>
    thn (hkw.run pos pins s1 σ H1 _ I1 q) fun ws s2 ⟨zs, H2, I2, rz, l1, l2, q2⟩ => ⟨I2.kIn, by
      rw [hks]
      exact run_fnK F hgd hr hb (hx σ) I2 r rz l1 l2 q2⟩) hpl he) hdb)⟩
theorem PK.imp {t t' : TA} (h : PK X kws t) (k : ∀ σ H Q, t' σ H Q → t σ H Q) : PK X kws t' := ⟨fun pos pins s σ H Q I q => h.run pos pins s σ H Q I (k σ H Q q)⟩
theorem dkNil : PK X [] (tA X.K W (mPure [])) := PK.imp pk_nil (by
  rintro σ H Q ⟨c, F, ρ, ok, h⟩
  exact post_ok (W := W) h ok _ .nil)
theorem dkCons {ma : M D} {ms : M (List D)} {nm : Option Str} {kpos : Pos} (ha : PE X e (tE X.K W ma)) (hr : PK X kws (tA X.K W ms)) : PK X (⟨nm, e, kpos⟩ :: kws) (tA X.K W (mCons ma ms)) := by
  refine PK.imp (pk_cons ha hr) ?_
  rintro σ H Q ⟨c, F, ρ, ok, h⟩
  refine ⟨c, F, ρ, ok, post_mono ?_ (post_bind h)⟩
  rintro d H1 F1 _ ⟨ρ1, ok1, s1, h1⟩ x rx
  refine ⟨c, F1, ρ1, ok1, post_mono ?_ (post_bind h1)⟩
  rintro ds H2 F2 _ ⟨ρ2, ok2, s2, h2⟩ xs rxs
  exact post_ok (W := W) h2 ok2 _ (.cons (Dp.mono s2 rx) rxs)
theorem dpAll_app {K : PySem.W.Frag} {F : Hp} : ∀ {xs ys : List V} {ds es : List D}, DpAll K F xs ds → DpAll K F ys es → DpAll K F (xs ++ ys) (ds ++ es)
  | _, _, _, _, .nil, h => h
  | _, _, _, _, .cons r t, h => .cons r (dpAll_app t h)
/-- f(e, .., k = v, ..): n values, then the defaults a, then m keywords' values, then the defaults b -/
def mCallK (n m : Nat) (a b : List D) (f : List D → Option (Rs D)) (ms mk : M (List D)) : M D := mBind ms fun ds => mBind mk fun es => if ds.length = n ∧ es.length = m then mRs (f (ds ++ (a ++ (es ++ b)))) else mStuck
theorem dCallKG {m np : Nat} {a b : List D} {aV bV : List V} {fn : List D → Option (Rs D)} {ms mk : M (List D)} (hgd : X.A.guards = some []) (F : FnG X.prog X.w X.K X.mg X.base (L2.CX X.prog X.w) k f fd ps (spV X.K np fn)) (hr : Room k X.A) (hm : X.mg x = some (.ref f)) (hk : PySem.W.keepIn X.K (.ref f) = true)
    (hb : KBn X.K fd ps n ks g fun vs zs => vs ++ (aV ++ (zs ++ bV))) (tk : Takes X W) (hc1 : ∀ F, DpAll X.K F aV a) (hc2 : ∀ F, DpAll X.K F bV b)
    (ha : PA X (e :: es) (tA X.K W ms)) (hkw : PK X kws (tA X.K W mk)) (hn : np = n + (a.length + (m + b.length)) := by rfl) (hlm : ks.length = m := by rfl) (hg : Gl X x := by rfl)
    (hall : (backToKw pos (keywordEach kws X.env)).all (·.1.isSome) = true := by rfl) (hks : (backToKw pos (keywordEach kws X.env)).filterMap (·.1) = ks := by rfl)
    (hdb : (x == ("__debug__" : Str)) = false := by decide) (he : starEach (e :: es) X.env = (false, eval e X.env) :: starEach es X.env := by rfl)
    (hpl : ((backTo pos (starEach (e :: es) X.env)).any (·.1) || (backToKw pos (keywordEach kws X.env)).any (·.1.isNone)) = false := by rfl) :
    PE X (.Call (.Name x p) (e :: es) kws pos) (tE X.K W (mCallK n m a b fn ms mk)) := PE.imp (pe_callK F hgd hr hg hm hk hb (fun σ => passAt tk σ) ha hkw hall hks hdb he hpl) (by
  rintro σ H Q ⟨c, F0, ρ, ok, h⟩
  refine ⟨c, F0, ρ, ok, post_mono ?_ (post_bind h)⟩
  rintro ds H1 F1 _ ⟨ρ1, ok1, s1, h1⟩ vs rv
  refine ⟨c, F1, ρ1, ok1, post_mono ?_ (post_bind h1)⟩
  rintro es H2 F2 _ ⟨ρ2, ok2, s2, h2⟩ zs rz
  by_cases hl : ds.length = n ∧ es.length = m
  · rw [if_pos hl] at h2
    refine ⟨(DpAll.length rv).trans hl.1, ((DpAll.length rz).trans hl.2).trans hlm.symm, F2, ds ++ (a ++ (es ++ b)), ok2.sub, dpAll_app (DpAll.mono s2 rv) (dpAll_app (hc1 F2) (dpAll_app rz (hc2 F2))), ?_, ?_⟩
    · rw [List.length_append, List.length_append, List.length_append, hl.1, hl.2, hn]
    · unfold mRs at h2
      cases e : fn (ds ++ (a ++ (es ++ b))) with
      | none => rw [e] at h2; exact h2
      | some r =>
        rw [e] at h2
        cases r with
        | ok d => exact fun v F' H' x r => h2 H' F' (ok2.call x) x.ff v r
        | error e => exact fun cls y F' H' x r => h2 cls y H' F' (ok2.call x) x.ff r
  · rw [if_neg hl] at h2
    exact h2.elim)
end
end Dd

namespace Dd
open PySem PySem.Spec L2 PyProof.Rows
/-! ### a, b, c = x, y, z -/
def mPar3 (i j l : Nat) (ma mb mc : M D) : M Fl := mBind ma fun a => mBind mb fun b => mBind mc fun c => mBind (mStore i a) fun _ => mBind (mStore j b) fun _ => mBind (mStore l c) fun _ => mDone
/-- .. the first a new empty list -/
def mParL (i j l : Nat) (mb mc : M D) : M Fl := mBind mb fun b => mBind mc fun c => mBind (mStoreO i []) fun _ => mBind (mStore j b) fun _ => mBind (mStore l c) fun _ => mDone
section
variable {X : Cx} {W : WX} {K : PySem.W.Frag} {σ : L2.St} {H F : Hp} {ρ : En} {c : Ct} {Dn : Ends} {i j l : Nat} {ma mb mc : M D}
theorem store_bind {α : Type} {d : D} {v : V} {f : Unit → M Fl} (ok : Ok K c σ H F ρ) (r : Dp K F v d) (h : postS K W c F Dn (mBind (mStore i d) f ρ)) : ∃ F1 ρ1, Ok K c (σ.set i (some v)) H F1 ρ1 ∧ Same F F1 ∧ postS K W c F1 Dn (f () ρ1) := by
  have h3 := postS_bindG h
  unfold mStore at h3
  split at h3
  · rename_i hl
    exact h3 _ H F (ok.setV hl r) (Same.refl F)
  · exact h3.elim
theorem par3_of (h : tS K W (mPar3 i j l ma mb mc) Dn σ H) : tPar3 i j l (tCons (tE K W ma) (tCons (tE K W mb) (tCons (tE K W mc) tNil))) Dn σ H := by
  obtain ⟨c, F, ρ, ok, h⟩ := h
  refine ⟨c, F, ρ, ok, post_mono ?_ (postS_bind h)⟩
  rintro d1 H1 F1 _ ⟨ρ1, ok1, s1, h1⟩ v1 r1
  refine ⟨c, F1, ρ1, ok1, post_mono ?_ (postS_bind h1)⟩
  rintro d2 H2 F2 _ ⟨ρ2, ok2, s2, h2⟩ v2 r2
  refine ⟨c, F2, ρ2, ok2, post_mono ?_ (postS_bind h2)⟩
  rintro d3 H3 F3 _ ⟨ρ3, ok3, s3, h3⟩ v3 r3
  refine ⟨v1, v2, v3, rfl, ?_⟩
  obtain ⟨F4, ρ4, ok4, s4, h4⟩ := store_bind (α := Unit) ok3 (Dp.mono (s2.trans s3) r1) h3
  obtain ⟨F5, ρ5, ok5, s5, h5⟩ := store_bind (α := Unit) ok4 (Dp.mono (s3.trans s4) r2) h4
  obtain ⟨F6, ρ6, ok6, s6, h6⟩ := store_bind (α := Unit) ok5 (Dp.mono (s4.trans s5) r3) h5
  exact h6 _ _ _ ok6 (Same.refl F6)
theorem postS_put {α : Type} {p : Addr} {o : HO} {m : M α} {f : α → M Fl} (hp : c.pr p = none) (h : postS K W c F Dn (mBind m f ρ)) :
    post K W (c.put p o) σ F (fun a H1 F1 => ∃ ρ1, Ok K (c.put p o) σ H1 F1 ρ1 ∧ Same F F1 ∧ postS K W c F1 Dn (f a ρ1)) (m ρ) := by
  unfold mBind at h
  cases e : m ρ with
  | none => rw [e] at h; exact h.elim
  | some r =>
    rw [e] at h
    cases r with
    | ok a ρ1 => exact fun H' F' ok s => ⟨ρ1, ok, s, postS_weak s h⟩
    | ex z ρ1 => exact fun cls x H' F' ok s er => h σ cls x H' F' (ok_unput ok hp) s er
theorem parL_of (h : tS K W (mParL i j l mb mc) Dn σ H) : tPar3 i j l (tCons (tLst tNil) (tCons (tE K W mb) (tCons (tE K W mc) tNil))) Dn σ H := by
  obtain ⟨c, F, ρ, ok, h⟩ := h
  refine ⟨Nat.zero_le _, fun p hp => ?_⟩
  have okp := ok.allocP (o := .lst []) hp
  have hpr := (ok.new hp).2.2.1
  refine ⟨c.put p (.lst []), F, ρ, okp, post_mono ?_ (postS_put hpr h)⟩
  rintro d2 H2 F2 _ ⟨ρ2, ok2, s2, h2⟩ v2 r2
  refine ⟨c.put p (.lst []), F2, ρ2, ok2, post_mono ?_ (postS_put hpr h2)⟩
  rintro d3 H3 F3 _ ⟨ρ3, ok3, s3, h3⟩ v3 r3
  refine ⟨.ref p, v2, v3, rfl, ?_⟩
  have h4 := postS_bindG h3
  unfold mStoreO at h4
  split at h4
  · rename_i hl
    obtain ⟨F4, ρ4, ok4, s4, h5⟩ := h4 _ H3 F3 (ok3.ownP hpr .nil hl) (Same.refl F3)
    obtain ⟨F5, ρ5, ok5, s5, h6⟩ := store_bind (α := Unit) ok4 (Dp.mono (s3.trans s4) r2) h5
    obtain ⟨F6, ρ6, ok6, s6, h7⟩ := store_bind (α := Unit) ok5 (Dp.mono (s4.trans s5) r3) h6
    exact h7 _ _ _ ok6 (Same.refl F6)
  · exact h4.elim
variable {x y z : Str} {a b cc : Expr} {px py pz pt pt2 pos : Pos} {kt k2 : Nat}
theorem dPar3 (hc : X.calm = true) (hN : X.N.Nodup) (hij : i ≠ j) (hil : i ≠ l) (hjl : j ≠ l) (ha : PE X a (tE X.K W ma)) (hb : PE X b (tE X.K W mb)) (hcc : PE X cc (tE X.K W mc)) (hi : X.N[i]? = some x := by rfl) (hj : X.N[j]? = some y := by rfl) (hl : X.N[l]? = some z := by rfl)
    (hx : X.env.scope.names.lookup x = some .local := by rfl) (hy : X.env.scope.names.lookup y = some .local := by rfl) (hz : X.env.scope.names.lookup z = some .local := by rfl)
    (hw : swappedStores [.Tuple [.Name x px, .Name y py, .Name z pz] kt pt] (.Tuple [a, b, cc] k2 pt2) X.env = pure (some [x, y, z]) := by rfl)
    (hs : swapsWithSole [.Tuple [.Name x px, .Name y py, .Name z pz] kt pt] (.Tuple [a, b, cc] k2 pt2) pos.line X.env = pure false := by rfl)
    (hs1 : starEach [a, b, cc] X.env = (false, eval a X.env) :: starEach [b, cc] X.env := by rfl) (hs2 : starEach [b, cc] X.env = (false, eval b X.env) :: starEach [cc] X.env := by rfl) (hs3 : starEach [cc] X.env = (false, eval cc X.env) :: starEach [] X.env := by rfl) :
    PS X (.Assign [.Tuple [.Name x px, .Name y py, .Name z pz] kt pt] (.Tuple [a, b, cc] k2 pt2) pos) (tS X.K W (mPar3 i j l ma mb mc)) :=
  PS.imp (ps_par3 hc hN hi hj hl hij hil hjl hx hy hz (pa_cons ha (pa_cons hb (pa_cons hcc pa_nil hs3) hs2) hs1) hw hs) fun _ _ _ => par3_of
theorem dParL {lp : Pos} (hc : X.calm = true) (hN : X.N.Nodup) (hij : i ≠ j) (hil : i ≠ l) (hjl : j ≠ l) (hb : PE X b (tE X.K W mb)) (hcc : PE X cc (tE X.K W mc)) (hi : X.N[i]? = some x := by rfl) (hj : X.N[j]? = some y := by rfl) (hl : X.N[l]? = some z := by rfl)
    (hx : X.env.scope.names.lookup x = some .local := by rfl) (hy : X.env.scope.names.lookup y = some .local := by rfl) (hz : X.env.scope.names.lookup z = some .local := by rfl)
    (hw : swappedStores [.Tuple [.Name x px, .Name y py, .Name z pz] kt pt] (.Tuple [.List [] lp, b, cc] k2 pt2) X.env = pure (some [x, y, z]) := by rfl)
    (hs : swapsWithSole [.Tuple [.Name x px, .Name y py, .Name z pz] kt pt] (.Tuple [.List [] lp, b, cc] k2 pt2) pos.line X.env = pure false := by rfl)
    (hs1 : starEach [.List [] lp, b, cc] X.env = (false, eval (.List [] lp) X.env) :: starEach [b, cc] X.env := by rfl) (hs2 : starEach [b, cc] X.env = (false, eval b X.env) :: starEach [cc] X.env := by rfl) (hs3 : starEach [cc] X.env = (false, eval cc X.env) :: starEach [] X.env := by rfl) :
    PS X (.Assign [.Tuple [.Name x px, .Name y py, .Name z pz] kt pt] (.Tuple [.List [] lp, b, cc] k2 pt2) pos) (tS X.K W (mParL i j l mb mc)) :=
  PS.imp (ps_par3 hc hN hi hj hl hij hil hjl hx hy hz (pa_cons (pe_lst pa_nil) (pa_cons hb (pa_cons hcc pa_nil hs3) hs2) hs1) hw hs) fun _ _ _ => parL_of
/-- .. where a name is a cell: the tuple is made and taken apart -/
theorem parLC_of (h : tS K W (mParL i j l mb mc) Dn σ H) : tAsg (tTup (tCons (tLst tNil) (tCons (tE K W mb) (tCons (tE K W mc) tNil)))) (gTup K 3 (gCons (gName i) (gCons (gName j) (gCons (gName l) gNil)))) Dn σ H := by
  obtain ⟨c, F, ρ, ok, h⟩ := h
  refine ⟨Nat.zero_le _, fun p hp => ?_⟩
  have okp := ok.allocP (o := .lst []) hp
  have hpr := (ok.new hp).2.2.1
  refine ⟨c.put p (.lst []), F, ρ, okp, post_mono ?_ (postS_put hpr h)⟩
  rintro d2 H2 F2 _ ⟨ρ2, ok2, s2, h2⟩ v2 r2
  refine ⟨c.put p (.lst []), F2, ρ2, ok2, post_mono ?_ (postS_put hpr h2)⟩
  rintro d3 H3 F3 _ ⟨ρ3, ok3, s3, h3⟩ v3 r3
  refine ⟨by show 3 ≤ sizeLine; rw [sizeLine_eq]; decide, fun q hq => ⟨q, _, rfl, .inl (.inl upd_same), rfl, _, _, rfl, _, _, rfl, _, _, rfl, rfl, ?_⟩⟩
  have okq := ok3.alloc (o := .tup [.ref p, v2, v3]) hq
  have sq : Same F3 (upd F3 q (.tup [.ref p, v2, v3])) := Same.updN (ok3.new hq).1
  have h4 := postS_bindG h3
  unfold mStoreO at h4
  split at h4
  · rename_i hl
    obtain ⟨F4, ρ4, ok4, s4, h5⟩ := h4 _ _ _ (okq.ownP hpr .nil hl) sq
    obtain ⟨F5, ρ5, ok5, s5, h6⟩ := store_bind (α := Unit) ok4 (Dp.mono (s3.trans s4) r2) h5
    obtain ⟨F6, ρ6, ok6, s6, h7⟩ := store_bind (α := Unit) ok5 (Dp.mono (s4.trans s5) r3) h6
    exact h7 _ _ _ ok6 (Same.refl F6)
  · exact h4.elim
theorem dParLC {lp : Pos} (hc : X.calm = true) (hN : X.N.Nodup) (hb : PE X b (tE X.K W mb)) (hcc : PE X cc (tE X.K W mc)) (hi : X.N[i]? = some x := by rfl) (hj : X.N[j]? = some y := by rfl) (hl : X.N[l]? = some z := by rfl)
    (hx : Loc X.env.scope x := by first | exact Or.inl rfl | exact Or.inr rfl) (hy : Loc X.env.scope y := by first | exact Or.inl rfl | exact Or.inr rfl) (hz : Loc X.env.scope z := by first | exact Or.inl rfl | exact Or.inr rfl)
    (hfx : X.fn x = true ∨ X.env.scope.names.lookup x = some .local := by first | exact .inl rfl | exact .inr rfl) (hfy : X.fn y = true ∨ X.env.scope.names.lookup y = some .local := by first | exact .inl rfl | exact .inr rfl) (hfz : X.fn z = true ∨ X.env.scope.names.lookup z = some .local := by first | exact .inl rfl | exact .inr rfl)
    (hs : swapsWithSole [.Tuple [.Name x px, .Name y py, .Name z pz] kt pt] (.Tuple [.List [] lp, b, cc] k2 pt2) pos.line X.env = pure false := by rfl)
    (hw : swappedStores [.Tuple [.Name x px, .Name y py, .Name z pz] kt pt] (.Tuple [.List [] lp, b, cc] k2 pt2) X.env = pure none := by rfl)
    (h1 : (assignEach [.Tuple [.Name x px, .Name y py, .Name z pz] kt pt] X.env).map (·.2) = [assign (.Tuple [.Name x px, .Name y py, .Name z pz] kt pt) X.env] := by rfl)
    (hn : (assignEach [.Name x px, .Name y py, .Name z pz] X.env).length = 3 := by rfl) (hst : (assignEach [.Name x px, .Name y py, .Name z pz] X.env).findIdx? (·.1) = none := by rfl)
    (e1 : (assignEach [.Name x px, .Name y py, .Name z pz] X.env).map (·.2) = assign (.Name x px) X.env :: (assignEach [.Name y py, .Name z pz] X.env).map (·.2) := by rfl)
    (e2 : (assignEach [.Name y py, .Name z pz] X.env).map (·.2) = assign (.Name y py) X.env :: (assignEach [.Name z pz] X.env).map (·.2) := by rfl)
    (e3 : (assignEach [.Name z pz] X.env).map (·.2) = assign (.Name z pz) X.env :: (assignEach [] X.env).map (·.2) := by rfl)
    (hs1 : starEach [.List [] lp, b, cc] X.env = (false, eval (.List [] lp) X.env) :: starEach [b, cc] X.env := by rfl) (hs2 : starEach [b, cc] X.env = (false, eval b X.env) :: starEach [cc] X.env := by rfl) (hs3 : starEach [cc] X.env = (false, eval cc X.env) :: starEach [] X.env := by rfl) :
    PS X (.Assign [.Tuple [.Name x px, .Name y py, .Name z pz] kt pt] (.Tuple [.List [] lp, b, cc] k2 pt2) pos) (tS X.K W (mParL i j l mb mc)) :=
  PS.imp (ps_asg (pe_tup (pa_cons (pe_lst pa_nil) (pa_cons hb (pa_cons hcc pa_nil hs3) hs2) hs1)) (pg_tup hc (pgs_cons (pg_name hN hi hx hfx) (pgs_cons (pg_name hN hj hy hfy) (pgs_cons (pg_name hN hl hz hfz) pgs_nil e3) e2) e1) hn hst) hs hw h1) fun _ _ _ => parLC_of
end
end Dd

namespace Dd
open PySem PySem.Spec L2 PyProof.Rows
/-! ### a, *b = a list -/
section
variable {prog : Program} {w : World} {A : Around} {E : Value → Shared → Prop} {s : Shared}
theorem star_list {l : Addr} {items : Array Value} {n i : Nat} {Q : List Value → Shared → Prop} (hl : s.heap.IsList l items) (hh : A.handled = none) (hi : i < n) (hn : n ≤ items.size + 1) (hz : items.size ≤ sizeLine)
    (h : ∀ (h2 : Heap) (tk : Nat), (∀ b o, s.heap.get? b = some o → h2.get? b = some o) →
      Q (items.toList.take i ++ [.ref h2.objs.size] ++ (items.toList.drop i).drop (items.size + 1 - n)) { s with heap := h2.push (seqObj "list" ((items.toList.drop i).take (items.size + 1 - n)).toArray 0), toks := tk }) :
    wpAny (model prog w) A (unpackItems (.ref l) n (some i)) Q E s := by
  have hlt : l ≠ s.heap.objs.size := by obtain ⟨o, ho, _⟩ := hl; exact Nat.ne_of_lt (Heap.lt_size ho)
  have hll : l < s.heap.objs.size := by obtain ⟨o, ho, _⟩ := hl; exact Heap.lt_size ho
  unfold unpackItems
  refine wpAny_bind ?_
  unfold notIterableAtAll
  refine wpAny_bind (wpAny_specialOf hl.typeIs slot_list_iter.lookup ?_)
  refine wpAny_pure ?_
  simp only [Bool.false_eq_true, if_false]
  refine wpAny_bind (wpAny_holding (wpAny_pyIter_list hl ?_))
  refine wpAny_bind (wpAny_holding (PySem.W.kun_draw hlt i 0 _ _ ⟨_, Heap.get?_push_size _ rfl, rfl, rfl⟩ (hl.push _) (by omega) fun h₁ hit₁ hs₁ => ?_))
  have hl₁ : h₁.IsList l items := (hl.push _).extBut hs₁.extBut hlt
  rw [Nat.zero_add] at hit₁
  have hit₁' := hit₁
  obtain ⟨oi, hoi, _⟩ := hit₁'
  have hl₁' := hl₁
  obtain ⟨ol, hol, _⟩ := hl₁'
  rw [List.drop_zero]
  have hfl : (items.toList.take i).length = i := by rw [List.length_take, Array.length_toList]; omega
  rw [if_neg (show ¬ ((items.toList.take i).length < i) by rw [hfl]; omega)]
  refine wpAny_bind (wpAny_holding (PySem.W.kun_collect (s := { s with heap := h₁ }) (T := "list_iterator") (.inr (.inr (.inl rfl))) (Walks.list (A := A.in1) hh s.heap.objs.size l hlt items) (fun j u st => st.1.typeIs) (k := i) (by omega) ⟨hit₁, hl₁⟩ (Heap.lt_size hoi) (Heap.lt_size hol) (fun h₂ tk hk => ?_) hz))
  have hrl : (items.toList.drop i).length = items.size - i := by rw [List.length_drop, Array.length_toList]
  have hmid : (items.toList.drop i).length - (n - 1 - i) = items.size + 1 - n := by rw [hrl]; omega
  show wpAny _ _ (if (items.toList.drop i).length < n - 1 - i then _ else _) _ _ _
  rw [if_neg (by rw [hrl]; omega)]
  show wpAny _ _ (newList ((items.toList.drop i).take ((items.toList.drop i).length - (n - 1 - i))) >>= fun d => pure (items.toList.take i ++ [d] ++ (items.toList.drop i).drop ((items.toList.drop i).length - (n - 1 - i)))) _ _ _
  rw [hmid]
  refine wpAny_bind (wpAny_newList ?_ (by rw [List.length_take, hrl]; omega))
  refine wpAny_pure (h h₂ tk fun b o e => ?_)
  have hb : b ≠ s.heap.objs.size := Nat.ne_of_lt (Heap.lt_size e)
  exact hk b o hb (hs₁.extBut b o hb (Heap.get?_push_of_some _ e))
end
/-- a, *b = a list: the others are a new list -/
def gLstS (K : PySem.W.Frag) (n i : Nat) (t : TGs) : TG := fun v σ H Q => ∃ a xs, v = .ref a ∧ SqL K H a xs ∧ i < n ∧ n ≤ xs.length + 1 ∧
  ∀ D, H D = none → t (xs.take i ++ [.ref D] ++ (xs.drop i).drop (xs.length + 1 - n)) σ (upd H D (.lst ((xs.drop i).take (xs.length + 1 - n)))) Q
section
variable {X : Cx} {pos : Pos} {W : WX}
theorem pg_lstS {es : List Expr} {k : Nat} {t : TGs} {n i : Nat} (hc : X.calm = true) (h : PGs X es t)
    (hn : (assignEach es X.env).length = n := by rfl) (hst : (assignEach es X.env).findIdx? (·.1) = some i := by rfl) : PG X (.Tuple es k pos) (gLstS X.K n i t) := by
  refine ⟨fun pins s σ H v u Q I r hw => ?_⟩
  obtain ⟨a, xs, e1, hq, hi, hl, hw⟩ := hw
  subst e1
  cases r
  obtain ⟨its, rv, pl, hz⟩ := I.list hq
  have hlen : its.length = xs.length := rv.length.symm
  rw [PyProof.Rows.assign_Tuple]
  refine wpAny_bind (wpAny_standAt ?_)
  unfold unpack
  rw [hn, hst]
  refine wpAny_bind (wpAny_holding (star_list pl.isList (I.ok.hd hc) hi (by simp [hlen]; exact hl) (by simp [hlen]; exact hz) fun h2 tk hk => ?_))
  have I1 : Inv X pins σ H { s with heap := h2, toks := tk } := I.kept hk
  have hm : ((its.toArray.toList.drop i).take (its.toArray.size + 1 - n)).length ≤ sizeLine := by
    simp only [List.length_take, List.length_drop, List.size_toArray]
    rw [hlen]; omega
  have hv : Vals ((xs.drop i).take (xs.length + 1 - n)) ((its.toArray.toList.drop i).take (its.toArray.size + 1 - n)) := by
    simp only [List.size_toArray, hlen]
    exact (rv.drop i).take _
  have I2 : Inv X pins σ (upd H h2.objs.size (.lst ((xs.drop i).take (xs.length + 1 - n)))) { s with heap := h2.push (seqObj "list" ((its.toArray.toList.drop i).take (its.toArray.size + 1 - n)).toArray 0), toks := tk } :=
    I1.laid (t' := tk) (fun b u e => Heap.get?_push_of_some _ e) (Nat.le_refl _)
      (show ObjOk X.prog X.w _ _ _ (.lst _) from ⟨by rw [hv.length]; exact hm, _, 0, hv, Heap.get?_push_size _ rfl⟩)
  refine h.run pins _ σ _ _ _ Q I2 ?_ (hw h2.objs.size (I1.hok.fresh (Nat.le_refl _)))
  simp only [List.size_toArray, hlen]
  exact ((rv.take i).append (.cons (show L2.RelV (V.ref h2.objs.size) (.ref h2.objs.size) from rfl) .nil)).append ((rv.drop i).drop _)
theorem pgs_consS {e : Expr} {es : List Expr} {t : TG} {u : TGs} {sp : Pos} (h1 : PG X e t) (h2 : PGs X es u)
    (hs : (assignEach (.Starred e sp :: es) X.env).map (·.2) = assign e X.env :: (assignEach es X.env).map (·.2) := by rfl) : PGs X (.Starred e sp :: es) (gCons t u) := by
  refine ⟨fun pins s σ H vs us Q I r h => ?_⟩
  obtain ⟨v, vr, e1, h⟩ := h
  subst e1
  cases r with
  | cons r rr =>
    rw [hs]
    refine assignInOrder_cons (thn (h1.run pins s σ H _ _ _ I r h) fun _ s1 ⟨σ1, H1, I1, q1⟩ => ?_)
    exact h2.run pins s1 σ1 H1 _ _ Q I1 rr q1
theorem dgsConsS {e : Expr} {es : List Expr} {sp : Pos} {g : D → M Unit} {gs : List D → M Unit} (h1 : PG X e (tG X.K W g)) (h2 : PGs X es (tGs X.K W gs)) (hs : (assignEach (.Starred e sp :: es) X.env).map (·.2) = assign e X.env :: (assignEach es X.env).map (·.2) := by rfl) : PGs X (.Starred e sp :: es) (tGs X.K W (gCons2 g gs)) :=
  PGs.imp (pgs_consS h1 h2 hs) (by
  rintro vs σ H Q ⟨c, F, ρ, ds, ok, r, h⟩
  cases r with
  | nil => exact h.elim
  | cons r rr =>
    refine ⟨_, _, rfl, c, F, ρ, _, ok, r, postG_mono ?_ (postG_bindG h)⟩
    rintro σ1 H1 ⟨F1, ρ1, ok1, s1, h1⟩
    exact ⟨c, F1, ρ1, _, ok1, DpAll.mono s1 rr, h1⟩)
def gStarD (n i : Nat) (gs : List D → M Unit) : D → M Unit
  | .list ds => if i < n ∧ n ≤ ds.length + 1 then gs (ds.take i ++ [.list ((ds.drop i).take (ds.length + 1 - n))] ++ (ds.drop i).drop (ds.length + 1 - n)) else mStuck
  | _ => mStuck
theorem dgStar {es : List Expr} {k : Nat} {gs : List D → M Unit} {n i : Nat} (hc : X.calm = true) (h : PGs X es (tGs X.K W gs)) (hn : (assignEach es X.env).length = n := by rfl) (hst : (assignEach es X.env).findIdx? (·.1) = some i := by rfl) : PG X (.Tuple es k pos) (tG X.K W (gStarD n i gs)) :=
  PG.imp (pg_lstS hc h hn hst) (by
  rintro v σ H Q ⟨c, F, ρ, d, ok, r, h⟩
  unfold gStarD at h
  split at h
  · rename_i ds1
    split at h
    · rename_i hl
      obtain ⟨p, vs, rfl, hp, dp⟩ := Pk.lst ok.sub (.inl r)
      have le := DpAll.length dp
      refine ⟨p, vs, rfl, hp, hl.1, by rw [le]; exact hl.2, fun q hq => ?_⟩
      rw [le]
      have hF : F q = none := ok.sub.free hq
      have s : Same F (upd F q (.lst ((vs.drop i).take (ds1.length + 1 - n)))) := Same.updN hF
      have ok2 := ok.alloc (o := .lst ((vs.drop i).take (ds1.length + 1 - n))) hq
      refine ⟨c, _, ρ, _, ok2, ?_, postG_weak s h⟩
      have dm := DpAll.mono s dp
      exact DpAll.append (DpAll.append (DpAll.take i dm) (.cons (.lst (.inl upd_same) (DpAll.take _ (DpAll.drop i dm))) .nil)) (DpAll.drop _ (DpAll.drop i dm))
    · exact h.elim
  · exact h.elim)
end
/-! ### xs.clear() -/
def clearD : List D → List D → Option (List D × D)
  | _, [] => some ([], .none)
  | _, _ => none
theorem mut_clear {K : PySem.W.Frag} : MutD K rClear clearD := by
  intro H F l xs vs ds as ds' d Q s hF hl hx hv e k
  cases hv with
  | cons _ _ => cases e
  | nil =>
    cases e
    exact ⟨l, xs, rfl, rfl, hl, k _ _ .nil .non⟩
/-! ### a def that hands back a new list -/
section
variable {K : PySem.W.Frag} {W : WX} {c : Ct} {σ : L2.St} {H F : Hp} {ρ : En}
theorem Ok.dropP {p : Addr} {xs : List V} (ok : Ok K (c.put p (.lst xs)) σ H F ρ) (hp : c.pr p = none) : Ok K c σ H F ρ := by
  have nown : ∀ {q : Addr}, (c.put p (.lst xs)).pr q = none → q ≠ p := fun {q} a z => by
    subst z
    have a' : upd c.pr q (.lst xs) q = none := a
    rw [upd_same] at a'; cases a'
  refine ⟨ok.len, ok.sub, ok.ge, ok.fe, ok.keep, fun q e => ?_, fun b u e => ?_, ok.val, fun j es e => ?_, ok.ios, ok.scr, ok.sep⟩
  · obtain ⟨a1, a2, a3, a4⟩ := ok.iod q e
    exact ⟨a1, a2, (upd_ne (nown a3)).symm.trans a3, a4⟩
  · have ne : b ≠ p := fun z => by subst z; rw [hp] at e; cases e
    exact ok.prt b u ((upd_ne ne).trans e)
  · obtain ⟨q, vs, a1, a2, a3, a4, a5, a6⟩ := ok.own j es e
    exact ⟨q, vs, a1, a2, a3, a4, a5, (upd_ne (nown a6)).symm.trans a6⟩
end
section
variable {X : Cx} {W : WX} {pos : Pos}
def mRetFN (m : M (List D)) : M Fl := mBind m fun ds => mPure (.rf ds)
theorem dRetFN {e : Expr} {m : M (List D)} (h : PE X e (tN X.K W m)) : PS X (.Return (some e) pos) (tS X.K W (mRetFN m)) := PS.imp (ps_ret h) (by
  rintro Dn σ H ⟨c, F, ρ, ok, h⟩
  refine ⟨c, F, ρ, ok, ?_⟩
  unfold mRetFN mBind at h
  cases e : m ρ with
  | none => rw [e] at h; exact h.elim
  | some r =>
    rw [e] at h
    cases r with
    | ex x ρ' => exact fun cls y H' F' ok s r => h σ cls y H' F' ok s r
    | ok out ρ' =>
      intro p xs H' F' ok' hp s' r
      obtain ⟨hH, hF, h0⟩ := ok'.prt p _ upd_same
      exact h σ p xs H' F' (ok'.dropP hp) s' hH r hF h0)
end
section
variable {K : PySem.W.Frag} {W : WX} {σ : L2.St} {H : Hp} {n : Nat} {ms : M (List D)}
def asV (f : List D → Option (Rs (List D))) : List D → Option (Rs D) := fun ds => match f ds with
  | none => none
  | some (.ok es) => some (.ok (.list es))
  | some (.error e) => some (.error e)
theorem callFV_of {f : List D → Option (Rs (List D))} {Q : VK} (h : tE K W (mCallV n (asV f) ms) σ H Q) : tCallS (spF K n f) (WE W) (tA K W ms) σ H Q := by
  obtain ⟨c, F, ρ, ok, h⟩ := h
  refine ⟨c, F, ρ, ok, post_mono ?_ (post_bind h)⟩
  rintro ds H1 F1 _ ⟨ρ1, ok1, s1, h1⟩ vs rv
  split at h1
  · rename_i hl
    refine ⟨F1, ds, ok1.sub, rv, hl, ?_⟩
    unfold mRs asV at h1
    cases e : f ds with
    | none => rw [e] at h1; exact h1
    | some r =>
      rw [e] at h1
      cases r with
      | error e => exact fun cls y F' H' x r => h1 cls y H' F' (ok1.call x) x.ff r
      | ok es =>
        intro p xs F' H' x hp hf hl' rx
        have s2 : Same F' (upd F' p (.lst xs)) := Same.updN hf
        have x2 : Ext F1 H1 (upd F' p (.lst xs)) H' := ⟨x.ff.trans s2, fun b o q => by
            by_cases hb : b = p
            · subst hb; rw [upd_same] at q; cases q; exact hl'
            · rw [upd_ne hb] at q; exact x.fh b o q, fun b o q => by
            by_cases hb : b = p
            · subst hb; exact .inr hp
            · rw [upd_ne hb] at q; exact x.fe b o q, x.hh⟩
        exact h1 H' _ (ok1.call x2) x2.ff _ (.lst (.inl upd_same) (DpAll.mono s2 rx))
  · exact h1.elim
/-- a call that looks at a slot's own list; what is told is no list -/
def scalD : D → Bool
  | .none => true
  | .bool _ => true
  | .int _ => true
  | .str _ => true
  | _ => false
def mCallP (i n : Nat) (f : List D → Option (Rs D)) (ms : M (List D)) : M D := mBind (mOwn i) fun _ => mBind ms fun ds => mBind (mOwn i) fun bs => if ds.length + 1 = n then (match f (.list bs :: ds) with
  | some (.ok d) => if scalD d = true then mPure d else mStuck
  | _ => mStuck) else mStuck
theorem scal_dp {F F' : Hp} {v : V} {d : D} (hs : scalD d = true) (h : Dp K F v d) : Dp K F' v d := by
  cases h with
  | non => exact .non
  | bl b => exact .bl b
  | int i => exact .int i
  | str x => exact .str x
  | lst _ _ => cases hs
  | tup _ _ => cases hs
theorem callP_of {i : Nat} {f : List D → Option (Rs D)} {Q : VK} (h : tE K W (mCallP i n f ms) σ H Q) : tCallS (spV K n f) (WE W) (tCons (tVar i) (tA K W ms)) σ H Q := by
  obtain ⟨c, F, ρ, ok, h⟩ := h
  obtain ⟨p, vs, ds0, a1, a2, a3, a4, h⟩ := own_at ok h
  refine ⟨.ref p, a1, c, F, ρ, ok, post_mono ?_ (post_bind h)⟩
  rintro ds H1 F1 _ ⟨ρ1, ok1, s1, h1⟩ ws rw'
  obtain ⟨p', vs1, bs, b1, b2, b3, b4, h2⟩ := own_at ok1 h1
  have ep : p' = p := by rw [a1] at b1; cases b1; rfl
  subst ep
  split at h2
  · rename_i hl
    have s2 : Same F1 (upd F1 p' (.lst vs1)) := Same.updN b4
    refine ⟨upd F1 p' (.lst vs1), .list bs :: ds, fun b o q => ?_, .cons (.lst (.inl upd_same) (DpAll.mono s2 b3)) (DpAll.mono s2 rw'), hl, ?_⟩
    · by_cases hb : b = p'
      · subst hb; rw [upd_same] at q; cases q; exact b2
      · rw [upd_ne hb] at q; exact ok1.sub b o q
    · cases e : f (.list bs :: ds) with
      | none => rw [e] at h2; exact h2.elim
      | some r =>
        rw [e] at h2
        cases r with
        | error x => exact h2.elim
        | ok d =>
          dsimp only at h2 ⊢
          by_cases hs : scalD d = true
          · rw [if_pos hs] at h2
            intro v F' H' x rv
            exact h2 H' F1 (ok1.call ⟨Same.refl F1, fun b o q => x.fh b o (x.ff b o (s2 b o q)), fun b o q => .inl q, x.hh⟩) (Same.refl F1) v (scal_dp hs rv)
          · rw [if_neg hs] at h2; exact h2.elim
  · exact h2.elim
end
section
variable {X : Cx} {W : WX} {k n : Nat} {f : Addr} {fd : FuncData} {ps : List Str} {x : Str} {p pos : Pos} {e : Expr} {es : List Expr} {ms : M (List D)}
theorem dCallP {i : Nat} {g : List D → Option (Rs D)} (F : FnOk X.prog X.w X.K X.mg X.base (L2.CX X.prog X.w) k f fd ps (spV X.K n g)) (hr : Room k X.A) (hm : X.mg x = some (.ref f)) (hk : PySem.W.keepIn X.K (.ref f) = true) (hb : Binds X.K fd ps []) (tk : Takes X W)
    (h1 : PE X e (tVar i)) (ha : PA X es (tA X.K W ms)) (hg : Gl X x := by rfl) (hdb : (x == ("__debug__" : Str)) = false := by decide) (he : starEach (e :: es) X.env = (false, eval e X.env) :: starEach es X.env := by rfl) (hpl : (backTo pos (starEach es X.env)).any (·.1) = false := by rfl) :
    PE X (.Call (.Name x p) (e :: es) [] pos) (tE X.K W (mCallP i n g ms)) := PE.imp (pe_callS F hr hg hm hk hb (fun σ => passAt tk σ) (pa_cons h1 ha he) hdb he hpl) fun _ _ _ => callP_of
theorem dCallPG {i : Nat} {g : List D → Option (Rs D)} (hgd : X.A.guards = some []) (F : FnG X.prog X.w X.K X.mg X.base (L2.CX X.prog X.w) k f fd ps (spV X.K n g)) (hr : Room k X.A) (hm : X.mg x = some (.ref f)) (hk : PySem.W.keepIn X.K (.ref f) = true) (hb : Binds X.K fd ps []) (tk : Takes X W)
    (h1 : PE X e (tVar i)) (ha : PA X es (tA X.K W ms)) (hg : Gl X x := by rfl) (hdb : (x == ("__debug__" : Str)) = false := by decide) (he : starEach (e :: es) X.env = (false, eval e X.env) :: starEach es X.env := by rfl) (hpl : (backTo pos (starEach es X.env)).any (·.1) = false := by rfl) :
    PE X (.Call (.Name x p) (e :: es) [] pos) (tE X.K W (mCallP i n g ms)) := PE.imp (pe_callG F hgd hr hg hm hk hb (fun σ => passAt tk σ) (pa_cons h1 ha he) hdb he hpl) fun _ _ _ => callP_of
theorem dCallFV {g : List D → Option (Rs (List D))} (F : FnOk X.prog X.w X.K X.mg X.base (L2.CX X.prog X.w) k f fd ps (spF X.K n g)) (hr : Room k X.A) (hm : X.mg x = some (.ref f)) (hk : PySem.W.keepIn X.K (.ref f) = true) (hb : Binds X.K fd ps []) (tk : Takes X W)
    (ha : PA X (e :: es) (tA X.K W ms)) (hg : Gl X x := by rfl) (hdb : (x == ("__debug__" : Str)) = false := by decide) (he : starEach (e :: es) X.env = (false, eval e X.env) :: starEach es X.env := by rfl) (hpl : (backTo pos (starEach es X.env)).any (·.1) = false := by rfl) :
    PE X (.Call (.Name x p) (e :: es) [] pos) (tE X.K W (mCallV n (asV g) ms)) := PE.imp (pe_callS F hr hg hm hk hb (fun σ => passAt tk σ) ha hdb he hpl) fun _ _ _ => callFV_of
theorem dCallFVG {g : List D → Option (Rs (List D))} (hgd : X.A.guards = some []) (F : FnG X.prog X.w X.K X.mg X.base (L2.CX X.prog X.w) k f fd ps (spF X.K n g)) (hr : Room k X.A) (hm : X.mg x = some (.ref f)) (hk : PySem.W.keepIn X.K (.ref f) = true) (hb : Binds X.K fd ps []) (tk : Takes X W)
    (ha : PA X (e :: es) (tA X.K W ms)) (hg : Gl X x := by rfl) (hdb : (x == ("__debug__" : Str)) = false := by decide) (he : starEach (e :: es) X.env = (false, eval e X.env) :: starEach es X.env := by rfl) (hpl : (backTo pos (starEach es X.env)).any (·.1) = false := by rfl) :
    PE X (.Call (.Name x p) (e :: es) [] pos) (tE X.K W (mCallV n (asV g) ms)) := PE.imp (pe_callG F hgd hr hg hm hk hb (fun σ => passAt tk σ) ha hdb he hpl) fun _ _ _ => callFV_of
theorem dAsgF {i : Nat} {y : Str} {pos' spos : Pos} {g : List D → Option (Rs (List D))} (F : FnOk X.prog X.w X.K X.mg X.base (L2.CX X.prog X.w) k f fd ps (spF X.K n g)) (hr : Room k X.A) (hm : X.mg x = some (.ref f)) (hk : PySem.W.keepIn X.K (.ref f) = true) (hb : Binds X.K fd ps []) (tk : Takes X W) (hN : X.N.Nodup)
    (ha : PA X (e :: es) (tA X.K W ms)) (hg : Gl X x := by rfl) (hdb : (x == ("__debug__" : Str)) = false := by decide) (he : starEach (e :: es) X.env = (false, eval e X.env) :: starEach es X.env := by rfl) (hpl : (backTo pos (starEach es X.env)).any (·.1) = false := by rfl)
    (hi : X.N[i]? = some y := by rfl) (hx : Loc X.env.scope y := by first | exact Or.inl rfl | exact Or.inr rfl)
    (hs : swapsWith (.Call (.Name x p) (e :: es) [] pos) (some (.Name y pos')) spos.line X.env = pure false := by rfl)
    (hf : X.fn y = true ∨ X.env.scope.names.lookup y = some .local := by first | exact .inl rfl | exact .inr rfl) :
    PS X (.Assign [.Name y pos'] (.Call (.Name x p) (e :: es) [] pos) spos) (tS X.K W (mAsgF i n g ms)) := PS.imp (ps_set hN hi hx (pe_callS F hr hg hm hk hb (fun σ => passAt tk σ) ha hdb he hpl) hs hf) fun _ _ _ => asgF_of
theorem dAsgFG {i : Nat} {y : Str} {pos' spos : Pos} {g : List D → Option (Rs (List D))} (hgd : X.A.guards = some []) (F : FnG X.prog X.w X.K X.mg X.base (L2.CX X.prog X.w) k f fd ps (spF X.K n g)) (hr : Room k X.A) (hm : X.mg x = some (.ref f)) (hk : PySem.W.keepIn X.K (.ref f) = true) (hb : Binds X.K fd ps []) (tk : Takes X W) (hN : X.N.Nodup)
    (ha : PA X (e :: es) (tA X.K W ms)) (hg : Gl X x := by rfl) (hdb : (x == ("__debug__" : Str)) = false := by decide) (he : starEach (e :: es) X.env = (false, eval e X.env) :: starEach es X.env := by rfl) (hpl : (backTo pos (starEach es X.env)).any (·.1) = false := by rfl)
    (hi : X.N[i]? = some y := by rfl) (hx : Loc X.env.scope y := by first | exact Or.inl rfl | exact Or.inr rfl)
    (hs : swapsWith (.Call (.Name x p) (e :: es) [] pos) (some (.Name y pos')) spos.line X.env = pure false := by rfl)
    (hf : X.fn y = true ∨ X.env.scope.names.lookup y = some .local := by first | exact .inl rfl | exact .inr rfl) :
    PS X (.Assign [.Name y pos'] (.Call (.Name x p) (e :: es) [] pos) spos) (tS X.K W (mAsgF i n g ms)) := PS.imp (ps_set hN hi hx (pe_callG F hgd hr hg hm hk hb (fun σ => passAt tk σ) ha hdb he hpl) hs hf) fun _ _ _ => asgF_of
end
end Dd

namespace Dd
open PySem PySem.Spec L2 PyProof.Rows HT
/-! ### t[::-1] of a tuple -/
section
variable {prog : Program} {w : World} {A : Around} {E : Value → Shared → Prop} {s : Shared}
theorem applied_rev {sl : Addr} {vl vu vs : Value} {n : Nat} {Q : Int × Int × Nat → Shared → Prop} (hs : s.heap.IsSliceOf sl vl vu vs) (pl : IsPart vl none) (pu : IsPart vu none) (ps : IsPart vs (some (-1)))
    (h : Q ((n : Int) - 1, -1, n) s) : wpAny (model prog w) A (Builtin.Slice.sliceApplied (.ref sl) (pure (n : Int))) Q E s := by
  obtain ⟨os, hos, hcs, hds⟩ := id hs
  unfold Builtin.Slice.sliceApplied Builtin.Slice.sliceFields
  refine wpAny_bind (wpAny_bind (wpAny_field hos hds (x := vl) rfl (wpAny_bind (wpAny_field hos hds (x := vu) rfl (wpAny_bind (wpAny_field hos hds (x := vs) rfl (wpAny_pure ?_)))))))
  refine wpAny_bind (slicePart_ ps ?_)
  show wpAny _ _ (if ((-1 : Int) == 0) = true then _ else _) _ _ s
  rw [if_neg (by decide)]
  refine wpAny_bind (slicePart_ pl (wpAny_bind (slicePart_ pu (wpAny_bind (wpAny_pure ?_)))))
  show wpAny _ _ (match Builtin.Slice.sliceAdjust none none (-1) (n : Int) with | (lo, hi) => pure (lo, (-1 : Int), Builtin.Slice.slicePlaces lo hi (-1))) _ _ s
  have ea : Builtin.Slice.sliceAdjust none none (-1) (n : Int) = ((n : Int) - 1, -1) := rfl
  rw [ea]
  show wpAny _ _ (pure ((n : Int) - 1, (-1 : Int), Builtin.Slice.slicePlaces ((n : Int) - 1) (-1) (-1))) _ _ s
  have ep : Builtin.Slice.slicePlaces ((n : Int) - 1) (-1) (-1) = n := by
    unfold Builtin.Slice.slicePlaces
    rw [if_neg (by decide)]
    have e1 : (-(-1) : Int) = 1 := by decide
    rw [e1, Int.ediv_one]
    split <;> omega
  rw [ep]
  exact wpAny_pure h
theorem fm_congr {α β : Type} {f g : α → Option β} : ∀ {l : List α}, (∀ a, a ∈ l → f a = g a) → l.filterMap f = l.filterMap g
  | [], _ => rfl
  | a :: l, h => by
    rw [List.filterMap_cons, List.filterMap_cons, h a List.mem_cons_self, fm_congr fun b hb => h b (List.mem_cons_of_mem _ hb)]
theorem pick_rev (xs : Array Value) : ((List.range xs.size).filterMap fun (m : Nat) => xs[(((xs.size : Int) - 1) + (m : Int) * (-1)).toNat]?).toArray = xs.toList.reverse.toArray := by
  have h : ((List.range xs.size).filterMap fun (m : Nat) => xs[(((xs.size : Int) - 1) + (m : Int) * (-1)).toNat]?) = xs.toList.reverse := by
    have e : ∀ m, m ∈ List.range xs.size → xs[(((xs.size : Int) - 1) + (m : Int) * (-1)).toNat]? = xs.toList.reverse[m]? := fun m hm => by
      have hm := List.mem_range.mp hm
      rw [List.getElem?_reverse (by simpa using hm), Array.getElem?_toList, Array.length_toList]
      congr 1
      omega
    rw [fm_congr e]
    have : xs.size = xs.toList.reverse.length := by simp
    rw [this]
    generalize xs.toList.reverse = ys
    clear e this
    induction ys with
    | nil => rfl
    | cons y ys ih =>
      rw [List.length_cons, List.range_succ_eq_map, List.filterMap_cons]
      simp only [List.getElem?_cons_zero, List.filterMap_map]
      congr 1
  rw [h]
theorem item_rev {t sl : Addr} {items : Array Value} {vl vu vs : Value} {Q : Value → Shared → Prop} (ht : IsTup s.heap t items) (hs : s.heap.IsSliceOf sl vl vu vs) (pl : IsPart vl none) (pu : IsPart vu none) (ps : IsPart vs (some (-1)))
    (h : Q (.ref s.heap.objs.size) { s with heap := s.heap.push { cls := .type "tuple", data := .seq items.toList.reverse.toArray } })
    (hsz : items.size ≤ sizeLine) : wpAny (model prog w) A (getItem (.ref t) (.ref sl)) Q E s := by
  have htake : sizeOk (.seq items.toList.reverse.toArray) := by
    show items.toList.reverse.toArray.size ≤ sizeLine
    simpa using hsz
  obtain ⟨os, hos, hcs, hds⟩ := id hs
  have hTs : s.TypeIs (.ref sl) "slice" := ⟨os, hos, hcs⟩
  unfold getItem
  try with_reducible refine wpAny_holding ?_
  first | refine wpAny_bind (wpAny_pure ?_) | skip
  refine wpAny_bind (wpAny_sequenceKey ht.typeIs (by decide) ?_)
  refine wpAny_bind (wpAny_callSpecial?_slot (name := Str.ofString "__getitem__") ht.typeIs PyProof.Rows.slot_tuple_getitem
    (wpAny_call_entry PyProof.Rows.slot_tuple_getitem ht.typeIs entry_tuple_getitem ?_ (args_tuple_getitem _ _)))
  show wpAny _ _ (Builtin.Tuple.tupleItemsOf (.ref t) >>= _) _ _ s
  refine wpAny_bind (tupleItemsOf_ ht ?_)
  refine wpAny_bind (wpAny_typeOf hTs ?_)
  rw [if_pos (by decide)]
  refine wpAny_bind (applied_rev hs pl pu ps ?_)
  have hno : ¬ ((((items.size : Int) - 1) == 0 && (-1 : Int) == 1 && items.size == items.size) = true) := by
    intro q
    rw [Bool.and_eq_true, Bool.and_eq_true] at q
    exact absurd q.1.2 (by decide)
  show wpAny _ _ (if (((items.size : Int) - 1) == 0 && (-1 : Int) == 1 && items.size == items.size) = true then _ else _) _ _ s
  rw [if_neg hno, pick_rev]
  first
    | exact wpAny_bind (m := Builtin.Tuple.tupleExact _) (wpAny_newObj_type (wpAny_pure ⟨_, rfl, wpAny_pure h⟩) htake)
    | exact wpAny_bind (m := Builtin.Tuple.tupleExact _) (wpAny_newObj_type (wpAny_bind (wpAny_pure (wpAny_pure ⟨_, rfl, wpAny_pure h⟩))) htake)
    | exact wpAny_bind (wpAny_bind (m := Builtin.Tuple.tupleExact _) (wpAny_newObj_type (wpAny_pure (wpAny_pure ⟨_, rfl, wpAny_pure h⟩)) htake))
    | exact wpAny_bind (wpAny_bind (m := Builtin.Tuple.tupleExact _) (wpAny_newObj_type (wpAny_pure ⟨_, rfl, wpAny_pure h⟩) htake))
end
def tRevT (K : PySem.W.Frag) (te : TE) : TE := fun σ H Q => te σ H fun x H1 => ∃ a xs, x = .ref a ∧ SqT K H1 a xs ∧ ∀ p, H1 p = none → Q (.ref p) (upd H1 p (.tup xs.reverse))
section
variable {X : Cx} {W : WX} {a : Expr} {ma : M D} {pos p1 p2 p3 : Pos} {k : Nat}
theorem pe_revT {e : Expr} {te : TE} (he : PE X e te) : PE X (.Subscript e (.Slice none none (some (.UnaryOp .USub (.Constant (.int 1) k p1) p2)) p3) pos) (tRevT X.K te) := by
  refine ⟨fun pins s σ H Q I h => ?_⟩
  refine Subscript_ (thn (he.run pins s σ H _ I h) fun v s1 ⟨x, H1, I1, r1, q1⟩ => ?_)
  obtain ⟨a, xs, ex, hx, q⟩ := q1
  subst ex
  cases r1
  have hst : PO X (some (.UnaryOp .USub (.Constant (.int 1) k p1) p2)) (tPart (tUn (rU fun i => .int (-i)) (tC (.int 1)))) := po_some (pe_un un_neg pe_int)
  refine wpAny_Slice (thn (po_none.run pins s1 σ H1 (fun o H2 => o = none ∧ H2 = H1) I1 ⟨rfl, rfl⟩) fun vl s2 ⟨l, H2, I2, pl, el, e2⟩ => ?_)
  subst el e2
  refine thn (po_none.run pins s2 σ H2 (fun o H3 => o = none ∧ H3 = H2) I2 ⟨rfl, rfl⟩) fun vu s3 ⟨u, H3, I3, pu, eu, e3⟩ => ?_
  subst eu e3
  refine thn (hst.run pins s3 σ H3 (fun o H4 => o = some (-1) ∧ H4 = H3) I3 ⟨1, rfl, -1, rfl, rfl, rfl⟩) fun vs s4 ⟨o, H4, I4, ps, eo, e4⟩ => ?_
  subst eo e4
  have I5 : Inv X pins σ H4 { s4 with heap := s4.heap.push { cls := .type "slice", data := .fields #[vl, vu, vs] } } := I4.kept (t' := s4.toks) fun b ob q => Heap.get?_push_of_some _ q
  obtain ⟨its, r, ht, hz⟩ := I5.tuple hx
  have hlen := r.length
  show wpAny (model X.prog X.w) X.A (subscriptTail e (.Slice none none (some (.UnaryOp .USub (.Constant (.int 1) k p1) p2)) p3) (.ref a) (.ref s4.heap.objs.size)) (EP X pins σ Q) X.xe { s4 with heap := s4.heap.push { cls := .type "slice", data := .fields #[vl, vu, vs] } }
  refine tail_any (ops := [.ref a, .ref s4.heap.objs.size]) ht.typeIs (PyProof.Rows.slot_tuple_getitem.lookup) ?_ (by with_unfolding_all rfl)
  refine item_rev ht (Heap.IsSliceOf.new _ vl vu vs) pl pu ps ?_ (by rw [List.size_toArray]; omega)
  refine ⟨.ref _, _, I5.laid (t' := s4.toks) (o := .tup xs.reverse) (fun b ob q => Heap.get?_push_of_some _ q) (Nat.le_refl _) ?_, rfl, q _ (I5.hok.fresh (Nat.le_refl _))⟩
  exact ⟨by rw [List.length_reverse]; exact hz, _, r.reverse, ⟨_, Heap.get?_push_size _ rfl, rfl, 0, rfl⟩⟩
def revTD : D → Option D
  | .tuple ds => some (.tuple ds.reverse)
  | _ => none
def mRevT (m : M D) : M D := mBind m fun d => mLift (revTD d)
theorem dRevT (ha : PE X a (tP X.K W ma)) : PE X (.Subscript a (.Slice none none (some (.UnaryOp .USub (.Constant (.int 1) k p1) p2)) p3) pos) (tE X.K W (mRevT ma)) := PE.imp (pe_revT ha) (by
  rintro σ H Q ⟨c, F, ρ, ok, h⟩
  refine ⟨c, F, ρ, ok, post_mono ?_ (post_bind h)⟩
  rintro a H1 F1 _ ⟨ρ1, ok1, s1, h1⟩ x rx
  obtain ⟨d, e, h2⟩ := post_lift h1
  cases a with
  | tuple es =>
    cases e
    obtain ⟨p, vs, rfl, hp, dp⟩ := Pk.tup ok1.sub rx
    refine ⟨p, vs, rfl, hp, fun q hq => ?_⟩
    have hF : F1 q = none := ok1.sub.free hq
    have s : Same F1 (upd F1 q (.tup vs.reverse)) := Same.updN hF
    exact h2 _ _ (ok1.alloc hq) s _ (.tup (.inl (.inl upd_same)) (DpAll.mono s (DpAll.reverse dp)))
  | _ => cases e)
end
end Dd

namespace Dd
open PySem PySem.Spec L2 PyProof.Rows
variable {K : PySem.W.Frag}
/-! ### enumerate of a list or a tuple -/
theorem meets_enum1 {v : Value} {o : Obj} {H : Heap → Prop} (B : Begins v o H) :
    Meets (Builtin.«enumerate.__new__» ⟨[.type "enumerate", v], []⟩) (fun _ R s => H s.heap ∧
      R (.ok (.ret (.ref (s.heap.push o).objs.size))) { s with heap := (s.heap.push o).push { cls := .type "enumerate", data := .fields #[.none, .bool false, .ref s.heap.objs.size, rawInt 0, .none, .none] } }) :=
  .of_wp fun prog w A R s h => by
    obtain ⟨hp, g, d, tk, os⟩ := s; obtain ⟨h1, h⟩ := h
    have hsub := sub_enumerate
    have q1 : ∀ {A' : Around} {E : Value → Shared → Prop} {Q : Value → Shared → Prop}, Q (.ref hp.objs.size) ⟨hp.push o, g, d, tk, os⟩ → wpAny (model prog w) A' (pyIter v) Q E ⟨hp, g, d, tk, os⟩ :=
      fun q => B.iter prog w _ _ ⟨hp, g, d, tk, os⟩ _ h1 q
    wp_walk using q1
    refine wpAny_stack_any fun st => wpAny_pure ?_
    split
    · rename_i c _ _ _ _ _
      cases (c == Value.type "enumerate")
      · wp_walk using q1
        exact ⟨_, rfl, h⟩
      · wp_walk using q1
        exact ⟨_, rfl, h⟩
    · wp_walk using q1
      exact ⟨_, rfl, h⟩
theorem call_enum1 {prog : Program} {w : World} {A : Around} {E : Value → Shared → Prop} {s : Shared} {v : Value} {o : Obj} {H : Heap → Prop} {Q : Value → Shared → Prop} (B : Begins v o H) (h1 : H s.heap)
    (h : ∀ h', IsEnum h' (s.heap.objs.size + 1) s.heap.objs.size 0 .none → h'.get? s.heap.objs.size = some o → h'.objs.size = s.heap.objs.size + 2 →
      (∀ b o, s.heap.get? b = some o → h'.get? b = some o) → Q (.ref (s.heap.objs.size + 1)) { s with heap := h' }) :
    wpAny (model prog w) A (call (.type "enumerate") [v]) Q E s := by
  refine callType_new F.called_enumerate (by decide) (F.typeCall_enumerate_1 _) (F.newCall_enumerate_1 _) (fun obj => F.args_object_init_2 obj _) F.entry_enumerate_new
    (meets_enum1 B) ⟨h1, ?_⟩
  have hz : (s.heap.push o).objs.size = s.heap.objs.size + 1 := Heap.size_push ..
  show _ ∧ _
  rw [hz]
  have he : IsEnum ((s.heap.push o).push { cls := .type "enumerate", data := .fields #[.none, .bool false, .ref s.heap.objs.size, rawInt 0, .none, .none] }) (s.heap.objs.size + 1) s.heap.objs.size 0 .none := by
    have := Heap.get?_push_size (s.heap.push o) (o := { cls := .type "enumerate", data := .fields #[.none, .bool false, .ref s.heap.objs.size, rawInt 0, .none, .none] }) rfl
    rw [hz] at this; exact this
  refine ⟨⟨_, he, rfl⟩, h _ he (Heap.get?_push_of_some _ (Heap.get?_push_size _ B.free)) (by rw [Heap.size_push, hz]) fun b o x => Heap.get?_push_of_some _ (Heap.get?_push_of_some _ x)⟩
def IteB (K : PySem.W.Frag) (b : Bool) (a : Addr) (n : Nat) : It :=
  ⟨fun i H => ∃ (xs : List V) (x : V), SqB K b H a xs ∧ xs.length = n ∧ xs[i]? = some x, fun i H v H' => ∃ T x, v = .ref T ∧ H T = none ∧ H' = upd H T (.tup [.int (i : Nat), x]) ∧ ∀ xs, SqB K b H a xs → xs[i]? = some x, fun i H => ∃ xs : List V, SqB K b H a xs ∧ xs.length = n ∧ n ≤ i⟩
theorem turn_enumB {P : Program} {w : World} {elts : List Expr} {kk : Nat} {tpos : Pos} {b : Bool} {n : Nat} (a e it : Addr) (hea : e ≠ a) (hai : a ≠ it) :
    Turn P w K (.Tuple elts kk tpos) (IteB K b a n) [e, it] e (fun i h => (∃ old, IsEnum h e it ((i : Nat) : Int) old) ∧ ItB b h it a i ∧ e ≠ it ∧ i ≤ n) where
  mem := by simp
  obj := fun i h st c hc => by
    obtain ⟨⟨old, he⟩, h1, _⟩ := st
    have e' : c = e ∨ c = it := by simpa using hc
    rcases e' with z | z
    · rw [z]; exact ⟨_, he, fun v q => nomatch q⟩
    · rw [z]; exact h1.obj
  keep := fun i h h' st k => let ⟨⟨old, he⟩, hi, hne, hn⟩ := st; ⟨⟨old, k e (by simp) _ he⟩, hi.at fun o q => k it (by simp) o q, hne, hn⟩
  item := by
    intro X hP hw hK hc i pins s σ H E I hf st hg
    subst hP hw hK
    obtain ⟨⟨old, he⟩, hit, hne, hn⟩ := st
    obtain ⟨xs, x, hq, ln, hx⟩ := hg
    obtain ⟨its, rv, p⟩ := sqB_inv I hq
    obtain ⟨u, hu, ru⟩ := rv.get hx
    have hel : e < s.heap.objs.size := Heap.lt_size he
    have hil : it < s.heap.objs.size := by obtain ⟨_, q, _⟩ := hit.obj; exact Heap.lt_size q
    have hh := in1_handled (I.ok.hd hc)
    have lt1 : i < its.toArray.size := by
      have := (List.getElem?_eq_some_iff.mp hu).1
      simpa using this
    refine wpAny_pyNext_enum_itemD (drawsB hh b it a hai its.toArray) he ⟨hit, p⟩ lt1 hne (by simp [hne, hea]) fun x1 h' tk q1 ho hst' hT hsz hk => ?_
    have ex1 : x1 = u := by
      have : its.toArray[i]? = some u := by simpa using hu
      rw [this] at q1
      exact (Option.some.inj q1).symm
    subst ex1
    refine ⟨_, rfl, wpAny_letOwnedTupleGo_enum (s := { s with heap := h', toks := tk + 1 }) ho fun h'' he' sb => ?_⟩
    have hT2 : h''.get? s.heap.objs.size = some { cls := .type "tuple", data := .seq #[.int i tk, x1] } := (sb.2 _ (Nat.ne_of_gt hel)).trans hT
    have new : ObjOk X.prog X.w (upd H s.heap.objs.size (.tup [.int (i : Nat), x])) h'' s.heap.objs.size (.tup [.int (i : Nat), x]) :=
      ⟨by show 2 ≤ sizeLine; decide, [.int i tk, x1], .cons ⟨_, rfl⟩ (.cons ru .nil), ⟨_, hT2, rfl, _, rfl⟩⟩
    have I1 : Inv X pins σ (upd H s.heap.objs.size (.tup [.int (i : Nat), x])) { s with heap := h'', toks := tk + 1 } :=
      I.turnedNew (t' := tk + 1) (ch := [e, it]) (fun b ob hb q => (sb.2 b (fun z => hb (by simp [z]))).trans (hk b ob (fun z => hb (by simp [z])) (fun z => hb (by simp [z])) q)) hf (Nat.le_refl _) new
    refine ⟨.ref s.heap.objs.size, _, I1, rfl, ⟨_, x, rfl, I.hok.fresh (Nat.le_refl _), rfl, fun ys hy => by rw [sqB_inj I hy hq]; exact hx⟩, ⟨⟨x1, ?_⟩, hst'.1.at fun o q => (sb.2 it (Ne.symm hne)).trans q, hne, ?_⟩, fun b hb => ?_⟩
    · have e1 : ((i + 1 : Nat) : Int) = (i : Int) + 1 := by omega
      rw [e1]; exact he'
    · have := (List.getElem?_eq_some_iff.mp hx).1; omega
    · have hb' : b < s.heap.objs.size := by
        have e' : b = e ∨ b = it := by simpa using hb
        rcases e' with z | z
        · rw [z]; exact hel
        · rw [z]; exact hil
      rw [upd_ne (Nat.ne_of_lt hb')]
      exact (hf b hb).1
  done := by
    intro X hP hw hK hc i pins s σ H E I hf st hg
    subst hP hw hK
    obtain ⟨⟨old, he⟩, hit, hne, hn⟩ := st
    obtain ⟨xs, hq, ln, hx⟩ := hg
    obtain ⟨its, rv, p⟩ := sqB_inv I hq
    obtain ⟨f0, f1, f2, f3, f4, f5⟩ := hf it (by simp)
    have hl := rv.length
    have hh := in1_handled (I.ok.hd hc)
    have hin : i = its.toArray.size := by simp; omega
    exact wpAny_pyNext_enum_endD (drawsB hh b it a hai its.toArray) he ⟨by rw [← hin]; exact hit, p⟩ fun h' eb => ⟨rfl, I.turned (t' := s.toks) (fun b o hb q => eb b o hb q) f0 f1 f3 f4 f5⟩
  self := fun A i s Q E st h => let ⟨⟨_, he⟩, _⟩ := st; wpAny_pyIter_enum he h
def iEnumB (K : PySem.W.Frag) (ta : TA) : TI := fun σ H R => ta σ H fun vs H1 => ∃ b a xs, vs = [.ref a] ∧ SqB K b H1 a xs ∧ R (IteB K b a xs.length) H1
theorem pi_enumB {X : Cx} {e : Expr} {ta : TA} {p pos tpos : Pos} {elts : List Expr} {kk : Nat} (hg : Gl X "enumerate") (hm : X.mg "enumerate" = none) (ha : PA X [e] ta) (hs : starEach [e] X.env = [(false, eval e X.env)] := by rfl) :
    PI X (.Tuple elts kk tpos) (.Call (.Name "enumerate" p) [e] [] pos) (iEnumB X.K ta) := by
  refine ⟨fun pins s σ H R I h => ?_⟩
  refine Call_ (ld_blt I hg hm boot_enumerate (PyProof.Rows.callWith_type1 (thn (ha.run pos pins s σ H _ I h) fun us s1 ⟨vs, H1, I1, r1, q1⟩ => ?_) hs rfl))
  obtain ⟨b, a, xs, ex, hq, q⟩ := q1
  subst ex
  cases r1 with
  | cons r rr =>
    cases rr
    cases r
    obtain ⟨its, rv, p'⟩ := sqB_inv I1 hq
    refine call_enum1 (beginsB b a its.toArray) p' fun h' he hit hsz hk => wpAny_pyIter_enum he ?_
    have I2 : Inv X pins σ H1 { s1 with heap := h' } := I1.kept (t' := s1.toks) hk
    have hal := p'.lt
    refine ⟨s1.heap.objs.size + 1, [s1.heap.objs.size + 1, s1.heap.objs.size], _, _, H1, rfl, I2, turn_enumB a (s1.heap.objs.size + 1) s1.heap.objs.size (by intro z; rw [← z] at hal; exact absurd hal (Nat.not_lt_of_le (Nat.le_succ _))) (Nat.ne_of_lt hal), ⟨⟨.none, he⟩, itB_of hit, Nat.succ_ne_self _, Nat.zero_le _⟩, fun b hb => ?_, q⟩
    have e' : b = s1.heap.objs.size + 1 ∨ b = s1.heap.objs.size := by simpa using hb
    have hle : s1.heap.objs.size ≤ b := by
      rcases e' with z | z
      · rw [z]; exact Nat.le_add_right _ _
      · rw [z]; exact Nat.le_refl _
    exact I1.fpOk hle (I1.hok.fresh hle)
theorem iteB_D {F : Hp} {b : Bool} {a : Addr} {xs : List V} {ds : List D} (h : SqB K b F a xs) (hd : DpAll K F xs ds) : ItD K F (IteB K b a xs.length) (enumL ds) where
  go := fun H i s hi => by
    rw [enumL_length] at hi
    obtain ⟨x, q⟩ : ∃ x, xs[i]? = some x := ⟨xs[i]'(by rw [DpAll.length hd]; exact hi), by simp⟩
    exact ⟨xs, x, sqB_mono s h, rfl, q⟩
  stop := fun H i s hi => ⟨xs, sqB_mono s h, rfl, by rw [enumL_length] at hi; rw [DpAll.length hd]; exact hi⟩
  yld := fun H i x H' d s q y => by
    obtain ⟨T, z, e1, e2, e3, y⟩ := y
    obtain ⟨yd, q1, e4⟩ := enumL_get q
    obtain ⟨v, q2, q3⟩ := DpAll.getd hd q1
    have q4 := y xs (sqB_mono s h)
    rw [q4] at q2
    cases q2
    exact .inr ⟨T, _, _, e4, e1, e2, e3, .cons (.int _) (.one q3)⟩
def enumBD : List D → Option (List D)
  | [.list ds] => some (enumL ds)
  | [.tuple ds] => some (enumL ds)
  | _ => none
def mEnumB (ms : M (List D)) : M (List D) := mBind ms fun ds => mLift (enumBD ds)
variable {X : Cx} {W : WX} {e : Expr} {elts : List Expr} {kk : Nat} {p pos tpos : Pos} {ms : M (List D)}
theorem diEnumB (hm : X.mg "enumerate" = none) (ha : PA X [e] (tA X.K W ms)) (hg : Gl X "enumerate" := by rfl) (hs : starEach [e] X.env = [(false, eval e X.env)] := by rfl) : PI X (.Tuple elts kk tpos) (.Call (.Name "enumerate" p) [e] [] pos) (tI X.K W (mEnumB ms)) := PI.imp (pi_enumB hg hm ha hs) (by
  rintro σ H R ⟨c, F, ρ, ok, h⟩
  refine ⟨c, F, ρ, ok, post_mono ?_ (post_bind h)⟩
  rintro ds H1 F1 _ ⟨ρ1, ok1, s1, h1⟩ vs rv
  obtain ⟨out, e, h2⟩ := post_lift h1
  have hb : ∃ d b es, ds = [d] ∧ sqOf d = some (b, es) ∧ out = enumL es := by
    unfold enumBD at e
    split at e
    · cases e; exact ⟨_, _, _, rfl, rfl, rfl⟩
    · cases e; exact ⟨_, _, _, rfl, rfl, rfl⟩
    · cases e
  obtain ⟨d, b, es, e1, e2, e3⟩ := hb
  subst e1 e3
  cases rv with
  | cons r t =>
    cases t
    obtain ⟨a, xs, rfl, q1, q2⟩ := sqOf_dp r e2
    exact ⟨b, a, xs, rfl, sqB_mono ok1.sub q1, h2 H1 F1 ok1 (Same.refl F1) _ (iteB_D q1 q2)⟩)
end Dd

namespace Pf
open PySem PySem.Spec L2 Dd
def topS (i : Nat) : Stmt := PySem.Challenge.pw_wirelooker_k48_packets_read.main.body.getD i (.Pass ⟨0, 0, 0, 0⟩)
def m_item_of_parts : M Fl :=
  (mRet (mTup (mCons (mVar 1) (mCons (mVar 2) (mCons (mBin ixD (mBinL ixD 0 (mBinL ixD 3 (mPure (.int 0)))) (mPure (.int 2))) (mCons (mBin ixD (mBinL ixD 0 (mBinL ixD 3 (mUn negD (mPure (.int 1))))) (mPure (.int 3))) (mCons (mCall1 tupleD (mPeek 3)) (mPure []))))))))
def fn_item_of_parts : List D → Option (Rs D) := runV m_item_of_parts 4
abbrev s_item_of_parts : Stmt := topS 1
abbrev N_item_of_parts : List Str := ["items", "kind", "what", "parts"]
theorem sc_item_of_parts : FnScope N_item_of_parts ["items", "kind", "what", "parts"] (defScope s_item_of_parts) := ⟨rfl, rfl, rfl, by decide +kernel, rfl, by decide +kernel, by decide +kernel⟩
def L__rest_of_0 : M Fl :=
  (mSeq (mAug 0 mulI (mPure (.int 2)))
  (mIf (mBol (mBinL geD 0 (mPure (.int 256)))) (mAsg (mBin xorD (mBinL subD 0 (mPure (.int 256))) (mPure (.int 7))) (mStore 0)) (mPure .nx)))
def R__rest_of_0 : M Fl :=
  mFor (mRng1 (mCons (mPure (.int 8)) (mPure []))) (mStore 1) L__rest_of_0
def m__rest_of : M Fl :=
  (mSeq (R__rest_of_0)
  (mRet (mVar 0)))
def fn__rest_of : List D → Option (Rs D) := runV m__rest_of 2
abbrev s__rest_of : Stmt := topS 5
abbrev N__rest_of : List Str := ["number", "_"]
theorem sc__rest_of : FnScope N__rest_of ["number"] (defScope s__rest_of) := ⟨rfl, rfl, rfl, by decide +kernel, rfl, by decide +kernel, by decide +kernel⟩
def L_check_of_0 : M Fl :=
  (mSeq (mAug 2 xorD (mVar 3))
  (mIf (mBol (mBinL eqD 0 (mPure (.str "rest")))) (mAsg (mCallV 1 fn__rest_of (mCons (mVar 2) (mPure []))) (mStore 2)) (mPure .nx)))
def R_check_of_0 : M Fl :=
  mFor (mItems (mVar 1)) (mStore 3) L_check_of_0
def m_check_of : M Fl :=
  (mSeq (mIf (mBol (mBinL eqD 0 (mPure (.str "sum")))) (mRet (mBin andD (mCall1 sumA (mPeek 1)) (mPure (.int 255)))) (mPure .nx))
  (mSeq (mAsg (mPure (.int 0)) (mStore 2))
  (mSeq (R_check_of_0)
  (mRet (mVar 2)))))
def fn_check_of : List D → Option (Rs D) := runV m_check_of 4
abbrev s_check_of : Stmt := topS 4
abbrev N_check_of : List Str := ["kind", "numbers", "check", "number"]
theorem sc_check_of : FnScope N_check_of ["kind", "numbers"] (defScope s_check_of) := ⟨rfl, rfl, rfl, by decide +kernel, rfl, by decide +kernel, by decide +kernel⟩
def m__is_whole : M Fl :=
  (mRet (mAnd (mBin eqD (mBinL ixD 0 (mPure (.int 0))) (mPure (.str "word"))) (mBin ltD (mBinL ixD 0 (mPure (.int 1))) (mPure (.int 256)))))
def fn__is_whole : List D → Option (Rs D) := runV m__is_whole 1
abbrev s__is_whole : Stmt := topS 7
abbrev N__is_whole : List Str := ["item"]
theorem sc__is_whole : FnScope N__is_whole ["item"] (defScope s__is_whole) := ⟨rfl, rfl, rfl, by decide +kernel, rfl, by decide +kernel, by decide +kernel⟩
def L__try_from_0 : M Fl :=
  (mSeq (mIf (mNotT (mTru (mCallV 1 fn__is_whole (mCons (mVar 5) (mPure []))))) (mRet (mTup (mCons (mPure (.str "torn")) (mCons (mPure (.str "word")) (mCons (mPure (.int 1)) (mPure [])))))) (mPure .nx))
  (mSeq (mDrop (mMut 4 appD (mCons (mBinL ixD 5 (mPure (.int 1))) (mPure []))))
  (mSeq (mIf (mBol (mBin gtD (mBinL ixD 4 (mPure (.int 0))) (mPeek 2))) (mRet (mTup (mCons (mPure (.str "torn")) (mCons (mPure (.str "long")) (mCons (mPure (.int 1)) (mPure [])))))) (mPure .nx))
  (mIf (mBol (mBin eqD (mCall1 lenD (mPeek 4)) (mBin addD (mBinL ixD 4 (mPure (.int 0))) (mPure (.int 2))))) (mSeq (mIf (mBol (mBin neD (mBinL ixD 4 (mUn negD (mPure (.int 1)))) (mCallV 2 fn_check_of (mCons (mVar 3) (mCons (mSlL 4 mNoPart (mPart (mUn negD (mPure (.int 1))))) (mPure [])))))) (mRet (mTup (mCons (mPure (.str "torn")) (mCons (mPure (.str "check")) (mCons (mPure (.int 1)) (mPure [])))))) (mPure .nx))
  (mRet (mTup (mCons (mPure (.str "packet")) (mCons (mCall1 tupleD (mSlL 4 (mPart (mPure (.int 1))) (mPart (mUn negD (mPure (.int 1)))))) (mCons (mBin addD (mCall1 lenD (mPeek 4)) (mPure (.int 1))) (mPure []))))))) (mPure .nx)))))
def R__try_from_0 : M Fl :=
  mFor (mItems (mSlL 0 (mPart (mBinL addD 1 (mPure (.int 1)))) (mPart (mBin addD (mBinL addD 1 (mPeek 2)) (mPure (.int 3)))))) (mStore 5) L__try_from_0
def m__try_from : M Fl :=
  (mSeq (mAsgN (mLstN (mPure [])) 4)
  (mSeq (R__try_from_0)
  (mRet (mTup (mCons (mPure (.str "torn")) (mCons (mPure (.str "end")) (mCons (mBin subD (mCall1 lenD (mPeek 0)) (mPeek 1)) (mPure []))))))))
def fn__try_from : List D → Option (Rs D) := runV m__try_from 6
abbrev s__try_from : Stmt := topS 8
abbrev N__try_from : List Str := ["items", "at", "most", "check", "numbers", "item"]
theorem sc__try_from : FnScope N__try_from ["items", "at", "most", "check"] (defScope s__try_from) := ⟨rfl, rfl, rfl, by decide +kernel, rfl, by decide +kernel, by decide +kernel⟩
def L_packets_in_0 : M Fl :=
  (mSeq (mIf (mOrT (mNotT (mTru (mCallV 1 fn__is_whole (mCons (mBinL ixD 0 (mPeek 5)) (mPure []))))) ((mBol (mBin neD (mBin ixD (mBinL ixD 0 (mPeek 5)) (mPure (.int 1))) (mPeek 1))))) (mSeq (mAug 5 (iI fun i j => .int (i + j)) (mPure (.int 1)))
  (mPure .ct)) (mPure .nx))
  (mSeq (mAsg (mCallV 4 fn__try_from (mCons (mVar 0) (mCons (mVar 5) (mCons (mVar 2) (mCons (mVar 3) (mPure [])))))) (gTupD 3 (gCons2 (mStore 6) (gCons2 (mStore 7) (gCons2 (mStore 8) gsNil)))))
  (mSeq (mDrop (mMut 4 appD (mCons (mCallV 4 fn_item_of_parts (mCons (mVar 0) (mCons (mVar 6) (mCons (mVar 7) (mCons (mVal (mRgN2 (mVar 5) (mBinL addD 5 (mPeek 8)))) (mPure [])))))) (mPure []))))
  (mAug 5 (iI fun i j => .int (i + j)) (mVar 8)))))
def R_packets_in_0 : M Fl :=
  mWhile (fun _ => 1000) (mBol (mBinL ltD 5 (mCall1 lenD (mPeek 0)))) L_packets_in_0
def m_packets_in : M Fl :=
  (mSeq (mAsgN (mLstN (mPure [])) 4)
  (mSeq (mAsg (mPure (.int 0)) (mStore 5))
  (mSeq (R_packets_in_0)
  (mRet (mCall1 tupleD (mPeek 4))))))
def fn_packets_in : List D → Option (Rs D) := runV m_packets_in 9
abbrev s_packets_in : Stmt := topS 6
abbrev N_packets_in : List Str := ["items", "mark", "most", "check", "packets", "at", "kind", "what", "many"]
theorem sc_packets_in : FnScope N_packets_in ["items", "mark", "most", "check"] (defScope s_packets_in) := ⟨rfl, rfl, rfl, by decide +kernel, rfl, by decide +kernel, by decide +kernel⟩
def m__law_box : M Fl :=
  (mSeq (mAsg (mBin addD (mBin mulD (mPure (.int 5717)) (mPeek 1)) (mPure (.int 23))) (mStore 2))
  (mSeq (mIf (mBol (mBinL ltD 1 (mScrLen 0))) (mAsg (mScrIx 0 (mVar 1)) (mStore 2)) (mIf (mBol (mBin gtD (mScrLen 0) (mPure (.int 0)))) (mAsg (mBinL addD 2 (mBin mulD (mBin modD (mCall1 intD (mScrIx 0 (mBin modD (mCall1 intD (mPeek 1)) (mScrLen 0)))) (mPure (.int 2147483629))) (mPure (.int 69623)))) (mStore 2)) (mPure .nx)))
  (mSeq (mAsg (mBin addD (mBin modD (mBin addD (mBin mulD (mBin modD (mCall1 intD (mPeek 2)) (mPure (.int 2147483629))) (mPure (.int 48271))) (mBin mulD (mPure (.int 40692)) (mPeek 1))) (mPure (.int 2147483629))) (mPure (.int 1))) (mStore 3))
  (mRetF (mCons (mBin ixD (mLst (mCons (mPure (.int 0)) (mCons (mVar 2) (mPure [])))) (mCall1 intD (mBinL geD 2 (mBin powD (mPure (.int 10)) (mPure (.int 18)))))) (mCons (mVar 3) (mCons (mPure (.int 0)) (mPure []))))))))
def fn__law_box : List Int → List D → Option (Rs (List D)) := runS m__law_box 4
abbrev s__law_box : Stmt := topS 10
abbrev N__law_box : List Str := ["_law_script", "_law_k", "_law_cell", "_law_seed"]
theorem sc__law_box : FnScope N__law_box ["_law_script", "_law_k"] (defScope s__law_box) := ⟨rfl, rfl, rfl, by decide +kernel, rfl, by decide +kernel, by decide +kernel⟩
def m__law_take : M Fl :=
  (mSeq (mIf (mBol (mBin gtD (mBinL ixD 0 (mPure (.int 0))) (mPure (.int 0)))) (mSeq (mAsg (mBin modD (mCall1 intD (mBinL ixD 0 (mPure (.int 0)))) (mPeek 1)) (mStore 2))
  (mSeq (mAsg (mBin divD (mBinL ixD 0 (mPure (.int 0))) (mPeek 1)) (gSet 0 (mPure (.int 0))))
  (mRet (mVar 2)))) (mPure .nx))
  (mSeq (mAsg (mBin addD (mBinL ixD 0 (mPure (.int 2))) (mPure (.int 1))) (gSet 0 (mPure (.int 2))))
  (mSeq (mAsg (mBin modD (mCall1 intD (mBin mulD (mBin addD (mBinL ixD 0 (mPure (.int 1))) (mBin mulD (mPure (.int 104729)) (mBinL ixD 0 (mPure (.int 2))))) (mPure (.int 69623)))) (mPure (.int 2147483647))) (mStore 3))
  (mSeq (mAsg (mBin addD (mBin modD (mBin addD (mBinL mulD 3 (mPure (.int 48271))) (mPure (.int 30103))) (mPure (.int 2147483629))) (mPure (.int 1))) (gSet 0 (mPure (.int 1))))
  (mRet (mBin modD (mBin divD (mBin addD (mBinL mulD 3 (mPure (.int 2147483647))) (mBinL ixD 0 (mPure (.int 1)))) (mPure (.int 8191))) (mPeek 1)))))))
def fn__law_take : List D → List D → Option (Rs D × List D) := runB m__law_take 4
abbrev s__law_take : Stmt := topS 11
abbrev N__law_take : List Str := ["_law_box_here", "_law_many", "_law_digit", "_law_one"]
theorem sc__law_take : FnScope N__law_take ["_law_box_here", "_law_many"] (defScope s__law_take) := ⟨rfl, rfl, rfl, by decide +kernel, rfl, by decide +kernel, by decide +kernel⟩
def C__law_alike_0 (rec : List D → Option (Rs D)) : M (List D) :=
  (mComp [3, 4] (mZip (mCons (mVar 0) (mCons (mVar 1) (mPure [])))) (gTupD 2 (gNamesD [3, 4])) (mPure true) (mCallV 2 rec (mCons (mVar 3) (mCons (mVar 4) (mPure [])))))
def C__law_alike_1 (rec : List D → Option (Rs D)) : M (List D) :=
  (mComp [2] (mItems (mVar 1)) (mStore 2) (mPure true) (mCallV 2 rec (mCons (mBinL ixD 0 (mPeek 2)) (mCons (mBinL ixD 1 (mPeek 2)) (mPure [])))))
def m__law_alike (rec : List D → Option (Rs D)) : M Fl :=
  (mSeq (mIf (mTru (mIsiA ["tuple", "list"] (mPeek 1))) (mSeq (mIf (mOrT (mBol (mBin neD (mIsi "tuple" (mPeek 0)) (mIsi "tuple" (mPeek 1)))) ((mBol (mBin neD (mIsi "list" (mPeek 0)) (mIsi "list" (mPeek 1)))))) (mRet (mPure (.bool false))) (mPure .nx))
  (mRet (mAnd (mBin eqD (mCall1 lenD (mPeek 0)) (mCall1 lenD (mPeek 1))) (mCall1 allD (mVal (C__law_alike_0 rec)))))) (mPure .nx))
  (mSeq (mIf (mTru (mIsi "dict" (mPeek 1))) (mSeq (mIf (mOrT (mNotT (mTru (mIsi "dict" (mPeek 0)))) ((mBol (mBin neD (mVal (mCallN1 sortD (mVal (mCallN1 listD (mPeek 0))))) (mVal (mCallN1 sortD (mVal (mCallN1 listD (mPeek 1))))))))) (mRet (mPure (.bool false))) (mPure .nx))
  (mRet (mCall1 allD (mVal (C__law_alike_1 rec))))) (mPure .nx))
  (mSeq (mIf (mOrT (mBol (mBin neD (mIsi "bool" (mPeek 0)) (mIsi "bool" (mPeek 1)))) ((mBol (mBin neD (mIsi "str" (mPeek 0)) (mIsi "str" (mPeek 1)))))) (mRet (mPure (.bool false))) (mPure .nx))
  (mRet (mAnd (mNot (mIsiA ["tuple", "list", "dict"] (mPeek 0))) (mBinL eqD 0 (mPeek 1)))))))
def fn__law_alike : Nat → List D → Option (Rs D)
  | 0, _ => none
  | n + 1, ds => runV (m__law_alike (fn__law_alike n)) 5 ds
abbrev s__law_alike : Stmt := topS 12
abbrev N__law_alike : List Str := ["_law_found", "_law_due", "_law_key", "_law_one", "_law_other"]
theorem sc__law_alike : FnScope N__law_alike ["_law_found", "_law_due"] (defScope s__law_alike) := ⟨rfl, rfl, rfl, by decide +kernel, rfl, by decide +kernel, by decide +kernel⟩
def C__law_numbers_0 : M (List D) :=
  (mComp [4] (mRng1 (mCons (mCallB 0 2 fn__law_take (mCons (mBinL addD 1 (mPure (.int 1))) (mPure []))) (mPure []))) (mStore 4) (mPure true) (mBinL addD 3 (mCallB 0 2 fn__law_take (mCons (mVar 2) (mPure [])))))
def m__law_numbers : M Fl :=
  (mSeq (mAsg (mBin ixD (mLst (mCons (mPure (.int 2)) (mCons (mPure (.int 5)) (mCons (mPure (.int 256)) (mCons (mPure (.int 256)) (mPure [])))))) (mCallB 0 2 fn__law_take (mCons (mPure (.int 4)) (mPure [])))) (mStore 2))
  (mSeq (mAsg (mBin ixD (mLst (mCons (mPure (.int 0)) (mCons (mBin subD (mPure (.int 256)) (mPeek 2)) (mPure [])))) (mCallB 0 2 fn__law_take (mCons (mPure (.int 2)) (mPure [])))) (mStore 3))
  (mRet (mVal C__law_numbers_0))))
def fn__law_numbers : List D → List D → Option (Rs D × List D) := runB m__law_numbers 5
abbrev s__law_numbers : Stmt := topS 13
abbrev N__law_numbers : List Str := ["_law_box_here", "_law_bound", "_law_wide", "_law_low", "_law_k"]
theorem sc__law_numbers : FnScope N__law_numbers ["_law_box_here", "_law_bound"] (defScope s__law_numbers) := ⟨rfl, rfl, rfl, by decide +kernel, rfl, by decide +kernel, by decide +kernel⟩
def C__law_check_0 : M (List D) :=
  (mComp [8] (mItems (mTup (mCons (mPure (.int 128)) (mCons (mPure (.int 64)) (mCons (mPure (.int 32)) (mCons (mPure (.int 16)) (mCons (mPure (.int 8)) (mCons (mPure (.int 4)) (mCons (mPure (.int 2)) (mCons (mPure (.int 1)) (mPure []))))))))))) (mStore 8) (mPure true) (mBin modD (mBinL divD 3 (mPeek 8)) (mPure (.int 2))))
def L__law_check_0 : M Fl :=
  (mAsgN (mCatNL 2 (mVal C__law_check_0)) 2)
def R__law_check_0 : M Fl :=
  mFor (mItems (mVar 1)) (mStore 3) L__law_check_0
def C__law_check_1 : M (List D) :=
  (mComp [5] (mRng1 (mCons (mPure (.int 8)) (mPure []))) (mStore 5) (mPure true) (mBin modD (mCall1 sumD (mVal (mStepNL 8 2 (mPart (mVar 5))))) (mPure (.int 2))))
def L__law_check_1 : M Fl :=
  (mAsg (mBin subD (mPure (.int 1)) (mBinL ixD 2 (mBinL addD 5 (mPeek 6)))) (gSet 2 (mBinL addD 5 (mPeek 6))))
def R__law_check_1 : M Fl :=
  mFor (mItems (mTup (mCons (mPure (.int 0)) (mCons (mPure (.int 6)) (mCons (mPure (.int 7)) (mCons (mPure (.int 8)) (mPure []))))))) (mStore 6) L__law_check_1
def L__law_check_2 : M Fl :=
  (mIf (mBol (mBin eqD (mBinL ixD 2 (mPeek 5)) (mPure (.int 1)))) (R__law_check_1) (mPure .nx))
def R__law_check_2 : M Fl :=
  mFor (mRng1 (mCons (mBin subD (mCall1 lenD (mPeek 2)) (mPure (.int 8))) (mPure []))) (mStore 5) L__law_check_2
def C__law_check_2 : M (List D) :=
  (mComp [7, 8] (mZipB (mCons (mVar 4) (mCons (mTup (mCons (mPure (.int 128)) (mCons (mPure (.int 64)) (mCons (mPure (.int 32)) (mCons (mPure (.int 16)) (mCons (mPure (.int 8)) (mCons (mPure (.int 4)) (mCons (mPure (.int 2)) (mCons (mPure (.int 1)) (mPure [])))))))))) (mPure [])))) (gTupD 2 (gNamesD [7, 8])) (mPure true) (mBinL mulD 7 (mPeek 8)))
def m__law_check : M Fl :=
  (mSeq (mIf (mBol (mBinL eqD 0 (mPure (.str "sum")))) (mRet (mBin modD (mCall1 sumD (mPeek 1)) (mPure (.int 256)))) (mPure .nx))
  (mSeq (mAsgN (mLstN (mPure [])) 2)
  (mSeq (R__law_check_0)
  (mSeq (mIf (mBol (mBinL eqD 0 (mPure (.str "xor")))) (mAsgN C__law_check_1 4) (mSeq (mAsgN (mCatNL 2 (mVal (mRepN (mCons (mPure (.int 0)) (mPure [])) (mPure (.int 8))))) 2)
  (mSeq (R__law_check_2)
  (mAsg (mSlL 2 (mPart (mBin subD (mCall1 lenD (mPeek 2)) (mPure (.int 8)))) mNoPart) (mStore 4)))))
  (mRet (mCall1 sumD (mVal C__law_check_2)))))))
def fn__law_check : List D → Option (Rs D) := runV m__law_check 9
abbrev s__law_check : Stmt := topS 14
abbrev N__law_check : List Str := ["_law_kind", "_law_numbers_here", "_law_bits", "_law_number", "_law_found", "_law_k", "_law_j", "_law_bit", "_law_by"]
theorem sc__law_check : FnScope N__law_check ["_law_kind", "_law_numbers_here"] (defScope s__law_check) := ⟨rfl, rfl, rfl, by decide +kernel, rfl, by decide +kernel, by decide +kernel⟩
def C__law_frames_0 : M (List D) :=
  (mComp [11] (mRng1 (mCons (mVar 6) (mPure []))) (mStore 11) (mPure true) (mBin addD (mBinL addD 4 (mBinL divD 5 (mPure (.int 2)))) (mBinL mulD 11 (mPeek 5))))
def C__law_frames_1 : M (List D) :=
  (mComp [12] (mItems (mVar 8)) (mStore 12) (mPure true) (mTup (mCons (mPure (.str "d")) (mCons (mVar 12) (mPure [])))))
def L__law_frames_0 : M Fl :=
  (mSeq (mAsgN C__law_frames_0 8)
  (mSeq (mParEE 9 10 (mPure (.str "word")) (mVar 7))
  (mSeq (mIf (mBol (mBinL isD 7 (mPure .none))) (mParEE 9 10 (mPure (.str "torn")) (mBin ixD (mLst (mCons (mPure (.str "stop")) (mCons (mPure (.str "start")) (mCons (mPure (.str "check")) (mPure []))))) (mCallB 0 2 fn__law_take (mCons (mBinL subD 6 (mPeek 2)) (mPure []))))) (mPure .nx))
  (mSeq (mIf (mBol (mBinL eqD 10 (mPure (.str "start")))) (mAsg (mSlL 8 mNoPart (mPart (mPure (.int 1)))) (mStore 8)) (mPure .nx))
  (mSeq (mDrop (mMut 3 appD (mCons (mTup (mCons (mVar 9) (mCons (mVar 10) (mCons (mVar 4) (mCons (mBin addD (mBinL ixD 8 (mUn negD (mPure (.int 1)))) (mPure (.int 1))) (mCons (mCall1 tupleD (mVal C__law_frames_1)) (mPure []))))))) (mPure []))))
  (mAsg (mBin addD (mBin addD (mBinL ixD 8 (mUn negD (mPure (.int 1)))) (mPure (.int 2))) (mCallB 0 2 fn__law_take (mCons (mPure (.int 9)) (mPure [])))) (mStore 4)))))))
def R__law_frames_0 : M Fl :=
  mFor (mItems (mVar 1)) (mStore 7) L__law_frames_0
def m__law_frames : M Fl :=
  (mSeq (mParL 3 4 5 (mBin addD (mPure (.int 1)) (mCallB 0 2 fn__law_take (mCons (mPure (.int 9)) (mPure [])))) (mBin ixD (mLst (mCons (mPure (.int 2)) (mCons (mPure (.int 3)) (mCons (mPure (.int 10)) (mCons (mPure (.int 1000)) (mPure [])))))) (mCallB 0 2 fn__law_take (mCons (mPure (.int 4)) (mPure [])))))
  (mSeq (mAsg (mBin addD (mBinL addD 2 (mPure (.int 2))) (mCallB 0 2 fn__law_take (mCons (mPure (.int 2)) (mPure [])))) (mStore 6))
  (mSeq (R__law_frames_0)
  (mRet (mVar 3)))))
def fn__law_frames : List D → List D → Option (Rs D × List D) := runB m__law_frames 13
abbrev s__law_frames : Stmt := topS 15
abbrev N__law_frames : List Str := ["_law_box_here", "_law_words", "_law_bits", "_law_found", "_law_at", "_law_wide", "_law_many", "_law_number", "_law_spots", "_law_kind", "_law_what", "_law_k", "_law_spot"]
theorem sc__law_frames : FnScope N__law_frames ["_law_box_here", "_law_words", "_law_bits"] (defScope s__law_frames) := ⟨rfl, rfl, rfl, by decide +kernel, rfl, by decide +kernel, by decide +kernel⟩
def m__law_is_byte : M Fl :=
  (mRet (mAnd (mBin eqD (mBinL ixD 0 (mPure (.int 0))) (mPure (.str "word"))) (mBin ltD (mBinL ixD 0 (mPure (.int 1))) (mPure (.int 256)))))
def fn__law_is_byte : List D → Option (Rs D) := runV m__law_is_byte 1
abbrev s__law_is_byte : Stmt := topS 16
abbrev N__law_is_byte : List Str := ["_law_item"]
theorem sc__law_is_byte : FnScope N__law_is_byte ["_law_item"] (defScope s__law_is_byte) := ⟨rfl, rfl, rfl, by decide +kernel, rfl, by decide +kernel, by decide +kernel⟩
def m__law_tried : M Fl :=
  (mSeq (mAsg (mPure (.int 1)) (mStore 4))
  (mSeq (mIf (mTru (mBinL ixD 0 (mPure (.int 0)))) (mAsg (mBin addD (mBinL ixD 1 (mPure (.int 0))) (mPure (.int 2))) (mStore 4)) (mPure .nx))
  (mSeq (mIf (mBol (mBin (inD false) (mPure (.bool false)) (mSlL 0 mNoPart (mPart (mCallN min2D (mCons (mVar 4) (mCons (mPure (.int 1)) (mPure [])))))))) (mRet (mTup (mCons (mPure (.str "torn")) (mCons (mPure (.str "word")) (mPure []))))) (mPure .nx))
  (mSeq (mIf (mBol (mBin gtD (mBinL ixD 1 (mPure (.int 0))) (mPeek 2))) (mRet (mTup (mCons (mPure (.str "torn")) (mCons (mPure (.str "long")) (mPure []))))) (mPure .nx))
  (mSeq (mIf (mBol (mBin (inD false) (mPure (.bool false)) (mSlL 0 mNoPart (mPart (mVar 4))))) (mRet (mTup (mCons (mPure (.str "torn")) (mCons (mPure (.str "word")) (mPure []))))) (mPure .nx))
  (mSeq (mIf (mBol (mBin ltD (mCall1 lenD (mPeek 0)) (mPeek 4))) (mRet (mTup (mCons (mPure (.str "torn")) (mCons (mPure (.str "end")) (mPure []))))) (mPure .nx))
  (mSeq (mIf (mBol (mBin neD (mBinL ixD 1 (mBinL subD 4 (mPure (.int 1)))) (mCallV 2 fn__law_check (mCons (mVar 3) (mCons (mSlL 1 mNoPart (mPart (mBinL subD 4 (mPure (.int 1))))) (mPure [])))))) (mRet (mTup (mCons (mPure (.str "torn")) (mCons (mPure (.str "check")) (mPure []))))) (mPure .nx))
  (mRet (mTup (mCons (mPure (.str "packet")) (mCons (mCall1 tupleD (mSlL 1 (mPart (mPure (.int 1))) (mPart (mBinL subD 4 (mPure (.int 1)))))) (mPure []))))))))))))
def fn__law_tried : List D → Option (Rs D) := runV m__law_tried 5
abbrev s__law_tried : Stmt := topS 17
abbrev N__law_tried : List Str := ["_law_whole", "_law_numbers_here", "_law_bound", "_law_kind", "_law_due"]
theorem sc__law_tried : FnScope N__law_tried ["_law_whole", "_law_numbers_here", "_law_bound", "_law_kind"] (defScope s__law_tried) := ⟨rfl, rfl, rfl, by decide +kernel, rfl, by decide +kernel, by decide +kernel⟩
def C__law_packets_0 : M (List D) :=
  (mComp [9] (mItems (mVar 8)) (mStore 9) (mPure true) (mBinL ixD 9 (mPure (.int 1))))
def C__law_packets_1 : M (List D) :=
  (mComp [9] (mItems (mVar 8)) (mStore 9) (mPure true) (mCallV 1 fn__law_is_byte (mCons (mVar 9) (mPure []))))
def L__law_packets_0 : M Fl :=
  (mSeq (mPar3 6 7 8 (mPure .none) (mPure (.int 1)) (mSlL 0 (mPart (mBinL addD 5 (mPure (.int 1)))) mNoPart))
  (mSeq (mIf (mAndT (mTru (mCallV 1 fn__law_is_byte (mCons (mBinL ixD 0 (mPeek 5)) (mPure [])))) ((mBol (mBin eqD (mBin ixD (mBinL ixD 0 (mPeek 5)) (mPure (.int 1))) (mPeek 1))))) (mSeq (mAsg (mTup (mCons (mPure (.str "torn")) (mCons (mPure (.str "end")) (mPure [])))) (mStore 6))
  (mSeq (mIf (mBol (mBinL neD 8 (mLst (mPure [])))) (mAsg (mCallV 4 fn__law_tried (mCons (mVal C__law_packets_1) (mCons (mVal C__law_packets_0) (mCons (mVar 2) (mCons (mVar 3) (mPure [])))))) (mStore 6)) (mPure .nx))
  (mSeq (mIf (mBol (mBin eqD (mBinL ixD 6 (mPure (.int 0))) (mPure (.str "packet")))) (mAsg (mBin addD (mPure (.int 3)) (mCall1 lenD (mBinL ixD 6 (mPure (.int 1))))) (mStore 7)) (mIf (mBol (mBin eqD (mBinL ixD 6 (mPure (.int 1))) (mPure (.str "end")))) (mAsg (mBin addD (mPure (.int 1)) (mCall1 lenD (mPeek 8))) (mStore 7)) (mPure .nx)))
  (mDrop (mMut 4 appD (mCons (mBinL addD 6 (mTup (mCons (mBin ixD (mBinL ixD 0 (mPeek 5)) (mPure (.int 2))) (mCons (mBin ixD (mBinL ixD 0 (mBin subD (mBinL addD 5 (mPeek 7)) (mPure (.int 1)))) (mPure (.int 3))) (mCons (mCall1 tupleD (mVal (mRgN2 (mVar 5) (mBinL addD 5 (mPeek 7))))) (mPure [])))))) (mPure []))))))) (mPure .nx))
  (mAsg (mBinL addD 5 (mPeek 7)) (mStore 5))))
def R__law_packets_0 : M Fl :=
  mWhile (fun _ => 1000) (mBol (mBinL ltD 5 (mCall1 lenD (mPeek 0)))) L__law_packets_0
def m__law_packets : M Fl :=
  (mSeq (mParNC 4 5 (mLstN (mPure [])) (.int 0))
  (mSeq (R__law_packets_0)
  (mRet (mVar 4))))
def fn__law_packets : List D → Option (Rs D) := runV m__law_packets 10
abbrev s__law_packets : Stmt := topS 18
abbrev N__law_packets : List Str := ["_law_items", "_law_mark", "_law_bound", "_law_kind", "_law_found", "_law_at", "_law_told", "_law_many", "_law_rest", "_law_item"]
theorem sc__law_packets : FnScope N__law_packets ["_law_items", "_law_mark", "_law_bound", "_law_kind"] (defScope s__law_packets) := ⟨rfl, rfl, rfl, by decide +kernel, rfl, by decide +kernel, by decide +kernel⟩
def L__law_stream_0 : M Fl :=
  (mSeq (mAsg (mCallB 0 2 fn__law_numbers (mCons (mCallN min2D (mCons (mBinL subD 4 (mPure (.int 3))) (mCons (mBin ixD (mLst (mCons (mPure (.int 2)) (mCons (mPure (.int 5)) (mCons (mPure (.int 9)) (mCons (mPure (.int 36)) (mPure [])))))) (mCallB 0 2 fn__law_take (mCons (mPure (.int 4)) (mPure [])))) (mPure [])))) (mPure []))) (mStore 7))
  (mSeq (mAsg (mBin addD (mLst (mCons (mCall1 lenD (mPeek 7)) (mPure []))) (mPeek 7)) (mStore 8))
  (mSeq (mAsgN (mCatN (mBin addD (mLst (mCons (mVar 1) (mPure []))) (mPeek 8)) (mLst (mCons (mCallV 2 fn__law_check (mCons (mVar 3) (mCons (mVar 8) (mPure [])))) (mPure [])))) 9)
  (mSeq (mParEE 10 11 (mCallB 0 2 fn__law_take (mCons (mPure (.int 10)) (mPure []))) (mCallB 0 2 fn__law_take (mCons (mCall1 lenD (mPeek 9)) (mPure []))))
  (mSeq (mIf (mBol (mBinL eqD 10 (mPure (.int 0)))) (mSeq (mAsg (mBin ixD (mLst (mCons (mBin addD (mPure (.int 256)) (mPeek 1)) (mCons (mBin addD (mPure (.int 512)) (mPeek 1)) (mCons (mBin addD (mPure (.int 256)) (mCallB 0 2 fn__law_take (mCons (mPure (.int 768)) (mPure [])))) (mPure []))))) (mCallB 0 2 fn__law_take (mCons (mPure (.int 3)) (mPure [])))) (mStore 12))
  (mAsgN (mCatN (mCallB 0 2 fn__law_numbers (mCons (mPure (.int 3)) (mPure []))) (mVal (mRepN (mCons (mVar 12) (mPure [])) (mCallB 0 2 fn__law_take (mCons (mPure (.int 2)) (mPure [])))))) 9)) (mPure .nx))
  (mSeq (mIf (mBol (mBinL eqD 10 (mPure (.int 1)))) (mAsg (mTup (mCons (mPure .none) (mCons (mPure .none) (mPure [])))) (gTupD 2 (gCons2 (gSet 9 (mVar 11)) (gCons2 (gSet 9 (mCallB 0 2 fn__law_take (mCons (mCall1 lenD (mPeek 9)) (mPure [])))) gsNil)))) (mPure .nx))
  (mSeq (mIf (mBol (mBinL eqD 10 (mPure (.int 6)))) (mAsgN (mCatN (mBin addD (mSlL 9 mNoPart (mPart (mVar 11))) (mVal (mRepN (mCons (mPure .none) (mPure [])) (mBin addD (mPure (.int 1)) (mCallB 0 2 fn__law_take (mCons (mPure (.int 4)) (mPure []))))))) (mSlL 9 (mPart (mVar 11)) mNoPart)) 9) (mPure .nx))
  (mSeq (mIf (mBol (mBinL eqD 10 (mPure (.int 2)))) (mAsg (mBin ixD (mLst (mCons (mVar 1) (mCons (mCallN min2D (mCons (mPure (.int 255)) (mCons (mBinL addD 2 (mPure (.int 1))) (mPure [])))) (mCons (mCallB 0 2 fn__law_take (mCons (mPure (.int 256)) (mPure []))) (mPure []))))) (mCallB 0 2 fn__law_take (mCons (mPure (.int 3)) (mPure [])))) (gSet 9 (mBin ixD (mLst (mCons (mVar 11) (mCons (mPure (.int 1)) (mPure [])))) (mCallB 0 2 fn__law_take (mCons (mPure (.int 2)) (mPure [])))))) (mPure .nx))
  (mSeq (mIf (mBol (mBinL eqD 10 (mPure (.int 3)))) (mAsgN (mSlNL 9 mNoPart (mPart (mVar 11))) 9) (mPure .nx))
  (mSeq (mIf (mBol (mBinL eqD 10 (mPure (.int 4)))) (mAsgN (mCatN (mBin addD (mSlL 9 mNoPart (mPart (mVar 11))) (mLst (mCons (mCallB 0 2 fn__law_take (mCons (mPure (.int 256)) (mPure []))) (mPure [])))) (mSlL 9 (mPart (mVar 11)) mNoPart)) 9) (mPure .nx))
  (mSeq (mIf (mBol (mBinL eqD 10 (mPure (.int 5)))) (mAsgN (mCatN (mVal (mRepN (mCons (mVar 1) (mPure [])) (mBin addD (mPure (.int 1)) (mCallB 0 2 fn__law_take (mCons (mPure (.int 3)) (mPure [])))))) (mPeek 9)) 9) (mPure .nx))
  (mSeq (mAsg (mBin addD (mBinL addD 5 (mPeek 9)) (mVal (mRepN (mCons (mVar 1) (mPure [])) (mCall1 intD (mBin eqD (mCallB 0 2 fn__law_take (mCons (mPure (.int 12)) (mPure []))) (mPure (.int 0))))))) (mStore 5))
  (mIf (mBol (mBin geD (mCall1 lenD (mPeek 5)) (mPeek 4))) (mPure .bk) (mPure .nx))))))))))))))
def R__law_stream_0 : M Fl :=
  mFor (mRng1 (mCons (mVar 4) (mPure []))) (mStore 6) L__law_stream_0
def m__law_stream : M Fl :=
  (mSeq (mAsgN (mLstN (mPure [])) 5)
  (mSeq (R__law_stream_0)
  (mSeq (mAsg (mBin mulD (mCallB 0 2 fn__law_take (mCons (mVar 4) (mPure []))) (mCall1 intD (mBin eqD (mCallB 0 2 fn__law_take (mCons (mPure (.int 3)) (mPure []))) (mPure (.int 0))))) (mStore 13))
  (mRet (mSlL 5 mNoPart (mPart (mBinL subD 4 (mPeek 13))))))))
def fn__law_stream : List D → List D → Option (Rs D × List D) := runB m__law_stream 14
abbrev s__law_stream : Stmt := topS 19
abbrev N__law_stream : List Str := ["_law_box_here", "_law_mark", "_law_bound", "_law_kind", "_law_room", "_law_found", "_law_turn", "_law_body", "_law_inner", "_law_some", "_law_form", "_law_at", "_law_more", "_law_less"]
theorem sc__law_stream : FnScope N__law_stream ["_law_box_here", "_law_mark", "_law_bound", "_law_kind", "_law_room"] (defScope s__law_stream) := ⟨rfl, rfl, rfl, by decide +kernel, rfl, by decide +kernel, by decide +kernel⟩
def C__law_asked_0 : M (List D) :=
  (mComp [7] (mItems (mVar 4)) (mStore 7) (mPure true) (mAnd (mBinL isntD 7 (mPure .none)) (mBinL gtD 7 (mPure (.int 255)))))
def C__law_asked_1 : M (List D) :=
  (mComp [7, 8] (mZip (mCons (mVar 4) (mCons (mVar 6) (mPure [])))) (gTupD 2 (gNamesD [7, 8])) (mPure true) (mIf (mTru (mPeek 8)) (mBin addD (mPure (.int 256)) (mCallB 0 2 fn__law_take (mCons (mPure (.int 65280)) (mPure [])))) (mVar 7)))
def m__law_asked : M Fl :=
  (mSeq (mParEE 1 2 (mCallB 0 2 fn__law_take (mCons (mPure (.int 256)) (mPure []))) (mBin ixD (mLst (mCons (mPure (.int 255)) (mCons (mPure (.int 5)) (mCons (mCallB 0 2 fn__law_take (mCons (mPure (.int 12)) (mPure []))) (mCons (mCallB 0 2 fn__law_take (mCons (mPure (.int 256)) (mPure []))) (mPure [])))))) (mCallB 0 2 fn__law_take (mCons (mPure (.int 4)) (mPure [])))))
  (mSeq (mAsg (mBin ixD (mLst (mCons (mPure (.str "sum")) (mCons (mPure (.str "sum")) (mCons (mPure (.str "xor")) (mCons (mPure (.str "rest")) (mPure [])))))) (mCallB 0 2 fn__law_take (mCons (mPure (.int 4)) (mPure [])))) (mStore 3))
  (mSeq (mParEE 4 5 (mCallB 0 5 fn__law_stream (mCons (mVar 1) (mCons (mVar 2) (mCons (mVar 3) (mCons (mPure (.int 40)) (mPure [])))))) (mBin ixD (mLst (mCons (mPure (.int 10)) (mCons (mPure (.int 16)) (mPure [])))) (mCallB 0 2 fn__law_take (mCons (mPure (.int 2)) (mPure [])))))
  (mSeq (mIf (mBol (mBinL eqD 5 (mPure (.int 16)))) (mSeq (mAsgN C__law_asked_0 6)
  (mAsgN C__law_asked_1 4)) (mPure .nx))
  (mRet (mTup (mCons (mCallB 0 3 fn__law_frames (mCons (mVar 4) (mCons (mVar 5) (mPure [])))) (mCons (mVar 1) (mCons (mVar 2) (mCons (mVar 3) (mPure [])))))))))))
def fn__law_asked : List D → List D → Option (Rs D × List D) := runB m__law_asked 9
abbrev s__law_asked : Stmt := topS 20
abbrev N__law_asked : List Str := ["_law_box_here", "_law_mark", "_law_bound", "_law_kind", "_law_words", "_law_bits", "_law_great", "_law_number", "_law_is_great"]
theorem sc__law_asked : FnScope N__law_asked ["_law_box_here"] (defScope s__law_asked) := ⟨rfl, rfl, rfl, by decide +kernel, rfl, by decide +kernel, by decide +kernel⟩
def m__law_right : M Fl :=
  (mSeq (mParEE 4 5 (mCall1 tupleD (mCallV 4 fn__law_packets (mCons (mVar 0) (mCons (mVar 1) (mCons (mVar 2) (mCons (mVar 3) (mPure []))))))) (mCall1 reprG (mPeek 0)))
  (mSeq (mIf (mNotT (mTru (mCallV 2 (fn__law_alike 6) (mCons (mCallK 2 2 [] [] fn_packets_in (mCons (mCall1 tupleD (mPeek 0)) (mCons (mVar 1) (mPure []))) (mCons (mVar 2) (mCons (mVar 3) (mPure [])))) (mCons (mVar 4) (mPure [])))))) (mRet (mPure (.bool false))) (mPure .nx))
  (mSeq (mAsg (mVar 4) (mStore 6))
  (mSeq (mIf (mBol (mBinL eqD 3 (mPure (.str "sum")))) (mSeq (mAsg (mCallK 2 1 [] [.str "sum"] fn_packets_in (mCons (mVar 0) (mCons (mVar 1) (mPure []))) (mCons (mVar 2) (mPure []))) (mStore 6))
  (mIf (mBol (mBinL eqD 2 (mPure (.int 255)))) (mAsg (mCallK 2 0 [] [.int 255, .str "sum"] fn_packets_in (mCons (mVar 0) (mCons (mVar 1) (mPure []))) (mPure [])) (mStore 6)) (mPure .nx))) (mIf (mBol (mBinL eqD 2 (mPure (.int 255)))) (mAsg (mCallK 2 1 [.int 255] [] fn_packets_in (mCons (mVar 0) (mCons (mVar 1) (mPure []))) (mCons (mVar 3) (mPure []))) (mStore 6)) (mPure .nx)))
  (mRet (mAnd (mCallV 2 (fn__law_alike 6) (mCons (mVar 6) (mCons (mVar 4) (mPure [])))) (mBin eqD (mCall1 reprG (mPeek 0)) (mPeek 5))))))))
def fn__law_right : List D → Option (Rs D) := runV m__law_right 7
abbrev s__law_right : Stmt := topS 21
abbrev N__law_right : List Str := ["_law_items", "_law_mark", "_law_bound", "_law_kind", "_law_due", "_law_kept", "_law_found"]
theorem sc__law_right : FnScope N__law_right ["_law_items", "_law_mark", "_law_bound", "_law_kind"] (defScope s__law_right) := ⟨rfl, rfl, rfl, by decide +kernel, rfl, by decide +kernel, by decide +kernel⟩
def L_law_0 : M Fl :=
  (mIf (mNotT (mTru (mCallV 4 fn__law_right (mCons (mVar 4) (mCons (mVar 5) (mCons (mVar 6) (mCons (mVar 7) (mPure [])))))))) (mRet (mPure (.bool false))) (mPure .nx))
def R_law_0 : M Fl :=
  mFor (mItems (mBinL addD 3 (mSlL 3 mNoPart (mPart (mPure (.int 1)))))) (gTupD 4 (gCons2 (mStore 4) (gCons2 (mStore 5) (gCons2 (mStore 6) (gCons2 (mStore 7) gsNil))))) L_law_0
def L_law_1 : M Fl :=
  (mSeq (mAsgS 2 0 2 fn__law_box (mCons (mVar 1) (mPure [])))
  (mSeq (mAsgN (mLstN (mCons (mCallB 2 1 fn__law_asked (mPure [])) (mCons (mCallB 2 1 fn__law_asked (mPure [])) (mPure [])))) 3)
  (R_law_0)))
def R_law_1 : M Fl :=
  mFor (mRng1 (mCons (mCallN max2D (mCons (mPure (.int 2)) (mCons (mCallN min2D (mCons (mPure (.int 6)) (mCons (mScrLen 0) (mPure [])))) (mPure [])))) (mPure []))) (mStore 1) L_law_1
def m_law : M Fl :=
  (mSeq (R_law_1)
  (mRet (mPure (.bool true))))
def fn_law : List Int → Option (Rs D) := runL m_law 8
abbrev s_law : Stmt := topS 22
abbrev N_law : List Str := ["_law_script", "_law_k", "_law_box_here", "_law_some", "_law_items", "_law_mark", "_law_bound", "_law_kind"]
theorem sc_law : FnScope N_law ["_law_script"] (defScope s_law) := ⟨rfl, rfl, rfl, by decide +kernel, rfl, by decide +kernel, by decide +kernel⟩
structure Tx (K : PySem.W.Frag) (mg : Str → Option Value) where
  a_item_of_parts : Addr
  fd_item_of_parts : FuncData
  F_item_of_parts : Fun K "item_of_parts" "item_of_parts" s_item_of_parts a_item_of_parts fd_item_of_parts
  g_item_of_parts : mg "item_of_parts" = some (.ref a_item_of_parts)
  b_item_of_parts : Binds K fd_item_of_parts ["items", "kind", "what", "parts"] []
  a__rest_of : Addr
  fd__rest_of : FuncData
  F__rest_of : Fun K "_rest_of" "_rest_of" s__rest_of a__rest_of fd__rest_of
  g__rest_of : mg "_rest_of" = some (.ref a__rest_of)
  b__rest_of : Binds K fd__rest_of ["number"] []
  a_check_of : Addr
  fd_check_of : FuncData
  F_check_of : Fun K "check_of" "check_of" s_check_of a_check_of fd_check_of
  g_check_of : mg "check_of" = some (.ref a_check_of)
  b_check_of : Binds K fd_check_of ["kind", "numbers"] []
  a__is_whole : Addr
  fd__is_whole : FuncData
  F__is_whole : Fun K "_is_whole" "_is_whole" s__is_whole a__is_whole fd__is_whole
  g__is_whole : mg "_is_whole" = some (.ref a__is_whole)
  b__is_whole : Binds K fd__is_whole ["item"] []
  a__try_from : Addr
  fd__try_from : FuncData
  F__try_from : Fun K "_try_from" "_try_from" s__try_from a__try_from fd__try_from
  g__try_from : mg "_try_from" = some (.ref a__try_from)
  b__try_from : Binds K fd__try_from ["items", "at", "most", "check"] []
  a_packets_in : Addr
  fd_packets_in : FuncData
  F_packets_in : Fun K "packets_in" "packets_in" s_packets_in a_packets_in fd_packets_in
  g_packets_in : mg "packets_in" = some (.ref a_packets_in)
  gk_packets_in_0 : List Value → List Value → List Value
  kb_packets_in_0 : KBn K fd_packets_in ["items", "mark", "most", "check"] 2 ["most", "check"] gk_packets_in_0 (fun vs zs => vs ++ ([] ++ (zs ++ [])))
  gk_packets_in_1 : List Value → List Value → List Value
  kb_packets_in_1 : KBn K fd_packets_in ["items", "mark", "most", "check"] 2 ["most"] gk_packets_in_1 (fun vs zs => vs ++ ([] ++ (zs ++ [.str "sum"])))
  gk_packets_in_2 : List Value → List Value → List Value
  kb_packets_in_2 : KBn K fd_packets_in ["items", "mark", "most", "check"] 2 [] gk_packets_in_2 (fun vs zs => vs ++ ([] ++ (zs ++ [.int 255, .str "sum"])))
  gk_packets_in_3 : List Value → List Value → List Value
  kb_packets_in_3 : KBn K fd_packets_in ["items", "mark", "most", "check"] 2 ["check"] gk_packets_in_3 (fun vs zs => vs ++ ([.int 255] ++ (zs ++ [])))
  a__law_box : Addr
  fd__law_box : FuncData
  F__law_box : Fun K "_law_box" "_law_box" s__law_box a__law_box fd__law_box
  g__law_box : mg "_law_box" = some (.ref a__law_box)
  b__law_box : Binds K fd__law_box ["_law_script", "_law_k"] []
  a__law_take : Addr
  fd__law_take : FuncData
  F__law_take : Fun K "_law_take" "_law_take" s__law_take a__law_take fd__law_take
  g__law_take : mg "_law_take" = some (.ref a__law_take)
  b__law_take : Binds K fd__law_take ["_law_box_here", "_law_many"] []
  a__law_alike : Addr
  fd__law_alike : FuncData
  F__law_alike : Fun K "_law_alike" "_law_alike" s__law_alike a__law_alike fd__law_alike
  g__law_alike : mg "_law_alike" = some (.ref a__law_alike)
  b__law_alike : Binds K fd__law_alike ["_law_found", "_law_due"] []
  a__law_numbers : Addr
  fd__law_numbers : FuncData
  F__law_numbers : Fun K "_law_numbers" "_law_numbers" s__law_numbers a__law_numbers fd__law_numbers
  g__law_numbers : mg "_law_numbers" = some (.ref a__law_numbers)
  b__law_numbers : Binds K fd__law_numbers ["_law_box_here", "_law_bound"] []
  a__law_check : Addr
  fd__law_check : FuncData
  F__law_check : Fun K "_law_check" "_law_check" s__law_check a__law_check fd__law_check
  g__law_check : mg "_law_check" = some (.ref a__law_check)
  b__law_check : Binds K fd__law_check ["_law_kind", "_law_numbers_here"] []
  a__law_frames : Addr
  fd__law_frames : FuncData
  F__law_frames : Fun K "_law_frames" "_law_frames" s__law_frames a__law_frames fd__law_frames
  g__law_frames : mg "_law_frames" = some (.ref a__law_frames)
  b__law_frames : Binds K fd__law_frames ["_law_box_here", "_law_words", "_law_bits"] []
  a__law_is_byte : Addr
  fd__law_is_byte : FuncData
  F__law_is_byte : Fun K "_law_is_byte" "_law_is_byte" s__law_is_byte a__law_is_byte fd__law_is_byte
  g__law_is_byte : mg "_law_is_byte" = some (.ref a__law_is_byte)
  b__law_is_byte : Binds K fd__law_is_byte ["_law_item"] []
  a__law_tried : Addr
  fd__law_tried : FuncData
  F__law_tried : Fun K "_law_tried" "_law_tried" s__law_tried a__law_tried fd__law_tried
  g__law_tried : mg "_law_tried" = some (.ref a__law_tried)
  b__law_tried : Binds K fd__law_tried ["_law_whole", "_law_numbers_here", "_law_bound", "_law_kind"] []
  a__law_packets : Addr
  fd__law_packets : FuncData
  F__law_packets : Fun K "_law_packets" "_law_packets" s__law_packets a__law_packets fd__law_packets
  g__law_packets : mg "_law_packets" = some (.ref a__law_packets)
  b__law_packets : Binds K fd__law_packets ["_law_items", "_law_mark", "_law_bound", "_law_kind"] []
  a__law_stream : Addr
  fd__law_stream : FuncData
  F__law_stream : Fun K "_law_stream" "_law_stream" s__law_stream a__law_stream fd__law_stream
  g__law_stream : mg "_law_stream" = some (.ref a__law_stream)
  b__law_stream : Binds K fd__law_stream ["_law_box_here", "_law_mark", "_law_bound", "_law_kind", "_law_room"] []
  a__law_asked : Addr
  fd__law_asked : FuncData
  F__law_asked : Fun K "_law_asked" "_law_asked" s__law_asked a__law_asked fd__law_asked
  g__law_asked : mg "_law_asked" = some (.ref a__law_asked)
  b__law_asked : Binds K fd__law_asked ["_law_box_here"] []
  a__law_right : Addr
  fd__law_right : FuncData
  F__law_right : Fun K "_law_right" "_law_right" s__law_right a__law_right fd__law_right
  g__law_right : mg "_law_right" = some (.ref a__law_right)
  b__law_right : Binds K fd__law_right ["_law_items", "_law_mark", "_law_bound", "_law_kind"] []
  a_law : Addr
  fd_law : FuncData
  F_law : Fun K "law" "law" s_law a_law fd_law
  g_law : mg "law" = some (.ref a_law)
  b_law : Binds K fd_law ["_law_script"] []
  z_all : mg "all" = none
  z_bool : mg "bool" = none
  z_dict : mg "dict" = none
  z_int : mg "int" = none
  z_isinstance : mg "isinstance" = none
  z_len : mg "len" = none
  z_list : mg "list" = none
  z_max : mg "max" = none
  z_min : mg "min" = none
  z_range : mg "range" = none
  z_repr : mg "repr" = none
  z_sorted : mg "sorted" = none
  z_str : mg "str" = none
  z_sum : mg "sum" = none
  z_tuple : mg "tuple" = none
  z_zip : mg "zip" = none
section
variable {P : Program} {w : World} {K : PySem.W.Frag} {mg : Str → Option Value} {base : Heap}
theorem ok_item_of_parts (T : Tx K mg) : FnG P w K mg base (L2.CX P w) 1 T.a_item_of_parts T.fd_item_of_parts ["items", "kind", "what", "parts"] (spV K 4 fn_item_of_parts) := by
  have e : spV K 4 fn_item_of_parts = spV K ["items", "kind", "what", "parts"].length (runV m_item_of_parts N_item_of_parts.length) := rfl
  rw [e]
  refine okV2G (sc := ?sc) (bd := ?bd) (m := m_item_of_parts) T.F_item_of_parts sc_item_of_parts ?h1 ?h2 ?hb
  case h1 => conv => lhs; whnf
  case h2 => conv => lhs; whnf
  case hb => exact fun cdv A outer s H E hgd hr => (by exact
    (dsOne (dRet (dTup (dCons (dv 1) (dCons (dv 2) (dCons (dIx (dIxL (pv 0) (dP (dIxL (pv 3) (dP (dInt))))) (dP (dInt))) (dCons (dIx (dIxL (pv 0) (dP (dIxL (pv 3) (dP (dNeg (dInt)))))) (dP (dInt))) (dCons (dTy1 call_tuple_of cd_tuple (T.z_tuple) b_tuple (dpk 3)) dNil)))))))))
theorem ok__rest_of (T : Tx K mg) : FnG P w K mg base (L2.CX P w) 1 T.a__rest_of T.fd__rest_of ["number"] (spV K 1 fn__rest_of) := by
  have e : spV K 1 fn__rest_of = spV K ["number"].length (runV m__rest_of N__rest_of.length) := rfl
  rw [e]
  refine okV2G (sc := ?sc) (bd := ?bd) (m := m__rest_of) T.F__rest_of sc__rest_of ?h1 ?h2 ?hb
  case h1 => conv => lhs; whnf
  case h2 => conv => lhs; whnf
  case hb => exact fun cdv A outer s H E hgd hr => (by exact
    (dsCons (dFor (passes_of rfl) rfl (diRng1 (T.z_range) (dCons (dInt) dNil)) (dgName (i := 1) sc__rest_of.nd) (mb := L__rest_of_0) (dsCons (dAug (i := 0) sc__rest_of.nd iop_mul opD_mulI (dInt))
      (dsOne (dIfS (dtCmpL op_ge opD_ge (nomark _) (pv 0) (dP (dInt))) (dsOne (dSet (i := 0) sc__rest_of.nd (dOp op_xor opD_xor (dOpL op_sub opD_sub (pv 0) (dP (dInt))) (dP (dInt))))) dsNil))))
      (dsOne (dRet (dv 0)))))
theorem ok_check_of (T : Tx K mg) : FnG P w K mg base (L2.CX P w) 2 T.a_check_of T.fd_check_of ["kind", "numbers"] (spV K 2 fn_check_of) := by
  have e : spV K 2 fn_check_of = spV K ["kind", "numbers"].length (runV m_check_of N_check_of.length) := rfl
  rw [e]
  refine okV2G (sc := ?sc) (bd := ?bd) (m := m_check_of) T.F_check_of sc_check_of ?h1 ?h2 ?hb
  case h1 => conv => lhs; whnf
  case h2 => conv => lhs; whnf
  case hb => exact fun cdv A outer s H E hgd hr => (by exact
    (dsCons (dIfS (dtCmpL (op_eqD hr.units) opD_eq (nomark _) (pv 0) (dP (dStr))) (dsOne (dRet (dOp op_and opD_and (dB1 (cr_sumA rfl) cd_sumA (T.z_sum) b_sum (dpk 1)) (dP (dInt))))) dsNil)
      (dsCons (dSet (i := 2) sc_check_of.nd (dInt))
      (dsCons (dFor (passes_of rfl) rfl (diSeq (dv 1)) (dgName (i := 3) sc_check_of.nd) (mb := L_check_of_0) (dsCons (dAug (i := 2) sc_check_of.nd iop_xor opD_xor (dv 3))
      (dsOne (dIfS (dtCmpL (op_eqD hr.units) opD_eq (nomark _) (pv 0) (dP (dStr))) (dsOne (dSet (i := 2) sc_check_of.nd (dCallVG hgd (ok__rest_of T) (hr.mono (by decide)) T.g__rest_of T.F__rest_of.kp T.b__rest_of (takes_of rfl rfl rfl rfl) (dCons (dv 2) dNil)))) dsNil))))
      (dsOne (dRet (dv 2)))))))
theorem ok__is_whole (T : Tx K mg) : FnG P w K mg base (L2.CX P w) 1 T.a__is_whole T.fd__is_whole ["item"] (spV K 1 fn__is_whole) := by
  have e : spV K 1 fn__is_whole = spV K ["item"].length (runV m__is_whole N__is_whole.length) := rfl
  rw [e]
  refine okV2G (sc := ?sc) (bd := ?bd) (m := m__is_whole) T.F__is_whole sc__is_whole ?h1 ?h2 ?hb
  case h1 => conv => lhs; whnf
  case h2 => conv => lhs; whnf
  case hb => exact fun cdv A outer s H E hgd hr => (by exact
    (dsOne (dRet (dAnd (dCmp (op_eqD hr.units) opD_eq (nomark _) (dIxL (pv 0) (dP (dInt))) (dP (dStr))) (dOne (dCmp op_lt opD_lt (nomark _) (dIxL (pv 0) (dP (dInt))) (dP (dInt))))))))
theorem ok__try_from (T : Tx K mg) : FnG P w K mg base (L2.CX P w) 3 T.a__try_from T.fd__try_from ["items", "at", "most", "check"] (spV K 4 fn__try_from) := by
  have e : spV K 4 fn__try_from = spV K ["items", "at", "most", "check"].length (runV m__try_from N__try_from.length) := rfl
  rw [e]
  refine okV2G (sc := ?sc) (bd := ?bd) (m := m__try_from) T.F__try_from sc__try_from ?h1 ?h2 ?hb
  case h1 => conv => lhs; whnf
  case h2 => conv => lhs; whnf
  case hb => exact fun cdv A outer s H E hgd hr => (by exact
    (dsCons (dsN (i := 4) sc__try_from.nd (dLstN dNil))
      (dsCons (dFor (passes_of rfl) rfl (diSeq (dSlL (pv 0) (dPart (dOpL or_addA opD_add (pv 1) (dP (dInt)))) (dPart (dOp or_addA opD_add (dOpL or_addA opD_add (pv 1) (dpk 2)) (dP (dInt)))))) (dgName (i := 5) sc__try_from.nd) (mb := L__try_from_0) (dsCons (dIfS (dtNot (dTru (dP (dCallVG hgd (ok__is_whole T) (hr.mono (by decide)) T.g__is_whole T.F__is_whole.kp T.b__is_whole (takes_of rfl rfl rfl rfl) (dCons (dv 5) dNil))))) (dsOne (dRet (dTup (dCons (dStr) (dCons (dStr) (dCons (dInt) dNil)))))) dsNil)
      (dsCons (dExpr (PE.imp (pe_bm PySem.F.plainAttrs_list PySem.F.slot_list_append PySem.F.type_list_append mt_append (pv 4) (dCons (dIxL (pv 5) (dP (dInt))) dNil)) (fun _ _ _ => mut_of mut_app)))
      (dsCons (dIfS (dtCmp op_gt opD_gt (nomark _) (dIxL (pv 4) (dP (dInt))) (dpk 2)) (dsOne (dRet (dTup (dCons (dStr) (dCons (dStr) (dCons (dInt) dNil)))))) dsNil)
      (dsOne (dIfS (dtCmp (op_eqD hr.units) opD_eq (nomark _) (dB1 cr_len cd_len (T.z_len) b_len (dpk 4)) (dP (dOp or_addA opD_add (dIxL (pv 4) (dP (dInt))) (dP (dInt))))) (dsCons (dIfS (dtCmp (op_neD hr.units) opD_ne (nomark _) (dIxL (pv 4) (dP (dNeg (dInt)))) (dP (dCallVG hgd (ok_check_of T) (hr.mono (by decide)) T.g_check_of T.F_check_of.kp T.b_check_of (takes_of rfl rfl rfl rfl) (dCons (dv 3) (dCons (dSlL (pv 4) dNoPart (dPart (dNeg (dInt)))) dNil))))) (dsOne (dRet (dTup (dCons (dStr) (dCons (dStr) (dCons (dInt) dNil)))))) dsNil)
      (dsOne (dRet (dTup (dCons (dStr) (dCons (dTy1 call_tuple_of cd_tuple (T.z_tuple) b_tuple (dP (dSlL (pv 4) (dPart (dInt)) (dPart (dNeg (dInt)))))) (dCons (dOp or_addA opD_add (dB1 cr_len cd_len (T.z_len) b_len (dpk 4)) (dP (dInt))) dNil))))))) dsNil))))))
      (dsOne (dRet (dTup (dCons (dStr) (dCons (dStr) (dCons (dOp op_sub opD_sub (dB1 cr_len cd_len (T.z_len) b_len (dpk 0)) (dpk 1)) dNil)))))))))
theorem ok_packets_in (T : Tx K mg) : FnG P w K mg base (L2.CX P w) 4 T.a_packets_in T.fd_packets_in ["items", "mark", "most", "check"] (spV K 4 fn_packets_in) := by
  have e : spV K 4 fn_packets_in = spV K ["items", "mark", "most", "check"].length (runV m_packets_in N_packets_in.length) := rfl
  rw [e]
  refine okV2G (sc := ?sc) (bd := ?bd) (m := m_packets_in) T.F_packets_in sc_packets_in ?h1 ?h2 ?hb
  case h1 => conv => lhs; whnf
  case h2 => conv => lhs; whnf
  case hb => exact fun cdv A outer s H E hgd hr => (by exact
    (dsCons (dsN (i := 4) sc_packets_in.nd (dLstN dNil))
      (dsCons (dSet (i := 5) sc_packets_in.nd (dInt))
      (dsCons (dWhile (fuel := (fun _ => 1000)) (passes_of rfl) (dtCmpL op_lt opD_lt (nomark _) (pv 5) (dP (dB1 cr_len cd_len (T.z_len) b_len (dpk 0)))) (mb := L_packets_in_0) (dsCons (dIfS ((dwOr (dtNot (dTru (dP (dCallVG hgd (ok__is_whole T) (hr.mono (by decide)) T.g__is_whole T.F__is_whole.kp T.b__is_whole (takes_of rfl rfl rfl rfl) (dCons (dIxL (pv 0) (dpk 5)) dNil))))) (dwOr1 (dtCmp (op_neD hr.units) opD_ne (nomark _) (dIx (dIxL (pv 0) (dpk 5)) (dP (dInt))) (dpk 1)))).pt) (dsCons (dAug (i := 5) sc_packets_in.nd iop_add opD_addI (dInt))
      (dsOne (dCont))) dsNil)
      (dsCons (dAsg (dCallVG hgd (ok__try_from T) (hr.mono (by decide)) T.g__try_from T.F__try_from.kp T.b__try_from (takes_of rfl rfl rfl rfl) (dCons (dv 0) (dCons (dv 5) (dCons (dv 2) (dCons (dv 3) dNil))))) (dgTup rfl (dgsCons (dgName (i := 6) sc_packets_in.nd) (dgsCons (dgName (i := 7) sc_packets_in.nd) (dgsCons (dgName (i := 8) sc_packets_in.nd) dgsNil2)))))
      (dsCons (dExpr (PE.imp (pe_bm PySem.F.plainAttrs_list PySem.F.slot_list_append PySem.F.type_list_append mt_append (pv 4) (dCons (dCallVG hgd (ok_item_of_parts T) (hr.mono (by decide)) T.g_item_of_parts T.F_item_of_parts.kp T.b_item_of_parts (takes_of rfl rfl rfl rfl) (dCons (dv 0) (dCons (dv 6) (dCons (dv 7) (dCons (dVal (dLstRg2 rfl (T.z_list) (T.z_range) (dv 5) (dOpL or_addA opD_add (pv 5) (dpk 8)))) dNil))))) dNil)) (fun _ _ _ => mut_of mut_app)))
      (dsOne (dAug (i := 5) sc_packets_in.nd iop_add opD_addI (dv 8)))))))
      (dsOne (dRet (dTy1 call_tuple_of cd_tuple (T.z_tuple) b_tuple (dpk 4))))))))
theorem ok__law_box (T : Tx K mg) : FnG P w K mg base (L2.CX P w) 1 T.a__law_box T.fd__law_box ["_law_script", "_law_k"] (spS K 2 fn__law_box) := by
  have e : spS K 2 fn__law_box = spS K ["_law_script", "_law_k"].length (runS m__law_box N__law_box.length) := rfl
  rw [e]
  refine okS2G (sc := ?sc) (bd := ?bd) (m := m__law_box) T.F__law_box sc__law_box ?h1 ?h2 ?hb
  case h1 => conv => lhs; whnf
  case h2 => conv => lhs; whnf
  case hb => exact fun cdv A outer s H E hgd hr => (by exact
    (dsCons (dSet (i := 2) sc__law_box.nd (dOp or_addA opD_add (dOp or_mulA opD_mul (dInt) (dpk 1)) (dP (dInt))))
      (dsCons (dIfS (dtCmpL op_lt opD_lt (nomark _) (pv 1) (dP (dScrLen (T.z_len) (pv 0)))) (dsOne (dSet (i := 2) sc__law_box.nd (dScrIx (pv 0) (dv 1)))) (dsOne (dIfS (dtCmp op_gt opD_gt (nomark _) (dScrLen (T.z_len) (pv 0)) (dP (dInt))) (dsOne (dSet (i := 2) sc__law_box.nd (dOpL or_addA opD_add (pv 2) (dP (dOp or_mulA opD_mul (dOp op_mod opD_mod (dTy1 call_int1 cd_int (T.z_int) b_int (dP (dScrIx (pv 0) (dOp op_mod opD_mod (dTy1 call_int1 cd_int (T.z_int) b_int (dpk 1)) (dP (dScrLen (T.z_len) (pv 0))))))) (dP (dInt))) (dP (dInt))))))) dsNil)))
      (dsCons (dSet (i := 3) sc__law_box.nd (dOp or_addA opD_add (dOp op_mod opD_mod (dOp or_addA opD_add (dOp or_mulA opD_mul (dOp op_mod opD_mod (dTy1 call_int1 cd_int (T.z_int) b_int (dpk 2)) (dP (dInt))) (dP (dInt))) (dP (dOp or_mulA opD_mul (dInt) (dpk 1)))) (dP (dInt))) (dP (dInt))))
      (dsOne (dRetF (dCons (dIx (dLst (dCons (dInt) (dCons (dv 2) dNil))) (dP (dTy1 call_int1 cd_int (T.z_int) b_int (dP (dCmpL op_ge opD_ge (nomark _) (pv 2) (dP (dOp op_pow opD_pow (dInt) (dP (dInt))))))))) (dCons (dv 3) (dCons (dInt) dNil)))))))))
theorem ok__law_take (T : Tx K mg) : FnG P w K mg base (L2.CX P w) 1 T.a__law_take T.fd__law_take ["_law_box_here", "_law_many"] (spB K 2 fn__law_take) := by
  have e : spB K 2 fn__law_take = spB K ["_law_box_here", "_law_many"].length (runB m__law_take N__law_take.length) := rfl
  rw [e]
  refine okB2G (sc := ?sc) (bd := ?bd) (m := m__law_take) T.F__law_take sc__law_take ?h1 ?h2 ?hb
  case h1 => conv => lhs; whnf
  case h2 => conv => lhs; whnf
  case hb => exact fun cdv A outer s H E hgd hr => (by exact
    (dsCons (dIfS (dtCmp op_gt opD_gt (nomark _) (dIxL (pv 0) (dP (dInt))) (dP (dInt))) (dsCons (dSet (i := 2) sc__law_take.nd (dOp op_mod opD_mod (dTy1 call_int1 cd_int (T.z_int) b_int (dP (dIxL (pv 0) (dP (dInt))))) (dpk 1)))
      (dsCons (dAsg (dOp op_fdivW opD_div (dIxL (pv 0) (dP (dInt))) (dpk 1)) (dgSet (pv 0) (dInt)))
      (dsOne (dRet (dv 2))))) dsNil)
      (dsCons (dAsg (dOp or_addA opD_add (dIxL (pv 0) (dP (dInt))) (dP (dInt))) (dgSet (pv 0) (dInt)))
      (dsCons (dSet (i := 3) sc__law_take.nd (dOp op_mod opD_mod (dTy1 call_int1 cd_int (T.z_int) b_int (dP (dOp or_mulA opD_mul (dOp or_addA opD_add (dIxL (pv 0) (dP (dInt))) (dP (dOp or_mulA opD_mul (dInt) (dP (dIxL (pv 0) (dP (dInt))))))) (dP (dInt))))) (dP (dInt))))
      (dsCons (dAsg (dOp or_addA opD_add (dOp op_mod opD_mod (dOp or_addA opD_add (dOpL or_mulA opD_mul (pv 3) (dP (dInt))) (dP (dInt))) (dP (dInt))) (dP (dInt))) (dgSet (pv 0) (dInt)))
      (dsOne (dRet (dOp op_mod opD_mod (dOp op_fdivW opD_div (dOp or_addA opD_add (dOpL or_mulA opD_mul (pv 3) (dP (dInt))) (dP (dIxL (pv 0) (dP (dInt))))) (dP (dInt))) (dpk 1)))))))))
theorem ok__law_alike (T : Tx K mg) : ∀ n : Nat, FnG P w K mg base (L2.CX P w) (n + 1) T.a__law_alike T.fd__law_alike ["_law_found", "_law_due"] (spV K 2 (fn__law_alike n))
  | 0 => okV0G fun _ => rfl
  | n + 1 => by
    have IH := ok__law_alike T n
    have e : spV K 2 (fn__law_alike (n + 1)) = spV K ["_law_found", "_law_due"].length (runV (m__law_alike (fn__law_alike n)) N__law_alike.length) := rfl
    rw [e]
    refine (okV2G (k := n + 1) (sc := ?sc) (bd := ?bd) (m := m__law_alike (fn__law_alike n)) T.F__law_alike sc__law_alike ?h1 ?h2 ?hb).mono (by omega)
    case h1 => conv => lhs; whnf
    case h2 => conv => lhs; whnf
    case hb => exact fun cdv A outer s H E hgd hr => (by exact
    (dsCons (dIfS (dTru (dP (dIsiA (T.z_isinstance) (tys (T.z_tuple) i_tuple b_tuple (tys (T.z_list) i_list b_list .nil)) (dpk 1)))) (dsCons (dIfS ((dwOr (dtCmp (op_neD hr.units) opD_ne (nomark _) (dIsi (T.z_isinstance) (T.z_tuple) i_tuple (dpk 0) b_tuple) (dP (dIsi (T.z_isinstance) (T.z_tuple) i_tuple (dpk 1) b_tuple))) (dwOr1 (dtCmp (op_neD hr.units) opD_ne (nomark _) (dIsi (T.z_isinstance) (T.z_list) i_list (dpk 0) b_list) (dP (dIsi (T.z_isinstance) (T.z_list) i_list (dpk 1) b_list))))).pt) (dsOne (dRet (dBl))) dsNil)
      (dsOne (dRet (dAnd (dCmp (op_eqD hr.units) opD_eq (nomark _) (dB1 cr_len cd_len (T.z_len) b_len (dpk 0)) (dP (dB1 cr_len cd_len (T.z_len) b_len (dpk 1)))) (dOne (dB1 (cr_all rfl) cd_all (T.z_all) b_all (dP (dVal (m := (C__law_alike_0 (fn__law_alike n))) (dCompN (own := [("_law_one", 3), ("_law_other", 4)]) rfl sc__law_alike.nd (diZip (T.z_zip) (dCons (dv 0) (dCons (dv 1) dNil))) (blkOk_by (N := N__law_alike) (sc := defScope s__law_alike) (by decide +kernel)) (fun _ _ _ _ _ => pg_tup rfl (pgs_cons (pg_name (i := 3) sc__law_alike.nd rfl (by first | exact Or.inl rfl | exact Or.inr rfl)) (pgs_cons (pg_name (i := 4) sc__law_alike.nd rfl (by first | exact Or.inl rfl | exact Or.inr rfl)) pgs_nil))) (fun _ _ _ _ _ => pts_nil) (fun _ _ _ _ _ => (dCallVG hgd IH (hr.mono (by omega)) T.g__law_alike T.F__law_alike.kp T.b__law_alike takes0 (dCons (dv 3) (dCons (dv 4) dNil)))) (ctTup (is := [3, 4]) (by decide)) (fun _ _ _ => tYes_of)))))))))) dsNil)
      (dsCons (dIfS (dTru (dP (dIsi (T.z_isinstance) (T.z_dict) i_dict (dpk 1) b_dict))) (dsCons (dIfS ((dwOr (dtNot (dTru (dP (dIsi (T.z_isinstance) (T.z_dict) i_dict (dpk 0) b_dict)))) (dwOr1 (dtCmp (op_neD hr.units) opD_ne (nomark _) (dVal (dBN1 cr_sortDP cn_sort (T.z_sorted) b_sorted (dP (dVal (dTyN1 call_list_of cn_list (T.z_list) b_list (dpk 0)))))) (dP (dVal (dBN1 cr_sortDP cn_sort (T.z_sorted) b_sorted (dP (dVal (dTyN1 call_list_of cn_list (T.z_list) b_list (dpk 1)))))))))).pt) (dsOne (dRet (dBl))) dsNil)
      (dsOne (dRet (dB1 (cr_all rfl) cd_all (T.z_all) b_all (dP (dVal (m := (C__law_alike_1 (fn__law_alike n))) (dCompN (own := [("_law_key", 2)]) rfl sc__law_alike.nd (diSeq (dv 1)) (blkOk_by (N := N__law_alike) (sc := defScope s__law_alike) (by decide +kernel)) (fun _ _ _ _ _ => pg_name (i := 2) sc__law_alike.nd rfl (by first | exact Or.inl rfl | exact Or.inr rfl)) (fun _ _ _ _ _ => pts_nil) (fun _ _ _ _ _ => (dCallVG hgd IH (hr.mono (by omega)) T.g__law_alike T.F__law_alike.kp T.b__law_alike takes0 (dCons (dIxL (pv 0) (dpk 2)) (dCons (dIxL (pv 1) (dpk 2)) dNil)))) (ctName (by decide)) (fun _ _ _ => tYes_of)))))))) dsNil)
      (dsCons (dIfS ((dwOr (dtCmp (op_neD hr.units) opD_ne (nomark _) (dIsi (T.z_isinstance) (T.z_bool) i_bool (dpk 0) b_bool) (dP (dIsi (T.z_isinstance) (T.z_bool) i_bool (dpk 1) b_bool))) (dwOr1 (dtCmp (op_neD hr.units) opD_ne (nomark _) (dIsi (T.z_isinstance) (T.z_str) i_str (dpk 0) b_str) (dP (dIsi (T.z_isinstance) (T.z_str) i_str (dpk 1) b_str))))).pt) (dsOne (dRet (dBl))) dsNil)
      (dsOne (dRet (dAnd (dNot (dP (dIsiA (T.z_isinstance) (tys (T.z_tuple) i_tuple b_tuple (tys (T.z_list) i_list b_list (tys (T.z_dict) i_dict b_dict .nil))) (dpk 0)))) (dOne (dCmpL (op_eqD hr.units) opD_eq (nomark _) (pv 0) (dpk 1))))))))))
theorem ok__law_numbers (T : Tx K mg) : FnG P w K mg base (L2.CX P w) 2 T.a__law_numbers T.fd__law_numbers ["_law_box_here", "_law_bound"] (spB K 2 fn__law_numbers) := by
  have e : spB K 2 fn__law_numbers = spB K ["_law_box_here", "_law_bound"].length (runB m__law_numbers N__law_numbers.length) := rfl
  rw [e]
  refine okB2G (sc := ?sc) (bd := ?bd) (m := m__law_numbers) T.F__law_numbers sc__law_numbers ?h1 ?h2 ?hb
  case h1 => conv => lhs; whnf
  case h2 => conv => lhs; whnf
  case hb => exact fun cdv A outer s H E hgd hr => (by exact
    (dsCons (dSet (i := 2) sc__law_numbers.nd (dIx (dLst (dCons (dInt) (dCons (dInt) (dCons (dInt) (dCons (dInt) dNil))))) (dP (dCallBG hgd (ok__law_take T) (hr.mono (by decide)) T.g__law_take T.F__law_take.kp T.b__law_take (takes_of rfl rfl rfl rfl) (pv 0) (dCons (dInt) dNil)))))
      (dsCons (dSet (i := 3) sc__law_numbers.nd (dIx (dLst (dCons (dInt) (dCons (dOp op_sub opD_sub (dInt) (dpk 2)) dNil))) (dP (dCallBG hgd (ok__law_take T) (hr.mono (by decide)) T.g__law_take T.F__law_take.kp T.b__law_take (takes_of rfl rfl rfl rfl) (pv 0) (dCons (dInt) dNil)))))
      (dsOne (dRet (dVal (m := C__law_numbers_0) (dCompN (own := [("_law_k", 4)]) rfl sc__law_numbers.nd (diRng1 (T.z_range) (dCons (dCallBG hgd (ok__law_take T) (hr.mono (by decide)) T.g__law_take T.F__law_take.kp T.b__law_take (takes_of rfl rfl rfl rfl) (pv 0) (dCons (dOpL or_addA opD_add (pv 1) (dP (dInt))) dNil)) dNil)) (blkOk_by (N := N__law_numbers) (sc := defScope s__law_numbers) (by decide +kernel)) (fun _ _ _ _ _ => pg_name (i := 4) sc__law_numbers.nd rfl (by first | exact Or.inl rfl | exact Or.inr rfl)) (fun _ _ _ _ _ => pts_nil) (fun _ _ _ _ _ => (dOpL or_addA opD_add (pv 3) (dP (dCallBG hgd (ok__law_take T) (hr.mono (by decide)) T.g__law_take T.F__law_take.kp T.b__law_take takes0 (pv 0) (dCons (dv 2) dNil))))) (ctName (by decide)) (fun _ _ _ => tYes_of))))))))
theorem ok__law_check (T : Tx K mg) : FnG P w K mg base (L2.CX P w) 1 T.a__law_check T.fd__law_check ["_law_kind", "_law_numbers_here"] (spV K 2 fn__law_check) := by
  have e : spV K 2 fn__law_check = spV K ["_law_kind", "_law_numbers_here"].length (runV m__law_check N__law_check.length) := rfl
  rw [e]
  refine okV2G (sc := ?sc) (bd := ?bd) (m := m__law_check) T.F__law_check sc__law_check ?h1 ?h2 ?hb
  case h1 => conv => lhs; whnf
  case h2 => conv => lhs; whnf
  case hb => exact fun cdv A outer s H E hgd hr => (by exact
    (dsCons (dIfS (dtCmpL (op_eqD hr.units) opD_eq (nomark _) (pv 0) (dP (dStr))) (dsOne (dRet (dOp op_mod opD_mod (dB1 (cr_sum rfl) cd_sum (T.z_sum) b_sum (dpk 1)) (dP (dInt))))) dsNil)
      (dsCons (dsN (i := 2) sc__law_check.nd (dLstN dNil))
      (dsCons (dFor (passes_of rfl) rfl (diSeq (dv 1)) (dgName (i := 3) sc__law_check.nd) (mb := L__law_check_0) (dsOne (dsN (i := 2) sc__law_check.nd (dCatNL (pv 2) (dP (dVal (m := C__law_check_0) (dCompN (own := [("_law_by", 8)]) rfl sc__law_check.nd (diSeq (dTup (dCons (dInt) (dCons (dInt) (dCons (dInt) (dCons (dInt) (dCons (dInt) (dCons (dInt) (dCons (dInt) (dCons (dInt) dNil)))))))))) (blkOk_by (N := N__law_check) (sc := defScope s__law_check) (by decide +kernel)) (fun _ _ _ _ _ => pg_name (i := 8) sc__law_check.nd rfl (by first | exact Or.inl rfl | exact Or.inr rfl)) (fun _ _ _ _ _ => pts_nil) (fun _ _ _ _ _ => (dOp op_mod opD_mod (dOpL op_fdivW opD_div (pv 3) (dpk 8)) (dP (dInt)))) (ctName (by decide)) (fun _ _ _ => tYes_of))))))))
      (dsCons (dIfS (dtCmpL (op_eqD hr.units) opD_eq (nomark _) (pv 0) (dP (dStr))) (dsOne (dsCompN (i := 4) (own := [("_law_k", 5)]) rfl sc__law_check.nd (sw_true rfl rfl rfl (by decide +kernel)) (diRng1 (T.z_range) (dCons (dInt) dNil)) (blkOk_by (N := N__law_check) (sc := defScope s__law_check) (by decide +kernel)) (fun _ _ _ _ _ => pg_name (i := 5) sc__law_check.nd rfl (by first | exact Or.inl rfl | exact Or.inr rfl)) (fun _ _ _ _ _ => pts_nil) (fun _ _ _ _ _ => (dOp op_mod opD_mod (dB1 (cr_sum rfl) cd_sum (T.z_sum) b_sum (dP (dVal (dStepNL (by decide) (pv 2) (dPart (dv 5)))))) (dP (dInt)))) (ctName (by decide)) (fun _ _ _ => tYes_of))) (dsCons (dsN (i := 2) sc__law_check.nd (dCatNL (pv 2) (dP (dVal (dRepN (dCons (dInt) dNil) (dInt))))))
      (dsCons (dFor (passes_of rfl) rfl (diRng1 (T.z_range) (dCons (dOp op_sub opD_sub (dB1 cr_len cd_len (T.z_len) b_len (dpk 2)) (dP (dInt))) dNil)) (dgName (i := 5) sc__law_check.nd) (mb := L__law_check_2) (dsOne (dIfS (dtCmp (op_eqD hr.units) opD_eq (nomark _) (dIxL (pv 2) (dpk 5)) (dP (dInt))) (dsOne (dFor (passes_of rfl) rfl (diSeq (dTup (dCons (dInt) (dCons (dInt) (dCons (dInt) (dCons (dInt) dNil)))))) (dgName (i := 6) sc__law_check.nd) (mb := L__law_check_1) (dsOne (dAsg (dOp op_sub opD_sub (dInt) (dP (dIxL (pv 2) (dP (dOpL or_addA opD_add (pv 5) (dpk 6)))))) (dgSet (pv 2) (dOpL or_addA opD_add (pv 5) (dpk 6))))))) dsNil)))
      (dsOne (dSet (i := 4) sc__law_check.nd (dSlL (pv 2) (dPart (dOp op_sub opD_sub (dB1 cr_len cd_len (T.z_len) b_len (dpk 2)) (dP (dInt)))) dNoPart))))))
      (dsOne (dRet (dB1 (cr_sum rfl) cd_sum (T.z_sum) b_sum (dP (dVal (m := C__law_check_2) (dCompN (own := [("_law_bit", 7), ("_law_by", 8)]) rfl sc__law_check.nd (diZipB (T.z_zip) (dCons (dv 4) (dCons (dTup (dCons (dInt) (dCons (dInt) (dCons (dInt) (dCons (dInt) (dCons (dInt) (dCons (dInt) (dCons (dInt) (dCons (dInt) dNil))))))))) dNil))) (blkOk_by (N := N__law_check) (sc := defScope s__law_check) (by decide +kernel)) (fun _ _ _ _ _ => pg_tup rfl (pgs_cons (pg_name (i := 7) sc__law_check.nd rfl (by first | exact Or.inl rfl | exact Or.inr rfl)) (pgs_cons (pg_name (i := 8) sc__law_check.nd rfl (by first | exact Or.inl rfl | exact Or.inr rfl)) pgs_nil))) (fun _ _ _ _ _ => pts_nil) (fun _ _ _ _ _ => (dOpL or_mulA opD_mul (pv 7) (dpk 8))) (ctTup (is := [7, 8]) (by decide)) (fun _ _ _ => tYes_of))))))))))))
theorem ok__law_frames (T : Tx K mg) : FnG P w K mg base (L2.CX P w) 2 T.a__law_frames T.fd__law_frames ["_law_box_here", "_law_words", "_law_bits"] (spB K 3 fn__law_frames) := by
  have e : spB K 3 fn__law_frames = spB K ["_law_box_here", "_law_words", "_law_bits"].length (runB m__law_frames N__law_frames.length) := rfl
  rw [e]
  refine okB2G (sc := ?sc) (bd := ?bd) (m := m__law_frames) T.F__law_frames sc__law_frames ?h1 ?h2 ?hb
  case h1 => conv => lhs; whnf
  case h2 => conv => lhs; whnf
  case hb => exact fun cdv A outer s H E hgd hr => (by exact
    (dsCons (dParLC (i := 3) (j := 4) (l := 5) rfl sc__law_frames.nd (dOp or_addA opD_add (dInt) (dP (dCallBG hgd (ok__law_take T) (hr.mono (by decide)) T.g__law_take T.F__law_take.kp T.b__law_take (takes_of rfl rfl rfl rfl) (pv 0) (dCons (dInt) dNil)))) (dIx (dLst (dCons (dInt) (dCons (dInt) (dCons (dInt) (dCons (dInt) dNil))))) (dP (dCallBG hgd (ok__law_take T) (hr.mono (by decide)) T.g__law_take T.F__law_take.kp T.b__law_take (takes_of rfl rfl rfl rfl) (pv 0) (dCons (dInt) dNil)))))
      (dsCons (dSet (i := 6) sc__law_frames.nd (dOp or_addA opD_add (dOpL or_addA opD_add (pv 2) (dP (dInt))) (dP (dCallBG hgd (ok__law_take T) (hr.mono (by decide)) T.g__law_take T.F__law_take.kp T.b__law_take (takes_of rfl rfl rfl rfl) (pv 0) (dCons (dInt) dNil)))))
      (dsCons (dFor (passes_of rfl) rfl (diSeq (dv 1)) (dgName (i := 7) sc__law_frames.nd) (mb := L__law_frames_0) (dsCons (dsCompN (i := 8) (own := [("_law_k", 11)]) rfl sc__law_frames.nd (sw_true rfl rfl rfl (by decide +kernel)) (diRng1 (T.z_range) (dCons (dv 6) dNil)) (blkOk_by (N := N__law_frames) (sc := defScope s__law_frames) (by decide +kernel)) (fun _ _ _ _ _ => pg_name (i := 11) sc__law_frames.nd rfl (by first | exact Or.inl rfl | exact Or.inr rfl)) (fun _ _ _ _ _ => pts_nil) (fun _ _ _ _ _ => (dOp or_addA opD_add (dOpL or_addA opD_add (pv 4) (dP (dOpL op_fdivW opD_div (pv 5) (dP (dInt))))) (dP (dOpL or_mulA opD_mul (pv 11) (dpk 5))))) (ctName (by decide)) (fun _ _ _ => tYes_of))
      (dsCons (dParEE (i := 9) (j := 10) rfl sc__law_frames.nd (by decide) (dStr) (dv 7))
      (dsCons (dIfS (dtCmpL op_isN opD_is (nomark _) (pv 7) (dP (dNon))) (dsOne (dParEE (i := 9) (j := 10) rfl sc__law_frames.nd (by decide) (dStr) (dIx (dLst (dCons (dStr) (dCons (dStr) (dCons (dStr) dNil)))) (dP (dCallBG hgd (ok__law_take T) (hr.mono (by decide)) T.g__law_take T.F__law_take.kp T.b__law_take (takes_of rfl rfl rfl rfl) (pv 0) (dCons (dOpL op_sub opD_sub (pv 6) (dpk 2)) dNil)))))) dsNil)
      (dsCons (dIfS (dtCmpL (op_eqD hr.units) opD_eq (nomark _) (pv 10) (dP (dStr))) (dsOne (dSet (i := 8) sc__law_frames.nd (dSlL (pv 8) dNoPart (dPart (dInt))))) dsNil)
      (dsCons (dExpr (PE.imp (pe_bm PySem.F.plainAttrs_list PySem.F.slot_list_append PySem.F.type_list_append mt_append (pv 3) (dCons (dTup (dCons (dv 9) (dCons (dv 10) (dCons (dv 4) (dCons (dOp or_addA opD_add (dIxL (pv 8) (dP (dNeg (dInt)))) (dP (dInt))) (dCons (dTy1 call_tuple_of cd_tuple (T.z_tuple) b_tuple (dP (dVal (m := C__law_frames_1) (dCompN (own := [("_law_spot", 12)]) rfl sc__law_frames.nd (diSeq (dv 8)) (blkOk_by (N := N__law_frames) (sc := defScope s__law_frames) (by decide +kernel)) (fun _ _ _ _ _ => pg_name (i := 12) sc__law_frames.nd rfl (by first | exact Or.inl rfl | exact Or.inr rfl)) (fun _ _ _ _ _ => pts_nil) (fun _ _ _ _ _ => (dTup (dCons (dStr) (dCons (dv 12) dNil)))) (ctName (by decide)) (fun _ _ _ => tYes_of))))) dNil)))))) dNil)) (fun _ _ _ => mut_of mut_app)))
      (dsOne (dSet (i := 4) sc__law_frames.nd (dOp or_addA opD_add (dOp or_addA opD_add (dIxL (pv 8) (dP (dNeg (dInt)))) (dP (dInt))) (dP (dCallBG hgd (ok__law_take T) (hr.mono (by decide)) T.g__law_take T.F__law_take.kp T.b__law_take (takes_of rfl rfl rfl rfl) (pv 0) (dCons (dInt) dNil))))))))))))
      (dsOne (dRet (dv 3)))))))
theorem ok__law_is_byte (T : Tx K mg) : FnG P w K mg base (L2.CX P w) 1 T.a__law_is_byte T.fd__law_is_byte ["_law_item"] (spV K 1 fn__law_is_byte) := by
  have e : spV K 1 fn__law_is_byte = spV K ["_law_item"].length (runV m__law_is_byte N__law_is_byte.length) := rfl
  rw [e]
  refine okV2G (sc := ?sc) (bd := ?bd) (m := m__law_is_byte) T.F__law_is_byte sc__law_is_byte ?h1 ?h2 ?hb
  case h1 => conv => lhs; whnf
  case h2 => conv => lhs; whnf
  case hb => exact fun cdv A outer s H E hgd hr => (by exact
    (dsOne (dRet (dAnd (dCmp (op_eqD hr.units) opD_eq (nomark _) (dIxL (pv 0) (dP (dInt))) (dP (dStr))) (dOne (dCmp op_lt opD_lt (nomark _) (dIxL (pv 0) (dP (dInt))) (dP (dInt))))))))
theorem ok__law_tried (T : Tx K mg) : FnG P w K mg base (L2.CX P w) 2 T.a__law_tried T.fd__law_tried ["_law_whole", "_law_numbers_here", "_law_bound", "_law_kind"] (spV K 4 fn__law_tried) := by
  have e : spV K 4 fn__law_tried = spV K ["_law_whole", "_law_numbers_here", "_law_bound", "_law_kind"].length (runV m__law_tried N__law_tried.length) := rfl
  rw [e]
  refine okV2G (sc := ?sc) (bd := ?bd) (m := m__law_tried) T.F__law_tried sc__law_tried ?h1 ?h2 ?hb
  case h1 => conv => lhs; whnf
  case h2 => conv => lhs; whnf
  case hb => exact fun cdv A outer s H E hgd hr => (by exact
    (dsCons (dSet (i := 4) sc__law_tried.nd (dInt))
      (dsCons (dIfS (dTru (dP (dIxL (pv 0) (dP (dInt))))) (dsOne (dSet (i := 4) sc__law_tried.nd (dOp or_addA opD_add (dIxL (pv 1) (dP (dInt))) (dP (dInt))))) dsNil)
      (dsCons (dIfS (dtCmp op_in_seq (opD_in false) (by rfl) (dBl) (dP (dSlL (pv 0) dNoPart (dPart (dBn (call_min2 rfl) cd_min2 (T.z_min) b_min (dCons (dv 4) (dCons (dInt) dNil))))))) (dsOne (dRet (dTup (dCons (dStr) (dCons (dStr) dNil))))) dsNil)
      (dsCons (dIfS (dtCmp op_gt opD_gt (nomark _) (dIxL (pv 1) (dP (dInt))) (dpk 2)) (dsOne (dRet (dTup (dCons (dStr) (dCons (dStr) dNil))))) dsNil)
      (dsCons (dIfS (dtCmp op_in_seq (opD_in false) (by rfl) (dBl) (dP (dSlL (pv 0) dNoPart (dPart (dv 4))))) (dsOne (dRet (dTup (dCons (dStr) (dCons (dStr) dNil))))) dsNil)
      (dsCons (dIfS (dtCmp op_lt opD_lt (nomark _) (dB1 cr_len cd_len (T.z_len) b_len (dpk 0)) (dpk 4)) (dsOne (dRet (dTup (dCons (dStr) (dCons (dStr) dNil))))) dsNil)
      (dsCons (dIfS (dtCmp (op_neD hr.units) opD_ne (nomark _) (dIxL (pv 1) (dP (dOpL op_sub opD_sub (pv 4) (dP (dInt))))) (dP (dCallVG hgd (ok__law_check T) (hr.mono (by decide)) T.g__law_check T.F__law_check.kp T.b__law_check (takes_of rfl rfl rfl rfl) (dCons (dv 3) (dCons (dSlL (pv 1) dNoPart (dPart (dOpL op_sub opD_sub (pv 4) (dP (dInt))))) dNil))))) (dsOne (dRet (dTup (dCons (dStr) (dCons (dStr) dNil))))) dsNil)
      (dsOne (dRet (dTup (dCons (dStr) (dCons (dTy1 call_tuple_of cd_tuple (T.z_tuple) b_tuple (dP (dSlL (pv 1) (dPart (dInt)) (dPart (dOpL op_sub opD_sub (pv 4) (dP (dInt))))))) dNil)))))))))))))
theorem ok__law_packets (T : Tx K mg) : FnG P w K mg base (L2.CX P w) 3 T.a__law_packets T.fd__law_packets ["_law_items", "_law_mark", "_law_bound", "_law_kind"] (spV K 4 fn__law_packets) := by
  have e : spV K 4 fn__law_packets = spV K ["_law_items", "_law_mark", "_law_bound", "_law_kind"].length (runV m__law_packets N__law_packets.length) := rfl
  rw [e]
  refine okV2G (sc := ?sc) (bd := ?bd) (m := m__law_packets) T.F__law_packets sc__law_packets ?h1 ?h2 ?hb
  case h1 => conv => lhs; whnf
  case h2 => conv => lhs; whnf
  case hb => exact fun cdv A outer s H E hgd hr => (by exact
    (dsCons (dParNC (i := 4) (j := 5) (d := (.int 0)) rfl sc__law_packets.nd (by decide) (dLstN dNil) pe_int (fun _ => .int _))
      (dsCons (dWhile (fuel := (fun _ => 1000)) (passes_of rfl) (dtCmpL op_lt opD_lt (nomark _) (pv 5) (dP (dB1 cr_len cd_len (T.z_len) b_len (dpk 0)))) (mb := L__law_packets_0) (dsCons (dPar3 (i := 6) (j := 7) (l := 8) rfl sc__law_packets.nd (by decide) (by decide) (by decide) (dNon) (dInt) (dSlL (pv 0) (dPart (dOpL or_addA opD_add (pv 5) (dP (dInt)))) dNoPart))
      (dsCons (dIfS ((dwAnd (dTru (dP (dCallVG hgd (ok__law_is_byte T) (hr.mono (by decide)) T.g__law_is_byte T.F__law_is_byte.kp T.b__law_is_byte (takes_of rfl rfl rfl rfl) (dCons (dIxL (pv 0) (dpk 5)) dNil)))) (dwAnd1 (dtCmp (op_eqD hr.units) opD_eq (nomark _) (dIx (dIxL (pv 0) (dpk 5)) (dP (dInt))) (dpk 1)))).pt) (dsCons (dSet (i := 6) sc__law_packets.nd (dTup (dCons (dStr) (dCons (dStr) dNil))))
      (dsCons (dIfS (dtCmpL (op_neD hr.units) opD_ne (nomark _) (pv 8) (dP (dLst dNil))) (dsOne (dSet (i := 6) sc__law_packets.nd (dCallVG hgd (ok__law_tried T) (hr.mono (by decide)) T.g__law_tried T.F__law_tried.kp T.b__law_tried (takes_of rfl rfl rfl rfl) (dCons (dVal (m := C__law_packets_1) (dCompN (own := [("_law_item", 9)]) rfl sc__law_packets.nd (diSeq (dv 8)) (blkOk_by (N := N__law_packets) (sc := defScope s__law_packets) (by decide +kernel)) (fun _ _ _ _ _ => pg_name (i := 9) sc__law_packets.nd rfl (by first | exact Or.inl rfl | exact Or.inr rfl)) (fun _ _ _ _ _ => pts_nil) (fun _ _ _ _ _ => (dCallVG hgd (ok__law_is_byte T) (hr.mono (by decide)) T.g__law_is_byte T.F__law_is_byte.kp T.b__law_is_byte takes0 (dCons (dv 9) dNil))) (ctName (by decide)) (fun _ _ _ => tYes_of))) (dCons (dVal (m := C__law_packets_0) (dCompN (own := [("_law_item", 9)]) rfl sc__law_packets.nd (diSeq (dv 8)) (blkOk_by (N := N__law_packets) (sc := defScope s__law_packets) (by decide +kernel)) (fun _ _ _ _ _ => pg_name (i := 9) sc__law_packets.nd rfl (by first | exact Or.inl rfl | exact Or.inr rfl)) (fun _ _ _ _ _ => pts_nil) (fun _ _ _ _ _ => (dIxL (pv 9) (dP (dInt)))) (ctName (by decide)) (fun _ _ _ => tYes_of))) (dCons (dv 2) (dCons (dv 3) dNil))))))) dsNil)
      (dsCons (dIfS (dtCmp (op_eqD hr.units) opD_eq (nomark _) (dIxL (pv 6) (dP (dInt))) (dP (dStr))) (dsOne (dSet (i := 7) sc__law_packets.nd (dOp or_addA opD_add (dInt) (dP (dB1 cr_len cd_len (T.z_len) b_len (dP (dIxL (pv 6) (dP (dInt))))))))) (dsOne (dIfS (dtCmp (op_eqD hr.units) opD_eq (nomark _) (dIxL (pv 6) (dP (dInt))) (dP (dStr))) (dsOne (dSet (i := 7) sc__law_packets.nd (dOp or_addA opD_add (dInt) (dP (dB1 cr_len cd_len (T.z_len) b_len (dpk 8)))))) dsNil)))
      (dsOne (dExpr (PE.imp (pe_bm PySem.F.plainAttrs_list PySem.F.slot_list_append PySem.F.type_list_append mt_append (pv 4) (dCons (dOpL or_addA opD_add (pv 6) (dP (dTup (dCons (dIx (dIxL (pv 0) (dpk 5)) (dP (dInt))) (dCons (dIx (dIxL (pv 0) (dP (dOp op_sub opD_sub (dOpL or_addA opD_add (pv 5) (dpk 7)) (dP (dInt))))) (dP (dInt))) (dCons (dTy1 call_tuple_of cd_tuple (T.z_tuple) b_tuple (dP (dVal (dLstRg2 rfl (T.z_list) (T.z_range) (dv 5) (dOpL or_addA opD_add (pv 5) (dpk 7)))))) dNil)))))) dNil)) (fun _ _ _ => mut_of mut_app))))))) dsNil)
      (dsOne (dSet (i := 5) sc__law_packets.nd (dOpL or_addA opD_add (pv 5) (dpk 7)))))))
      (dsOne (dRet (dv 4))))))
theorem ok__law_stream (T : Tx K mg) : FnG P w K mg base (L2.CX P w) 3 T.a__law_stream T.fd__law_stream ["_law_box_here", "_law_mark", "_law_bound", "_law_kind", "_law_room"] (spB K 5 fn__law_stream) := by
  have e : spB K 5 fn__law_stream = spB K ["_law_box_here", "_law_mark", "_law_bound", "_law_kind", "_law_room"].length (runB m__law_stream N__law_stream.length) := rfl
  rw [e]
  refine okB2G (sc := ?sc) (bd := ?bd) (m := m__law_stream) T.F__law_stream sc__law_stream ?h1 ?h2 ?hb
  case h1 => conv => lhs; whnf
  case h2 => conv => lhs; whnf
  case hb => exact fun cdv A outer s H E hgd hr => (by exact
    (dsCons (dsN (i := 5) sc__law_stream.nd (dLstN dNil))
      (dsCons (dFor (passes_of rfl) rfl (diRng1 (T.z_range) (dCons (dv 4) dNil)) (dgName (i := 6) sc__law_stream.nd) (mb := L__law_stream_0) (dsCons (dSet (i := 7) sc__law_stream.nd (dCallBG hgd (ok__law_numbers T) (hr.mono (by decide)) T.g__law_numbers T.F__law_numbers.kp T.b__law_numbers (takes_of rfl rfl rfl rfl) (pv 0) (dCons (dBn (call_min2 rfl) cd_min2 (T.z_min) b_min (dCons (dOpL op_sub opD_sub (pv 4) (dP (dInt))) (dCons (dIx (dLst (dCons (dInt) (dCons (dInt) (dCons (dInt) (dCons (dInt) dNil))))) (dP (dCallBG hgd (ok__law_take T) (hr.mono (by decide)) T.g__law_take T.F__law_take.kp T.b__law_take (takes_of rfl rfl rfl rfl) (pv 0) (dCons (dInt) dNil)))) dNil))) dNil)))
      (dsCons (dSet (i := 8) sc__law_stream.nd (dOp or_addA opD_add (dLst (dCons (dB1 cr_len cd_len (T.z_len) b_len (dpk 7)) dNil)) (dpk 7)))
      (dsCons (dsN (i := 9) sc__law_stream.nd (dCatN (dOp or_addA opD_add (dLst (dCons (dv 1) dNil)) (dpk 8)) (dP (dLst (dCons (dCallVG hgd (ok__law_check T) (hr.mono (by decide)) T.g__law_check T.F__law_check.kp T.b__law_check (takes_of rfl rfl rfl rfl) (dCons (dv 3) (dCons (dv 8) dNil))) dNil)))))
      (dsCons (dParEE (i := 10) (j := 11) rfl sc__law_stream.nd (by decide) (dCallBG hgd (ok__law_take T) (hr.mono (by decide)) T.g__law_take T.F__law_take.kp T.b__law_take (takes_of rfl rfl rfl rfl) (pv 0) (dCons (dInt) dNil)) (dCallBG hgd (ok__law_take T) (hr.mono (by decide)) T.g__law_take T.F__law_take.kp T.b__law_take (takes_of rfl rfl rfl rfl) (pv 0) (dCons (dB1 cr_len cd_len (T.z_len) b_len (dpk 9)) dNil)))
      (dsCons (dIfS (dtCmpL (op_eqD hr.units) opD_eq (nomark _) (pv 10) (dP (dInt))) (dsCons (dSet (i := 12) sc__law_stream.nd (dIx (dLst (dCons (dOp or_addA opD_add (dInt) (dpk 1)) (dCons (dOp or_addA opD_add (dInt) (dpk 1)) (dCons (dOp or_addA opD_add (dInt) (dP (dCallBG hgd (ok__law_take T) (hr.mono (by decide)) T.g__law_take T.F__law_take.kp T.b__law_take (takes_of rfl rfl rfl rfl) (pv 0) (dCons (dInt) dNil)))) dNil)))) (dP (dCallBG hgd (ok__law_take T) (hr.mono (by decide)) T.g__law_take T.F__law_take.kp T.b__law_take (takes_of rfl rfl rfl rfl) (pv 0) (dCons (dInt) dNil)))))
      (dsOne (dsN (i := 9) sc__law_stream.nd (dCatN (dCallBG hgd (ok__law_numbers T) (hr.mono (by decide)) T.g__law_numbers T.F__law_numbers.kp T.b__law_numbers (takes_of rfl rfl rfl rfl) (pv 0) (dCons (dInt) dNil)) (dP (dVal (dRepN (dCons (dv 12) dNil) (dCallBG hgd (ok__law_take T) (hr.mono (by decide)) T.g__law_take T.F__law_take.kp T.b__law_take (takes_of rfl rfl rfl rfl) (pv 0) (dCons (dInt) dNil))))))))) dsNil)
      (dsCons (dIfS (dtCmpL (op_eqD hr.units) opD_eq (nomark _) (pv 10) (dP (dInt))) (dsOne (dAsg (dTup (dCons (dNon) (dCons (dNon) dNil))) (dgTup rfl (dgsCons (dgSet (pv 9) (dv 11)) (dgsCons (dgSet (pv 9) (dCallBG hgd (ok__law_take T) (hr.mono (by decide)) T.g__law_take T.F__law_take.kp T.b__law_take (takes_of rfl rfl rfl rfl) (pv 0) (dCons (dB1 cr_len cd_len (T.z_len) b_len (dpk 9)) dNil))) dgsNil2))))) dsNil)
      (dsCons (dIfS (dtCmpL (op_eqD hr.units) opD_eq (nomark _) (pv 10) (dP (dInt))) (dsOne (dsN (i := 9) sc__law_stream.nd (dCatN (dOp or_addA opD_add (dSlL (pv 9) dNoPart (dPart (dv 11))) (dP (dVal (dRepN (dCons (dNon) dNil) (dOp or_addA opD_add (dInt) (dP (dCallBG hgd (ok__law_take T) (hr.mono (by decide)) T.g__law_take T.F__law_take.kp T.b__law_take (takes_of rfl rfl rfl rfl) (pv 0) (dCons (dInt) dNil)))))))) (dP (dSlL (pv 9) (dPart (dv 11)) dNoPart))))) dsNil)
      (dsCons (dIfS (dtCmpL (op_eqD hr.units) opD_eq (nomark _) (pv 10) (dP (dInt))) (dsOne (dAsg (dIx (dLst (dCons (dv 1) (dCons (dBn (call_min2 rfl) cd_min2 (T.z_min) b_min (dCons (dInt) (dCons (dOpL or_addA opD_add (pv 2) (dP (dInt))) dNil))) (dCons (dCallBG hgd (ok__law_take T) (hr.mono (by decide)) T.g__law_take T.F__law_take.kp T.b__law_take (takes_of rfl rfl rfl rfl) (pv 0) (dCons (dInt) dNil)) dNil)))) (dP (dCallBG hgd (ok__law_take T) (hr.mono (by decide)) T.g__law_take T.F__law_take.kp T.b__law_take (takes_of rfl rfl rfl rfl) (pv 0) (dCons (dInt) dNil)))) (dgSet (pv 9) (dIx (dLst (dCons (dv 11) (dCons (dInt) dNil))) (dP (dCallBG hgd (ok__law_take T) (hr.mono (by decide)) T.g__law_take T.F__law_take.kp T.b__law_take (takes_of rfl rfl rfl rfl) (pv 0) (dCons (dInt) dNil))))))) dsNil)
      (dsCons (dIfS (dtCmpL (op_eqD hr.units) opD_eq (nomark _) (pv 10) (dP (dInt))) (dsOne (dsN (i := 9) sc__law_stream.nd (dSlNL (pv 9) dNoPart (dPart (dv 11))))) dsNil)
      (dsCons (dIfS (dtCmpL (op_eqD hr.units) opD_eq (nomark _) (pv 10) (dP (dInt))) (dsOne (dsN (i := 9) sc__law_stream.nd (dCatN (dOp or_addA opD_add (dSlL (pv 9) dNoPart (dPart (dv 11))) (dP (dLst (dCons (dCallBG hgd (ok__law_take T) (hr.mono (by decide)) T.g__law_take T.F__law_take.kp T.b__law_take (takes_of rfl rfl rfl rfl) (pv 0) (dCons (dInt) dNil)) dNil)))) (dP (dSlL (pv 9) (dPart (dv 11)) dNoPart))))) dsNil)
      (dsCons (dIfS (dtCmpL (op_eqD hr.units) opD_eq (nomark _) (pv 10) (dP (dInt))) (dsOne (dsN (i := 9) sc__law_stream.nd (dCatN (dVal (dRepN (dCons (dv 1) dNil) (dOp or_addA opD_add (dInt) (dP (dCallBG hgd (ok__law_take T) (hr.mono (by decide)) T.g__law_take T.F__law_take.kp T.b__law_take (takes_of rfl rfl rfl rfl) (pv 0) (dCons (dInt) dNil)))))) (dpk 9)))) dsNil)
      (dsCons (dSet (i := 5) sc__law_stream.nd (dOp or_addA opD_add (dOpL or_addA opD_add (pv 5) (dpk 9)) (dP (dVal (dRepN (dCons (dv 1) dNil) (dTy1 call_int1 cd_int (T.z_int) b_int (dP (dCmp (op_eqD hr.units) opD_eq (nomark _) (dCallBG hgd (ok__law_take T) (hr.mono (by decide)) T.g__law_take T.F__law_take.kp T.b__law_take (takes_of rfl rfl rfl rfl) (pv 0) (dCons (dInt) dNil)) (dP (dInt))))))))))
      (dsOne (dIfS (dtCmp op_ge opD_ge (nomark _) (dB1 cr_len cd_len (T.z_len) b_len (dpk 5)) (dpk 4)) (dsOne (dBreak)) dsNil)))))))))))))))
      (dsCons (dSet (i := 13) sc__law_stream.nd (dOp or_mulA opD_mul (dCallBG hgd (ok__law_take T) (hr.mono (by decide)) T.g__law_take T.F__law_take.kp T.b__law_take (takes_of rfl rfl rfl rfl) (pv 0) (dCons (dv 4) dNil)) (dP (dTy1 call_int1 cd_int (T.z_int) b_int (dP (dCmp (op_eqD hr.units) opD_eq (nomark _) (dCallBG hgd (ok__law_take T) (hr.mono (by decide)) T.g__law_take T.F__law_take.kp T.b__law_take (takes_of rfl rfl rfl rfl) (pv 0) (dCons (dInt) dNil)) (dP (dInt))))))))
      (dsOne (dRet (dSlL (pv 5) dNoPart (dPart (dOpL op_sub opD_sub (pv 4) (dpk 13))))))))))
theorem ok__law_asked (T : Tx K mg) : FnG P w K mg base (L2.CX P w) 4 T.a__law_asked T.fd__law_asked ["_law_box_here"] (spB K 1 fn__law_asked) := by
  have e : spB K 1 fn__law_asked = spB K ["_law_box_here"].length (runB m__law_asked N__law_asked.length) := rfl
  rw [e]
  refine okB2G (sc := ?sc) (bd := ?bd) (m := m__law_asked) T.F__law_asked sc__law_asked ?h1 ?h2 ?hb
  case h1 => conv => lhs; whnf
  case h2 => conv => lhs; whnf
  case hb => exact fun cdv A outer s H E hgd hr => (by exact
    (dsCons (dParEE (i := 1) (j := 2) rfl sc__law_asked.nd (by decide) (dCallBG hgd (ok__law_take T) (hr.mono (by decide)) T.g__law_take T.F__law_take.kp T.b__law_take (takes_of rfl rfl rfl rfl) (pv 0) (dCons (dInt) dNil)) (dIx (dLst (dCons (dInt) (dCons (dInt) (dCons (dCallBG hgd (ok__law_take T) (hr.mono (by decide)) T.g__law_take T.F__law_take.kp T.b__law_take (takes_of rfl rfl rfl rfl) (pv 0) (dCons (dInt) dNil)) (dCons (dCallBG hgd (ok__law_take T) (hr.mono (by decide)) T.g__law_take T.F__law_take.kp T.b__law_take (takes_of rfl rfl rfl rfl) (pv 0) (dCons (dInt) dNil)) dNil))))) (dP (dCallBG hgd (ok__law_take T) (hr.mono (by decide)) T.g__law_take T.F__law_take.kp T.b__law_take (takes_of rfl rfl rfl rfl) (pv 0) (dCons (dInt) dNil)))))
      (dsCons (dSet (i := 3) sc__law_asked.nd (dIx (dLst (dCons (dStr) (dCons (dStr) (dCons (dStr) (dCons (dStr) dNil))))) (dP (dCallBG hgd (ok__law_take T) (hr.mono (by decide)) T.g__law_take T.F__law_take.kp T.b__law_take (takes_of rfl rfl rfl rfl) (pv 0) (dCons (dInt) dNil)))))
      (dsCons (dParEE (i := 4) (j := 5) rfl sc__law_asked.nd (by decide) (dCallBG hgd (ok__law_stream T) (hr.mono (by decide)) T.g__law_stream T.F__law_stream.kp T.b__law_stream (takes_of rfl rfl rfl rfl) (pv 0) (dCons (dv 1) (dCons (dv 2) (dCons (dv 3) (dCons (dInt) dNil))))) (dIx (dLst (dCons (dInt) (dCons (dInt) dNil))) (dP (dCallBG hgd (ok__law_take T) (hr.mono (by decide)) T.g__law_take T.F__law_take.kp T.b__law_take (takes_of rfl rfl rfl rfl) (pv 0) (dCons (dInt) dNil)))))
      (dsCons (dIfS (dtCmpL (op_eqD hr.units) opD_eq (nomark _) (pv 5) (dP (dInt))) (dsCons (dsCompN (i := 6) (own := [("_law_number", 7)]) rfl sc__law_asked.nd (sw_true rfl rfl rfl (by decide +kernel)) (diSeq (dv 4)) (blkOk_by (N := N__law_asked) (sc := defScope s__law_asked) (by decide +kernel)) (fun _ _ _ _ _ => pg_name (i := 7) sc__law_asked.nd rfl (by first | exact Or.inl rfl | exact Or.inr rfl)) (fun _ _ _ _ _ => pts_nil) (fun _ _ _ _ _ => (dAnd (dCmpL op_notN opD_isnt (nomark _) (pv 7) (dP (dNon))) (dOne (dCmpL op_gt opD_gt (nomark _) (pv 7) (dP (dInt)))))) (ctName (by decide)) (fun _ _ _ => tYes_of))
      (dsOne (dsCompN (i := 4) (own := [("_law_number", 7), ("_law_is_great", 8)]) rfl sc__law_asked.nd (sw_true rfl rfl rfl (by decide +kernel)) (diZip (T.z_zip) (dCons (dv 4) (dCons (dv 6) dNil))) (blkOk_by (N := N__law_asked) (sc := defScope s__law_asked) (by decide +kernel)) (fun _ _ _ _ _ => pg_tup rfl (pgs_cons (pg_name (i := 7) sc__law_asked.nd rfl (by first | exact Or.inl rfl | exact Or.inr rfl)) (pgs_cons (pg_name (i := 8) sc__law_asked.nd rfl (by first | exact Or.inl rfl | exact Or.inr rfl)) pgs_nil))) (fun _ _ _ _ _ => pts_nil) (fun _ _ _ _ _ => (dIf (dTru (dpk 8)) (dOp or_addA opD_add (dInt) (dP (dCallBG hgd (ok__law_take T) (hr.mono (by decide)) T.g__law_take T.F__law_take.kp T.b__law_take takes0 (pv 0) (dCons (dInt) dNil)))) (dv 7))) (ctTup (is := [7, 8]) (by decide)) (fun _ _ _ => tYes_of)))) dsNil)
      (dsOne (dRet (dTup (dCons (dCallBG hgd (ok__law_frames T) (hr.mono (by decide)) T.g__law_frames T.F__law_frames.kp T.b__law_frames (takes_of rfl rfl rfl rfl) (pv 0) (dCons (dv 4) (dCons (dv 5) dNil))) (dCons (dv 1) (dCons (dv 2) (dCons (dv 3) dNil))))))))))))
theorem ok__law_right (T : Tx K mg) : FnG P w K mg base (L2.CX P w) 8 T.a__law_right T.fd__law_right ["_law_items", "_law_mark", "_law_bound", "_law_kind"] (spV K 4 fn__law_right) := by
  have e : spV K 4 fn__law_right = spV K ["_law_items", "_law_mark", "_law_bound", "_law_kind"].length (runV m__law_right N__law_right.length) := rfl
  rw [e]
  refine okV2G (sc := ?sc) (bd := ?bd) (m := m__law_right) T.F__law_right sc__law_right ?h1 ?h2 ?hb
  case h1 => conv => lhs; whnf
  case h2 => conv => lhs; whnf
  case hb => exact fun cdv A outer s H E hgd hr => (by exact
    (dsCons (dParEE (i := 4) (j := 5) rfl sc__law_right.nd (by decide) (dTy1 call_tuple_of cd_tuple (T.z_tuple) b_tuple (dP (dCallVG hgd (ok__law_packets T) (hr.mono (by decide)) T.g__law_packets T.F__law_packets.kp T.b__law_packets (takes_of rfl rfl rfl rfl) (dCons (dv 0) (dCons (dv 1) (dCons (dv 2) (dCons (dv 3) dNil))))))) (dB1 (cr_reprG hgd hr.units) cd_reprG (T.z_repr) b_repr (dpk 0)))
      (dsCons (dIfS (dtNot (dTru (dP (dCallVG hgd (ok__law_alike T 6) (hr.mono (by decide)) T.g__law_alike T.F__law_alike.kp T.b__law_alike (takes_of rfl rfl rfl rfl) (dCons (dCallKG (aV := []) (bV := []) hgd (ok_packets_in T) (hr.mono (by decide)) T.g_packets_in T.F_packets_in.kp T.kb_packets_in_0 (takes_of rfl rfl rfl rfl) (fun _ => .nil) (fun _ => .nil) (dCons (dTy1 call_tuple_of cd_tuple (T.z_tuple) b_tuple (dpk 0)) (dCons (dv 1) dNil)) (dkCons (dv 2) (dkCons (dv 3) dkNil))) (dCons (dv 4) dNil)))))) (dsOne (dRet (dBl))) dsNil)
      (dsCons (dSet (i := 6) sc__law_right.nd (dv 4))
      (dsCons (dIfS (dtCmpL (op_eqD hr.units) opD_eq (nomark _) (pv 3) (dP (dStr))) (dsCons (dSet (i := 6) sc__law_right.nd (dCallKG (aV := []) (bV := [.str "sum"]) hgd (ok_packets_in T) (hr.mono (by decide)) T.g_packets_in T.F_packets_in.kp T.kb_packets_in_1 (takes_of rfl rfl rfl rfl) (fun _ => .nil) (fun _ => .cons (.str _) <| .nil) (dCons (dv 0) (dCons (dv 1) dNil)) (dkCons (dv 2) dkNil)))
      (dsOne (dIfS (dtCmpL (op_eqD hr.units) opD_eq (nomark _) (pv 2) (dP (dInt))) (dsOne (dSet (i := 6) sc__law_right.nd (dCallKG (aV := []) (bV := [.int 255, .str "sum"]) hgd (ok_packets_in T) (hr.mono (by decide)) T.g_packets_in T.F_packets_in.kp T.kb_packets_in_2 (takes_of rfl rfl rfl rfl) (fun _ => .nil) (fun _ => .cons (.int _) <| .cons (.str _) <| .nil) (dCons (dv 0) (dCons (dv 1) dNil)) dkNil))) dsNil))) (dsOne (dIfS (dtCmpL (op_eqD hr.units) opD_eq (nomark _) (pv 2) (dP (dInt))) (dsOne (dSet (i := 6) sc__law_right.nd (dCallKG (aV := [.int 255]) (bV := []) hgd (ok_packets_in T) (hr.mono (by decide)) T.g_packets_in T.F_packets_in.kp T.kb_packets_in_3 (takes_of rfl rfl rfl rfl) (fun _ => .cons (.int _) <| .nil) (fun _ => .nil) (dCons (dv 0) (dCons (dv 1) dNil)) (dkCons (dv 3) dkNil)))) dsNil)))
      (dsOne (dRet (dAnd (dCallVG hgd (ok__law_alike T 6) (hr.mono (by decide)) T.g__law_alike T.F__law_alike.kp T.b__law_alike (takes_of rfl rfl rfl rfl) (dCons (dv 6) (dCons (dv 4) dNil))) (dOne (dCmp (op_eqD hr.units) opD_eq (nomark _) (dB1 (cr_reprG hgd hr.units) cd_reprG (T.z_repr) b_repr (dpk 0)) (dpk 5)))))))))))
theorem ok_law (T : Tx K mg) : LawFn P w K mg base T.a_law T.fd_law "_law_script" 9 fn_law := by
  have e : fn_law = runL m_law N_law.length := rfl
  rw [e]
  refine lawFn_of (sc := ?sc) (bd := ?bd) (m := m_law) T.F_law sc_law ?h1 ?h2 ?hb
  case h1 => conv => lhs; whnf
  case h2 => conv => lhs; whnf
  case hb => exact fun cdv s H E hr => (by
    have hgd : callerA.guards = some [] := rfl
    exact
    (dsCons (dFor (passes_of rfl) rfl (diRng1 (T.z_range) (dCons (dBn (call_max2 rfl) cd_max2 (T.z_max) b_max (dCons (dInt) (dCons (dBn (call_min2 rfl) cd_min2 (T.z_min) b_min (dCons (dInt) (dCons (dScrLen (T.z_len) (pv 0)) dNil))) dNil))) dNil)) (dgName (i := 1) sc_law.nd) (mb := L_law_1) (dsCons (dCallStG hgd (i := 2) (ok__law_box T) (hr.mono (by decide)) T.g__law_box T.F__law_box.kp T.b__law_box (takes_of rfl rfl rfl rfl) sc_law.nd (pv 0) (dCons (dv 1) dNil))
      (dsCons (dsN (i := 3) sc_law.nd (dLstN (dCons (dCallBG hgd (ok__law_asked T) (hr.mono (by decide)) T.g__law_asked T.F__law_asked.kp T.b__law_asked (takes_of rfl rfl rfl rfl) (pv 2) dNil) (dCons (dCallBG hgd (ok__law_asked T) (hr.mono (by decide)) T.g__law_asked T.F__law_asked.kp T.b__law_asked (takes_of rfl rfl rfl rfl) (pv 2) dNil) dNil))))
      (dsOne (dFor (passes_of rfl) rfl (diSeq (dOpL or_addA opD_add (pv 3) (dP (dSlL (pv 3) dNoPart (dPart (dInt)))))) (dgTup rfl (dgsCons (dgName (i := 4) sc_law.nd) (dgsCons (dgName (i := 5) sc_law.nd) (dgsCons (dgName (i := 6) sc_law.nd) (dgsCons (dgName (i := 7) sc_law.nd) dgsNil2))))) (mb := L_law_0) (dsOne (dIfS (dtNot (dTru (dP (dCallVG hgd (ok__law_right T) (hr.mono (by decide)) T.g__law_right T.F__law_right.kp T.b__law_right (takes_of rfl rfl rfl rfl) (dCons (dv 4) (dCons (dv 5) (dCons (dv 6) (dCons (dv 7) dNil)))))))) (dsOne (dRet (dBl))) dsNil)))))))
      (dsOne (dRet (dBl)))))
end
end Pf

namespace Pf
open PySem PySem.Spec L2 Dd
/-! ### spans -/
abbrev Pr := Int × Int
def Inn (ss : List Pr) (m : Int) : Prop := ∃ s ∈ ss, s.1 ≤ m ∧ m < s.2
def Can (ss : List Pr) : Prop := (∀ s ∈ ss, s.1 < s.2) ∧ ss.Pairwise (fun s t => s.2 < t.1)
theorem Inn.nil {m : Int} : ¬ Inn [] m := fun ⟨_, h, _⟩ => by cases h
theorem inn_cons {s : Pr} {ss : List Pr} {m : Int} : Inn (s :: ss) m ↔ (s.1 ≤ m ∧ m < s.2) ∨ Inn ss m := by
  constructor
  · rintro ⟨t, h, q⟩
    rcases List.mem_cons.mp h with rfl | h
    · exact .inl q
    · exact .inr ⟨t, h, q⟩
  · rintro (q | ⟨t, h, q⟩)
    · exact ⟨s, List.mem_cons_self, q⟩
    · exact ⟨t, List.mem_cons_of_mem _ h, q⟩
theorem inn_app {a b : List Pr} {m : Int} : Inn (a ++ b) m ↔ Inn a m ∨ Inn b m := by
  constructor
  · rintro ⟨t, h, q⟩
    rcases List.mem_append.mp h with h | h
    · exact .inl ⟨t, h, q⟩
    · exact .inr ⟨t, h, q⟩
  · rintro (⟨t, h, q⟩ | ⟨t, h, q⟩)
    · exact ⟨t, List.mem_append.mpr (.inl h), q⟩
    · exact ⟨t, List.mem_append.mpr (.inr h), q⟩
theorem inn_one {s : Pr} {m : Int} : Inn [s] m ↔ s.1 ≤ m ∧ m < s.2 := by
  rw [inn_cons]
  exact ⟨fun h => h.elim id fun h => absurd h Inn.nil, .inl⟩
theorem inn_perm {a b : List Pr} (h : a.Perm b) (m : Int) : Inn a m ↔ Inn b m :=
  ⟨fun ⟨t, k, q⟩ => ⟨t, h.mem_iff.mp k, q⟩, fun ⟨t, k, q⟩ => ⟨t, h.mem_iff.mpr k, q⟩⟩
theorem Can.tail {s : Pr} {ss : List Pr} (h : Can (s :: ss)) : Can ss := ⟨fun t ht => h.1 t (List.mem_cons_of_mem _ ht), (List.pairwise_cons.mp h.2).2⟩
theorem Can.lt {s : Pr} {ss : List Pr} {m : Int} (h : Can (s :: ss)) (q : Inn ss m) : s.2 < m := by
  obtain ⟨t, ht, a, b⟩ := q
  have := (List.pairwise_cons.mp h.2).1 t ht
  omega
theorem can_uniq : ∀ {a b : List Pr}, Can a → Can b → (∀ m, Inn a m ↔ Inn b m) → a = b
  | [], [], _, _, _ => rfl
  | [], t :: q, _, hb, h => absurd ((h t.1).mpr (inn_cons.mpr (.inl ⟨Int.le_refl _, hb.1 t List.mem_cons_self⟩))) Inn.nil
  | s :: r, [], ha, _, h => absurd ((h s.1).mp (inn_cons.mpr (.inl ⟨Int.le_refl _, ha.1 s List.mem_cons_self⟩))) Inn.nil
  | s :: r, t :: q, ha, hb, h => by
    have s0 := ha.1 s List.mem_cons_self
    have t0 := hb.1 t List.mem_cons_self
    have e1 : s.1 = t.1 := by
      have k1 := (h s.1).mp (inn_cons.mpr (.inl ⟨Int.le_refl _, s0⟩))
      have k2 := (h t.1).mpr (inn_cons.mpr (.inl ⟨Int.le_refl _, t0⟩))
      rcases inn_cons.mp k1 with k1 | k1 <;> rcases inn_cons.mp k2 with k2 | k2
      · omega
      · have := ha.lt k2; omega
      · have := hb.lt k1; omega
      · have := ha.lt k2; have := hb.lt k1; omega
    have e2 : s.2 = t.2 := by
      rcases Int.lt_trichotomy s.2 t.2 with k | k | k
      · have k1 := (h s.2).mpr (inn_cons.mpr (.inl ⟨by omega, k⟩))
        rcases inn_cons.mp k1 with k1 | k1
        · omega
        · have := ha.lt k1; omega
      · exact k
      · have k1 := (h t.2).mp (inn_cons.mpr (.inl ⟨by omega, k⟩))
        rcases inn_cons.mp k1 with k1 | k1
        · omega
        · have := hb.lt k1; omega
    have e : s = t := Prod.ext e1 e2
    subst e
    rw [can_uniq ha.tail hb.tail fun m => ?_]
    constructor
    · intro k
      have k1 := ha.lt k
      rcases inn_cons.mp ((h m).mp (inn_cons.mpr (.inr k))) with k2 | k2
      · omega
      · exact k2
    · intro k
      have k1 := hb.lt k
      rcases inn_cons.mp ((h m).mpr (inn_cons.mpr (.inr k))) with k2 | k2
      · omega
      · exact k2
/-! ### putting pairs together, in order -/
def stepS (found : List Pr) (p : Pr) : List Pr := match found.getLast? with
  | some l => if p.1 ≤ l.2 then found.dropLast ++ [(l.1, if p.2 > l.2 then p.2 else l.2)] else if p.1 < p.2 then found ++ [p] else found
  | none => if p.1 < p.2 then found ++ [p] else found
theorem can_snoc {a : List Pr} {p : Pr} (h : Can a) (hp : p.1 < p.2) (hl : ∀ s ∈ a, s.2 < p.1) : Can (a ++ [p]) := by
  refine ⟨fun s hs => ?_, List.pairwise_append.mpr ⟨h.2, List.pairwise_singleton _ _, fun s hs t ht => ?_⟩⟩
  · rcases List.mem_append.mp hs with hs | hs
    · exact h.1 s hs
    · rw [List.mem_singleton.mp hs]; exact hp
  · rw [List.mem_singleton.mp ht]; exact hl s hs
theorem can_init {a : List Pr} {l : Pr} (h : Can (a ++ [l])) : Can a ∧ l.1 < l.2 ∧ ∀ s ∈ a, s.2 < l.1 := by
  obtain ⟨h1, h2⟩ := h
  obtain ⟨p1, _, p3⟩ := List.pairwise_append.mp h2
  exact ⟨⟨fun s hs => h1 s (List.mem_append.mpr (.inl hs)), p1⟩, h1 l (List.mem_append.mpr (.inr List.mem_cons_self)), fun s hs => p3 s hs l List.mem_cons_self⟩
theorem step_snoc (a : List Pr) (l p : Pr) : stepS (a ++ [l]) p = if p.1 ≤ l.2 then a ++ [(l.1, if p.2 > l.2 then p.2 else l.2)] else if p.1 < p.2 then a ++ [l] ++ [p] else a ++ [l] := by
  unfold stepS
  rw [List.getLast?_append]
  simp
theorem nil_or_snoc : ∀ (a : List Pr), a = [] ∨ ∃ b l, a = b ++ [l]
  | [] => .inl rfl
  | x :: a => by
    rcases nil_or_snoc a with rfl | ⟨b, l, rfl⟩
    · exact .inr ⟨[], x, rfl⟩
    · exact .inr ⟨x :: b, l, rfl⟩
theorem step_ok {found : List Pr} {p : Pr} (h : Can found) (hb : ∀ s ∈ found, s.1 ≤ p.1) : Can (stepS found p) ∧ (∀ s ∈ stepS found p, s.1 ≤ p.1) ∧ ∀ m, Inn (stepS found p) m ↔ Inn found m ∨ (p.1 ≤ m ∧ m < p.2) := by
  rcases nil_or_snoc found with rfl | ⟨a, l, rfl⟩
  · have e : stepS [] p = if p.1 < p.2 then [p] else [] := rfl
    rw [e]
    split
    · rename_i hp
      refine ⟨⟨fun s hs => by rw [List.mem_singleton.mp hs]; exact hp, List.pairwise_singleton _ _⟩, fun s hs => by rw [List.mem_singleton.mp hs]; exact Int.le_refl _, fun m => ?_⟩
      rw [inn_one]
      exact ⟨.inr, fun k => k.elim (fun k => absurd k Inn.nil) id⟩
    · rename_i hp
      refine ⟨h, hb, fun m => ⟨.inl, fun k => k.elim id fun k => by omega⟩⟩
  · obtain ⟨ha, hl, hal⟩ := can_init h
    have hlp : l.1 ≤ p.1 := hb l (List.mem_append.mpr (.inr List.mem_cons_self))
    have hap : ∀ s ∈ a, s.1 ≤ p.1 := fun s hs => hb s (List.mem_append.mpr (.inl hs))
    rw [step_snoc]
    split
    · rename_i hp
      refine ⟨can_snoc ha (by show l.1 < _; split <;> omega) hal, fun s hs => ?_, fun m => ?_⟩
      · rcases List.mem_append.mp hs with hs | hs
        · exact hap s hs
        · rw [List.mem_singleton.mp hs]; exact hlp
      · rw [inn_app, inn_app, inn_one, inn_one]
        have : (l.1 ≤ m ∧ m < (if p.2 > l.2 then p.2 else l.2)) ↔ ((l.1 ≤ m ∧ m < l.2) ∨ (p.1 ≤ m ∧ m < p.2)) := by
          split <;> omega
        show _ ∨ (l.1 ≤ m ∧ m < (if p.2 > l.2 then p.2 else l.2)) ↔ _
        rw [this, or_assoc]
    · rename_i hp
      split
      · rename_i hq
        refine ⟨can_snoc h hq fun s hs => ?_, fun s hs => ?_, fun m => ?_⟩
        · rcases List.mem_append.mp hs with hs | hs
          · have := hal s hs; omega
          · rw [List.mem_singleton.mp hs]; omega
        · rcases List.mem_append.mp hs with hs | hs
          · exact hb s hs
          · rw [List.mem_singleton.mp hs]; exact Int.le_refl _
        · rw [inn_app (b := [p]), inn_one]
      · rename_i hq
        exact ⟨h, hb, fun m => ⟨.inl, fun k => k.elim id fun k => by omega⟩⟩
def spansP (ps : List Pr) : List Pr := (sortP ps).foldl stepS []
theorem fold_ok : ∀ (qs found : List Pr), Can found → qs.Pairwise (fun a b => leP a b = true) → (∀ s ∈ found, ∀ q ∈ qs, s.1 ≤ q.1) → Can (qs.foldl stepS found) ∧ ∀ m, Inn (qs.foldl stepS found) m ↔ Inn found m ∨ Inn qs m
  | [], found, h, _, _ => ⟨h, fun m => ⟨.inl, fun k => k.elim id fun k => absurd k Inn.nil⟩⟩
  | q :: qs, found, h, hp, hb => by
    obtain ⟨p1, p2⟩ := List.pairwise_cons.mp hp
    obtain ⟨a1, a2, a3⟩ := step_ok h (fun s hs => hb s hs q List.mem_cons_self)
    obtain ⟨b1, b2⟩ := fold_ok qs (stepS found q) a1 p2 fun s hs t ht => by
      have := a2 s hs
      have := leP_iff.mp (p1 t ht)
      omega
    refine ⟨b1, fun m => ?_⟩
    show Inn (qs.foldl stepS (stepS found q)) m ↔ _
    rw [b2 m, a3 m, inn_cons, or_assoc]
theorem spansP_can (ps : List Pr) : Can (spansP ps) := (fold_ok (sortP ps) [] ⟨fun s hs => (by cases hs), List.Pairwise.nil⟩ (sortP_pw ps) fun s hs => by cases hs).1
theorem spansP_inn (ps : List Pr) (m : Int) : Inn (spansP ps) m ↔ Inn ps m := by
  rw [spansP, (fold_ok (sortP ps) [] ⟨fun s hs => (by cases hs), List.Pairwise.nil⟩ (sortP_pw ps) fun s hs => by cases hs).2 m]
  rw [inn_perm (sortP_perm ps) m]
  exact ⟨fun k => k.elim (fun k => absurd k Inn.nil) id, .inr⟩
theorem spansP_eq {ps ss : List Pr} (h : Can ss) (hm : ∀ m, Inn ps m ↔ Inn ss m) : spansP ps = ss := can_uniq (spansP_can ps) h fun m => (spansP_inn ps m).trans (hm m)
theorem step_len (found : List Pr) (p : Pr) : (stepS found p).length ≤ found.length + 1 := by
  rcases nil_or_snoc found with rfl | ⟨a, l, rfl⟩
  · have e : stepS [] p = if p.1 < p.2 then [p] else [] := rfl
    rw [e]; split <;> simp
  · rw [step_snoc]; split
    · simp
    · split <;> simp
/-! ### times a number, and so much later -/
def scaleP (t c : Int) (p : Pr) : Pr := (p.1 * t + c, p.2 * t + c)
theorem scale_can {t c : Int} (ht : 0 < t) {ss : List Pr} (h : Can ss) : Can (ss.map (scaleP t c)) := by
  refine ⟨fun s hs => ?_, List.pairwise_map.mpr (h.2.imp fun {x y} k => ?_)⟩
  · obtain ⟨u, hu, rfl⟩ := List.mem_map.mp hs
    have := h.1 u hu
    show u.1 * t + c < u.2 * t + c
    have := Int.mul_lt_mul_of_pos_right this ht
    omega
  · show x.2 * t + c < y.1 * t + c
    have := Int.mul_lt_mul_of_pos_right k ht
    omega
theorem scale_inn {t c : Int} (ht : 0 < t) (ss : List Pr) (m : Int) : Inn (ss.map (scaleP t c)) m ↔ Inn ss ((m - c) / t) := by
  constructor
  · rintro ⟨s, hs, a, b⟩
    obtain ⟨u, hu, rfl⟩ := List.mem_map.mp hs
    refine ⟨u, hu, ?_, ?_⟩
    · exact (Int.le_ediv_iff_mul_le ht).mpr (by have : u.1 * t + c ≤ m := a; omega)
    · exact (Int.ediv_lt_iff_lt_mul ht).mpr (by have : m < u.2 * t + c := b; omega)
  · rintro ⟨u, hu, a, b⟩
    refine ⟨_, List.mem_map.mpr ⟨u, hu, rfl⟩, ?_, ?_⟩
    · have := (Int.le_ediv_iff_mul_le ht).mp a
      show u.1 * t + c ≤ m
      omega
    · have := (Int.ediv_lt_iff_lt_mul ht).mp b
      show m < u.2 * t + c
      omega
end Pf

namespace Pf
open PySem PySem.Spec L2 Dd
/-! ### sets of spans put together -/
theorem can_nil : Can [] := ⟨fun s hs => (by cases hs), List.Pairwise.nil⟩
theorem can_cons {s : Pr} {ss : List Pr} (h : Can ss) (h1 : s.1 < s.2) (h2 : ∀ t ∈ ss, s.2 < t.1) : Can (s :: ss) :=
  ⟨fun t ht => (List.mem_cons.mp ht).elim (fun e => by rw [e]; exact h1) (h.1 t), List.pairwise_cons.mpr ⟨h2, h.2⟩⟩
theorem Can.hd {s : Pr} {ss : List Pr} (h : Can (s :: ss)) : s.1 < s.2 := h.1 s List.mem_cons_self
theorem Can.gap {s : Pr} {ss : List Pr} (h : Can (s :: ss)) : ∀ t ∈ ss, s.2 < t.1 := (List.pairwise_cons.mp h.2).1
def mxI (x y : Int) : Int := if y > x then y else x
def mnI (x y : Int) : Int := if y < x then y else x
theorem mxI_p (x y : Int) : x ≤ mxI x y ∧ y ≤ mxI x y ∧ (mxI x y = x ∨ mxI x y = y) := by unfold mxI; split <;> omega
theorem mnI_p (x y : Int) : mnI x y ≤ x ∧ mnI x y ≤ y ∧ (mnI x y = x ∨ mnI x y = y) := by unfold mnI; split <;> omega
def bothP : List Pr → List Pr → List Pr
  | a :: as, b :: bs => (if (mxI a.1 b.1) < (mnI a.2 b.2) then [((mxI a.1 b.1), (mnI a.2 b.2))] else []) ++ if a.2 < b.2 then bothP as (b :: bs) else bothP (a :: as) bs
  | _, _ => []
termination_by a b => a.length + b.length
theorem both_nil (b : List Pr) : bothP [] b = [] := by unfold bothP; rfl
theorem both_nil2 (a : List Pr) : bothP a [] = [] := by cases a <;> (unfold bothP; rfl)
theorem both_low (x : Int) : ∀ (n : Nat) (a b : List Pr), a.length + b.length ≤ n → Can a → Can b → ((∀ t ∈ a, x < t.1) ∨ (∀ t ∈ b, x < t.1)) → ∀ s ∈ bothP a b, x < s.1
  | n, [], b, _, _, _, _, s, hs => by rw [both_nil] at hs; cases hs
  | n, a :: as, [], _, _, _, _, s, hs => by rw [both_nil2] at hs; cases hs
  | 0, a :: as, b :: bs, hn, _, _, _, _, _ => by simp at hn
  | n + 1, a :: as, b :: bs, hn, ha, hb, hx, s, hs => by
    simp only [List.length_cons] at hn
    unfold bothP at hs
    rcases List.mem_append.mp hs with hs | hs
    · split at hs
      · rw [List.mem_singleton.mp hs]
        show x < (mxI a.1 b.1)
        have A := mxI_p a.1 b.1
        rcases hx with hx | hx
        · have := hx a List.mem_cons_self
          omega
        · have := hx b List.mem_cons_self
          omega
      · cases hs
    · split at hs
      · refine both_low x n as (b :: bs) (by simp only [List.length_cons]; omega) ha.tail hb ?_ s hs
        exact hx.imp (fun h t ht => h t (List.mem_cons_of_mem _ ht)) id
      · refine both_low x n (a :: as) bs (by simp only [List.length_cons]; omega) ha hb.tail ?_ s hs
        exact hx.imp id (fun h t ht => h t (List.mem_cons_of_mem _ ht))
theorem both_ok : ∀ (n : Nat) (a b : List Pr), a.length + b.length ≤ n → Can a → Can b → Can (bothP a b) ∧ ∀ m, Inn (bothP a b) m ↔ Inn a m ∧ Inn b m
  | n, [], b, _, _, _ => by
    rw [both_nil]
    exact ⟨can_nil, fun m => ⟨fun k => absurd k Inn.nil, fun k => k.1⟩⟩
  | n, a :: as, [], _, _, _ => by
    rw [both_nil2]
    exact ⟨can_nil, fun m => ⟨fun k => absurd k Inn.nil, fun k => k.2⟩⟩
  | 0, a :: as, b :: bs, hn, _, _ => by simp at hn
  | n + 1, a :: as, b :: bs, hn, ha, hb => by
    simp only [List.length_cons] at hn
    have ga := ha.gap
    have gb := hb.gap
    have a0 := ha.hd
    have b0 := hb.hd
    unfold bothP
    by_cases q : a.2 < b.2
    · rw [if_pos q]
      obtain ⟨r1, r2⟩ := both_ok n as (b :: bs) (by simp only [List.length_cons]; omega) ha.tail hb
      have low := both_low a.2 n as (b :: bs) (by simp only [List.length_cons]; omega) ha.tail hb (.inl ga)
      have A := mxI_p a.1 b.1
      have hmin : (mnI a.2 b.2) = a.2 := by have := mnI_p a.2 b.2; omega
      rw [hmin]
      have key : ∀ m, (Inn (a :: as) m ∧ Inn (b :: bs) m) ↔ (((mxI a.1 b.1) ≤ m ∧ m < a.2) ∨ (Inn as m ∧ Inn (b :: bs) m)) := fun m => by
        constructor
        · rintro ⟨h1, h2⟩
          rcases inn_cons.mp h1 with h1 | h1
          · rcases inn_cons.mp h2 with h2 | h2
            · exact .inl ⟨by omega, h1.2⟩
            · have := hb.lt h2; omega
          · exact .inr ⟨h1, h2⟩
        · rintro (⟨h1, h2⟩ | ⟨h1, h2⟩)
          · have : a.1 ≤ m ∧ b.1 ≤ m := by omega
            exact ⟨inn_cons.mpr (.inl ⟨this.1, h2⟩), inn_cons.mpr (.inl ⟨this.2, by omega⟩)⟩
          · exact ⟨inn_cons.mpr (.inr h1), h2⟩
      split
      · rename_i h
        refine ⟨can_cons r1 h low, fun m => ?_⟩
        rw [key m, ← r2 m]
        exact inn_cons
      · rename_i h
        refine ⟨r1, fun m => ?_⟩
        rw [key m, ← r2 m]
        exact ⟨.inr, fun k => k.elim (fun k => by omega) id⟩
    · rw [if_neg q]
      obtain ⟨r1, r2⟩ := both_ok n (a :: as) bs (by simp only [List.length_cons]; omega) ha hb.tail
      have low := both_low b.2 n (a :: as) bs (by simp only [List.length_cons]; omega) ha hb.tail (.inr gb)
      have A := mxI_p a.1 b.1
      have hmin : (mnI a.2 b.2) = b.2 := by have := mnI_p a.2 b.2; omega
      rw [hmin]
      have key : ∀ m, (Inn (a :: as) m ∧ Inn (b :: bs) m) ↔ (((mxI a.1 b.1) ≤ m ∧ m < b.2) ∨ (Inn (a :: as) m ∧ Inn bs m)) := fun m => by
        constructor
        · rintro ⟨h1, h2⟩
          rcases inn_cons.mp h2 with h2 | h2
          · rcases inn_cons.mp h1 with h1 | h1
            · exact .inl ⟨by omega, h2.2⟩
            · have := ha.lt h1; omega
          · exact .inr ⟨h1, h2⟩
        · rintro (⟨h1, h2⟩ | ⟨h1, h2⟩)
          · have : a.1 ≤ m ∧ b.1 ≤ m := by omega
            exact ⟨inn_cons.mpr (.inl ⟨this.1, by omega⟩), inn_cons.mpr (.inl ⟨this.2, h2⟩)⟩
          · exact ⟨h1, inn_cons.mpr (.inr h2)⟩
      split
      · rename_i h
        refine ⟨can_cons r1 h low, fun m => ?_⟩
        rw [key m, ← r2 m]
        exact inn_cons
      · rename_i h
        refine ⟨r1, fun m => ?_⟩
        rw [key m, ← r2 m]
        exact ⟨.inr, fun k => k.elim (fun k => by omega) id⟩
theorem both_can {a b : List Pr} (ha : Can a) (hb : Can b) : Can (bothP a b) := (both_ok _ a b (Nat.le_refl _) ha hb).1
theorem both_inn {a b : List Pr} (ha : Can a) (hb : Can b) (m : Int) : Inn (bothP a b) m ↔ Inn a m ∧ Inn b m := (both_ok _ a b (Nat.le_refl _) ha hb).2 m
/-- what is not in them, from at on, below a number -/
def othersP (below : Int) : Int → List Pr → List Pr
  | at', [] => if at' < below then [(at', below)] else []
  | at', s :: ss => (if at' < (mnI s.1 below) then [(at', mnI s.1 below)] else []) ++ othersP below s.2 ss
theorem others_ok (below : Int) : ∀ (ss : List Pr) (at' : Int), Can ss → (∀ s ∈ ss, at' ≤ s.1) → Can (othersP below at' ss) ∧ (∀ t ∈ othersP below at' ss, at' ≤ t.1) ∧ ∀ m, Inn (othersP below at' ss) m ↔ at' ≤ m ∧ m < below ∧ ¬ Inn ss m
  | [], at', _, _ => by
    unfold othersP
    split
    · rename_i h
      refine ⟨can_cons can_nil h (fun t ht => (by cases ht)), fun t ht => by rw [List.mem_singleton.mp ht]; exact Int.le_refl _, fun m => ?_⟩
      rw [inn_one]
      exact ⟨fun k => ⟨k.1, k.2, Inn.nil⟩, fun k => ⟨k.1, k.2.1⟩⟩
    · rename_i h
      exact ⟨can_nil, fun t ht => (by cases ht), fun m => ⟨fun k => absurd k Inn.nil, fun k => by omega⟩⟩
  | s :: ss, at', hc, hl => by
    have s0 := hc.hd
    have g := hc.gap
    have l := hl s List.mem_cons_self
    have A := mnI_p s.1 below
    obtain ⟨r1, r2, r3⟩ := others_ok below ss s.2 hc.tail fun t ht => by have := g t ht; omega
    unfold othersP
    have key : ∀ m, (at' ≤ m ∧ m < below ∧ ¬ Inn (s :: ss) m) ↔ ((at' ≤ m ∧ m < (mnI s.1 below)) ∨ (s.2 ≤ m ∧ m < below ∧ ¬ Inn ss m)) := fun m => by
      rw [inn_cons]
      constructor
      · rintro ⟨h1, h2, h3⟩
        by_cases q : m < s.1
        · exact .inl ⟨h1, by omega⟩
        · exact .inr ⟨by by_cases z : s.2 ≤ m; exact z; exact absurd (.inl ⟨by omega, by omega⟩) h3, h2, fun k => h3 (.inr k)⟩
      · rintro (⟨h1, h2⟩ | ⟨h1, h2, h3⟩)
        · have : m < below ∧ m < s.1 := by omega
          exact ⟨h1, this.1, fun k => k.elim (fun k => by omega) fun k => by have := hc.lt k; omega⟩
        · exact ⟨by omega, h2, fun k => k.elim (fun k => by omega) h3⟩
    split
    · rename_i h
      refine ⟨can_cons r1 h fun t ht => ?_, fun t ht => ?_, fun m => ?_⟩
      · have := r2 t ht
        show (mnI s.1 below) < t.1
        omega
      · rcases List.mem_cons.mp ht with rfl | ht
        · exact Int.le_refl _
        · have := r2 t ht; omega
      · rw [key m, ← r3 m]
        exact inn_cons
    · rename_i h
      refine ⟨r1, fun t ht => ?_, fun m => ?_⟩
      · have := r2 t ht
        show at' ≤ t.1
        omega
      · rw [key m, ← r3 m]
        exact ⟨.inr, fun k => k.elim (fun k => by omega) id⟩
def laterP (n : Int) (ss : List Pr) : List Pr := ss.map fun s => (s.1 + n, s.2 + n)
theorem later_can {n : Int} {ss : List Pr} (h : Can ss) : Can (laterP n ss) := by
  refine ⟨fun s hs => ?_, List.pairwise_map.mpr (h.2.imp fun {x y} k => ?_)⟩
  · obtain ⟨u, hu, rfl⟩ := List.mem_map.mp hs
    have := h.1 u hu
    show u.1 + n < u.2 + n
    omega
  · show x.2 + n < y.1 + n
    omega
theorem later_inn (n : Int) (ss : List Pr) (m : Int) : Inn (laterP n ss) m ↔ Inn ss (m - n) := by
  constructor
  · rintro ⟨s, hs, a, b⟩
    obtain ⟨u, hu, rfl⟩ := List.mem_map.mp hs
    exact ⟨u, hu, by have : u.1 + n ≤ m := a; omega, by have : m < u.2 + n := b; omega⟩
  · rintro ⟨u, hu, a, b⟩
    exact ⟨_, List.mem_map.mpr ⟨u, hu, rfl⟩, by show u.1 + n ≤ m; omega, by show m < u.2 + n; omega⟩
def grownP (n : Int) (ss : List Pr) : List Pr := spansP (ss.map fun s => (s.1, s.2 + n))
theorem grown_inn {n : Int} (hn : 0 ≤ n) {ss : List Pr} (h : Can ss) (m : Int) : Inn (grownP n ss) m ↔ ∃ k, 0 ≤ k ∧ k ≤ n ∧ Inn ss (m - k) := by
  unfold grownP
  rw [spansP_inn]
  constructor
  · rintro ⟨s, hs, a, b⟩
    obtain ⟨u, hu, rfl⟩ := List.mem_map.mp hs
    have u0 := h.1 u hu
    have a : u.1 ≤ m := a
    have b : m < u.2 + n := b
    by_cases q : m < u.2
    · exact ⟨0, by omega, by omega, u, hu, by omega, by omega⟩
    · exact ⟨m - (u.2 - 1), by omega, by omega, u, hu, by omega, by omega⟩
  · rintro ⟨k, k0, k1, u, hu, a, b⟩
    exact ⟨_, List.mem_map.mpr ⟨u, hu, rfl⟩, by show u.1 ≤ m; omega, by show m < u.2 + n; omega⟩
def wornP (n : Int) (ss : List Pr) : List Pr := (ss.filter fun s => decide (s.1 + n < s.2)).map fun s => (s.1 + n, s.2)
theorem worn_can {n : Int} (hn : 0 ≤ n) {ss : List Pr} (h : Can ss) : Can (wornP n ss) := by
  refine ⟨fun s hs => ?_, List.pairwise_map.mpr ((h.2.filter _).imp fun {x y} k => ?_)⟩
  · obtain ⟨u, hu, rfl⟩ := List.mem_map.mp hs
    exact of_decide_eq_true (List.mem_filter.mp hu).2
  · show x.2 < y.1 + n
    omega
theorem can_out {ss : List Pr} (h : Can ss) {s : Pr} (hs : s ∈ ss) : ¬ Inn ss s.2 := by
  induction ss with
  | nil => cases hs
  | cons t r ih =>
    intro k
    rcases List.mem_cons.mp hs with rfl | hs
    · rcases inn_cons.mp k with k | k
      · omega
      · have := h.lt k; omega
    · rcases inn_cons.mp k with k | k
      · have := h.gap s hs
        have := h.1 s (List.mem_cons_of_mem _ hs)
        omega
      · exact ih h.tail hs k
theorem worn_inn {n : Int} (hn : 0 ≤ n) {ss : List Pr} (h : Can ss) (m : Int) : Inn (wornP n ss) m ↔ ∀ k, 0 ≤ k → k ≤ n → Inn ss (m - k) := by
  constructor
  · rintro ⟨s, hs, a, b⟩ k k0 k1
    obtain ⟨u, hu, rfl⟩ := List.mem_map.mp hs
    exact ⟨u, (List.mem_filter.mp hu).1, by have : u.1 + n ≤ m := a; omega, by have : m < u.2 := b; omega⟩
  · intro hk
    obtain ⟨u, hu, a, b⟩ := hk n hn (Int.le_refl _)
    have : m < u.2 := by
      by_cases q : m < u.2
      · exact q
      · have k := hk (m - u.2) (by omega) (by omega)
        have e : m - (m - u.2) = u.2 := by omega
        rw [e] at k
        exact absurd k (can_out h hu)
    exact ⟨_, List.mem_map.mpr ⟨u, List.mem_filter.mpr ⟨hu, decide_eq_true (by omega)⟩, rfl⟩, by show u.1 + n ≤ m; omega, this⟩
end Pf

namespace Pf
open PySem PySem.Spec L2 Dd
/-! ### how many moments -/
def lenQ (ss : List Pr) : Int := (ss.map fun s => s.2 - s.1).sum
/-- how many of the n moments from lo on -/
def cnQ (p : Int → Bool) (lo : Int) : Nat → Int
  | 0 => 0
  | n + 1 => (if p lo = true then 1 else 0) + cnQ p (lo + 1) n
theorem cnQ_add (p : Int → Bool) : ∀ (a b : Nat) (lo : Int), cnQ p lo (a + b) = cnQ p lo a + cnQ p (lo + a) b
  | 0, b, lo => by rw [Nat.zero_add]; simp [cnQ]
  | a + 1, b, lo => by
    have e : a + 1 + b = (a + b) + 1 := by omega
    have e2 : lo + ((a + 1 : Nat) : Int) = lo + 1 + (a : Nat) := by omega
    rw [e, e2]
    show _ + cnQ p (lo + 1) (a + b) = (_ + cnQ p (lo + 1) a) + _
    rw [cnQ_add p a b (lo + 1)]
    omega
theorem cnQ_all (p : Int → Bool) (v : Bool) : ∀ (n : Nat) (lo : Int), (∀ m, lo ≤ m → m < lo + n → p m = v) → cnQ p lo n = if v = true then (n : Int) else 0
  | 0, lo, _ => by cases v <;> simp [cnQ]
  | n + 1, lo, h => by
    have ih := cnQ_all p v n (lo + 1) fun m a b => h m (by omega) (by omega)
    show (if p lo = true then 1 else 0) + cnQ p (lo + 1) n = _
    rw [ih, h lo (Int.le_refl _) (by omega)]
    cases v
    · simp
    · simp; omega
theorem cnQ_congr {p q : Int → Bool} : ∀ (n : Nat) (lo : Int), (∀ m, lo ≤ m → m < lo + n → p m = q m) → cnQ p lo n = cnQ q lo n
  | 0, lo, _ => rfl
  | n + 1, lo, h => by
    show (if p lo = true then 1 else 0) + cnQ p (lo + 1) n = (if q lo = true then 1 else 0) + cnQ q (lo + 1) n
    rw [cnQ_congr n (lo + 1) fun m a b => h m (by omega) (by omega), h lo (Int.le_refl _) (by omega)]
theorem cnQ_both (p q : Int → Bool) : ∀ (n : Nat) (lo : Int), cnQ (fun m => p m && q m) lo n + cnQ (fun m => p m || q m) lo n = cnQ p lo n + cnQ q lo n
  | 0, lo => rfl
  | n + 1, lo => by
    have ih := cnQ_both p q n (lo + 1)
    show ((if (p lo && q lo) = true then 1 else 0) + _) + ((if (p lo || q lo) = true then 1 else 0) + _) = ((if p lo = true then 1 else 0) + _) + ((if q lo = true then 1 else 0) + _)
    cases p lo <;> cases q lo <;> simp <;> omega
def inB (ss : List Pr) (m : Int) : Bool := ss.any fun s => decide (s.1 ≤ m) && decide (m < s.2)
theorem inB_iff (ss : List Pr) (m : Int) : inB ss m = true ↔ Inn ss m := by
  unfold inB Inn
  rw [List.any_eq_true]
  simp
theorem len_cn : ∀ (ss : List Pr) (lo : Int) (n : Nat), Can ss → (∀ s ∈ ss, lo ≤ s.1 ∧ s.2 ≤ lo + n) → lenQ ss = cnQ (inB ss) lo n
  | [], lo, n, _, _ => by
    rw [cnQ_all (inB []) false n lo fun m _ _ => rfl]; rfl
  | s :: ss, lo, n, hc, hb => by
    obtain ⟨b1, b2⟩ := hb s List.mem_cons_self
    have s0 := hc.hd
    have g := hc.gap
    obtain ⟨a, ha⟩ : ∃ a : Nat, (a : Int) = s.1 - lo := ⟨(s.1 - lo).toNat, Int.toNat_of_nonneg (by omega)⟩
    obtain ⟨b, hbb⟩ : ∃ b : Nat, (b : Int) = s.2 - s.1 := ⟨(s.2 - s.1).toNat, Int.toNat_of_nonneg (by omega)⟩
    obtain ⟨c, hcc⟩ : ∃ c : Nat, (c : Int) = lo + n - s.2 := ⟨(lo + n - s.2).toNat, Int.toNat_of_nonneg (by omega)⟩
    have e : n = a + (b + c) := by omega
    rw [e, cnQ_add, cnQ_add]
    have ih := len_cn ss s.2 c hc.tail fun t ht => ⟨by have := g t ht; omega, by have := (hb t (List.mem_cons_of_mem _ ht)).2; omega⟩
    have c1 : cnQ (inB (s :: ss)) lo a = 0 := by
      rw [cnQ_all (inB (s :: ss)) false a lo fun m m0 m1 => Bool.eq_false_iff.mpr fun k => ?_]; rfl
      rcases inn_cons.mp ((inB_iff _ _).mp k) with k | k
      · omega
      · have := hc.lt k; omega
    have c2 : cnQ (inB (s :: ss)) (lo + a) b = b := by
      rw [cnQ_all (inB (s :: ss)) true b (lo + a) fun m m0 m1 => (inB_iff _ _).mpr (inn_cons.mpr (.inl ⟨by omega, by omega⟩))]; rfl
    have c3 : cnQ (inB (s :: ss)) (lo + a + b) c = cnQ (inB ss) s.2 c := by
      have e3 : lo + (a : Int) + (b : Int) = s.2 := by omega
      rw [e3]
      refine cnQ_congr c s.2 fun m m0 m1 => ?_
      rw [Bool.eq_iff_iff, inB_iff, inB_iff, inn_cons]
      exact ⟨fun k => k.elim (fun k => by omega) id, .inr⟩
    rw [c1, c2, c3, ← ih]
    show (s.2 - s.1) + lenQ ss = _
    omega
/-- those in both and those in either are as many as in each -/
theorem len_both {a b : List Pr} {N : Nat} (ha : Can a) (hb : Can b) (ga : ∀ s ∈ a, 0 ≤ s.1 ∧ s.2 ≤ (N : Int)) (gb : ∀ s ∈ b, 0 ≤ s.1 ∧ s.2 ≤ (N : Int)) : lenQ (bothP a b) + lenQ (spansP (a ++ b)) = lenQ a + lenQ b := by
  have bd : ∀ {ss : List Pr}, Can ss → (∀ m, Inn ss m → 0 ≤ m ∧ m < N) → ∀ s ∈ ss, (0 : Int) ≤ s.1 ∧ s.2 ≤ 0 + N := fun {ss} hc h s hs => by
    have s0 := hc.1 s hs
    have k1 := h s.1 ⟨s, hs, Int.le_refl _, s0⟩
    have k2 := h (s.2 - 1) ⟨s, hs, by omega, by omega⟩
    omega
  have ia : ∀ m, Inn a m → 0 ≤ m ∧ m < N := fun m ⟨s, hs, x, y⟩ => by have := ga s hs; omega
  have ib : ∀ m, Inn b m → 0 ≤ m ∧ m < N := fun m ⟨s, hs, x, y⟩ => by have := gb s hs; omega
  have h1 := len_cn (bothP a b) 0 N (both_can ha hb) (bd (both_can ha hb) fun m k => ia m ((both_inn ha hb m).mp k).1)
  have h2 := len_cn (spansP (a ++ b)) 0 N (spansP_can _) (bd (spansP_can _) fun m k => (inn_app.mp ((spansP_inn _ m).mp k)).elim (ia m) (ib m))
  have h3 := len_cn a 0 N ha (bd ha ia)
  have h4 := len_cn b 0 N hb (bd hb ib)
  rw [h1, h2, h3, h4, ← cnQ_both (inB a) (inB b) N 0]
  congr 1
  · refine cnQ_congr N 0 fun m _ _ => ?_
    rw [Bool.eq_iff_iff, inB_iff, both_inn ha hb, Bool.and_eq_true, inB_iff, inB_iff]
  · refine cnQ_congr N 0 fun m _ _ => ?_
    rw [Bool.eq_iff_iff, inB_iff, spansP_inn, inn_app, Bool.or_eq_true, inB_iff, inB_iff]
end Pf

namespace Pf
open PySem PySem.Spec L2 Dd
/-! ### bytes and their bits, the highest first -/
def bits8 (x : Int) : List Int := [x / 128 % 2, x / 64 % 2, x / 32 % 2, x / 16 % 2, x / 8 % 2, x / 4 % 2, x / 2 % 2, x % 2]
def apB (p : Bool) (b : Int) : Int := if p = true then 1 - b else b
def bB (x : Int) : List Bool := (bits8 x).map fun b => decide (b = 1)
def By (x : Int) : Prop := 0 ≤ x ∧ x < 256
theorem by_nat {x : Int} (h : By x) : ∃ n : Nat, x = (n : Int) ∧ n < 256 := ⟨x.toNat, by have := h.1; omega, by have := h.1; have := h.2; omega⟩
theorem and_xor_or : ∀ (n a b : Nat), a + b ≤ n → (a &&& b) + (a ^^^ b) = a ||| b
  | 0, a, b, h => by
    have ha : a = 0 := by omega
    have hb : b = 0 := by omega
    subst ha hb; rfl
  | n + 1, a, b, h => by
    by_cases z : a = 0 ∧ b = 0
    · obtain ⟨rfl, rfl⟩ := z; rfl
    · have ih := and_xor_or n (a / 2) (b / 2) (by omega)
      have h1 := @Nat.and_div_two a b
      have h2 := @Nat.or_div_two a b
      have h3 := @Nat.xor_div_two a b
      have m1 := @Nat.and_mod_two_eq_one a b
      have m2 := @Nat.or_mod_two_eq_one a b
      have m3 := @Nat.xor_mod_two_eq_one a b
      rw [← h1, ← h2, ← h3] at ih
      omega
theorem xor_nat (a b : Nat) : Builtin.bitXor (a : Int) (b : Int) = ((a ^^^ b : Nat) : Int) := by
  have e1 : ∀ n : Nat, Builtin.bitNot (n : Int) = -(n : Int) - 1 := fun n => by simp [Builtin.bitNot]; try omega
  have e3 : Builtin.bitOr (a : Int) (b : Int) = ((a ||| b : Nat) : Int) := by
    unfold Builtin.bitOr Builtin.bitAnd
    have n1 : decide (0 ≤ Builtin.bitNot (a : Int)) = false := by rw [e1]; exact decide_eq_false (by omega)
    have n2 : decide (0 ≤ Builtin.bitNot (b : Int)) = false := by rw [e1]; exact decide_eq_false (by omega)
    rw [n1, n2]
    have f : ∀ x : Int, Builtin.bitNot (Builtin.bitNot x) = x := fun x => by simp [Builtin.bitNot]; try omega
    rw [f, f, f]
    simp
  unfold Builtin.bitXor
  rw [e3, PySem.W.os_band]
  have := and_xor_or _ a b (Nat.le_refl _)
  omega
theorem xor_at (a b i : Nat) : (a ^^^ b) / 2 ^ i % 2 = if a / 2 ^ i % 2 = 1 then 1 - b / 2 ^ i % 2 else b / 2 ^ i % 2 := by
  have h := Nat.testBit_xor a b i
  rw [Nat.testBit_eq_decide_div_mod_eq, Nat.testBit_eq_decide_div_mod_eq, Nat.testBit_eq_decide_div_mod_eq] at h
  have h1 : ∀ n : Nat, n % 2 = 0 ∨ n % 2 = 1 := fun n => by omega
  rcases h1 ((a ^^^ b) / 2 ^ i) with p | p <;> rcases h1 (a / 2 ^ i) with q | q <;> rcases h1 (b / 2 ^ i) with r | r <;> rw [p, q, r] at h <;> simp at h <;> rw [p, q, r] <;> rfl
theorem xor_by {x y : Int} (hx : By x) (hy : By y) : By (Builtin.bitXor x y) ∧ bits8 (Builtin.bitXor x y) = List.zipWith apB (bB x) (bits8 y) := by
  obtain ⟨a, rfl, ha⟩ := by_nat hx
  obtain ⟨b, rfl, hb⟩ := by_nat hy
  rw [xor_nat]
  have lt : a ^^^ b < 256 := @Nat.xor_lt_two_pow a b 8 ha hb
  refine ⟨⟨by omega, by omega⟩, ?_⟩
  have key : ∀ i : Nat, (((a ^^^ b : Nat) : Int) / ((2 ^ i : Nat) : Int) % 2) = apB (decide ((a : Int) / ((2 ^ i : Nat) : Int) % 2 = 1)) ((b : Int) / ((2 ^ i : Nat) : Int) % 2) := fun i => by
    have h := xor_at a b i
    have c1 : ((a : Int) / ((2 ^ i : Nat) : Int) % 2) = ((a / 2 ^ i % 2 : Nat) : Int) := by push_cast; rfl
    have c2 : ((b : Int) / ((2 ^ i : Nat) : Int) % 2) = ((b / 2 ^ i % 2 : Nat) : Int) := by push_cast; rfl
    have c3 : (((a ^^^ b : Nat) : Int) / ((2 ^ i : Nat) : Int) % 2) = (((a ^^^ b) / 2 ^ i % 2 : Nat) : Int) := by push_cast; rfl
    rw [c1, c2, c3, h]
    have hB : b / 2 ^ i % 2 ≤ 1 := by omega
    have hA : a / 2 ^ i % 2 = 0 ∨ a / 2 ^ i % 2 = 1 := by omega
    generalize a / 2 ^ i % 2 = A at *
    generalize b / 2 ^ i % 2 = B at *
    unfold apB
    rcases hA with rfl | rfl
    · rfl
    · rw [if_pos rfl, if_pos (by rfl)]
      omega
  have k7 := key 7; have k6 := key 6; have k5 := key 5; have k4 := key 4; have k3 := key 3; have k2 := key 2; have k1 := key 1; have k0 := key 0
  simp only [show ((2 ^ 7 : Nat) : Int) = 128 from rfl, show ((2 ^ 6 : Nat) : Int) = 64 from rfl, show ((2 ^ 5 : Nat) : Int) = 32 from rfl, show ((2 ^ 4 : Nat) : Int) = 16 from rfl, show ((2 ^ 3 : Nat) : Int) = 8 from rfl, show ((2 ^ 2 : Nat) : Int) = 4 from rfl, show ((2 ^ 1 : Nat) : Int) = 2 from rfl, show ((2 ^ 0 : Nat) : Int) = 1 from rfl, Int.ediv_one] at k7 k6 k5 k4 k3 k2 k1 k0
  simp only [bits8, bB, List.map_cons, List.map_nil, List.zipWith_cons_cons, List.zipWith_nil_right, k7, k6, k5, k4, k3, k2, k1, k0]
theorem bits_val {x : Int} (h : By x) : ((List.zipWith (· * ·) (bits8 x) [128, 64, 32, 16, 8, 4, 2, 1]).sum) = x := by
  obtain ⟨h0, h1⟩ := h
  simp [bits8]
  omega
theorem bits_len (x : Int) : (bits8 x).length = 8 := rfl
theorem bits_01 (x : Int) : ∀ b ∈ bits8 x, b = 0 ∨ b = 1 := fun b hb => by
  simp only [bits8, List.mem_cons, List.not_mem_nil, or_false] at hb
  rcases hb with rfl | rfl | rfl | rfl | rfl | rfl | rfl | rfl <;> omega
/-! the rest: eight doublings -/
def rs1 (x : Int) : Int := if 256 ≤ x * 2 then Builtin.bitXor (x * 2 - 256) 7 else x * 2
def rsN : Nat → Int → Int
  | 0, x => x
  | n + 1, x => rsN n (rs1 x)
/-! the division, on which places are turned -/
def pst (P : List Bool) (k : Nat) : List Bool := if P.getD k false = true then (((P.set k (!P.getD k false)).set (k + 6) (!P.getD (k + 6) false)).set (k + 7) (!P.getD (k + 7) false)).set (k + 8) (!P.getD (k + 8) false) else P
def runP (a : List Bool) : List Bool := (List.range 8).foldl pst (a ++ List.replicate 8 false)
def okR (x : Int) : Bool := decide (0 ≤ rsN 8 x) && decide (rsN 8 x < 256) && decide (runP (bB x) = List.replicate 8 false ++ bB (rsN 8 x))
theorem okR_all : ∀ x : Fin 256, okR (x.val : Int) = true := by decide +kernel
theorem rest_by {x : Int} (hx : By x) : By (rsN 8 x) ∧ runP (bB x) = List.replicate 8 false ++ bB (rsN 8 x) := by
  obtain ⟨n, rfl, hn⟩ := by_nat hx
  have := okR_all ⟨n, hn⟩
  simp only [okR, Bool.and_eq_true, decide_eq_true_eq] at this
  exact ⟨⟨this.1.1, this.1.2⟩, this.2⟩
theorem rs1_by {x : Int} (hx : By x) : By (rs1 x) := by
  unfold rs1
  split
  · exact (xor_by ⟨by have := hx.1; have := hx.2; omega, by have := hx.2; omega⟩ ⟨by omega, by omega⟩).1
  · exact ⟨by have := hx.1; omega, by omega⟩
end Pf


namespace Pf
open PySem PySem.Spec L2 Dd
def flt (ns : List Int) : List Int := ns.flatMap bits8
theorem flt_cons (x : Int) (ns : List Int) : flt (x :: ns) = bits8 x ++ flt ns := rfl
theorem flt_app (a b : List Int) : flt (a ++ b) = flt a ++ flt b := by unfold flt; rw [List.flatMap_append]
theorem flt_len : ∀ ns : List Int, (flt ns).length = 8 * ns.length
  | [] => rfl
  | x :: ns => by rw [flt_cons, List.length_append, flt_len ns, bits_len, List.length_cons]; omega
/-! the division on the list itself -/
def fl (L : List Int) (i : Nat) : List Int := L.set i (1 - L.getD i 0)
def stp (L : List Int) (k : Nat) : List Int := if L.getD k 0 = 1 then fl (fl (fl (fl L k) (k + 6)) (k + 7)) (k + 8) else L
theorem fl_len (L : List Int) (i : Nat) : (fl L i).length = L.length := by unfold fl; rw [List.length_set]
theorem stp_len (L : List Int) (k : Nat) : (stp L k).length = L.length := by
  unfold stp
  split
  · rw [fl_len, fl_len, fl_len, fl_len]
  · rfl
def ovl (P : List Bool) (B : List Int) : List Int := List.zipWith apB P B
theorem ovl_get {P : List Bool} {B : List Int} {i : Nat} (hp : i < P.length) (hb : i < B.length) : (ovl P B).getD i 0 = apB (P.getD i false) (B.getD i 0) := by
  unfold ovl
  simp [List.getD_eq_getElem?_getD, List.getElem?_zipWith, hp, hb]
theorem ovl_fl : ∀ {P : List Bool} {B : List Int} {i : Nat}, i < P.length → i < B.length → fl (ovl P B) i = ovl (P.set i (!P.getD i false)) B
  | [], _, i, h, _ => by simp at h
  | _ :: _, [], i, _, h => by simp at h
  | p :: P, b :: B, 0, _, _ => by
    show (1 - apB p b) :: ovl P B = apB (!p) b :: ovl P B
    congr 1
    cases p
    · rfl
    · show 1 - (1 - b) = b
      omega
  | p :: P, b :: B, i + 1, hp, hb => by
    have ih := ovl_fl (P := P) (B := B) (i := i) (by simpa using hp) (by simpa using hb)
    show apB p b :: fl (ovl P B) i = apB p b :: ovl (P.set i (!P.getD i false)) B
    rw [ih]
theorem getD_ne {P : List Bool} {i j : Nat} {v : Bool} (h : i ≠ j) : (P.set i v).getD j false = P.getD j false := by
  simp [List.getD_eq_getElem?_getD, List.getElem?_set_ne h]
theorem ovl_stp {P : List Bool} {B : List Int} {k : Nat} (h0 : B.getD k 0 = 0) (hp : k + 8 < P.length) (hb : k + 8 < B.length) : stp (ovl P B) k = ovl (pst P k) B := by
  unfold stp pst
  rw [ovl_get (by omega) (by omega), h0]
  cases q : P.getD k false with
  | false => rw [if_neg (by show ¬ ((0 : Int) = 1); decide), if_neg (by decide)]
  | true =>
    rw [if_pos (by rfl), if_pos rfl, ovl_fl (by omega) (by omega), ovl_fl (by rw [List.length_set]; omega) (by omega), ovl_fl (by rw [List.length_set, List.length_set]; omega) (by omega), ovl_fl (by rw [List.length_set, List.length_set, List.length_set]; omega) (by omega)]
    rw [q, getD_ne (by omega), getD_ne (by omega), getD_ne (by omega), getD_ne (by omega), getD_ne (by omega), getD_ne (by omega)]
theorem pst_len (P : List Bool) (k : Nat) : (pst P k).length = P.length := by
  unfold pst
  split
  · simp
  · rfl
theorem ovl_run {B : List Int} (h0 : ∀ k, k < 8 → B.getD k 0 = 0) (hb : 16 ≤ B.length) : ∀ (ks : List Nat) (P : List Bool), (∀ k ∈ ks, k < 8) → 16 ≤ P.length → ks.foldl stp (ovl P B) = ovl (ks.foldl pst P) B
  | [], _, _, _ => rfl
  | k :: ks, P, hk, hp => by
    have k8 := hk k List.mem_cons_self
    show ks.foldl stp (stp (ovl P B) k) = _
    rw [ovl_stp (h0 k k8) (by omega) (by omega)]
    exact ovl_run h0 hb ks (pst P k) (fun z hz => hk z (List.mem_cons_of_mem _ hz)) (by rw [pst_len]; exact hp)
theorem bB_bits (x : Int) : List.zipWith apB (bB x) (List.replicate 8 0) = bits8 x := by
  have q : ∀ b : Int, b = 0 ∨ b = 1 → apB (decide (b = 1)) 0 = b := fun b hb => by rcases hb with rfl | rfl <;> rfl
  have h := bits_01 x
  simp only [bits8, List.mem_cons, List.not_mem_nil, or_false, forall_eq_or_imp, forall_eq] at h
  obtain ⟨h1, h2, h3, h4, h5, h6, h7, h8⟩ := h
  simp only [bB, bits8, List.map_cons, List.map_nil, List.replicate_succ, List.replicate_zero, List.zipWith_cons_cons, List.zipWith_nil_right, q _ h1, q _ h2, q _ h3, q _ h4, q _ h5, q _ h6, q _ h7, q _ h8]
theorem ovl_app {P Q : List Bool} {B C : List Int} (h : P.length = B.length) : ovl (P ++ Q) (B ++ C) = ovl P B ++ ovl Q C := by
  unfold ovl
  exact List.zipWith_append h
theorem ovl_false (B : List Int) : ovl (List.replicate B.length false) B = B := by
  induction B with
  | nil => rfl
  | cons b B ih => show b :: ovl (List.replicate B.length false) B = _; rw [ih]
/-- one byte: its eight steps -/
theorem win {x y : Int} (hx : By x) (hy : By y) : (List.range 8).foldl stp (bits8 x ++ bits8 y) = List.replicate 8 0 ++ bits8 (Builtin.bitXor (rsN 8 x) y) := by
  obtain ⟨hr, hR⟩ := rest_by hx
  have lB : (bB x).length = 8 := rfl
  have e1 : bits8 x ++ bits8 y = ovl (bB x ++ List.replicate 8 false) (List.replicate 8 0 ++ bits8 y) := by
    rw [ovl_app (by rw [lB]; rfl)]
    have f := ovl_false (bits8 y)
    rw [bits_len] at f
    rw [f]
    unfold ovl
    rw [bB_bits]
  rw [e1, ovl_run (fun k hk => ?_) (by rw [List.length_append, bits_len]; decide) _ _ (fun k hk => List.mem_range.mp hk) (by rw [List.length_append, lB]; decide)]
  · unfold runP at hR
    rw [hR, ovl_app (by rw [List.length_replicate, List.length_replicate]), (xor_by hr hy).2]
    rfl
  · have : (List.replicate 8 (0 : Int) ++ bits8 y).getD k 0 = 0 := by
      rw [List.getD_eq_getElem?_getD, List.getElem?_append_left (by simpa using hk), List.getElem?_replicate, if_pos hk]; rfl
    exact this
theorem fl_mid (Z W T : List Int) {i : Nat} (h : i < W.length) : fl (Z ++ (W ++ T)) (Z.length + i) = Z ++ (fl W i ++ T) := by
  unfold fl
  rw [List.set_append_right _ _ (by omega), Nat.add_sub_cancel_left, List.set_append_left _ _ h]
  congr 3
  rw [List.getD_eq_getElem?_getD, List.getD_eq_getElem?_getD, List.getElem?_append_right (by omega), Nat.add_sub_cancel_left, List.getElem?_append_left h]
theorem stp_mid (Z W T : List Int) {k : Nat} (h : k + 8 < W.length) : stp (Z ++ (W ++ T)) (Z.length + k) = Z ++ (stp W k ++ T) := by
  have g : (Z ++ (W ++ T)).getD (Z.length + k) 0 = W.getD k 0 := by
    rw [List.getD_eq_getElem?_getD, List.getD_eq_getElem?_getD, List.getElem?_append_right (by omega), Nat.add_sub_cancel_left, List.getElem?_append_left (by omega)]
  unfold stp
  rw [g]
  split
  · rw [fl_mid Z W T (by omega), Nat.add_assoc, fl_mid Z _ T (by rw [fl_len]; omega), Nat.add_assoc, fl_mid Z _ T (by rw [fl_len, fl_len]; omega), Nat.add_assoc, fl_mid Z _ T (by rw [fl_len, fl_len, fl_len]; omega)]
  · rfl
theorem run_mid (Z T : List Int) : ∀ (ks : List Nat) (W : List Int), (∀ k ∈ ks, k + 8 < W.length) → (ks.map (Z.length + ·)).foldl stp (Z ++ (W ++ T)) = Z ++ (ks.foldl stp W ++ T)
  | [], W, _ => rfl
  | k :: ks, W, h => by
    show (ks.map (Z.length + ·)).foldl stp (stp (Z ++ (W ++ T)) (Z.length + k)) = _
    rw [stp_mid Z W T (h k List.mem_cons_self)]
    exact run_mid Z T ks (stp W k) fun z hz => by rw [stp_len]; exact h z (List.mem_cons_of_mem _ hz)
def finG (f : Int → Int) : Int → List Int → Int
  | x, [] => x
  | x, r :: rs => finG f (Builtin.bitXor (f x) r) rs
abbrev fin := finG (rsN 8)
theorem run_all : ∀ (rs : List Int) (x : Int) (Z : List Int), By x → (∀ r ∈ rs, By r) → (List.range' Z.length (8 * rs.length)).foldl stp (Z ++ (bits8 x ++ flt rs)) = Z ++ (List.replicate (8 * rs.length) 0 ++ bits8 (fin x rs))
  | [], x, Z, _, _ => by
    show Z ++ (bits8 x ++ []) = Z ++ ([] ++ bits8 x)
    rw [List.append_nil]; rfl
  | r :: rs, x, Z, hx, hr => by
    have h0 := hr r List.mem_cons_self
    have e : List.range' Z.length (8 * (r :: rs).length) = (List.range 8).map (Z.length + ·) ++ List.range' (Z.length + 8) (8 * rs.length) := by
      rw [List.length_cons, show 8 * (rs.length + 1) = 8 + 8 * rs.length by omega, ← List.range'_append_1]
      congr 1
    rw [e, List.foldl_append, flt_cons, ← List.append_assoc (bits8 x), run_mid Z (flt rs) _ _ (fun k hk => by have := List.mem_range.mp hk; rw [List.length_append, bits_len, bits_len]; omega), win hx h0]
    have e2 : Z ++ (List.replicate 8 0 ++ bits8 (Builtin.bitXor (rsN 8 x) r) ++ flt rs) = (Z ++ List.replicate 8 0) ++ (bits8 (Builtin.bitXor (rsN 8 x) r) ++ flt rs) := by simp only [List.append_assoc]
    have e3 : Z.length + 8 = (Z ++ List.replicate 8 (0 : Int)).length := by simp
    rw [e2, e3, run_all rs _ _ (xor_by (rest_by hx).1 h0).1 fun z hz => hr z (List.mem_cons_of_mem _ hz)]
    show _ = Z ++ (List.replicate (8 * (rs.length + 1)) 0 ++ bits8 (fin (Builtin.bitXor (rsN 8 x) r) rs))
    rw [show 8 * (rs.length + 1) = 8 + 8 * rs.length by omega, ← List.replicate_append_replicate]
    simp only [List.append_assoc]
def restG (f : Int → Int) (ns : List Int) (c : Int) : Int := ns.foldl (fun c n => f (Builtin.bitXor c n)) c
abbrev restF := restG (rsN 8)
theorem fin_restG (f : Int → Int) : ∀ (ns : List Int) (c n : Int), finG f (Builtin.bitXor c n) (ns ++ [0]) = restG f (n :: ns) c
  | [], c, n => by
    show Builtin.bitXor (f (Builtin.bitXor c n)) 0 = f (Builtin.bitXor c n)
    rw [PyProof.Rows.bitXor_zero]
  | m :: ns, c, n => fin_restG f ns (f (Builtin.bitXor c n)) m
theorem fin_rest (ns : List Int) (c n : Int) : fin (Builtin.bitXor c n) (ns ++ [0]) = restF (n :: ns) c := fin_restG _ ns c n
theorem restF_by : ∀ (ns : List Int) (c : Int), (∀ n ∈ ns, By n) → By c → By (restF ns c)
  | [], c, _, h => h
  | n :: ns, c, hn, h => restF_by ns _ (fun z hz => hn z (List.mem_cons_of_mem _ hz)) (rest_by (xor_by h (hn n List.mem_cons_self)).1).1
theorem zero_xor {x : Int} (h : By x) : Builtin.bitXor 0 x = x := by
  obtain ⟨n, rfl, _⟩ := by_nat h
  have := xor_nat 0 n
  rw [Nat.zero_xor] at this
  exact this
/-- the whole division -/
theorem div_all (ns : List Int) (hn : ∀ n ∈ ns, By n) : (List.range (8 * ns.length)).foldl stp (flt ns ++ List.replicate 8 0) = List.replicate (8 * ns.length) 0 ++ bits8 (restF ns 0) := by
  cases ns with
  | nil => rfl
  | cons n ns =>
    have h := run_all (ns ++ [0]) n [] (hn n List.mem_cons_self) fun r hr => (List.mem_append.mp hr).elim (fun z => hn r (List.mem_cons_of_mem _ z)) fun z => by rw [List.mem_singleton.mp z]; exact ⟨by decide, by decide⟩
    have e : flt (n :: ns) ++ List.replicate 8 0 = [] ++ (bits8 n ++ flt (ns ++ [0])) := by
      rw [flt_cons, flt_app, List.append_assoc]; rfl
    have f := fin_rest ns 0 n
    rw [zero_xor (hn n List.mem_cons_self)] at f
    rw [e, List.range_eq_range']
    rw [List.length_append, List.length_singleton] at h
    rw [f] at h
    exact h
/-! the ones that are odd in number -/
def xorF (ns : List Int) (c : Int) : Int := ns.foldl (fun c n => Builtin.bitXor c n) c
def colN (ns : List Int) (j : Nat) : Int := (ns.map fun n => (bits8 n).getD j 0).sum
theorem ap_mod {c b s : Int} (hc : c = 0 ∨ c = 1) : (apB (decide (c = 1)) b + s) % 2 = (c + (b + s)) % 2 := by
  rcases hc with rfl | rfl
  · show (b + s) % 2 = _; omega
  · show (1 - b + s) % 2 = _; omega
theorem xorF_bits : ∀ (ns : List Int) (c : Int), (∀ n ∈ ns, By n) → By c → By (xorF ns c) ∧ ∀ j, j < 8 → (bits8 (xorF ns c)).getD j 0 = ((bits8 c).getD j 0 + colN ns j) % 2
  | [], c, _, h => ⟨h, fun j hj => by
    show (bits8 c).getD j 0 = ((bits8 c).getD j 0 + 0) % 2
    have e : (bits8 c).getD j 0 = 0 ∨ (bits8 c).getD j 0 = 1 := bits_01 c _ (by rw [List.getD_eq_getElem?_getD, List.getElem?_eq_getElem (show j < (bits8 c).length from hj)]; exact List.getElem_mem _)
    omega⟩
  | n :: ns, c, hn, h => by
    obtain ⟨hx, e⟩ := xor_by h (hn n List.mem_cons_self)
    obtain ⟨h1, h2⟩ := xorF_bits ns _ (fun z hz => hn z (List.mem_cons_of_mem _ hz)) hx
    refine ⟨h1, fun j hj => ?_⟩
    have h3 := h2 j hj
    rw [show xorF (n :: ns) c = xorF ns (Builtin.bitXor c n) from rfl, h3, e]
    have e2 : (List.zipWith apB (bB c) (bits8 n)).getD j 0 = apB (decide ((bits8 c).getD j 0 = 1)) ((bits8 n).getD j 0) := by
      have g := ovl_get (P := bB c) (B := bits8 n) (i := j) hj hj
      unfold ovl at g
      rw [g]
      congr 1
      unfold bB
      simp [List.getD_eq_getElem?_getD, show j < (bits8 c).length from hj]
    have ec : (bits8 c).getD j 0 = 0 ∨ (bits8 c).getD j 0 = 1 := bits_01 c _ (by rw [List.getD_eq_getElem?_getD, List.getElem?_eq_getElem (show j < (bits8 c).length from hj)]; exact List.getElem_mem _)
    rw [e2, ap_mod ec]; rfl
end Pf

namespace Pf
open PySem PySem.Spec L2 Dd
theorem pick_map {α β : Type} (f : α → β) (l : List α) (lo hi st : Option Int) : pickL (l.map f) lo hi st = (pickL l lo hi st).map f := by
  unfold pickL
  rw [List.length_map, List.map_filterMap]
  congr 1
  funext i
  rw [List.getElem?_map]
theorem flt_get : ∀ (ns : List Int) (i j : Nat), j < 8 → (flt ns)[8 * i + j]? = (ns[i]?).map fun n => (bits8 n).getD j 0
  | [], i, j, _ => by simp [flt]
  | n :: ns, 0, j, h => by
    rw [flt_cons, Nat.mul_zero, Nat.zero_add, List.getElem?_append_left (show j < (bits8 n).length from h)]
    show _ = some ((bits8 n).getD j 0)
    rw [List.getD_eq_getElem?_getD, List.getElem?_eq_getElem (show j < (bits8 n).length from h)]; rfl
  | n :: ns, i + 1, j, h => by
    rw [flt_cons, List.getElem?_append_right (by rw [bits_len]; omega), bits_len, show 8 * (i + 1) + j - 8 = 8 * i + j by omega, flt_get ns i j h]
    simp
theorem range_all {α : Type} : ∀ (ns : List α), (List.range ns.length).filterMap (ns[·]?) = ns
  | [] => rfl
  | n :: ns => by
    have ih := range_all ns
    rw [List.length_cons, List.range_succ_eq_map]
    show n :: (List.map Nat.succ (List.range ns.length)).filterMap ((n :: ns)[·]?) = n :: ns
    rw [List.filterMap_map]
    congr 1
theorem range_get {α β : Type} (g : α → β) (ns : List α) : (List.range ns.length).filterMap (fun k => (ns[k]?).map g) = ns.map g := by
  have e : (List.range ns.length).filterMap (fun k => (ns[k]?).map g) = ((List.range ns.length).filterMap (ns[·]?)).map g := by rw [List.map_filterMap]
  rw [e, range_all]
theorem pick_flt (ns : List Int) {j : Nat} (hj : j < 8) : pickL (flt ns) (some (j : Int)) none (some 8) = ns.map fun n => (bits8 n).getD j 0 := by
  have hl := flt_len ns
  have e : sliceRange (sliceBounds (some (j : Int)) none (some 8) (flt ns).length).1 (sliceBounds (some (j : Int)) none (some 8) (flt ns).length).2.1 (sliceBounds (some (j : Int)) none (some 8) (flt ns).length).2.2 = (List.range ns.length).map fun k => 8 * k + j := by
    unfold sliceBounds sliceRange
    rw [hl]
    simp only [Option.getD_some, show (8 : Int) > 0 by decide, if_true]
    rw [if_neg (show ¬ ((j : Int) < 0) by omega)]
    by_cases c : ns.length = 0
    · rw [c]
      simp
      omega
    · have h1 : max 0 (min (j : Int) ((8 * ns.length : Nat) : Int)) = j := by omega
      rw [h1, if_pos (by omega)]
      have h2 : ((((8 * ns.length : Nat) : Int) - (j : Int) + 8 - 1) / 8).toNat = ns.length := by omega
      rw [h2]
      refine List.map_congr_left fun k _ => ?_
      omega
  unfold pickL
  rw [e, List.filterMap_map, ← range_get]
  congr 1
  funext k
  exact flt_get ns k j hj
end Pf

namespace Pf
/-! ### items, and what is told behind a mark -/
structure Im where
  n : Option Int
  why : PySem.Str
  b : Int
  e : Int
  pl : List Dd.D
def itemD (x : Im) : Dd.D := match x.n with
  | some n => .tuple [.str "word", .int n, .int x.b, .int x.e, .tuple x.pl]
  | none => .tuple [.str "torn", .str x.why, .int x.b, .int x.e, .tuple x.pl]
def byteOf (x : Im) : Option Int := match x.n with
  | some n => if n < 256 then some n else none
  | none => none
inductive Tr where
  | word | long | chk | done
  | pkt (ns : List Int)
/-- what a packet's numbers tell, its check the last of them -/
def ends (ck : List Int → Int) (ns : List Int) : Tr := if ns.getLast? = some (ck ns.dropLast) then .pkt (ns.dropLast.drop 1) else .chk
/-- one item behind another, the numbers so far ns -/
def tryP (most : Int) (ck : List Int → Int) : List Int → List Im → Tr
  | _, [] => .done
  | ns, x :: xs => match byteOf x with
    | none => .word
    | some n => if (ns ++ [n]).getD 0 0 > most then .long else
      if ((ns ++ [n]).length : Int) = (ns ++ [n]).getD 0 0 + 2 then ends ck (ns ++ [n]) else tryP most ck (ns ++ [n]) xs
/-- all at once: d more numbers lack -/
def allP (ck : List Int → Int) (ns : List Int) (d : Nat) (xs : List Im) : Tr :=
  if (xs.take d).any (fun x => (byteOf x).isNone) then .word else if xs.length < d then .done else ends ck (ns ++ (xs.take d).filterMap byteOf)
theorem tryP_all {most : Int} {ck : List Int → Int} : ∀ (xs : List Im) (ns : List Int) (d : Nat), ns ≠ [] → ns.getD 0 0 ≤ most → (ns.length : Int) + d = ns.getD 0 0 + 2 → 0 < d → tryP most ck ns xs = allP ck ns d xs
  | [], ns, d, h0, h1, h2, hd => by
    unfold tryP allP
    rw [List.take_nil, if_neg (by simp), if_pos (by simpa using hd)]
  | x :: xs, ns, d, h0, h1, h2, hd => by
    obtain ⟨k, rfl⟩ : ∃ k, d = k + 1 := ⟨d - 1, by omega⟩
    obtain ⟨m, t, rfl⟩ : ∃ m t, ns = m :: t := by
      cases ns with
      | nil => exact absurd rfl h0
      | cons m t => exact ⟨m, t, rfl⟩
    have g0 : ∀ n : Int, (m :: t ++ [n]).getD 0 0 = m := fun n => rfl
    have hm : m ≤ most := h1
    have hl : ((m :: t).length : Int) + (k + 1 : Nat) = m + 2 := h2
    unfold tryP
    cases e : byteOf x with
    | none =>
      unfold allP
      rw [List.take_succ_cons, if_pos (by rw [List.any_cons, e]; rfl)]
    | some n =>
      dsimp only
      rw [g0, if_neg (by omega)]
      have hlen : ((m :: t ++ [n]).length : Int) = ((m :: t).length : Int) + 1 := by rw [List.length_append, List.length_singleton]; omega
      by_cases c : k = 0
      · subst c
        rw [if_pos (by rw [hlen]; omega)]
        unfold allP
        rw [List.take_succ_cons, List.take_zero, if_neg (by simp [e]), if_neg (by simp)]
        simp [e]
      · rw [if_neg (by rw [hlen]; omega), tryP_all xs (m :: t ++ [n]) k (by simp) (by rw [g0]; exact hm) (by rw [hlen, g0]; omega) (by omega)]
        unfold allP
        rw [List.take_succ_cons, List.any_cons, List.filterMap_cons, e, List.length_cons]
        simp only [Option.isNone_some, Bool.false_or]
        by_cases c1 : (xs.take k).any (fun x => (byteOf x).isNone) = true
        · rw [if_pos c1, if_pos c1]
        · rw [if_neg c1, if_neg c1]
          by_cases c2 : xs.length < k
          · rw [if_pos c2, if_pos (by omega)]
          · rw [if_neg c2, if_neg (by omega)]
            simp
/-- what is behind a mark, all at once -/
def toldP (most : Int) (ck : List Int → Int) (xs : List Im) : Tr := match xs with
  | [] => .done
  | x :: r => match byteOf x with
    | none => .word
    | some n => if n > most then .long else allP ck [n] (n + 1).toNat r
theorem tryP_told {most : Int} {ck : List Int → Int} (xs : List Im) (h : ∀ x ∈ xs, ∀ n, byteOf x = some n → 0 ≤ n) : tryP most ck [] xs = toldP most ck xs := by
  cases xs with
  | nil => rfl
  | cons x r =>
    unfold tryP toldP
    cases e : byteOf x with
    | none => dsimp only; rw [e]
    | some n =>
      have n0 := h x List.mem_cons_self n e
      dsimp only
      rw [e]
      show (if ([n] : List Int).getD 0 0 > most then Tr.long else if (([n] : List Int).length : Int) = ([n] : List Int).getD 0 0 + 2 then ends ck [n] else tryP most ck [n] r) = (if n > most then Tr.long else allP ck [n] (n + 1).toNat r)
      have g0 : ([n] : List Int).getD 0 0 = n := rfl
      rw [g0]
      by_cases c : n > most
      · rw [if_pos c, if_pos c]
      · rw [if_neg c, if_neg c, if_neg (by show ¬ ((1 : Nat) : Int) = n + 2; omega)]
        exact tryP_all r [n] _ (by simp) (by rw [g0]; omega) (by show ((1 : Nat) : Int) + _ = n + 2; omega) (by omega)
/-- no more than most + 2 items are looked at -/
theorem tryP_take {most : Int} {ck : List Int → Int} : ∀ (xs : List Im) (ns : List Int) (k : Nat), (ns = [] ∧ (k : Int) = most + 2 ∧ 0 ≤ most ∨ ns ≠ [] ∧ ns.getD 0 0 ≤ most ∧ (ns.length : Int) < ns.getD 0 0 + 2 ∧ (ns.length : Int) + k = most + 2) → (∀ x ∈ xs, ∀ n, byteOf x = some n → 0 ≤ n) → tryP most ck ns (xs.take k) = tryP most ck ns xs
  | [], ns, k, _, _ => by rw [List.take_nil]
  | x :: xs, ns, k, h, hx => by
    obtain ⟨j, rfl⟩ : ∃ j, k = j + 1 := ⟨k - 1, by
      rcases h with ⟨_, h, h'⟩ | ⟨_, h1, h2, h3⟩ <;> omega⟩
    rw [List.take_succ_cons]
    unfold tryP
    cases e : byteOf x with
    | none => rfl
    | some n =>
      have n0 := hx x List.mem_cons_self n e
      dsimp only
      by_cases c : (ns ++ [n]).getD 0 0 > most
      · rw [if_pos c, if_pos c]
      · rw [if_neg c, if_neg c]
        by_cases c2 : ((ns ++ [n]).length : Int) = (ns ++ [n]).getD 0 0 + 2
        · rw [if_pos c2, if_pos c2]
        · rw [if_neg c2, if_neg c2]
          refine tryP_take xs (ns ++ [n]) j (.inr ⟨by simp, by omega, ?_, ?_⟩) fun y hy => hx y (List.mem_cons_of_mem _ hy)
          · rcases h with ⟨rfl, h, h'⟩ | ⟨hn, h1, h2, h3⟩
            · show ((1 : Nat) : Int) < n + 2
              omega
            · obtain ⟨m, t, rfl⟩ : ∃ m t, ns = m :: t := by
                cases ns with
                | nil => exact absurd rfl hn
                | cons m t => exact ⟨m, t, rfl⟩
              have g : (m :: t ++ [n]).getD 0 0 = m := rfl
              have g' : (m :: t).getD 0 0 = m := rfl
              rw [g] at c2 ⊢
              rw [g'] at h2
              rw [List.length_append, List.length_singleton] at c2 ⊢
              omega
          · rw [List.length_append, List.length_singleton]
            rcases h with ⟨rfl, h, h'⟩ | ⟨hn, h1, h2, h3⟩
            · show (((0 + 1 : Nat) : Int)) + (j : Int) = most + 2
              omega
            · omega
end Pf

namespace Pf
open PySem Dd
def manyP (left : Nat) : Tr → Nat
  | .pkt ns => ns.length + 3
  | .done => left
  | _ => 1
def headD : Tr → List D
  | .word => [.str "torn", .str "word"]
  | .long => [.str "torn", .str "long"]
  | .chk => [.str "torn", .str "check"]
  | .pkt ns => [.str "packet", .tuple (ns.map PyData.int)]
  | .done => [.str "torn", .str "end"]
theorem tryP_len {most : Int} {ck : List Int → Int} : ∀ (xs : List Im) (ns b : List Int), (∀ x ∈ xs, ∀ n, byteOf x = some n → 0 ≤ n) → tryP most ck ns xs = .pkt b → b.length + 2 ≤ ns.length + xs.length
  | [], ns, b, _, h => by cases h
  | x :: xs, ns, b, hx, h => by
    unfold tryP at h
    cases e : byteOf x with
    | none => rw [e] at h; cases h
    | some n =>
      rw [e] at h
      dsimp only at h
      have n0 := hx x List.mem_cons_self n e
      by_cases c : (ns ++ [n]).getD 0 0 > most
      · rw [if_pos c] at h; cases h
      · rw [if_neg c] at h
        by_cases c2 : ((ns ++ [n]).length : Int) = (ns ++ [n]).getD 0 0 + 2
        · rw [if_pos c2] at h
          unfold ends at h
          rw [List.dropLast_concat] at h
          split at h
          · cases h
            rw [List.length_drop, List.length_cons]
            cases ns with
            | nil =>
              have : ((1 : Nat) : Int) = n + 2 := c2
              omega
            | cons m t => rw [List.length_cons]; omega
          · cases h
        · rw [if_neg c2] at h
          have := tryP_len xs (ns ++ [n]) b (fun y hy => hx y (List.mem_cons_of_mem _ hy)) h
          rw [List.length_append, List.length_singleton] at this
          rw [List.length_cons]
          omega
theorem many_le {most : Int} {ck : List Int → Int} {xs : List Im} {i : Nat} (hx : ∀ x ∈ xs, ∀ n, byteOf x = some n → 0 ≤ n) (hi : i < xs.length) : 1 ≤ manyP (xs.length - i) (tryP most ck [] (xs.drop (i + 1))) ∧ i + manyP (xs.length - i) (tryP most ck [] (xs.drop (i + 1))) ≤ xs.length := by
  cases e : tryP most ck [] (xs.drop (i + 1)) with
  | pkt b =>
    have := tryP_len _ _ _ (fun x h => hx x (List.mem_of_mem_drop h)) e
    rw [List.length_nil, List.length_drop] at this
    show 1 ≤ b.length + 3 ∧ i + (b.length + 3) ≤ xs.length
    omega
  | done => show 1 ≤ xs.length - i ∧ i + (xs.length - i) ≤ xs.length; omega
  | word => show 1 ≤ 1 ∧ i + 1 ≤ xs.length; omega
  | long => show 1 ≤ 1 ∧ i + 1 ≤ xs.length; omega
  | chk => show 1 ≤ 1 ∧ i + 1 ≤ xs.length; omega
def endAt (xs : List Im) (j : Nat) : Int := match xs[j]? with
  | some x => x.e
  | none => 0
def entD (xs : List Im) (x : Im) (i : Nat) (t : Tr) : D := .tuple (headD t ++ [.int x.b, .int (endAt xs (i + manyP (xs.length - i) t - 1)), .tuple (rngL (i : Nat) ((i + manyP (xs.length - i) t : Nat) : Int))])
/-- the walk over the items -/
def walkP (mark most : Int) (ck : List Int → Int) (xs : List Im) : Nat → Nat → List D
  | 0, _ => []
  | f + 1, i => match xs[i]? with
    | none => []
    | some x => if byteOf x = some mark then entD xs x i (tryP most ck [] (xs.drop (i + 1))) :: walkP mark most ck xs f (i + manyP (xs.length - i) (tryP most ck [] (xs.drop (i + 1)))) else walkP mark most ck xs f (i + 1)
theorem walk_len {mark most : Int} {ck : List Int → Int} {xs : List Im} (hx : ∀ x ∈ xs, ∀ n, byteOf x = some n → 0 ≤ n) : ∀ (f i : Nat), (walkP mark most ck xs f i).length ≤ xs.length - i
  | 0, i => Nat.zero_le _
  | f + 1, i => by
    unfold walkP
    cases e : xs[i]? with
    | none => exact Nat.zero_le _
    | some x =>
      have hi : i < xs.length := (List.getElem?_eq_some_iff.mp e).1
      dsimp only
      split
      · have h1 := (many_le (most := most) (ck := ck) hx hi).1
        have := walk_len hx f (i + manyP (xs.length - i) (tryP most ck [] (xs.drop (i + 1)))) (mark := mark) (most := most) (ck := ck)
        rw [List.length_cons]
        omega
      · have := walk_len hx f (i + 1) (mark := mark) (most := most) (ck := ck)
        omega
end Pf

namespace Pf
open PySem Dd
def whatD (x : Im) : D := match x.n with
  | some n => .int n
  | none => .str x.why
def anyNot (xs : List Im) : Bool := xs.any fun x => (byteOf x).isNone
theorem bytes_of : ∀ {ys : List Im}, anyNot ys = false → ys.map whatD = (ys.filterMap byteOf).map PyData.int
  | [], _ => rfl
  | y :: ys, h => by
    unfold anyNot at h
    rw [List.any_cons, Bool.or_eq_false_iff] at h
    have ih := bytes_of (ys := ys) h.2
    cases e : byteOf y with
    | none => rw [e] at h; cases h.1
    | some n =>
      have : whatD y = .int n := by
        unfold byteOf at e
        unfold whatD
        cases q : y.n with
        | none => rw [q] at e; cases e
        | some m =>
          rw [q] at e
          dsimp only at e ⊢
          split at e
          · cases e; rfl
          · cases e
      rw [List.map_cons, this, ih, List.filterMap_cons, e]; rfl
theorem bytes_len : ∀ {ys : List Im}, anyNot ys = false → (ys.filterMap byteOf).length = ys.length
  | [], _ => rfl
  | y :: ys, h => by
    unfold anyNot at h
    rw [List.any_cons, Bool.or_eq_false_iff] at h
    cases e : byteOf y with
    | none => rw [e] at h; cases h.1
    | some n => rw [List.filterMap_cons, e, List.length_cons, List.length_cons, bytes_len (ys := ys) h.2]
end Pf

namespace Pf
open PySem PySem.Spec L2 Dd
/-! ### spans_of -/
theorem ixN_last (n : Nat) : ixN (n + 1) (-1) = some n := by
  simp [ixN]; omega
theorem atI_last {α : Type} (a : List α) (x : α) : atI (a ++ [x]) (-1) = some x := by
  unfold atI
  rw [List.length_append, List.length_singleton, ixN_last]
  simp
theorem fit_of2 {n : Nat} (h : n ≤ 1000000) : fit n = true := decide_eq_true (by omega)
theorem set_last {α : Type} (a : List α) (x y : α) : (a ++ [x]).set a.length y = a ++ [y] := by
  rw [List.set_append_right _ _ (Nat.le_refl _), Nat.sub_self]; rfl
theorem at_pair {as : List Pr} {i : Nat} {a : Pr} (h : as[i]? = some a) : atI (as.map pairD) (i : Int) = some (.tuple [.int a.1, .int a.2]) := atI_nat' (by omega) (by
  rw [Int.toNat_natCast, List.getElem?_map, h]; rfl)
theorem both_len : ∀ (n : Nat) (a b : List Pr), a.length + b.length ≤ n → (bothP a b).length ≤ n
  | n, [], b, _ => by rw [both_nil]; exact Nat.zero_le _
  | n, a :: as, [], _ => by rw [both_nil2]; exact Nat.zero_le _
  | 0, a :: as, b :: bs, hn => by simp at hn
  | n + 1, a :: as, b :: bs, hn => by
    simp only [List.length_cons] at hn
    unfold bothP
    rw [List.length_append]
    have h1 : (if mxI a.1 b.1 < mnI a.2 b.2 then [(mxI a.1 b.1, mnI a.2 b.2)] else []).length ≤ 1 := by split <;> simp
    have h2 : (if a.2 < b.2 then bothP as (b :: bs) else bothP (a :: as) bs).length ≤ n := by
      split
      · exact both_len n as (b :: bs) (by simp only [List.length_cons]; omega)
      · exact both_len n (a :: as) bs (by simp only [List.length_cons]; omega)
    omega

def Bx (bs : List D) : Prop := ∃ a s c : Int, bs = [.int a, .int s, .int c]
theorem take_ok {bs : List D} {m : Int} (hb : Bx bs) (h0 : 0 < m) (h1 : m < 1152921504606846976) : ∃ r bs', fn__law_take bs [.int m] = some (.ok (.int r), bs') ∧ 0 ≤ r ∧ r < m ∧ Bx bs' := by
  obtain ⟨a, s, c, rfl⟩ := hb
  have hm : m.natAbs < 1152921504606846976 := by omega
  by_cases ha : 0 < a
  · refine ⟨a % m, [.int (a / m), .int s, .int c], ?_, Int.emod_nonneg _ (by omega), Int.emod_lt_of_pos _ h0, _, _, _, rfl⟩
    simp [fn__law_take, runB, m__law_take, env0B, mSeq, mIf, mBol, mBin, mBinL, mBind, mLift, mPure, mPeek, mVar, ixD, iI, bolD, mAsg, mCall1, mCallN, intD, modD, iIc, cMod, mStore, mStoreO, mDone, gSet, mOwn, mPut, setD, mRet, mDrop, mStuck, mTru, truD, mOrT, mAndT, mNotT, mAnd, mOr, mNot, mIsi, isiT_eq, typD, lenD, mCons, mTup, mLst, mLstN, mVal, oOr, addD, subD, mulD, mulI, iIc, cMul, ltD, leD, gtD, geD, gTupD, gCons2, gsNil, mCallV, mCallB, mRs, tupleD, mRetF, mChain, mScr, mScrLen, mScrIx, mMut, appD, max2D, min2D, mRng1, mRng2, rngD1, rngD2, rngOk, mItems, itemsD, mAsgN, mParEE, mParEN, mUn, negD, mCallN1, listD, unsE, powD, cPow, divD, cDiv, mFor, mSl, mSlL, slD, mNoPart, mPart, intO, mSlN, mSlNL, slN, mRevN, revO, mParNC, andD, orD, xorD, shrD, shlD, cShr, mStepN, mStepNL, stepO, mCatN, mCatNL, catN, atI, ixN, ha, h0, hm]
  · have hs : ∃ s' : Int, s' = ((s + 104729 * (c + 1)) * 69623) % 2147483647 * 48271 + 30103 := ⟨_, rfl⟩
    refine ⟨_, _, ?_, Int.emod_nonneg ((((s + 104729 * (c + 1)) * 69623) % 2147483647 * 2147483647 + ((((s + 104729 * (c + 1)) * 69623) % 2147483647 * 48271 + 30103) % 2147483629 + 1)) / 8191) (by omega : m ≠ 0), Int.emod_lt_of_pos _ h0, a, (((s + 104729 * (c + 1)) * 69623) % 2147483647 * 48271 + 30103) % 2147483629 + 1, c + 1, rfl⟩
    simp [fn__law_take, runB, m__law_take, env0B, mSeq, mIf, mBol, mBin, mBinL, mBind, mLift, mPure, mPeek, mVar, ixD, iI, bolD, mAsg, mCall1, mCallN, intD, modD, iIc, cMod, mStore, mStoreO, mDone, gSet, mOwn, mPut, setD, mRet, mDrop, mStuck, mTru, truD, mOrT, mAndT, mNotT, mAnd, mOr, mNot, mIsi, isiT_eq, typD, lenD, mCons, mTup, mLst, mLstN, mVal, oOr, addD, subD, mulD, mulI, iIc, cMul, ltD, leD, gtD, geD, gTupD, gCons2, gsNil, mCallV, mCallB, mRs, tupleD, mRetF, mChain, mScr, mScrLen, mScrIx, mMut, appD, max2D, min2D, mRng1, mRng2, rngD1, rngD2, rngOk, mItems, itemsD, mAsgN, mParEE, mParEN, mUn, negD, mCallN1, listD, unsE, powD, cPow, divD, cDiv, mFor, mSl, mSlL, slD, mNoPart, mPart, intO, mSlN, mSlNL, slN, mRevN, revO, mParNC, andD, orD, xorD, shrD, shlD, cShr, mStepN, mStepNL, stepO, mCatN, mCatNL, catN, atI, ixN, ha, h0, hm]
theorem ix_in {ds : List D} {r : Int} (h0 : 0 ≤ r) (h1 : r < ds.length) : ∃ d ∈ ds, atI ds r = some d := by
  have h : r.toNat < ds.length := by omega
  exact ⟨ds[r.toNat], List.getElem_mem h, atI_nat' h0 (List.getElem?_eq_getElem h)⟩
theorem atI_ints {ns : List Int} {k : Int} (h0 : 0 ≤ k) (h1 : k < ns.length) : ∃ v, atI ns k = some v := by
  have h : k.toNat < ns.length := by omega
  exact ⟨ns[k.toNat], atI_nat' h0 (List.getElem?_eq_getElem h)⟩
theorem box_ok (ns : List Int) (k : Int) (h0 : 0 ≤ k) (h1 : k < 1000) : ∃ bs, fn__law_box ns [.int k] = some (.ok bs) ∧ Bx bs := by
  have hk : (k.natAbs < 18446744073709551616) := by omega
  have z0 : ∀ v, atI [PyData.int 0, .int v] 0 = some (.int 0) := fun _ => rfl
  have z1 : ∀ v, atI [PyData.int 0, .int v] 1 = some (.int v) := fun _ => rfl
  by_cases h : k < ns.length
  · obtain ⟨v, e⟩ := atI_ints h0 h
    by_cases hv : 1000000000000000000 ≤ v <;> simp [fn__law_box, runS, m__law_box, env0S, mSeq, mIf, mBol, mBin, mBinL, mBind, mLift, mPure, mPeek, mVar, ixD, iI, bolD, mAsg, mCall1, mCallN, intD, modD, iIc, cMod, mStore, mStoreO, mDone, gSet, mOwn, mPut, setD, mRet, mDrop, mStuck, mTru, truD, mOrT, mAndT, mNotT, mAnd, mOr, mNot, mIsi, isiT_eq, typD, lenD, mCons, mTup, mLst, mLstN, mVal, oOr, addD, subD, mulD, mulI, iIc, cMul, ltD, leD, gtD, geD, gTupD, gCons2, gsNil, mCallV, mCallB, mRs, tupleD, mRetF, mChain, mScr, mScrLen, mScrIx, mMut, appD, max2D, min2D, mRng1, mRng2, rngD1, rngD2, rngOk, mItems, itemsD, mAsgN, mParEE, mParEN, mUn, negD, mCallN1, listD, unsE, powD, cPow, divD, cDiv, mFor, mSl, mSlL, slD, mNoPart, mPart, intO, mSlN, mSlNL, slN, mRevN, revO, mParNC, andD, orD, xorD, shrD, shlD, cShr, mStepN, mStepNL, stepO, mCatN, mCatNL, catN, hk, h, e, hv, fit, z0, z1] <;> exact ⟨_, _, _, rfl⟩
  · by_cases hn : 0 < ns.length
    · have q0 : 0 ≤ k % (ns.length : Int) := Int.emod_nonneg _ (by omega)
      have q1 : k % (ns.length : Int) < ns.length := Int.emod_lt_of_pos _ (by omega)
      obtain ⟨v, e⟩ := atI_ints q0 q1
      by_cases hv : 1000000000000000000 ≤ 5717 * k + 23 + v % 2147483629 * 69623 <;> simp [fn__law_box, runS, m__law_box, env0S, mSeq, mIf, mBol, mBin, mBinL, mBind, mLift, mPure, mPeek, mVar, ixD, iI, bolD, mAsg, mCall1, mCallN, intD, modD, iIc, cMod, mStore, mStoreO, mDone, gSet, mOwn, mPut, setD, mRet, mDrop, mStuck, mTru, truD, mOrT, mAndT, mNotT, mAnd, mOr, mNot, mIsi, isiT_eq, typD, lenD, mCons, mTup, mLst, mLstN, mVal, oOr, addD, subD, mulD, mulI, iIc, cMul, ltD, leD, gtD, geD, gTupD, gCons2, gsNil, mCallV, mCallB, mRs, tupleD, mRetF, mChain, mScr, mScrLen, mScrIx, mMut, appD, max2D, min2D, mRng1, mRng2, rngD1, rngD2, rngOk, mItems, itemsD, mAsgN, mParEE, mParEN, mUn, negD, mCallN1, listD, unsE, powD, cPow, divD, cDiv, mFor, mSl, mSlL, slD, mNoPart, mPart, intO, mSlN, mSlNL, slN, mRevN, revO, mParNC, andD, orD, xorD, shrD, shlD, cShr, mStepN, mStepNL, stepO, mCatN, mCatNL, catN, hk, h, hn, e, hv, fit, z0, z1] <;> exact ⟨_, _, _, rfl⟩
    · by_cases hv : 1000000000000000000 ≤ 5717 * k + 23 <;> simp [fn__law_box, runS, m__law_box, env0S, mSeq, mIf, mBol, mBin, mBinL, mBind, mLift, mPure, mPeek, mVar, ixD, iI, bolD, mAsg, mCall1, mCallN, intD, modD, iIc, cMod, mStore, mStoreO, mDone, gSet, mOwn, mPut, setD, mRet, mDrop, mStuck, mTru, truD, mOrT, mAndT, mNotT, mAnd, mOr, mNot, mIsi, isiT_eq, typD, lenD, mCons, mTup, mLst, mLstN, mVal, oOr, addD, subD, mulD, mulI, iIc, cMul, ltD, leD, gtD, geD, gTupD, gCons2, gsNil, mCallV, mCallB, mRs, tupleD, mRetF, mChain, mScr, mScrLen, mScrIx, mMut, appD, max2D, min2D, mRng1, mRng2, rngD1, rngD2, rngOk, mItems, itemsD, mAsgN, mParEE, mParEN, mUn, negD, mCallN1, listD, unsE, powD, cPow, divD, cDiv, mFor, mSl, mSlL, slD, mNoPart, mPart, intO, mSlN, mSlNL, slN, mRevN, revO, mParNC, andD, orD, xorD, shrD, shlD, cShr, mStepN, mStepNL, stepO, mCatN, mCatNL, catN, hk, h, hn, hv, fit, z0, z1] <;> exact ⟨_, _, _, rfl⟩

/-! ### alike -/
theorem eqv_int (a : Int) : PyData.eqv (.int a) (.int a) = true := by simp [PyData.eqv]
theorem strOk_of (s : String) : PyData.strOk (Str.ofString s) = true := by
  unfold PyData.strOk
  rw [PySem.Str.ofString_eq_toList, Array.all_eq_true_iff_forall_mem]
  intro c hc
  simp at hc
  obtain ⟨x, _, rfl⟩ := hc
  have := x.valid
  refine decide_eq_true ?_
  show x.val.toNat < 1114112
  rcases this with h | h <;> omega
theorem sh_str (s : String) : SeqAt.shaped (.str (Str.ofString s)) = true := by simp [SeqAt.shaped, PyData.canLay0, PyData.depth, strOk_of]
theorem ne_bool (a b : Bool) : neD (.bool a) (.bool b) = some (.bool (!decide (a = b))) := by
  have e : PyData.eqv (.bool a) (.bool b) = decide (a = b) := by cases a <;> cases b <;> decide +kernel
  simp [neD, sh_bool, e]
theorem eq_str (s : String) : eqD (.str (Str.ofString s)) (.str (Str.ofString s)) = some (.bool true) := by
  have e : PyData.eqv (.str (Str.ofString s)) (.str (Str.ofString s)) = true := by simp [PyData.eqv]
  simp [eqD, sh_str, e]
theorem alike_int (n : Nat) (a : Int) : fn__law_alike (n + 1) [.int a, .int a] = some (.ok (.bool true)) := by
  simp [fn__law_alike, runV, m__law_alike, env0, mSeq, mIf, mBol, mBin, mBinL, mBind, mLift, mPure, mPeek, mVar, ixD, iI, bolD, mAsg, mCall1, mCallN, intD, modD, iIc, cMod, mStore, mStoreO, mDone, gSet, mOwn, mPut, setD, mRet, mDrop, mStuck, mTru, truD, mOrT, mAndT, mNotT, mAnd, mOr, mNot, mIsi, isiT_eq, typD, lenD, mCons, mTup, mLst, mLstN, mVal, oOr, addD, subD, mulD, mulI, iIc, cMul, ltD, leD, gtD, geD, gTupD, gCons2, gsNil, mCallV, mCallB, mRs, tupleD, mRetF, mChain, mScr, mScrLen, mScrIx, mMut, appD, max2D, min2D, mRng1, mRng2, rngD1, rngD2, rngOk, mItems, itemsD, mAsgN, mParEE, mParEN, mUn, negD, mCallN1, listD, unsE, powD, cPow, divD, cDiv, mFor, mSl, mSlL, slD, mNoPart, mPart, intO, mSlN, mSlNL, slN, mRevN, revO, mParNC, andD, orD, xorD, shrD, shlD, cShr, mStepN, mStepNL, stepO, mCatN, mCatNL, catN, isi_int_NoneType, isi_int_bool, isi_int_int, isi_int_str, isi_int_list, isi_int_tuple, isi_int_dict, isi_bool_NoneType, isi_bool_bool, isi_bool_int, isi_bool_str, isi_bool_list, isi_bool_tuple, isi_bool_dict, isi_str_NoneType, isi_str_bool, isi_str_int, isi_str_str, isi_str_list, isi_str_tuple, isi_str_dict, isi_list_NoneType, isi_list_bool, isi_list_int, isi_list_str, isi_list_list, isi_list_tuple, isi_list_dict, isi_tuple_NoneType, isi_tuple_bool, isi_tuple_int, isi_tuple_str, isi_tuple_list, isi_tuple_tuple, isi_tuple_dict, isi_dict_NoneType, isi_dict_bool, isi_dict_int, isi_dict_str, isi_dict_list, isi_dict_tuple, isi_dict_dict, mIsiA, isiA, ne_bool, eq_int]
theorem zip_self_mem {xs : List D} {d : D} (h : d ∈ zipL xs xs) : ∃ x ∈ xs, d = .tuple [x, x] := by
  obtain ⟨i, hi⟩ := List.getElem?_of_mem h
  obtain ⟨y, z, h1, h2, rfl⟩ := zipL_get hi
  rw [h1] at h2
  cases h2
  exact ⟨y, List.mem_of_getElem? h1, rfl⟩
theorem alike_tup (rec : List D → Option (Rs D)) (xs : List D) (hl : xs.length ≤ 1000000) (h : ∀ x ∈ xs, rec [x, x] = some (.ok (.bool true))) : runV (m__law_alike rec) 5 [.tuple xs, .tuple xs] = some (.ok (.bool true)) := by
  have hzl : (zipL xs xs).length ≤ 1000000 := by unfold zipL; rw [List.length_zipWith, Nat.min_self]; exact hl
  have h1 : C__law_alike_0 rec [.val (.tuple xs), .val (.tuple xs), .un, .un, .un] = some (.ok ((zipL xs xs).map fun _ => .bool true) [.val (.tuple xs), .val (.tuple xs), .un, .un, .un]) := by
    refine comp_is (ds := zipL xs xs) (ρ1 := [.val (.tuple xs), .val (.tuple xs), .un, .un, .un]) (ρe := [.val (.tuple xs), .val (.tuple xs), .un, .un, .un]) (by simp [mZip, zipD, mSeq, mIf, mBol, mBin, mBinL, mBind, mLift, mPure, mPeek, mVar, ixD, iI, bolD, mAsg, mCall1, mCallN, intD, modD, iIc, cMod, mStore, mStoreO, mDone, gSet, mOwn, mPut, setD, mRet, mDrop, mStuck, mTru, truD, mOrT, mAndT, mNotT, mAnd, mOr, mNot, mIsi, isiT_eq, typD, lenD, mCons, mTup, mLst, mLstN, mVal, oOr, addD, subD, mulD, mulI, iIc, cMul, ltD, leD, gtD, geD, gTupD, gCons2, gsNil, mCallV, mCallB, mRs, tupleD, mRetF, mChain, mScr, mScrLen, mScrIx, mMut, appD, max2D, min2D, mRng1, mRng2, rngD1, rngD2, rngOk, mItems, itemsD, mAsgN, mParEE, mParEN, mUn, negD, mCallN1, listD, unsE, powD, cPow, divD, cDiv, mFor, mSl, mSlL, slD, mNoPart, mPart, intO, mSlN, mSlNL, slN, mRevN, revO, mParNC, andD, orD, xorD, shrD, shlD, cShr, mStepN, mStepNL, stepO, mCatN, mCatNL, catN]) (fit_of2 hzl) ?_
    refine go_map _ fun d hd => ?_
    obtain ⟨x, hx, rfl⟩ := zip_self_mem hd
    refine ⟨[.val (.tuple xs), .val (.tuple xs), .un, .val x, .val x], [.val (.tuple xs), .val (.tuple xs), .un, .val x, .val x], by simp [mSeq, mIf, mBol, mBin, mBinL, mBind, mLift, mPure, mPeek, mVar, ixD, iI, bolD, mAsg, mCall1, mCallN, intD, modD, iIc, cMod, mStore, mStoreO, mDone, gSet, mOwn, mPut, setD, mRet, mDrop, mStuck, mTru, truD, mOrT, mAndT, mNotT, mAnd, mOr, mNot, mIsi, isiT_eq, typD, lenD, mCons, mTup, mLst, mLstN, mVal, oOr, addD, subD, mulD, mulI, iIc, cMul, ltD, leD, gtD, geD, gTupD, gCons2, gsNil, mCallV, mCallB, mRs, tupleD, mRetF, mChain, mScr, mScrLen, mScrIx, mMut, appD, max2D, min2D, mRng1, mRng2, rngD1, rngD2, rngOk, mItems, itemsD, mAsgN, mParEE, mParEN, mUn, negD, mCallN1, listD, unsE, powD, cPow, divD, cDiv, mFor, mSl, mSlL, slD, mNoPart, mPart, intO, mSlN, mSlNL, slN, mRevN, revO, mParNC, andD, orD, xorD, shrD, shlD, cShr, mStepN, mStepNL, stepO, mCatN, mCatNL, catN, gNamesD], by simp [mSeq, mIf, mBol, mBin, mBinL, mBind, mLift, mPure, mPeek, mVar, ixD, iI, bolD, mAsg, mCall1, mCallN, intD, modD, iIc, cMod, mStore, mStoreO, mDone, gSet, mOwn, mPut, setD, mRet, mDrop, mStuck, mTru, truD, mOrT, mAndT, mNotT, mAnd, mOr, mNot, mIsi, isiT_eq, typD, lenD, mCons, mTup, mLst, mLstN, mVal, oOr, addD, subD, mulD, mulI, iIc, cMul, ltD, leD, gtD, geD, gTupD, gCons2, gsNil, mCallV, mCallB, mRs, tupleD, mRetF, mChain, mScr, mScrLen, mScrIx, mMut, appD, max2D, min2D, mRng1, mRng2, rngD1, rngD2, rngOk, mItems, itemsD, mAsgN, mParEE, mParEN, mUn, negD, mCallN1, listD, unsE, powD, cPow, divD, cDiv, mFor, mSl, mSlL, slD, mNoPart, mPart, intO, mSlN, mSlNL, slN, mRevN, revO, mParNC, andD, orD, xorD, shrD, shlD, cShr, mStepN, mStepNL, stepO, mCatN, mCatNL, catN, h x hx], by simp [unsE]⟩
  have h2 := allD_mapf (fun _ : D => true) (zipL xs xs)
  have h3 : (zipL xs xs).all (fun _ => true) = true := by simp
  rw [h3] at h2
  simp [runV, m__law_alike, env0, mSeq, mIf, mBol, mBin, mBinL, mBind, mLift, mPure, mPeek, mVar, ixD, iI, bolD, mAsg, mCall1, mCallN, intD, modD, iIc, cMod, mStore, mStoreO, mDone, gSet, mOwn, mPut, setD, mRet, mDrop, mStuck, mTru, truD, mOrT, mAndT, mNotT, mAnd, mOr, mNot, mIsi, isiT_eq, typD, lenD, mCons, mTup, mLst, mLstN, mVal, oOr, addD, subD, mulD, mulI, iIc, cMul, ltD, leD, gtD, geD, gTupD, gCons2, gsNil, mCallV, mCallB, mRs, tupleD, mRetF, mChain, mScr, mScrLen, mScrIx, mMut, appD, max2D, min2D, mRng1, mRng2, rngD1, rngD2, rngOk, mItems, itemsD, mAsgN, mParEE, mParEN, mUn, negD, mCallN1, listD, unsE, powD, cPow, divD, cDiv, mFor, mSl, mSlL, slD, mNoPart, mPart, intO, mSlN, mSlNL, slN, mRevN, revO, mParNC, andD, orD, xorD, shrD, shlD, cShr, mStepN, mStepNL, stepO, mCatN, mCatNL, catN, isi_int_NoneType, isi_int_bool, isi_int_int, isi_int_str, isi_int_list, isi_int_tuple, isi_int_dict, isi_bool_NoneType, isi_bool_bool, isi_bool_int, isi_bool_str, isi_bool_list, isi_bool_tuple, isi_bool_dict, isi_str_NoneType, isi_str_bool, isi_str_int, isi_str_str, isi_str_list, isi_str_tuple, isi_str_dict, isi_list_NoneType, isi_list_bool, isi_list_int, isi_list_str, isi_list_list, isi_list_tuple, isi_list_dict, isi_tuple_NoneType, isi_tuple_bool, isi_tuple_int, isi_tuple_str, isi_tuple_list, isi_tuple_tuple, isi_tuple_dict, isi_dict_NoneType, isi_dict_bool, isi_dict_int, isi_dict_str, isi_dict_list, isi_dict_tuple, isi_dict_dict, mIsiA, isiA, ne_bool, eq_int, h1, h2]
theorem alike_lst (rec : List D → Option (Rs D)) (xs : List D) (hl : xs.length ≤ 1000000) (h : ∀ x ∈ xs, rec [x, x] = some (.ok (.bool true))) : runV (m__law_alike rec) 5 [.list xs, .list xs] = some (.ok (.bool true)) := by
  have hzl : (zipL xs xs).length ≤ 1000000 := by unfold zipL; rw [List.length_zipWith, Nat.min_self]; exact hl
  have h1 : C__law_alike_0 rec [.val (.list xs), .val (.list xs), .un, .un, .un] = some (.ok ((zipL xs xs).map fun _ => .bool true) [.val (.list xs), .val (.list xs), .un, .un, .un]) := by
    refine comp_is (ds := zipL xs xs) (ρ1 := [.val (.list xs), .val (.list xs), .un, .un, .un]) (ρe := [.val (.list xs), .val (.list xs), .un, .un, .un]) (by simp [mZip, zipD, mSeq, mIf, mBol, mBin, mBinL, mBind, mLift, mPure, mPeek, mVar, ixD, iI, bolD, mAsg, mCall1, mCallN, intD, modD, iIc, cMod, mStore, mStoreO, mDone, gSet, mOwn, mPut, setD, mRet, mDrop, mStuck, mTru, truD, mOrT, mAndT, mNotT, mAnd, mOr, mNot, mIsi, isiT_eq, typD, lenD, mCons, mTup, mLst, mLstN, mVal, oOr, addD, subD, mulD, mulI, iIc, cMul, ltD, leD, gtD, geD, gTupD, gCons2, gsNil, mCallV, mCallB, mRs, tupleD, mRetF, mChain, mScr, mScrLen, mScrIx, mMut, appD, max2D, min2D, mRng1, mRng2, rngD1, rngD2, rngOk, mItems, itemsD, mAsgN, mParEE, mParEN, mUn, negD, mCallN1, listD, unsE, powD, cPow, divD, cDiv, mFor, mSl, mSlL, slD, mNoPart, mPart, intO, mSlN, mSlNL, slN, mRevN, revO, mParNC, andD, orD, xorD, shrD, shlD, cShr, mStepN, mStepNL, stepO, mCatN, mCatNL, catN]) (fit_of2 hzl) ?_
    refine go_map _ fun d hd => ?_
    obtain ⟨x, hx, rfl⟩ := zip_self_mem hd
    refine ⟨[.val (.list xs), .val (.list xs), .un, .val x, .val x], [.val (.list xs), .val (.list xs), .un, .val x, .val x], by simp [mSeq, mIf, mBol, mBin, mBinL, mBind, mLift, mPure, mPeek, mVar, ixD, iI, bolD, mAsg, mCall1, mCallN, intD, modD, iIc, cMod, mStore, mStoreO, mDone, gSet, mOwn, mPut, setD, mRet, mDrop, mStuck, mTru, truD, mOrT, mAndT, mNotT, mAnd, mOr, mNot, mIsi, isiT_eq, typD, lenD, mCons, mTup, mLst, mLstN, mVal, oOr, addD, subD, mulD, mulI, iIc, cMul, ltD, leD, gtD, geD, gTupD, gCons2, gsNil, mCallV, mCallB, mRs, tupleD, mRetF, mChain, mScr, mScrLen, mScrIx, mMut, appD, max2D, min2D, mRng1, mRng2, rngD1, rngD2, rngOk, mItems, itemsD, mAsgN, mParEE, mParEN, mUn, negD, mCallN1, listD, unsE, powD, cPow, divD, cDiv, mFor, mSl, mSlL, slD, mNoPart, mPart, intO, mSlN, mSlNL, slN, mRevN, revO, mParNC, andD, orD, xorD, shrD, shlD, cShr, mStepN, mStepNL, stepO, mCatN, mCatNL, catN, gNamesD], by simp [mSeq, mIf, mBol, mBin, mBinL, mBind, mLift, mPure, mPeek, mVar, ixD, iI, bolD, mAsg, mCall1, mCallN, intD, modD, iIc, cMod, mStore, mStoreO, mDone, gSet, mOwn, mPut, setD, mRet, mDrop, mStuck, mTru, truD, mOrT, mAndT, mNotT, mAnd, mOr, mNot, mIsi, isiT_eq, typD, lenD, mCons, mTup, mLst, mLstN, mVal, oOr, addD, subD, mulD, mulI, iIc, cMul, ltD, leD, gtD, geD, gTupD, gCons2, gsNil, mCallV, mCallB, mRs, tupleD, mRetF, mChain, mScr, mScrLen, mScrIx, mMut, appD, max2D, min2D, mRng1, mRng2, rngD1, rngD2, rngOk, mItems, itemsD, mAsgN, mParEE, mParEN, mUn, negD, mCallN1, listD, unsE, powD, cPow, divD, cDiv, mFor, mSl, mSlL, slD, mNoPart, mPart, intO, mSlN, mSlNL, slN, mRevN, revO, mParNC, andD, orD, xorD, shrD, shlD, cShr, mStepN, mStepNL, stepO, mCatN, mCatNL, catN, h x hx], by simp [unsE]⟩
  have h2 := allD_mapf (fun _ : D => true) (zipL xs xs)
  have h3 : (zipL xs xs).all (fun _ => true) = true := by simp
  rw [h3] at h2
  simp [runV, m__law_alike, env0, mSeq, mIf, mBol, mBin, mBinL, mBind, mLift, mPure, mPeek, mVar, ixD, iI, bolD, mAsg, mCall1, mCallN, intD, modD, iIc, cMod, mStore, mStoreO, mDone, gSet, mOwn, mPut, setD, mRet, mDrop, mStuck, mTru, truD, mOrT, mAndT, mNotT, mAnd, mOr, mNot, mIsi, isiT_eq, typD, lenD, mCons, mTup, mLst, mLstN, mVal, oOr, addD, subD, mulD, mulI, iIc, cMul, ltD, leD, gtD, geD, gTupD, gCons2, gsNil, mCallV, mCallB, mRs, tupleD, mRetF, mChain, mScr, mScrLen, mScrIx, mMut, appD, max2D, min2D, mRng1, mRng2, rngD1, rngD2, rngOk, mItems, itemsD, mAsgN, mParEE, mParEN, mUn, negD, mCallN1, listD, unsE, powD, cPow, divD, cDiv, mFor, mSl, mSlL, slD, mNoPart, mPart, intO, mSlN, mSlNL, slN, mRevN, revO, mParNC, andD, orD, xorD, shrD, shlD, cShr, mStepN, mStepNL, stepO, mCatN, mCatNL, catN, isi_int_NoneType, isi_int_bool, isi_int_int, isi_int_str, isi_int_list, isi_int_tuple, isi_int_dict, isi_bool_NoneType, isi_bool_bool, isi_bool_int, isi_bool_str, isi_bool_list, isi_bool_tuple, isi_bool_dict, isi_str_NoneType, isi_str_bool, isi_str_int, isi_str_str, isi_str_list, isi_str_tuple, isi_str_dict, isi_list_NoneType, isi_list_bool, isi_list_int, isi_list_str, isi_list_list, isi_list_tuple, isi_list_dict, isi_tuple_NoneType, isi_tuple_bool, isi_tuple_int, isi_tuple_str, isi_tuple_list, isi_tuple_tuple, isi_tuple_dict, isi_dict_NoneType, isi_dict_bool, isi_dict_int, isi_dict_str, isi_dict_list, isi_dict_tuple, isi_dict_dict, mIsiA, isiA, ne_bool, eq_int, h1, h2]
theorem alike_spans (n : Nat) (ss : List Pr) (hl : ss.length ≤ 1000000) : fn__law_alike (n + 3) [.tuple (ss.map pairD), .tuple (ss.map pairD)] = some (.ok (.bool true)) := by
  refine alike_tup (fn__law_alike (n + 2)) (ss.map pairD) (by rw [List.length_map]; exact hl) fun x hx => ?_
  obtain ⟨⟨a, b⟩, _, rfl⟩ := List.mem_map.mp hx
  refine alike_tup (fn__law_alike (n + 1)) [.int a, .int b] (by simp) fun x hx => ?_
  simp only [List.mem_cons, List.not_mem_nil, or_false] at hx
  rcases hx with rfl | rfl
  · exact alike_int n _
  · exact alike_int n _
/-! ### pairs as the law makes them -/

theorem pick3 {a b c r : Int} (h0 : 0 ≤ r) (h1 : r < 3) : ∃ m, atI [PyData.int a, .int b, .int c] r = some (.int m) ∧ (m = a ∨ m = b ∨ m = c) := by
  obtain ⟨d, hd, e⟩ := ix_in (ds := [PyData.int a, .int b, .int c]) h0 (by simpa using h1)
  simp at hd
  rcases hd with rfl | rfl | rfl
  · exact ⟨_, e, .inl rfl⟩
  · exact ⟨_, e, .inr (.inl rfl)⟩
  · exact ⟨_, e, .inr (.inr rfl)⟩
theorem pick4 {a b c d r : Int} (h0 : 0 ≤ r) (h1 : r < 4) : ∃ m, atI [PyData.int a, .int b, .int c, .int d] r = some (.int m) ∧ (m = a ∨ m = b ∨ m = c ∨ m = d) := by
  obtain ⟨x, hd, e⟩ := ix_in (ds := [PyData.int a, .int b, .int c, .int d]) h0 (by simpa using h1)
  simp only [List.mem_cons, List.not_mem_nil, or_false] at hd
  rcases hd with rfl | rfl | rfl | rfl
  · exact ⟨_, e, .inl rfl⟩
  · exact ⟨_, e, .inr (.inl rfl)⟩
  · exact ⟨_, e, .inr (.inr (.inl rfl))⟩
  · exact ⟨_, e, .inr (.inr (.inr rfl))⟩
theorem go_mapA {α : Type} {vs : List Nat} {g : D → M Unit} {te : M D} {ρ : En} (N O : α → D) : ∀ (as : List α), (∀ a ∈ as, ∃ ρ1 ρ3, g (N a) ρ = some (.ok () ρ1) ∧ te ρ1 = some (.ok (O a) ρ3) ∧ unsE ρ3 vs = ρ) → mGo vs g (mPure true) te (as.map N) ρ = some (.ok (as.map O) ρ)
  | [], _ => rfl
  | a :: as, h => by
    obtain ⟨ρ1, ρ3, e1, e2, e3⟩ := h a List.mem_cons_self
    have ih := go_mapA N O as fun x hx => h x (List.mem_cons_of_mem _ hx)
    have t1 : (mPure true : M Bool) ρ1 = some (.ok true ρ1) := rfl
    have e5 : (mBind te fun y => mPure [y]) ρ1 = some (.ok [O a] ρ3) := by rw [bind_is e2]; rfl
    have e6 : mUn_ vs ρ3 = some (.ok () ρ) := by unfold mUn_; rw [e3]
    rw [List.map_cons]
    unfold mGo
    rw [bind_is e1, bind_is t1, if_pos rfl, bind_is e5, bind_is e6, bind_is ih]; rfl
theorem fold_len : ∀ (qs F : List Pr), (qs.foldl stepS F).length ≤ F.length + qs.length
  | [], F => Nat.le_refl _
  | q :: qs, F => by
    have h := fold_len qs (stepS F q)
    have h2 := step_len F q
    show (qs.foldl stepS (stepS F q)).length ≤ _
    simp only [List.length_cons]
    omega
theorem spans_len (ps : List Pr) : (spansP ps).length ≤ ps.length := by
  have h := fold_len (sortP ps) []
  have := (sortP_perm ps).length_eq
  show ((sortP ps).foldl stepS []).length ≤ _
  simp only [List.length_nil] at h
  omega
theorem others_len (below : Int) : ∀ (ss : List Pr) (a : Int), (othersP below a ss).length ≤ ss.length + 1
  | [], a => by unfold othersP; split <;> simp
  | s :: ss, a => by
    have h := others_len below ss s.2
    unfold othersP
    rw [List.length_append, List.length_cons]
    have h1 : (if a < mnI s.1 below then [(a, mnI s.1 below)] else []).length ≤ 1 := by split <;> simp
    omega
theorem eqv_pairs (ps : List Pr) : PyData.eqvAll (ps.map pairD) (ps.map pairD) = true := eqvAll_refl _ fun d hd => by
  obtain ⟨p, _, rfl⟩ := List.mem_map.mp hd
  simp [pairD, PyData.eqv, PyData.eqvAll]
theorem sh_pair (p : Pr) : Sh 1 (pairD p) := Sh.tuple fun d hd => by
  simp only [List.mem_cons, List.not_mem_nil, or_false] at hd
  rcases hd with rfl | rfl <;> exact Sh.int _
theorem sh_pairs (ps : List Pr) : Sh 2 (.list (ps.map pairD)) := Sh.list fun d hd => by
  obtain ⟨p, _, rfl⟩ := List.mem_map.mp hd
  exact sh_pair p
theorem eq_tp (as : List Pr) : eqD (.tuple (as.map pairD)) (.tuple (as.map pairD)) = some (.bool true) := by
  have h : Sh 2 (.tuple (as.map pairD)) := Sh.tuple fun d hd => by
    obtain ⟨p, _, rfl⟩ := List.mem_map.mp hd
    exact sh_pair p
  rw [eq_sh h h (by omega) (by omega)]
  simp [PyData.eqv, eqv_pairs]
theorem ne_tp (as : List Pr) : neD (.tuple (as.map pairD)) (.tuple (as.map pairD)) = some (.bool false) := by
  have h : Sh 2 (.tuple (as.map pairD)) := Sh.tuple fun d hd => by
    obtain ⟨p, _, rfl⟩ := List.mem_map.mp hd
    exact sh_pair p
  rw [ne_sh h h (by omega) (by omega)]
  simp [PyData.eqv, eqv_pairs]
theorem both_len2 (a b : List Pr) : (bothP a b).length ≤ a.length + b.length := both_len _ a b (Nat.le_refl _)
theorem worn_len (n : Int) (ss : List Pr) : (wornP n ss).length ≤ ss.length := by
  unfold wornP; rw [List.length_map]; exact List.length_filter_le _ _
theorem later_len (n : Int) (ss : List Pr) : (laterP n ss).length = ss.length := by
  unfold laterP; rw [List.length_map]
theorem grown_len (n : Int) (ss : List Pr) : (grownP n ss).length ≤ ss.length := by
  have := spans_len (ss.map fun s : Pr => (s.1, s.2 + n))
  rw [List.length_map] at this
  exact this
/-- a comprehension whose turns change the box -/
theorem go_box {vs : List Nat} {g : D → M Unit} {te : M D} (E : List D → En) (P : D → Prop) : ∀ (xs : List D) (bs : List D), Bx bs →
    (∀ x ∈ xs, ∀ bs, Bx bs → ∃ y bs' ρ1 ρ3, P y ∧ Bx bs' ∧ g x (E bs) = some (.ok () ρ1) ∧ te ρ1 = some (.ok y ρ3) ∧ unsE ρ3 vs = E bs') →
    ∃ ys bs', Bx bs' ∧ (∀ y ∈ ys, P y) ∧ ys.length = xs.length ∧ mGo vs g (mPure true) te xs (E bs) = some (.ok ys (E bs'))
  | [], bs, hb, _ => ⟨[], bs, hb, fun _ h => (by cases h), rfl, rfl⟩
  | x :: xs, bs, hb, h => by
    obtain ⟨y, bs1, ρ1, ρ3, p, hb1, e1, e2, e3⟩ := h x List.mem_cons_self bs hb
    obtain ⟨ys, bs', hb', q, l, ih⟩ := go_box E P xs bs1 hb1 fun z hz => h z (List.mem_cons_of_mem _ hz)
    refine ⟨y :: ys, bs', hb', fun z hz => (List.mem_cons.mp hz).elim (fun e => e ▸ p) (q z), by rw [List.length_cons, List.length_cons, l], ?_⟩
    have t1 : (mPure true : M Bool) ρ1 = some (.ok true ρ1) := rfl
    have e5 : (mBind te fun y => mPure [y]) ρ1 = some (.ok [y] ρ3) := by rw [bind_is e2]; rfl
    have e6 : mUn_ vs ρ3 = some (.ok () (E bs')) ∨ mUn_ vs ρ3 = some (.ok () (E bs1)) := .inr (by unfold mUn_; rw [e3])
    have e6 : mUn_ vs ρ3 = some (.ok () (E bs1)) := by unfold mUn_; rw [e3]
    unfold mGo
    rw [bind_is e1, bind_is t1, if_pos rfl, bind_is e5, bind_is e6, bind_is ih]; rfl
theorem rngL_len (n : Nat) : (rngL 0 (n : Int)).length = n := by rw [rngL_length]; omega

/-! ### any plain value is alike to itself -/
inductive Alk : Nat → D → Prop
  | int (n : Nat) (i : Int) : Alk n (.int i)
  | bool (n : Nat) (b : Bool) : Alk n (.bool b)
  | str (n : Nat) (s : String) : Alk n (.str (Str.ofString s))
  | tup (n : Nat) (ds : List D) : ds.length ≤ 1000000 → (∀ d ∈ ds, Alk n d) → Alk (n + 1) (.tuple ds)
  | lst (n : Nat) (ds : List D) : ds.length ≤ 1000000 → (∀ d ∈ ds, Alk n d) → Alk (n + 1) (.list ds)
theorem eq_bool (a : Bool) : eqD (.bool a) (.bool a) = some (.bool true) := by
  have e : PyData.eqv (.bool a) (.bool a) = true := by cases a <;> decide +kernel
  simp [eqD, sh_bool, e]
theorem alike_boolv (n : Nat) (a : Bool) : fn__law_alike (n + 1) [.bool a, .bool a] = some (.ok (.bool true)) := by
  simp [fn__law_alike, runV, m__law_alike, env0, mSeq, mIf, mBol, mBin, mBinL, mBind, mLift, mPure, mPeek, mVar, ixD, iI, bolD, mAsg, mCall1, mCallN, intD, modD, iIc, cMod, mStore, mStoreO, mDone, gSet, mOwn, mPut, setD, mRet, mDrop, mStuck, mTru, truD, mOrT, mAndT, mNotT, mAnd, mOr, mNot, mIsi, isiT_eq, typD, lenD, mCons, mTup, mLst, mLstN, mVal, oOr, addD, subD, mulD, mulI, iIc, cMul, ltD, leD, gtD, geD, gTupD, gCons2, gsNil, mCallV, mCallB, mRs, tupleD, mRetF, mChain, mScr, mScrLen, mScrIx, mMut, appD, max2D, min2D, mRng1, mRng2, rngD1, rngD2, rngOk, mItems, itemsD, mAsgN, mParEE, mParEN, mUn, negD, mCallN1, listD, unsE, powD, cPow, divD, cDiv, mFor, mSl, mSlL, slD, mNoPart, mPart, intO, mSlN, mSlNL, slN, mRevN, revO, mParNC, andD, orD, xorD, shrD, shlD, cShr, mStepN, mStepNL, stepO, mCatN, mCatNL, catN, isi_int_NoneType, isi_int_bool, isi_int_int, isi_int_str, isi_int_list, isi_int_tuple, isi_int_dict, isi_bool_NoneType, isi_bool_bool, isi_bool_int, isi_bool_str, isi_bool_list, isi_bool_tuple, isi_bool_dict, isi_str_NoneType, isi_str_bool, isi_str_int, isi_str_str, isi_str_list, isi_str_tuple, isi_str_dict, isi_list_NoneType, isi_list_bool, isi_list_int, isi_list_str, isi_list_list, isi_list_tuple, isi_list_dict, isi_tuple_NoneType, isi_tuple_bool, isi_tuple_int, isi_tuple_str, isi_tuple_list, isi_tuple_tuple, isi_tuple_dict, isi_dict_NoneType, isi_dict_bool, isi_dict_int, isi_dict_str, isi_dict_list, isi_dict_tuple, isi_dict_dict, mIsiA, isiA, ne_bool, eq_bool]
theorem alike_strv (n : Nat) (s : String) : fn__law_alike (n + 1) [.str (Str.ofString s), .str (Str.ofString s)] = some (.ok (.bool true)) := by
  simp [fn__law_alike, runV, m__law_alike, env0, mSeq, mIf, mBol, mBin, mBinL, mBind, mLift, mPure, mPeek, mVar, ixD, iI, bolD, mAsg, mCall1, mCallN, intD, modD, iIc, cMod, mStore, mStoreO, mDone, gSet, mOwn, mPut, setD, mRet, mDrop, mStuck, mTru, truD, mOrT, mAndT, mNotT, mAnd, mOr, mNot, mIsi, isiT_eq, typD, lenD, mCons, mTup, mLst, mLstN, mVal, oOr, addD, subD, mulD, mulI, iIc, cMul, ltD, leD, gtD, geD, gTupD, gCons2, gsNil, mCallV, mCallB, mRs, tupleD, mRetF, mChain, mScr, mScrLen, mScrIx, mMut, appD, max2D, min2D, mRng1, mRng2, rngD1, rngD2, rngOk, mItems, itemsD, mAsgN, mParEE, mParEN, mUn, negD, mCallN1, listD, unsE, powD, cPow, divD, cDiv, mFor, mSl, mSlL, slD, mNoPart, mPart, intO, mSlN, mSlNL, slN, mRevN, revO, mParNC, andD, orD, xorD, shrD, shlD, cShr, mStepN, mStepNL, stepO, mCatN, mCatNL, catN, isi_int_NoneType, isi_int_bool, isi_int_int, isi_int_str, isi_int_list, isi_int_tuple, isi_int_dict, isi_bool_NoneType, isi_bool_bool, isi_bool_int, isi_bool_str, isi_bool_list, isi_bool_tuple, isi_bool_dict, isi_str_NoneType, isi_str_bool, isi_str_int, isi_str_str, isi_str_list, isi_str_tuple, isi_str_dict, isi_list_NoneType, isi_list_bool, isi_list_int, isi_list_str, isi_list_list, isi_list_tuple, isi_list_dict, isi_tuple_NoneType, isi_tuple_bool, isi_tuple_int, isi_tuple_str, isi_tuple_list, isi_tuple_tuple, isi_tuple_dict, isi_dict_NoneType, isi_dict_bool, isi_dict_int, isi_dict_str, isi_dict_list, isi_dict_tuple, isi_dict_dict, mIsiA, isiA, ne_bool, eq_str]
theorem alike_self : ∀ (n k : Nat) (d : D), Alk n d → fn__law_alike (n + 1 + k) [d, d] = some (.ok (.bool true)) := by
  intro n k d h
  induction h with
  | int n i => rw [show n + 1 + k = n + k + 1 by omega]; exact alike_int _ i
  | bool n b => rw [show n + 1 + k = n + k + 1 by omega]; exact alike_boolv _ b
  | str n s => rw [show n + 1 + k = n + k + 1 by omega]; exact alike_strv _ s
  | tup n ds hl _ ih =>
    rw [show n + 1 + 1 + k = (n + 1 + k) + 1 by omega]
    exact alike_tup (fn__law_alike (n + 1 + k)) ds hl ih
  | lst n ds hl _ ih =>
    rw [show n + 1 + 1 + k = (n + 1 + k) + 1 by omega]
    exact alike_lst (fn__law_alike (n + 1 + k)) ds hl ih

theorem eqS (a b : Str) (ha : PyData.strOk a = true) (hb : PyData.strOk b = true) : eqD (.str a) (.str b) = some (.bool (a == b)) := by
  have e : PyData.eqv (.str a) (.str b) = (a == b) := by simp [PyData.eqv]
  simp [eqD, SeqAt.shaped, PyData.canLay0, PyData.depth, ha, hb, e]
theorem eqF {a b : String} (h : (Str.ofString a == Str.ofString b) = false) : eqD (.str (Str.ofString a)) (.str (Str.ofString b)) = some (.bool false) := by rw [eqS _ _ (strOk_of _) (strOk_of _), h]
theorem k_ss : eqD (.str "sum") (.str "sum") = some (.bool true) := eq_str _
theorem k_xs : eqD (.str "xor") (.str "sum") = some (.bool false) := eqF (by decide +kernel)
theorem k_rs : eqD (.str "rest") (.str "sum") = some (.bool false) := eqF (by decide +kernel)
theorem k_xr : eqD (.str "xor") (.str "rest") = some (.bool false) := eqF (by decide +kernel)
theorem k_rr : eqD (.str "rest") (.str "rest") = some (.bool true) := eq_str _
theorem k_xx : eqD (.str "xor") (.str "xor") = some (.bool true) := eq_str _
theorem k_rx : eqD (.str "rest") (.str "xor") = some (.bool false) := eqF (by decide +kernel)
/-! ### the program's checks -/
theorem rest_turn {x : Int} (hx : By x) (t : Sl) : L__rest_of_0 [.val (.int x), t] = some (.ok .nx [.val (.int (rs1 x)), t]) := by
  unfold rs1
  by_cases c : 256 ≤ x * 2
  · simp [L__rest_of_0, mAug, mSeq, mIf, mBol, mBin, mBinL, mBind, mLift, mPure, mPeek, mVar, ixD, iI, bolD, mAsg, mCall1, mCallN, intD, modD, iIc, cMod, mStore, mStoreO, mDone, gSet, mOwn, mPut, setD, mRet, mDrop, mStuck, mTru, truD, mOrT, mAndT, mNotT, mAnd, mOr, mNot, mIsi, isiT_eq, typD, lenD, mCons, mTup, mLst, mLstN, mVal, oOr, addD, subD, mulD, mulI, iIc, cMul, ltD, leD, gtD, gTupD, gCons2, gsNil, mCallV, mCallB, mRs, tupleD, mRetF, mChain, mScr, mScrLen, mScrIx, mMut, appD, max2D, min2D, mRng1, mRng2, rngD1, rngD2, rngOk, mItems, itemsD, mAsgN, mParEE, mParEN, mUn, negD, mCallN1, listD, unsE, powD, cPow, divD, cDiv, mFor, mSl, mSlL, slD, mNoPart, mPart, intO, mSlN, mSlNL, slN, mRevN, revO, mParNC, andD, orD, xorD, shrD, shlD, cShr, mStepN, mStepNL, stepO, mCatN, mCatNL, catN, geD, c]
  · simp [L__rest_of_0, mAug, mSeq, mIf, mBol, mBin, mBinL, mBind, mLift, mPure, mPeek, mVar, ixD, iI, bolD, mAsg, mCall1, mCallN, intD, modD, iIc, cMod, mStore, mStoreO, mDone, gSet, mOwn, mPut, setD, mRet, mDrop, mStuck, mTru, truD, mOrT, mAndT, mNotT, mAnd, mOr, mNot, mIsi, isiT_eq, typD, lenD, mCons, mTup, mLst, mLstN, mVal, oOr, addD, subD, mulD, mulI, iIc, cMul, ltD, leD, gtD, gTupD, gCons2, gsNil, mCallV, mCallB, mRs, tupleD, mRetF, mChain, mScr, mScrLen, mScrIx, mMut, appD, max2D, min2D, mRng1, mRng2, rngD1, rngD2, rngOk, mItems, itemsD, mAsgN, mParEE, mParEN, mUn, negD, mCallN1, listD, unsE, powD, cPow, divD, cDiv, mFor, mSl, mSlL, slD, mNoPart, mPart, intO, mSlN, mSlNL, slN, mRevN, revO, mParNC, andD, orD, xorD, shrD, shlD, cShr, mStepN, mStepNL, stepO, mCatN, mCatNL, catN, geD, c]
theorem rest_loop : ∀ (ds : List D) (x : Int) (t : Sl), By x → ∃ t', mForL (mStore 1) L__rest_of_0 ds [.val (.int x), t] = some (.ok .nx [.val (.int (rsN ds.length x)), t'])
  | [], x, t, _ => ⟨t, rfl⟩
  | d :: ds, x, t, hx => by
    obtain ⟨t', h⟩ := rest_loop ds (rs1 x) (.val d) (rs1_by hx)
    refine ⟨t', ?_⟩
    have h1 : mStore 1 d [.val (.int x), t] = some (.ok () [.val (.int x), .val d]) := by simp [mStore]
    unfold mForL
    rw [bind_is h1, bind_is (rest_turn hx (.val d))]
    exact h
theorem rest_ok {x : Int} (hx : By x) : fn__rest_of [.int x] = some (.ok (.int (rsN 8 x))) := by
  obtain ⟨t, h⟩ := rest_loop (rngL 0 8) x .un hx
  have hr : mRng1 (mCons (mPure (.int 8)) (mPure [])) [.val (.int x), .un] = some (.ok (rngL 0 8) [.val (.int x), .un]) := rng1_is (by simp [mCons, mBind, mPure]) (rngOk_le (by omega) (by omega))
  rw [show (rngL 0 8).length = 8 from rfl] at h
  have hR : R__rest_of_0 [.val (.int x), .un] = some (.ok .nx [.val (.int (rsN 8 x)), t]) := by
    unfold R__rest_of_0 mFor
    rw [bind_is hr]
    exact h
  generalize rsN 8 x = y at *
  simp [fn__rest_of, runV, m__rest_of, env0, mSeq, mIf, mBol, mBin, mBinL, mBind, mLift, mPure, mPeek, mVar, ixD, iI, bolD, mAsg, mCall1, mCallN, intD, modD, iIc, cMod, mStore, mStoreO, mDone, gSet, mOwn, mPut, setD, mRet, mDrop, mStuck, mTru, truD, mOrT, mAndT, mNotT, mAnd, mOr, mNot, mIsi, isiT_eq, typD, lenD, mCons, mTup, mLst, mLstN, mVal, oOr, addD, subD, mulD, mulI, iIc, cMul, ltD, leD, gtD, geD, gTupD, gCons2, gsNil, mCallV, mCallB, mRs, tupleD, mRetF, mChain, mScr, mScrLen, mScrIx, mMut, appD, max2D, min2D, mRng1, mRng2, rngD1, rngD2, rngOk, mItems, itemsD, mAsgN, mParEE, mParEN, mUn, negD, mCallN1, listD, unsE, powD, cPow, divD, cDiv, mFor, mSl, mSlL, slD, mNoPart, mPart, intO, mSlN, mSlNL, slN, mRevN, revO, mParNC, andD, orD, xorD, shrD, shlD, cShr, mStepN, mStepNL, stepO, mCatN, mCatNL, catN, hR]
theorem xor_loop {V : D} : ∀ (ns : List Int) (c : Int) (t : Sl), (∀ n ∈ ns, By n) → By c → ∃ t', mForL (mStore 3) L_check_of_0 (ns.map PyData.int) [.val (.str "xor"), .val V, .val (.int c), t] = some (.ok .nx [.val (.str "xor"), .val V, .val (.int (xorF ns c)), t'])
  | [], c, t, _, _ => ⟨t, rfl⟩
  | n :: ns, c, t, hn, hc => by
    have h0 := hn n List.mem_cons_self
    obtain ⟨t', h⟩ := xor_loop (V := V) ns (Builtin.bitXor c n) (.val (.int n)) (fun z hz => hn z (List.mem_cons_of_mem _ hz)) (xor_by hc h0).1
    refine ⟨t', ?_⟩
    have h1 : mStore 3 (.int n) [.val (.str "xor"), .val V, .val (.int c), t] = some (.ok () [.val (.str "xor"), .val V, .val (.int c), .val (.int n)]) := by simp [mStore]
    have h2 : L_check_of_0 [.val (.str "xor"), .val V, .val (.int c), .val (.int n)] = some (.ok .nx [.val (.str "xor"), .val V, .val (.int (Builtin.bitXor c n)), .val (.int n)]) := by
      simp [L_check_of_0, mAug, mSeq, mIf, mBol, mBin, mBinL, mBind, mLift, mPure, mPeek, mVar, ixD, iI, bolD, mAsg, mCall1, mCallN, intD, modD, iIc, cMod, mStore, mStoreO, mDone, gSet, mOwn, mPut, setD, mRet, mDrop, mStuck, mTru, truD, mOrT, mAndT, mNotT, mAnd, mOr, mNot, mIsi, isiT_eq, typD, lenD, mCons, mTup, mLst, mLstN, mVal, oOr, addD, subD, mulD, mulI, iIc, cMul, ltD, leD, gtD, geD, gTupD, gCons2, gsNil, mCallV, mCallB, mRs, tupleD, mRetF, mChain, mScr, mScrLen, mScrIx, mMut, appD, max2D, min2D, mRng1, mRng2, rngD1, rngD2, rngOk, mItems, itemsD, mAsgN, mParEE, mParEN, mUn, negD, mCallN1, listD, unsE, powD, cPow, divD, cDiv, mFor, mSl, mSlL, slD, mNoPart, mPart, intO, mSlN, mSlNL, slN, mRevN, revO, mParNC, andD, orD, xorD, shrD, shlD, cShr, mStepN, mStepNL, stepO, mCatN, mCatNL, catN, k_xr]
    rw [List.map_cons]
    unfold mForL
    rw [bind_is h1, bind_is h2]
    exact h
theorem restc_loop {V : D} (f : Int → Int) (hf : ∀ x, By x → fn__rest_of [.int x] = some (.ok (.int (f x))) ∧ By (f x)) : ∀ (ns : List Int) (c : Int) (t : Sl), (∀ n ∈ ns, By n) → By c → ∃ t', mForL (mStore 3) L_check_of_0 (ns.map PyData.int) [.val (.str "rest"), .val V, .val (.int c), t] = some (.ok .nx [.val (.str "rest"), .val V, .val (.int (restG f ns c)), t'])
  | [], c, t, _, _ => ⟨t, rfl⟩
  | n :: ns, c, t, hn, hc => by
    have h0 := hn n List.mem_cons_self
    have hx := (xor_by hc h0).1
    obtain ⟨hr, hb⟩ := hf _ hx
    obtain ⟨t', h⟩ := restc_loop (V := V) f hf ns (f (Builtin.bitXor c n)) (.val (.int n)) (fun z hz => hn z (List.mem_cons_of_mem _ hz)) hb
    refine ⟨t', ?_⟩
    have h1 : mStore 3 (.int n) [.val (.str "rest"), .val V, .val (.int c), t] = some (.ok () [.val (.str "rest"), .val V, .val (.int c), .val (.int n)]) := by simp [mStore]
    have h2 : L_check_of_0 [.val (.str "rest"), .val V, .val (.int c), .val (.int n)] = some (.ok .nx [.val (.str "rest"), .val V, .val (.int (f (Builtin.bitXor c n))), .val (.int n)]) := by
      simp [L_check_of_0, mAug, mSeq, mIf, mBol, mBin, mBinL, mBind, mLift, mPure, mPeek, mVar, ixD, iI, bolD, mAsg, mCall1, mCallN, intD, modD, iIc, cMod, mStore, mStoreO, mDone, gSet, mOwn, mPut, setD, mRet, mDrop, mStuck, mTru, truD, mOrT, mAndT, mNotT, mAnd, mOr, mNot, mIsi, isiT_eq, typD, lenD, mCons, mTup, mLst, mLstN, mVal, oOr, addD, subD, mulD, mulI, iIc, cMul, ltD, leD, gtD, geD, gTupD, gCons2, gsNil, mCallV, mCallB, mRs, tupleD, mRetF, mChain, mScr, mScrLen, mScrIx, mMut, appD, max2D, min2D, mRng1, mRng2, rngD1, rngD2, rngOk, mItems, itemsD, mAsgN, mParEE, mParEN, mUn, negD, mCallN1, listD, unsE, powD, cPow, divD, cDiv, mFor, mSl, mSlL, slD, mNoPart, mPart, intO, mSlN, mSlNL, slN, mRevN, revO, mParNC, andD, orD, xorD, shrD, shlD, cShr, mStepN, mStepNL, stepO, mCatN, mCatNL, catN, k_rr, hr]
    rw [List.map_cons]
    unfold mForL
    rw [bind_is h1, bind_is h2]
    exact h
def chk (k : String) (ns : List Int) : Int := if k = "sum" then ns.sum % 256 else if k = "xor" then xorF ns 0 else restF ns 0
theorem by0 : By 0 := ⟨by decide, by decide⟩
theorem sum_nn : ∀ ns : List Int, (∀ n ∈ ns, By n) → 0 ≤ ns.sum
  | [], _ => Int.le_refl _
  | n :: ns, h => by
    have := sum_nn ns fun z hz => h z (List.mem_cons_of_mem _ hz)
    have := (h n List.mem_cons_self).1
    rw [List.sum_cons]
    omega
theorem sumA_of {V : D} {ns : List Int} (hV : V = .list (ns.map PyData.int) ∨ V = .tuple (ns.map PyData.int)) : sumA [V] = some (.int ns.sum) := by
  rcases hV with rfl | rfl <;> simp [sumA, cOr, sumD, sumT, toInts_map]
theorem items_of {V : D} {ns : List Int} (hV : V = .list (ns.map PyData.int) ∨ V = .tuple (ns.map PyData.int)) : itemsD V = some (ns.map PyData.int) := by
  rcases hV with rfl | rfl <;> rfl
theorem check_sum {V : D} {ns : List Int} (hV : V = .list (ns.map PyData.int) ∨ V = .tuple (ns.map PyData.int)) (hn : ∀ n ∈ ns, By n) : fn_check_of [.str "sum", V] = some (.ok (.int (ns.sum % 256))) := by
  have h1 := sumA_of hV
  simp [fn_check_of, runV, m_check_of, env0, mSeq, mIf, mBol, mBin, mBinL, mBind, mLift, mPure, mPeek, mVar, ixD, iI, bolD, mAsg, mCall1, mCallN, intD, modD, iIc, cMod, mStore, mStoreO, mDone, gSet, mOwn, mPut, setD, mRet, mDrop, mStuck, mTru, truD, mOrT, mAndT, mNotT, mAnd, mOr, mNot, mIsi, isiT_eq, typD, lenD, mCons, mTup, mLst, mLstN, mVal, oOr, addD, subD, mulD, mulI, iIc, cMul, ltD, leD, gtD, geD, gTupD, gCons2, gsNil, mCallV, mCallB, mRs, tupleD, mRetF, mChain, mScr, mScrLen, mScrIx, mMut, appD, max2D, min2D, mRng1, mRng2, rngD1, rngD2, rngOk, mItems, itemsD, mAsgN, mParEE, mParEN, mUn, negD, mCallN1, listD, unsE, powD, cPow, divD, cDiv, mFor, mSl, mSlL, slD, mNoPart, mPart, intO, mSlN, mSlNL, slN, mRevN, revO, mParNC, andD, orD, xorD, shrD, shlD, cShr, mStepN, mStepNL, stepO, mCatN, mCatNL, catN, k_ss, h1, PyProof.Rows.bitAnd_m8]
theorem check_xor {V : D} {ns : List Int} (hV : V = .list (ns.map PyData.int) ∨ V = .tuple (ns.map PyData.int)) (hn : ∀ n ∈ ns, By n) : fn_check_of [.str "xor", V] = some (.ok (.int (xorF ns 0))) := by
  obtain ⟨t, h⟩ := xor_loop (V := V) ns 0 .un hn by0
  have hR : R_check_of_0 [.val (.str "xor"), .val V, .val (.int 0), .un] = some (.ok .nx [.val (.str "xor"), .val V, .val (.int (xorF ns 0)), t]) := by
    unfold R_check_of_0 mFor
    have e : mItems (mVar 1) [.val (.str "xor"), .val V, .val (.int 0), .un] = some (.ok (ns.map PyData.int) [.val (.str "xor"), .val V, .val (.int 0), .un]) := by
      simp [mItems, mVar, mBind, mLift, items_of hV]
    rw [bind_is e]
    exact h
  simp [fn_check_of, runV, m_check_of, env0, mSeq, mIf, mBol, mBin, mBinL, mBind, mLift, mPure, mPeek, mVar, ixD, iI, bolD, mAsg, mCall1, mCallN, intD, modD, iIc, cMod, mStore, mStoreO, mDone, gSet, mOwn, mPut, setD, mRet, mDrop, mStuck, mTru, truD, mOrT, mAndT, mNotT, mAnd, mOr, mNot, mIsi, isiT_eq, typD, lenD, mCons, mTup, mLst, mLstN, mVal, oOr, addD, subD, mulD, mulI, iIc, cMul, ltD, leD, gtD, geD, gTupD, gCons2, gsNil, mCallV, mCallB, mRs, tupleD, mRetF, mChain, mScr, mScrLen, mScrIx, mMut, appD, max2D, min2D, mRng1, mRng2, rngD1, rngD2, rngOk, mItems, itemsD, mAsgN, mParEE, mParEN, mUn, negD, mCallN1, listD, unsE, powD, cPow, divD, cDiv, mFor, mSl, mSlL, slD, mNoPart, mPart, intO, mSlN, mSlNL, slN, mRevN, revO, mParNC, andD, orD, xorD, shrD, shlD, cShr, mStepN, mStepNL, stepO, mCatN, mCatNL, catN, k_xs, hR]
theorem check_rest {V : D} {ns : List Int} (hV : V = .list (ns.map PyData.int) ∨ V = .tuple (ns.map PyData.int)) (hn : ∀ n ∈ ns, By n) : fn_check_of [.str "rest", V] = some (.ok (.int (restF ns 0))) := by
  obtain ⟨f, hf⟩ : ∃ f, f = rsN 8 := ⟨_, rfl⟩
  have q : ∀ x, By x → fn__rest_of [.int x] = some (.ok (.int (f x))) ∧ By (f x) := fun x hx => by
    rw [hf]
    exact ⟨rest_ok hx, (rest_by hx).1⟩
  obtain ⟨t, h⟩ := restc_loop (V := V) f q ns 0 .un hn by0
  have hR : R_check_of_0 [.val (.str "rest"), .val V, .val (.int 0), .un] = some (.ok .nx [.val (.str "rest"), .val V, .val (.int (restG f ns 0)), t]) := by
    unfold R_check_of_0 mFor
    have e : mItems (mVar 1) [.val (.str "rest"), .val V, .val (.int 0), .un] = some (.ok (ns.map PyData.int) [.val (.str "rest"), .val V, .val (.int 0), .un]) := by
      simp [mItems, mVar, mBind, mLift, items_of hV]
    rw [bind_is e]
    exact h
  have hz : restF ns 0 = restG f ns 0 := by rw [hf]
  rw [hz]
  simp [fn_check_of, runV, m_check_of, env0, mSeq, mIf, mBol, mBin, mBinL, mBind, mLift, mPure, mPeek, mVar, ixD, iI, bolD, mAsg, mCall1, mCallN, intD, modD, iIc, cMod, mStore, mStoreO, mDone, gSet, mOwn, mPut, setD, mRet, mDrop, mStuck, mTru, truD, mOrT, mAndT, mNotT, mAnd, mOr, mNot, mIsi, isiT_eq, typD, lenD, mCons, mTup, mLst, mLstN, mVal, oOr, addD, subD, mulD, mulI, iIc, cMul, ltD, leD, gtD, geD, gTupD, gCons2, gsNil, mCallV, mCallB, mRs, tupleD, mRetF, mChain, mScr, mScrLen, mScrIx, mMut, appD, max2D, min2D, mRng1, mRng2, rngD1, rngD2, rngOk, mItems, itemsD, mAsgN, mParEE, mParEN, mUn, negD, mCallN1, listD, unsE, powD, cPow, divD, cDiv, mFor, mSl, mSlL, slD, mNoPart, mPart, intO, mSlN, mSlNL, slN, mRevN, revO, mParNC, andD, orD, xorD, shrD, shlD, cShr, mStepN, mStepNL, stepO, mCatN, mCatNL, catN, k_rs, hR]
/-! ### the law's checks -/
theorem bits_comp {k V L : D} {n : Int} {s2 s4 s5 s6 s7 : Sl} (hn : By n) : C__law_check_0 [.val k, .val V, s2, .val (.int n), s4, s5, s6, s7, .un] = some (.ok ((bits8 n).map PyData.int) [.val k, .val V, s2, .val (.int n), s4, s5, s6, s7, .un]) := by
  have e : (bits8 n).map PyData.int = ([128, 64, 32, 16, 8, 4, 2, 1] : List Int).map fun b => PyData.int (n / b % 2) := by
    simp [bits8]
  rw [e]
  refine comp_is (ds := ([128, 64, 32, 16, 8, 4, 2, 1] : List Int).map PyData.int) (ρ1 := [.val k, .val V, s2, .val (.int n), s4, s5, s6, s7, .un]) (ρe := [.val k, .val V, s2, .val (.int n), s4, s5, s6, s7, .un]) (by simp [mSeq, mIf, mBol, mBin, mBinL, mBind, mLift, mPure, mPeek, mVar, ixD, iI, bolD, mAsg, mCall1, mCallN, intD, modD, iIc, cMod, mStore, mStoreO, mDone, gSet, mOwn, mPut, setD, mRet, mDrop, mStuck, mTru, truD, mOrT, mAndT, mNotT, mAnd, mOr, mNot, mIsi, isiT_eq, typD, lenD, mCons, mTup, mLst, mLstN, mVal, oOr, addD, subD, mulD, mulI, iIc, cMul, ltD, leD, gtD, geD, gTupD, gCons2, gsNil, mCallV, mCallB, mRs, tupleD, mRetF, mChain, mScr, mScrLen, mScrIx, mMut, appD, max2D, min2D, mRng1, mRng2, rngD1, rngD2, rngOk, mItems, itemsD, mAsgN, mParEE, mParEN, mUn, negD, mCallN1, listD, unsE, powD, cPow, divD, cDiv, mFor, mSl, mSlL, slD, mNoPart, mPart, intO, mSlN, mSlNL, slN, mRevN, revO, mParNC, andD, orD, xorD, shrD, shlD, cShr, mStepN, mStepNL, stepO, mCatN, mCatNL, catN, fit]) (by decide) ?_
  refine go_mapA PyData.int (fun b => PyData.int (n / b % 2)) _ fun b hb => ?_
  have hb2 : 0 < b ∧ b.natAbs < 1152921504606846976 := by
    simp only [List.mem_cons, List.not_mem_nil, or_false] at hb
    rcases hb with rfl | rfl | rfl | rfl | rfl | rfl | rfl | rfl <;> decide
  exact ⟨[.val k, .val V, s2, .val (.int n), s4, s5, s6, s7, .val (.int b)], [.val k, .val V, s2, .val (.int n), s4, s5, s6, s7, .val (.int b)], by simp [mStore, unsE], by simp [mSeq, mIf, mBol, mBin, mBinL, mBind, mLift, mPure, mPeek, mVar, ixD, iI, bolD, mAsg, mCall1, mCallN, intD, modD, iIc, cMod, mStore, mStoreO, mDone, gSet, mOwn, mPut, setD, mRet, mDrop, mStuck, mTru, truD, mOrT, mAndT, mNotT, mAnd, mOr, mNot, mIsi, isiT_eq, typD, lenD, mCons, mTup, mLst, mLstN, mVal, oOr, addD, subD, mulD, mulI, iIc, cMul, ltD, leD, gtD, geD, gTupD, gCons2, gsNil, mCallV, mCallB, mRs, tupleD, mRetF, mChain, mScr, mScrLen, mScrIx, mMut, appD, max2D, min2D, mRng1, mRng2, rngD1, rngD2, rngOk, mItems, itemsD, mAsgN, mParEE, mParEN, mUn, negD, mCallN1, listD, unsE, powD, cPow, divD, cDiv, mFor, mSl, mSlL, slD, mNoPart, mPart, intO, mSlN, mSlNL, slN, mRevN, revO, mParNC, andD, orD, xorD, shrD, shlD, cShr, mStepN, mStepNL, stepO, mCatN, mCatNL, catN, hb2.1, hb2.2], by simp [unsE]⟩

theorem ixN_at {n : Nat} {a : Int} (h0 : 0 ≤ a) (h1 : a < n) : ixN n a = some a.toNat := by
  unfold ixN
  rw [if_pos h0, if_pos h1]
theorem bits_turn {K V : D} {bs : List Int} {n : Int} {s4 s5 s6 s7 : Sl} (hn : By n) (hl : bs.length ≤ 1000000) : L__law_check_0 [.val K, .val V, .own (bs.map PyData.int), .val (.int n), s4, s5, s6, s7, .un] = some (.ok .nx [.val K, .val V, .own ((bs ++ bits8 n).map PyData.int), .val (.int n), s4, s5, s6, s7, .un]) := by
  have h := bits_comp (k := K) (V := V) (L := .none) (s2 := .own (bs.map PyData.int)) (s4 := s4) (s5 := s5) (s6 := s6) (s7 := s7) hn
  have hf : fit ((bs.map PyData.int).length + ((bits8 n).map PyData.int).length) = true := by
    rw [List.length_map, List.length_map, bits_len]
    exact decide_eq_true (by omega)
  rw [List.map_append]
  generalize (bits8 n).map PyData.int = x at *
  generalize bs.map PyData.int = y at *
  simp [L__law_check_0, mAsgN, mCatNL, mBind, mPeek, mVal, mPure, h, catN, hf, mLift, mStoreO, mDone]
theorem bits_loop {K V : D} : ∀ (ns bs : List Int) (s3 s4 s5 s6 s7 : Sl), (∀ n ∈ ns, By n) → bs.length + 8 * ns.length ≤ 1000000 → ∃ s3', mForL (mStore 3) L__law_check_0 (ns.map PyData.int) [.val K, .val V, .own (bs.map PyData.int), s3, s4, s5, s6, s7, .un] = some (.ok .nx [.val K, .val V, .own ((bs ++ flt ns).map PyData.int), s3', s4, s5, s6, s7, .un])
  | [], bs, s3, s4, s5, s6, s7, _, _ => ⟨s3, by show some _ = some _; rw [show flt [] = [] from rfl, List.append_nil]⟩
  | n :: ns, bs, s3, s4, s5, s6, s7, hn, hl => by
    simp only [List.length_cons] at hl
    have h0 := hn n List.mem_cons_self
    obtain ⟨s3', h⟩ := bits_loop (K := K) (V := V) ns (bs ++ bits8 n) (.val (.int n)) s4 s5 s6 s7 (fun z hz => hn z (List.mem_cons_of_mem _ hz)) (by rw [List.length_append, bits_len]; omega)
    refine ⟨s3', ?_⟩
    have h1 : mStore 3 (.int n) [.val K, .val V, .own (bs.map PyData.int), s3, s4, s5, s6, s7, .un] = some (.ok () [.val K, .val V, .own (bs.map PyData.int), .val (.int n), s4, s5, s6, s7, .un]) := by simp [mStore]
    have h2 := bits_turn (K := K) (V := V) (bs := bs) (s4 := s4) (s5 := s5) (s6 := s6) (s7 := s7) h0 (by omega)
    rw [List.map_cons]
    unfold mForL
    rw [bind_is h1, bind_is h2]
    rw [List.append_assoc] at h
    exact h
theorem col_comp {K V : D} {ns : List Int} {s3 : Sl} (hn : ∀ n ∈ ns, By n) (hl : ns.length ≤ 1000) : C__law_check_1 [.val K, .val V, .own ((flt ns).map PyData.int), s3, .un, .un, .un, .un, .un] = some (.ok ((bits8 (xorF ns 0)).map PyData.int) [.val K, .val V, .own ((flt ns).map PyData.int), s3, .un, .un, .un, .un, .un]) := by
  obtain ⟨_, hb⟩ := xorF_bits ns 0 hn by0
  have e : (bits8 (xorF ns 0)).map PyData.int = (List.range 8).map fun j => PyData.int (colN ns j % 2) := by
    have e1 : bits8 (xorF ns 0) = (List.range 8).map fun j => colN ns j % 2 := by
      refine List.ext_getElem? fun j => ?_
      by_cases h : j < 8
      · have h2 := hb j h
        rw [List.getD_eq_getElem?_getD, List.getElem?_eq_getElem (show j < (bits8 (xorF ns 0)).length from h)] at h2
        rw [List.getElem?_eq_getElem (show j < (bits8 (xorF ns 0)).length from h), List.getElem?_map, List.getElem?_range h]
        have h3 : (bits8 0).getD j 0 = 0 := by
          have : ∀ i : Fin 8, (bits8 0).getD i.val 0 = 0 := by decide
          exact this ⟨j, h⟩
        rw [h3, Int.zero_add] at h2
        exact congrArg some h2
      · rw [List.getElem?_eq_none (by rw [bits_len]; omega), List.getElem?_eq_none (by simp; omega)]
    rw [e1, List.map_map]; rfl
  rw [e]
  have e8 : rngL 0 8 = (List.range 8).map fun j => PyData.int (j : Nat) := rfl
  refine comp_is (ds := rngL 0 8) (ρ1 := [.val K, .val V, .own ((flt ns).map PyData.int), s3, .un, .un, .un, .un, .un]) (ρe := [.val K, .val V, .own ((flt ns).map PyData.int), s3, .un, .un, .un, .un, .un]) (rng1_is (by simp [mCons, mBind, mPure]) (rngOk_le (by omega) (by omega))) (by decide) ?_
  rw [e8]
  refine go_mapA (fun j : Nat => PyData.int (j : Nat)) (fun j => PyData.int (colN ns j % 2)) (List.range 8) fun j hj => ?_
  have hj8 := List.mem_range.mp hj
  have hp : pickL ((flt ns).map PyData.int) (some (j : Int)) none (some 8) = (ns.map fun n => (bits8 n).getD j 0).map PyData.int := by rw [pick_map, pick_flt ns hj8]
  obtain ⟨cs, hcs⟩ : ∃ cs, cs = ns.map fun n => (bits8 n).getD j 0 := ⟨_, rfl⟩
  have hcl : cs.length = ns.length := by rw [hcs, List.length_map]
  have hsum : cs.sum = colN ns j := by rw [hcs]; rfl
  rw [← hcs] at hp
  have hs : sumD [.list (cs.map PyData.int)] = some (.int (colN ns j)) := by simp [sumD, toInts_map, hsum]
  have hfit : fit (cs.map PyData.int).length = true := by rw [List.length_map]; exact decide_eq_true (by omega)
  have hst : stepO 8 (.list ((flt ns).map PyData.int)) (some (j : Int)) = some (cs.map PyData.int) := by
    unfold stepO
    dsimp only
    rw [hp, if_pos hfit]
  refine ⟨[.val K, .val V, .own ((flt ns).map PyData.int), s3, .un, .val (.int (j : Nat)), .un, .un, .un], [.val K, .val V, .own ((flt ns).map PyData.int), s3, .un, .val (.int (j : Nat)), .un, .un, .un], by simp [mStore, unsE], ?_, by simp [unsE]⟩
  generalize (flt ns).map PyData.int = fl at *
  generalize cs.map PyData.int = cl at *
  simp [mBin, mCall1, mVal, mStepNL, mPart, intO, mVar, mBind, mPeek, mLift, mPure, hst, hs, modD, iIc, cMod]
/-! the division -/
theorem flip_turn {K V : D} {L : List Int} {s3 s4 s7 s8 : Sl} {k j : Nat} (h : k + j < L.length) : L__law_check_1 [.val K, .val V, .own (L.map PyData.int), s3, s4, .val (.int (k : Nat)), .val (.int (j : Nat)), s7, s8] = some (.ok .nx [.val K, .val V, .own ((fl L (k + j)).map PyData.int), s3, s4, .val (.int (k : Nat)), .val (.int (j : Nat)), s7, s8]) := by
  have e1 : atI (L.map PyData.int) ((k : Int) + (j : Int)) = some (.int (L.getD (k + j) 0)) := atI_nat' (by omega) (by
    rw [show ((k : Int) + (j : Int)).toNat = k + j by omega, List.getElem?_map, List.getElem?_eq_getElem h, List.getD_eq_getElem?_getD, List.getElem?_eq_getElem h]; rfl)
  have e2 : ixN L.length ((k : Int) + (j : Int)) = some (k + j) := by
    rw [ixN_at (by omega) (by omega)]
    rfl
  have e3 : (L.map PyData.int).set (k + j) (.int (1 - L.getD (k + j) 0)) = (fl L (k + j)).map PyData.int := by
    unfold fl
    rw [List.map_set]
  have e4 : (L.map PyData.int).length = L.length := List.length_map _
  rw [← e3]
  generalize L.getD (k + j) 0 = v at *
  generalize L.map PyData.int = M at *
  simp [L__law_check_1, mSeq, mIf, mBol, mBin, mBinL, mBind, mLift, mPure, mPeek, mVar, ixD, iI, bolD, mAsg, mCall1, mCallN, intD, modD, iIc, cMod, mStore, mStoreO, mDone, gSet, mOwn, mPut, setD, mRet, mDrop, mStuck, mTru, truD, mOrT, mAndT, mNotT, mAnd, mOr, mNot, mIsi, isiT_eq, typD, lenD, mCons, mTup, mLst, mLstN, mVal, oOr, addD, subD, mulD, mulI, iIc, cMul, ltD, leD, gtD, geD, gTupD, gCons2, gsNil, mCallV, mCallB, mRs, tupleD, mRetF, mChain, mScr, mScrLen, mScrIx, mMut, appD, max2D, min2D, mRng1, mRng2, rngD1, rngD2, rngOk, mItems, itemsD, mAsgN, mParEE, mParEN, mUn, negD, mCallN1, listD, unsE, powD, cPow, divD, cDiv, mFor, mSl, mSlL, slD, mNoPart, mPart, intO, mSlN, mSlNL, slN, mRevN, revO, mParNC, andD, orD, xorD, shrD, shlD, cShr, mStepN, mStepNL, stepO, mCatN, mCatNL, catN, e1, e2, e4]
theorem flips_turn {K V : D} {L : List Int} {s3 s4 s6 s7 s8 : Sl} {k : Nat} (h : k + 8 < L.length) : ∃ s6', L__law_check_2 [.val K, .val V, .own (L.map PyData.int), s3, s4, .val (.int (k : Nat)), s6, s7, s8] = some (.ok .nx [.val K, .val V, .own ((stp L k).map PyData.int), s3, s4, .val (.int (k : Nat)), s6', s7, s8]) := by
  have e1 : atI (L.map PyData.int) (k : Int) = some (.int (L.getD k 0)) := atI_nat' (by omega) (by
    rw [Int.toNat_natCast, List.getElem?_map, List.getElem?_eq_getElem (show k < L.length by omega), List.getD_eq_getElem?_getD, List.getElem?_eq_getElem (show k < L.length by omega)]; rfl)
  have R : ∀ s6 : Sl, R__law_check_1 [.val K, .val V, .own (L.map PyData.int), s3, s4, .val (.int (k : Nat)), s6, s7, s8] = some (.ok .nx [.val K, .val V, .own ((fl (fl (fl (fl L k) (k + 6)) (k + 7)) (k + 8)).map PyData.int), s3, s4, .val (.int (k : Nat)), .val (.int 8), s7, s8]) := fun s6 => by
    have t0 := flip_turn (K := K) (V := V) (L := L) (s3 := s3) (s4 := s4) (s7 := s7) (s8 := s8) (k := k) (j := 0) (by omega)
    have t1 := flip_turn (K := K) (V := V) (L := fl L k) (s3 := s3) (s4 := s4) (s7 := s7) (s8 := s8) (k := k) (j := 6) (by rw [fl_len]; omega)
    have t2 := flip_turn (K := K) (V := V) (L := fl (fl L k) (k + 6)) (s3 := s3) (s4 := s4) (s7 := s7) (s8 := s8) (k := k) (j := 7) (by rw [fl_len, fl_len]; omega)
    have t3 := flip_turn (K := K) (V := V) (L := fl (fl (fl L k) (k + 6)) (k + 7)) (s3 := s3) (s4 := s4) (s7 := s7) (s8 := s8) (k := k) (j := 8) (by rw [fl_len, fl_len, fl_len]; omega)
    have st : ∀ (l : List D) (j : Nat) (s6 : Sl), mStore 6 (.int (j : Nat)) [.val K, .val V, .own l, s3, s4, .val (.int (k : Nat)), s6, s7, s8] = some (.ok () [.val K, .val V, .own l, s3, s4, .val (.int (k : Nat)), .val (.int (j : Nat)), s7, s8]) := fun l j s6 => by simp [mStore]
    have hi : mItems (mTup (mCons (mPure (.int 0)) (mCons (mPure (.int 6)) (mCons (mPure (.int 7)) (mCons (mPure (.int 8)) (mPure [])))))) [.val K, .val V, .own (L.map PyData.int), s3, s4, .val (.int (k : Nat)), s6, s7, s8] = some (.ok [.int ((0 : Nat) : Int), .int ((6 : Nat) : Int), .int ((7 : Nat) : Int), .int ((8 : Nat) : Int)] [.val K, .val V, .own (L.map PyData.int), s3, s4, .val (.int (k : Nat)), s6, s7, s8]) := by
      generalize L.map PyData.int = M
      simp [mSeq, mIf, mBol, mBin, mBinL, mBind, mLift, mPure, mPeek, mVar, ixD, iI, bolD, mAsg, mCall1, mCallN, intD, modD, iIc, cMod, mStore, mStoreO, mDone, gSet, mOwn, mPut, setD, mRet, mDrop, mStuck, mTru, truD, mOrT, mAndT, mNotT, mAnd, mOr, mNot, mIsi, isiT_eq, typD, lenD, mCons, mTup, mLst, mLstN, mVal, oOr, addD, subD, mulD, mulI, iIc, cMul, ltD, leD, gtD, geD, gTupD, gCons2, gsNil, mCallV, mCallB, mRs, tupleD, mRetF, mChain, mScr, mScrLen, mScrIx, mMut, appD, max2D, min2D, mRng1, mRng2, rngD1, rngD2, rngOk, mItems, itemsD, mAsgN, mParEE, mParEN, mUn, negD, mCallN1, listD, unsE, powD, cPow, divD, cDiv, mFor, mSl, mSlL, slD, mNoPart, mPart, intO, mSlN, mSlNL, slN, mRevN, revO, mParNC, andD, orD, xorD, shrD, shlD, cShr, mStepN, mStepNL, stepO, mCatN, mCatNL, catN, fit]
    rw [Nat.add_zero] at t0
    unfold R__law_check_1 mFor
    rw [bind_is hi]
    unfold mForL
    rw [bind_is (st _ 0 _), bind_is t0]
    show mForL (mStore 6) L__law_check_1 [.int ((6 : Nat) : Int), .int ((7 : Nat) : Int), .int ((8 : Nat) : Int)] _ = _
    unfold mForL
    rw [bind_is (st _ 6 _), bind_is t1]
    show mForL (mStore 6) L__law_check_1 [.int ((7 : Nat) : Int), .int ((8 : Nat) : Int)] _ = _
    unfold mForL
    rw [bind_is (st _ 7 _), bind_is t2]
    show mForL (mStore 6) L__law_check_1 [.int ((8 : Nat) : Int)] _ = _
    unfold mForL
    rw [bind_is (st _ 8 _), bind_is t3]
    rfl
  by_cases q : L.getD k 0 = 1
  · refine ⟨.val (.int 8), ?_⟩
    have e : stp L k = fl (fl (fl (fl L k) (k + 6)) (k + 7)) (k + 8) := by unfold stp; rw [if_pos q]
    rw [e]
    rw [q] at e1
    have r := R s6
    generalize L.map PyData.int = M at *
    generalize (fl (fl (fl (fl L k) (k + 6)) (k + 7)) (k + 8)).map PyData.int = M2 at *
    simp [L__law_check_2, mSeq, mIf, mBol, mBin, mBinL, mBind, mLift, mPure, mPeek, mVar, ixD, iI, bolD, mAsg, mCall1, mCallN, intD, modD, iIc, cMod, mStore, mStoreO, mDone, gSet, mOwn, mPut, setD, mRet, mDrop, mStuck, mTru, truD, mOrT, mAndT, mNotT, mAnd, mOr, mNot, mIsi, isiT_eq, typD, lenD, mCons, mTup, mLst, mLstN, mVal, oOr, addD, subD, mulD, mulI, iIc, cMul, ltD, leD, gtD, geD, gTupD, gCons2, gsNil, mCallV, mCallB, mRs, tupleD, mRetF, mChain, mScr, mScrLen, mScrIx, mMut, appD, max2D, min2D, mRng1, mRng2, rngD1, rngD2, rngOk, mItems, itemsD, mAsgN, mParEE, mParEN, mUn, negD, mCallN1, listD, unsE, powD, cPow, divD, cDiv, mFor, mSl, mSlL, slD, mNoPart, mPart, intO, mSlN, mSlNL, slN, mRevN, revO, mParNC, andD, orD, xorD, shrD, shlD, cShr, mStepN, mStepNL, stepO, mCatN, mCatNL, catN, e1, eq_int, r]
  · refine ⟨s6, ?_⟩
    have e : stp L k = L := by unfold stp; rw [if_neg q]
    rw [e]
    have q' : decide (L.getD k 0 = 1) = false := decide_eq_false q
    generalize L.getD k 0 = v at *
    generalize L.map PyData.int = M at *
    simp [L__law_check_2, mSeq, mIf, mBol, mBin, mBinL, mBind, mLift, mPure, mPeek, mVar, ixD, iI, bolD, mAsg, mCall1, mCallN, intD, modD, iIc, cMod, mStore, mStoreO, mDone, gSet, mOwn, mPut, setD, mRet, mDrop, mStuck, mTru, truD, mOrT, mAndT, mNotT, mAnd, mOr, mNot, mIsi, isiT_eq, typD, lenD, mCons, mTup, mLst, mLstN, mVal, oOr, addD, subD, mulD, mulI, iIc, cMul, ltD, leD, gtD, geD, gTupD, gCons2, gsNil, mCallV, mCallB, mRs, tupleD, mRetF, mChain, mScr, mScrLen, mScrIx, mMut, appD, max2D, min2D, mRng1, mRng2, rngD1, rngD2, rngOk, mItems, itemsD, mAsgN, mParEE, mParEN, mUn, negD, mCallN1, listD, unsE, powD, cPow, divD, cDiv, mFor, mSl, mSlL, slD, mNoPart, mPart, intO, mSlN, mSlNL, slN, mRevN, revO, mParNC, andD, orD, xorD, shrD, shlD, cShr, mStepN, mStepNL, stepO, mCatN, mCatNL, catN, e1, eq_int, q']
theorem fold_stp_len : ∀ (ks : List Nat) (L : List Int), (ks.foldl stp L).length = L.length
  | [], _ => rfl
  | k :: ks, L => by rw [List.foldl_cons, fold_stp_len ks, stp_len]
theorem div_loop {K V : D} {L : List Int} {s3 s4 s5 s6 s7 s8 : Sl} {n : Nat} (h : n + 8 ≤ L.length) : ∃ s5' s6', mForL (mStore 5) L__law_check_2 (rngL 0 (n : Int)) [.val K, .val V, .own (L.map PyData.int), s3, s4, s5, s6, s7, s8] = some (.ok .nx [.val K, .val V, .own (((List.range n).foldl stp L).map PyData.int), s3, s4, s5', s6', s7, s8]) := by
  obtain ⟨ρ', h1, h2⟩ := forL_ix (g := mStore 5) (body := L__law_check_2) (fun i ρ => ∃ s5 s6, ρ = [.val K, .val V, .own (((List.range i).foldl stp L).map PyData.int), s3, s4, s5, s6, s7, s8]) (rngL 0 (n : Int)) 0 _ ⟨s5, s6, rfl⟩ (by
    rintro j d ρ hd ⟨a, b, rfl⟩
    obtain ⟨rfl, hj⟩ := rngL_get hd
    rw [Nat.zero_add]
    obtain ⟨c, q⟩ := flips_turn (K := K) (V := V) (L := (List.range j).foldl stp L) (s3 := s3) (s4 := s4) (s6 := b) (s7 := s7) (s8 := s8) (k := j) (by rw [fold_stp_len]; omega)
    refine ⟨[.val K, .val V, .own (((List.range j).foldl stp L).map PyData.int), s3, s4, .val (.int (j : Nat)), b, s7, s8], _, ?_, Or.inl q, .val (.int (j : Nat)), c, ?_⟩
    · rw [Int.zero_add]; simp [mStore]
    · rw [List.range_succ, List.foldl_append]; rfl)
  obtain ⟨a, b, rfl⟩ := h2
  refine ⟨a, b, ?_⟩
  rw [rngL_len, Nat.zero_add] at h1
  exact h1

theorem neT {a b : String} (h : (Str.ofString a == Str.ofString b) = false) : neD (.str (Str.ofString a)) (.str (Str.ofString b)) = some (.bool true) := by
  have e : PyData.eqv (.str (Str.ofString a)) (.str (Str.ofString b)) = (Str.ofString a == Str.ofString b) := by simp [PyData.eqv]
  simp [neD, SeqAt.shaped, PyData.canLay0, PyData.depth, strOk_of, e, h]
theorem ne_same (s : String) : neD (.str (Str.ofString s)) (.str (Str.ofString s)) = some (.bool false) := by
  have e : PyData.eqv (.str (Str.ofString s)) (.str (Str.ofString s)) = true := by simp [PyData.eqv]
  simp [neD, SeqAt.shaped, PyData.canLay0, PyData.depth, strOk_of, e]

/-! ### loops and comprehensions once more -/
/-- a comprehension over other things than data, with an if -/
theorem go_fm {α : Type} {vs : List Nat} {g : D → M Unit} {tt : M Bool} {te : M D} {ρ : En} (N : α → D) (O : α → List D) : ∀ (as : List α),
    (∀ a ∈ as, ∃ ρ1 ρ2 k, g (N a) ρ = some (.ok () ρ1) ∧ tt ρ1 = some (.ok k ρ2) ∧ (k = true → ∃ y ρ3, te ρ2 = some (.ok y ρ3) ∧ unsE ρ3 vs = ρ ∧ O a = [y]) ∧ (k = false → unsE ρ2 vs = ρ ∧ O a = [])) →
    mGo vs g tt te (as.map N) ρ = some (.ok (as.flatMap O) ρ)
  | [], _ => rfl
  | a :: as, h => by
    obtain ⟨ρ1, ρ2, k, e1, e2, h3, h4⟩ := h a List.mem_cons_self
    have ih := go_fm (vs := vs) (g := g) (tt := tt) (te := te) N O as fun x hx => h x (List.mem_cons_of_mem _ hx)
    rw [List.map_cons, List.flatMap_cons]
    unfold mGo
    rw [bind_is e1, bind_is e2]
    cases k with
    | true =>
      obtain ⟨y, ρ3, e3, e4, e5⟩ := h3 rfl
      have e6 : (mBind te fun y => mPure [y]) ρ2 = some (.ok [y] ρ3) := by rw [bind_is e3]; rfl
      have e7 : mUn_ vs ρ3 = some (.ok () ρ) := by unfold mUn_; rw [e4]
      rw [if_pos rfl, bind_is e6, bind_is e7, bind_is ih, e5]; rfl
    | false =>
      obtain ⟨e4, e5⟩ := h4 rfl
      have e6 : (mPure [] : M (List D)) ρ2 = some (.ok [] ρ2) := rfl
      have e7 : mUn_ vs ρ2 = some (.ok () ρ) := by unfold mUn_; rw [e4]
      rw [if_neg (by simp), bind_is e6, bind_is e7, bind_is ih, e5]; rfl
/-- enumerate -/
theorem enum_map {α : Type} (f : α → D) (as : List α) : enumL (as.map f) = as.zipIdx.map fun p => .tuple [.int (p.2 : Nat), f p.1] := by
  unfold enumL
  apply List.ext_getElem?
  intro i
  rw [List.getElem?_map, List.getElem?_map, List.length_map, List.getElem?_zipIdx]
  rcases Nat.lt_or_ge i as.length with h | h
  · rw [List.getElem?_range h, List.getElem?_eq_getElem h]
    simp [List.getD_eq_getElem?_getD, List.getElem?_eq_getElem h]
  · rw [List.getElem?_eq_none (by simpa using h), List.getElem?_eq_none h]; rfl
theorem rngL_nat (n : Nat) : rngL 0 (n : Int) = (List.range n).map fun i => PyData.int (i : Nat) := by
  unfold rngL
  rw [show ((n : Int) - 0).toNat = n by omega]
  apply List.map_congr_left
  intro i _
  rw [Int.zero_add]
theorem zipWith_zip {α β γ : Type} (f : α → β → γ) : ∀ (xs : List α) (ys : List β), List.zipWith f xs ys = (xs.zip ys).map fun p => f p.1 p.2
  | [], _ => rfl
  | _ :: _, [] => rfl
  | x :: xs, y :: ys => by
    rw [List.zipWith_cons_cons, List.zip_cons_cons, List.map_cons, zipWith_zip f xs ys]
theorem cut_mid (M : List D) {a b : Nat} (h : a ≤ b) : cutL M (some (a : Nat)) (some (b : Nat)) = (M.drop a).take (b - a) := by
  unfold cutL HT.sIx
  dsimp only
  rw [if_neg (by omega), if_neg (by omega), Int.toNat_natCast, Int.toNat_natCast]
  rcases Nat.lt_or_ge M.length a with q | q
  · rw [Nat.min_eq_right (Nat.le_of_lt q), List.drop_of_length_le (Nat.le_refl _), List.drop_of_length_le (Nat.le_of_lt q), List.take_nil, List.take_nil]
  · rw [Nat.min_eq_left q]
    rcases Nat.lt_or_ge M.length b with z | z
    · rw [Nat.min_eq_right (Nat.le_of_lt z), List.take_of_length_le (by rw [List.length_drop]; exact Nat.le_refl _), List.take_of_length_le (by rw [List.length_drop]; omega)]
    · rw [Nat.min_eq_left z]
theorem cut_take (M : List D) (b : Nat) : cutL M none (some (b : Nat)) = M.take b := by
  unfold cutL HT.sIx
  dsimp only
  rw [if_neg (by omega), Int.toNat_natCast, List.drop_zero]
  rcases Nat.lt_or_ge M.length b with z | z
  · rw [Nat.min_eq_right (Nat.le_of_lt z), List.take_of_length_le (by simp), List.take_of_length_le (Nat.le_of_lt z)]
  · rw [Nat.min_eq_left z, Nat.sub_zero]
theorem cut_drop (M : List D) (a : Nat) : cutL M (some (a : Nat)) none = M.drop a := by
  unfold cutL HT.sIx
  dsimp only
  rw [if_neg (by omega), Int.toNat_natCast]
  rcases Nat.lt_or_ge M.length a with q | q
  · rw [Nat.min_eq_right (Nat.le_of_lt q), List.drop_of_length_le (Nat.le_refl _), List.drop_of_length_le (Nat.le_of_lt q), List.take_nil]
  · rw [Nat.min_eq_left q, List.take_of_length_le (by rw [List.length_drop]; exact Nat.le_refl _)]
theorem seq2 {A B C : M Fl} {ρ ρ' : En} (h : mSeq A B ρ = some (.ok .nx ρ')) : mSeq A (mSeq B C) ρ = C ρ' := by
  unfold mSeq mBind at h ⊢
  cases e : A ρ with
  | none => rw [e] at h; cases h
  | some r =>
    rw [e] at h
    cases r with
    | ex x ρ1 => cases h
    | ok f ρ1 =>
      dsimp only at h ⊢
      cases f with
      | nx => dsimp only at h ⊢; rw [h]
      | bk => cases h
      | ct => cases h
      | rt d => cases h
      | rf d => cases h
theorem mul_ok {i j : Int} (h : i.natAbs < 1000000) : mulD (.int i) (.int j) = some (.int (i * j)) := by
  have hc : cMul i j = true := by
    unfold cMul
    rw [Bool.or_eq_true]
    exact .inl (decide_eq_true (by omega))
  show oOr mulI repT _ _ = _
  unfold oOr mulI iIc
  simp only [hc, if_true]

/-! ### repr of lists of lists of numbers: how long, and that it may be compared -/
theorem strOk_app {x y : Str} (hx : PyData.strOk x = true) (hy : PyData.strOk y = true) : PyData.strOk (x ++ y) = true := by
  unfold PyData.strOk at *
  show Array.all (x.cps ++ y.cps) _ = true
  rw [Array.all_append, hx, hy]; rfl
theorem textFrom_le {B : Nat} : ∀ (ts : List Str) (k : Nat) (acc : Str), (∀ t ∈ ts, t.length ≤ B) → (textFrom k acc ts).length ≤ acc.length + (B + 2) * ts.length
  | [], _, acc, _ => Nat.le_add_right _ _
  | t :: ts, k, acc, h => by
    have ih := textFrom_le ts (k + 1) (acc ++ (if k > 0 then ", " else "" : String) ++ t) fun u hu => h u (List.mem_cons_of_mem _ hu)
    have e : (acc ++ (if k > 0 then ", " else "" : String) ++ t).length = acc.length + (if k > 0 then 2 else 0) + t.length := by
      rw [strLen_append, strLen_append]
      split <;> rfl
    have ht := h t List.mem_cons_self
    rw [e] at ih
    rw [List.length_cons, Nat.mul_add]
    show (textFrom (k + 1) _ ts).length ≤ _
    have : (if k > 0 then 2 else 0) ≤ 2 := by split <;> omega
    omega
theorem textFrom_strOk : ∀ (ts : List Str) (k : Nat) (acc : Str), PyData.strOk acc = true → (∀ t ∈ ts, PyData.strOk t = true) → PyData.strOk (textFrom k acc ts) = true
  | [], _, acc, ha, _ => ha
  | t :: ts, k, acc, ha, h => textFrom_strOk ts (k + 1) _ (strOk_app (strOk_app ha (strOk_of _)) (h t List.mem_cons_self)) fun u hu => h u (List.mem_cons_of_mem _ hu)
theorem listText_le {B : Nat} {ts : List Str} (h : ∀ t ∈ ts, t.length ≤ B) : (listText ts).length ≤ 2 + (B + 2) * ts.length := by
  unfold listText
  rw [strLen_append]
  have := textFrom_le ts 0 ("[" : String) h
  have e1 : ((("[" : String) : Str)).length = 1 := rfl
  have e2 : ((("]" : String) : Str)).length = 1 := rfl
  rw [e1] at this
  rw [e2]
  omega
theorem listText_strOk {ts : List Str} (h : ∀ t ∈ ts, PyData.strOk t = true) : PyData.strOk (listText ts) = true :=
  strOk_app (textFrom_strOk ts 0 _ (strOk_of _) h) (strOk_of _)
theorem shownAll_map : ∀ ds : List D, PyData.shownAll ds = ds.map PyData.shown
  | [] => rfl
  | d :: ds => by
    show PyData.shown d :: PyData.shownAll ds = _
    rw [shownAll_map ds]; rfl
/-- a showable value of bounded depth whose text has at most B signs -/
structure Shw (B n : Nat) (d : D) : Prop where
  sh : d.showable = true
  nd : d.hasDict = false
  dp : d.depth ≤ n
  ln : d.shown.length ≤ B
  ok : PyData.strOk d.shown = true
theorem shw_list {B n : Nat} {ds : List D} (h : ∀ d ∈ ds, Shw B n d) : Shw (2 + (B + 2) * ds.length) (n + 1) (.list ds) := by
  have h1 : ∀ xs : List D, (∀ d ∈ xs, Shw B n d) → PyData.showableAll xs = true ∧ PyData.hasDictAll xs = false ∧ PyData.depthAll xs ≤ n := by
    intro xs
    induction xs with
    | nil => exact fun _ => ⟨rfl, rfl, Nat.zero_le _⟩
    | cons x xs ih =>
      intro hx
      obtain ⟨a, b, c⟩ := ih fun d hd => hx d (List.mem_cons_of_mem _ hd)
      have := hx x List.mem_cons_self
      refine ⟨?_, ?_, ?_⟩
      · show (x.showable && PyData.showableAll xs) = true
        rw [this.sh, a]; rfl
      · show (x.hasDict || PyData.hasDictAll xs) = false
        rw [this.nd, b]; rfl
      · show max x.depth (PyData.depthAll xs) ≤ n
        have := this.dp
        omega
  obtain ⟨a, b, c⟩ := h1 ds h
  have hs : ∀ t ∈ PyData.shownAll ds, t.length ≤ B ∧ PyData.strOk t = true := fun t ht => by
    rw [shownAll_map] at ht
    obtain ⟨d, hd, rfl⟩ := List.mem_map.mp ht
    exact ⟨(h d hd).ln, (h d hd).ok⟩
  refine ⟨a, b, Nat.succ_le_succ c, ?_, listText_strOk fun t ht => (hs t ht).2⟩
  have := listText_le (B := B) fun t ht => (hs t ht).1
  rw [shownAll_map, List.length_map] at this
  show (listText (PyData.shownAll ds)).length ≤ _
  rw [shownAll_map]
  exact this
theorem shw_mono {B B' n n' : Nat} {d : D} (h : Shw B n d) (hB : B ≤ B') (hn : n ≤ n') : Shw B' n' d := ⟨h.sh, h.nd, Nat.le_trans h.dp hn, Nat.le_trans h.ln hB, h.ok⟩
theorem byte_len : ∀ n : Fin 256, (Str.ofString (toString (n.val : Int))).length ≤ 3 := by decide +kernel
theorem shw_byte {i : Int} (h0 : 0 ≤ i) (h1 : i < 256) : Shw 3 0 (.int i) := by
  obtain ⟨n, rfl⟩ : ∃ n : Nat, i = (n : Int) := ⟨i.toNat, by omega⟩
  have hn : n < 256 := by omega
  refine ⟨?_, rfl, Nat.le_refl _, ?_, strOk_of _⟩
  · have : ∀ n : Fin 256, decide ((n.val : Int).natAbs.log2 < 1920) = true := by decide +kernel
    exact this ⟨n, hn⟩
  · exact byte_len ⟨n, hn⟩
theorem repr_shw {B n : Nat} {ds : List D} (h : Shw B n (.list ds)) (hB : B ≤ 16000000) (hn : n ≤ 60) : reprG [.list ds] = some (.str (PyData.list ds).shown) := by
  have hs : showOk (.list ds) = true := by
    show ((PyData.list ds).showable && !(PyData.list ds).hasDict && decide ((PyData.list ds).depth ≤ 60) && fit (PyData.list ds).shown.length) = true
    have e1 : decide ((PyData.list ds).depth ≤ 60) = true := decide_eq_true (Nat.le_trans h.dp hn)
    have e2 : fit (PyData.list ds).shown.length = true := decide_eq_true (Nat.le_trans h.ln hB)
    rw [h.sh, h.nd, e1, e2]; rfl
  show (if showOk (.list ds) = true then some (PyData.str (PyData.list ds).shown) else none) = _
  rw [if_pos hs]
theorem ne_shw {a : Str} (h : PyData.strOk a = true) : neD (.str a) (.str a) = some (.bool false) := by
  have s : SeqAt.shaped (.str a) = true := by simp [SeqAt.shaped, PyData.canLay0, PyData.depth, h]
  unfold neD
  rw [s]
  simp [PyData.eqv]

/-! ### repr of tuples, texts and numbers: how long, and that it may be compared -/
theorem join_strOk : ∀ ts : List Str, (∀ t ∈ ts, PyData.strOk t = true) → PyData.strOk (Str.join ", " ts) = true
  | [], _ => strOk_of ""
  | [x], h => h x List.mem_cons_self
  | x :: y :: r, h => by
    show PyData.strOk (x ++ (", " : String) ++ Str.join ", " (y :: r)) = true
    exact strOk_app (strOk_app (h x List.mem_cons_self) (strOk_of _)) (join_strOk (y :: r) fun t ht => h t (List.mem_cons_of_mem _ ht))
theorem join_le {B : Nat} : ∀ ts : List Str, (∀ t ∈ ts, t.length ≤ B) → (Str.join ", " ts).length ≤ (B + 2) * ts.length
  | [], _ => by show 0 ≤ _; omega
  | [x], h => by
    have := h x List.mem_cons_self
    show x.length ≤ _
    simp only [List.length_cons, List.length_nil]
    omega
  | x :: y :: r, h => by
    have ih := join_le (y :: r) fun t ht => h t (List.mem_cons_of_mem _ ht)
    have hx := h x List.mem_cons_self
    have e2 : ((", " : String) : Str).length = 2 := rfl
    show (x ++ (", " : String) ++ Str.join ", " (y :: r)).length ≤ _
    rw [strLen_append, strLen_append, e2, List.length_cons, Nat.mul_add]
    omega
theorem tupleText_le {B : Nat} {ts : List Str} (h : ∀ t ∈ ts, t.length ≤ B) : (tupleText ts).length ≤ 3 + (B + 2) * ts.length := by
  unfold tupleText
  have := join_le ts h
  rw [strLen_append, strLen_append]
  have e1 : ((("(" : String) : Str)).length = 1 := rfl
  have e2 : ((if ts.length == 1 then ",)" else ")" : String) : Str).length ≤ 2 := by
    split <;> decide
  rw [e1]
  omega
theorem tupleText_strOk {ts : List Str} (h : ∀ t ∈ ts, PyData.strOk t = true) : PyData.strOk (tupleText ts) = true :=
  strOk_app (strOk_app (strOk_of _) (join_strOk _ h)) (strOk_of _)
theorem shw_all {B n : Nat} : ∀ xs : List D, (∀ d ∈ xs, Shw B n d) → PyData.showableAll xs = true ∧ PyData.hasDictAll xs = false ∧ PyData.depthAll xs ≤ n
  | [], _ => ⟨rfl, rfl, Nat.zero_le _⟩
  | x :: xs, hx => by
    obtain ⟨a, b, c⟩ := shw_all xs fun d hd => hx d (List.mem_cons_of_mem _ hd)
    have := hx x List.mem_cons_self
    refine ⟨?_, ?_, ?_⟩
    · show (x.showable && PyData.showableAll xs) = true
      rw [this.sh, a]; rfl
    · show (x.hasDict || PyData.hasDictAll xs) = false
      rw [this.nd, b]; rfl
    · show max x.depth (PyData.depthAll xs) ≤ n
      have := this.dp
      omega
theorem shw_tuple {B n : Nat} {ds : List D} (h : ∀ d ∈ ds, Shw B n d) : Shw (3 + (B + 2) * ds.length) (n + 1) (.tuple ds) := by
  obtain ⟨a, b, c⟩ := shw_all ds h
  have hs : ∀ t ∈ PyData.shownAll ds, t.length ≤ B ∧ PyData.strOk t = true := fun t ht => by
    rw [shownAll_map] at ht
    obtain ⟨d, hd, rfl⟩ := List.mem_map.mp ht
    exact ⟨(h d hd).ln, (h d hd).ok⟩
  refine ⟨a, b, Nat.succ_le_succ c, ?_, tupleText_strOk fun t ht => (hs t ht).2⟩
  have := tupleText_le (B := B) fun t ht => (hs t ht).1
  rw [shownAll_map, List.length_map] at this
  show (tupleText (PyData.shownAll ds)).length ≤ _
  rw [shownAll_map]
  exact this
theorem shw_int {i : Int} (h : i.natAbs < 1000000000) : Shw 10 0 (.int i) := by
  have hlog : i.natAbs.log2 < 1920 := by
    by_cases h0 : i.natAbs = 0
    · rw [h0]; decide
    · have : i.natAbs.log2 < 30 := (Nat.log2_lt h0).mpr (Nat.lt_of_lt_of_le h (by decide))
      omega
  refine ⟨decide_eq_true hlog, rfl, Nat.le_refl _, ?_, strOk_of _⟩
  show (Str.ofString (toString i)).length ≤ 10
  rw [PySem.ofString_length]
  exact PySem.int_text_length_le10 (k := 9) (by decide) h
theorem shw_str {s : Str} (h1 : (reprText s).length ≤ 40) (h2 : PyData.strOk (reprText s) = true) : Shw 40 0 (.str s) := ⟨rfl, rfl, Nat.le_refl _, h1, h2⟩

theorem cut_eight {z : Nat} {r : List Int} (hr : r.length = 8) : cutL (((List.replicate z 0 ++ r).map PyData.int)) (some ((((List.replicate z 0 ++ r).map PyData.int).length : Int) - 8)) none = r.map PyData.int := by
  have hl : ((List.replicate z (0 : Int) ++ r).map PyData.int).length = z + 8 := by simp [hr]
  unfold cutL HT.sIx
  rw [hl]
  dsimp only
  rw [if_neg (by omega), show min (((z + 8 : Nat) : Int) - 8).toNat (z + 8) = z by omega, show z + 8 - z = 8 by omega, List.map_append, List.drop_append_of_le_length (by simp), List.drop_of_length_le (by simp), List.nil_append, List.take_of_length_le (by simp [hr])]
theorem zip_val {bs ws : List Int} {K V : D} {s2 s3 s5 s6 : Sl} (hl : bs.length = 8) (hw : ws = [128, 64, 32, 16, 8, 4, 2, 1]) (s4 : Sl) (h4 : s4 = .own (bs.map PyData.int) ∨ s4 = .val (.list (bs.map PyData.int))) : ∃ s4', C__law_check_2 [.val K, .val V, s2, s3, s4, s5, s6, .un, .un] = some (.ok ((List.zipWith (· * ·) bs ws).map PyData.int) [.val K, .val V, s2, s3, s4', s5, s6, .un, .un]) := by
  subst hw
  obtain ⟨x0, x1, x2, x3, x4, x5, x6, x7, rfl⟩ : ∃ a b c d e f g h, bs = [a, b, c, d, e, f, g, h] := by
    match bs, hl with
    | [a, b, c, d, e, f, g, h], _ => exact ⟨a, b, c, d, e, f, g, h, rfl⟩
  refine ⟨.val (.list [.int x0, .int x1, .int x2, .int x3, .int x4, .int x5, .int x6, .int x7]), ?_⟩
  rcases h4 with rfl | rfl <;> simp [C__law_check_2, mSeq, mIf, mBol, mBin, mBinL, mBind, mLift, mPure, mPeek, mVar, ixD, iI, bolD, mAsg, mCall1, mCallN, intD, modD, iIc, cMod, mStore, mStoreO, mDone, gSet, mOwn, mPut, setD, mRet, mDrop, mStuck, mTru, truD, mOrT, mAndT, mNotT, mAnd, mOr, mNot, mIsi, isiT_eq, typD, lenD, mCons, mTup, mLst, mLstN, mVal, oOr, addD, subD, mulD, mulI, iIc, cMul, ltD, leD, gtD, geD, gTupD, gCons2, gsNil, mCallV, mCallB, mRs, tupleD, mRetF, mChain, mScr, mScrLen, mScrIx, mMut, appD, max2D, min2D, mRng1, mRng2, rngD1, rngD2, rngOk, mItems, itemsD, mAsgN, mParEE, mParEN, mUn, negD, mCallN1, listD, unsE, powD, cPow, divD, cDiv, mFor, mSl, mSlL, slD, mNoPart, mPart, intO, mSlN, mSlNL, slN, mRevN, revO, mParNC, andD, orD, xorD, shrD, shlD, cShr, mStepN, mStepNL, stepO, mCatN, mCatNL, catN, mZipB, zipBD, zipL, mComp, mRest, mGo, fit, unsE, mUn_, gTupD, gNamesD]
theorem law_xor {V : D} {ns : List Int} (hV : V = .list (ns.map PyData.int)) (hn : ∀ n ∈ ns, By n) (hl : ns.length ≤ 200) : fn__law_check [.str "xor", V] = some (.ok (.int (xorF ns 0))) := by
  subst hV
  obtain ⟨hb, _⟩ := xorF_bits ns 0 hn by0
  obtain ⟨s3, e1⟩ := bits_loop (K := .str "xor") (V := .list (ns.map PyData.int)) ns [] .un .un .un .un .un hn (by simp; omega)
  rw [List.nil_append] at e1
  have hR : R__law_check_0 [.val (.str "xor"), .val (.list (ns.map PyData.int)), .own [], .un, .un, .un, .un, .un, .un] = some (.ok .nx [.val (.str "xor"), .val (.list (ns.map PyData.int)), .own ((flt ns).map PyData.int), s3, .un, .un, .un, .un, .un]) := by
    have hi : mItems (mVar 1) [.val (.str "xor"), .val (.list (ns.map PyData.int)), .own [], .un, .un, .un, .un, .un, .un] = some (.ok (ns.map PyData.int) [.val (.str "xor"), .val (.list (ns.map PyData.int)), .own [], .un, .un, .un, .un, .un, .un]) := by
      generalize ns.map PyData.int = M
      simp [mSeq, mIf, mBol, mBin, mBinL, mBind, mLift, mPure, mPeek, mVar, ixD, iI, bolD, mAsg, mCall1, mCallN, intD, modD, iIc, cMod, mStore, mStoreO, mDone, gSet, mOwn, mPut, setD, mRet, mDrop, mStuck, mTru, truD, mOrT, mAndT, mNotT, mAnd, mOr, mNot, mIsi, isiT_eq, typD, lenD, mCons, mTup, mLst, mLstN, mVal, oOr, addD, subD, mulD, mulI, iIc, cMul, ltD, leD, gtD, geD, gTupD, gCons2, gsNil, mCallV, mCallB, mRs, tupleD, mRetF, mChain, mScr, mScrLen, mScrIx, mMut, appD, max2D, min2D, mRng1, mRng2, rngD1, rngD2, rngOk, mItems, itemsD, mAsgN, mParEE, mParEN, mUn, negD, mCallN1, listD, unsE, powD, cPow, divD, cDiv, mFor, mSl, mSlL, slD, mNoPart, mPart, intO, mSlN, mSlNL, slN, mRevN, revO, mParNC, andD, orD, xorD, shrD, shlD, cShr, mStepN, mStepNL, stepO, mCatN, mCatNL, catN]
    unfold R__law_check_0 mFor
    rw [bind_is hi]
    exact e1
  have e2 := col_comp (K := .str "xor") (V := .list (ns.map PyData.int)) (s3 := s3) hn (by omega)
  obtain ⟨s4, e3⟩ := zip_val (bs := bits8 (xorF ns 0)) (K := .str "xor") (V := .list (ns.map PyData.int)) (s2 := .own ((flt ns).map PyData.int)) (s3 := s3) (s5 := .un) (s6 := .un) (bits_len _) rfl (.own ((bits8 (xorF ns 0)).map PyData.int)) (.inl rfl)
  have e4 : sumD [.list ((List.zipWith (· * ·) (bits8 (xorF ns 0)) [128, 64, 32, 16, 8, 4, 2, 1]).map PyData.int)] = some (.int (xorF ns 0)) := by
    have := bits_val hb
    simp only [sumD, toInts_map, Option.map_some, this]
  generalize (bits8 (xorF ns 0)).map PyData.int = B at *
  generalize (List.zipWith (· * ·) (bits8 (xorF ns 0)) [128, 64, 32, 16, 8, 4, 2, 1]).map PyData.int = Z at *
  generalize (flt ns).map PyData.int = FL at *
  generalize ns.map PyData.int = M at *
  simp [fn__law_check, runV, m__law_check, env0, mSeq, mIf, mBol, mBin, mBinL, mBind, mLift, mPure, mPeek, mVar, ixD, iI, bolD, mAsg, mCall1, mCallN, intD, modD, iIc, cMod, mStore, mStoreO, mDone, gSet, mOwn, mPut, setD, mRet, mDrop, mStuck, mTru, truD, mOrT, mAndT, mNotT, mAnd, mOr, mNot, mIsi, isiT_eq, typD, lenD, mCons, mTup, mLst, mLstN, mVal, oOr, addD, subD, mulD, mulI, iIc, cMul, ltD, leD, gtD, geD, gTupD, gCons2, gsNil, mCallV, mCallB, mRs, tupleD, mRetF, mChain, mScr, mScrLen, mScrIx, mMut, appD, max2D, min2D, mRng1, mRng2, rngD1, rngD2, rngOk, mItems, itemsD, mAsgN, mParEE, mParEN, mUn, negD, mCallN1, listD, unsE, powD, cPow, divD, cDiv, mFor, mSl, mSlL, slD, mNoPart, mPart, intO, mSlN, mSlNL, slN, mRevN, revO, mParNC, andD, orD, xorD, shrD, shlD, cShr, mStepN, mStepNL, stepO, mCatN, mCatNL, catN, k_xs, k_xx, mLstN, mAsgN, mStoreO, mDone, fit, hR, e2, e3, e4, mVal]
theorem law_rest {V : D} {ns : List Int} (hV : V = .list (ns.map PyData.int)) (hn : ∀ n ∈ ns, By n) (hl : ns.length ≤ 200) : fn__law_check [.str "rest", V] = some (.ok (.int (restF ns 0))) := by
  subst hV
  have hb := restF_by ns 0 hn by0
  obtain ⟨s3, e1⟩ := bits_loop (K := .str "rest") (V := .list (ns.map PyData.int)) ns [] .un .un .un .un .un hn (by simp; omega)
  rw [List.nil_append] at e1
  have hR : R__law_check_0 [.val (.str "rest"), .val (.list (ns.map PyData.int)), .own [], .un, .un, .un, .un, .un, .un] = some (.ok .nx [.val (.str "rest"), .val (.list (ns.map PyData.int)), .own ((flt ns).map PyData.int), s3, .un, .un, .un, .un, .un]) := by
    have hi : mItems (mVar 1) [.val (.str "rest"), .val (.list (ns.map PyData.int)), .own [], .un, .un, .un, .un, .un, .un] = some (.ok (ns.map PyData.int) [.val (.str "rest"), .val (.list (ns.map PyData.int)), .own [], .un, .un, .un, .un, .un, .un]) := by
      generalize ns.map PyData.int = M
      simp [mSeq, mIf, mBol, mBin, mBinL, mBind, mLift, mPure, mPeek, mVar, ixD, iI, bolD, mAsg, mCall1, mCallN, intD, modD, iIc, cMod, mStore, mStoreO, mDone, gSet, mOwn, mPut, setD, mRet, mDrop, mStuck, mTru, truD, mOrT, mAndT, mNotT, mAnd, mOr, mNot, mIsi, isiT_eq, typD, lenD, mCons, mTup, mLst, mLstN, mVal, oOr, addD, subD, mulD, mulI, iIc, cMul, ltD, leD, gtD, geD, gTupD, gCons2, gsNil, mCallV, mCallB, mRs, tupleD, mRetF, mChain, mScr, mScrLen, mScrIx, mMut, appD, max2D, min2D, mRng1, mRng2, rngD1, rngD2, rngOk, mItems, itemsD, mAsgN, mParEE, mParEN, mUn, negD, mCallN1, listD, unsE, powD, cPow, divD, cDiv, mFor, mSl, mSlL, slD, mNoPart, mPart, intO, mSlN, mSlNL, slN, mRevN, revO, mParNC, andD, orD, xorD, shrD, shlD, cShr, mStepN, mStepNL, stepO, mCatN, mCatNL, catN]
    unfold R__law_check_0 mFor
    rw [bind_is hi]
    exact e1
  have lf := flt_len ns
  have hL : (flt ns ++ List.replicate 8 (0 : Int)).length = 8 * ns.length + 8 := by rw [List.length_append, lf, List.length_replicate]
  obtain ⟨s5, s6, e2⟩ := div_loop (K := .str "rest") (V := .list (ns.map PyData.int)) (L := flt ns ++ List.replicate 8 0) (s3 := s3) (s4 := .un) (s5 := .un) (s6 := .un) (s7 := .un) (s8 := .un) (n := 8 * ns.length) (by omega)
  rw [div_all ns hn] at e2
  have hLm : ((flt ns ++ List.replicate 8 (0 : Int)).map PyData.int).length = 8 * ns.length + 8 := by rw [List.length_map, hL]
  have hR2 : R__law_check_2 [.val (.str "rest"), .val (.list (ns.map PyData.int)), .own ((flt ns ++ List.replicate 8 (0 : Int)).map PyData.int), s3, .un, .un, .un, .un, .un] = some (.ok .nx [.val (.str "rest"), .val (.list (ns.map PyData.int)), .own ((List.replicate (8 * ns.length) 0 ++ bits8 (restF ns 0)).map PyData.int), s3, .un, s5, s6, .un, .un]) := by
    have hi : mRng1 (mCons (mBin subD (mCall1 lenD (mPeek 2)) (mPure (.int 8))) (mPure [])) [.val (.str "rest"), .val (.list (ns.map PyData.int)), .own ((flt ns ++ List.replicate 8 (0 : Int)).map PyData.int), s3, .un, .un, .un, .un, .un] = some (.ok (rngL 0 ((8 * ns.length : Nat) : Int)) [.val (.str "rest"), .val (.list (ns.map PyData.int)), .own ((flt ns ++ List.replicate 8 (0 : Int)).map PyData.int), s3, .un, .un, .un, .un, .un]) := rng1_is (by
      have e : ((8 * ns.length + 8 : Nat) : Int) - 8 = ((8 * ns.length : Nat) : Int) := by omega
      rw [← e, ← hLm]
      generalize (flt ns ++ List.replicate 8 (0 : Int)).map PyData.int = M
      simp [mSeq, mIf, mBol, mBin, mBinL, mBind, mLift, mPure, mPeek, mVar, ixD, iI, bolD, mAsg, mCall1, mCallN, intD, modD, iIc, cMod, mStore, mStoreO, mDone, gSet, mOwn, mPut, setD, mRet, mDrop, mStuck, mTru, truD, mOrT, mAndT, mNotT, mAnd, mOr, mNot, mIsi, isiT_eq, typD, lenD, mCons, mTup, mLst, mLstN, mVal, oOr, addD, subD, mulD, mulI, iIc, cMul, ltD, leD, gtD, geD, gTupD, gCons2, gsNil, mCallV, mCallB, mRs, tupleD, mRetF, mChain, mScr, mScrLen, mScrIx, mMut, appD, max2D, min2D, mRng1, mRng2, rngD1, rngD2, rngOk, mItems, itemsD, mAsgN, mParEE, mParEN, mUn, negD, mCallN1, listD, unsE, powD, cPow, divD, cDiv, mFor, mSl, mSlL, slD, mNoPart, mPart, intO, mSlN, mSlNL, slN, mRevN, revO, mParNC, andD, orD, xorD, shrD, shlD, cShr, mStepN, mStepNL, stepO, mCatN, mCatNL, catN]) (rngOk_le (by omega) (by omega))
    unfold R__law_check_2 mFor
    rw [bind_is hi]
    exact e2
  have e3 := cut_eight (z := 8 * ns.length) (r := bits8 (restF ns 0)) (bits_len _)
  obtain ⟨s4, e4⟩ := zip_val (bs := bits8 (restF ns 0)) (K := .str "rest") (V := .list (ns.map PyData.int)) (s2 := .own ((List.replicate (8 * ns.length) 0 ++ bits8 (restF ns 0)).map PyData.int)) (s3 := s3) (s5 := s5) (s6 := s6) (bits_len _) rfl (.val (.list ((bits8 (restF ns 0)).map PyData.int))) (.inr rfl)
  have e5 : sumD [.list ((List.zipWith (· * ·) (bits8 (restF ns 0)) [128, 64, 32, 16, 8, 4, 2, 1]).map PyData.int)] = some (.int (restF ns 0)) := by
    have := bits_val hb
    simp only [sumD, toInts_map, Option.map_some, this]
  have hcat : (flt ns ++ List.replicate 8 (0 : Int)).map PyData.int = (flt ns).map PyData.int ++ [.int 0, .int 0, .int 0, .int 0, .int 0, .int 0, .int 0, .int 0] := by rw [List.map_append]; rfl
  have hf1 : ((flt ns).map PyData.int).length + 8 ≤ 16000000 := by rw [List.length_map, lf]; omega
  rw [hcat] at hR2
  have hrep : repLD (PyData.list [PyData.int 0]) (PyData.int 8) = some [.int 0, .int 0, .int 0, .int 0, .int 0, .int 0, .int 0, .int 0] := by rfl
  generalize (List.replicate (8 * ns.length) 0 ++ bits8 (restF ns 0)).map PyData.int = RB at *
  generalize (bits8 (restF ns 0)).map PyData.int = B at *
  generalize (List.zipWith (· * ·) (bits8 (restF ns 0)) [128, 64, 32, 16, 8, 4, 2, 1]).map PyData.int = Z at *
  generalize (flt ns).map PyData.int = FL at *
  generalize ns.map PyData.int = M at *
  simp [fn__law_check, runV, m__law_check, env0, mSeq, mIf, mBol, mBin, mBinL, mBind, mLift, mPure, mPeek, mVar, ixD, iI, bolD, mAsg, mCall1, mCallN, intD, modD, iIc, cMod, mStore, mStoreO, mDone, gSet, mOwn, mPut, setD, mRet, mDrop, mStuck, mTru, truD, mOrT, mAndT, mNotT, mAnd, mOr, mNot, mIsi, isiT_eq, typD, lenD, mCons, mTup, mLst, mLstN, mVal, oOr, addD, subD, mulD, mulI, iIc, cMul, ltD, leD, gtD, geD, gTupD, gCons2, gsNil, mCallV, mCallB, mRs, tupleD, mRetF, mChain, mScr, mScrLen, mScrIx, mMut, appD, max2D, min2D, mRng1, mRng2, rngD1, rngD2, rngOk, mItems, itemsD, mAsgN, mParEE, mParEN, mUn, negD, mCallN1, listD, unsE, powD, cPow, divD, cDiv, mFor, mSl, mSlL, slD, mNoPart, mPart, intO, mSlN, mSlNL, slN, mRevN, revO, mParNC, andD, orD, xorD, shrD, shlD, cShr, mStepN, mStepNL, stepO, mCatN, mCatNL, catN, k_rs, k_rx, mLstN, mAsgN, mStoreO, mDone, hR, mVal, mCatNL, catN, mRepN, fit, hrep, hf1, hR2, mSlL, mPart, mNoPart, slD, intO, e3, e4, e5, List.replicate]
theorem law_sum {V : D} {ns : List Int} (hV : V = .list (ns.map PyData.int)) : fn__law_check [.str "sum", V] = some (.ok (.int (ns.sum % 256))) := by
  subst hV
  have e : sumD [.list (ns.map PyData.int)] = some (.int ns.sum) := by simp only [sumD, toInts_map, Option.map_some]
  generalize ns.map PyData.int = M at *
  simp [fn__law_check, runV, m__law_check, env0, mSeq, mIf, mBol, mBin, mBinL, mBind, mLift, mPure, mPeek, mVar, ixD, iI, bolD, mAsg, mCall1, mCallN, intD, modD, iIc, cMod, mStore, mStoreO, mDone, gSet, mOwn, mPut, setD, mRet, mDrop, mStuck, mTru, truD, mOrT, mAndT, mNotT, mAnd, mOr, mNot, mIsi, isiT_eq, typD, lenD, mCons, mTup, mLst, mLstN, mVal, oOr, addD, subD, mulD, mulI, iIc, cMul, ltD, leD, gtD, geD, gTupD, gCons2, gsNil, mCallV, mCallB, mRs, tupleD, mRetF, mChain, mScr, mScrLen, mScrIx, mMut, appD, max2D, min2D, mRng1, mRng2, rngD1, rngD2, rngOk, mItems, itemsD, mAsgN, mParEE, mParEN, mUn, negD, mCallN1, listD, unsE, powD, cPow, divD, cDiv, mFor, mSl, mSlL, slD, mNoPart, mPart, intO, mSlN, mSlNL, slN, mRevN, revO, mParNC, andD, orD, xorD, shrD, shlD, cShr, mStepN, mStepNL, stepO, mCatN, mCatNL, catN, k_ss, e, modD, iIc, cMod]

theorem numbers_ok {bs : List D} {m : Int} (hb : Bx bs) (m0 : 0 ≤ m) (m1 : m ≤ 100) : ∃ (ns : List Int) (bs' : List D), fn__law_numbers bs [.int m] = some (.ok (.list (ns.map PyData.int)), bs') ∧ Bx bs' ∧ (∀ n ∈ ns, By n) ∧ (ns.length : Int) ≤ m := by
  obtain ⟨r, bs1, e1, r0, r1, hb1⟩ := take_ok (m := 4) hb (by omega) (by omega)
  obtain ⟨w, e2, hw⟩ := pick4 (a := 2) (b := 5) (c := 256) (d := 256) r0 r1
  obtain ⟨q, bs2, e3, q0, q1, hb2⟩ := take_ok (m := 2) hb1 (by omega) (by omega)
  obtain ⟨l, e4, hl⟩ : ∃ l, atI [PyData.int 0, .int (256 - w)] q = some (.int l) ∧ (l = 0 ∨ l = 256 - w) := by
    rcases (show q = 0 ∨ q = 1 by omega) with rfl | rfl
    · exact ⟨_, rfl, .inl rfl⟩
    · exact ⟨_, rfl, .inr rfl⟩
  obtain ⟨k, bs3, e5, k0, k1, hb3⟩ := take_ok (m := m + 1) hb2 (by omega) (by omega)
  have hw0 : 0 < w ∧ w ≤ 256 := by rcases hw with rfl | rfl | rfl | rfl <;> omega
  have hr : mRng1 (mCons (mCallB 0 2 fn__law_take (mCons (mBinL addD 1 (mPure (.int 1))) (mPure []))) (mPure [])) [.io bs2, .val (.int m), .val (.int w), .val (.int l), .un] = some (.ok (rngL 0 k) [.io bs3, .val (.int m), .val (.int w), .val (.int l), .un]) := by
    refine rng1_is ?_ (rngOk_le (by omega) (by omega))
    simp [mSeq, mIf, mBol, mBin, mBinL, mBind, mLift, mPure, mPeek, mVar, ixD, iI, bolD, mAsg, mCall1, mCallN, intD, modD, iIc, cMod, mStore, mStoreO, mDone, gSet, mOwn, mPut, setD, mRet, mDrop, mStuck, mTru, truD, mOrT, mAndT, mNotT, mAnd, mOr, mNot, mIsi, isiT_eq, typD, lenD, mCons, mTup, mLst, mLstN, mVal, oOr, addD, subD, mulD, mulI, iIc, cMul, ltD, leD, gtD, geD, gTupD, gCons2, gsNil, mCallV, mCallB, mRs, tupleD, mRetF, mChain, mScr, mScrLen, mScrIx, mMut, appD, max2D, min2D, mRng1, mRng2, rngD1, rngD2, rngOk, mItems, itemsD, mAsgN, mParEE, mParEN, mUn, negD, mCallN1, listD, unsE, powD, cPow, divD, cDiv, mFor, mSl, mSlL, slD, mNoPart, mPart, intO, mSlN, mSlNL, slN, mRevN, revO, mParNC, andD, orD, xorD, shrD, shlD, cShr, mStepN, mStepNL, stepO, mCatN, mCatNL, catN, e5]
  obtain ⟨ys, bs4, hb4, gy, ly, e6⟩ := go_box (vs := [4]) (g := mStore 4) (te := mBinL addD 3 (mCallB 0 2 fn__law_take (mCons (mVar 2) (mPure [])))) (fun bs => [.io bs, .val (.int m), .val (.int w), .val (.int l), .un]) (fun d => ∃ i : Int, d = .int i ∧ By i) (rngL 0 k) bs3 hb3 (by
    intro x hx bs hb
    obtain ⟨t, bs', e, t0, t1, hb'⟩ := take_ok (m := w) hb hw0.1 (by omega)
    refine ⟨.int (l + t), bs', [.io bs, .val (.int m), .val (.int w), .val (.int l), .val x], [.io bs', .val (.int m), .val (.int w), .val (.int l), .val x], ⟨_, rfl, ?_⟩, hb', by simp [mStore], ?_, by simp [unsE]⟩
    · rcases hl with rfl | rfl <;> exact ⟨by omega, by omega⟩
    · simp [mSeq, mIf, mBol, mBin, mBinL, mBind, mLift, mPure, mPeek, mVar, ixD, iI, bolD, mAsg, mCall1, mCallN, intD, modD, iIc, cMod, mStore, mStoreO, mDone, gSet, mOwn, mPut, setD, mRet, mDrop, mStuck, mTru, truD, mOrT, mAndT, mNotT, mAnd, mOr, mNot, mIsi, isiT_eq, typD, lenD, mCons, mTup, mLst, mLstN, mVal, oOr, addD, subD, mulD, mulI, iIc, cMul, ltD, leD, gtD, geD, gTupD, gCons2, gsNil, mCallV, mCallB, mRs, tupleD, mRetF, mChain, mScr, mScrLen, mScrIx, mMut, appD, max2D, min2D, mRng1, mRng2, rngD1, rngD2, rngOk, mItems, itemsD, mAsgN, mParEE, mParEN, mUn, negD, mCallN1, listD, unsE, powD, cPow, divD, cDiv, mFor, mSl, mSlL, slD, mNoPart, mPart, intO, mSlN, mSlNL, slN, mRevN, revO, mParNC, andD, orD, xorD, shrD, shlD, cShr, mStepN, mStepNL, stepO, mCatN, mCatNL, catN, e])
  obtain ⟨ns, rfl, hns⟩ : ∃ ns : List Int, ys = ns.map PyData.int ∧ ∀ n ∈ ns, By n := by
    clear e6 ly
    induction ys with
    | nil => exact ⟨[], rfl, fun _ h => (by cases h)⟩
    | cons y ys ih =>
      obtain ⟨i, rfl, hi⟩ := gy y List.mem_cons_self
      obtain ⟨ns, rfl, h⟩ := ih fun z hz => gy z (List.mem_cons_of_mem _ hz)
      exact ⟨i :: ns, rfl, fun z hz => (List.mem_cons.mp hz).elim (fun e => e ▸ hi) (h z)⟩
  have hln : ns.length = k.toNat := by rw [List.length_map, rngL_length] at ly; omega
  have e7 : C__law_numbers_0 [.io bs2, .val (.int m), .val (.int w), .val (.int l), .un] = some (.ok (ns.map PyData.int) [.io bs4, .val (.int m), .val (.int w), .val (.int l), .un]) := comp_is hr (fit_of2 (by rw [rngL_length]; omega)) e6
  refine ⟨ns, bs4, ?_, hb4, hns, by omega⟩
  generalize ns.map PyData.int = M at *
  simp [fn__law_numbers, runB, m__law_numbers, env0B, mSeq, mIf, mBol, mBin, mBinL, mBind, mLift, mPure, mPeek, mVar, ixD, iI, bolD, mAsg, mCall1, mCallN, intD, modD, iIc, cMod, mStore, mStoreO, mDone, gSet, mOwn, mPut, setD, mRet, mDrop, mStuck, mTru, truD, mOrT, mAndT, mNotT, mAnd, mOr, mNot, mIsi, isiT_eq, typD, lenD, mCons, mTup, mLst, mLstN, mVal, oOr, addD, subD, mulD, mulI, iIc, cMul, ltD, leD, gtD, geD, gTupD, gCons2, gsNil, mCallV, mCallB, mRs, tupleD, mRetF, mChain, mScr, mScrLen, mScrIx, mMut, appD, max2D, min2D, mRng1, mRng2, rngD1, rngD2, rngOk, mItems, itemsD, mAsgN, mParEE, mParEN, mUn, negD, mCallN1, listD, unsE, powD, cPow, divD, cDiv, mFor, mSl, mSlL, slD, mNoPart, mPart, intO, mSlN, mSlNL, slN, mRevN, revO, mParNC, andD, orD, xorD, shrD, shlD, cShr, mStepN, mStepNL, stepO, mCatN, mCatNL, catN, e1, e2, e3, e4, e7, fit]

/-! ### the item of its parts -/
theorem parts_ok {I : D} {ds ps : List D} {P kd wd p q r s p' q' r' s' : D} {a b bg en : Int} (hI : I = .list ds ∨ I = .tuple ds) (hP : P = .list ps ∨ P = .tuple ps) (h0 : atI ps 0 = some (.int a)) (h1 : atI ps (-1) = some (.int b))
    (e0 : atI ds a = some (.tuple [p, q, .int bg, r, s])) (e1 : atI ds b = some (.tuple [p', q', r', .int en, s'])) : fn_item_of_parts [I, kd, wd, P] = some (.ok (.tuple [kd, wd, .int bg, .int en, .tuple ps])) := by
  have z2 : ∀ p q r s t : D, atI [p, q, r, s, t] 2 = some r := fun _ _ _ _ _ => rfl
  have z3 : ∀ p q r s t : D, atI [p, q, r, s, t] 3 = some s := fun _ _ _ _ _ => rfl
  have t1 : tupleD [.list ps] = some (.tuple ps) := rfl
  have t2 : tupleD [.tuple ps] = some (.tuple ps) := rfl
  rcases hI with rfl | rfl <;> rcases hP with rfl | rfl <;> simp [fn_item_of_parts, runV, m_item_of_parts, env0, mSeq, mIf, mBol, mBin, mBinL, mBind, mLift, mPure, mPeek, mVar, ixD, iI, bolD, mAsg, mCall1, mCallN, intD, modD, iIc, cMod, mStore, mStoreO, mDone, gSet, mOwn, mPut, setD, mRet, mDrop, mStuck, mTru, truD, mOrT, mAndT, mNotT, mAnd, mOr, mNot, mIsi, isiT_eq, typD, lenD, mCons, mTup, mLst, mLstN, mVal, oOr, addD, subD, mulD, mulI, iIc, cMul, ltD, leD, gtD, geD, gTupD, gCons2, gsNil, mCallV, mCallB, mRs, tupleD, mRetF, mChain, mScr, mScrLen, mScrIx, mMut, appD, max2D, min2D, mRng1, mRng2, rngD1, rngD2, rngOk, mItems, itemsD, mAsgN, mParEE, mParEN, mUn, negD, mCallN1, listD, unsE, powD, cPow, divD, cDiv, mFor, mSl, mSlL, slD, mNoPart, mPart, intO, mSlN, mSlNL, slN, mRevN, revO, mParNC, andD, orD, xorD, shrD, shlD, cShr, mStepN, mStepNL, stepO, mCatN, mCatNL, catN, h0, h1, e0, e1, z2, z3, t1, t2, fit]
theorem rng_first {a b : Nat} (h : a < b) : atI (rngL (a : Int) (b : Int)) 0 = some (.int ((a : Nat) : Int)) := by
  refine atI_nat' (by omega) ?_
  unfold rngL
  have : 0 < ((b : Int) - (a : Int)).toNat := by omega
  rw [List.getElem?_map, show ((0 : Int).toNat) = 0 from rfl, List.getElem?_range this]
  simp
theorem rng_last {a b : Nat} (h : a < b) : atI (rngL (a : Int) (b : Int)) (-1) = some (.int ((b - 1 : Nat) : Int)) := by
  have e : rngL (a : Int) (b : Int) = rngL (a : Int) ((b - 1 : Nat) : Int) ++ [.int ((b - 1 : Nat) : Int)] := by
    unfold rngL
    rw [show ((b : Int) - (a : Int)).toNat = (((b - 1 : Nat) : Int) - (a : Int)).toNat + 1 by omega, List.range_succ, List.map_append]
    congr 1
    show [PyData.int ((a : Int) + ((((b - 1 : Nat) : Int) - (a : Int)).toNat : Nat))] = _
    congr 2
    omega
  rw [e]
  exact atI_last _ _

/-! ### items -/
theorem k_tw : eqD (.str "torn") (.str "word") = some (.bool false) := eqF (by decide +kernel)
theorem k_ww : eqD (.str "word") (.str "word") = some (.bool true) := eq_str _
theorem whole_ok (x : Im) : fn__is_whole [itemD x] = some (.ok (.bool (byteOf x).isSome)) := by
  have z0 : ∀ p q r s t : D, atI [p, q, r, s, t] 0 = some p := fun _ _ _ _ _ => rfl
  have z1 : ∀ p q r s t : D, atI [p, q, r, s, t] 1 = some q := fun _ _ _ _ _ => rfl
  obtain ⟨n, why, b, e, pl⟩ := x
  cases n with
  | none => simp [fn__is_whole, runV, m__is_whole, env0, mSeq, mIf, mBol, mBin, mBinL, mBind, mLift, mPure, mPeek, mVar, ixD, iI, bolD, mAsg, mCall1, mCallN, intD, modD, iIc, cMod, mStore, mStoreO, mDone, gSet, mOwn, mPut, setD, mRet, mDrop, mStuck, mTru, truD, mOrT, mAndT, mNotT, mAnd, mOr, mNot, mIsi, isiT_eq, typD, lenD, mCons, mTup, mLst, mLstN, mVal, oOr, addD, subD, mulD, mulI, iIc, cMul, ltD, leD, gtD, geD, gTupD, gCons2, gsNil, mCallV, mCallB, mRs, tupleD, mRetF, mChain, mScr, mScrLen, mScrIx, mMut, appD, max2D, min2D, mRng1, mRng2, rngD1, rngD2, rngOk, mItems, itemsD, mAsgN, mParEE, mParEN, mUn, negD, mCallN1, listD, unsE, powD, cPow, divD, cDiv, mFor, mSl, mSlL, slD, mNoPart, mPart, intO, mSlN, mSlNL, slN, mRevN, revO, mParNC, andD, orD, xorD, shrD, shlD, cShr, mStepN, mStepNL, stepO, mCatN, mCatNL, catN, itemD, byteOf, z0, z1, k_tw]
  | some n =>
    by_cases c : n < 256 <;> simp [fn__is_whole, runV, m__is_whole, env0, mSeq, mIf, mBol, mBin, mBinL, mBind, mLift, mPure, mPeek, mVar, ixD, iI, bolD, mAsg, mCall1, mCallN, intD, modD, iIc, cMod, mStore, mStoreO, mDone, gSet, mOwn, mPut, setD, mRet, mDrop, mStuck, mTru, truD, mOrT, mAndT, mNotT, mAnd, mOr, mNot, mIsi, isiT_eq, typD, lenD, mCons, mTup, mLst, mLstN, mVal, oOr, addD, subD, mulD, mulI, iIc, cMul, ltD, leD, gtD, geD, gTupD, gCons2, gsNil, mCallV, mCallB, mRs, tupleD, mRetF, mChain, mScr, mScrLen, mScrIx, mMut, appD, max2D, min2D, mRng1, mRng2, rngD1, rngD2, rngOk, mItems, itemsD, mAsgN, mParEE, mParEN, mUn, negD, mCallN1, listD, unsE, powD, cPow, divD, cDiv, mFor, mSl, mSlL, slD, mNoPart, mPart, intO, mSlN, mSlNL, slN, mRevN, revO, mParNC, andD, orD, xorD, shrD, shlD, cShr, mStepN, mStepNL, stepO, mCatN, mCatNL, catN, itemD, byteOf, z0, z1, k_ww, c]
theorem byte_ok (x : Im) : fn__law_is_byte [itemD x] = some (.ok (.bool (byteOf x).isSome)) := by
  have z0 : ∀ p q r s t : D, atI [p, q, r, s, t] 0 = some p := fun _ _ _ _ _ => rfl
  have z1 : ∀ p q r s t : D, atI [p, q, r, s, t] 1 = some q := fun _ _ _ _ _ => rfl
  obtain ⟨n, why, b, e, pl⟩ := x
  cases n with
  | none => simp [fn__law_is_byte, runV, m__law_is_byte, env0, mSeq, mIf, mBol, mBin, mBinL, mBind, mLift, mPure, mPeek, mVar, ixD, iI, bolD, mAsg, mCall1, mCallN, intD, modD, iIc, cMod, mStore, mStoreO, mDone, gSet, mOwn, mPut, setD, mRet, mDrop, mStuck, mTru, truD, mOrT, mAndT, mNotT, mAnd, mOr, mNot, mIsi, isiT_eq, typD, lenD, mCons, mTup, mLst, mLstN, mVal, oOr, addD, subD, mulD, mulI, iIc, cMul, ltD, leD, gtD, geD, gTupD, gCons2, gsNil, mCallV, mCallB, mRs, tupleD, mRetF, mChain, mScr, mScrLen, mScrIx, mMut, appD, max2D, min2D, mRng1, mRng2, rngD1, rngD2, rngOk, mItems, itemsD, mAsgN, mParEE, mParEN, mUn, negD, mCallN1, listD, unsE, powD, cPow, divD, cDiv, mFor, mSl, mSlL, slD, mNoPart, mPart, intO, mSlN, mSlNL, slN, mRevN, revO, mParNC, andD, orD, xorD, shrD, shlD, cShr, mStepN, mStepNL, stepO, mCatN, mCatNL, catN, itemD, byteOf, z0, z1, k_tw]
  | some n =>
    by_cases c : n < 256 <;> simp [fn__law_is_byte, runV, m__law_is_byte, env0, mSeq, mIf, mBol, mBin, mBinL, mBind, mLift, mPure, mPeek, mVar, ixD, iI, bolD, mAsg, mCall1, mCallN, intD, modD, iIc, cMod, mStore, mStoreO, mDone, gSet, mOwn, mPut, setD, mRet, mDrop, mStuck, mTru, truD, mOrT, mAndT, mNotT, mAnd, mOr, mNot, mIsi, isiT_eq, typD, lenD, mCons, mTup, mLst, mLstN, mVal, oOr, addD, subD, mulD, mulI, iIc, cMul, ltD, leD, gtD, geD, gTupD, gCons2, gsNil, mCallV, mCallB, mRs, tupleD, mRetF, mChain, mScr, mScrLen, mScrIx, mMut, appD, max2D, min2D, mRng1, mRng2, rngD1, rngD2, rngOk, mItems, itemsD, mAsgN, mParEE, mParEN, mUn, negD, mCallN1, listD, unsE, powD, cPow, divD, cDiv, mFor, mSl, mSlL, slD, mNoPart, mPart, intO, mSlN, mSlNL, slN, mRevN, revO, mParNC, andD, orD, xorD, shrD, shlD, cShr, mStepN, mStepNL, stepO, mCatN, mCatNL, catN, itemD, byteOf, z0, z1, k_ww, c]
theorem byteOf_is {x : Im} {n : Int} (h : byteOf x = some n) : x.n = some n ∧ n < 256 := by
  unfold byteOf at h
  cases e : x.n with
  | none => rw [e] at h; cases h
  | some m =>
    rw [e] at h
    dsimp only at h
    by_cases c : m < 256
    · rw [if_pos c] at h; cases h; exact ⟨rfl, c⟩
    · rw [if_neg c] at h; cases h
def trD (left : Int) : Tr → D
  | .word => .tuple [.str "torn", .str "word", .int 1]
  | .long => .tuple [.str "torn", .str "long", .int 1]
  | .chk => .tuple [.str "torn", .str "check", .int 1]
  | .pkt ns => .tuple [.str "packet", .tuple (ns.map PyData.int), .int (ns.length + 3)]
  | .done => .tuple [.str "torn", .str "end", .int left]
theorem check_is {k : String} {ns : List Int} (hk : k = "sum" ∨ k = "xor" ∨ k = "rest") (hn : ∀ n ∈ ns, By n) : fn_check_of [.str k, .list (ns.map PyData.int)] = some (.ok (.int (chk k ns))) := by
  rcases hk with rfl | rfl | rfl
  · exact check_sum (.inl rfl) hn
  · exact check_xor (.inl rfl) hn
  · exact check_rest (.inl rfl) hn
theorem ends_is (ck : List Int → Int) (ns : List Int) (n : Int) : ends ck (ns ++ [n]) = if n = ck ns then .pkt (ns.drop 1) else .chk := by
  unfold ends
  rw [List.dropLast_concat, List.getLast?_append]
  simp
theorem cut_one (m : D) (t : List D) (n : D) : cutL (m :: t ++ [n]) (some 1) (some (-1)) = t := by
  unfold cutL HT.sIx
  simp
  rw [show (-1 + ((t.length : Int) + 1 + 1)).toNat = t.length + 1 by omega]
  simp
theorem cut_last (t : List D) (n : D) : cutL (t ++ [n]) none (some (-1)) = t := by
  unfold cutL HT.sIx
  simp
  rw [show (-1 + ((t.length : Int) + 1)).toNat = t.length by omega, List.take_left']
  rfl
theorem try_turn {I A : D} {most : Int} {k : String} {ns : List Int} {x : Im} (hk : k = "sum" ∨ k = "xor" ∨ k = "rest") (hn : ∀ n ∈ ns, By n) (hx : ∀ n, byteOf x = some n → 0 ≤ n) (hl : ns.length ≤ 1000) :
    ∃ ρ, L__try_from_0 [.val I, .val A, .val (.int most), .val (.str k), .own (ns.map PyData.int), .val (itemD x)] = (match byteOf x with
      | none => some (.ok (.rt (trD 0 .word)) [.val I, .val A, .val (.int most), .val (.str k), .own (ns.map PyData.int), .val (itemD x)])
      | some n => if (ns ++ [n]).getD 0 0 > most then some (.ok (.rt (trD 0 .long)) ρ) else
        if ((ns ++ [n]).length : Int) = (ns ++ [n]).getD 0 0 + 2 then some (.ok (.rt (trD 0 (ends (chk k) (ns ++ [n])))) ρ) else some (.ok .nx ρ)) ∧ (∀ n, byteOf x = some n → ρ = [.val I, .val A, .val (.int most), .val (.str k), .own ((ns ++ [n]).map PyData.int), .val (itemD x)]) := by
  have hw := whole_ok x
  cases e : byteOf x with
  | none =>
    rw [e] at hw
    have hw' : fn__is_whole [itemD x] = some (.ok (.bool false)) := hw
    refine ⟨[], ?_, fun n h => by cases h⟩
    generalize itemD x = X at *
    simp [L__try_from_0, mSeq, mIf, mBol, mBin, mBinL, mBind, mLift, mPure, mPeek, mVar, ixD, iI, bolD, mAsg, mCall1, mCallN, intD, modD, iIc, cMod, mStore, mStoreO, mDone, gSet, mOwn, mPut, setD, mRet, mDrop, mStuck, mTru, truD, mOrT, mAndT, mNotT, mAnd, mOr, mNot, mIsi, isiT_eq, typD, lenD, mCons, mTup, mLst, mLstN, mVal, oOr, addD, subD, mulD, mulI, iIc, cMul, ltD, leD, gtD, geD, gTupD, gCons2, gsNil, mCallV, mCallB, mRs, tupleD, mRetF, mChain, mScr, mScrLen, mScrIx, mMut, appD, max2D, min2D, mRng1, mRng2, rngD1, rngD2, rngOk, mItems, itemsD, mAsgN, mParEE, mParEN, mUn, negD, mCallN1, listD, unsE, powD, cPow, divD, cDiv, mFor, mSl, mSlL, slD, mNoPart, mPart, intO, mSlN, mSlNL, slN, mRevN, revO, mParNC, andD, orD, xorD, shrD, shlD, cShr, mStepN, mStepNL, stepO, mCatN, mCatNL, catN, hw', trD, fit]
  | some n =>
    rw [e] at hw
    have hw' : fn__is_whole [itemD x] = some (.ok (.bool true)) := hw
    obtain ⟨hxn, h256⟩ := byteOf_is e
    have n0 := hx n e
    have hi : ∃ r s t : D, itemD x = .tuple [.str "word", .int n, r, s, t] := ⟨_, _, _, by unfold itemD; rw [hxn]⟩
    obtain ⟨r, s, t, hi⟩ := hi
    have z1 : ∀ p q r s t : D, atI [p, q, r, s, t] 1 = some q := fun _ _ _ _ _ => rfl
    have hc := check_is (k := k) hk hn
    refine ⟨[.val I, .val A, .val (.int most), .val (.str k), .own ((ns ++ [n]).map PyData.int), .val (itemD x)], ?_, fun m h => by cases h; rfl⟩
    rw [hi] at hw' ⊢
    have f1 : ns.length < 16000000 := by omega
    have f2 : ns.length + 1 ≤ 16000000 := by omega
    dsimp only
    cases ns with
    | nil =>
      have a0 : ∀ p : D, atI [p] 0 = some p := fun _ => rfl
      have g0 : (([] : List Int) ++ [n]).getD 0 0 = n := rfl
      have c2 : ¬ ((1 : Int) = n + 2) := by omega
      rw [g0]
      by_cases c : n > most
      · simp [L__try_from_0, mSeq, mIf, mBol, mBin, mBinL, mBind, mLift, mPure, mPeek, mVar, ixD, iI, bolD, mAsg, mCall1, mCallN, intD, modD, iIc, cMod, mStore, mStoreO, mDone, gSet, mOwn, mPut, setD, mRet, mDrop, mStuck, mTru, truD, mOrT, mAndT, mNotT, mAnd, mOr, mNot, mIsi, isiT_eq, typD, lenD, mCons, mTup, mLst, mLstN, mVal, oOr, addD, subD, mulD, mulI, iIc, cMul, ltD, leD, gtD, geD, gTupD, gCons2, gsNil, mCallV, mCallB, mRs, tupleD, mRetF, mChain, mScr, mScrLen, mScrIx, mMut, appD, max2D, min2D, mRng1, mRng2, rngD1, rngD2, rngOk, mItems, itemsD, mAsgN, mParEE, mParEN, mUn, negD, mCallN1, listD, unsE, powD, cPow, divD, cDiv, mFor, mSl, mSlL, slD, mNoPart, mPart, intO, mSlN, mSlNL, slN, mRevN, revO, mParNC, andD, orD, xorD, shrD, shlD, cShr, mStepN, mStepNL, stepO, mCatN, mCatNL, catN, hw', z1, fit, appD, trD, a0, c]
      · have c' : ¬ most < n := c
        simp [L__try_from_0, mSeq, mIf, mBol, mBin, mBinL, mBind, mLift, mPure, mPeek, mVar, ixD, iI, bolD, mAsg, mCall1, mCallN, intD, modD, iIc, cMod, mStore, mStoreO, mDone, gSet, mOwn, mPut, setD, mRet, mDrop, mStuck, mTru, truD, mOrT, mAndT, mNotT, mAnd, mOr, mNot, mIsi, isiT_eq, typD, lenD, mCons, mTup, mLst, mLstN, mVal, oOr, addD, subD, mulD, mulI, iIc, cMul, ltD, leD, gtD, geD, gTupD, gCons2, gsNil, mCallV, mCallB, mRs, tupleD, mRetF, mChain, mScr, mScrLen, mScrIx, mMut, appD, max2D, min2D, mRng1, mRng2, rngD1, rngD2, rngOk, mItems, itemsD, mAsgN, mParEE, mParEN, mUn, negD, mCallN1, listD, unsE, powD, cPow, divD, cDiv, mFor, mSl, mSlL, slD, mNoPart, mPart, intO, mSlN, mSlNL, slN, mRevN, revO, mParNC, andD, orD, xorD, shrD, shlD, cShr, mStepN, mStepNL, stepO, mCatN, mCatNL, catN, hw', z1, fit, appD, trD, a0, c', c2, eq_int]
    | cons m ts =>
      have a0 : atI (PyData.int m :: (ts.map PyData.int ++ [PyData.int n])) 0 = some (.int m) := atI_nat' (by omega) rfl
      have a1 : atI (PyData.int m :: (ts.map PyData.int ++ [PyData.int n])) (-1) = some (.int n) := atI_last (PyData.int m :: ts.map PyData.int) (.int n)
      have g0 : (m :: ts ++ [n]).getD 0 0 = m := rfl
      have s1 : cutL (PyData.int m :: (ts.map PyData.int ++ [PyData.int n])) none (some (-1)) = .int m :: ts.map PyData.int := cut_last (.int m :: ts.map PyData.int) (.int n)
      have s2 : cutL (PyData.int m :: (ts.map PyData.int ++ [PyData.int n])) (some 1) (some (-1)) = ts.map PyData.int := cut_one (.int m) (ts.map PyData.int) (.int n)
      have hl' : ((m :: ts ++ [n]).length : Int) = (ts.length : Int) + 1 + 1 := by simp
      have hc' : fn_check_of [.str k, .list (.int m :: ts.map PyData.int)] = some (.ok (.int (chk k (m :: ts)))) := hc
      have hT : ∀ o : List D, tupleD [.list o] = some (.tuple o) := fun _ => rfl
      rw [g0, hl', ends_is]
      have f3 : ts.length ≤ 15999999 := by simp only [List.length_cons] at f1; omega
      clear f1 f2
      generalize chk k (m :: ts) = v at *
      by_cases c : m > most
      · simp [L__try_from_0, mSeq, mIf, mBol, mBin, mBinL, mBind, mLift, mPure, mPeek, mVar, ixD, iI, bolD, mAsg, mCall1, mCallN, intD, modD, iIc, cMod, mStore, mStoreO, mDone, gSet, mOwn, mPut, setD, mRet, mDrop, mStuck, mTru, truD, mOrT, mAndT, mNotT, mAnd, mOr, mNot, mIsi, isiT_eq, typD, lenD, mCons, mTup, mLst, mLstN, mVal, oOr, addD, subD, mulD, mulI, iIc, cMul, ltD, leD, gtD, geD, gTupD, gCons2, gsNil, mCallV, mCallB, mRs, tupleD, mRetF, mChain, mScr, mScrLen, mScrIx, mMut, appD, max2D, min2D, mRng1, mRng2, rngD1, rngD2, rngOk, mItems, itemsD, mAsgN, mParEE, mParEN, mUn, negD, mCallN1, listD, unsE, powD, cPow, divD, cDiv, mFor, mSl, mSlL, slD, mNoPart, mPart, intO, mSlN, mSlNL, slN, mRevN, revO, mParNC, andD, orD, xorD, shrD, shlD, cShr, mStepN, mStepNL, stepO, mCatN, mCatNL, catN, hw', z1, fit, appD, trD, a0, c, f3]
      · have c' : ¬ most < m := c
        by_cases c2 : (ts.length : Int) + 1 + 1 = m + 2
        · by_cases c3 : n = v
          · subst c3
            simp [L__try_from_0, mSeq, mIf, mBol, mBin, mBinL, mBind, mLift, mPure, mPeek, mVar, ixD, iI, bolD, mAsg, mCall1, mCallN, intD, modD, iIc, cMod, mStore, mStoreO, mDone, gSet, mOwn, mPut, setD, mRet, mDrop, mStuck, mTru, truD, mOrT, mAndT, mNotT, mAnd, mOr, mNot, mIsi, isiT_eq, typD, lenD, mCons, mTup, mLst, mLstN, mVal, oOr, addD, subD, mulD, mulI, iIc, cMul, ltD, leD, gtD, geD, gTupD, gCons2, gsNil, mCallV, mCallB, mRs, tupleD, mRetF, mChain, mScr, mScrLen, mScrIx, mMut, appD, max2D, min2D, mRng1, mRng2, rngD1, rngD2, rngOk, mItems, itemsD, mAsgN, mParEE, mParEN, mUn, negD, mCallN1, listD, unsE, powD, cPow, divD, cDiv, mFor, mSl, mSlL, slD, mNoPart, mPart, intO, mSlN, mSlNL, slN, mRevN, revO, mParNC, andD, orD, xorD, shrD, shlD, cShr, mStepN, mStepNL, stepO, mCatN, mCatNL, catN, hw', z1, fit, appD, trD, a0, a1, s1, s2, c', c2, f3, eq_int, ne_int, mSlL, mPart, mNoPart, slD, intO, hc', hT]
            omega
          · simp [L__try_from_0, mSeq, mIf, mBol, mBin, mBinL, mBind, mLift, mPure, mPeek, mVar, ixD, iI, bolD, mAsg, mCall1, mCallN, intD, modD, iIc, cMod, mStore, mStoreO, mDone, gSet, mOwn, mPut, setD, mRet, mDrop, mStuck, mTru, truD, mOrT, mAndT, mNotT, mAnd, mOr, mNot, mIsi, isiT_eq, typD, lenD, mCons, mTup, mLst, mLstN, mVal, oOr, addD, subD, mulD, mulI, iIc, cMul, ltD, leD, gtD, geD, gTupD, gCons2, gsNil, mCallV, mCallB, mRs, tupleD, mRetF, mChain, mScr, mScrLen, mScrIx, mMut, appD, max2D, min2D, mRng1, mRng2, rngD1, rngD2, rngOk, mItems, itemsD, mAsgN, mParEE, mParEN, mUn, negD, mCallN1, listD, unsE, powD, cPow, divD, cDiv, mFor, mSl, mSlL, slD, mNoPart, mPart, intO, mSlN, mSlNL, slN, mRevN, revO, mParNC, andD, orD, xorD, shrD, shlD, cShr, mStepN, mStepNL, stepO, mCatN, mCatNL, catN, hw', z1, fit, appD, trD, a0, a1, s1, s2, c', c2, c3, f3, eq_int, ne_int, mSlL, mPart, mNoPart, slD, intO, hc', hT]
        · simp [L__try_from_0, mSeq, mIf, mBol, mBin, mBinL, mBind, mLift, mPure, mPeek, mVar, ixD, iI, bolD, mAsg, mCall1, mCallN, intD, modD, iIc, cMod, mStore, mStoreO, mDone, gSet, mOwn, mPut, setD, mRet, mDrop, mStuck, mTru, truD, mOrT, mAndT, mNotT, mAnd, mOr, mNot, mIsi, isiT_eq, typD, lenD, mCons, mTup, mLst, mLstN, mVal, oOr, addD, subD, mulD, mulI, iIc, cMul, ltD, leD, gtD, geD, gTupD, gCons2, gsNil, mCallV, mCallB, mRs, tupleD, mRetF, mChain, mScr, mScrLen, mScrIx, mMut, appD, max2D, min2D, mRng1, mRng2, rngD1, rngD2, rngOk, mItems, itemsD, mAsgN, mParEE, mParEN, mUn, negD, mCallN1, listD, unsE, powD, cPow, divD, cDiv, mFor, mSl, mSlL, slD, mNoPart, mPart, intO, mSlN, mSlNL, slN, mRevN, revO, mParNC, andD, orD, xorD, shrD, shlD, cShr, mStepN, mStepNL, stepO, mCatN, mCatNL, catN, hw', z1, fit, appD, trD, a0, c', c2, f3, eq_int]
theorem try_loop {I A : D} {most : Int} {k : String} (hk : k = "sum" ∨ k = "xor" ∨ k = "rest") : ∀ (xs : List Im) (ns : List Int) (u : Sl), (∀ n ∈ ns, By n) → (∀ x ∈ xs, ∀ n, byteOf x = some n → 0 ≤ n) → ns.length + xs.length ≤ 1000 →
    ∃ ρ, mForL (mStore 5) L__try_from_0 (xs.map itemD) [.val I, .val A, .val (.int most), .val (.str k), .own (ns.map PyData.int), u] = match tryP most (chk k) ns xs with
      | .done => some (.ok .nx (.val I :: .val A :: .val (.int most) :: ρ))
      | t => some (.ok (.rt (trD 0 t)) ρ)
  | [], ns, u, _, _, _ => ⟨[.val (.str k), .own (ns.map PyData.int), u], rfl⟩
  | x :: xs, ns, u, hn, hx, hl => by
    rw [List.length_cons] at hl
    have e1 : mStore 5 (itemD x) [.val I, .val A, .val (.int most), .val (.str k), .own (ns.map PyData.int), u] = some (.ok () [.val I, .val A, .val (.int most), .val (.str k), .own (ns.map PyData.int), .val (itemD x)]) := by simp [mStore]
    obtain ⟨ρ, h1, h2⟩ := try_turn (I := I) (A := A) (most := most) (x := x) hk hn (fun n e => hx x List.mem_cons_self n e) (by omega)
    rw [List.map_cons]
    unfold mForL tryP
    rw [bind_is e1]
    cases e : byteOf x with
    | none =>
      rw [e] at h1
      exact ⟨[.val I, .val A, .val (.int most), .val (.str k), .own (ns.map PyData.int), .val (itemD x)], by rw [bind_is h1]; rfl⟩
    | some n =>
      rw [e] at h1
      dsimp only at h1 ⊢
      have hb : By n := ⟨hx x List.mem_cons_self n e, (byteOf_is e).2⟩
      by_cases c : (ns ++ [n]).getD 0 0 > most
      · rw [if_pos c] at h1 ⊢
        exact ⟨ρ, by rw [bind_is h1]; rfl⟩
      · rw [if_neg c] at h1 ⊢
        by_cases c2 : ((ns ++ [n]).length : Int) = (ns ++ [n]).getD 0 0 + 2
        · rw [if_pos c2] at h1 ⊢
          refine ⟨ρ, ?_⟩
          rw [bind_is h1]
          rw [ends_is]
          by_cases c3 : n = chk k ns
          · rw [if_pos c3]; rfl
          · rw [if_neg c3]; rfl
        · rw [if_neg c2] at h1 ⊢
          rw [h2 n e] at h1
          obtain ⟨ρ', h3⟩ := try_loop (I := I) (A := A) (most := most) hk xs (ns ++ [n]) (.val (itemD x)) (fun z hz => (List.mem_append.mp hz).elim (hn z) fun q => by rw [List.mem_singleton.mp q]; exact hb) (fun y hy => hx y (List.mem_cons_of_mem _ hy)) (by rw [List.length_append, List.length_singleton]; omega)
          exact ⟨ρ', by rw [bind_is h1]; exact h3⟩

theorem map_drop_take {f : Im → D} (xs : List Im) (a b : Nat) : (((xs.map f).drop a).take b) = ((xs.drop a).take b).map f := by rw [← List.map_drop, ← List.map_take]
/-- what _try_from tells of the items behind place at -/
theorem try_from_ok {I : D} {xs : List Im} {i : Nat} {most : Int} {k : String} (hI : I = .list (xs.map itemD) ∨ I = .tuple (xs.map itemD)) (hk : k = "sum" ∨ k = "xor" ∨ k = "rest") (hx : ∀ x ∈ xs, ∀ n, byteOf x = some n → 0 ≤ n) (hl : xs.length ≤ 900) (m0 : 0 ≤ most) (m1 : most ≤ 1000) (hi : i < xs.length) :
    fn__try_from [I, .int (i : Nat), .int most, .str k] = some (.ok (trD (xs.length - i) (tryP most (chk k) [] (xs.drop (i + 1))))) := by
  have hxd : ∀ x ∈ xs.drop (i + 1), ∀ n, byteOf x = some n → 0 ≤ n := fun x h => hx x (List.mem_of_mem_drop h)
  have ht := tryP_take (ck := chk k) (xs.drop (i + 1)) [] (most + 2).toNat (.inl ⟨rfl, by omega, m0⟩) hxd
  obtain ⟨ρ, h⟩ := try_loop (I := I) (A := .int (i : Nat)) (most := most) hk ((xs.drop (i + 1)).take (most + 2).toNat) [] .un (fun n h => by cases h) (fun x h => hxd x (List.mem_of_mem_take h)) (by
    have := List.length_take_le (most + 2).toNat (xs.drop (i + 1))
    have : (xs.drop (i + 1)).length ≤ xs.length := by rw [List.length_drop]; omega
    rw [List.length_nil]
    have := List.length_take_le' (most + 2).toNat (xs.drop (i + 1))
    omega)
  rw [ht] at h
  have hc : cutL (xs.map itemD) (some ((i : Int) + 1)) (some ((i : Int) + most + 3)) = ((xs.drop (i + 1)).take (most + 2).toNat).map itemD := by
    unfold cutL HT.sIx
    dsimp only
    rw [if_neg (by omega), if_neg (by omega), List.length_map, show min ((i : Int) + 1).toNat xs.length = i + 1 by omega, map_drop_take]
    congr 1
    by_cases c : ((i : Int) + most + 3).toNat ≤ xs.length
    · rw [Nat.min_eq_left c, show ((i : Int) + most + 3).toNat - (i + 1) = (most + 2).toNat by omega]
    · rw [Nat.min_eq_right (by omega), List.take_of_length_le (by rw [List.length_drop]; omega), List.take_of_length_le (by rw [List.length_drop]; omega)]
  have hR : R__try_from_0 [.val I, .val (.int (i : Nat)), .val (.int most), .val (.str k), .own [], .un] = mForL (mStore 5) L__try_from_0 (((xs.drop (i + 1)).take (most + 2).toNat).map itemD) [.val I, .val (.int (i : Nat)), .val (.int most), .val (.str k), .own [], .un] := by
    have hit : mItems (mSlL 0 (mPart (mBinL addD 1 (mPure (.int 1)))) (mPart (mBin addD (mBinL addD 1 (mPeek 2)) (mPure (.int 3))))) [.val I, .val (.int (i : Nat)), .val (.int most), .val (.str k), .own [], .un] = some (.ok (((xs.drop (i + 1)).take (most + 2).toNat).map itemD) [.val I, .val (.int (i : Nat)), .val (.int most), .val (.str k), .own [], .un]) := by
      rcases hI with rfl | rfl <;> simp [mSeq, mIf, mBol, mBin, mBinL, mBind, mLift, mPure, mPeek, mVar, ixD, iI, bolD, mAsg, mCall1, mCallN, intD, modD, iIc, cMod, mStore, mStoreO, mDone, gSet, mOwn, mPut, setD, mRet, mDrop, mStuck, mTru, truD, mOrT, mAndT, mNotT, mAnd, mOr, mNot, mIsi, isiT_eq, typD, lenD, mCons, mTup, mLst, mLstN, mVal, oOr, addD, subD, mulD, mulI, iIc, cMul, ltD, leD, gtD, geD, gTupD, gCons2, gsNil, mCallV, mCallB, mRs, tupleD, mRetF, mChain, mScr, mScrLen, mScrIx, mMut, appD, max2D, min2D, mRng1, mRng2, rngD1, rngD2, rngOk, mItems, itemsD, mAsgN, mParEE, mParEN, mUn, negD, mCallN1, listD, unsE, powD, cPow, divD, cDiv, mFor, mSl, mSlL, slD, mNoPart, mPart, intO, mSlN, mSlNL, slN, mRevN, revO, mParNC, andD, orD, xorD, shrD, shlD, cShr, mStepN, mStepNL, stepO, mCatN, mCatNL, catN, mSlL, mPart, intO, slD, hc]
    unfold R__try_from_0 mFor
    rw [bind_is hit]
  rw [List.map_nil, ← hR] at h
  have hlen : lenD [I] = some (.int (xs.length : Nat)) := by rcases hI with rfl | rfl <;> simp [lenD]
  cases e : tryP most (chk k) [] (xs.drop (i + 1)) with
  | done =>
    rw [e] at h
    have h' : R__try_from_0 [.val I, .val (.int (i : Nat)), .val (.int most), .val (.str k), .own [], .un] = some (.ok .nx (.val I :: .val (.int (i : Nat)) :: .val (.int most) :: ρ)) := h
    rcases hI with rfl | rfl <;> simp [fn__try_from, runV, m__try_from, env0, mSeq, mIf, mBol, mBin, mBinL, mBind, mLift, mPure, mPeek, mVar, ixD, iI, bolD, mAsg, mCall1, mCallN, intD, modD, iIc, cMod, mStore, mStoreO, mDone, gSet, mOwn, mPut, setD, mRet, mDrop, mStuck, mTru, truD, mOrT, mAndT, mNotT, mAnd, mOr, mNot, mIsi, isiT_eq, typD, lenD, mCons, mTup, mLst, mLstN, mVal, oOr, addD, subD, mulD, mulI, iIc, cMul, ltD, leD, gtD, geD, gTupD, gCons2, gsNil, mCallV, mCallB, mRs, tupleD, mRetF, mChain, mScr, mScrLen, mScrIx, mMut, appD, max2D, min2D, mRng1, mRng2, rngD1, rngD2, rngOk, mItems, itemsD, mAsgN, mParEE, mParEN, mUn, negD, mCallN1, listD, unsE, powD, cPow, divD, cDiv, mFor, mSl, mSlL, slD, mNoPart, mPart, intO, mSlN, mSlNL, slN, mRevN, revO, mParNC, andD, orD, xorD, shrD, shlD, cShr, mStepN, mStepNL, stepO, mCatN, mCatNL, catN, fit, h', trD]
  | word => rw [e] at h; simp [fn__try_from, runV, m__try_from, env0, mSeq, mIf, mBol, mBin, mBinL, mBind, mLift, mPure, mPeek, mVar, ixD, iI, bolD, mAsg, mCall1, mCallN, intD, modD, iIc, cMod, mStore, mStoreO, mDone, gSet, mOwn, mPut, setD, mRet, mDrop, mStuck, mTru, truD, mOrT, mAndT, mNotT, mAnd, mOr, mNot, mIsi, isiT_eq, typD, lenD, mCons, mTup, mLst, mLstN, mVal, oOr, addD, subD, mulD, mulI, iIc, cMul, ltD, leD, gtD, geD, gTupD, gCons2, gsNil, mCallV, mCallB, mRs, tupleD, mRetF, mChain, mScr, mScrLen, mScrIx, mMut, appD, max2D, min2D, mRng1, mRng2, rngD1, rngD2, rngOk, mItems, itemsD, mAsgN, mParEE, mParEN, mUn, negD, mCallN1, listD, unsE, powD, cPow, divD, cDiv, mFor, mSl, mSlL, slD, mNoPart, mPart, intO, mSlN, mSlNL, slN, mRevN, revO, mParNC, andD, orD, xorD, shrD, shlD, cShr, mStepN, mStepNL, stepO, mCatN, mCatNL, catN, fit, h, trD]
  | long => rw [e] at h; simp [fn__try_from, runV, m__try_from, env0, mSeq, mIf, mBol, mBin, mBinL, mBind, mLift, mPure, mPeek, mVar, ixD, iI, bolD, mAsg, mCall1, mCallN, intD, modD, iIc, cMod, mStore, mStoreO, mDone, gSet, mOwn, mPut, setD, mRet, mDrop, mStuck, mTru, truD, mOrT, mAndT, mNotT, mAnd, mOr, mNot, mIsi, isiT_eq, typD, lenD, mCons, mTup, mLst, mLstN, mVal, oOr, addD, subD, mulD, mulI, iIc, cMul, ltD, leD, gtD, geD, gTupD, gCons2, gsNil, mCallV, mCallB, mRs, tupleD, mRetF, mChain, mScr, mScrLen, mScrIx, mMut, appD, max2D, min2D, mRng1, mRng2, rngD1, rngD2, rngOk, mItems, itemsD, mAsgN, mParEE, mParEN, mUn, negD, mCallN1, listD, unsE, powD, cPow, divD, cDiv, mFor, mSl, mSlL, slD, mNoPart, mPart, intO, mSlN, mSlNL, slN, mRevN, revO, mParNC, andD, orD, xorD, shrD, shlD, cShr, mStepN, mStepNL, stepO, mCatN, mCatNL, catN, fit, h, trD]
  | chk => rw [e] at h; simp [fn__try_from, runV, m__try_from, env0, mSeq, mIf, mBol, mBin, mBinL, mBind, mLift, mPure, mPeek, mVar, ixD, iI, bolD, mAsg, mCall1, mCallN, intD, modD, iIc, cMod, mStore, mStoreO, mDone, gSet, mOwn, mPut, setD, mRet, mDrop, mStuck, mTru, truD, mOrT, mAndT, mNotT, mAnd, mOr, mNot, mIsi, isiT_eq, typD, lenD, mCons, mTup, mLst, mLstN, mVal, oOr, addD, subD, mulD, mulI, iIc, cMul, ltD, leD, gtD, geD, gTupD, gCons2, gsNil, mCallV, mCallB, mRs, tupleD, mRetF, mChain, mScr, mScrLen, mScrIx, mMut, appD, max2D, min2D, mRng1, mRng2, rngD1, rngD2, rngOk, mItems, itemsD, mAsgN, mParEE, mParEN, mUn, negD, mCallN1, listD, unsE, powD, cPow, divD, cDiv, mFor, mSl, mSlL, slD, mNoPart, mPart, intO, mSlN, mSlNL, slN, mRevN, revO, mParNC, andD, orD, xorD, shrD, shlD, cShr, mStepN, mStepNL, stepO, mCatN, mCatNL, catN, fit, h, trD]
  | pkt ns => rw [e] at h; simp [fn__try_from, runV, m__try_from, env0, mSeq, mIf, mBol, mBin, mBinL, mBind, mLift, mPure, mPeek, mVar, ixD, iI, bolD, mAsg, mCall1, mCallN, intD, modD, iIc, cMod, mStore, mStoreO, mDone, gSet, mOwn, mPut, setD, mRet, mDrop, mStuck, mTru, truD, mOrT, mAndT, mNotT, mAnd, mOr, mNot, mIsi, isiT_eq, typD, lenD, mCons, mTup, mLst, mLstN, mVal, oOr, addD, subD, mulD, mulI, iIc, cMul, ltD, leD, gtD, geD, gTupD, gCons2, gsNil, mCallV, mCallB, mRs, tupleD, mRetF, mChain, mScr, mScrLen, mScrIx, mMut, appD, max2D, min2D, mRng1, mRng2, rngD1, rngD2, rngOk, mItems, itemsD, mAsgN, mParEE, mParEN, mUn, negD, mCallN1, listD, unsE, powD, cPow, divD, cDiv, mFor, mSl, mSlL, slD, mNoPart, mPart, intO, mSlN, mSlNL, slN, mRevN, revO, mParNC, andD, orD, xorD, shrD, shlD, cShr, mStepN, mStepNL, stepO, mCatN, mCatNL, catN, fit, h, trD]

theorem trD_is (left : Nat) (t : Tr) : ∃ k w : D, headD t = [k, w] ∧ trD (left : Int) t = .tuple [k, w, .int (manyP left t : Nat)] := by
  cases t with
  | pkt ns => exact ⟨_, _, rfl, by show PyData.tuple [_, _, .int (ns.length + 3)] = .tuple [_, _, .int ((ns.length + 3 : Nat) : Int)]; congr 4⟩
  | done => exact ⟨_, _, rfl, rfl⟩
  | word => exact ⟨_, _, rfl, rfl⟩
  | long => exact ⟨_, _, rfl, rfl⟩
  | chk => exact ⟨_, _, rfl, rfl⟩
theorem item_at {xs : List Im} {i : Nat} {x : Im} (e : xs[i]? = some x) : atI (xs.map itemD) (i : Int) = some (itemD x) := atI_nat' (by omega) (by rw [Int.toNat_natCast, List.getElem?_map, e]; rfl)
theorem item_b (x : Im) : ∃ p q s : D, itemD x = .tuple [p, q, .int x.b, .int x.e, s] ∧ (∀ n, byteOf x = some n → q = .int n) := by
  obtain ⟨n, why, b, e, pl⟩ := x
  cases n with
  | none => exact ⟨_, _, _, rfl, fun m h => by cases h⟩
  | some n => exact ⟨_, _, _, rfl, fun m h => by obtain ⟨h1, _⟩ := byteOf_is h; cases h1; rfl⟩
theorem packets_turn {I : D} {xs : List Im} {i : Nat} {x : Im} {mark most : Int} {k : String} {F : List D} {s6 s7 s8 : Sl} (hI : I = .list (xs.map itemD) ∨ I = .tuple (xs.map itemD)) (hk : k = "sum" ∨ k = "xor" ∨ k = "rest") (hx : ∀ x ∈ xs, ∀ n, byteOf x = some n → 0 ≤ n) (hl : xs.length ≤ 900) (m0 : 0 ≤ most) (m1 : most ≤ 1000) (hi : xs[i]? = some x) (hF : F.length ≤ 1000) :
    ∃ s6' s7' s8', (L_packets_in_0 [.val I, .val (.int mark), .val (.int most), .val (.str k), .own F, .val (.int (i : Nat)), s6, s7, s8] = some (.ok .nx [.val I, .val (.int mark), .val (.int most), .val (.str k), .own (F ++ [entD xs x i (tryP most (chk k) [] (xs.drop (i + 1)))]), .val (.int ((i + manyP (xs.length - i) (tryP most (chk k) [] (xs.drop (i + 1))) : Nat) : Int)), s6', s7', s8']) ∧ byteOf x = some mark ∨
      L_packets_in_0 [.val I, .val (.int mark), .val (.int most), .val (.str k), .own F, .val (.int (i : Nat)), s6, s7, s8] = some (.ok .ct [.val I, .val (.int mark), .val (.int most), .val (.str k), .own F, .val (.int ((i + 1 : Nat) : Int)), s6', s7', s8']) ∧ byteOf x ≠ some mark) := by
  have hil : i < xs.length := (List.getElem?_eq_some_iff.mp hi).1
  have hat := item_at hi
  obtain ⟨p, q, s, hit, hq⟩ := item_b x
  have hw := whole_ok x
  rw [hit] at hat hw
  have z1 : ∀ p q r s t : D, atI [p, q, r, s, t] 1 = some q := fun _ _ _ _ _ => rfl
  have z2 : ∀ p q r s t : D, atI [p, q, r, s, t] 2 = some r := fun _ _ _ _ _ => rfl
  have z3 : ∀ p q r s t : D, atI [p, q, r, s, t] 3 = some s := fun _ _ _ _ _ => rfl
  by_cases c : byteOf x = some mark
  · have hqm := hq mark c
    subst hqm
    have ht := try_from_ok (I := I) (most := most) (k := k) hI hk hx hl m0 m1 hil
    obtain ⟨g1, g2⟩ := many_le (most := most) (ck := chk k) hx hil
    rw [show ((xs.length : Int) - (i : Int)) = ((xs.length - i : Nat) : Int) by omega] at ht
    unfold entD
    generalize tryP most (chk k) [] (xs.drop (i + 1)) = t at *
    obtain ⟨kd, wd, e1, e2⟩ := trD_is (xs.length - i) t
    rw [e2] at ht
    rw [e1]
    generalize manyP (xs.length - i) t = m at *
    have hj : i + m - 1 < xs.length := by omega
    have hej : xs[i + m - 1]? = some xs[i + m - 1] := List.getElem?_eq_getElem hj
    have haj := item_at hej
    obtain ⟨p2, q2, s2, hit2, _⟩ := item_b xs[i + m - 1]
    rw [hit2] at haj
    have hee : endAt xs (i + m - 1) = xs[i + m - 1].e := by unfold endAt; rw [hej]
    rw [hee]
    have hp := parts_ok (I := I) (ds := xs.map itemD) (P := .list (rngL (i : Nat) ((i + m : Nat) : Int))) (kd := kd) (wd := wd) hI (.inl rfl) (rng_first (a := i) (b := i + m) (by omega)) (rng_last (a := i) (b := i + m) (by omega)) hat haj
    have hrg : rgOf ((i : Nat) : Int) (.int ((i + m : Nat) : Int)) = some (rngL (i : Nat) ((i + m : Nat) : Int)) := by
      unfold rgOf
      have r1 : rngOk (i : Int) = true := rngOk_le (by omega) (by omega)
      have r2 : rngOk ((i + m : Nat) : Int) = true := rngOk_le (by omega) (by omega)
      have r3 : fit (((i + m : Nat) : Int) - (i : Int)).toNat = true := decide_eq_true (by omega)
      simp only [r1, r2, r3, Bool.and_self, if_true]
    have hF' : F.length < 16000000 := by omega
    have hF2 : F.length + 1 ≤ 16000000 := by omega
    have hF3 : F.length ≤ 16000000 := by omega
    have hw' : fn__is_whole [.tuple [p, .int mark, .int x.b, .int x.e, s]] = some (.ok (.bool true)) := by rw [hw, c]; rfl
    have hcast : ((i : Int) + (m : Int)) = ((i + m : Nat) : Int) := by omega
    refine ⟨.val kd, .val wd, .val (.int (m : Nat)), .inl ⟨?_, c⟩⟩
    clear hej hee hit2 g1 g2 e2 e1 hq
    generalize xs[i + m - 1] = y at *
    clear hj
    generalize i + m - 1 = l at *
    generalize i + m = j at *
    generalize rngL (i : Int) (j : Int) = RG at *
    rcases hI with rfl | rfl <;> simp [L_packets_in_0, mSeq, mIf, mBol, mBin, mBinL, mBind, mLift, mPure, mPeek, mVar, ixD, iI, bolD, mAsg, mCall1, mCallN, intD, modD, iIc, cMod, mStore, mStoreO, mDone, gSet, mOwn, mPut, setD, mRet, mDrop, mStuck, mTru, truD, mOrT, mAndT, mNotT, mAnd, mOr, mNot, mIsi, isiT_eq, typD, lenD, mCons, mTup, mLst, mLstN, mVal, oOr, addD, subD, mulD, mulI, iIc, cMul, ltD, leD, gtD, geD, gTupD, gCons2, gsNil, mCallV, mCallB, mRs, tupleD, mRetF, mChain, mScr, mScrLen, mScrIx, mMut, appD, max2D, min2D, mRng1, mRng2, rngD1, rngD2, rngOk, mItems, itemsD, mAsgN, mParEE, mParEN, mUn, negD, mCallN1, listD, unsE, powD, cPow, divD, cDiv, mFor, mSl, mSlL, slD, mNoPart, mPart, intO, mSlN, mSlNL, slN, mRevN, revO, mParNC, andD, orD, xorD, shrD, shlD, cShr, mStepN, mStepNL, stepO, mCatN, mCatNL, catN, mAug, iI, hat, hw', z1, ht, mRgN2, hcast, hrg, hp, fit, appD, hF3, ne_int, gCons2]
  · have step : ((i : Int) + 1) = ((i + 1 : Nat) : Int) := by omega
    refine ⟨s6, s7, s8, .inr ⟨?_, c⟩⟩
    cases e : byteOf x with
    | none =>
      have hw' : fn__is_whole [.tuple [p, q, .int x.b, .int x.e, s]] = some (.ok (.bool false)) := by rw [hw, e]; rfl
      generalize i + 1 = j at *
      rcases hI with rfl | rfl <;> simp [L_packets_in_0, mSeq, mIf, mBol, mBin, mBinL, mBind, mLift, mPure, mPeek, mVar, ixD, iI, bolD, mAsg, mCall1, mCallN, intD, modD, iIc, cMod, mStore, mStoreO, mDone, gSet, mOwn, mPut, setD, mRet, mDrop, mStuck, mTru, truD, mOrT, mAndT, mNotT, mAnd, mOr, mNot, mIsi, isiT_eq, typD, lenD, mCons, mTup, mLst, mLstN, mVal, oOr, addD, subD, mulD, mulI, iIc, cMul, ltD, leD, gtD, geD, gTupD, gCons2, gsNil, mCallV, mCallB, mRs, tupleD, mRetF, mChain, mScr, mScrLen, mScrIx, mMut, appD, max2D, min2D, mRng1, mRng2, rngD1, rngD2, rngOk, mItems, itemsD, mAsgN, mParEE, mParEN, mUn, negD, mCallN1, listD, unsE, powD, cPow, divD, cDiv, mFor, mSl, mSlL, slD, mNoPart, mPart, intO, mSlN, mSlNL, slN, mRevN, revO, mParNC, andD, orD, xorD, shrD, shlD, cShr, mStepN, mStepNL, stepO, mCatN, mCatNL, catN, mAug, iI, hat, hw', step]
    | some n =>
      have hqn := hq n e
      subst hqn
      have hw' : fn__is_whole [.tuple [p, .int n, .int x.b, .int x.e, s]] = some (.ok (.bool true)) := by rw [hw, e]; rfl
      have hne : ¬ n = mark := fun z => c (by rw [e, z])
      generalize i + 1 = j at *
      rcases hI with rfl | rfl <;> simp [L_packets_in_0, mSeq, mIf, mBol, mBin, mBinL, mBind, mLift, mPure, mPeek, mVar, ixD, iI, bolD, mAsg, mCall1, mCallN, intD, modD, iIc, cMod, mStore, mStoreO, mDone, gSet, mOwn, mPut, setD, mRet, mDrop, mStuck, mTru, truD, mOrT, mAndT, mNotT, mAnd, mOr, mNot, mIsi, isiT_eq, typD, lenD, mCons, mTup, mLst, mLstN, mVal, oOr, addD, subD, mulD, mulI, iIc, cMul, ltD, leD, gtD, geD, gTupD, gCons2, gsNil, mCallV, mCallB, mRs, tupleD, mRetF, mChain, mScr, mScrLen, mScrIx, mMut, appD, max2D, min2D, mRng1, mRng2, rngD1, rngD2, rngOk, mItems, itemsD, mAsgN, mParEE, mParEN, mUn, negD, mCallN1, listD, unsE, powD, cPow, divD, cDiv, mFor, mSl, mSlL, slD, mNoPart, mPart, intO, mSlN, mSlNL, slN, mRevN, revO, mParNC, andD, orD, xorD, shrD, shlD, cShr, mStepN, mStepNL, stepO, mCatN, mCatNL, catN, mAug, iI, hat, hw', step, z1, ne_int, hne]
theorem packets_loop {I : D} {xs : List Im} {mark most : Int} {k : String} (hI : I = .list (xs.map itemD) ∨ I = .tuple (xs.map itemD)) (hk : k = "sum" ∨ k = "xor" ∨ k = "rest") (hx : ∀ x ∈ xs, ∀ n, byteOf x = some n → 0 ≤ n) (hl : xs.length ≤ 900) (m0 : 0 ≤ most) (m1 : most ≤ 1000) :
    ∀ (f i : Nat) (F : List D) (s6 s7 s8 : Sl), xs.length - i < f → F.length + (xs.length - i) ≤ 1000 → ∃ s5' s6' s7' s8', mWhileN (mBol (mBinL ltD 5 (mCall1 lenD (mPeek 0)))) L_packets_in_0 f [.val I, .val (.int mark), .val (.int most), .val (.str k), .own F, .val (.int (i : Nat)), s6, s7, s8] = some (.ok .nx [.val I, .val (.int mark), .val (.int most), .val (.str k), .own (F ++ walkP mark most (chk k) xs f i), s5', s6', s7', s8'])
  | 0, i, F, _, _, _, h, _ => by omega
  | f + 1, i, F, s6, s7, s8, h, hF => by
    have hlen : (mCall1 lenD (mPeek 0)) [.val I, .val (.int mark), .val (.int most), .val (.str k), .own F, .val (.int (i : Nat)), s6, s7, s8] = some (.ok (.int (xs.length : Nat)) [.val I, .val (.int mark), .val (.int most), .val (.str k), .own F, .val (.int (i : Nat)), s6, s7, s8]) := by
      rcases hI with rfl | rfl <;> simp [mSeq, mIf, mBol, mBin, mBinL, mBind, mLift, mPure, mPeek, mVar, ixD, iI, bolD, mAsg, mCall1, mCallN, intD, modD, iIc, cMod, mStore, mStoreO, mDone, gSet, mOwn, mPut, setD, mRet, mDrop, mStuck, mTru, truD, mOrT, mAndT, mNotT, mAnd, mOr, mNot, mIsi, isiT_eq, typD, lenD, mCons, mTup, mLst, mLstN, mVal, oOr, addD, subD, mulD, mulI, iIc, cMul, ltD, leD, gtD, geD, gTupD, gCons2, gsNil, mCallV, mCallB, mRs, tupleD, mRetF, mChain, mScr, mScrLen, mScrIx, mMut, appD, max2D, min2D, mRng1, mRng2, rngD1, rngD2, rngOk, mItems, itemsD, mAsgN, mParEE, mParEN, mUn, negD, mCallN1, listD, unsE, powD, cPow, divD, cDiv, mFor, mSl, mSlL, slD, mNoPart, mPart, intO, mSlN, mSlNL, slN, mRevN, revO, mParNC, andD, orD, xorD, shrD, shlD, cShr, mStepN, mStepNL, stepO, mCatN, mCatNL, catN]
    have hc : mBol (mBinL ltD 5 (mCall1 lenD (mPeek 0))) [.val I, .val (.int mark), .val (.int most), .val (.str k), .own F, .val (.int (i : Nat)), s6, s7, s8] = some (.ok (decide ((i : Int) < (xs.length : Int))) [.val I, .val (.int mark), .val (.int most), .val (.str k), .own F, .val (.int (i : Nat)), s6, s7, s8]) := by
      rcases hI with rfl | rfl <;> simp [mSeq, mIf, mBol, mBin, mBinL, mBind, mLift, mPure, mPeek, mVar, ixD, iI, bolD, mAsg, mCall1, mCallN, intD, modD, iIc, cMod, mStore, mStoreO, mDone, gSet, mOwn, mPut, setD, mRet, mDrop, mStuck, mTru, truD, mOrT, mAndT, mNotT, mAnd, mOr, mNot, mIsi, isiT_eq, typD, lenD, mCons, mTup, mLst, mLstN, mVal, oOr, addD, subD, mulD, mulI, iIc, cMul, ltD, leD, gtD, geD, gTupD, gCons2, gsNil, mCallV, mCallB, mRs, tupleD, mRetF, mChain, mScr, mScrLen, mScrIx, mMut, appD, max2D, min2D, mRng1, mRng2, rngD1, rngD2, rngOk, mItems, itemsD, mAsgN, mParEE, mParEN, mUn, negD, mCallN1, listD, unsE, powD, cPow, divD, cDiv, mFor, mSl, mSlL, slD, mNoPart, mPart, intO, mSlN, mSlNL, slN, mRevN, revO, mParNC, andD, orD, xorD, shrD, shlD, cShr, mStepN, mStepNL, stepO, mCatN, mCatNL, catN]
    unfold mWhileN
    rw [bind_is hc]
    by_cases c : i < xs.length
    · rw [if_pos (decide_eq_true (by omega))]
      have hi : xs[i]? = some xs[i] := List.getElem?_eq_getElem c
      obtain ⟨t6, t7, t8, ht⟩ := packets_turn (I := I) (mark := mark) (F := F) (s6 := s6) (s7 := s7) (s8 := s8) hI hk hx hl m0 m1 hi (by omega)
      have hml := many_le (most := most) (ck := chk k) hx c
      unfold walkP
      rw [hi]
      dsimp only
      rcases ht with ⟨ht, hb⟩ | ⟨ht, hb⟩
      · rw [bind_is ht, if_pos hb]
        obtain ⟨a, b', c', d', h2⟩ := packets_loop hI hk hx hl m0 m1 f (i + manyP (xs.length - i) (tryP most (chk k) [] (xs.drop (i + 1)))) (F ++ [entD xs xs[i] i (tryP most (chk k) [] (xs.drop (i + 1)))]) t6 t7 t8 (by omega) (by rw [List.length_append, List.length_singleton]; omega) (mark := mark) (most := most)
        refine ⟨a, b', c', d', ?_⟩
        rw [List.append_assoc] at h2
        exact h2
      · rw [bind_is ht, if_neg hb]
        exact packets_loop hI hk hx hl m0 m1 f (i + 1) F t6 t7 t8 (by omega) (by omega)
    · rw [if_neg (by simp; omega)]
      have hi : xs[i]? = none := List.getElem?_eq_none (by omega)
      refine ⟨.val (.int (i : Nat)), s6, s7, s8, ?_⟩
      unfold walkP
      rw [hi, List.append_nil]; rfl
theorem packets_in_ok {I : D} {xs : List Im} {mark most : Int} {k : String} (hI : I = .list (xs.map itemD) ∨ I = .tuple (xs.map itemD)) (hk : k = "sum" ∨ k = "xor" ∨ k = "rest") (hx : ∀ x ∈ xs, ∀ n, byteOf x = some n → 0 ≤ n) (hl : xs.length ≤ 900) (m0 : 0 ≤ most) (m1 : most ≤ 1000) :
    fn_packets_in [I, .int mark, .int most, .str k] = some (.ok (.tuple (walkP mark most (chk k) xs 1000 0))) := by
  obtain ⟨a, b, c, d, h⟩ := packets_loop (mark := mark) hI hk hx hl m0 m1 1000 0 [] .un .un .un (by omega) (by rw [List.length_nil]; omega)
  rw [List.nil_append] at h
  have hR : R_packets_in_0 [.val I, .val (.int mark), .val (.int most), .val (.str k), .own [], .val (.int 0), .un, .un, .un] = some (.ok .nx [.val I, .val (.int mark), .val (.int most), .val (.str k), .own (walkP mark most (chk k) xs 1000 0), a, b, c, d]) := h
  have hT : ∀ o : List D, tupleD [.list o] = some (.tuple o) := fun _ => rfl
  simp [fn_packets_in, runV, m_packets_in, env0, mSeq, mIf, mBol, mBin, mBinL, mBind, mLift, mPure, mPeek, mVar, ixD, iI, bolD, mAsg, mCall1, mCallN, intD, modD, iIc, cMod, mStore, mStoreO, mDone, gSet, mOwn, mPut, setD, mRet, mDrop, mStuck, mTru, truD, mOrT, mAndT, mNotT, mAnd, mOr, mNot, mIsi, isiT_eq, typD, lenD, mCons, mTup, mLst, mLstN, mVal, oOr, addD, subD, mulD, mulI, iIc, cMul, ltD, leD, gtD, geD, gTupD, gCons2, gsNil, mCallV, mCallB, mRs, tupleD, mRetF, mChain, mScr, mScrLen, mScrIx, mMut, appD, max2D, min2D, mRng1, mRng2, rngD1, rngD2, rngOk, mItems, itemsD, mAsgN, mParEE, mParEN, mUn, negD, mCallN1, listD, unsE, powD, cPow, divD, cDiv, mFor, mSl, mSlL, slD, mNoPart, mPart, intO, mSlN, mSlNL, slN, mRevN, revO, mParNC, andD, orD, xorD, shrD, shlD, cShr, mStepN, mStepNL, stepO, mCatN, mCatNL, catN, fit, hR, hT]

/-! ### the law's own tries -/
theorem in_false (bs : List Bool) : inD false (.bool false) (.list (bs.map PyData.bool)) = some (.bool (bs.any fun b => !b)) := by
  have h1 : inOk (.bool false) (bs.map PyData.bool) = true := by
    have a1 : (bs.map PyData.bool).all flatD = true := by
      rw [List.all_map, List.all_eq_true]
      exact fun b _ => rfl
    have a2 : ((bs.map PyData.bool).map toV).all flatV = true := by
      rw [List.map_map, List.all_map, List.all_eq_true]
      exact fun b _ => rfl
    show (true && (bs.map PyData.bool).all flatD && true && ((bs.map PyData.bool).map toV).all flatV) = true
    rw [a1, a2]; rfl
  have h2 : inFlat (.bool false) (bs.map PyData.bool) = bs.any fun b => !b := by
    show ((bs.map PyData.bool).map toV).any (fun y => eqV y (toV (.bool false))) = _
    rw [List.map_map, List.any_map]
    congr 1
    funext b
    cases b <;> rfl
  show (if inOk (.bool false) (bs.map PyData.bool) = true then some (PyData.bool (inFlat (.bool false) (bs.map PyData.bool))) else none) = _
  rw [if_pos h1, h2]
def wholeB (ys : List Im) : List Bool := ys.map fun y => (byteOf y).isSome
theorem any_whole (ys : List Im) : ((wholeB ys).any fun b => !b) = anyNot ys := by
  unfold wholeB anyNot
  rw [List.any_map]
  congr 1
  funext y
  show (!(byteOf y).isSome) = (byteOf y).isNone
  cases byteOf y <;> rfl
theorem lcheck_is {k : String} {ns : List Int} (hk : k = "sum" ∨ k = "xor" ∨ k = "rest") (hn : ∀ n ∈ ns, By n) (hl : ns.length ≤ 200) : fn__law_check [.str k, .list (ns.map PyData.int)] = some (.ok (.int (chk k ns))) := by
  rcases hk with rfl | rfl | rfl
  · exact law_sum rfl
  · exact law_xor rfl hn hl
  · exact law_rest rfl hn hl
theorem tried_ok {ys : List Im} {most : Int} {k : String} (hk : k = "sum" ∨ k = "xor" ∨ k = "rest") (h0 : ys ≠ []) (hy : ∀ x ∈ ys, ∀ n, byteOf x = some n → 0 ≤ n) (hl : ys.length ≤ 190) : fn__law_tried [.list ((wholeB ys).map PyData.bool), .list (ys.map whatD), .int most, .str k] = some (.ok (.tuple (headD (toldP most (chk k) ys)))) := by
  obtain ⟨y, r, rfl⟩ : ∃ y r, ys = y :: r := by
    cases ys with
    | nil => exact absurd rfl h0
    | cons y r => exact ⟨y, r, rfl⟩
  have y0 : ∀ (p : D) (q : List D), atI (p :: q) 0 = some p := fun p q => atI_nat' (by omega) rfl
  have hw : (wholeB (y :: r)).map PyData.bool = .bool (byteOf y).isSome :: (wholeB r).map PyData.bool := rfl
  have hm : (y :: r).map whatD = whatD y :: r.map whatD := rfl
  cases e : byteOf y with
  | none =>
    have ht : headD (toldP most (chk k) (y :: r)) = [.str "torn", .str "word"] := by
      unfold toldP
      dsimp only
      rw [e]; rfl
    have hc := cut_take ((wholeB (y :: r)).map PyData.bool) 1
    rw [hw, e] at hc
    have hc' : cutL (PyData.bool false :: (wholeB r).map PyData.bool) none (some 1) = [.bool false] := hc
    have hi := in_false [false]
    have hi' : inD false (.bool false) (.list [.bool false]) = some (.bool true) := hi
    rw [ht, hw, e]
    generalize (wholeB r).map PyData.bool = W at *
    generalize (y :: r).map whatD = M at *
    have hmin : min2D [.int 1, .int 1] = some (.int 1) := rfl
    simp [fn__law_tried, runV, m__law_tried, env0, mSeq, mIf, mBol, mBin, mBinL, mBind, mLift, mPure, mPeek, mVar, ixD, iI, bolD, mAsg, mCall1, mCallN, intD, modD, iIc, cMod, mStore, mStoreO, mDone, gSet, mOwn, mPut, setD, mRet, mDrop, mStuck, mTru, truD, mOrT, mAndT, mNotT, mAnd, mOr, mNot, mIsi, isiT_eq, typD, lenD, mCons, mTup, mLst, mLstN, mVal, oOr, addD, subD, mulD, mulI, iIc, cMul, ltD, leD, gtD, geD, gTupD, gCons2, gsNil, mCallV, mCallB, mRs, tupleD, mRetF, mChain, mScr, mScrLen, mScrIx, mMut, appD, mRng1, mRng2, rngD1, rngD2, rngOk, mItems, itemsD, mAsgN, mParEE, mParEN, mUn, negD, mCallN1, listD, unsE, powD, cPow, divD, cDiv, mFor, mSl, mSlL, slD, mNoPart, mPart, intO, mSlN, mSlNL, slN, mRevN, revO, mParNC, andD, orD, xorD, shrD, shlD, cShr, mStepN, mStepNL, stepO, mCatN, mCatNL, catN, y0, mSlL, mPart, mNoPart, slD, intO, hmin, hc', hi', fit]
  | some n =>
    obtain ⟨hn1, hn2⟩ := byteOf_is e
    have n0 := hy y List.mem_cons_self n e
    have hwy : whatD y = .int n := by unfold whatD; rw [hn1]
    obtain ⟨q, rfl⟩ : ∃ q : Nat, n = (q : Int) := ⟨n.toNat, by omega⟩
    have hc1 := cut_take ((wholeB (y :: r)).map PyData.bool) 1
    rw [hw, e] at hc1
    have hc1' : cutL (PyData.bool true :: (wholeB r).map PyData.bool) none (some 1) = [.bool true] := hc1
    have hi1 : inD false (.bool false) (.list [.bool true]) = some (.bool false) := in_false [true]
    have hmin : min2D [.int ((q : Int) + 2), .int 1] = some (.int 1) := by
      show some (PyData.int (if (1 : Int) < (q : Int) + 2 then 1 else (q : Int) + 2)) = _
      rw [if_pos (by omega)]
    have hc2 := cut_take ((wholeB (y :: r)).map PyData.bool) (q + 2)
    rw [← List.map_take] at hc2
    have hi2 := in_false ((wholeB (y :: r)).take (q + 2))
    have hwt : (wholeB (y :: r)).take (q + 2) = wholeB ((y :: r).take (q + 2)) := by unfold wholeB; rw [List.map_take]
    rw [hwt] at hc2 hi2
    rw [any_whole] at hi2
    rw [show ((q + 2 : Nat) : Int) = (q : Int) + 2 by omega] at hc2
    have hany : anyNot ((y :: r).take (q + 2)) = anyNot (r.take (q + 1)) := by
      rw [List.take_succ_cons]
      unfold anyNot
      rw [List.any_cons, e]; rfl
    rw [hany] at hi2
    have hL : ((wholeB (y :: r)).map PyData.bool).length = r.length + 1 := by simp [wholeB]
    have htold : toldP most (chk k) (y :: r) = if (q : Int) > most then .long else allP (chk k) [(q : Int)] (q + 1) r := by
      unfold toldP
      dsimp only
      rw [e]
      show (if (q : Int) > most then Tr.long else allP (chk k) [(q : Int)] ((q : Int) + 1).toNat r) = _
      rw [show ((q : Int) + 1).toNat = q + 1 by omega]
    rw [htold]
    by_cases c1 : (q : Int) > most
    · rw [if_pos c1, hw, hm, hwy, e]
      have c1' : most < (q : Int) := c1
      show _ = some (Except.ok (PyData.tuple [.str "torn", .str "long"]))
      generalize (wholeB r).map PyData.bool = W at *
      generalize r.map whatD = M at *
      simp [fn__law_tried, runV, m__law_tried, env0, mSeq, mIf, mBol, mBin, mBinL, mBind, mLift, mPure, mPeek, mVar, ixD, iI, bolD, mAsg, mCall1, mCallN, intD, modD, iIc, cMod, mStore, mStoreO, mDone, gSet, mOwn, mPut, setD, mRet, mDrop, mStuck, mTru, truD, mOrT, mAndT, mNotT, mAnd, mOr, mNot, mIsi, isiT_eq, typD, lenD, mCons, mTup, mLst, mLstN, mVal, oOr, addD, subD, mulD, mulI, iIc, cMul, ltD, leD, gtD, geD, gTupD, gCons2, gsNil, mCallV, mCallB, mRs, tupleD, mRetF, mChain, mScr, mScrLen, mScrIx, mMut, appD, mRng1, mRng2, rngD1, rngD2, rngOk, mItems, itemsD, mAsgN, mParEE, mParEN, mUn, negD, mCallN1, listD, unsE, powD, cPow, divD, cDiv, mFor, mSl, mSlL, slD, mNoPart, mPart, intO, mSlN, mSlNL, slN, mRevN, revO, mParNC, andD, orD, xorD, shrD, shlD, cShr, mStepN, mStepNL, stepO, mCatN, mCatNL, catN, y0, mSlL, mPart, mNoPart, slD, intO, hmin, hc1', hi1, fit, c1']
    · rw [if_neg c1]
      have c1' : ¬ most < (q : Int) := c1
      unfold allP
      show _ = some (Except.ok (PyData.tuple (headD (if anyNot (r.take (q + 1)) = true then .word else if r.length < q + 1 then .done else ends (chk k) ([(q : Int)] ++ (r.take (q + 1)).filterMap byteOf)))))
      by_cases c2 : anyNot (r.take (q + 1)) = true
      · rw [if_pos c2]
        rw [c2] at hi2
        show _ = some (Except.ok (PyData.tuple [.str "torn", .str "word"]))
        rw [hw, hm, hwy, e]
        rw [hw, e] at hc2
        generalize (wholeB ((y :: r).take (q + 2))).map PyData.bool = WT at *
        generalize (wholeB r).map PyData.bool = W at *
        generalize r.map whatD = M at *
        have hc2' : cutL (PyData.bool true :: W) none (some ((q : Int) + 2)) = WT := hc2
        simp [fn__law_tried, runV, m__law_tried, env0, mSeq, mIf, mBol, mBin, mBinL, mBind, mLift, mPure, mPeek, mVar, ixD, iI, bolD, mAsg, mCall1, mCallN, intD, modD, iIc, cMod, mStore, mStoreO, mDone, gSet, mOwn, mPut, setD, mRet, mDrop, mStuck, mTru, truD, mOrT, mAndT, mNotT, mAnd, mOr, mNot, mIsi, isiT_eq, typD, lenD, mCons, mTup, mLst, mLstN, mVal, oOr, addD, subD, mulD, mulI, iIc, cMul, ltD, leD, gtD, geD, gTupD, gCons2, gsNil, mCallV, mCallB, mRs, tupleD, mRetF, mChain, mScr, mScrLen, mScrIx, mMut, appD, mRng1, mRng2, rngD1, rngD2, rngOk, mItems, itemsD, mAsgN, mParEE, mParEN, mUn, negD, mCallN1, listD, unsE, powD, cPow, divD, cDiv, mFor, mSl, mSlL, slD, mNoPart, mPart, intO, mSlN, mSlNL, slN, mRevN, revO, mParNC, andD, orD, xorD, shrD, shlD, cShr, mStepN, mStepNL, stepO, mCatN, mCatNL, catN, y0, mSlL, mPart, mNoPart, slD, intO, hmin, hc1', hi1, fit, c1', hc2', hi2]
      · rw [if_neg c2]
        rw [Bool.not_eq_true] at c2
        rw [c2] at hi2
        by_cases c3 : r.length < q + 1
        · rw [if_pos c3]
          show _ = some (Except.ok (PyData.tuple [.str "torn", .str "end"]))
          rw [hw, hm, hwy, e]
          rw [hw, e] at hc2 hL
          generalize (wholeB ((y :: r).take (q + 2))).map PyData.bool = WT at *
          generalize (wholeB r).map PyData.bool = W at *
          generalize r.map whatD = M at *
          have hc2' : cutL (PyData.bool true :: W) none (some ((q : Int) + 2)) = WT := hc2
          have hL' : W.length = r.length := by simpa using hL
          have c3' : (r.length : Int) + 1 < (q : Int) + 2 := by omega
          simp [fn__law_tried, runV, m__law_tried, env0, mSeq, mIf, mBol, mBin, mBinL, mBind, mLift, mPure, mPeek, mVar, ixD, iI, bolD, mAsg, mCall1, mCallN, intD, modD, iIc, cMod, mStore, mStoreO, mDone, gSet, mOwn, mPut, setD, mRet, mDrop, mStuck, mTru, truD, mOrT, mAndT, mNotT, mAnd, mOr, mNot, mIsi, isiT_eq, typD, lenD, mCons, mTup, mLst, mLstN, mVal, oOr, addD, subD, mulD, mulI, iIc, cMul, ltD, leD, gtD, geD, gTupD, gCons2, gsNil, mCallV, mCallB, mRs, tupleD, mRetF, mChain, mScr, mScrLen, mScrIx, mMut, appD, mRng1, mRng2, rngD1, rngD2, rngOk, mItems, itemsD, mAsgN, mParEE, mParEN, mUn, negD, mCallN1, listD, unsE, powD, cPow, divD, cDiv, mFor, mSl, mSlL, slD, mNoPart, mPart, intO, mSlN, mSlNL, slN, mRevN, revO, mParNC, andD, orD, xorD, shrD, shlD, cShr, mStepN, mStepNL, stepO, mCatN, mCatNL, catN, y0, mSlL, mPart, mNoPart, slD, intO, hmin, hc1', hi1, fit, c1', hc2', hi2, hL', c3']
        · rw [if_neg c3]
          -- the numbers that count
          have hbl := bytes_len (ys := r.take (q + 1)) c2
          have hbo := bytes_of (ys := r.take (q + 1)) c2
          have hby : ∀ m ∈ (r.take (q + 1)).filterMap byteOf, By m := fun m hm' => by
            obtain ⟨x, hx, hxe⟩ := List.mem_filterMap.mp hm'
            exact ⟨hy x (List.mem_cons_of_mem _ (List.mem_of_mem_take hx)) m hxe, (byteOf_is hxe).2⟩
          rw [List.length_take, show min (q + 1) r.length = q + 1 by omega] at hbl
          have hM : (y :: r).map whatD = (.int (q : Int)) :: (((r.take (q + 1)).filterMap byteOf).map PyData.int ++ (r.drop (q + 1)).map whatD) := by
            rw [hm, hwy, ← hbo, ← List.map_append, List.take_append_drop]
          generalize (r.take (q + 1)).filterMap byteOf = ms at *
          obtain ⟨ns, v, rfl⟩ : ∃ ns v, ms = ns ++ [v] := by
            have : ms ≠ [] := by intro z; rw [z] at hbl; simp at hbl
            exact ⟨ms.dropLast, ms.getLast this, (List.dropLast_concat_getLast this).symm⟩
          have hnl : ns.length = q := by rw [List.length_append, List.length_singleton] at hbl; omega
          have hen : ends (chk k) ([(q : Int)] ++ (ns ++ [v])) = if v = chk k ((q : Int) :: ns) then .pkt ns else .chk := by
            rw [← List.append_assoc, ends_is]; rfl
          rw [hen]
          have hat : atI ((y :: r).map whatD) ((q : Int) + 1) = some (.int v) := by
            rw [hM]
            refine atI_nat' (by omega) ?_
            rw [show ((q : Int) + 1).toNat = q + 1 by omega, List.getElem?_cons_succ, List.map_append, List.append_assoc, List.getElem?_append_right (by rw [List.length_map]; omega), List.length_map, hnl, Nat.sub_self]; rfl
          have hct := cut_take ((y :: r).map whatD) (q + 1)
          have hct2 : ((y :: r).map whatD).take (q + 1) = ((q : Int) :: ns).map PyData.int := by
            rw [hM, List.take_succ_cons, List.map_append, List.append_assoc, List.take_append_of_le_length (by rw [List.length_map]; omega), List.take_of_length_le (by rw [List.length_map]; omega)]; rfl
          rw [hct2, show ((q + 1 : Nat) : Int) = (q : Int) + 1 by omega] at hct
          have hcm := cut_mid ((y :: r).map whatD) (a := 1) (b := q + 1) (by omega)
          have hcm2 : (((y :: r).map whatD).drop 1).take (q + 1 - 1) = ns.map PyData.int := by
            rw [hM, List.drop_succ_cons, List.drop_zero, List.map_append, List.append_assoc, List.take_append_of_le_length (by rw [List.length_map]; omega), List.take_of_length_le (by rw [List.length_map]; omega)]
          rw [hcm2, show ((q + 1 : Nat) : Int) = (q : Int) + 1 by omega] at hcm
          have hcm' : cutL ((y :: r).map whatD) (some 1) (some ((q : Int) + 1)) = ns.map PyData.int := hcm
          have hck := lcheck_is (k := k) (ns := (q : Int) :: ns) hk (fun m hm' => by
            rcases List.mem_cons.mp hm' with rfl | hm'
            · exact ⟨n0, hn2⟩
            · exact hby m (List.mem_append_left _ hm')) (by simp only [List.length_cons] at hl ⊢; omega)
          have y1 : atI ((y :: r).map whatD) 0 = some (.int (q : Int)) := by rw [hM]; exact y0 _ _
          have hw0 : atI ((wholeB (y :: r)).map PyData.bool) 0 = some (.bool true) := by rw [hw, e]; exact y0 _ _
          have hc1'' : cutL ((wholeB (y :: r)).map PyData.bool) none (some 1) = [.bool true] := by rw [hw, e]; exact hc1'
          have c3' : ¬ (r.length : Int) + 1 < (q : Int) + 2 := by omega
          have e12 : (q : Int) + 2 - 1 = (q : Int) + 1 := by omega
          have t1 : ∀ o : List D, tupleD [.list o] = some (.tuple o) := fun _ => rfl
          have hmi : ((q : Int) :: ns).map PyData.int = .int (q : Int) :: ns.map PyData.int := rfl
          rw [hmi] at hck hct
          have hgoal : headD (if v = chk k ((q : Int) :: ns) then .pkt ns else .chk) = if v = chk k ((q : Int) :: ns) then [.str "packet", .tuple (ns.map PyData.int)] else [.str "torn", .str "check"] := by split <;> rfl
          rw [hgoal]
          clear hM hm hbo hw hct2 hcm2
          generalize (wholeB ((y :: r).take (q + 2))).map PyData.bool = WT at *
          generalize (wholeB (y :: r)).map PyData.bool = W at *
          generalize (y :: r).map whatD = M at *
          generalize ns.map PyData.int = NS at *
          generalize chk k ((q : Int) :: ns) = cv at *
          by_cases c4 : v = cv
          · rw [if_pos c4]
            subst c4
            simp [fn__law_tried, runV, m__law_tried, env0, mSeq, mIf, mBol, mBin, mBinL, mBind, mLift, mPure, mPeek, mVar, ixD, iI, bolD, mAsg, mCall1, mCallN, intD, modD, iIc, cMod, mStore, mStoreO, mDone, gSet, mOwn, mPut, setD, mRet, mDrop, mStuck, mTru, truD, mOrT, mAndT, mNotT, mAnd, mOr, mNot, mIsi, isiT_eq, typD, lenD, mCons, mTup, mLst, mLstN, mVal, oOr, addD, subD, mulD, mulI, iIc, cMul, ltD, leD, gtD, geD, gTupD, gCons2, gsNil, mCallV, mCallB, mRs, tupleD, mRetF, mChain, mScr, mScrLen, mScrIx, mMut, appD, mRng1, mRng2, rngD1, rngD2, rngOk, mItems, itemsD, mAsgN, mParEE, mParEN, mUn, negD, mCallN1, listD, unsE, powD, cPow, divD, cDiv, mFor, mSl, mSlL, slD, mNoPart, mPart, intO, mSlN, mSlNL, slN, mRevN, revO, mParNC, andD, orD, xorD, shrD, shlD, cShr, mStepN, mStepNL, stepO, mCatN, mCatNL, catN, hw0, y1, mSlL, mPart, mNoPart, slD, intO, hmin, hc1'', hi1, fit, c1', hc2, hi2, hL, c3', e12, hat, hct, hck, ne_int, hcm', t1]
          · rw [if_neg c4]
            simp [fn__law_tried, runV, m__law_tried, env0, mSeq, mIf, mBol, mBin, mBinL, mBind, mLift, mPure, mPeek, mVar, ixD, iI, bolD, mAsg, mCall1, mCallN, intD, modD, iIc, cMod, mStore, mStoreO, mDone, gSet, mOwn, mPut, setD, mRet, mDrop, mStuck, mTru, truD, mOrT, mAndT, mNotT, mAnd, mOr, mNot, mIsi, isiT_eq, typD, lenD, mCons, mTup, mLst, mLstN, mVal, oOr, addD, subD, mulD, mulI, iIc, cMul, ltD, leD, gtD, geD, gTupD, gCons2, gsNil, mCallV, mCallB, mRs, tupleD, mRetF, mChain, mScr, mScrLen, mScrIx, mMut, appD, mRng1, mRng2, rngD1, rngD2, rngOk, mItems, itemsD, mAsgN, mParEE, mParEN, mUn, negD, mCallN1, listD, unsE, powD, cPow, divD, cDiv, mFor, mSl, mSlL, slD, mNoPart, mPart, intO, mSlN, mSlNL, slN, mRevN, revO, mParNC, andD, orD, xorD, shrD, shlD, cShr, mStepN, mStepNL, stepO, mCatN, mCatNL, catN, hw0, y1, mSlL, mPart, mNoPart, slD, intO, hmin, hc1'', hi1, fit, c1', hc2, hi2, hL, c3', e12, hat, hct, hck, ne_int, c4]

/-! ### the law's own packets -/
def ShIm (xs : List Im) : Prop := ∀ x ∈ xs, Sh 3 (itemD x)
theorem ne_ims_nil {ys : List Im} (h : ShIm ys) : neD (.list (ys.map itemD)) (.list []) = some (.bool (!ys.isEmpty)) := by
  have h0 : Sh 1 (.list ([] : List D)) := Sh.list fun d hd => by cases hd
  have h1 : Sh 4 (.list (ys.map itemD)) := Sh.list fun d hd => by
    obtain ⟨y, hy, rfl⟩ := List.mem_map.mp hd
    exact h y hy
  rw [ne_sh h1 h0 (by omega) (by omega)]
  cases ys <;> simp [PyData.eqv, PyData.eqvAll]
theorem item_what (x : Im) : ∃ p r s t : D, itemD x = .tuple [p, whatD x, r, s, t] := by
  obtain ⟨n, why, b, e, pl⟩ := x
  cases n with
  | none => exact ⟨_, _, _, _, rfl⟩
  | some n => exact ⟨_, _, _, _, rfl⟩
theorem whats_comp {ys : List Im} {s0 s1 s2 s3 s4 s5 s6 s7 : Sl} (hl : ys.length ≤ 900) : C__law_packets_0 [s0, s1, s2, s3, s4, s5, s6, s7, .val (.list (ys.map itemD)), .un] = some (.ok (ys.map whatD) [s0, s1, s2, s3, s4, s5, s6, s7, .val (.list (ys.map itemD)), .un]) := by
  have hi : mItems (mVar 8) [s0, s1, s2, s3, s4, s5, s6, s7, .val (.list (ys.map itemD)), .un] = some (.ok (ys.map itemD) [s0, s1, s2, s3, s4, s5, s6, s7, .val (.list (ys.map itemD)), .un]) := by
    generalize ys.map itemD = Y
    simp [mSeq, mIf, mBol, mBin, mBinL, mBind, mLift, mPure, mPeek, mVar, ixD, iI, bolD, mAsg, mCall1, mCallN, intD, modD, iIc, cMod, mStore, mStoreO, mDone, gSet, mOwn, mPut, setD, mRet, mDrop, mStuck, mTru, truD, mOrT, mAndT, mNotT, mAnd, mOr, mNot, mIsi, isiT_eq, typD, lenD, mCons, mTup, mLst, mLstN, mVal, oOr, addD, subD, mulD, mulI, iIc, cMul, ltD, leD, gtD, geD, gTupD, gCons2, gsNil, mCallV, mCallB, mRs, tupleD, mRetF, mChain, mScr, mScrLen, mScrIx, mMut, appD, max2D, min2D, mRng1, mRng2, rngD1, rngD2, rngOk, mItems, itemsD, mAsgN, mParEE, mParEN, mUn, negD, mCallN1, listD, unsE, powD, cPow, divD, cDiv, mFor, mSl, mSlL, slD, mNoPart, mPart, intO, mSlN, mSlNL, slN, mRevN, revO, mParNC, andD, orD, xorD, shrD, shlD, cShr, mStepN, mStepNL, stepO, mCatN, mCatNL, catN]
  refine comp_is (vs := [9]) (ρe := [s0, s1, s2, s3, s4, s5, s6, s7, .val (.list (ys.map itemD)), .un]) hi (fit_of2 (by rw [List.length_map]; omega)) ?_
  refine go_mapA _ _ _ fun y hy => ?_
  have z1 : ∀ p q r s t : D, atI [p, q, r, s, t] 1 = some q := fun _ _ _ _ _ => rfl
  obtain ⟨p, r, s, t, hit⟩ := item_what y
  refine ⟨[s0, s1, s2, s3, s4, s5, s6, s7, .val (.list (ys.map itemD)), .val (itemD y)], [s0, s1, s2, s3, s4, s5, s6, s7, .val (.list (ys.map itemD)), .val (itemD y)], by simp [unsE, mStore], ?_, by simp [unsE]⟩
  rw [hit]
  generalize ys.map itemD = Y
  simp [mSeq, mIf, mBol, mBin, mBinL, mBind, mLift, mPure, mPeek, mVar, ixD, iI, bolD, mAsg, mCall1, mCallN, intD, modD, iIc, cMod, mStore, mStoreO, mDone, gSet, mOwn, mPut, setD, mRet, mDrop, mStuck, mTru, truD, mOrT, mAndT, mNotT, mAnd, mOr, mNot, mIsi, isiT_eq, typD, lenD, mCons, mTup, mLst, mLstN, mVal, oOr, addD, subD, mulD, mulI, iIc, cMul, ltD, leD, gtD, geD, gTupD, gCons2, gsNil, mCallV, mCallB, mRs, tupleD, mRetF, mChain, mScr, mScrLen, mScrIx, mMut, appD, max2D, min2D, mRng1, mRng2, rngD1, rngD2, rngOk, mItems, itemsD, mAsgN, mParEE, mParEN, mUn, negD, mCallN1, listD, unsE, powD, cPow, divD, cDiv, mFor, mSl, mSlL, slD, mNoPart, mPart, intO, mSlN, mSlNL, slN, mRevN, revO, mParNC, andD, orD, xorD, shrD, shlD, cShr, mStepN, mStepNL, stepO, mCatN, mCatNL, catN, z1]
theorem wholes_comp {ys : List Im} {s0 s1 s2 s3 s4 s5 s6 s7 : Sl} (hl : ys.length ≤ 900) : C__law_packets_1 [s0, s1, s2, s3, s4, s5, s6, s7, .val (.list (ys.map itemD)), .un] = some (.ok ((wholeB ys).map PyData.bool) [s0, s1, s2, s3, s4, s5, s6, s7, .val (.list (ys.map itemD)), .un]) := by
  have hi : mItems (mVar 8) [s0, s1, s2, s3, s4, s5, s6, s7, .val (.list (ys.map itemD)), .un] = some (.ok (ys.map itemD) [s0, s1, s2, s3, s4, s5, s6, s7, .val (.list (ys.map itemD)), .un]) := by
    generalize ys.map itemD = Y
    simp [mSeq, mIf, mBol, mBin, mBinL, mBind, mLift, mPure, mPeek, mVar, ixD, iI, bolD, mAsg, mCall1, mCallN, intD, modD, iIc, cMod, mStore, mStoreO, mDone, gSet, mOwn, mPut, setD, mRet, mDrop, mStuck, mTru, truD, mOrT, mAndT, mNotT, mAnd, mOr, mNot, mIsi, isiT_eq, typD, lenD, mCons, mTup, mLst, mLstN, mVal, oOr, addD, subD, mulD, mulI, iIc, cMul, ltD, leD, gtD, geD, gTupD, gCons2, gsNil, mCallV, mCallB, mRs, tupleD, mRetF, mChain, mScr, mScrLen, mScrIx, mMut, appD, max2D, min2D, mRng1, mRng2, rngD1, rngD2, rngOk, mItems, itemsD, mAsgN, mParEE, mParEN, mUn, negD, mCallN1, listD, unsE, powD, cPow, divD, cDiv, mFor, mSl, mSlL, slD, mNoPart, mPart, intO, mSlN, mSlNL, slN, mRevN, revO, mParNC, andD, orD, xorD, shrD, shlD, cShr, mStepN, mStepNL, stepO, mCatN, mCatNL, catN]
  refine comp_is (vs := [9]) (ρe := [s0, s1, s2, s3, s4, s5, s6, s7, .val (.list (ys.map itemD)), .un]) hi (fit_of2 (by rw [List.length_map]; omega)) ?_
  unfold wholeB
  rw [List.map_map]
  refine go_mapA _ _ _ fun y hy => ?_
  have hb := byte_ok y
  refine ⟨[s0, s1, s2, s3, s4, s5, s6, s7, .val (.list (ys.map itemD)), .val (itemD y)], [s0, s1, s2, s3, s4, s5, s6, s7, .val (.list (ys.map itemD)), .val (itemD y)], by simp [unsE, mStore], ?_, by simp [unsE]⟩
  generalize itemD y = d at *
  generalize ys.map itemD = Y
  simp [mSeq, mIf, mBol, mBin, mBinL, mBind, mLift, mPure, mPeek, mVar, ixD, iI, bolD, mAsg, mCall1, mCallN, intD, modD, iIc, cMod, mStore, mStoreO, mDone, gSet, mOwn, mPut, setD, mRet, mDrop, mStuck, mTru, truD, mOrT, mAndT, mNotT, mAnd, mOr, mNot, mIsi, isiT_eq, typD, lenD, mCons, mTup, mLst, mLstN, mVal, oOr, addD, subD, mulD, mulI, iIc, cMul, ltD, leD, gtD, geD, gTupD, gCons2, gsNil, mCallV, mCallB, mRs, tupleD, mRetF, mChain, mScr, mScrLen, mScrIx, mMut, appD, max2D, min2D, mRng1, mRng2, rngD1, rngD2, rngOk, mItems, itemsD, mAsgN, mParEE, mParEN, mUn, negD, mCallN1, listD, unsE, powD, cPow, divD, cDiv, mFor, mSl, mSlL, slD, mNoPart, mPart, intO, mSlN, mSlNL, slN, mRevN, revO, mParNC, andD, orD, xorD, shrD, shlD, cShr, mStepN, mStepNL, stepO, mCatN, mCatNL, catN, hb]
def isPkt : Tr → Bool
  | .pkt _ => true
  | _ => false
def isDone : Tr → Bool
  | .done => true
  | _ => false
theorem head_is (t : Tr) : ∃ k w : D, headD t = [k, w] ∧ eqD k (.str "packet") = some (.bool (isPkt t)) ∧ (isPkt t = false → eqD w (.str "end") = some (.bool (isDone t))) ∧ (∀ ns, t = .pkt ns → w = .tuple (ns.map PyData.int)) := by
  cases t with
  | pkt ns => exact ⟨_, _, rfl, eq_str _, fun h => (by cases h), fun ms h => by cases h; rfl⟩
  | word => exact ⟨_, _, rfl, eqF (by decide +kernel), fun _ => eqF (by decide +kernel), fun ms h => (by cases h)⟩
  | long => exact ⟨_, _, rfl, eqF (by decide +kernel), fun _ => eqF (by decide +kernel), fun ms h => (by cases h)⟩
  | chk => exact ⟨_, _, rfl, eqF (by decide +kernel), fun _ => eqF (by decide +kernel), fun ms h => (by cases h)⟩
  | done => exact ⟨_, _, rfl, eqF (by decide +kernel), fun _ => eq_str _, fun ms h => (by cases h)⟩
theorem lpackets_turn {xs : List Im} {i : Nat} {x : Im} {mark most : Int} {k : String} {F : List D} {s6 s7 s8 : Sl} (hk : k = "sum" ∨ k = "xor" ∨ k = "rest") (hx : ∀ x ∈ xs, ∀ n, byteOf x = some n → 0 ≤ n) (hS : ShIm xs) (hl : xs.length ≤ 190) (hi : xs[i]? = some x) (hF : F.length ≤ 1000) :
    ∃ s6' s7' s8', L__law_packets_0 [.val (.list (xs.map itemD)), .val (.int mark), .val (.int most), .val (.str k), .own F, .val (.int (i : Nat)), s6, s7, s8, .un] = some (.ok .nx (if byteOf x = some mark then [.val (.list (xs.map itemD)), .val (.int mark), .val (.int most), .val (.str k), .own (F ++ [entD xs x i (tryP most (chk k) [] (xs.drop (i + 1)))]), .val (.int ((i + manyP (xs.length - i) (tryP most (chk k) [] (xs.drop (i + 1))) : Nat) : Int)), s6', s7', s8', .un] else [.val (.list (xs.map itemD)), .val (.int mark), .val (.int most), .val (.str k), .own F, .val (.int ((i + 1 : Nat) : Int)), s6', s7', s8', .un])) := by
  have hil : i < xs.length := (List.getElem?_eq_some_iff.mp hi).1
  have hat := item_at hi
  have hcd := cut_drop (xs.map itemD) (i + 1)
  rw [← List.map_drop, show ((i + 1 : Nat) : Int) = (i : Int) + 1 by omega] at hcd
  have hw := byte_ok x
  obtain ⟨p, q, s, hit, hq⟩ := item_b x
  rw [hit] at hat hw
  have z1 : ∀ p q r s t : D, atI [p, q, r, s, t] 1 = some q := fun _ _ _ _ _ => rfl
  have z2 : ∀ p q r s t : D, atI [p, q, r, s, t] 2 = some r := fun _ _ _ _ _ => rfl
  have z3 : ∀ p q r s t : D, atI [p, q, r, s, t] 3 = some s := fun _ _ _ _ _ => rfl
  have step1 : mPar3 6 7 8 (mPure .none) (mPure (.int 1)) (mSlL 0 (mPart (mBinL addD 5 (mPure (.int 1)))) mNoPart) [.val (.list (xs.map itemD)), .val (.int mark), .val (.int most), .val (.str k), .own F, .val (.int (i : Nat)), s6, s7, s8, .un] = some (.ok .nx [.val (.list (xs.map itemD)), .val (.int mark), .val (.int most), .val (.str k), .own F, .val (.int (i : Nat)), .val .none, .val (.int 1), .val (.list ((xs.drop (i + 1)).map itemD)), .un]) := by
    generalize (xs.drop (i + 1)).map itemD = R at *
    generalize xs.map itemD = X at *
    simp [mSeq, mIf, mBol, mBin, mBinL, mBind, mLift, mPure, mPeek, mVar, ixD, iI, bolD, mAsg, mCall1, mCallN, intD, modD, iIc, cMod, mStore, mStoreO, mDone, gSet, mOwn, mPut, setD, mRet, mDrop, mStuck, mTru, truD, mOrT, mAndT, mNotT, mAnd, mOr, mNot, mIsi, isiT_eq, typD, lenD, mCons, mTup, mLst, mLstN, mVal, oOr, addD, subD, mulD, mulI, iIc, cMul, ltD, leD, gtD, geD, gTupD, gCons2, gsNil, mCallV, mCallB, mRs, tupleD, mRetF, mChain, mScr, mScrLen, mScrIx, mMut, appD, max2D, min2D, mRng1, mRng2, rngD1, rngD2, rngOk, mItems, itemsD, mAsgN, mParEE, mParEN, mUn, negD, mCallN1, listD, unsE, powD, cPow, divD, cDiv, mFor, mSl, mSlL, slD, mNoPart, mPart, intO, mSlN, mSlNL, slN, mRevN, revO, mParNC, andD, orD, xorD, shrD, shlD, cShr, mStepN, mStepNL, stepO, mCatN, mCatNL, catN, mPar3, mSlL, mPart, mNoPart, slD, intO, hcd]
  by_cases c : byteOf x = some mark
  · have hqm := hq mark c
    subst hqm
    simp only [if_pos c]
    have hto := tryP_told (most := most) (ck := chk k) (xs.drop (i + 1)) fun y hy => hx y (List.mem_of_mem_drop hy)
    obtain ⟨g1, g2⟩ := many_le (most := most) (ck := chk k) hx hil
    rw [hto] at g1 g2 ⊢
    have hw' : fn__law_is_byte [.tuple [p, .int mark, .int x.b, .int x.e, s]] = some (.ok (.bool true)) := by rw [hw, c]; rfl
    have hcond : (mAndT (mTru (mCallV 1 fn__law_is_byte (mCons (mBinL ixD 0 (mPeek 5)) (mPure [])))) ((mBol (mBin eqD (mBin ixD (mBinL ixD 0 (mPeek 5)) (mPure (.int 1))) (mPeek 1))))) [.val (.list (xs.map itemD)), .val (.int mark), .val (.int most), .val (.str k), .own F, .val (.int (i : Nat)), .val .none, .val (.int 1), .val (.list ((xs.drop (i + 1)).map itemD)), .un] = some (.ok true [.val (.list (xs.map itemD)), .val (.int mark), .val (.int most), .val (.str k), .own F, .val (.int (i : Nat)), .val .none, .val (.int 1), .val (.list ((xs.drop (i + 1)).map itemD)), .un]) := by
      generalize (xs.drop (i + 1)).map itemD = R at *
      generalize xs.map itemD = X at *
      simp [mSeq, mIf, mBol, mBin, mBinL, mBind, mLift, mPure, mPeek, mVar, ixD, iI, bolD, mAsg, mCall1, mCallN, intD, modD, iIc, cMod, mStore, mStoreO, mDone, gSet, mOwn, mPut, setD, mRet, mDrop, mStuck, mTru, truD, mOrT, mAndT, mNotT, mAnd, mOr, mNot, mIsi, isiT_eq, typD, lenD, mCons, mTup, mLst, mLstN, mVal, oOr, addD, subD, mulD, mulI, iIc, cMul, ltD, leD, gtD, geD, gTupD, gCons2, gsNil, mCallV, mCallB, mRs, tupleD, mRetF, mChain, mScr, mScrLen, mScrIx, mMut, appD, max2D, min2D, mRng1, mRng2, rngD1, rngD2, rngOk, mItems, itemsD, mAsgN, mParEE, mParEN, mUn, negD, mCallN1, listD, unsE, powD, cPow, divD, cDiv, mFor, mSl, mSlL, slD, mNoPart, mPart, intO, mSlN, mSlNL, slN, mRevN, revO, mParNC, andD, orD, xorD, shrD, shlD, cShr, mStepN, mStepNL, stepO, mCatN, mCatNL, catN, hat, hw', z1, eq_int]
    -- what is told
    have htold : (mSeq (mAsg (mTup (mCons (mPure (.str "torn")) (mCons (mPure (.str "end")) (mPure [])))) (mStore 6)) (mIf (mBol (mBinL neD 8 (mLst (mPure [])))) (mAsg (mCallV 4 fn__law_tried (mCons (mVal C__law_packets_1) (mCons (mVal C__law_packets_0) (mCons (mVar 2) (mCons (mVar 3) (mPure [])))))) (mStore 6)) (mPure .nx))) [.val (.list (xs.map itemD)), .val (.int mark), .val (.int most), .val (.str k), .own F, .val (.int (i : Nat)), .val .none, .val (.int 1), .val (.list ((xs.drop (i + 1)).map itemD)), .un] = some (.ok .nx [.val (.list (xs.map itemD)), .val (.int mark), .val (.int most), .val (.str k), .own F, .val (.int (i : Nat)), .val (.tuple (headD (toldP most (chk k) (xs.drop (i + 1))))), .val (.int 1), .val (.list ((xs.drop (i + 1)).map itemD)), .un]) := by
      have hn := ne_ims_nil (ys := xs.drop (i + 1)) fun y hy => hS y (List.mem_of_mem_drop hy)
      cases hd : xs.drop (i + 1) with
      | nil =>
        rw [hd] at hn
        have hn' : neD (.list []) (.list []) = some (.bool false) := hn
        have hh : headD (toldP most (chk k) []) = [.str "torn", .str "end"] := rfl
        rw [hh]
        generalize xs.map itemD = X at *
        simp [mSeq, mIf, mBol, mBin, mBinL, mBind, mLift, mPure, mPeek, mVar, ixD, iI, bolD, mAsg, mCall1, mCallN, intD, modD, iIc, cMod, mStore, mStoreO, mDone, gSet, mOwn, mPut, setD, mRet, mDrop, mStuck, mTru, truD, mOrT, mAndT, mNotT, mAnd, mOr, mNot, mIsi, isiT_eq, typD, lenD, mCons, mTup, mLst, mLstN, mVal, oOr, addD, subD, mulD, mulI, iIc, cMul, ltD, leD, gtD, geD, gTupD, gCons2, gsNil, mCallV, mCallB, mRs, tupleD, mRetF, mChain, mScr, mScrLen, mScrIx, mMut, appD, max2D, min2D, mRng1, mRng2, rngD1, rngD2, rngOk, mItems, itemsD, mAsgN, mParEE, mParEN, mUn, negD, mCallN1, listD, unsE, powD, cPow, divD, cDiv, mFor, mSl, mSlL, slD, mNoPart, mPart, intO, mSlN, mSlNL, slN, mRevN, revO, mParNC, andD, orD, xorD, shrD, shlD, cShr, mStepN, mStepNL, stepO, mCatN, mCatNL, catN, fit, hn']
      | cons y r =>
        have htr := tried_ok (ys := y :: r) (most := most) hk (by simp) (fun z hz => hx z (List.mem_of_mem_drop (hd ▸ hz))) (by rw [← hd, List.length_drop]; omega)
        have hwh := fun s6 => wholes_comp (ys := y :: r) (s0 := .val (.list (xs.map itemD))) (s1 := .val (.int mark)) (s2 := .val (.int most)) (s3 := .val (.str k)) (s4 := .own F) (s5 := .val (.int (i : Nat))) (s6 := s6) (s7 := .val (.int 1)) (by rw [← hd, List.length_drop]; omega)
        have hwt := fun s6 => whats_comp (ys := y :: r) (s0 := .val (.list (xs.map itemD))) (s1 := .val (.int mark)) (s2 := .val (.int most)) (s3 := .val (.str k)) (s4 := .own F) (s5 := .val (.int (i : Nat))) (s6 := s6) (s7 := .val (.int 1)) (by rw [← hd, List.length_drop]; omega)
        rw [hd] at hn
        have hn' : neD (.list ((y :: r).map itemD)) (.list []) = some (.bool true) := hn
        generalize (wholeB (y :: r)).map PyData.bool = WB at *
        generalize (y :: r).map whatD = WT at *
        generalize headD (toldP most (chk k) (y :: r)) = HD at *
        generalize (y :: r).map itemD = R at *
        generalize xs.map itemD = X at *
        simp [mSeq, mIf, mBol, mBin, mBinL, mBind, mLift, mPure, mPeek, mVar, ixD, iI, bolD, mAsg, mCall1, mCallN, intD, modD, iIc, cMod, mStore, mStoreO, mDone, gSet, mOwn, mPut, setD, mRet, mDrop, mStuck, mTru, truD, mOrT, mAndT, mNotT, mAnd, mOr, mNot, mIsi, isiT_eq, typD, lenD, mCons, mTup, mLst, mLstN, mVal, oOr, addD, subD, mulD, mulI, iIc, cMul, ltD, leD, gtD, geD, gTupD, gCons2, gsNil, mCallV, mCallB, mRs, tupleD, mRetF, mChain, mScr, mScrLen, mScrIx, mMut, appD, max2D, min2D, mRng1, mRng2, rngD1, rngD2, rngOk, mItems, itemsD, mAsgN, mParEE, mParEN, mUn, negD, mCallN1, listD, unsE, powD, cPow, divD, cDiv, mFor, mSl, mSlL, slD, mNoPart, mPart, intO, mSlN, mSlNL, slN, mRevN, revO, mParNC, andD, orD, xorD, shrD, shlD, cShr, mStepN, mStepNL, stepO, mCatN, mCatNL, catN, fit, hn', hwh, hwt, htr]
    generalize toldP most (chk k) (xs.drop (i + 1)) = t at *
    obtain ⟨kd, wd, e1, e2, e3, e4⟩ := head_is t
    unfold entD
    rw [e1] at htold ⊢
    -- how many
    have hmany : (mIf (mBol (mBin eqD (mBinL ixD 6 (mPure (.int 0))) (mPure (.str "packet")))) (mAsg (mBin addD (mPure (.int 3)) (mCall1 lenD (mBinL ixD 6 (mPure (.int 1))))) (mStore 7)) (mIf (mBol (mBin eqD (mBinL ixD 6 (mPure (.int 1))) (mPure (.str "end")))) (mAsg (mBin addD (mPure (.int 1)) (mCall1 lenD (mPeek 8))) (mStore 7)) (mPure .nx))) [.val (.list (xs.map itemD)), .val (.int mark), .val (.int most), .val (.str k), .own F, .val (.int (i : Nat)), .val (.tuple [kd, wd]), .val (.int 1), .val (.list ((xs.drop (i + 1)).map itemD)), .un] = some (.ok .nx [.val (.list (xs.map itemD)), .val (.int mark), .val (.int most), .val (.str k), .own F, .val (.int (i : Nat)), .val (.tuple [kd, wd]), .val (.int (manyP (xs.length - i) t : Nat)), .val (.list ((xs.drop (i + 1)).map itemD)), .un]) := by
      have w0 : ∀ p q : D, atI [p, q] 0 = some p := fun _ _ => rfl
      have w1 : ∀ p q : D, atI [p, q] 1 = some q := fun _ _ => rfl
      have hRL : ((xs.drop (i + 1)).map itemD).length = xs.length - i - 1 := by rw [List.length_map, List.length_drop]; omega
      cases t with
      | pkt ns =>
        have hwd := e4 ns rfl
        subst hwd
        have e2' : eqD kd (.str "packet") = some (.bool true) := e2
        have hnl : (ns.map PyData.int).length = ns.length := List.length_map _
        show _ = some (R.ok Fl.nx [_, _, _, _, _, _, _, Sl.val (PyData.int ((ns.length + 3 : Nat) : Int)), _, _])
        have e5 : (3 : Int) + (ns.length : Int) = ((ns.length + 3 : Nat) : Int) := by omega
        generalize ns.map PyData.int = NS at *
        generalize (xs.drop (i + 1)).map itemD = R at *
        generalize xs.map itemD = X at *
        simp [mSeq, mIf, mBol, mBin, mBinL, mBind, mLift, mPure, mPeek, mVar, ixD, iI, bolD, mAsg, mCall1, mCallN, intD, modD, iIc, cMod, mStore, mStoreO, mDone, gSet, mOwn, mPut, setD, mRet, mDrop, mStuck, mTru, truD, mOrT, mAndT, mNotT, mAnd, mOr, mNot, mIsi, isiT_eq, typD, lenD, mCons, mTup, mLst, mLstN, mVal, oOr, addD, subD, mulD, mulI, iIc, cMul, ltD, leD, gtD, geD, gTupD, gCons2, gsNil, mCallV, mCallB, mRs, tupleD, mRetF, mChain, mScr, mScrLen, mScrIx, mMut, appD, max2D, min2D, mRng1, mRng2, rngD1, rngD2, rngOk, mItems, itemsD, mAsgN, mParEE, mParEN, mUn, negD, mCallN1, listD, unsE, powD, cPow, divD, cDiv, mFor, mSl, mSlL, slD, mNoPart, mPart, intO, mSlN, mSlNL, slN, mRevN, revO, mParNC, andD, orD, xorD, shrD, shlD, cShr, mStepN, mStepNL, stepO, mCatN, mCatNL, catN, w0, w1, e2', hnl]
        omega
      | done =>
        have e2' : eqD kd (.str "packet") = some (.bool false) := e2
        have e3' : eqD wd (.str "end") = some (.bool true) := e3 rfl
        show _ = some (R.ok Fl.nx [_, _, _, _, _, _, _, Sl.val (PyData.int ((xs.length - i : Nat) : Int)), _, _])
        have e5 : (1 : Int) + ((xs.length - i - 1 : Nat) : Int) = ((xs.length - i : Nat) : Int) := by omega
        generalize (xs.drop (i + 1)).map itemD = R at *
        generalize xs.map itemD = X at *
        simp [mSeq, mIf, mBol, mBin, mBinL, mBind, mLift, mPure, mPeek, mVar, ixD, iI, bolD, mAsg, mCall1, mCallN, intD, modD, iIc, cMod, mStore, mStoreO, mDone, gSet, mOwn, mPut, setD, mRet, mDrop, mStuck, mTru, truD, mOrT, mAndT, mNotT, mAnd, mOr, mNot, mIsi, isiT_eq, typD, lenD, mCons, mTup, mLst, mLstN, mVal, oOr, addD, subD, mulD, mulI, iIc, cMul, ltD, leD, gtD, geD, gTupD, gCons2, gsNil, mCallV, mCallB, mRs, tupleD, mRetF, mChain, mScr, mScrLen, mScrIx, mMut, appD, max2D, min2D, mRng1, mRng2, rngD1, rngD2, rngOk, mItems, itemsD, mAsgN, mParEE, mParEN, mUn, negD, mCallN1, listD, unsE, powD, cPow, divD, cDiv, mFor, mSl, mSlL, slD, mNoPart, mPart, intO, mSlN, mSlNL, slN, mRevN, revO, mParNC, andD, orD, xorD, shrD, shlD, cShr, mStepN, mStepNL, stepO, mCatN, mCatNL, catN, w0, w1, e2', e3', hRL, e5]
      | word =>
        have e2' : eqD kd (.str "packet") = some (.bool false) := e2
        have e3' : eqD wd (.str "end") = some (.bool false) := e3 rfl
        show _ = some (R.ok Fl.nx [_, _, _, _, _, _, _, Sl.val (PyData.int 1), _, _])
        generalize (xs.drop (i + 1)).map itemD = R at *
        generalize xs.map itemD = X at *
        simp [mSeq, mIf, mBol, mBin, mBinL, mBind, mLift, mPure, mPeek, mVar, ixD, iI, bolD, mAsg, mCall1, mCallN, intD, modD, iIc, cMod, mStore, mStoreO, mDone, gSet, mOwn, mPut, setD, mRet, mDrop, mStuck, mTru, truD, mOrT, mAndT, mNotT, mAnd, mOr, mNot, mIsi, isiT_eq, typD, lenD, mCons, mTup, mLst, mLstN, mVal, oOr, addD, subD, mulD, mulI, iIc, cMul, ltD, leD, gtD, geD, gTupD, gCons2, gsNil, mCallV, mCallB, mRs, tupleD, mRetF, mChain, mScr, mScrLen, mScrIx, mMut, appD, max2D, min2D, mRng1, mRng2, rngD1, rngD2, rngOk, mItems, itemsD, mAsgN, mParEE, mParEN, mUn, negD, mCallN1, listD, unsE, powD, cPow, divD, cDiv, mFor, mSl, mSlL, slD, mNoPart, mPart, intO, mSlN, mSlNL, slN, mRevN, revO, mParNC, andD, orD, xorD, shrD, shlD, cShr, mStepN, mStepNL, stepO, mCatN, mCatNL, catN, w0, w1, e2', e3']
      | long =>
        have e2' : eqD kd (.str "packet") = some (.bool false) := e2
        have e3' : eqD wd (.str "end") = some (.bool false) := e3 rfl
        show _ = some (R.ok Fl.nx [_, _, _, _, _, _, _, Sl.val (PyData.int 1), _, _])
        generalize (xs.drop (i + 1)).map itemD = R at *
        generalize xs.map itemD = X at *
        simp [mSeq, mIf, mBol, mBin, mBinL, mBind, mLift, mPure, mPeek, mVar, ixD, iI, bolD, mAsg, mCall1, mCallN, intD, modD, iIc, cMod, mStore, mStoreO, mDone, gSet, mOwn, mPut, setD, mRet, mDrop, mStuck, mTru, truD, mOrT, mAndT, mNotT, mAnd, mOr, mNot, mIsi, isiT_eq, typD, lenD, mCons, mTup, mLst, mLstN, mVal, oOr, addD, subD, mulD, mulI, iIc, cMul, ltD, leD, gtD, geD, gTupD, gCons2, gsNil, mCallV, mCallB, mRs, tupleD, mRetF, mChain, mScr, mScrLen, mScrIx, mMut, appD, max2D, min2D, mRng1, mRng2, rngD1, rngD2, rngOk, mItems, itemsD, mAsgN, mParEE, mParEN, mUn, negD, mCallN1, listD, unsE, powD, cPow, divD, cDiv, mFor, mSl, mSlL, slD, mNoPart, mPart, intO, mSlN, mSlNL, slN, mRevN, revO, mParNC, andD, orD, xorD, shrD, shlD, cShr, mStepN, mStepNL, stepO, mCatN, mCatNL, catN, w0, w1, e2', e3']
      | chk =>
        have e2' : eqD kd (.str "packet") = some (.bool false) := e2
        have e3' : eqD wd (.str "end") = some (.bool false) := e3 rfl
        show _ = some (R.ok Fl.nx [_, _, _, _, _, _, _, Sl.val (PyData.int 1), _, _])
        generalize (xs.drop (i + 1)).map itemD = R at *
        generalize xs.map itemD = X at *
        simp [mSeq, mIf, mBol, mBin, mBinL, mBind, mLift, mPure, mPeek, mVar, ixD, iI, bolD, mAsg, mCall1, mCallN, intD, modD, iIc, cMod, mStore, mStoreO, mDone, gSet, mOwn, mPut, setD, mRet, mDrop, mStuck, mTru, truD, mOrT, mAndT, mNotT, mAnd, mOr, mNot, mIsi, isiT_eq, typD, lenD, mCons, mTup, mLst, mLstN, mVal, oOr, addD, subD, mulD, mulI, iIc, cMul, ltD, leD, gtD, geD, gTupD, gCons2, gsNil, mCallV, mCallB, mRs, tupleD, mRetF, mChain, mScr, mScrLen, mScrIx, mMut, appD, max2D, min2D, mRng1, mRng2, rngD1, rngD2, rngOk, mItems, itemsD, mAsgN, mParEE, mParEN, mUn, negD, mCallN1, listD, unsE, powD, cPow, divD, cDiv, mFor, mSl, mSlL, slD, mNoPart, mPart, intO, mSlN, mSlNL, slN, mRevN, revO, mParNC, andD, orD, xorD, shrD, shlD, cShr, mStepN, mStepNL, stepO, mCatN, mCatNL, catN, w0, w1, e2', e3']
    generalize manyP (xs.length - i) t = m at *
    have hj : i + m - 1 < xs.length := by omega
    have hej : xs[i + m - 1]? = some xs[i + m - 1] := List.getElem?_eq_getElem hj
    have haj := item_at hej
    obtain ⟨p2, q2, s2, hit2, _⟩ := item_b xs[i + m - 1]
    rw [hit2] at haj
    have hee : endAt xs (i + m - 1) = xs[i + m - 1].e := by unfold endAt; rw [hej]
    rw [hee]
    have hrg : rgOf ((i : Nat) : Int) (.int ((i : Int) + (m : Int))) = some (rngL (i : Nat) ((i + m : Nat) : Int)) := by
      unfold rgOf
      have r1 : rngOk (i : Int) = true := rngOk_le (by omega) (by omega)
      have r2 : rngOk ((i : Int) + (m : Int)) = true := rngOk_le (by omega) (by omega)
      have r3 : fit ((i : Int) + (m : Int) - (i : Int)).toNat = true := decide_eq_true (by omega)
      simp only [r1, r2, r3, Bool.and_self, if_true]
      rw [show (i : Int) + (m : Int) = ((i + m : Nat) : Int) by omega]
    have hsub : (i : Int) + (m : Int) - 1 = ((i + m - 1 : Nat) : Int) := by omega
    have hF3 : F.length ≤ 16000000 := by omega
    have t1 : ∀ o : List D, tupleD [.list o] = some (.tuple o) := fun _ => rfl
    refine ⟨.val (.tuple [kd, wd]), .val (.int (m : Nat)), .val (.list ((xs.drop (i + 1)).map itemD)), ?_⟩
    refine (seq_nx step1).trans ?_
    refine (seq_nx (ρ' := [.val (.list (xs.map itemD)), .val (.int mark), .val (.int most), .val (.str k), .own (F ++ [.tuple ([kd, wd] ++ [.int x.b, .int xs[i + m - 1].e, .tuple (rngL (i : Nat) ((i + m : Nat) : Int))])]), .val (.int (i : Nat)), .val (.tuple [kd, wd]), .val (.int (m : Nat)), .val (.list ((xs.drop (i + 1)).map itemD)), .un]) ?_).trans ?_
    · unfold mIf
      rw [bind_is hcond, if_pos rfl]
      refine (seq2 htold).trans ((seq_nx hmany).trans ?_)
      clear htold hmany hcond step1 hej hit2 hee g1 g2
      generalize xs[i + m - 1] = y at *
      clear hj
      generalize i + m - 1 = l at *
      generalize rngL (i : Nat) ((i + m : Nat) : Int) = RG at *
      generalize (xs.drop (i + 1)).map itemD = R at *
      generalize xs.map itemD = X at *
      simp [mSeq, mIf, mBol, mBin, mBinL, mBind, mLift, mPure, mPeek, mVar, ixD, iI, bolD, mAsg, mCall1, mCallN, intD, modD, iIc, cMod, mStore, mStoreO, mDone, gSet, mOwn, mPut, setD, mRet, mDrop, mStuck, mTru, truD, mOrT, mAndT, mNotT, mAnd, mOr, mNot, mIsi, isiT_eq, typD, lenD, mCons, mTup, mLst, mLstN, mVal, oOr, addD, subD, mulD, mulI, iIc, cMul, ltD, leD, gtD, geD, gTupD, gCons2, gsNil, mCallV, mCallB, mRs, tupleD, mRetF, mChain, mScr, mScrLen, mScrIx, mMut, appD, max2D, min2D, mRng1, mRng2, rngD1, rngD2, rngOk, mItems, itemsD, mAsgN, mParEE, mParEN, mUn, negD, mCallN1, listD, unsE, powD, cPow, divD, cDiv, mFor, mSl, mSlL, slD, mNoPart, mPart, intO, mSlN, mSlNL, slN, mRevN, revO, mParNC, andD, orD, xorD, shrD, shlD, cShr, mStepN, mStepNL, stepO, mCatN, mCatNL, catN, hat, z2, z3, hsub, haj, mRgN2, hrg, t1, catT, catL, fit, appD, hF3]
    · generalize (xs.drop (i + 1)).map itemD = R at *
      generalize xs.map itemD = X at *
      simp [mSeq, mIf, mBol, mBin, mBinL, mBind, mLift, mPure, mPeek, mVar, ixD, iI, bolD, mAsg, mCall1, mCallN, intD, modD, iIc, cMod, mStore, mStoreO, mDone, gSet, mOwn, mPut, setD, mRet, mDrop, mStuck, mTru, truD, mOrT, mAndT, mNotT, mAnd, mOr, mNot, mIsi, isiT_eq, typD, lenD, mCons, mTup, mLst, mLstN, mVal, oOr, addD, subD, mulD, mulI, iIc, cMul, ltD, leD, gtD, geD, gTupD, gCons2, gsNil, mCallV, mCallB, mRs, tupleD, mRetF, mChain, mScr, mScrLen, mScrIx, mMut, appD, max2D, min2D, mRng1, mRng2, rngD1, rngD2, rngOk, mItems, itemsD, mAsgN, mParEE, mParEN, mUn, negD, mCallN1, listD, unsE, powD, cPow, divD, cDiv, mFor, mSl, mSlL, slD, mNoPart, mPart, intO, mSlN, mSlNL, slN, mRevN, revO, mParNC, andD, orD, xorD, shrD, shlD, cShr, mStepN, mStepNL, stepO, mCatN, mCatNL, catN]
  · simp only [if_neg c]
    refine ⟨.val .none, .val (.int 1), .val (.list ((xs.drop (i + 1)).map itemD)), ?_⟩
    refine (seq_nx step1).trans ?_
    refine (seq_nx (ρ' := [.val (.list (xs.map itemD)), .val (.int mark), .val (.int most), .val (.str k), .own F, .val (.int (i : Nat)), .val .none, .val (.int 1), .val (.list ((xs.drop (i + 1)).map itemD)), .un]) ?_).trans ?_
    · cases e : byteOf x with
      | none =>
        have hw' : fn__law_is_byte [.tuple [p, q, .int x.b, .int x.e, s]] = some (.ok (.bool false)) := by rw [hw, e]; rfl
        generalize (xs.drop (i + 1)).map itemD = R at *
        generalize xs.map itemD = X at *
        simp [mSeq, mIf, mBol, mBin, mBinL, mBind, mLift, mPure, mPeek, mVar, ixD, iI, bolD, mAsg, mCall1, mCallN, intD, modD, iIc, cMod, mStore, mStoreO, mDone, gSet, mOwn, mPut, setD, mRet, mDrop, mStuck, mTru, truD, mOrT, mAndT, mNotT, mAnd, mOr, mNot, mIsi, isiT_eq, typD, lenD, mCons, mTup, mLst, mLstN, mVal, oOr, addD, subD, mulD, mulI, iIc, cMul, ltD, leD, gtD, geD, gTupD, gCons2, gsNil, mCallV, mCallB, mRs, tupleD, mRetF, mChain, mScr, mScrLen, mScrIx, mMut, appD, max2D, min2D, mRng1, mRng2, rngD1, rngD2, rngOk, mItems, itemsD, mAsgN, mParEE, mParEN, mUn, negD, mCallN1, listD, unsE, powD, cPow, divD, cDiv, mFor, mSl, mSlL, slD, mNoPart, mPart, intO, mSlN, mSlNL, slN, mRevN, revO, mParNC, andD, orD, xorD, shrD, shlD, cShr, mStepN, mStepNL, stepO, mCatN, mCatNL, catN, hat, hw']
      | some n =>
        have hqn := hq n e
        subst hqn
        have hw' : fn__law_is_byte [.tuple [p, .int n, .int x.b, .int x.e, s]] = some (.ok (.bool true)) := by rw [hw, e]; rfl
        have hne : ¬ n = mark := fun z => c (by rw [e, z])
        generalize (xs.drop (i + 1)).map itemD = R at *
        generalize xs.map itemD = X at *
        simp [mSeq, mIf, mBol, mBin, mBinL, mBind, mLift, mPure, mPeek, mVar, ixD, iI, bolD, mAsg, mCall1, mCallN, intD, modD, iIc, cMod, mStore, mStoreO, mDone, gSet, mOwn, mPut, setD, mRet, mDrop, mStuck, mTru, truD, mOrT, mAndT, mNotT, mAnd, mOr, mNot, mIsi, isiT_eq, typD, lenD, mCons, mTup, mLst, mLstN, mVal, oOr, addD, subD, mulD, mulI, iIc, cMul, ltD, leD, gtD, geD, gTupD, gCons2, gsNil, mCallV, mCallB, mRs, tupleD, mRetF, mChain, mScr, mScrLen, mScrIx, mMut, appD, max2D, min2D, mRng1, mRng2, rngD1, rngD2, rngOk, mItems, itemsD, mAsgN, mParEE, mParEN, mUn, negD, mCallN1, listD, unsE, powD, cPow, divD, cDiv, mFor, mSl, mSlL, slD, mNoPart, mPart, intO, mSlN, mSlNL, slN, mRevN, revO, mParNC, andD, orD, xorD, shrD, shlD, cShr, mStepN, mStepNL, stepO, mCatN, mCatNL, catN, hat, hw', z1, eq_int, hne]
    · generalize (xs.drop (i + 1)).map itemD = R at *
      generalize xs.map itemD = X at *
      simp [mSeq, mIf, mBol, mBin, mBinL, mBind, mLift, mPure, mPeek, mVar, ixD, iI, bolD, mAsg, mCall1, mCallN, intD, modD, iIc, cMod, mStore, mStoreO, mDone, gSet, mOwn, mPut, setD, mRet, mDrop, mStuck, mTru, truD, mOrT, mAndT, mNotT, mAnd, mOr, mNot, mIsi, isiT_eq, typD, lenD, mCons, mTup, mLst, mLstN, mVal, oOr, addD, subD, mulD, mulI, iIc, cMul, ltD, leD, gtD, geD, gTupD, gCons2, gsNil, mCallV, mCallB, mRs, tupleD, mRetF, mChain, mScr, mScrLen, mScrIx, mMut, appD, max2D, min2D, mRng1, mRng2, rngD1, rngD2, rngOk, mItems, itemsD, mAsgN, mParEE, mParEN, mUn, negD, mCallN1, listD, unsE, powD, cPow, divD, cDiv, mFor, mSl, mSlL, slD, mNoPart, mPart, intO, mSlN, mSlNL, slN, mRevN, revO, mParNC, andD, orD, xorD, shrD, shlD, cShr, mStepN, mStepNL, stepO, mCatN, mCatNL, catN]

theorem lpackets_loop {xs : List Im} {mark most : Int} {k : String} (hk : k = "sum" ∨ k = "xor" ∨ k = "rest") (hx : ∀ x ∈ xs, ∀ n, byteOf x = some n → 0 ≤ n) (hS : ShIm xs) (hl : xs.length ≤ 190) :
    ∀ (f i : Nat) (F : List D) (s6 s7 s8 : Sl), xs.length - i < f → F.length + (xs.length - i) ≤ 1000 → ∃ s5' s6' s7' s8', mWhileN (mBol (mBinL ltD 5 (mCall1 lenD (mPeek 0)))) L__law_packets_0 f [.val (.list (xs.map itemD)), .val (.int mark), .val (.int most), .val (.str k), .own F, .val (.int (i : Nat)), s6, s7, s8, .un] = some (.ok .nx [.val (.list (xs.map itemD)), .val (.int mark), .val (.int most), .val (.str k), .own (F ++ walkP mark most (chk k) xs f i), s5', s6', s7', s8', .un])
  | 0, i, F, _, _, _, h, _ => by omega
  | f + 1, i, F, s6, s7, s8, h, hF => by
    have hc : mBol (mBinL ltD 5 (mCall1 lenD (mPeek 0))) [.val (.list (xs.map itemD)), .val (.int mark), .val (.int most), .val (.str k), .own F, .val (.int (i : Nat)), s6, s7, s8, .un] = some (.ok (decide ((i : Int) < (xs.length : Int))) [.val (.list (xs.map itemD)), .val (.int mark), .val (.int most), .val (.str k), .own F, .val (.int (i : Nat)), s6, s7, s8, .un]) := by
      simp [mSeq, mIf, mBol, mBin, mBinL, mBind, mLift, mPure, mPeek, mVar, ixD, iI, bolD, mAsg, mCall1, mCallN, intD, modD, iIc, cMod, mStore, mStoreO, mDone, gSet, mOwn, mPut, setD, mRet, mDrop, mStuck, mTru, truD, mOrT, mAndT, mNotT, mAnd, mOr, mNot, mIsi, isiT_eq, typD, lenD, mCons, mTup, mLst, mLstN, mVal, oOr, addD, subD, mulD, mulI, iIc, cMul, ltD, leD, gtD, geD, gTupD, gCons2, gsNil, mCallV, mCallB, mRs, tupleD, mRetF, mChain, mScr, mScrLen, mScrIx, mMut, appD, max2D, min2D, mRng1, mRng2, rngD1, rngD2, rngOk, mItems, itemsD, mAsgN, mParEE, mParEN, mUn, negD, mCallN1, listD, unsE, powD, cPow, divD, cDiv, mFor, mSl, mSlL, slD, mNoPart, mPart, intO, mSlN, mSlNL, slN, mRevN, revO, mParNC, andD, orD, xorD, shrD, shlD, cShr, mStepN, mStepNL, stepO, mCatN, mCatNL, catN]
    unfold mWhileN
    rw [bind_is hc]
    by_cases c : i < xs.length
    · rw [if_pos (decide_eq_true (by omega))]
      have hi : xs[i]? = some xs[i] := List.getElem?_eq_getElem c
      obtain ⟨t6, t7, t8, ht⟩ := lpackets_turn (mark := mark) (most := most) (F := F) (s6 := s6) (s7 := s7) (s8 := s8) hk hx hS hl hi (by omega)
      have hml := many_le (most := most) (ck := chk k) hx c
      unfold walkP
      rw [hi]
      dsimp only
      by_cases hb : byteOf xs[i] = some mark
      · rw [if_pos hb] at ht
        rw [bind_is ht, if_pos hb]
        obtain ⟨a, b', c', d', h2⟩ := lpackets_loop hk hx hS hl f (i + manyP (xs.length - i) (tryP most (chk k) [] (xs.drop (i + 1)))) (F ++ [entD xs xs[i] i (tryP most (chk k) [] (xs.drop (i + 1)))]) t6 t7 t8 (by omega) (by rw [List.length_append, List.length_singleton]; omega) (mark := mark) (most := most)
        refine ⟨a, b', c', d', ?_⟩
        rw [List.append_assoc] at h2
        exact h2
      · rw [if_neg hb] at ht
        rw [bind_is ht, if_neg hb]
        exact lpackets_loop hk hx hS hl f (i + 1) F t6 t7 t8 (by omega) (by omega)
    · rw [if_neg (by simp; omega)]
      have hi : xs[i]? = none := List.getElem?_eq_none (by omega)
      refine ⟨.val (.int (i : Nat)), s6, s7, s8, ?_⟩
      unfold walkP
      rw [hi, List.append_nil]; rfl
theorem law_packets_ok {xs : List Im} {mark most : Int} {k : String} (hk : k = "sum" ∨ k = "xor" ∨ k = "rest") (hx : ∀ x ∈ xs, ∀ n, byteOf x = some n → 0 ≤ n) (hS : ShIm xs) (hl : xs.length ≤ 190) :
    fn__law_packets [.list (xs.map itemD), .int mark, .int most, .str k] = some (.ok (.list (walkP mark most (chk k) xs 1000 0))) := by
  obtain ⟨a, b, c, d, h⟩ := lpackets_loop (mark := mark) (most := most) hk hx hS hl 1000 0 [] .un .un .un (by omega) (by rw [List.length_nil]; omega)
  rw [List.nil_append] at h
  have hR : R__law_packets_0 [.val (.list (xs.map itemD)), .val (.int mark), .val (.int most), .val (.str k), .own [], .val (.int 0), .un, .un, .un, .un] = some (.ok .nx [.val (.list (xs.map itemD)), .val (.int mark), .val (.int most), .val (.str k), .own (walkP mark most (chk k) xs 1000 0), a, b, c, d, .un]) := h
  generalize xs.map itemD = X at *
  simp [fn__law_packets, runV, m__law_packets, env0, mSeq, mIf, mBol, mBin, mBinL, mBind, mLift, mPure, mPeek, mVar, ixD, iI, bolD, mAsg, mCall1, mCallN, intD, modD, iIc, cMod, mStore, mStoreO, mDone, gSet, mOwn, mPut, setD, mRet, mDrop, mStuck, mTru, truD, mOrT, mAndT, mNotT, mAnd, mOr, mNot, mIsi, isiT_eq, typD, lenD, mCons, mTup, mLst, mLstN, mVal, oOr, addD, subD, mulD, mulI, iIc, cMul, ltD, leD, gtD, geD, gTupD, gCons2, gsNil, mCallV, mCallB, mRs, tupleD, mRetF, mChain, mScr, mScrLen, mScrIx, mMut, appD, max2D, min2D, mRng1, mRng2, rngD1, rngD2, rngOk, mItems, itemsD, mAsgN, mParEE, mParEN, mUn, negD, mCallN1, listD, unsE, powD, cPow, divD, cDiv, mFor, mSl, mSlL, slD, mNoPart, mPart, intO, mSlN, mSlNL, slN, mRevN, revO, mParNC, andD, orD, xorD, shrD, shlD, cShr, mStepN, mStepNL, stepO, mCatN, mCatNL, catN, mParNC, fit, hR]
/-! ### items as the law draws them -/
def WD (B : Int) (d : D) : Prop := d = .none ∨ ∃ n : Int, d = .int n ∧ 0 ≤ n ∧ n < B
def placesD (ms : List Int) : List D := ms.map fun m => .tuple [.str "d", .int m]
structure Gi (x : Im) : Prop where
  n : ∀ v, x.n = some v → 0 ≤ v ∧ v < 100000
  w : x.why = "stop" ∨ x.why = "start" ∨ x.why = "check"
  b : 0 ≤ x.b ∧ x.b < 10000000
  e : 0 ≤ x.e ∧ x.e < 10000000
  pl : ∃ ms : List Int, x.pl = placesD ms ∧ ms.length ≤ 20 ∧ ∀ m ∈ ms, 0 ≤ m ∧ m < 10000000
def spotsL (a w : Int) (m : Nat) : List Int := (List.range m).map fun (k : Nat) => a + w / 2 + (k : Int) * w
theorem spots_comp {s0 s1 s2 s3 s7 s8 s9 s10 s12 : Sl} {a w : Int} {m : Nat} (hm : m ≤ 30) (hw0 : 0 ≤ w) (hw1 : w ≤ 1000) (ha : a.natAbs < 10000000) :
    C__law_frames_0 [s0, s1, s2, s3, .val (.int a), .val (.int w), .val (.int (m : Nat)), s7, s8, s9, s10, .un, s12] = some (.ok ((spotsL a w m).map PyData.int) [s0, s1, s2, s3, .val (.int a), .val (.int w), .val (.int (m : Nat)), s7, s8, s9, s10, .un, s12]) := by
  have hr : mRng1 (mCons (mVar 6) (mPure [])) [s0, s1, s2, s3, .val (.int a), .val (.int w), .val (.int (m : Nat)), s7, s8, s9, s10, .un, s12] = some (.ok (rngL 0 (m : Nat)) [s0, s1, s2, s3, .val (.int a), .val (.int w), .val (.int (m : Nat)), s7, s8, s9, s10, .un, s12]) := rng1_is (by simp [mSeq, mIf, mBol, mBin, mBinL, mBind, mLift, mPure, mPeek, mVar, ixD, iI, bolD, mAsg, mCall1, mCallN, intD, modD, iIc, cMod, mStore, mStoreO, mDone, gSet, mOwn, mPut, setD, mRet, mDrop, mStuck, mTru, truD, mOrT, mAndT, mNotT, mAnd, mOr, mNot, mIsi, isiT_eq, typD, lenD, mCons, mTup, mLst, mLstN, mVal, oOr, addD, subD, mulD, mulI, iIc, cMul, ltD, leD, gtD, geD, gTupD, gCons2, gsNil, mCallV, mCallB, mRs, tupleD, mRetF, mChain, mScr, mScrLen, mScrIx, mMut, appD, max2D, min2D, mRng1, mRng2, rngD1, rngD2, rngOk, mItems, itemsD, mAsgN, mParEE, mParEN, mUn, negD, mCallN1, listD, unsE, powD, cPow, divD, cDiv, mFor, mSl, mSlL, slD, mNoPart, mPart, intO, mSlN, mSlNL, slN, mRevN, revO, mParNC, andD, orD, xorD, shrD, shlD, cShr, mStepN, mStepNL, stepO, mCatN, mCatNL, catN]) (rngOk_le (by omega) (by omega))
  refine comp_is (vs := [11]) (ρe := [s0, s1, s2, s3, .val (.int a), .val (.int w), .val (.int (m : Nat)), s7, s8, s9, s10, .un, s12]) hr (fit_of2 (by rw [rngL_length]; omega)) ?_
  rw [rngL_nat]
  unfold spotsL
  rw [List.map_map]
  refine go_mapA _ _ _ fun k hk => ?_
  have := List.mem_range.mp hk
  have m1 : mulD (.int (k : Nat)) (.int w) = some (.int ((k : Nat) * w)) := mul_ok (by omega)
  exact ⟨[s0, s1, s2, s3, .val (.int a), .val (.int w), .val (.int (m : Nat)), s7, s8, s9, s10, .val (.int (k : Nat)), s12], [s0, s1, s2, s3, .val (.int a), .val (.int w), .val (.int (m : Nat)), s7, s8, s9, s10, .val (.int (k : Nat)), s12], by simp [unsE, mStore], by simp [mSeq, mIf, mBol, mBin, mBinL, mBind, mLift, mPure, mPeek, mVar, ixD, iI, bolD, mAsg, mCall1, mCallN, intD, modD, iIc, cMod, mStore, mStoreO, mDone, gSet, mOwn, mPut, setD, mRet, mDrop, mStuck, mTru, truD, mOrT, mAndT, mNotT, mAnd, mOr, mNot, mIsi, isiT_eq, typD, lenD, mCons, mTup, mLst, mLstN, mVal, oOr, addD, subD, mulI, iIc, cMul, ltD, leD, gtD, geD, gTupD, gCons2, gsNil, mCallV, mCallB, mRs, tupleD, mRetF, mChain, mScr, mScrLen, mScrIx, mMut, appD, max2D, min2D, mRng1, mRng2, rngD1, rngD2, rngOk, mItems, itemsD, mAsgN, mParEE, mParEN, mUn, negD, mCallN1, listD, unsE, powD, cPow, divD, cDiv, mFor, mSl, mSlL, slD, mNoPart, mPart, intO, mSlN, mSlNL, slN, mRevN, revO, mParNC, andD, orD, xorD, shrD, shlD, cShr, mStepN, mStepNL, stepO, mCatN, mCatNL, catN, m1], by simp [unsE]⟩
theorem d_comp {s0 s1 s2 s3 s4 s5 s6 s7 s9 s10 s11 s8 : Sl} {ms : List Int} (hm : ms.length ≤ 100) (h8 : s8 = .own (ms.map PyData.int) ∨ s8 = .val (.list (ms.map PyData.int))) :
    C__law_frames_1 [s0, s1, s2, s3, s4, s5, s6, s7, s8, s9, s10, s11, .un] = some (.ok (placesD ms) [s0, s1, s2, s3, s4, s5, s6, s7, .val (.list (ms.map PyData.int)), s9, s10, s11, .un]) := by
  have hi : mItems (mVar 8) [s0, s1, s2, s3, s4, s5, s6, s7, s8, s9, s10, s11, .un] = some (.ok (ms.map PyData.int) [s0, s1, s2, s3, s4, s5, s6, s7, .val (.list (ms.map PyData.int)), s9, s10, s11, .un]) := by
    generalize ms.map PyData.int = M at *
    rcases h8 with rfl | rfl <;> simp [mSeq, mIf, mBol, mBin, mBinL, mBind, mLift, mPure, mPeek, mVar, ixD, iI, bolD, mAsg, mCall1, mCallN, intD, modD, iIc, cMod, mStore, mStoreO, mDone, gSet, mOwn, mPut, setD, mRet, mDrop, mStuck, mTru, truD, mOrT, mAndT, mNotT, mAnd, mOr, mNot, mIsi, isiT_eq, typD, lenD, mCons, mTup, mLst, mLstN, mVal, oOr, addD, subD, mulD, mulI, iIc, cMul, ltD, leD, gtD, geD, gTupD, gCons2, gsNil, mCallV, mCallB, mRs, tupleD, mRetF, mChain, mScr, mScrLen, mScrIx, mMut, appD, max2D, min2D, mRng1, mRng2, rngD1, rngD2, rngOk, mItems, itemsD, mAsgN, mParEE, mParEN, mUn, negD, mCallN1, listD, unsE, powD, cPow, divD, cDiv, mFor, mSl, mSlL, slD, mNoPart, mPart, intO, mSlN, mSlNL, slN, mRevN, revO, mParNC, andD, orD, xorD, shrD, shlD, cShr, mStepN, mStepNL, stepO, mCatN, mCatNL, catN]
  refine comp_is (vs := [12]) (ρe := [s0, s1, s2, s3, s4, s5, s6, s7, .val (.list (ms.map PyData.int)), s9, s10, s11, .un]) hi (fit_of2 (by rw [List.length_map]; omega)) ?_
  unfold placesD
  exact go_mapA _ _ _ fun k hk => ⟨[s0, s1, s2, s3, s4, s5, s6, s7, .val (.list (ms.map PyData.int)), s9, s10, s11, .val (.int k)], [s0, s1, s2, s3, s4, s5, s6, s7, .val (.list (ms.map PyData.int)), s9, s10, s11, .val (.int k)], by simp [unsE, mStore], by simp [mSeq, mIf, mBol, mBin, mBinL, mBind, mLift, mPure, mPeek, mVar, ixD, iI, bolD, mAsg, mCall1, mCallN, intD, modD, iIc, cMod, mStore, mStoreO, mDone, gSet, mOwn, mPut, setD, mRet, mDrop, mStuck, mTru, truD, mOrT, mAndT, mNotT, mAnd, mOr, mNot, mIsi, isiT_eq, typD, lenD, mCons, mTup, mLst, mLstN, mVal, oOr, addD, subD, mulD, mulI, iIc, cMul, ltD, leD, gtD, geD, gTupD, gCons2, gsNil, mCallV, mCallB, mRs, tupleD, mRetF, mChain, mScr, mScrLen, mScrIx, mMut, appD, max2D, min2D, mRng1, mRng2, rngD1, rngD2, rngOk, mItems, itemsD, mAsgN, mParEE, mParEN, mUn, negD, mCallN1, listD, unsE, powD, cPow, divD, cDiv, mFor, mSl, mSlL, slD, mNoPart, mPart, intO, mSlN, mSlNL, slN, mRevN, revO, mParNC, andD, orD, xorD, shrD, shlD, cShr, mStepN, mStepNL, stepO, mCatN, mCatNL, catN, fit], by simp [unsE]⟩
theorem spots_last (a w : Int) {m : Nat} (h : 0 < m) : atI ((spotsL a w m).map PyData.int) (-1) = some (.int (a + w / 2 + ((m - 1 : Nat) : Int) * w)) := by
  obtain ⟨q, rfl⟩ : ∃ q, m = q + 1 := ⟨m - 1, by omega⟩
  unfold spotsL
  rw [List.range_succ, List.map_append, List.map_append]
  exact atI_last _ _
theorem spots_bd {a w : Int} {m : Nat} (hm : m ≤ 20) (hw0 : 0 ≤ w) (hw1 : w ≤ 1000) (a0 : 0 ≤ a) : ∀ k : Nat, k < m → 0 ≤ a + w / 2 + (k : Int) * w ∧ a + w / 2 + (k : Int) * w ≤ a + 20500 := by
  intro k hk
  have h1 : (k : Int) * w ≤ 20 * w := Int.mul_le_mul_of_nonneg_right (by omega) hw0
  have h2 : 0 ≤ (k : Int) * w := Int.mul_nonneg (by omega) hw0
  omega

/-- the item, its kind and what, of these places -/
theorem item_put {s0 s1 s2 s6 s7 s11 s8 : Sl} {a w l : Int} {ms : List Int} {X : List D} {kd wd : D} (hX : X.length ≤ 200) (hm : ms.length ≤ 100) (h8 : s8 = .own (ms.map PyData.int) ∨ s8 = .val (.list (ms.map PyData.int))) (hl : atI (ms.map PyData.int) (-1) = some (.int l)) :
    (mDrop (mMut 3 appD (mCons (mTup (mCons (mVar 9) (mCons (mVar 10) (mCons (mVar 4) (mCons (mBin addD (mBinL ixD 8 (mUn negD (mPure (.int 1)))) (mPure (.int 1))) (mCons (mCall1 tupleD (mVal C__law_frames_1)) (mPure []))))))) (mPure [])))) [s0, s1, s2, .own X, .val (.int a), .val (.int w), s6, s7, s8, .val kd, .val wd, s11, .un] = some (.ok .nx [s0, s1, s2, .own (X ++ [.tuple [kd, wd, .int a, .int (l + 1), .tuple (placesD ms)]]), .val (.int a), .val (.int w), s6, s7, .val (.list (ms.map PyData.int)), .val kd, .val wd, s11, .un]) := by
  have hd := fun s3 => d_comp (s0 := s0) (s1 := s1) (s2 := s2) (s3 := s3) (s4 := .val (.int a)) (s5 := .val (.int w)) (s6 := s6) (s7 := s7) (s9 := .val kd) (s10 := .val wd) (s11 := s11) (ms := ms) hm h8
  have t1 : ∀ o : List D, tupleD [.list o] = some (.tuple o) := fun _ => rfl
  have f1 : X.length ≤ 16000000 := by omega
  generalize placesD ms = P at *
  generalize ms.map PyData.int = M at *
  have hdo := hd
  rcases h8 with rfl | rfl <;> simp [mSeq, mIf, mBol, mBin, mBinL, mBind, mLift, mPure, mPeek, mVar, ixD, iI, bolD, mAsg, mCall1, mCallN, intD, modD, iIc, cMod, mStore, mStoreO, mDone, gSet, mOwn, mPut, setD, mRet, mDrop, mStuck, mTru, truD, mOrT, mAndT, mNotT, mAnd, mOr, mNot, mIsi, isiT_eq, typD, lenD, mCons, mTup, mLst, mLstN, mVal, oOr, addD, subD, mulD, mulI, iIc, cMul, ltD, leD, gtD, geD, gTupD, gCons2, gsNil, mCallV, mCallB, mRs, tupleD, mRetF, mChain, mScr, mScrLen, mScrIx, mMut, appD, max2D, min2D, mRng1, mRng2, rngD1, rngD2, rngOk, mItems, itemsD, mAsgN, mParEE, mParEN, mUn, negD, mCallN1, listD, unsE, powD, cPow, divD, cDiv, mFor, mSl, mSlL, slD, mNoPart, mPart, intO, mSlN, mSlNL, slN, mRevN, revO, mParNC, andD, orD, xorD, shrD, shlD, cShr, mStepN, mStepNL, stepO, mCatN, mCatNL, catN, hl, hdo, t1, fit, appD, f1, negD]
theorem frame_turn {bs : List D} {xs : List Im} {d : D} {a w : Int} {bits m : Nat} {s1 s8 s9 s10 : Sl} (hb : Bx bs) (hx : ∀ x ∈ xs, Gi x) (hl : xs.length ≤ 150) (hd : WD 100000 d) (a0 : 0 ≤ a) (a1 : a < 5000000) (w0 : 0 ≤ w) (w1 : w ≤ 1000) (hm : m = bits + 2 ∨ m = bits + 3) (hbits : bits ≤ 16) :
    ∃ (x : Im) (a' : Int) (bs' : List D) (t8 t9 t10 : Sl), L__law_frames_0 [.io bs, s1, .val (.int (bits : Nat)), .own (xs.map itemD), .val (.int a), .val (.int w), .val (.int (m : Nat)), .val d, s8, s9, s10, .un, .un] = some (.ok .nx [.io bs', s1, .val (.int (bits : Nat)), .own ((xs ++ [x]).map itemD), .val (.int a'), .val (.int w), .val (.int (m : Nat)), .val d, t8, t9, t10, .un, .un]) ∧ Bx bs' ∧ Gi x ∧ 0 ≤ a' ∧ a' ≤ a + 20600 := by
  have h1 := spots_comp (s0 := .io bs) (s1 := s1) (s2 := .val (.int (bits : Nat))) (s3 := .own (xs.map itemD)) (s7 := .val d) (s8 := s8) (s9 := s9) (s10 := s10) (s12 := .un) (a := a) (w := w) (m := m) (by omega) w0 w1 (by omega)
  have hbd := spots_bd (a := a) (w := w) (m := m) (by omega) w0 w1 a0
  have hXl : (xs.map itemD).length ≤ 200 := by rw [List.length_map]; omega
  have st1 : (mAsgN C__law_frames_0 8) [.io bs, s1, .val (.int (bits : Nat)), .own (xs.map itemD), .val (.int a), .val (.int w), .val (.int (m : Nat)), .val d, s8, s9, s10, .un, .un] = some (.ok .nx [.io bs, s1, .val (.int (bits : Nat)), .own (xs.map itemD), .val (.int a), .val (.int w), .val (.int (m : Nat)), .val d, .own ((spotsL a w m).map PyData.int), s9, s10, .un, .un]) := by
    generalize (spotsL a w m).map PyData.int = S at *
    generalize xs.map itemD = X at *
    simp [mSeq, mIf, mBol, mBin, mBinL, mBind, mLift, mPure, mPeek, mVar, ixD, iI, bolD, mAsg, mCall1, mCallN, intD, modD, iIc, cMod, mStore, mStoreO, mDone, gSet, mOwn, mPut, setD, mRet, mDrop, mStuck, mTru, truD, mOrT, mAndT, mNotT, mAnd, mOr, mNot, mIsi, isiT_eq, typD, lenD, mCons, mTup, mLst, mLstN, mVal, oOr, addD, subD, mulD, mulI, iIc, cMul, ltD, leD, gtD, geD, gTupD, gCons2, gsNil, mCallV, mCallB, mRs, tupleD, mRetF, mChain, mScr, mScrLen, mScrIx, mMut, appD, max2D, min2D, mRng1, mRng2, rngD1, rngD2, rngOk, mItems, itemsD, mAsgN, mParEE, mParEN, mUn, negD, mCallN1, listD, unsE, powD, cPow, divD, cDiv, mFor, mSl, mSlL, slD, mNoPart, mPart, intO, mSlN, mSlNL, slN, mRevN, revO, mParNC, andD, orD, xorD, shrD, shlD, cShr, mStepN, mStepNL, stepO, mCatN, mCatNL, catN, h1]
  -- what is drawn last of a turn
  have fin : ∀ (bs : List D) (ms : List Int) (l : Int) (kd wd : D) (s8 : Sl), Bx bs → ms.length ≤ 100 → (s8 = .own (ms.map PyData.int) ∨ s8 = .val (.list (ms.map PyData.int))) → atI (ms.map PyData.int) (-1) = some (.int l) → 0 ≤ l → l ≤ a + 20500 →
      ∃ (a' : Int) (bs' : List D), (mSeq (mDrop (mMut 3 appD (mCons (mTup (mCons (mVar 9) (mCons (mVar 10) (mCons (mVar 4) (mCons (mBin addD (mBinL ixD 8 (mUn negD (mPure (.int 1)))) (mPure (.int 1))) (mCons (mCall1 tupleD (mVal C__law_frames_1)) (mPure []))))))) (mPure []))))
  (mAsg (mBin addD (mBin addD (mBinL ixD 8 (mUn negD (mPure (.int 1)))) (mPure (.int 2))) (mCallB 0 2 fn__law_take (mCons (mPure (.int 9)) (mPure [])))) (mStore 4))) [.io bs, s1, .val (.int (bits : Nat)), .own (xs.map itemD), .val (.int a), .val (.int w), .val (.int (m : Nat)), .val d, s8, .val kd, .val wd, .un, .un] = some (.ok .nx [.io bs', s1, .val (.int (bits : Nat)), .own (xs.map itemD ++ [.tuple [kd, wd, .int a, .int (l + 1), .tuple (placesD ms)]]), .val (.int a'), .val (.int w), .val (.int (m : Nat)), .val d, .val (.list (ms.map PyData.int)), .val kd, .val wd, .un, .un]) ∧ Bx bs' ∧ 0 ≤ a' ∧ a' ≤ a + 20600 := by
    intro bs ms l kd wd s8 hb hms h8 hla l0 l1
    obtain ⟨r, b1, e1, r0, r1, hb1⟩ := take_ok (m := 9) hb (by omega) (by omega)
    have hp := item_put (s0 := .io bs) (s1 := s1) (s2 := .val (.int (bits : Nat))) (s6 := .val (.int (m : Nat))) (s7 := .val d) (s11 := .un) (a := a) (w := w) (l := l) (ms := ms) (X := xs.map itemD) (kd := kd) (wd := wd) hXl hms h8 hla
    refine ⟨l + 2 + r, b1, ?_, hb1, by omega, by omega⟩
    refine (seq_nx hp).trans ?_
    generalize xs.map itemD = X at *
    generalize placesD ms = P at *
    generalize ms.map PyData.int = M at *
    simp [mSeq, mIf, mBol, mBin, mBinL, mBind, mLift, mPure, mPeek, mVar, ixD, iI, bolD, mAsg, mCall1, mCallN, intD, modD, iIc, cMod, mStore, mStoreO, mDone, gSet, mOwn, mPut, setD, mRet, mDrop, mStuck, mTru, truD, mOrT, mAndT, mNotT, mAnd, mOr, mNot, mIsi, isiT_eq, typD, lenD, mCons, mTup, mLst, mLstN, mVal, oOr, addD, subD, mulD, mulI, iIc, cMul, ltD, leD, gtD, geD, gTupD, gCons2, gsNil, mCallV, mCallB, mRs, tupleD, mRetF, mChain, mScr, mScrLen, mScrIx, mMut, appD, max2D, min2D, mRng1, mRng2, rngD1, rngD2, rngOk, mItems, itemsD, mAsgN, mParEE, mParEN, mUn, negD, mCallN1, listD, unsE, powD, cPow, divD, cDiv, mFor, mSl, mSlL, slD, mNoPart, mPart, intO, mSlN, mSlNL, slN, mRevN, revO, mParNC, andD, orD, xorD, shrD, shlD, cShr, mStepN, mStepNL, stepO, mCatN, mCatNL, catN, hla, e1, negD]
  have hsl : (spotsL a w m).length = m := by simp [spotsL]
  have hla := spots_last a w (m := m) (by omega)
  have hlb := hbd (m - 1) (by omega)
  have hmem : ∀ i ∈ spotsL a w m, 0 ≤ i ∧ i < 10000000 := fun i hi => by
    obtain ⟨k, hk, rfl⟩ := List.mem_map.mp hi
    have := hbd k (List.mem_range.mp hk)
    omega
  rcases hd with rfl | ⟨n, rfl, n0, n1⟩
  · -- torn
    obtain ⟨r, b1, e1, r0, r1, hb1⟩ := take_ok (m := (m : Int) - (bits : Int)) hb (by omega) (by omega)
    obtain ⟨y, e2, hy⟩ : ∃ y : String, atI [PyData.str "stop", .str "start", .str "check"] r = some (.str y) ∧ (y = "stop" ∨ y = "start" ∨ y = "check") := by
      obtain ⟨x, hd, e⟩ := ix_in (ds := [PyData.str "stop", .str "start", .str "check"]) r0 (by show r < (3 : Nat); omega)
      simp only [List.mem_cons, List.not_mem_nil, or_false] at hd
      rcases hd with rfl | rfl | rfl
      · exact ⟨_, e, .inl rfl⟩
      · exact ⟨_, e, .inr (.inl rfl)⟩
      · exact ⟨_, e, .inr (.inr rfl)⟩
    have st2 : (mSeq (mParEE 9 10 (mPure (.str "word")) (mVar 7)) (mIf (mBol (mBinL isD 7 (mPure .none))) (mParEE 9 10 (mPure (.str "torn")) (mBin ixD (mLst (mCons (mPure (.str "stop")) (mCons (mPure (.str "start")) (mCons (mPure (.str "check")) (mPure []))))) (mCallB 0 2 fn__law_take (mCons (mBinL subD 6 (mPeek 2)) (mPure []))))) (mPure .nx))) [.io bs, s1, .val (.int (bits : Nat)), .own (xs.map itemD), .val (.int a), .val (.int w), .val (.int (m : Nat)), .val .none, .own ((spotsL a w m).map PyData.int), s9, s10, .un, .un] = some (.ok .nx [.io b1, s1, .val (.int (bits : Nat)), .own (xs.map itemD), .val (.int a), .val (.int w), .val (.int (m : Nat)), .val .none, .own ((spotsL a w m).map PyData.int), .val (.str "torn"), .val (.str y), .un, .un]) := by
      generalize (spotsL a w m).map PyData.int = S at *
      generalize xs.map itemD = X at *
      simp [mSeq, mIf, mBol, mBin, mBinL, mBind, mLift, mPure, mPeek, mVar, ixD, iI, bolD, mAsg, mCall1, mCallN, intD, modD, iIc, cMod, mStore, mStoreO, mDone, gSet, mOwn, mPut, setD, mRet, mDrop, mStuck, mTru, truD, mOrT, mAndT, mNotT, mAnd, mOr, mNot, mIsi, isiT_eq, typD, lenD, mCons, mTup, mLst, mLstN, mVal, oOr, addD, subD, mulD, mulI, iIc, cMul, ltD, leD, gtD, geD, gTupD, gCons2, gsNil, mCallV, mCallB, mRs, tupleD, mRetF, mChain, mScr, mScrLen, mScrIx, mMut, appD, max2D, min2D, mRng1, mRng2, rngD1, rngD2, rngOk, mItems, itemsD, mAsgN, mParEE, mParEN, mUn, negD, mCallN1, listD, unsE, powD, cPow, divD, cDiv, mFor, mSl, mSlL, slD, mNoPart, mPart, intO, mSlN, mSlNL, slN, mRevN, revO, mParNC, andD, orD, xorD, shrD, shlD, cShr, mStepN, mStepNL, stepO, mCatN, mCatNL, catN, isD, Dd.isNon, e1, e2, fit]
    by_cases hs : y = "start"
    · subst hs
      have hc := cut_take ((spotsL a w m).map PyData.int) 1
      rw [← List.map_take] at hc
      have hc' : cutL ((spotsL a w m).map PyData.int) none (some 1) = ((spotsL a w m).take 1).map PyData.int := hc
      have hone : (spotsL a w m).take 1 = [a + w / 2 + ((0 : Nat) : Int) * w] := by
        obtain ⟨q, rfl⟩ : ∃ q, m = q + 1 := ⟨m - 1, by omega⟩
        unfold spotsL
        rw [List.range_succ_eq_map, List.map_cons]; rfl
      rw [hone] at hc'
      have hb0 := hbd 0 (by omega)
      obtain ⟨a', b2, e3, hb2, h3, h4⟩ := fin b1 [a + w / 2 + ((0 : Nat) : Int) * w] (a + w / 2 + ((0 : Nat) : Int) * w) (.str "torn") (.str "start") (.val (.list ([a + w / 2 + ((0 : Nat) : Int) * w].map PyData.int))) hb1 (by simp) (.inr rfl) rfl hb0.1 hb0.2
      refine ⟨⟨none, "start", a, a + w / 2 + ((0 : Nat) : Int) * w + 1, placesD [a + w / 2 + ((0 : Nat) : Int) * w]⟩, a', b2, .val (.list ([a + w / 2 + ((0 : Nat) : Int) * w].map PyData.int)), .val (.str "torn"), .val (.str "start"), ?_, hb2, ⟨fun v h => (by cases h), .inr (.inl rfl), ⟨a0, by show a < 10000000; omega⟩, ⟨by show 0 ≤ a + w / 2 + ((0 : Nat) : Int) * w + 1; omega, by show a + w / 2 + ((0 : Nat) : Int) * w + 1 < 10000000; omega⟩, [a + w / 2 + ((0 : Nat) : Int) * w], rfl, by simp, fun i hi => by rw [List.mem_singleton.mp hi]; omega⟩, h3, h4⟩
      refine (seq_nx st1).trans ((seq2 st2).trans ((seq_nx (ρ' := [.io b1, s1, .val (.int (bits : Nat)), .own (xs.map itemD), .val (.int a), .val (.int w), .val (.int (m : Nat)), .val .none, .val (.list ([a + w / 2 + ((0 : Nat) : Int) * w].map PyData.int)), .val (.str "torn"), .val (.str "start"), .un, .un]) ?_).trans ?_))
      · have hq : eqD (.str "start") (.str "start") = some (.bool true) := eq_str _
        generalize [a + w / 2 + ((0 : Nat) : Int) * w].map PyData.int = O at *
        generalize (spotsL a w m).map PyData.int = S at *
        generalize xs.map itemD = X at *
        simp [mSeq, mIf, mBol, mBin, mBinL, mBind, mLift, mPure, mPeek, mVar, ixD, iI, bolD, mAsg, mCall1, mCallN, intD, modD, iIc, cMod, mStore, mStoreO, mDone, gSet, mOwn, mPut, setD, mRet, mDrop, mStuck, mTru, truD, mOrT, mAndT, mNotT, mAnd, mOr, mNot, mIsi, isiT_eq, typD, lenD, mCons, mTup, mLst, mLstN, mVal, oOr, addD, subD, mulD, mulI, iIc, cMul, ltD, leD, gtD, geD, gTupD, gCons2, gsNil, mCallV, mCallB, mRs, tupleD, mRetF, mChain, mScr, mScrLen, mScrIx, mMut, appD, max2D, min2D, mRng1, mRng2, rngD1, rngD2, rngOk, mItems, itemsD, mAsgN, mParEE, mParEN, mUn, negD, mCallN1, listD, unsE, powD, cPow, divD, cDiv, mFor, mSl, mSlL, slD, mNoPart, mPart, intO, mSlN, mSlNL, slN, mRevN, revO, mParNC, andD, orD, xorD, shrD, shlD, cShr, mStepN, mStepNL, stepO, mCatN, mCatNL, catN, hq, mSlL, mPart, mNoPart, slD, intO, hc']
      · rw [List.map_append, List.map_singleton]
        exact e3
    · obtain ⟨a', b2, e3, hb2, h3, h4⟩ := fin b1 (spotsL a w m) _ (.str "torn") (.str y) (.own ((spotsL a w m).map PyData.int)) hb1 (by omega) (.inl rfl) hla hlb.1 hlb.2
      refine ⟨⟨none, y, a, a + w / 2 + ((m - 1 : Nat) : Int) * w + 1, placesD (spotsL a w m)⟩, a', b2, .val (.list ((spotsL a w m).map PyData.int)), .val (.str "torn"), .val (.str y), ?_, hb2, ⟨fun v h => (by cases h), by rcases hy with rfl | rfl | rfl; exact .inl rfl; exact absurd rfl hs; exact .inr (.inr rfl), ⟨a0, by show a < 10000000; omega⟩, ⟨by show 0 ≤ a + w / 2 + ((m - 1 : Nat) : Int) * w + 1; omega, by show a + w / 2 + ((m - 1 : Nat) : Int) * w + 1 < 10000000; omega⟩, spotsL a w m, rfl, by omega, hmem⟩, h3, h4⟩
      refine (seq_nx st1).trans ((seq2 st2).trans ((seq_nx (ρ' := [.io b1, s1, .val (.int (bits : Nat)), .own (xs.map itemD), .val (.int a), .val (.int w), .val (.int (m : Nat)), .val .none, .own ((spotsL a w m).map PyData.int), .val (.str "torn"), .val (.str y), .un, .un]) ?_).trans ?_))
      · have hq : eqD (.str y) (.str "start") = some (.bool false) := by
          rcases hy with rfl | rfl | rfl
          · exact eqF (by decide +kernel)
          · exact absurd rfl hs
          · exact eqF (by decide +kernel)
        generalize (spotsL a w m).map PyData.int = S at *
        generalize xs.map itemD = X at *
        simp [mSeq, mIf, mBol, mBin, mBinL, mBind, mLift, mPure, mPeek, mVar, ixD, iI, bolD, mAsg, mCall1, mCallN, intD, modD, iIc, cMod, mStore, mStoreO, mDone, gSet, mOwn, mPut, setD, mRet, mDrop, mStuck, mTru, truD, mOrT, mAndT, mNotT, mAnd, mOr, mNot, mIsi, isiT_eq, typD, lenD, mCons, mTup, mLst, mLstN, mVal, oOr, addD, subD, mulD, mulI, iIc, cMul, ltD, leD, gtD, geD, gTupD, gCons2, gsNil, mCallV, mCallB, mRs, tupleD, mRetF, mChain, mScr, mScrLen, mScrIx, mMut, appD, max2D, min2D, mRng1, mRng2, rngD1, rngD2, rngOk, mItems, itemsD, mAsgN, mParEE, mParEN, mUn, negD, mCallN1, listD, unsE, powD, cPow, divD, cDiv, mFor, mSl, mSlL, slD, mNoPart, mPart, intO, mSlN, mSlNL, slN, mRevN, revO, mParNC, andD, orD, xorD, shrD, shlD, cShr, mStepN, mStepNL, stepO, mCatN, mCatNL, catN, hq]
      · rw [List.map_append, List.map_singleton]
        exact e3
  · -- a word
    obtain ⟨a', b2, e3, hb2, h3, h4⟩ := fin bs (spotsL a w m) _ (.str "word") (.int n) (.own ((spotsL a w m).map PyData.int)) hb (by omega) (.inl rfl) hla hlb.1 hlb.2
    refine ⟨⟨some n, "stop", a, a + w / 2 + ((m - 1 : Nat) : Int) * w + 1, placesD (spotsL a w m)⟩, a', b2, .val (.list ((spotsL a w m).map PyData.int)), .val (.str "word"), .val (.int n), ?_, hb2, ⟨fun v h => by cases h; exact ⟨n0, n1⟩, .inl rfl, ⟨a0, by show a < 10000000; omega⟩, ⟨by show 0 ≤ a + w / 2 + ((m - 1 : Nat) : Int) * w + 1; omega, by show a + w / 2 + ((m - 1 : Nat) : Int) * w + 1 < 10000000; omega⟩, spotsL a w m, rfl, by omega, hmem⟩, h3, h4⟩
    have st2 : (mSeq (mParEE 9 10 (mPure (.str "word")) (mVar 7)) (mIf (mBol (mBinL isD 7 (mPure .none))) (mParEE 9 10 (mPure (.str "torn")) (mBin ixD (mLst (mCons (mPure (.str "stop")) (mCons (mPure (.str "start")) (mCons (mPure (.str "check")) (mPure []))))) (mCallB 0 2 fn__law_take (mCons (mBinL subD 6 (mPeek 2)) (mPure []))))) (mPure .nx))) [.io bs, s1, .val (.int (bits : Nat)), .own (xs.map itemD), .val (.int a), .val (.int w), .val (.int (m : Nat)), .val (.int n), .own ((spotsL a w m).map PyData.int), s9, s10, .un, .un] = some (.ok .nx [.io bs, s1, .val (.int (bits : Nat)), .own (xs.map itemD), .val (.int a), .val (.int w), .val (.int (m : Nat)), .val (.int n), .own ((spotsL a w m).map PyData.int), .val (.str "word"), .val (.int n), .un, .un]) := by
      generalize (spotsL a w m).map PyData.int = S at *
      generalize xs.map itemD = X at *
      simp [mSeq, mIf, mBol, mBin, mBinL, mBind, mLift, mPure, mPeek, mVar, ixD, iI, bolD, mAsg, mCall1, mCallN, intD, modD, iIc, cMod, mStore, mStoreO, mDone, gSet, mOwn, mPut, setD, mRet, mDrop, mStuck, mTru, truD, mOrT, mAndT, mNotT, mAnd, mOr, mNot, mIsi, isiT_eq, typD, lenD, mCons, mTup, mLst, mLstN, mVal, oOr, addD, subD, mulD, mulI, iIc, cMul, ltD, leD, gtD, geD, gTupD, gCons2, gsNil, mCallV, mCallB, mRs, tupleD, mRetF, mChain, mScr, mScrLen, mScrIx, mMut, appD, max2D, min2D, mRng1, mRng2, rngD1, rngD2, rngOk, mItems, itemsD, mAsgN, mParEE, mParEN, mUn, negD, mCallN1, listD, unsE, powD, cPow, divD, cDiv, mFor, mSl, mSlL, slD, mNoPart, mPart, intO, mSlN, mSlNL, slN, mRevN, revO, mParNC, andD, orD, xorD, shrD, shlD, cShr, mStepN, mStepNL, stepO, mCatN, mCatNL, catN, isD, Dd.isNon]
    refine (seq_nx st1).trans ((seq2 st2).trans ((seq_nx (ρ' := [.io bs, s1, .val (.int (bits : Nat)), .own (xs.map itemD), .val (.int a), .val (.int w), .val (.int (m : Nat)), .val (.int n), .own ((spotsL a w m).map PyData.int), .val (.str "word"), .val (.int n), .un, .un]) ?_).trans ?_))
    · have hq : eqD (.int n) (.str "start") = some (.bool false) := by
        have e : PyData.eqv (.int n) (.str "start") = false := by simp [PyData.eqv]
        simp [eqD, SeqAt.shaped, PyData.canLay0, PyData.depth, strOk_of, e]
      generalize (spotsL a w m).map PyData.int = S at *
      generalize xs.map itemD = X at *
      simp [mSeq, mIf, mBol, mBin, mBinL, mBind, mLift, mPure, mPeek, mVar, ixD, iI, bolD, mAsg, mCall1, mCallN, intD, modD, iIc, cMod, mStore, mStoreO, mDone, gSet, mOwn, mPut, setD, mRet, mDrop, mStuck, mTru, truD, mOrT, mAndT, mNotT, mAnd, mOr, mNot, mIsi, isiT_eq, typD, lenD, mCons, mTup, mLst, mLstN, mVal, oOr, addD, subD, mulD, mulI, iIc, cMul, ltD, leD, gtD, geD, gTupD, gCons2, gsNil, mCallV, mCallB, mRs, tupleD, mRetF, mChain, mScr, mScrLen, mScrIx, mMut, appD, max2D, min2D, mRng1, mRng2, rngD1, rngD2, rngOk, mItems, itemsD, mAsgN, mParEE, mParEN, mUn, negD, mCallN1, listD, unsE, powD, cPow, divD, cDiv, mFor, mSl, mSlL, slD, mNoPart, mPart, intO, mSlN, mSlNL, slN, mRevN, revO, mParNC, andD, orD, xorD, shrD, shlD, cShr, mStepN, mStepNL, stepO, mCatN, mCatNL, catN, hq]
    · rw [List.map_append, List.map_singleton]
      exact e3

theorem frames_ok {bs : List D} {ds : List D} {bits : Nat} (hb : Bx bs) (hd : ∀ d ∈ ds, WD 100000 d) (hl : ds.length ≤ 100) (hbits : bits ≤ 16) :
    ∃ (xs : List Im) (bs' : List D), fn__law_frames bs [.list ds, .int (bits : Nat)] = some (.ok (.list (xs.map itemD)), bs') ∧ Bx bs' ∧ (∀ x ∈ xs, Gi x) ∧ xs.length = ds.length := by
  obtain ⟨r, b1, e1, r0, r1, hb1⟩ := take_ok (m := 9) hb (by omega) (by omega)
  obtain ⟨q, b2, e2, q0, q1, hb2⟩ := take_ok (m := 4) hb1 (by omega) (by omega)
  obtain ⟨w, e3, hw⟩ := pick4 (a := 2) (b := 3) (c := 10) (d := 1000) q0 q1
  have hw' : 0 ≤ w ∧ w ≤ 1000 := by rcases hw with rfl | rfl | rfl | rfl <;> omega
  obtain ⟨t, b3, e4, t0, t1, hb3⟩ := take_ok (m := 2) hb2 (by omega) (by omega)
  obtain ⟨m, hm⟩ : ∃ m : Nat, (bits : Int) + 2 + t = (m : Int) := ⟨((bits : Int) + 2 + t).toNat, by omega⟩
  have hm2 : m = bits + 2 ∨ m = bits + 3 := by omega
  obtain ⟨ρ', h2, b4, xs, a, s7, s8, s9, s10, rfl, hb4, hx, hxl, ha0, ha1⟩ := forL_ix (g := mStore 7) (body := L__law_frames_0) (fun i ρ => ∃ (bs : List D) (xs : List Im) (a : Int) (s7 s8 s9 s10 : Sl), ρ = [.io bs, .val (.list ds), .val (.int (bits : Nat)), .own (xs.map itemD), .val (.int a), .val (.int w), .val (.int (m : Nat)), s7, s8, s9, s10, .un, .un] ∧ Bx bs ∧ (∀ x ∈ xs, Gi x) ∧ xs.length = i ∧ 0 ≤ a ∧ a ≤ 10 + 20600 * (i : Int)) ds 0 [.io b3, .val (.list ds), .val (.int (bits : Nat)), .own [], .val (.int (1 + r)), .val (.int w), .val (.int (m : Nat)), .un, .un, .un, .un, .un, .un] ⟨b3, [], 1 + r, .un, .un, .un, .un, rfl, hb3, fun x h => (by cases h), rfl, by omega, by omega⟩ (by
    rintro j d ρ hj ⟨bs, xs, a, s7, s8, s9, s10, rfl, hb, hx, hxl, ha0, ha1⟩
    rw [Nat.zero_add] at hxl ha1 ⊢
    have hjl := (List.getElem?_eq_some_iff.mp hj).1
    obtain ⟨x, a', bs', t8, t9, t10, q, hb', hgx, h0, h1⟩ := frame_turn (d := d) (w := w) (bits := bits) (m := m) (s1 := .val (.list ds)) (s8 := s8) (s9 := s9) (s10 := s10) hb hx (by omega) (hd d (List.mem_of_getElem? hj)) ha0 (by omega) hw'.1 hw'.2 hm2 hbits
    refine ⟨_, _, by simp [mStore], Or.inl q, bs', xs ++ [x], a', _, t8, t9, t10, rfl, hb', fun z hz => ?_, by rw [List.length_append, hxl]; rfl, h0, by omega⟩
    rcases List.mem_append.mp hz with hz | hz
    · exact hx z hz
    · rw [List.mem_singleton.mp hz]; exact hgx)
  rw [Nat.zero_add] at hxl
  have hR : R__law_frames_0 [.io b3, .val (.list ds), .val (.int (bits : Nat)), .own [], .val (.int (1 + r)), .val (.int w), .val (.int (m : Nat)), .un, .un, .un, .un, .un, .un] = some (.ok .nx [.io b4, .val (.list ds), .val (.int (bits : Nat)), .own (xs.map itemD), .val (.int a), .val (.int w), .val (.int (m : Nat)), s7, s8, s9, s10, .un, .un]) := by
    have hi : mItems (mVar 1) [.io b3, .val (.list ds), .val (.int (bits : Nat)), .own [], .val (.int (1 + r)), .val (.int w), .val (.int (m : Nat)), .un, .un, .un, .un, .un, .un] = some (.ok ds [.io b3, .val (.list ds), .val (.int (bits : Nat)), .own [], .val (.int (1 + r)), .val (.int w), .val (.int (m : Nat)), .un, .un, .un, .un, .un, .un]) := by
      simp [mSeq, mIf, mBol, mBin, mBinL, mBind, mLift, mPure, mPeek, mVar, ixD, iI, bolD, mAsg, mCall1, mCallN, intD, modD, iIc, cMod, mStore, mStoreO, mDone, gSet, mOwn, mPut, setD, mRet, mDrop, mStuck, mTru, truD, mOrT, mAndT, mNotT, mAnd, mOr, mNot, mIsi, isiT_eq, typD, lenD, mCons, mTup, mLst, mLstN, mVal, oOr, addD, subD, mulD, mulI, iIc, cMul, ltD, leD, gtD, geD, gTupD, gCons2, gsNil, mCallV, mCallB, mRs, tupleD, mRetF, mChain, mScr, mScrLen, mScrIx, mMut, appD, max2D, min2D, mRng1, mRng2, rngD1, rngD2, rngOk, mItems, itemsD, mAsgN, mParEE, mParEN, mUn, negD, mCallN1, listD, unsE, powD, cPow, divD, cDiv, mFor, mSl, mSlL, slD, mNoPart, mPart, intO, mSlN, mSlNL, slN, mRevN, revO, mParNC, andD, orD, xorD, shrD, shlD, cShr, mStepN, mStepNL, stepO, mCatN, mCatNL, catN]
    unfold R__law_frames_0 mFor
    rw [bind_is hi]
    exact h2
  refine ⟨xs, b4, ?_, hb4, hx, hxl⟩
  clear h2
  generalize xs.map itemD = X at *
  simp [fn__law_frames, runB, m__law_frames, env0B, mSeq, mIf, mBol, mBin, mBinL, mBind, mLift, mPure, mPeek, mVar, ixD, iI, bolD, mAsg, mCall1, mCallN, intD, modD, iIc, cMod, mStore, mStoreO, mDone, gSet, mOwn, mPut, setD, mRet, mDrop, mStuck, mTru, truD, mOrT, mAndT, mNotT, mAnd, mOr, mNot, mIsi, isiT_eq, typD, lenD, mCons, mTup, mLst, mLstN, mVal, oOr, addD, subD, mulD, mulI, iIc, cMul, ltD, leD, gtD, geD, gTupD, gCons2, gsNil, mCallV, mCallB, mRs, tupleD, mRetF, mChain, mScr, mScrLen, mScrIx, mMut, appD, max2D, min2D, mRng1, mRng2, rngD1, rngD2, rngOk, mItems, itemsD, mAsgN, mParEE, mParEN, mUn, negD, mCallN1, listD, unsE, powD, cPow, divD, cDiv, mFor, mSl, mSlL, slD, mNoPart, mPart, intO, mSlN, mSlNL, slN, mRevN, revO, mParNC, andD, orD, xorD, shrD, shlD, cShr, mStepN, mStepNL, stepO, mCatN, mCatNL, catN, mParL, e1, e2, e3, e4, hm, hR, fit]
/-! ### a loop that may be left -/
theorem forL_bk {g : D → M Unit} {body : M Fl} (P Q : En → Prop) : ∀ (ds : List D) (ρ : En), P ρ → (∀ ρ, P ρ → Q ρ) →
    (∀ d ρ, d ∈ ds → P ρ → ∃ ρ1 ρ2, g d ρ = some (.ok () ρ1) ∧ ((body ρ1 = some (.ok .nx ρ2) ∧ P ρ2) ∨ (body ρ1 = some (.ok .bk ρ2) ∧ Q ρ2))) →
    ∃ ρ', mForL g body ds ρ = some (.ok .nx ρ') ∧ Q ρ'
  | [], ρ, p, pq, _ => ⟨ρ, rfl, pq ρ p⟩
  | d :: ds, ρ, p, pq, h => by
    obtain ⟨ρ1, ρ2, e1, e2⟩ := h d ρ List.mem_cons_self p
    rcases e2 with ⟨e2, p2⟩ | ⟨e2, q2⟩
    · obtain ⟨ρ', e3, q3⟩ := forL_bk P Q ds ρ2 p2 pq fun d' ρ' hd p' => h d' ρ' (List.mem_cons_of_mem _ hd) p'
      refine ⟨ρ', ?_, q3⟩
      unfold mForL
      rw [bind_is e1, bind_is e2]
      exact e3
    · refine ⟨ρ2, ?_, q2⟩
      unfold mForL
      rw [bind_is e1, bind_is e2]; rfl
/-! ### the stream of numbers -/
def AllW (ds : List D) : Prop := ∀ d ∈ ds, WD 1024 d
theorem wd_int {n : Int} (h0 : 0 ≤ n) (h1 : n < 1024) : WD 1024 (.int n) := .inr ⟨n, rfl, h0, h1⟩
theorem allw_app {a b : List D} (ha : AllW a) (hb : AllW b) : AllW (a ++ b) := fun d hd => (List.mem_append.mp hd).elim (ha d) (hb d)
theorem allw_one {d : D} (h : WD 1024 d) : AllW [d] := fun e he => by rw [List.mem_singleton.mp he]; exact h
theorem allw_take {a : List D} (n : Nat) (ha : AllW a) : AllW (a.take n) := fun d hd => ha d (List.mem_of_mem_take hd)
theorem allw_drop {a : List D} (n : Nat) (ha : AllW a) : AllW (a.drop n) := fun d hd => ha d (List.mem_of_mem_drop hd)
theorem allw_rep {d : D} (n : Nat) (h : WD 1024 d) : AllW (List.replicate n d) := fun e he => by rw [(List.mem_replicate.mp he).2]; exact h
theorem allw_by {ns : List Int} (h : ∀ n ∈ ns, By n) : AllW (ns.map PyData.int) := fun d hd => by
  obtain ⟨n, hn, rfl⟩ := List.mem_map.mp hd
  exact wd_int (h n hn).1 (by have := (h n hn).2; omega)
theorem allw_set {a : List D} {d : D} (i : Nat) (ha : AllW a) (h : WD 1024 d) : AllW (a.set i d) := fun e he => by
  rcases List.mem_or_eq_of_mem_set he with h' | h'
  · exact ha e h'
  · rw [h']; exact h
theorem setD_ok (L : List D) {i : Int} (d : D) (h0 : 0 ≤ i) (h1 : i < L.length) : setD L (.int i) d = some (L.set i.toNat d) := by
  have e : ixN L.length i = some i.toNat := by
    unfold ixN
    rw [if_pos h0, if_pos h1]
  show (ixN L.length i).map (fun j => L.set j d) = _
  rw [e]; rfl
theorem if_at {ρ : En} {f c : Int} {B : M Fl} (h : ρ[10]? = some (.val (.int f))) : mIf (mBol (mBinL eqD 10 (mPure (.int c)))) B (mPure .nx) ρ = if f = c then B ρ else some (.ok .nx ρ) := by
  have hc : mBol (mBinL eqD 10 (mPure (.int c))) ρ = some (.ok (decide (f = c)) ρ) := by
    simp [mBol, mBinL, mPeek, mBind, mPure, mLift, h, eq_int, bolD]
  unfold mIf
  rw [bind_is hc]
  by_cases z : f = c
  · rw [if_pos z, if_pos (decide_eq_true z)]
  · rw [if_neg z, if_neg (by simp [z])]; rfl
theorem repL_ok (d : D) {n : Int} (h0 : 0 ≤ n) (h1 : n ≤ 1000) : repLD (.list [d]) (.int n) = some (List.replicate n.toNat d) := by
  unfold repLD
  simp [fit]
  omega

theorem pick3i {a b c r : Int} (h0 : 0 ≤ r) (h1 : r < 3) : ∃ m, atI [PyData.int a, .int b, .int c] r = some (.int m) ∧ (m = a ∨ m = b ∨ m = c) := pick3 h0 h1
theorem form0 {b : List D} {mark bound f a : Int} {K : D} {L : List D} {s4 s5 s6 s7 s8 s12 s13 : Sl} (hb : Bx b) (hm0 : 0 ≤ mark) (hm1 : mark < 256) :
    ∃ (L' b' : List D) (s12' : Sl), (mSeq (mAsg (mBin ixD (mLst (mCons (mBin addD (mPure (.int 256)) (mPeek 1)) (mCons (mBin addD (mPure (.int 512)) (mPeek 1)) (mCons (mBin addD (mPure (.int 256)) (mCallB 0 2 fn__law_take (mCons (mPure (.int 768)) (mPure [])))) (mPure []))))) (mCallB 0 2 fn__law_take (mCons (mPure (.int 3)) (mPure [])))) (mStore 12))
  (mAsgN (mCatN (mCallB 0 2 fn__law_numbers (mCons (mPure (.int 3)) (mPure []))) (mVal (mRepN (mCons (mVar 12) (mPure [])) (mCallB 0 2 fn__law_take (mCons (mPure (.int 2)) (mPure [])))))) 9)) [.io b, .val (.int mark), .val (.int bound), .val K, s4, s5, s6, s7, s8, .own L, .val (.int f), .val (.int a), s12, s13] = some (.ok .nx [.io b', .val (.int mark), .val (.int bound), .val K, s4, s5, s6, s7, s8, .own L', .val (.int f), .val (.int a), s12', s13]) ∧ Bx b' ∧ AllW L' ∧ L'.length ≤ 80 := by
  obtain ⟨x, b1, e1, x0, x1, hb1⟩ := take_ok (m := 768) hb (by omega) (by omega)
  obtain ⟨y, b2, e2, y0, y1, hb2⟩ := take_ok (m := 3) hb1 (by omega) (by omega)
  obtain ⟨v, e3, hv⟩ := pick3i (a := 256 + mark) (b := 512 + mark) (c := 256 + x) y0 y1
  have hv' : 0 ≤ v ∧ v < 1024 := by rcases hv with rfl | rfl | rfl <;> omega
  obtain ⟨ns, b3, e4, hb3, hby, hnl⟩ := numbers_ok (m := 3) hb2 (by omega) (by omega)
  obtain ⟨t, b4, e5, t0, t1, hb4⟩ := take_ok (m := 2) hb3 (by omega) (by omega)
  have e6 := repL_ok (.int v) t0 (by omega)
  refine ⟨ns.map PyData.int ++ List.replicate t.toNat (.int v), b4, .val (.int v), ?_, hb4, allw_app (allw_by hby) (allw_rep _ (wd_int hv'.1 hv'.2)), by rw [List.length_append, List.length_map, List.length_replicate]; omega⟩
  have fl : (ns.map PyData.int).length + (List.replicate t.toNat (PyData.int v)).length ≤ 16000000 := by rw [List.length_map, List.length_replicate]; omega
  generalize List.replicate t.toNat (PyData.int v) = RP at *
  generalize ns.map PyData.int = N at *
  simp [mSeq, mIf, mBol, mBin, mBinL, mBind, mLift, mPure, mPeek, mVar, ixD, iI, bolD, mAsg, mCall1, mCallN, intD, modD, iIc, cMod, mStore, mStoreO, mDone, gSet, mOwn, mPut, setD, mRet, mDrop, mStuck, mTru, truD, mOrT, mAndT, mNotT, mAnd, mOr, mNot, mIsi, isiT_eq, typD, lenD, mCons, mTup, mLst, mLstN, mVal, oOr, addD, subD, mulD, mulI, iIc, cMul, ltD, leD, gtD, geD, gTupD, gCons2, gsNil, mCallV, mCallB, mRs, tupleD, mRetF, mChain, mScr, mScrLen, mScrIx, mMut, appD, max2D, min2D, mRng1, mRng2, rngD1, rngD2, rngOk, mItems, itemsD, mAsgN, mParEE, mParEN, mUn, negD, mCallN1, listD, unsE, powD, cPow, divD, cDiv, mFor, mSl, mSlL, slD, mNoPart, mPart, intO, mSlN, mSlNL, slN, mRevN, revO, mParNC, andD, orD, xorD, shrD, shlD, cShr, mStepN, mStepNL, stepO, mCatN, mCatNL, catN, e1, e2, e3, e4, e5, mRepN, e6, fit, fl]
theorem form1 {b : List D} {mark bound f a : Int} {K : D} {L : List D} {s4 s5 s6 s7 s8 s12 s13 : Sl} (hb : Bx b) (hL : AllW L) (h3 : 3 ≤ L.length) (hl : L.length ≤ 45) (a0 : 0 ≤ a) (a1 : a < L.length) :
    ∃ (L' b' : List D) (s12' : Sl), (mAsg (mTup (mCons (mPure .none) (mCons (mPure .none) (mPure [])))) (gTupD 2 (gCons2 (gSet 9 (mVar 11)) (gCons2 (gSet 9 (mCallB 0 2 fn__law_take (mCons (mCall1 lenD (mPeek 9)) (mPure [])))) gsNil)))) [.io b, .val (.int mark), .val (.int bound), .val K, s4, s5, s6, s7, s8, .own L, .val (.int f), .val (.int a), s12, s13] = some (.ok .nx [.io b', .val (.int mark), .val (.int bound), .val K, s4, s5, s6, s7, s8, .own L', .val (.int f), .val (.int a), s12', s13]) ∧ Bx b' ∧ AllW L' ∧ L'.length ≤ 80 := by
  have g1 := setD_ok L .none a0 a1
  have hl2 : (L.set a.toNat PyData.none).length = L.length := List.length_set
  obtain ⟨x, b1, e1, x0, x1, hb1⟩ := take_ok (m := (L.length : Int)) hb (by omega) (by omega)
  have g2 := setD_ok (L.set a.toNat PyData.none) .none x0 (by rw [hl2]; exact x1)
  refine ⟨(L.set a.toNat PyData.none).set x.toNat .none, b1, s12, ?_, hb1, allw_set _ (allw_set _ hL (.inl rfl)) (.inl rfl), by rw [List.length_set, hl2]; omega⟩
  generalize (L.set a.toNat PyData.none).set x.toNat PyData.none = L2 at *
  generalize L.set a.toNat PyData.none = L1 at *
  simp [mSeq, mIf, mBol, mBin, mBinL, mBind, mLift, mPure, mPeek, mVar, ixD, iI, bolD, mAsg, mCall1, mCallN, intD, modD, iIc, cMod, mStore, mStoreO, mDone, gSet, mOwn, mPut, mRet, mDrop, mStuck, mTru, truD, mOrT, mAndT, mNotT, mAnd, mOr, mNot, mIsi, isiT_eq, typD, lenD, mCons, mTup, mLst, mLstN, mVal, oOr, addD, subD, mulD, mulI, iIc, cMul, ltD, leD, gtD, geD, gTupD, gCons2, gsNil, mCallV, mCallB, mRs, tupleD, mRetF, mChain, mScr, mScrLen, mScrIx, mMut, appD, max2D, min2D, mRng1, mRng2, rngD1, rngD2, rngOk, mItems, itemsD, mAsgN, mParEE, mParEN, mUn, negD, mCallN1, listD, unsE, powD, cPow, divD, cDiv, mFor, mSl, mSlL, slD, mNoPart, mPart, intO, mSlN, mSlNL, slN, mRevN, revO, mParNC, andD, orD, xorD, shrD, shlD, cShr, mStepN, mStepNL, stepO, mCatN, mCatNL, catN, gSet, mOwn, mPut, g1, g2, hl2, e1, fit]
theorem form6 {b : List D} {mark bound f a : Int} {K : D} {L : List D} {s4 s5 s6 s7 s8 s12 s13 : Sl} (hb : Bx b) (hL : AllW L) (hl : L.length ≤ 45) (a0 : 0 ≤ a) (a1 : a < L.length) :
    ∃ (L' b' : List D) (s12' : Sl), (mAsgN (mCatN (mBin addD (mSlL 9 mNoPart (mPart (mVar 11))) (mVal (mRepN (mCons (mPure .none) (mPure [])) (mBin addD (mPure (.int 1)) (mCallB 0 2 fn__law_take (mCons (mPure (.int 4)) (mPure []))))))) (mSlL 9 (mPart (mVar 11)) mNoPart)) 9) [.io b, .val (.int mark), .val (.int bound), .val K, s4, s5, s6, s7, s8, .own L, .val (.int f), .val (.int a), s12, s13] = some (.ok .nx [.io b', .val (.int mark), .val (.int bound), .val K, s4, s5, s6, s7, s8, .own L', .val (.int f), .val (.int a), s12', s13]) ∧ Bx b' ∧ AllW L' ∧ L'.length ≤ 80 := by
  obtain ⟨x, b1, e1, x0, x1, hb1⟩ := take_ok (m := 4) hb (by omega) (by omega)
  obtain ⟨q, rfl⟩ : ∃ q : Nat, a = (q : Int) := ⟨a.toNat, by omega⟩
  have c1 := cut_take L q
  have c2 := cut_drop L q
  have e6 := repL_ok (PyData.none) (n := 1 + x) (by omega) (by omega)
  have l1 : (L.take q).length ≤ 45 := by rw [List.length_take]; omega
  have l2 : (L.drop q).length ≤ 45 := by rw [List.length_drop]; omega
  have l4 : (L.take q).length + (L.drop q).length = L.length := by rw [List.length_take, List.length_drop]; omega
  have l3 : (List.replicate (1 + x).toNat PyData.none).length ≤ 5 := by rw [List.length_replicate]; omega
  have w1 := allw_take q hL
  have w2 := allw_drop q hL
  have w3 := allw_rep (d := .none) (1 + x).toNat (.inl rfl)
  generalize List.replicate (1 + x).toNat PyData.none = RP at *
  generalize L.take q = P at *
  generalize L.drop q = R at *
  refine ⟨P ++ RP ++ R, b1, s12, ?_, hb1, allw_app (allw_app w1 w3) w2, by rw [List.length_append, List.length_append]; omega⟩
  have f1 : P.length + RP.length ≤ 16000000 := by omega
  have f2 : P.length + RP.length + R.length ≤ 16000000 := by omega
  have f3 : P.length + (RP.length + R.length) ≤ 16000000 := by omega
  simp [mSeq, mIf, mBol, mBin, mBinL, mBind, mLift, mPure, mPeek, mVar, ixD, iI, bolD, mAsg, mCall1, mCallN, intD, modD, iIc, cMod, mStore, mStoreO, mDone, gSet, mOwn, mPut, setD, mRet, mDrop, mStuck, mTru, truD, mOrT, mAndT, mNotT, mAnd, mOr, mNot, mIsi, isiT_eq, typD, lenD, mCons, mTup, mLst, mLstN, mVal, oOr, addD, subD, mulD, mulI, iIc, cMul, ltD, leD, gtD, geD, gTupD, gCons2, gsNil, mCallV, mCallB, mRs, tupleD, mRetF, mChain, mScr, mScrLen, mScrIx, mMut, appD, max2D, min2D, mRng1, mRng2, rngD1, rngD2, rngOk, mItems, itemsD, mAsgN, mParEE, mParEN, mUn, negD, mCallN1, listD, unsE, powD, cPow, divD, cDiv, mFor, mSl, mSlL, slD, mNoPart, mPart, intO, mSlN, mSlNL, slN, mRevN, revO, mParNC, andD, orD, xorD, shrD, shlD, cShr, mStepN, mStepNL, stepO, mCatN, mCatNL, catN, mSlL, mPart, mNoPart, slD, intO, c1, c2, e1, mRepN, e6, fit, catL, f1, f2, f3]
theorem form2 {b : List D} {mark bound f a : Int} {K : D} {L : List D} {s4 s5 s6 s7 s8 s12 s13 : Sl} (hb : Bx b) (hL : AllW L) (h3 : 3 ≤ L.length) (hl : L.length ≤ 45) (a0 : 0 ≤ a) (a1 : a < L.length) (hm0 : 0 ≤ mark) (hm1 : mark < 256) (hn0 : 0 ≤ bound) :
    ∃ (L' b' : List D) (s12' : Sl), (mAsg (mBin ixD (mLst (mCons (mVar 1) (mCons (mCallN min2D (mCons (mPure (.int 255)) (mCons (mBinL addD 2 (mPure (.int 1))) (mPure [])))) (mCons (mCallB 0 2 fn__law_take (mCons (mPure (.int 256)) (mPure []))) (mPure []))))) (mCallB 0 2 fn__law_take (mCons (mPure (.int 3)) (mPure [])))) (gSet 9 (mBin ixD (mLst (mCons (mVar 11) (mCons (mPure (.int 1)) (mPure [])))) (mCallB 0 2 fn__law_take (mCons (mPure (.int 2)) (mPure [])))))) [.io b, .val (.int mark), .val (.int bound), .val K, s4, s5, s6, s7, s8, .own L, .val (.int f), .val (.int a), s12, s13] = some (.ok .nx [.io b', .val (.int mark), .val (.int bound), .val K, s4, s5, s6, s7, s8, .own L', .val (.int f), .val (.int a), s12', s13]) ∧ Bx b' ∧ AllW L' ∧ L'.length ≤ 80 := by
  obtain ⟨x, b1, e1, x0, x1, hb1⟩ := take_ok (m := 256) hb (by omega) (by omega)
  obtain ⟨y, b2, e2, y0, y1, hb2⟩ := take_ok (m := 3) hb1 (by omega) (by omega)
  obtain ⟨mn, hmn, hmn0, hmn1⟩ : ∃ mn : Int, min2D [.int 255, .int (bound + 1)] = some (.int mn) ∧ 0 ≤ mn ∧ mn < 256 := ⟨_, rfl, by split <;> omega, by split <;> omega⟩
  obtain ⟨v, e3, hv⟩ := pick3i (a := mark) (b := mn) (c := x) y0 y1
  have hv' : 0 ≤ v ∧ v < 1024 := by rcases hv with rfl | rfl | rfl <;> omega
  obtain ⟨t, b3, e4, t0, t1, hb3⟩ := take_ok (m := 2) hb2 (by omega) (by omega)
  obtain ⟨i, e5, hi⟩ : ∃ i : Int, atI [PyData.int a, .int 1] t = some (.int i) ∧ (i = a ∨ i = 1) := by
    rcases (show t = 0 ∨ t = 1 by omega) with rfl | rfl
    · exact ⟨_, rfl, .inl rfl⟩
    · exact ⟨_, rfl, .inr rfl⟩
  have g1 := setD_ok L (.int v) (i := i) (by rcases hi with rfl | rfl <;> omega) (by rcases hi with rfl | rfl <;> omega)
  refine ⟨L.set i.toNat (.int v), b3, s12, ?_, hb3, allw_set _ hL (wd_int hv'.1 hv'.2), by rw [List.length_set]; omega⟩
  generalize L.set i.toNat (PyData.int v) = L1 at *
  simp [mSeq, mIf, mBol, mBin, mBinL, mBind, mLift, mPure, mPeek, mVar, ixD, iI, bolD, mAsg, mCall1, mCallN, intD, modD, iIc, cMod, mStore, mStoreO, mDone, gSet, mOwn, mPut, mRet, mDrop, mStuck, mTru, truD, mOrT, mAndT, mNotT, mAnd, mOr, mNot, mIsi, isiT_eq, typD, lenD, mCons, mTup, mLst, mLstN, mVal, oOr, addD, subD, mulD, mulI, iIc, cMul, ltD, leD, gtD, geD, gTupD, gCons2, gsNil, mCallV, mCallB, mRs, tupleD, mRetF, mChain, mScr, mScrLen, mScrIx, mMut, appD, mRng1, mRng2, rngD1, rngD2, rngOk, mItems, itemsD, mAsgN, mParEE, mParEN, mUn, negD, mCallN1, listD, unsE, powD, cPow, divD, cDiv, mFor, mSl, mSlL, slD, mNoPart, mPart, intO, mSlN, mSlNL, slN, mRevN, revO, mParNC, andD, orD, xorD, shrD, shlD, cShr, mStepN, mStepNL, stepO, mCatN, mCatNL, catN, gSet, mOwn, mPut, e1, e2, hmn, e3, e4, e5, g1, fit]
theorem form3 {b : List D} {mark bound f a : Int} {K : D} {L : List D} {s4 s5 s6 s7 s8 s12 s13 : Sl} (hb : Bx b) (hL : AllW L) (hl : L.length ≤ 45) (a0 : 0 ≤ a) :
    ∃ (L' b' : List D) (s12' : Sl), (mAsgN (mSlNL 9 mNoPart (mPart (mVar 11))) 9) [.io b, .val (.int mark), .val (.int bound), .val K, s4, s5, s6, s7, s8, .own L, .val (.int f), .val (.int a), s12, s13] = some (.ok .nx [.io b', .val (.int mark), .val (.int bound), .val K, s4, s5, s6, s7, s8, .own L', .val (.int f), .val (.int a), s12', s13]) ∧ Bx b' ∧ AllW L' ∧ L'.length ≤ 80 := by
  obtain ⟨q, rfl⟩ : ∃ q : Nat, a = (q : Int) := ⟨a.toNat, by omega⟩
  have c1 := cut_take L q
  refine ⟨L.take q, b, s12, ?_, hb, allw_take q hL, by rw [List.length_take]; omega⟩
  simp [mSeq, mIf, mBol, mBin, mBinL, mBind, mLift, mPure, mPeek, mVar, ixD, iI, bolD, mAsg, mCall1, mCallN, intD, modD, iIc, cMod, mStore, mStoreO, mDone, gSet, mOwn, mPut, setD, mRet, mDrop, mStuck, mTru, truD, mOrT, mAndT, mNotT, mAnd, mOr, mNot, mIsi, isiT_eq, typD, lenD, mCons, mTup, mLst, mLstN, mVal, oOr, addD, subD, mulD, mulI, iIc, cMul, ltD, leD, gtD, geD, gTupD, gCons2, gsNil, mCallV, mCallB, mRs, tupleD, mRetF, mChain, mScr, mScrLen, mScrIx, mMut, appD, max2D, min2D, mRng1, mRng2, rngD1, rngD2, rngOk, mItems, itemsD, mAsgN, mParEE, mParEN, mUn, negD, mCallN1, listD, unsE, powD, cPow, divD, cDiv, mFor, mSl, mSlL, slD, mNoPart, mPart, intO, mSlN, mSlNL, slN, mRevN, revO, mParNC, andD, orD, xorD, shrD, shlD, cShr, mStepN, mStepNL, stepO, mCatN, mCatNL, catN, mSlNL, mPart, mNoPart, slN, intO, c1]
theorem form4 {b : List D} {mark bound f a : Int} {K : D} {L : List D} {s4 s5 s6 s7 s8 s12 s13 : Sl} (hb : Bx b) (hL : AllW L) (hl : L.length ≤ 45) (a0 : 0 ≤ a) (a1 : a < L.length) :
    ∃ (L' b' : List D) (s12' : Sl), (mAsgN (mCatN (mBin addD (mSlL 9 mNoPart (mPart (mVar 11))) (mLst (mCons (mCallB 0 2 fn__law_take (mCons (mPure (.int 256)) (mPure []))) (mPure [])))) (mSlL 9 (mPart (mVar 11)) mNoPart)) 9) [.io b, .val (.int mark), .val (.int bound), .val K, s4, s5, s6, s7, s8, .own L, .val (.int f), .val (.int a), s12, s13] = some (.ok .nx [.io b', .val (.int mark), .val (.int bound), .val K, s4, s5, s6, s7, s8, .own L', .val (.int f), .val (.int a), s12', s13]) ∧ Bx b' ∧ AllW L' ∧ L'.length ≤ 80 := by
  obtain ⟨x, b1, e1, x0, x1, hb1⟩ := take_ok (m := 256) hb (by omega) (by omega)
  obtain ⟨q, rfl⟩ : ∃ q : Nat, a = (q : Int) := ⟨a.toNat, by omega⟩
  have c1 := cut_take L q
  have c2 := cut_drop L q
  have l4 : (L.take q).length + (L.drop q).length = L.length := by rw [List.length_take, List.length_drop]; omega
  have w1 := allw_take q hL
  have w2 := allw_drop q hL
  generalize L.take q = P at *
  generalize L.drop q = R at *
  refine ⟨P ++ [.int x] ++ R, b1, s12, ?_, hb1, allw_app (allw_app w1 (allw_one (wd_int x0 (by omega)))) w2, by simp only [List.length_append, List.length_singleton]; omega⟩
  have f1 : P.length + 1 ≤ 16000000 := by omega
  have f2 : P.length + 1 + R.length ≤ 16000000 := by omega
  have f3 : P.length + (R.length + 1) ≤ 16000000 := by omega
  simp [mSeq, mIf, mBol, mBin, mBinL, mBind, mLift, mPure, mPeek, mVar, ixD, iI, bolD, mAsg, mCall1, mCallN, intD, modD, iIc, cMod, mStore, mStoreO, mDone, gSet, mOwn, mPut, setD, mRet, mDrop, mStuck, mTru, truD, mOrT, mAndT, mNotT, mAnd, mOr, mNot, mIsi, isiT_eq, typD, lenD, mCons, mTup, mLst, mLstN, mVal, oOr, addD, subD, mulD, mulI, iIc, cMul, ltD, leD, gtD, geD, gTupD, gCons2, gsNil, mCallV, mCallB, mRs, tupleD, mRetF, mChain, mScr, mScrLen, mScrIx, mMut, appD, max2D, min2D, mRng1, mRng2, rngD1, rngD2, rngOk, mItems, itemsD, mAsgN, mParEE, mParEN, mUn, negD, mCallN1, listD, unsE, powD, cPow, divD, cDiv, mFor, mSl, mSlL, slD, mNoPart, mPart, intO, mSlN, mSlNL, slN, mRevN, revO, mParNC, andD, orD, xorD, shrD, shlD, cShr, mStepN, mStepNL, stepO, mCatN, mCatNL, catN, mSlL, mPart, mNoPart, slD, intO, c1, c2, e1, fit, catL, f1, f2, f3]
theorem form5 {b : List D} {mark bound f a : Int} {K : D} {L : List D} {s4 s5 s6 s7 s8 s12 s13 : Sl} (hb : Bx b) (hL : AllW L) (hl : L.length ≤ 45) (hm0 : 0 ≤ mark) (hm1 : mark < 256) :
    ∃ (L' b' : List D) (s12' : Sl), (mAsgN (mCatN (mVal (mRepN (mCons (mVar 1) (mPure [])) (mBin addD (mPure (.int 1)) (mCallB 0 2 fn__law_take (mCons (mPure (.int 3)) (mPure [])))))) (mPeek 9)) 9) [.io b, .val (.int mark), .val (.int bound), .val K, s4, s5, s6, s7, s8, .own L, .val (.int f), .val (.int a), s12, s13] = some (.ok .nx [.io b', .val (.int mark), .val (.int bound), .val K, s4, s5, s6, s7, s8, .own L', .val (.int f), .val (.int a), s12', s13]) ∧ Bx b' ∧ AllW L' ∧ L'.length ≤ 80 := by
  obtain ⟨x, b1, e1, x0, x1, hb1⟩ := take_ok (m := 3) hb (by omega) (by omega)
  have e6 := repL_ok (.int mark) (n := 1 + x) (by omega) (by omega)
  have l3 : (List.replicate (1 + x).toNat (PyData.int mark)).length ≤ 5 := by rw [List.length_replicate]; omega
  have w3 := allw_rep (d := .int mark) (1 + x).toNat (wd_int hm0 (by omega))
  generalize List.replicate (1 + x).toNat (PyData.int mark) = RP at *
  refine ⟨RP ++ L, b1, s12, ?_, hb1, allw_app w3 hL, by rw [List.length_append]; omega⟩
  have f1 : RP.length + L.length ≤ 16000000 := by omega
  simp [mSeq, mIf, mBol, mBin, mBinL, mBind, mLift, mPure, mPeek, mVar, ixD, iI, bolD, mAsg, mCall1, mCallN, intD, modD, iIc, cMod, mStore, mStoreO, mDone, gSet, mOwn, mPut, setD, mRet, mDrop, mStuck, mTru, truD, mOrT, mAndT, mNotT, mAnd, mOr, mNot, mIsi, isiT_eq, typD, lenD, mCons, mTup, mLst, mLstN, mVal, oOr, addD, subD, mulD, mulI, iIc, cMul, ltD, leD, gtD, geD, gTupD, gCons2, gsNil, mCallV, mCallB, mRs, tupleD, mRetF, mChain, mScr, mScrLen, mScrIx, mMut, appD, max2D, min2D, mRng1, mRng2, rngD1, rngD2, rngOk, mItems, itemsD, mAsgN, mParEE, mParEN, mUn, negD, mCallN1, listD, unsE, powD, cPow, divD, cDiv, mFor, mSl, mSlL, slD, mNoPart, mPart, intO, mSlN, mSlNL, slN, mRevN, revO, mParNC, andD, orD, xorD, shrD, shlD, cShr, mStepN, mStepNL, stepO, mCatN, mCatNL, catN, e1, mRepN, e6, fit, f1]

/-- one of the forms, or none -/
theorem forms_step {b : List D} {mark bound f a : Int} {K : D} {L : List D} {s4 s5 s6 s7 s8 s12 s13 : Sl} (rest : M Fl) (hb : Bx b) (hL : AllW L) (h3 : 3 ≤ L.length) (hl : L.length ≤ 45) (a0 : 0 ≤ a) (a1 : a < L.length) (hm0 : 0 ≤ mark) (hm1 : mark < 256) (hn0 : 0 ≤ bound) :
    ∃ (L' b' : List D) (s12' : Sl), (mSeq (mIf (mBol (mBinL eqD 10 (mPure (.int 0)))) (mSeq (mAsg (mBin ixD (mLst (mCons (mBin addD (mPure (.int 256)) (mPeek 1)) (mCons (mBin addD (mPure (.int 512)) (mPeek 1)) (mCons (mBin addD (mPure (.int 256)) (mCallB 0 2 fn__law_take (mCons (mPure (.int 768)) (mPure [])))) (mPure []))))) (mCallB 0 2 fn__law_take (mCons (mPure (.int 3)) (mPure [])))) (mStore 12))
  (mAsgN (mCatN (mCallB 0 2 fn__law_numbers (mCons (mPure (.int 3)) (mPure []))) (mVal (mRepN (mCons (mVar 12) (mPure [])) (mCallB 0 2 fn__law_take (mCons (mPure (.int 2)) (mPure [])))))) 9)) (mPure .nx)) (mSeq (mIf (mBol (mBinL eqD 10 (mPure (.int 1)))) (mAsg (mTup (mCons (mPure .none) (mCons (mPure .none) (mPure [])))) (gTupD 2 (gCons2 (gSet 9 (mVar 11)) (gCons2 (gSet 9 (mCallB 0 2 fn__law_take (mCons (mCall1 lenD (mPeek 9)) (mPure [])))) gsNil)))) (mPure .nx)) (mSeq (mIf (mBol (mBinL eqD 10 (mPure (.int 6)))) (mAsgN (mCatN (mBin addD (mSlL 9 mNoPart (mPart (mVar 11))) (mVal (mRepN (mCons (mPure .none) (mPure [])) (mBin addD (mPure (.int 1)) (mCallB 0 2 fn__law_take (mCons (mPure (.int 4)) (mPure []))))))) (mSlL 9 (mPart (mVar 11)) mNoPart)) 9) (mPure .nx)) (mSeq (mIf (mBol (mBinL eqD 10 (mPure (.int 2)))) (mAsg (mBin ixD (mLst (mCons (mVar 1) (mCons (mCallN min2D (mCons (mPure (.int 255)) (mCons (mBinL addD 2 (mPure (.int 1))) (mPure [])))) (mCons (mCallB 0 2 fn__law_take (mCons (mPure (.int 256)) (mPure []))) (mPure []))))) (mCallB 0 2 fn__law_take (mCons (mPure (.int 3)) (mPure [])))) (gSet 9 (mBin ixD (mLst (mCons (mVar 11) (mCons (mPure (.int 1)) (mPure [])))) (mCallB 0 2 fn__law_take (mCons (mPure (.int 2)) (mPure [])))))) (mPure .nx)) (mSeq (mIf (mBol (mBinL eqD 10 (mPure (.int 3)))) (mAsgN (mSlNL 9 mNoPart (mPart (mVar 11))) 9) (mPure .nx)) (mSeq (mIf (mBol (mBinL eqD 10 (mPure (.int 4)))) (mAsgN (mCatN (mBin addD (mSlL 9 mNoPart (mPart (mVar 11))) (mLst (mCons (mCallB 0 2 fn__law_take (mCons (mPure (.int 256)) (mPure []))) (mPure [])))) (mSlL 9 (mPart (mVar 11)) mNoPart)) 9) (mPure .nx)) (mSeq (mIf (mBol (mBinL eqD 10 (mPure (.int 5)))) (mAsgN (mCatN (mVal (mRepN (mCons (mVar 1) (mPure [])) (mBin addD (mPure (.int 1)) (mCallB 0 2 fn__law_take (mCons (mPure (.int 3)) (mPure [])))))) (mPeek 9)) 9) (mPure .nx)) rest))))))) [.io b, .val (.int mark), .val (.int bound), .val K, s4, s5, s6, s7, s8, .own L, .val (.int f), .val (.int a), s12, s13] = rest [.io b', .val (.int mark), .val (.int bound), .val K, s4, s5, s6, s7, s8, .own L', .val (.int f), .val (.int a), s12', s13] ∧ Bx b' ∧ AllW L' ∧ L'.length ≤ 80 := by
  have skip : ∀ (c : Int) (B : M Fl) (ρ : En), ρ[10]? = some (.val (.int f)) → f ≠ c → mIf (mBol (mBinL eqD 10 (mPure (.int c)))) B (mPure .nx) ρ = some (.ok .nx ρ) := fun c B ρ h hc => by rw [if_at h, if_neg hc]
  have go : ∀ (c : Int) (B : M Fl) (ρ ρ' : En), ρ[10]? = some (.val (.int f)) → f = c → B ρ = some (.ok .nx ρ') → mIf (mBol (mBinL eqD 10 (mPure (.int c)))) B (mPure .nx) ρ = some (.ok .nx ρ') := fun c B ρ ρ' h hc e => by rw [if_at h, if_pos hc]; exact e
  by_cases z0 : f = 0
  · obtain ⟨L', b', t, e, r⟩ := form0 (bound := bound) (f := f) (a := a) (K := K) (L := L) (s4 := s4) (s5 := s5) (s6 := s6) (s7 := s7) (s8 := s8) (s12 := s12) (s13 := s13) (mark := mark) hb hm0 hm1
    exact ⟨L', b', t, (seq_nx (go 0 _ _ _ rfl z0 e)).trans ((seq_nx (skip 1 _ _ rfl (by omega))).trans ((seq_nx (skip 6 _ _ rfl (by omega))).trans ((seq_nx (skip 2 _ _ rfl (by omega))).trans ((seq_nx (skip 3 _ _ rfl (by omega))).trans ((seq_nx (skip 4 _ _ rfl (by omega))).trans ((seq_nx (skip 5 _ _ rfl (by omega))))))))), r⟩
  by_cases z1 : f = 1
  · obtain ⟨L', b', t, e, r⟩ := form1 (bound := bound) (f := f) (a := a) (K := K) (L := L) (s4 := s4) (s5 := s5) (s6 := s6) (s7 := s7) (s8 := s8) (s12 := s12) (s13 := s13) (mark := mark) hb hL h3 hl a0 a1
    exact ⟨L', b', t, (seq_nx (skip 0 _ _ rfl (by omega))).trans ((seq_nx (go 1 _ _ _ rfl z1 e)).trans ((seq_nx (skip 6 _ _ rfl (by omega))).trans ((seq_nx (skip 2 _ _ rfl (by omega))).trans ((seq_nx (skip 3 _ _ rfl (by omega))).trans ((seq_nx (skip 4 _ _ rfl (by omega))).trans ((seq_nx (skip 5 _ _ rfl (by omega))))))))), r⟩
  by_cases z6 : f = 6
  · obtain ⟨L', b', t, e, r⟩ := form6 (bound := bound) (f := f) (a := a) (K := K) (L := L) (s4 := s4) (s5 := s5) (s6 := s6) (s7 := s7) (s8 := s8) (s12 := s12) (s13 := s13) (mark := mark) hb hL hl a0 a1
    exact ⟨L', b', t, (seq_nx (skip 0 _ _ rfl (by omega))).trans ((seq_nx (skip 1 _ _ rfl (by omega))).trans ((seq_nx (go 6 _ _ _ rfl z6 e)).trans ((seq_nx (skip 2 _ _ rfl (by omega))).trans ((seq_nx (skip 3 _ _ rfl (by omega))).trans ((seq_nx (skip 4 _ _ rfl (by omega))).trans ((seq_nx (skip 5 _ _ rfl (by omega))))))))), r⟩
  by_cases z2 : f = 2
  · obtain ⟨L', b', t, e, r⟩ := form2 (bound := bound) (f := f) (a := a) (K := K) (L := L) (s4 := s4) (s5 := s5) (s6 := s6) (s7 := s7) (s8 := s8) (s12 := s12) (s13 := s13) (mark := mark) hb hL h3 hl a0 a1 hm0 hm1 hn0
    exact ⟨L', b', t, (seq_nx (skip 0 _ _ rfl (by omega))).trans ((seq_nx (skip 1 _ _ rfl (by omega))).trans ((seq_nx (skip 6 _ _ rfl (by omega))).trans ((seq_nx (go 2 _ _ _ rfl z2 e)).trans ((seq_nx (skip 3 _ _ rfl (by omega))).trans ((seq_nx (skip 4 _ _ rfl (by omega))).trans ((seq_nx (skip 5 _ _ rfl (by omega))))))))), r⟩
  by_cases z3 : f = 3
  · obtain ⟨L', b', t, e, r⟩ := form3 (bound := bound) (f := f) (a := a) (K := K) (L := L) (s4 := s4) (s5 := s5) (s6 := s6) (s7 := s7) (s8 := s8) (s12 := s12) (s13 := s13) (mark := mark) hb hL hl a0
    exact ⟨L', b', t, (seq_nx (skip 0 _ _ rfl (by omega))).trans ((seq_nx (skip 1 _ _ rfl (by omega))).trans ((seq_nx (skip 6 _ _ rfl (by omega))).trans ((seq_nx (skip 2 _ _ rfl (by omega))).trans ((seq_nx (go 3 _ _ _ rfl z3 e)).trans ((seq_nx (skip 4 _ _ rfl (by omega))).trans ((seq_nx (skip 5 _ _ rfl (by omega))))))))), r⟩
  by_cases z4 : f = 4
  · obtain ⟨L', b', t, e, r⟩ := form4 (bound := bound) (f := f) (a := a) (K := K) (L := L) (s4 := s4) (s5 := s5) (s6 := s6) (s7 := s7) (s8 := s8) (s12 := s12) (s13 := s13) (mark := mark) hb hL hl a0 a1
    exact ⟨L', b', t, (seq_nx (skip 0 _ _ rfl (by omega))).trans ((seq_nx (skip 1 _ _ rfl (by omega))).trans ((seq_nx (skip 6 _ _ rfl (by omega))).trans ((seq_nx (skip 2 _ _ rfl (by omega))).trans ((seq_nx (skip 3 _ _ rfl (by omega))).trans ((seq_nx (go 4 _ _ _ rfl z4 e)).trans ((seq_nx (skip 5 _ _ rfl (by omega))))))))), r⟩
  by_cases z5 : f = 5
  · obtain ⟨L', b', t, e, r⟩ := form5 (bound := bound) (f := f) (a := a) (K := K) (L := L) (s4 := s4) (s5 := s5) (s6 := s6) (s7 := s7) (s8 := s8) (s12 := s12) (s13 := s13) (mark := mark) hb hL hl hm0 hm1
    exact ⟨L', b', t, (seq_nx (skip 0 _ _ rfl (by omega))).trans ((seq_nx (skip 1 _ _ rfl (by omega))).trans ((seq_nx (skip 6 _ _ rfl (by omega))).trans ((seq_nx (skip 2 _ _ rfl (by omega))).trans ((seq_nx (skip 3 _ _ rfl (by omega))).trans ((seq_nx (skip 4 _ _ rfl (by omega))).trans ((seq_nx (go 5 _ _ _ rfl z5 e)))))))), r⟩
  exact ⟨L, b, s12, (seq_nx (skip 0 _ _ rfl z0)).trans ((seq_nx (skip 1 _ _ rfl z1)).trans ((seq_nx (skip 6 _ _ rfl z6)).trans ((seq_nx (skip 2 _ _ rfl z2)).trans ((seq_nx (skip 3 _ _ rfl z3)).trans ((seq_nx (skip 4 _ _ rfl z4)).trans ((seq_nx (skip 5 _ _ rfl z5)))))))), hb, hL, by omega⟩
theorem chk_by {k : String} {ns : List Int} (hk : k = "sum" ∨ k = "xor" ∨ k = "rest") (hn : ∀ n ∈ ns, By n) : 0 ≤ chk k ns ∧ chk k ns < 256 := by
  unfold chk
  rcases hk with rfl | rfl | rfl
  · rw [if_pos rfl]; omega
  · rw [if_neg (by decide), if_pos rfl]
    exact (xorF_bits ns 0 hn by0).1
  · rw [if_neg (by decide), if_neg (by decide)]
    exact restF_by ns 0 hn by0
theorem stream_turn {b : List D} {mark bound : Int} {k : String} {S F : List D} {s6 s7 s8 s9 s10 s11 s12 s13 s5 : Sl} (hk : k = "sum" ∨ k = "xor" ∨ k = "rest") (hb : Bx b) (hm0 : 0 ≤ mark) (hm1 : mark < 256) (hn0 : 0 ≤ bound) (hF : AllW F) (hFl : F.length < 40) (h5 : s5 = .own F ∨ s5 = .val (.list F)) :
    ∃ (b' F' : List D) (t7 t8 t9 t10 t11 t12 : Sl) (fl : Fl), L__law_stream_0 [.io b, .val (.int mark), .val (.int bound), .val (.str k), .val (.int 40), s5, s6, s7, s8, s9, s10, s11, s12, s13] = some (.ok fl [.io b', .val (.int mark), .val (.int bound), .val (.str k), .val (.int 40), .val (.list F'), s6, t7, t8, t9, t10, t11, t12, s13]) ∧ Bx b' ∧ AllW F' ∧ (fl = .nx ∧ F'.length < 40 ∨ fl = .bk ∧ F'.length ≤ 200) := by
  obtain ⟨r, b1, e1, r0, r1, hb1⟩ := take_ok (m := 4) hb (by omega) (by omega)
  obtain ⟨v, e2, hv⟩ := pick4 (a := 2) (b := 5) (c := 9) (d := 36) r0 r1
  have hv' : 0 ≤ v ∧ v ≤ 36 := by rcases hv with rfl | rfl | rfl | rfl <;> omega
  have hmn : min2D [.int 37, .int v] = some (.int v) := by
    show some (PyData.int (if v < 37 then v else 37)) = _
    rw [if_pos (by omega)]
  obtain ⟨ns, b2, e3, hb2, hby, hnl⟩ := numbers_ok (m := v) hb1 hv'.1 (by omega)
  have hlen : ((ns.length : Int)) < 256 := by omega
  have hin : ∀ n ∈ ((ns.length : Int) :: ns), By n := fun n hn => by
    rcases List.mem_cons.mp hn with rfl | hn
    · exact ⟨by omega, hlen⟩
    · exact hby n hn
  have e4 := lcheck_is (k := k) (ns := (ns.length : Int) :: ns) hk hin (by simp only [List.length_cons]; omega)
  have hck : 0 ≤ chk k ((ns.length : Int) :: ns) ∧ chk k ((ns.length : Int) :: ns) < 256 := chk_by hk hin
  generalize chk k ((ns.length : Int) :: ns) = cv at *
  have hmc : ((ns.length : Int) :: ns).map PyData.int = .int (ns.length : Int) :: ns.map PyData.int := rfl
  rw [hmc] at e4
  have hL : AllW (.int mark :: .int (ns.length : Int) :: (ns.map PyData.int ++ [.int cv])) := fun d hd => by
    rcases List.mem_cons.mp hd with rfl | hd
    · exact wd_int hm0 (by omega)
    · rcases List.mem_cons.mp hd with rfl | hd
      · exact wd_int (by omega) (by omega)
      · exact allw_app (allw_by hby) (allw_one (wd_int hck.1 (by omega))) d hd
  have hLl : (PyData.int mark :: .int (ns.length : Int) :: (ns.map PyData.int ++ [.int cv])).length = ns.length + 3 := by simp
  obtain ⟨f, b3, e5, f0, f1, hb3⟩ := take_ok (m := 10) hb2 (by omega) (by omega)
  obtain ⟨a, b4, e6, a0, a1, hb4⟩ := take_ok (m := ((PyData.int mark :: .int (ns.length : Int) :: (ns.map PyData.int ++ [.int cv])).length : Int)) hb3 (by omega) (by omega)
  obtain ⟨L', b5, t12, e7, hb5, hL', hLl'⟩ := forms_step (b := b4) (mark := mark) (bound := bound) (f := f) (a := a) (K := .str k) (L := PyData.int mark :: .int (ns.length : Int) :: (ns.map PyData.int ++ [.int cv])) (s4 := .val (.int 40)) (s5 := s5) (s6 := s6) (s7 := .val (.list (ns.map PyData.int))) (s8 := .val (.list (.int (ns.length : Int) :: ns.map PyData.int))) (s12 := s12) (s13 := s13) (mSeq (mAsg (mBin addD (mBinL addD 5 (mPeek 9)) (mVal (mRepN (mCons (mVar 1) (mPure [])) (mCall1 intD (mBin eqD (mCallB 0 2 fn__law_take (mCons (mPure (.int 12)) (mPure []))) (mPure (.int 0))))))) (mStore 5)) (mIf (mBol (mBin geD (mCall1 lenD (mPeek 5)) (mPeek 4))) (mPure .bk) (mPure .nx))) hb4 hL (by omega) (by omega) a0 a1 hm0 hm1 hn0
  obtain ⟨x, b6, e8, x0, x1, hb6⟩ := take_ok (m := 12) hb5 (by omega) (by omega)
  obtain ⟨F', hF', hFw, hFl'⟩ : ∃ F', F' = F ++ L' ++ (if x = 0 then [PyData.int mark] else []) ∧ AllW F' ∧ F'.length ≤ 200 := ⟨_, rfl, allw_app (allw_app hF hL') (by split; exact allw_one (wd_int hm0 (by omega)); exact fun d hd => (by cases hd)), by
    rw [List.length_append, List.length_append]
    have : (if x = 0 then [PyData.int mark] else []).length ≤ 1 := by split <;> simp
    omega⟩
  have r1 : repLD (PyData.list [PyData.int mark]) (PyData.int 1) = some [PyData.int mark] := rfl
  have r0' : repLD (PyData.list [PyData.int mark]) (PyData.int 0) = some [] := rfl
  have g1 : F.length + L'.length ≤ 16000000 := by omega
  have g2 : F.length + L'.length + 1 ≤ 16000000 := by omega
  have g3 : F.length + (L'.length + 1) ≤ 16000000 := by omega
  have pre : ∀ (rest : M Fl), (mSeq (mAsg (mCallB 0 2 fn__law_numbers (mCons (mCallN min2D (mCons (mBinL subD 4 (mPure (.int 3))) (mCons (mBin ixD (mLst (mCons (mPure (.int 2)) (mCons (mPure (.int 5)) (mCons (mPure (.int 9)) (mCons (mPure (.int 36)) (mPure [])))))) (mCallB 0 2 fn__law_take (mCons (mPure (.int 4)) (mPure [])))) (mPure [])))) (mPure []))) (mStore 7))
  (mSeq (mAsg (mBin addD (mLst (mCons (mCall1 lenD (mPeek 7)) (mPure []))) (mPeek 7)) (mStore 8))
  (mSeq (mAsgN (mCatN (mBin addD (mLst (mCons (mVar 1) (mPure []))) (mPeek 8)) (mLst (mCons (mCallV 2 fn__law_check (mCons (mVar 3) (mCons (mVar 8) (mPure [])))) (mPure [])))) 9)
  (mSeq (mParEE 10 11 (mCallB 0 2 fn__law_take (mCons (mPure (.int 10)) (mPure []))) (mCallB 0 2 fn__law_take (mCons (mCall1 lenD (mPeek 9)) (mPure [])))) rest)))) [.io b, .val (.int mark), .val (.int bound), .val (.str k), .val (.int 40), s5, s6, s7, s8, s9, s10, s11, s12, s13] = rest [.io b4, .val (.int mark), .val (.int bound), .val (.str k), .val (.int 40), s5, s6, .val (.list (ns.map PyData.int)), .val (.list (.int (ns.length : Int) :: ns.map PyData.int)), .own (PyData.int mark :: .int (ns.length : Int) :: (ns.map PyData.int ++ [.int cv])), .val (.int f), .val (.int a), s12, s13] := by
    intro rest
    have hnL : (ns.map PyData.int).length = ns.length := List.length_map _
    have h1 : ns.length + 1 ≤ 16000000 := by omega
    have h2 : 1 + ns.length ≤ 16000000 := by omega
    have h3 : 1 + (ns.length + 1) ≤ 16000000 := by omega
    have h4 : ns.length + 1 + 1 ≤ 16000000 := by omega
    have h5 : ns.length + 1 + 1 + 1 ≤ 16000000 := by omega
    have h6 : 1 + (1 + ns.length) ≤ 16000000 := by omega
    refine (seq_nx (ρ' := [.io b2, .val (.int mark), .val (.int bound), .val (.str k), .val (.int 40), s5, s6, .val (.list (ns.map PyData.int)), s8, s9, s10, s11, s12, s13]) ?_).trans ?_
    · generalize ns.map PyData.int = N at *
      simp [mSeq, mIf, mBol, mBin, mBinL, mBind, mLift, mPure, mPeek, mVar, ixD, iI, bolD, mAsg, mCall1, mCallN, intD, modD, iIc, cMod, mStore, mStoreO, mDone, gSet, mOwn, mPut, setD, mRet, mDrop, mStuck, mTru, truD, mOrT, mAndT, mNotT, mAnd, mOr, mNot, mIsi, isiT_eq, typD, lenD, mCons, mTup, mLst, mLstN, mVal, oOr, addD, subD, mulD, mulI, iIc, cMul, ltD, leD, gtD, geD, gTupD, gCons2, gsNil, mCallV, mCallB, mRs, tupleD, mRetF, mChain, mScr, mScrLen, mScrIx, mMut, appD, mRng1, mRng2, rngD1, rngD2, rngOk, mItems, itemsD, mAsgN, mParEE, mParEN, mUn, negD, mCallN1, listD, unsE, powD, cPow, divD, cDiv, mFor, mSl, mSlL, slD, mNoPart, mPart, intO, mSlN, mSlNL, slN, mRevN, revO, mParNC, andD, orD, xorD, shrD, shlD, cShr, mStepN, mStepNL, stepO, mCatN, mCatNL, catN, e1, e2, hmn, e3, fit]
    refine (seq_nx (ρ' := [.io b2, .val (.int mark), .val (.int bound), .val (.str k), .val (.int 40), s5, s6, .val (.list (ns.map PyData.int)), .val (.list (.int (ns.length : Int) :: ns.map PyData.int)), s9, s10, s11, s12, s13]) ?_).trans ?_
    · generalize ns.map PyData.int = N at *
      simp [mSeq, mIf, mBol, mBin, mBinL, mBind, mLift, mPure, mPeek, mVar, ixD, iI, bolD, mAsg, mCall1, mCallN, intD, modD, iIc, cMod, mStore, mStoreO, mDone, gSet, mOwn, mPut, setD, mRet, mDrop, mStuck, mTru, truD, mOrT, mAndT, mNotT, mAnd, mOr, mNot, mIsi, isiT_eq, typD, lenD, mCons, mTup, mLst, mLstN, mVal, oOr, addD, subD, mulD, mulI, iIc, cMul, ltD, leD, gtD, geD, gTupD, gCons2, gsNil, mCallV, mCallB, mRs, tupleD, mRetF, mChain, mScr, mScrLen, mScrIx, mMut, appD, max2D, min2D, mRng1, mRng2, rngD1, rngD2, rngOk, mItems, itemsD, mAsgN, mParEE, mParEN, mUn, negD, mCallN1, listD, unsE, powD, cPow, divD, cDiv, mFor, mSl, mSlL, slD, mNoPart, mPart, intO, mSlN, mSlNL, slN, mRevN, revO, mParNC, andD, orD, xorD, shrD, shlD, cShr, mStepN, mStepNL, stepO, mCatN, mCatNL, catN, hnL, fit, catL, h1, h2]
    refine (seq_nx (ρ' := [.io b2, .val (.int mark), .val (.int bound), .val (.str k), .val (.int 40), s5, s6, .val (.list (ns.map PyData.int)), .val (.list (.int (ns.length : Int) :: ns.map PyData.int)), .own (PyData.int mark :: .int (ns.length : Int) :: (ns.map PyData.int ++ [.int cv])), s10, s11, s12, s13]) ?_).trans ?_
    · generalize ns.map PyData.int = N at *
      simp [mSeq, mIf, mBol, mBin, mBinL, mBind, mLift, mPure, mPeek, mVar, ixD, iI, bolD, mAsg, mCall1, mCallN, intD, modD, iIc, cMod, mStore, mStoreO, mDone, gSet, mOwn, mPut, setD, mRet, mDrop, mStuck, mTru, truD, mOrT, mAndT, mNotT, mAnd, mOr, mNot, mIsi, isiT_eq, typD, lenD, mCons, mTup, mLst, mLstN, mVal, oOr, addD, subD, mulD, mulI, iIc, cMul, ltD, leD, gtD, geD, gTupD, gCons2, gsNil, mCallV, mCallB, mRs, tupleD, mRetF, mChain, mScr, mScrLen, mScrIx, mMut, appD, max2D, min2D, mRng1, mRng2, rngD1, rngD2, rngOk, mItems, itemsD, mAsgN, mParEE, mParEN, mUn, negD, mCallN1, listD, unsE, powD, cPow, divD, cDiv, mFor, mSl, mSlL, slD, mNoPart, mPart, intO, mSlN, mSlNL, slN, mRevN, revO, mParNC, andD, orD, xorD, shrD, shlD, cShr, mStepN, mStepNL, stepO, mCatN, mCatNL, catN, hnL, fit, catL, e4, h1, h2, h3, h4, h5, h6]
    refine seq_nx ?_
    generalize (PyData.int mark :: .int (ns.length : Int) :: (ns.map PyData.int ++ [.int cv])) = L at *
    simp [mSeq, mIf, mBol, mBin, mBinL, mBind, mLift, mPure, mPeek, mVar, ixD, iI, bolD, mAsg, mCall1, mCallN, intD, modD, iIc, cMod, mStore, mStoreO, mDone, gSet, mOwn, mPut, setD, mRet, mDrop, mStuck, mTru, truD, mOrT, mAndT, mNotT, mAnd, mOr, mNot, mIsi, isiT_eq, typD, lenD, mCons, mTup, mLst, mLstN, mVal, oOr, addD, subD, mulD, mulI, iIc, cMul, ltD, leD, gtD, geD, gTupD, gCons2, gsNil, mCallV, mCallB, mRs, tupleD, mRetF, mChain, mScr, mScrLen, mScrIx, mMut, appD, max2D, min2D, mRng1, mRng2, rngD1, rngD2, rngOk, mItems, itemsD, mAsgN, mParEE, mParEN, mUn, negD, mCallN1, listD, unsE, powD, cPow, divD, cDiv, mFor, mSl, mSlL, slD, mNoPart, mPart, intO, mSlN, mSlNL, slN, mRevN, revO, mParNC, andD, orD, xorD, shrD, shlD, cShr, mStepN, mStepNL, stepO, mCatN, mCatNL, catN, e5, e6]
  have step : ∀ fl, mIf (mBol (mBin geD (mCall1 lenD (mPeek 5)) (mPeek 4))) (mPure .bk) (mPure .nx) [.io b6, .val (.int mark), .val (.int bound), .val (.str k), .val (.int 40), .val (.list F'), s6, .val (.list (ns.map PyData.int)), .val (.list (.int (ns.length : Int) :: ns.map PyData.int)), .own L', .val (.int f), .val (.int a), t12, s13] = some (.ok fl [.io b6, .val (.int mark), .val (.int bound), .val (.str k), .val (.int 40), .val (.list F'), s6, .val (.list (ns.map PyData.int)), .val (.list (.int (ns.length : Int) :: ns.map PyData.int)), .own L', .val (.int f), .val (.int a), t12, s13]) →
      L__law_stream_0 [.io b, .val (.int mark), .val (.int bound), .val (.str k), .val (.int 40), s5, s6, s7, s8, s9, s10, s11, s12, s13] = some (.ok fl [.io b6, .val (.int mark), .val (.int bound), .val (.str k), .val (.int 40), .val (.list F'), s6, .val (.list (ns.map PyData.int)), .val (.list (.int (ns.length : Int) :: ns.map PyData.int)), .own L', .val (.int f), .val (.int a), t12, s13]) := by
    intro fl hfl
    refine (pre _).trans (e7.trans ((seq_nx ?_).trans hfl))
    subst hF'
    generalize ns.map PyData.int = N at *
    by_cases c : x = 0
    · subst c
      rw [if_pos rfl]
      rcases h5 with rfl | rfl <;> simp [mSeq, mIf, mBol, mBin, mBinL, mBind, mLift, mPure, mPeek, mVar, ixD, iI, bolD, mAsg, mCall1, mCallN, intD, modD, iIc, cMod, mStore, mStoreO, mDone, gSet, mOwn, mPut, setD, mRet, mDrop, mStuck, mTru, truD, mOrT, mAndT, mNotT, mAnd, mOr, mNot, mIsi, isiT_eq, typD, lenD, mCons, mTup, mLst, mLstN, mVal, oOr, addD, subD, mulD, mulI, iIc, cMul, ltD, leD, gtD, geD, gTupD, gCons2, gsNil, mCallV, mCallB, mRs, tupleD, mRetF, mChain, mScr, mScrLen, mScrIx, mMut, appD, max2D, min2D, mRng1, mRng2, rngD1, rngD2, rngOk, mItems, itemsD, mAsgN, mParEE, mParEN, mUn, negD, mCallN1, listD, unsE, powD, cPow, divD, cDiv, mFor, mSl, mSlL, slD, mNoPart, mPart, intO, mSlN, mSlNL, slN, mRevN, revO, mParNC, andD, orD, xorD, shrD, shlD, cShr, mStepN, mStepNL, stepO, mCatN, mCatNL, catN, e8, eq_int, mRepN, r1, fit, catL, g1, g2, g3]
    · rw [if_neg c, List.append_nil]
      rcases h5 with rfl | rfl <;> simp [mSeq, mIf, mBol, mBin, mBinL, mBind, mLift, mPure, mPeek, mVar, ixD, iI, bolD, mAsg, mCall1, mCallN, intD, modD, iIc, cMod, mStore, mStoreO, mDone, gSet, mOwn, mPut, setD, mRet, mDrop, mStuck, mTru, truD, mOrT, mAndT, mNotT, mAnd, mOr, mNot, mIsi, isiT_eq, typD, lenD, mCons, mTup, mLst, mLstN, mVal, oOr, addD, subD, mulD, mulI, iIc, cMul, ltD, leD, gtD, geD, gTupD, gCons2, gsNil, mCallV, mCallB, mRs, tupleD, mRetF, mChain, mScr, mScrLen, mScrIx, mMut, appD, max2D, min2D, mRng1, mRng2, rngD1, rngD2, rngOk, mItems, itemsD, mAsgN, mParEE, mParEN, mUn, negD, mCallN1, listD, unsE, powD, cPow, divD, cDiv, mFor, mSl, mSlL, slD, mNoPart, mPart, intO, mSlN, mSlNL, slN, mRevN, revO, mParNC, andD, orD, xorD, shrD, shlD, cShr, mStepN, mStepNL, stepO, mCatN, mCatNL, catN, e8, eq_int, c, mRepN, r0', fit, catL, g1]
  by_cases c : 40 ≤ F'.length
  · refine ⟨b6, F', _, _, _, _, _, _, .bk, step .bk ?_, hb6, hFw, .inr ⟨rfl, hFl'⟩⟩
    have c' : (40 : Int) ≤ (F'.length : Int) := by omega
    simp [mSeq, mIf, mBol, mBin, mBinL, mBind, mLift, mPure, mPeek, mVar, ixD, iI, bolD, mAsg, mCall1, mCallN, intD, modD, iIc, cMod, mStore, mStoreO, mDone, gSet, mOwn, mPut, setD, mRet, mDrop, mStuck, mTru, truD, mOrT, mAndT, mNotT, mAnd, mOr, mNot, mIsi, isiT_eq, typD, lenD, mCons, mTup, mLst, mLstN, mVal, oOr, addD, subD, mulD, mulI, iIc, cMul, ltD, leD, gtD, geD, gTupD, gCons2, gsNil, mCallV, mCallB, mRs, tupleD, mRetF, mChain, mScr, mScrLen, mScrIx, mMut, appD, max2D, min2D, mRng1, mRng2, rngD1, rngD2, rngOk, mItems, itemsD, mAsgN, mParEE, mParEN, mUn, negD, mCallN1, listD, unsE, powD, cPow, divD, cDiv, mFor, mSl, mSlL, slD, mNoPart, mPart, intO, mSlN, mSlNL, slN, mRevN, revO, mParNC, andD, orD, xorD, shrD, shlD, cShr, mStepN, mStepNL, stepO, mCatN, mCatNL, catN, c, c']
  · refine ⟨b6, F', _, _, _, _, _, _, .nx, step .nx ?_, hb6, hFw, .inl ⟨rfl, by omega⟩⟩
    have c' : ¬ (40 : Int) ≤ (F'.length : Int) := by omega
    simp [mSeq, mIf, mBol, mBin, mBinL, mBind, mLift, mPure, mPeek, mVar, ixD, iI, bolD, mAsg, mCall1, mCallN, intD, modD, iIc, cMod, mStore, mStoreO, mDone, gSet, mOwn, mPut, setD, mRet, mDrop, mStuck, mTru, truD, mOrT, mAndT, mNotT, mAnd, mOr, mNot, mIsi, isiT_eq, typD, lenD, mCons, mTup, mLst, mLstN, mVal, oOr, addD, subD, mulD, mulI, iIc, cMul, ltD, leD, gtD, geD, gTupD, gCons2, gsNil, mCallV, mCallB, mRs, tupleD, mRetF, mChain, mScr, mScrLen, mScrIx, mMut, appD, max2D, min2D, mRng1, mRng2, rngD1, rngD2, rngOk, mItems, itemsD, mAsgN, mParEE, mParEN, mUn, negD, mCallN1, listD, unsE, powD, cPow, divD, cDiv, mFor, mSl, mSlL, slD, mNoPart, mPart, intO, mSlN, mSlNL, slN, mRevN, revO, mParNC, andD, orD, xorD, shrD, shlD, cShr, mStepN, mStepNL, stepO, mCatN, mCatNL, catN, c, c']

theorem stream_ok {b : List D} {mark bound : Int} {k : String} (hk : k = "sum" ∨ k = "xor" ∨ k = "rest") (hb : Bx b) (hm0 : 0 ≤ mark) (hm1 : mark < 256) (hn0 : 0 ≤ bound) :
    ∃ (ds b' : List D), fn__law_stream b [.int mark, .int bound, .str k, .int 40] = some (.ok (.list ds), b') ∧ Bx b' ∧ AllW ds ∧ ds.length ≤ 40 := by
  have hr : mRng1 (mCons (mVar 4) (mPure [])) [.io b, .val (.int mark), .val (.int bound), .val (.str k), .val (.int 40), .own [], .un, .un, .un, .un, .un, .un, .un, .un] = some (.ok (rngL 0 40) [.io b, .val (.int mark), .val (.int bound), .val (.str k), .val (.int 40), .own [], .un, .un, .un, .un, .un, .un, .un, .un]) := rng1_is (by simp [mSeq, mIf, mBol, mBin, mBinL, mBind, mLift, mPure, mPeek, mVar, ixD, iI, bolD, mAsg, mCall1, mCallN, intD, modD, iIc, cMod, mStore, mStoreO, mDone, gSet, mOwn, mPut, setD, mRet, mDrop, mStuck, mTru, truD, mOrT, mAndT, mNotT, mAnd, mOr, mNot, mIsi, isiT_eq, typD, lenD, mCons, mTup, mLst, mLstN, mVal, oOr, addD, subD, mulD, mulI, iIc, cMul, ltD, leD, gtD, geD, gTupD, gCons2, gsNil, mCallV, mCallB, mRs, tupleD, mRetF, mChain, mScr, mScrLen, mScrIx, mMut, appD, max2D, min2D, mRng1, mRng2, rngD1, rngD2, rngOk, mItems, itemsD, mAsgN, mParEE, mParEN, mUn, negD, mCallN1, listD, unsE, powD, cPow, divD, cDiv, mFor, mSl, mSlL, slD, mNoPart, mPart, intO, mSlN, mSlNL, slN, mRevN, revO, mParNC, andD, orD, xorD, shrD, shlD, cShr, mStepN, mStepNL, stepO, mCatN, mCatNL, catN]) (rngOk_le (by omega) (by omega))
  obtain ⟨ρ', h2, b1, F, s5, s6, s7, s8, s9, s10, s11, s12, rfl, hb1, hF, hFl, h5⟩ := forL_bk (g := mStore 6) (body := L__law_stream_0)
    (fun ρ => ∃ (b F : List D) (s5 s6 s7 s8 s9 s10 s11 s12 : Sl), ρ = [.io b, .val (.int mark), .val (.int bound), .val (.str k), .val (.int 40), s5, s6, s7, s8, s9, s10, s11, s12, .un] ∧ Bx b ∧ AllW F ∧ F.length < 40 ∧ (s5 = .own F ∨ s5 = .val (.list F)))
    (fun ρ => ∃ (b F : List D) (s5 s6 s7 s8 s9 s10 s11 s12 : Sl), ρ = [.io b, .val (.int mark), .val (.int bound), .val (.str k), .val (.int 40), s5, s6, s7, s8, s9, s10, s11, s12, .un] ∧ Bx b ∧ AllW F ∧ F.length ≤ 200 ∧ (s5 = .own F ∨ s5 = .val (.list F)))
    (rngL 0 40) [.io b, .val (.int mark), .val (.int bound), .val (.str k), .val (.int 40), .own [], .un, .un, .un, .un, .un, .un, .un, .un] ⟨b, [], _, _, _, _, _, _, _, _, rfl, hb, fun d hd => (by cases hd), by simp, .inl rfl⟩
    (fun ρ ⟨b, F, a1, a2, a3, a4, a5, a6, a7, a8, q1, q2, q3, q4, q5⟩ => ⟨b, F, a1, a2, a3, a4, a5, a6, a7, a8, q1, q2, q3, by omega, q5⟩) (by
    rintro d ρ hd ⟨b, F, s5, s6, s7, s8, s9, s10, s11, s12, rfl, hb, hF, hFl, h5⟩
    obtain ⟨b', F', t7, t8, t9, t10, t11, t12, fl, q, hb', hF', hq⟩ := stream_turn (S := []) (s6 := .val d) (s7 := s7) (s8 := s8) (s9 := s9) (s10 := s10) (s11 := s11) (s12 := s12) (s13 := .un) hk hb hm0 hm1 hn0 hF hFl h5
    refine ⟨[.io b, .val (.int mark), .val (.int bound), .val (.str k), .val (.int 40), s5, .val d, s7, s8, s9, s10, s11, s12, .un], [.io b', .val (.int mark), .val (.int bound), .val (.str k), .val (.int 40), .val (.list F'), .val d, t7, t8, t9, t10, t11, t12, .un], by simp [mStore], ?_⟩
    rcases hq with ⟨rfl, hq⟩ | ⟨rfl, hq⟩
    · exact .inl ⟨q, b', F', _, _, _, _, _, _, _, _, rfl, hb', hF', hq, .inr rfl⟩
    · exact .inr ⟨q, b', F', _, _, _, _, _, _, _, _, rfl, hb', hF', hq, .inr rfl⟩)
  have hR : R__law_stream_0 [.io b, .val (.int mark), .val (.int bound), .val (.str k), .val (.int 40), .own [], .un, .un, .un, .un, .un, .un, .un, .un] = some (.ok .nx [.io b1, .val (.int mark), .val (.int bound), .val (.str k), .val (.int 40), s5, s6, s7, s8, s9, s10, s11, s12, .un]) := by
    unfold R__law_stream_0 mFor
    rw [bind_is hr]
    exact h2
  obtain ⟨x, b2, e1, x0, x1, hb2⟩ := take_ok (m := 40) hb1 (by omega) (by omega)
  obtain ⟨y, b3, e2, y0, y1, hb3⟩ := take_ok (m := 3) hb2 (by omega) (by omega)
  obtain ⟨q, hq⟩ : ∃ q : Nat, (40 : Int) - (if y = 0 then x else 0) = (q : Int) ∧ q ≤ 40 := ⟨((40 : Int) - (if y = 0 then x else 0)).toNat, by split <;> omega, by split <;> omega⟩
  have hct := cut_take F q
  refine ⟨F.take q, b3, ?_, hb3, allw_take q hF, by rw [List.length_take]; omega⟩
  have m1 : mulD (.int x) (.int 1) = some (.int x) := by rw [mul_ok (by omega), Int.mul_one]
  have m0 : mulD (.int x) (.int 0) = some (.int 0) := by rw [mul_ok (by omega), Int.mul_zero]
  clear h2 hr
  by_cases c : y = 0
  · subst c
    rw [if_pos rfl] at hq
    rcases h5 with rfl | rfl <;> simp [fn__law_stream, runB, m__law_stream, env0B, mSeq, mIf, mBol, mBin, mBinL, mBind, mLift, mPure, mPeek, mVar, ixD, iI, bolD, mAsg, mCall1, mCallN, intD, modD, iIc, cMod, mStore, mStoreO, mDone, gSet, mOwn, mPut, setD, mRet, mDrop, mStuck, mTru, truD, mOrT, mAndT, mNotT, mAnd, mOr, mNot, mIsi, isiT_eq, typD, lenD, mCons, mTup, mLst, mLstN, mVal, oOr, addD, subD, mulI, iIc, cMul, ltD, leD, gtD, geD, gTupD, gCons2, gsNil, mCallV, mCallB, mRs, tupleD, mRetF, mChain, mScr, mScrLen, mScrIx, mMut, appD, max2D, min2D, mRng1, mRng2, rngD1, rngD2, rngOk, mItems, itemsD, mAsgN, mParEE, mParEN, mUn, negD, mCallN1, listD, unsE, powD, cPow, divD, cDiv, mFor, mSl, mSlL, slD, mNoPart, mPart, intO, mSlN, mSlNL, slN, mRevN, revO, mParNC, andD, orD, xorD, shrD, shlD, cShr, mStepN, mStepNL, stepO, mCatN, mCatNL, catN, hR, fit, e1, e2, eq_int, m1, mSlL, mPart, mNoPart, slD, intO, hq.1, hct]
  · rw [if_neg c] at hq
    have hq' : (40 : Int) = (q : Int) := by have := hq.1; omega
    have hct' : cutL F none (some 40) = F.take q := by rw [hq']; exact hct
    rcases h5 with rfl | rfl <;> simp [fn__law_stream, runB, m__law_stream, env0B, mSeq, mIf, mBol, mBin, mBinL, mBind, mLift, mPure, mPeek, mVar, ixD, iI, bolD, mAsg, mCall1, mCallN, intD, modD, iIc, cMod, mStore, mStoreO, mDone, gSet, mOwn, mPut, setD, mRet, mDrop, mStuck, mTru, truD, mOrT, mAndT, mNotT, mAnd, mOr, mNot, mIsi, isiT_eq, typD, lenD, mCons, mTup, mLst, mLstN, mVal, oOr, addD, subD, mulI, iIc, cMul, ltD, leD, gtD, geD, gTupD, gCons2, gsNil, mCallV, mCallB, mRs, tupleD, mRetF, mChain, mScr, mScrLen, mScrIx, mMut, appD, max2D, min2D, mRng1, mRng2, rngD1, rngD2, rngOk, mItems, itemsD, mAsgN, mParEE, mParEN, mUn, negD, mCallN1, listD, unsE, powD, cPow, divD, cDiv, mFor, mSl, mSlL, slD, mNoPart, mPart, intO, mSlN, mSlNL, slN, mRevN, revO, mParNC, andD, orD, xorD, shrD, shlD, cShr, mStepN, mStepNL, stepO, mCatN, mCatNL, catN, hR, fit, e1, e2, eq_int, c, m0, mSlL, mPart, mNoPart, slD, intO, hct']
def greatB (d : D) : Bool := match d with
  | .int n => decide (n > 255)
  | _ => false
theorem great_comp {s0 s1 s2 s3 s5 s6 : Sl} {ds : List D} (hd : AllW ds) (hl : ds.length ≤ 100) : C__law_asked_0 [s0, s1, s2, s3, .val (.list ds), s5, s6, .un, .un] = some (.ok (ds.map fun d => .bool (greatB d)) [s0, s1, s2, s3, .val (.list ds), s5, s6, .un, .un]) := by
  have hi : mItems (mVar 4) [s0, s1, s2, s3, .val (.list ds), s5, s6, .un, .un] = some (.ok ds [s0, s1, s2, s3, .val (.list ds), s5, s6, .un, .un]) := by simp [mSeq, mIf, mBol, mBin, mBinL, mBind, mLift, mPure, mPeek, mVar, ixD, iI, bolD, mAsg, mCall1, mCallN, intD, modD, iIc, cMod, mStore, mStoreO, mDone, gSet, mOwn, mPut, setD, mRet, mDrop, mStuck, mTru, truD, mOrT, mAndT, mNotT, mAnd, mOr, mNot, mIsi, isiT_eq, typD, lenD, mCons, mTup, mLst, mLstN, mVal, oOr, addD, subD, mulD, mulI, iIc, cMul, ltD, leD, gtD, geD, gTupD, gCons2, gsNil, mCallV, mCallB, mRs, tupleD, mRetF, mChain, mScr, mScrLen, mScrIx, mMut, appD, max2D, min2D, mRng1, mRng2, rngD1, rngD2, rngOk, mItems, itemsD, mAsgN, mParEE, mParEN, mUn, negD, mCallN1, listD, unsE, powD, cPow, divD, cDiv, mFor, mSl, mSlL, slD, mNoPart, mPart, intO, mSlN, mSlNL, slN, mRevN, revO, mParNC, andD, orD, xorD, shrD, shlD, cShr, mStepN, mStepNL, stepO, mCatN, mCatNL, catN]
  refine comp_is (vs := [7]) (ρe := [s0, s1, s2, s3, .val (.list ds), s5, s6, .un, .un]) hi (fit_of2 (by omega)) ?_
  refine go_map _ fun d hd' => ?_
  refine ⟨[s0, s1, s2, s3, .val (.list ds), s5, s6, .val d, .un], [s0, s1, s2, s3, .val (.list ds), s5, s6, .val d, .un], by simp [unsE, mStore], ?_, by simp [unsE]⟩
  rcases hd d hd' with rfl | ⟨n, rfl, _, _⟩
  · simp [mSeq, mIf, mBol, mBin, mBinL, mBind, mLift, mPure, mPeek, mVar, ixD, iI, bolD, mAsg, mCall1, mCallN, intD, modD, iIc, cMod, mStore, mStoreO, mDone, gSet, mOwn, mPut, setD, mRet, mDrop, mStuck, mTru, truD, mOrT, mAndT, mNotT, mAnd, mOr, mNot, mIsi, isiT_eq, typD, lenD, mCons, mTup, mLst, mLstN, mVal, oOr, addD, subD, mulD, mulI, iIc, cMul, ltD, leD, gtD, geD, gTupD, gCons2, gsNil, mCallV, mCallB, mRs, tupleD, mRetF, mChain, mScr, mScrLen, mScrIx, mMut, appD, max2D, min2D, mRng1, mRng2, rngD1, rngD2, rngOk, mItems, itemsD, mAsgN, mParEE, mParEN, mUn, negD, mCallN1, listD, unsE, powD, cPow, divD, cDiv, mFor, mSl, mSlL, slD, mNoPart, mPart, intO, mSlN, mSlNL, slN, mRevN, revO, mParNC, andD, orD, xorD, shrD, shlD, cShr, mStepN, mStepNL, stepO, mCatN, mCatNL, catN, isntD, isD, Dd.isNon, greatB]
  · simp [mSeq, mIf, mBol, mBin, mBinL, mBind, mLift, mPure, mPeek, mVar, ixD, iI, bolD, mAsg, mCall1, mCallN, intD, modD, iIc, cMod, mStore, mStoreO, mDone, gSet, mOwn, mPut, setD, mRet, mDrop, mStuck, mTru, truD, mOrT, mAndT, mNotT, mAnd, mOr, mNot, mIsi, isiT_eq, typD, lenD, mCons, mTup, mLst, mLstN, mVal, oOr, addD, subD, mulD, mulI, iIc, cMul, ltD, leD, gtD, geD, gTupD, gCons2, gsNil, mCallV, mCallB, mRs, tupleD, mRetF, mChain, mScr, mScrLen, mScrIx, mMut, appD, max2D, min2D, mRng1, mRng2, rngD1, rngD2, rngOk, mItems, itemsD, mAsgN, mParEE, mParEN, mUn, negD, mCallN1, listD, unsE, powD, cPow, divD, cDiv, mFor, mSl, mSlL, slD, mNoPart, mPart, intO, mSlN, mSlNL, slN, mRevN, revO, mParNC, andD, orD, xorD, shrD, shlD, cShr, mStepN, mStepNL, stepO, mCatN, mCatNL, catN, isntD, isD, Dd.isNon, greatB]
theorem zip_bool {ds : List D} {d : D} (h : d ∈ zipL ds (ds.map fun d => .bool (greatB d))) : ∃ x ∈ ds, d = .tuple [x, .bool (greatB x)] := by
  obtain ⟨i, hi⟩ := List.getElem?_of_mem h
  obtain ⟨y, z, h1, h2, rfl⟩ := zipL_get hi
  rw [List.getElem?_map, h1] at h2
  cases h2
  exact ⟨y, List.mem_of_getElem? h1, rfl⟩
theorem words_comp {b : List D} {s1 s2 s3 s5 : Sl} {ds : List D} (hb : Bx b) (hd : AllW ds) (hl : ds.length ≤ 100) : ∃ (es b' : List D), C__law_asked_1 [.io b, s1, s2, s3, .val (.list ds), s5, .own (ds.map fun d => .bool (greatB d)), .un, .un] = some (.ok es [.io b', s1, s2, s3, .val (.list ds), s5, .val (.list (ds.map fun d => .bool (greatB d))), .un, .un]) ∧ Bx b' ∧ (∀ d ∈ es, WD 100000 d) ∧ es.length = ds.length := by
  have hi : mZip (mCons (mVar 4) (mCons (mVar 6) (mPure []))) [.io b, s1, s2, s3, .val (.list ds), s5, .own (ds.map fun d => .bool (greatB d)), .un, .un] = some (.ok (zipL ds (ds.map fun d => .bool (greatB d))) [.io b, s1, s2, s3, .val (.list ds), s5, .val (.list (ds.map fun d => .bool (greatB d))), .un, .un]) := by
    generalize (ds.map fun d => PyData.bool (greatB d)) = G
    simp [mSeq, mIf, mBol, mBin, mBinL, mBind, mLift, mPure, mPeek, mVar, ixD, iI, bolD, mAsg, mCall1, mCallN, intD, modD, iIc, cMod, mStore, mStoreO, mDone, gSet, mOwn, mPut, setD, mRet, mDrop, mStuck, mTru, truD, mOrT, mAndT, mNotT, mAnd, mOr, mNot, mIsi, isiT_eq, typD, lenD, mCons, mTup, mLst, mLstN, mVal, oOr, addD, subD, mulD, mulI, iIc, cMul, ltD, leD, gtD, geD, gTupD, gCons2, gsNil, mCallV, mCallB, mRs, tupleD, mRetF, mChain, mScr, mScrLen, mScrIx, mMut, appD, max2D, min2D, mRng1, mRng2, rngD1, rngD2, rngOk, mItems, itemsD, mAsgN, mParEE, mParEN, mUn, negD, mCallN1, listD, unsE, powD, cPow, divD, cDiv, mFor, mSl, mSlL, slD, mNoPart, mPart, intO, mSlN, mSlNL, slN, mRevN, revO, mParNC, andD, orD, xorD, shrD, shlD, cShr, mStepN, mStepNL, stepO, mCatN, mCatNL, catN, mZip, zipD]
  have hzl : (zipL ds (ds.map fun d => PyData.bool (greatB d))).length = ds.length := by unfold zipL; rw [List.length_zipWith, List.length_map]; omega
  obtain ⟨es, b1, hb1, hP, hle, hg⟩ := go_box (vs := [7, 8]) (g := gTupD 2 (gNamesD [7, 8])) (te := mIf (mTru (mPeek 8)) (mBin addD (mPure (.int 256)) (mCallB 0 2 fn__law_take (mCons (mPure (.int 65280)) (mPure [])))) (mVar 7)) (fun b => [.io b, s1, s2, s3, .val (.list ds), s5, .val (.list (ds.map fun d => .bool (greatB d))), .un, .un]) (WD 100000) (zipL ds (ds.map fun d => .bool (greatB d))) b hb (by
    intro x hx b hb
    obtain ⟨y, hy, rfl⟩ := zip_bool hx
    cases hgr : greatB y with
    | false =>
      refine ⟨y, b, [.io b, s1, s2, s3, .val (.list ds), s5, .val (.list (ds.map fun d => .bool (greatB d))), .val y, .val (.bool false)], [.io b, s1, s2, s3, .val (.list ds), s5, .val (.list (ds.map fun d => .bool (greatB d))), .val y, .val (.bool false)], ?_, hb, by simp [gTupD, gNamesD, unsE, mBind, mStore, mPure], by simp [mSeq, mIf, mBol, mBin, mBinL, mBind, mLift, mPure, mPeek, mVar, ixD, iI, bolD, mAsg, mCall1, mCallN, intD, modD, iIc, cMod, mStore, mStoreO, mDone, gSet, mOwn, mPut, setD, mRet, mDrop, mStuck, mTru, truD, mOrT, mAndT, mNotT, mAnd, mOr, mNot, mIsi, isiT_eq, typD, lenD, mCons, mTup, mLst, mLstN, mVal, oOr, addD, subD, mulD, mulI, iIc, cMul, ltD, leD, gtD, geD, gTupD, gCons2, gsNil, mCallV, mCallB, mRs, tupleD, mRetF, mChain, mScr, mScrLen, mScrIx, mMut, appD, max2D, min2D, mRng1, mRng2, rngD1, rngD2, rngOk, mItems, itemsD, mAsgN, mParEE, mParEN, mUn, negD, mCallN1, listD, unsE, powD, cPow, divD, cDiv, mFor, mSl, mSlL, slD, mNoPart, mPart, intO, mSlN, mSlNL, slN, mRevN, revO, mParNC, andD, orD, xorD, shrD, shlD, cShr, mStepN, mStepNL, stepO, mCatN, mCatNL, catN], by simp [unsE]⟩
      rcases hd y hy with h | ⟨n, h, h0, h1⟩
      · exact .inl h
      · exact .inr ⟨n, h, h0, by omega⟩
    | true =>
      obtain ⟨t, b', e, t0, t1, hb'⟩ := take_ok (m := 65280) hb (by omega) (by omega)
      exact ⟨.int (256 + t), b', [.io b, s1, s2, s3, .val (.list ds), s5, .val (.list (ds.map fun d => .bool (greatB d))), .val y, .val (.bool true)], [.io b', s1, s2, s3, .val (.list ds), s5, .val (.list (ds.map fun d => .bool (greatB d))), .val y, .val (.bool true)], .inr ⟨256 + t, rfl, by omega, by omega⟩, hb', by simp [gTupD, gNamesD, unsE, mBind, mStore, mPure], by simp [mSeq, mIf, mBol, mBin, mBinL, mBind, mLift, mPure, mPeek, mVar, ixD, iI, bolD, mAsg, mCall1, mCallN, intD, modD, iIc, cMod, mStore, mStoreO, mDone, gSet, mOwn, mPut, setD, mRet, mDrop, mStuck, mTru, truD, mOrT, mAndT, mNotT, mAnd, mOr, mNot, mIsi, isiT_eq, typD, lenD, mCons, mTup, mLst, mLstN, mVal, oOr, addD, subD, mulD, mulI, iIc, cMul, ltD, leD, gtD, geD, gTupD, gCons2, gsNil, mCallV, mCallB, mRs, tupleD, mRetF, mChain, mScr, mScrLen, mScrIx, mMut, appD, max2D, min2D, mRng1, mRng2, rngD1, rngD2, rngOk, mItems, itemsD, mAsgN, mParEE, mParEN, mUn, negD, mCallN1, listD, unsE, powD, cPow, divD, cDiv, mFor, mSl, mSlL, slD, mNoPart, mPart, intO, mSlN, mSlNL, slN, mRevN, revO, mParNC, andD, orD, xorD, shrD, shlD, cShr, mStepN, mStepNL, stepO, mCatN, mCatNL, catN, e], by simp [unsE]⟩)
  refine ⟨es, b1, ?_, hb1, hP, by rw [hle, hzl]⟩
  exact comp_is (vs := [7, 8]) (ρe := [.io b1, s1, s2, s3, .val (.list ds), s5, .val (.list (ds.map fun d => .bool (greatB d))), .un, .un]) hi (fit_of2 (by rw [hzl]; omega)) hg
theorem asked_ok {b : List D} (hb : Bx b) : ∃ (xs : List Im) (mark bound : Int) (k : String) (b' : List D), fn__law_asked b [] = some (.ok (.tuple [.list (xs.map itemD), .int mark, .int bound, .str k]), b') ∧ Bx b' ∧ (∀ x ∈ xs, Gi x) ∧ xs.length ≤ 40 ∧ (k = "sum" ∨ k = "xor" ∨ k = "rest") ∧ 0 ≤ bound ∧ bound ≤ 255 := by
  obtain ⟨mark, b1, e1, m0, m1, hb1⟩ := take_ok (m := 256) hb (by omega) (by omega)
  obtain ⟨u, b2, e2, u0, u1, hb2⟩ := take_ok (m := 12) hb1 (by omega) (by omega)
  obtain ⟨v, b3, e3, v0, v1, hb3⟩ := take_ok (m := 256) hb2 (by omega) (by omega)
  obtain ⟨r, b4, e4, r0, r1, hb4⟩ := take_ok (m := 4) hb3 (by omega) (by omega)
  obtain ⟨bound, e5, hbd⟩ := pick4 (a := 255) (b := 5) (c := u) (d := v) r0 r1
  have hbd' : 0 ≤ bound ∧ bound ≤ 255 := by rcases hbd with rfl | rfl | rfl | rfl <;> omega
  obtain ⟨q, b5, e6, q0, q1, hb5⟩ := take_ok (m := 4) hb4 (by omega) (by omega)
  obtain ⟨k, e7, hk⟩ : ∃ k : String, atI [PyData.str "sum", .str "sum", .str "xor", .str "rest"] q = some (.str k) ∧ (k = "sum" ∨ k = "xor" ∨ k = "rest") := by
    obtain ⟨x, hd, e⟩ := ix_in (ds := [PyData.str "sum", .str "sum", .str "xor", .str "rest"]) q0 (by simpa using q1)
    simp only [List.mem_cons, List.not_mem_nil, or_false] at hd
    rcases hd with rfl | rfl | rfl | rfl
    · exact ⟨_, e, .inl rfl⟩
    · exact ⟨_, e, .inl rfl⟩
    · exact ⟨_, e, .inr (.inl rfl)⟩
    · exact ⟨_, e, .inr (.inr rfl)⟩
  obtain ⟨ds, b6, e8, hb6, hds, hdl⟩ := stream_ok (mark := mark) (bound := bound) hk hb5 m0 m1 hbd'.1
  obtain ⟨t, b7, e9, t0, t1, hb7⟩ := take_ok (m := 2) hb6 (by omega) (by omega)
  have hds' : ∀ d ∈ ds, WD 100000 d := fun d hd => by
    rcases hds d hd with h | ⟨n, h, h0, h1⟩
    · exact .inl h
    · exact .inr ⟨n, h, h0, by omega⟩
  have z0 : atI [PyData.int 10, .int 16] 0 = some (.int 10) := rfl
  have z1 : atI [PyData.int 10, .int 16] 1 = some (.int 16) := rfl
  rcases (show t = 0 ∨ t = 1 by omega) with rfl | rfl
  · obtain ⟨xs, b8, e10, hb8, hx, hxl⟩ := frames_ok (bits := 10) hb7 hds' (by omega) (by omega)
    refine ⟨xs, mark, bound, k, b8, ?_, hb8, hx, by omega, hk, hbd'⟩
    have e10' : fn__law_frames b7 [.list ds, .int 10] = some (.ok (.list (xs.map itemD)), b8) := e10
    generalize xs.map itemD = X at *
    simp [fn__law_asked, runB, m__law_asked, env0B, mSeq, mIf, mBol, mBin, mBinL, mBind, mLift, mPure, mPeek, mVar, ixD, iI, bolD, mAsg, mCall1, mCallN, intD, modD, iIc, cMod, mStore, mStoreO, mDone, gSet, mOwn, mPut, setD, mRet, mDrop, mStuck, mTru, truD, mOrT, mAndT, mNotT, mAnd, mOr, mNot, mIsi, isiT_eq, typD, lenD, mCons, mTup, mLst, mLstN, mVal, oOr, addD, subD, mulD, mulI, iIc, cMul, ltD, leD, gtD, geD, gTupD, gCons2, gsNil, mCallV, mCallB, mRs, tupleD, mRetF, mChain, mScr, mScrLen, mScrIx, mMut, appD, max2D, min2D, mRng1, mRng2, rngD1, rngD2, rngOk, mItems, itemsD, mAsgN, mParEE, mParEN, mUn, negD, mCallN1, listD, unsE, powD, cPow, divD, cDiv, mFor, mSl, mSlL, slD, mNoPart, mPart, intO, mSlN, mSlNL, slN, mRevN, revO, mParNC, andD, orD, xorD, shrD, shlD, cShr, mStepN, mStepNL, stepO, mCatN, mCatNL, catN, e1, e2, e3, e4, e5, e6, e7, e8, e9, z0, eq_int, e10', fit]
  · have hg := great_comp (s0 := .io b7) (s1 := .val (.int mark)) (s2 := .val (.int bound)) (s3 := .val (.str k)) (s5 := .val (.int 16)) (s6 := .un) hds (by omega)
    obtain ⟨es, b8, e10, hb8, hes, hel⟩ := words_comp (s1 := .val (.int mark)) (s2 := .val (.int bound)) (s3 := .val (.str k)) (s5 := .val (.int 16)) hb7 hds (by omega)
    obtain ⟨xs, b9, e11, hb9, hx, hxl⟩ := frames_ok (bits := 16) hb8 hes (by omega) (by omega)
    refine ⟨xs, mark, bound, k, b9, ?_, hb9, hx, by omega, hk, hbd'⟩
    have e11' : fn__law_frames b8 [.list es, .int 16] = some (.ok (.list (xs.map itemD)), b9) := e11
    generalize (ds.map fun d => PyData.bool (greatB d)) = G at *
    generalize xs.map itemD = X at *
    simp [fn__law_asked, runB, m__law_asked, env0B, mSeq, mIf, mBol, mBin, mBinL, mBind, mLift, mPure, mPeek, mVar, ixD, iI, bolD, mAsg, mCall1, mCallN, intD, modD, iIc, cMod, mStore, mStoreO, mDone, gSet, mOwn, mPut, setD, mRet, mDrop, mStuck, mTru, truD, mOrT, mAndT, mNotT, mAnd, mOr, mNot, mIsi, isiT_eq, typD, lenD, mCons, mTup, mLst, mLstN, mVal, oOr, addD, subD, mulD, mulI, iIc, cMul, ltD, leD, gtD, geD, gTupD, gCons2, gsNil, mCallV, mCallB, mRs, tupleD, mRetF, mChain, mScr, mScrLen, mScrIx, mMut, appD, max2D, min2D, mRng1, mRng2, rngD1, rngD2, rngOk, mItems, itemsD, mAsgN, mParEE, mParEN, mUn, negD, mCallN1, listD, unsE, powD, cPow, divD, cDiv, mFor, mSl, mSlL, slD, mNoPart, mPart, intO, mSlN, mSlNL, slN, mRevN, revO, mParNC, andD, orD, xorD, shrD, shlD, cShr, mStepN, mStepNL, stepO, mCatN, mCatNL, catN, e1, e2, e3, e4, e5, e6, e7, e8, e9, z1, eq_int, hg, e10, e11', fit]

/-! ### the items can be shown -/
theorem shw_word : Shw 40 0 (.str "word") := shw_str (by decide +kernel) (by decide +kernel)
theorem shw_torn : Shw 40 0 (.str "torn") := shw_str (by decide +kernel) (by decide +kernel)
theorem shw_stop : Shw 40 0 (.str "stop") := shw_str (by decide +kernel) (by decide +kernel)
theorem shw_start : Shw 40 0 (.str "start") := shw_str (by decide +kernel) (by decide +kernel)
theorem shw_check : Shw 40 0 (.str "check") := shw_str (by decide +kernel) (by decide +kernel)
theorem shw_d : Shw 40 0 (.str "d") := shw_str (by decide +kernel) (by decide +kernel)
theorem shw_num {i : Int} (h : 0 ≤ i ∧ i < 10000000) : Shw 40 0 (.int i) := shw_mono (shw_int (by have := h.1; have := h.2; omega)) (by omega) (by omega)
theorem sh_txt (s : String) : Sh 0 (.str (Str.ofString s)) := ⟨by simp [PyData.canLay0, strOk_of], by simp [PyData.depth]⟩
theorem gi_pl {x : Im} (h : Gi x) : Shw 2000 2 (.tuple x.pl) := by
  obtain ⟨ms, e, hl, hm⟩ := h.pl
  have := shw_tuple (B := 90) (n := 1) (ds := ms.map fun m => PyData.tuple [.str "d", .int m]) fun d hd => by
    obtain ⟨m, hm', rfl⟩ := List.mem_map.mp hd
    refine shw_mono (shw_tuple (B := 40) (n := 0) fun d hd => ?_) (by simp) (by omega)
    simp only [List.mem_cons, List.not_mem_nil, or_false] at hd
    rcases hd with rfl | rfl
    · exact shw_d
    · exact shw_num (hm m hm')
  rw [List.length_map] at this
  rw [e]
  exact shw_mono this (by
    have : (90 + 2) * ms.length ≤ (90 + 2) * 20 := Nat.mul_le_mul_left _ hl
    omega) (by omega)
theorem gi_shw {x : Im} (h : Gi x) : Shw 11000 3 (itemD x) := by
  have five : ∀ a b : D, Shw 40 0 a → Shw 40 0 b → Shw 11000 3 (.tuple [a, b, .int x.b, .int x.e, .tuple x.pl]) := fun a b ha hb => by
    have := shw_tuple (B := 2000) (n := 2) (ds := [a, b, .int x.b, .int x.e, .tuple x.pl]) fun d hd => by
      simp only [List.mem_cons, List.not_mem_nil, or_false] at hd
      rcases hd with rfl | rfl | rfl | rfl | rfl
      · exact shw_mono ha (by omega) (by omega)
      · exact shw_mono hb (by omega) (by omega)
      · exact shw_mono (shw_num h.b) (by omega) (by omega)
      · exact shw_mono (shw_num h.e) (by omega) (by omega)
      · exact gi_pl h
    exact shw_mono this (by simp) (by omega)
  unfold itemD
  cases hn : x.n with
  | some v =>
    have := h.n v hn
    exact five _ _ shw_word (shw_num (by omega))
  | none =>
    refine five _ _ shw_torn ?_
    rcases h.w with e | e | e
    · rw [e]; exact shw_stop
    · rw [e]; exact shw_start
    · rw [e]; exact shw_check
theorem gi_sh {x : Im} (h : Gi x) : Sh 3 (itemD x) := by
  obtain ⟨ms, e, hl, hm⟩ := h.pl
  have five : ∀ a b : D, Sh 0 a → Sh 0 b → Sh 3 (.tuple [a, b, .int x.b, .int x.e, .tuple x.pl]) := fun a b ha hb => by
    refine Sh.tuple fun d hd => ?_
    simp only [List.mem_cons, List.not_mem_nil, or_false] at hd
    rcases hd with rfl | rfl | rfl | rfl | rfl
    · exact ha.mono (by omega)
    · exact hb.mono (by omega)
    · exact (Sh.int _).mono (by omega)
    · exact (Sh.int _).mono (by omega)
    · rw [e]
      refine Sh.tuple fun d hd => ?_
      obtain ⟨m, hm', rfl⟩ := List.mem_map.mp hd
      refine Sh.tuple fun d hd => ?_
      simp only [List.mem_cons, List.not_mem_nil, or_false] at hd
      rcases hd with rfl | rfl
      · exact sh_txt _
      · exact Sh.int _
  unfold itemD
  cases hn : x.n with
  | some v => exact five _ _ (sh_txt _) (Sh.int _)
  | none =>
    refine five _ _ (sh_txt _) ?_
    rcases h.w with e | e | e <;> rw [e] <;> exact sh_txt _
theorem gi_repr {xs : List Im} (h : ∀ x ∈ xs, Gi x) (hl : xs.length ≤ 40) : ∃ z, PyData.strOk z = true ∧ reprG [.list (xs.map itemD)] = some (.str z) := by
  have hs : Shw (2 + (11000 + 2) * (xs.map itemD).length) 4 (.list (xs.map itemD)) := shw_list (B := 11000) (n := 3) fun d hd => by
    obtain ⟨x, hx, rfl⟩ := List.mem_map.mp hd
    exact gi_shw (h x hx)
  exact ⟨_, hs.ok, repr_shw hs (by rw [List.length_map]; omega) (by omega)⟩
theorem gi_byte {xs : List Im} (h : ∀ x ∈ xs, Gi x) : ∀ x ∈ xs, ∀ n, byteOf x = some n → 0 ≤ n := by
  intro x hx n e
  unfold byteOf at e
  cases hn : x.n with
  | none => rw [hn] at e; cases e
  | some v =>
    have := ((h x hx).n v hn).1
    rw [hn] at e
    dsimp only at e
    split at e
    · cases e; exact this
    · cases e
theorem gi_shim {xs : List Im} (h : ∀ x ∈ xs, Gi x) : ShIm xs := fun x hx => gi_sh (h x hx)
/-! ### what is told is alike to itself -/
theorem alk_rng (a b : Nat) (h : b ≤ 1000) : Alk 1 (.tuple (rngL (a : Nat) (b : Nat))) := .tup 0 _ (by rw [rngL_length]; omega) fun d hd => by
  obtain ⟨i, rfl, _⟩ := rngL_mem hd
  exact .int _ _
theorem alk_mono {n : Nat} {d : D} (h : Alk n d) : Alk (n + 1) d := by
  induction h with
  | int n i => exact .int _ i
  | bool n b => exact .bool _ b
  | str n s => exact .str _ s
  | tup n ds hl _ ih => exact .tup _ ds hl ih
  | lst n ds hl _ ih => exact .lst _ ds hl ih
theorem alk_head {t : Tr} (h : ∀ b, t = .pkt b → b.length ≤ 1000) : ∀ d ∈ headD t, Alk 2 d := by
  intro d hd
  cases t with
  | pkt b =>
    have hd : d ∈ [PyData.str "packet", .tuple (b.map PyData.int)] := hd
    simp only [List.mem_cons, List.not_mem_nil, or_false] at hd
    rcases hd with rfl | rfl
    · exact .str _ _
    · refine .tup 1 _ (by rw [List.length_map]; have := h b rfl; omega) fun d hd => ?_
      obtain ⟨n, _, rfl⟩ := List.mem_map.mp hd
      exact .int _ _
  | word =>
    have hd : d ∈ [PyData.str "torn", .str "word"] := hd
    simp only [List.mem_cons, List.not_mem_nil, or_false] at hd
    rcases hd with rfl | rfl <;> exact .str _ _
  | long =>
    have hd : d ∈ [PyData.str "torn", .str "long"] := hd
    simp only [List.mem_cons, List.not_mem_nil, or_false] at hd
    rcases hd with rfl | rfl <;> exact .str _ _
  | chk =>
    have hd : d ∈ [PyData.str "torn", .str "check"] := hd
    simp only [List.mem_cons, List.not_mem_nil, or_false] at hd
    rcases hd with rfl | rfl <;> exact .str _ _
  | done =>
    have hd : d ∈ [PyData.str "torn", .str "end"] := hd
    simp only [List.mem_cons, List.not_mem_nil, or_false] at hd
    rcases hd with rfl | rfl <;> exact .str _ _
theorem head_len (t : Tr) : (headD t).length = 2 := by cases t <;> rfl
theorem alk_entP {most : Int} {ck : List Int → Int} {xs : List Im} {x : Im} {i : Nat} (hx : ∀ x ∈ xs, ∀ n, byteOf x = some n → 0 ≤ n) (hi : i < xs.length) (hl : xs.length ≤ 900) : Alk 3 (entD xs x i (tryP most ck [] (xs.drop (i + 1)))) := by
  obtain ⟨_, hm⟩ := many_le (most := most) (ck := ck) hx hi
  have ht : ∀ b, tryP most ck [] (xs.drop (i + 1)) = .pkt b → b.length ≤ 1000 := fun b e => by
    have := tryP_len _ _ _ (fun x h => hx x (List.mem_of_mem_drop h)) e
    rw [List.length_nil, List.length_drop] at this
    omega
  generalize tryP most ck [] (xs.drop (i + 1)) = t at *
  refine .tup 2 _ (by rw [List.length_append, head_len]; simp only [List.length_cons, List.length_nil]; omega) fun d hd => ?_
  rcases List.mem_append.mp hd with h | h
  · exact alk_head ht d h
  · simp only [List.mem_cons, List.not_mem_nil, or_false] at h
    rcases h with rfl | rfl | rfl
    · exact .int _ _
    · exact .int _ _
    · exact alk_mono (alk_rng _ _ (by omega))
theorem alk_walkP {mark most : Int} {ck : List Int → Int} {xs : List Im} (hx : ∀ x ∈ xs, ∀ n, byteOf x = some n → 0 ≤ n) (hl : xs.length ≤ 900) : ∀ (f i : Nat), ∀ d ∈ walkP mark most ck xs f i, Alk 3 d
  | 0, i, d, h => by cases h
  | f + 1, i, d, h => by
    unfold walkP at h
    cases hi : xs[i]? with
    | none => rw [hi] at h; cases h
    | some x =>
      rw [hi] at h
      dsimp only at h
      have hlt : i < xs.length := (List.getElem?_eq_some_iff.mp hi).1
      split at h
      · rcases List.mem_cons.mp h with rfl | h
        · exact alk_entP hx hlt hl
        · exact alk_walkP hx hl f _ d h
      · exact alk_walkP hx hl f _ d h
theorem right_ok {xs : List Im} {mark bound : Int} {k : String} (hk : k = "sum" ∨ k = "xor" ∨ k = "rest") (hx : ∀ x ∈ xs, Gi x) (hl : xs.length ≤ 40) (n0 : 0 ≤ bound) (n1 : bound ≤ 255) :
    fn__law_right [.list (xs.map itemD), .int mark, .int bound, .str k] = some (.ok (.bool true)) := by
  have hb := gi_byte hx
  have e1 := law_packets_ok (xs := xs) (mark := mark) (most := bound) hk hb (gi_shim hx) (by omega)
  have e2 := packets_in_ok (I := .list (xs.map itemD)) (xs := xs) (mark := mark) (most := bound) (.inl rfl) hk hb (by omega) n0 (by omega)
  have e3 := packets_in_ok (I := .tuple (xs.map itemD)) (xs := xs) (mark := mark) (most := bound) (.inr rfl) hk hb (by omega) n0 (by omega)
  obtain ⟨z, hz, e4⟩ := gi_repr hx hl
  have e5 : eqD (.str z) (.str z) = some (.bool true) := by rw [eqS z z hz hz]; simp
  have ha := alk_walkP (mark := mark) (most := bound) (ck := chk k) hb (by omega) 1000 0
  have hal := walk_len (mark := mark) (most := bound) (ck := chk k) hb 1000 0
  have e6 : fn__law_alike 6 [.tuple (walkP mark bound (chk k) xs 1000 0), .tuple (walkP mark bound (chk k) xs 1000 0)] = some (.ok (.bool true)) := alike_self 4 1 _ (.tup 3 _ (by omega) ha)
  have t1 : ∀ o : List D, tupleD [.list o] = some (.tuple o) := fun _ => rfl
  clear ha hal hb
  rcases hk with rfl | rfl | rfl
  · generalize walkP mark bound (chk "sum") xs 1000 0 = O at *
    generalize xs.map itemD = X at *
    by_cases c : bound = 255
    · subst c
      simp [fn__law_right, runV, m__law_right, env0, mSeq, mIf, mBol, mBin, mBinL, mBind, mLift, mPure, mPeek, mVar, ixD, iI, bolD, mAsg, mCall1, mCallN, intD, modD, iIc, cMod, mStore, mStoreO, mDone, gSet, mOwn, mPut, setD, mRet, mDrop, mStuck, mTru, truD, mOrT, mAndT, mNotT, mAnd, mOr, mNot, mIsi, isiT_eq, typD, lenD, mCons, mTup, mLst, mLstN, mVal, oOr, addD, subD, mulD, mulI, iIc, cMul, ltD, leD, gtD, geD, gTupD, gCons2, gsNil, mCallV, mCallB, mRs, tupleD, mRetF, mChain, mScr, mScrLen, mScrIx, mMut, appD, max2D, min2D, mRng1, mRng2, rngD1, rngD2, rngOk, mItems, itemsD, mAsgN, mParEE, mParEN, mUn, negD, mCallN1, listD, unsE, powD, cPow, divD, cDiv, mFor, mSl, mSlL, slD, mNoPart, mPart, intO, mSlN, mSlNL, slN, mRevN, revO, mParNC, andD, orD, xorD, shrD, shlD, cShr, mStepN, mStepNL, stepO, mCatN, mCatNL, catN, mParEE, mCallK, e1, e2, e3, e4, e5, e6, t1, eq_int, k_ss]
    · simp [fn__law_right, runV, m__law_right, env0, mSeq, mIf, mBol, mBin, mBinL, mBind, mLift, mPure, mPeek, mVar, ixD, iI, bolD, mAsg, mCall1, mCallN, intD, modD, iIc, cMod, mStore, mStoreO, mDone, gSet, mOwn, mPut, setD, mRet, mDrop, mStuck, mTru, truD, mOrT, mAndT, mNotT, mAnd, mOr, mNot, mIsi, isiT_eq, typD, lenD, mCons, mTup, mLst, mLstN, mVal, oOr, addD, subD, mulD, mulI, iIc, cMul, ltD, leD, gtD, geD, gTupD, gCons2, gsNil, mCallV, mCallB, mRs, tupleD, mRetF, mChain, mScr, mScrLen, mScrIx, mMut, appD, max2D, min2D, mRng1, mRng2, rngD1, rngD2, rngOk, mItems, itemsD, mAsgN, mParEE, mParEN, mUn, negD, mCallN1, listD, unsE, powD, cPow, divD, cDiv, mFor, mSl, mSlL, slD, mNoPart, mPart, intO, mSlN, mSlNL, slN, mRevN, revO, mParNC, andD, orD, xorD, shrD, shlD, cShr, mStepN, mStepNL, stepO, mCatN, mCatNL, catN, mParEE, mCallK, e1, e2, e3, e4, e5, e6, t1, eq_int, k_ss, c]
  · generalize walkP mark bound (chk "xor") xs 1000 0 = O at *
    generalize xs.map itemD = X at *
    by_cases c : bound = 255
    · subst c
      simp [fn__law_right, runV, m__law_right, env0, mSeq, mIf, mBol, mBin, mBinL, mBind, mLift, mPure, mPeek, mVar, ixD, iI, bolD, mAsg, mCall1, mCallN, intD, modD, iIc, cMod, mStore, mStoreO, mDone, gSet, mOwn, mPut, setD, mRet, mDrop, mStuck, mTru, truD, mOrT, mAndT, mNotT, mAnd, mOr, mNot, mIsi, isiT_eq, typD, lenD, mCons, mTup, mLst, mLstN, mVal, oOr, addD, subD, mulD, mulI, iIc, cMul, ltD, leD, gtD, geD, gTupD, gCons2, gsNil, mCallV, mCallB, mRs, tupleD, mRetF, mChain, mScr, mScrLen, mScrIx, mMut, appD, max2D, min2D, mRng1, mRng2, rngD1, rngD2, rngOk, mItems, itemsD, mAsgN, mParEE, mParEN, mUn, negD, mCallN1, listD, unsE, powD, cPow, divD, cDiv, mFor, mSl, mSlL, slD, mNoPart, mPart, intO, mSlN, mSlNL, slN, mRevN, revO, mParNC, andD, orD, xorD, shrD, shlD, cShr, mStepN, mStepNL, stepO, mCatN, mCatNL, catN, mParEE, mCallK, e1, e2, e3, e4, e5, e6, t1, eq_int, k_xs]
    · simp [fn__law_right, runV, m__law_right, env0, mSeq, mIf, mBol, mBin, mBinL, mBind, mLift, mPure, mPeek, mVar, ixD, iI, bolD, mAsg, mCall1, mCallN, intD, modD, iIc, cMod, mStore, mStoreO, mDone, gSet, mOwn, mPut, setD, mRet, mDrop, mStuck, mTru, truD, mOrT, mAndT, mNotT, mAnd, mOr, mNot, mIsi, isiT_eq, typD, lenD, mCons, mTup, mLst, mLstN, mVal, oOr, addD, subD, mulD, mulI, iIc, cMul, ltD, leD, gtD, geD, gTupD, gCons2, gsNil, mCallV, mCallB, mRs, tupleD, mRetF, mChain, mScr, mScrLen, mScrIx, mMut, appD, max2D, min2D, mRng1, mRng2, rngD1, rngD2, rngOk, mItems, itemsD, mAsgN, mParEE, mParEN, mUn, negD, mCallN1, listD, unsE, powD, cPow, divD, cDiv, mFor, mSl, mSlL, slD, mNoPart, mPart, intO, mSlN, mSlNL, slN, mRevN, revO, mParNC, andD, orD, xorD, shrD, shlD, cShr, mStepN, mStepNL, stepO, mCatN, mCatNL, catN, mParEE, mCallK, e1, e2, e3, e4, e5, e6, t1, eq_int, k_xs, c]
  · generalize walkP mark bound (chk "rest") xs 1000 0 = O at *
    generalize xs.map itemD = X at *
    by_cases c : bound = 255
    · subst c
      simp [fn__law_right, runV, m__law_right, env0, mSeq, mIf, mBol, mBin, mBinL, mBind, mLift, mPure, mPeek, mVar, ixD, iI, bolD, mAsg, mCall1, mCallN, intD, modD, iIc, cMod, mStore, mStoreO, mDone, gSet, mOwn, mPut, setD, mRet, mDrop, mStuck, mTru, truD, mOrT, mAndT, mNotT, mAnd, mOr, mNot, mIsi, isiT_eq, typD, lenD, mCons, mTup, mLst, mLstN, mVal, oOr, addD, subD, mulD, mulI, iIc, cMul, ltD, leD, gtD, geD, gTupD, gCons2, gsNil, mCallV, mCallB, mRs, tupleD, mRetF, mChain, mScr, mScrLen, mScrIx, mMut, appD, max2D, min2D, mRng1, mRng2, rngD1, rngD2, rngOk, mItems, itemsD, mAsgN, mParEE, mParEN, mUn, negD, mCallN1, listD, unsE, powD, cPow, divD, cDiv, mFor, mSl, mSlL, slD, mNoPart, mPart, intO, mSlN, mSlNL, slN, mRevN, revO, mParNC, andD, orD, xorD, shrD, shlD, cShr, mStepN, mStepNL, stepO, mCatN, mCatNL, catN, mParEE, mCallK, e1, e2, e3, e4, e5, e6, t1, eq_int, k_rs]
    · simp [fn__law_right, runV, m__law_right, env0, mSeq, mIf, mBol, mBin, mBinL, mBind, mLift, mPure, mPeek, mVar, ixD, iI, bolD, mAsg, mCall1, mCallN, intD, modD, iIc, cMod, mStore, mStoreO, mDone, gSet, mOwn, mPut, setD, mRet, mDrop, mStuck, mTru, truD, mOrT, mAndT, mNotT, mAnd, mOr, mNot, mIsi, isiT_eq, typD, lenD, mCons, mTup, mLst, mLstN, mVal, oOr, addD, subD, mulD, mulI, iIc, cMul, ltD, leD, gtD, geD, gTupD, gCons2, gsNil, mCallV, mCallB, mRs, tupleD, mRetF, mChain, mScr, mScrLen, mScrIx, mMut, appD, max2D, min2D, mRng1, mRng2, rngD1, rngD2, rngOk, mItems, itemsD, mAsgN, mParEE, mParEN, mUn, negD, mCallN1, listD, unsE, powD, cPow, divD, cDiv, mFor, mSl, mSlL, slD, mNoPart, mPart, intO, mSlN, mSlNL, slN, mRevN, revO, mParNC, andD, orD, xorD, shrD, shlD, cShr, mStepN, mStepNL, stepO, mCatN, mCatNL, catN, mParEE, mCallK, e1, e2, e3, e4, e5, e6, t1, eq_int, k_rs, c]

structure Gq (d : D) : Prop where
  q : ∃ (xs : List Im) (mark bound : Int) (k : String), d = .tuple [.list (xs.map itemD), .int mark, .int bound, .str k] ∧ (∀ x ∈ xs, Gi x) ∧ xs.length ≤ 40 ∧ (k = "sum" ∨ k = "xor" ∨ k = "rest") ∧ 0 ≤ bound ∧ bound ≤ 255
theorem cell_turn {ns : List Int} {k : Int} (s2 s3 s4 s5 s6 s7 : Sl) (h0 : 0 ≤ k) (h1 : k < 1000) :
    ∃ a b c d e f, L_law_1 [.scr ns, .val (.int k), s2, s3, s4, s5, s6, s7] = some (.ok .nx [.scr ns, .val (.int k), a, b, c, d, e, f]) := by
  obtain ⟨bs, e1, hb⟩ := box_ok ns k h0 h1
  obtain ⟨xs, m1, n1, k1, b1, e2, hb1, hx, hxl, hk1, n10, n11⟩ := asked_ok hb
  obtain ⟨ys, m2, n2, k2, b2, e3, hb2, hy, hyl, hk2, n20, n21⟩ := asked_ok hb1
  have ga : Gq (.tuple [.list (xs.map itemD), .int m1, .int n1, .str k1]) := ⟨xs, m1, n1, k1, rfl, hx, hxl, hk1, n10, n11⟩
  have gb : Gq (.tuple [.list (ys.map itemD), .int m2, .int n2, .str k2]) := ⟨ys, m2, n2, k2, rfl, hy, hyl, hk2, n20, n21⟩
  generalize PyData.tuple [.list (xs.map itemD), .int m1, .int n1, .str k1] = A at *
  generalize PyData.tuple [.list (ys.map itemD), .int m2, .int n2, .str k2] = B at *
  obtain ⟨ρ', h5, c4, c5, c6, c7, rfl⟩ := forL_inv (g := gTupD 4 (gCons2 (mStore 4) (gCons2 (mStore 5) (gCons2 (mStore 6) (gCons2 (mStore 7) gsNil))))) (body := L_law_0) (fun ρ => ∃ s4 s5 s6 s7, ρ = [.scr ns, .val (.int k), .own b2, .own [A, B], s4, s5, s6, s7]) [A, B, A] [.scr ns, .val (.int k), .own b2, .own [A, B], s4, s5, s6, s7] ⟨_, _, _, _, rfl⟩ (by
    rintro d ρ hd ⟨s4, s5, s6, s7, rfl⟩
    have hg : Gq d := by
      simp only [List.mem_cons, List.not_mem_nil, or_false] at hd
      rcases hd with rfl | rfl | rfl <;> assumption
    obtain ⟨zs, m, n, kk, rfl, hz, hzl, hkk, n0, n1'⟩ := hg
    have hr := right_ok (mark := m) hkk hz hzl n0 n1'
    generalize zs.map itemD = Z at *
    exact ⟨[.scr ns, .val (.int k), .own b2, .own [A, B], .val (.list Z), .val (.int m), .val (.int n), .val (.str kk)], _, by simp [gTupD, gCons2, gsNil, mBind, mStore, mPure], Or.inl (Eq.trans (b := some (.ok .nx [.scr ns, .val (.int k), .own b2, .own [A, B], .val (.list Z), .val (.int m), .val (.int n), .val (.str kk)])) (by simp [L_law_0, mSeq, mIf, mBol, mBin, mBinL, mBind, mLift, mPure, mPeek, mVar, ixD, iI, bolD, mAsg, mCall1, mCallN, intD, modD, iIc, cMod, mStore, mStoreO, mDone, gSet, mOwn, mPut, setD, mRet, mDrop, mStuck, mTru, truD, mOrT, mAndT, mNotT, mAnd, mOr, mNot, mIsi, isiT_eq, typD, lenD, mCons, mTup, mLst, mLstN, mVal, oOr, addD, subD, mulD, mulI, iIc, cMul, ltD, leD, gtD, geD, gTupD, gCons2, gsNil, mCallV, mCallB, mRs, tupleD, mRetF, mChain, mScr, mScrLen, mScrIx, mMut, appD, max2D, min2D, mRng1, mRng2, rngD1, rngD2, rngOk, mItems, itemsD, mAsgN, mParEE, mParEN, mUn, negD, mCallN1, listD, unsE, powD, cPow, divD, cDiv, mFor, mSl, mSlL, slD, mNoPart, mPart, intO, mSlN, mSlNL, slN, mRevN, revO, mParNC, andD, orD, xorD, shrD, shlD, cShr, mStepN, mStepNL, stepO, mCatN, mCatNL, catN, hr]) rfl), _, _, _, _, rfl⟩)
  have hi : mItems (mBinL addD 3 (mSlL 3 mNoPart (mPart (mPure (.int 1))))) [.scr ns, .val (.int k), .own b2, .own [A, B], s4, s5, s6, s7] = some (.ok [A, B, A] [.scr ns, .val (.int k), .own b2, .own [A, B], s4, s5, s6, s7]) := by
    have hc : cutL [A, B] none (some 1) = [A] := rfl
    have ha : catL (.list [A, B]) (.list [A]) = some (.list [A, B, A]) := by simp [catL, fit]
    simp [mSeq, mIf, mBol, mBin, mBinL, mBind, mLift, mPure, mPeek, mVar, ixD, iI, bolD, mAsg, mCall1, mCallN, intD, modD, iIc, cMod, mStore, mStoreO, mDone, gSet, mOwn, mPut, setD, mRet, mDrop, mStuck, mTru, truD, mOrT, mAndT, mNotT, mAnd, mOr, mNot, mIsi, isiT_eq, typD, lenD, mCons, mTup, mLst, mLstN, mVal, oOr, addD, subD, mulD, mulI, iIc, cMul, ltD, leD, gtD, geD, gTupD, gCons2, gsNil, mCallV, mCallB, mRs, tupleD, mRetF, mChain, mScr, mScrLen, mScrIx, mMut, appD, max2D, min2D, mRng1, mRng2, rngD1, rngD2, rngOk, mItems, itemsD, mAsgN, mParEE, mParEN, mUn, negD, mCallN1, listD, unsE, powD, cPow, divD, cDiv, mFor, mSl, mSlL, slD, mNoPart, mPart, intO, mSlN, mSlNL, slN, mRevN, revO, mParNC, andD, orD, xorD, shrD, shlD, cShr, mStepN, mStepNL, stepO, mCatN, mCatNL, catN, mSlL, mPart, mNoPart, slD, intO, hc, ha]
  have hR : R_law_0 [.scr ns, .val (.int k), .own b2, .own [A, B], s4, s5, s6, s7] = some (.ok .nx [.scr ns, .val (.int k), .own b2, .own [A, B], c4, c5, c6, c7]) := by
    unfold R_law_0 mFor
    rw [bind_is hi]
    exact h5
  refine ⟨.own b2, .own [A, B], c4, c5, c6, c7, ?_⟩
  refine (seq_nx (ρ' := [.scr ns, .val (.int k), .own bs, s3, s4, s5, s6, s7]) (by simp [mAsgS, mSeq, mIf, mBol, mBin, mBinL, mBind, mLift, mPure, mPeek, mVar, ixD, iI, bolD, mAsg, mCall1, mCallN, intD, modD, iIc, cMod, mStore, mStoreO, mDone, gSet, mOwn, mPut, setD, mRet, mDrop, mStuck, mTru, truD, mOrT, mAndT, mNotT, mAnd, mOr, mNot, mIsi, isiT_eq, typD, lenD, mCons, mTup, mLst, mLstN, mVal, oOr, addD, subD, mulD, mulI, iIc, cMul, ltD, leD, gtD, geD, gTupD, gCons2, gsNil, mCallV, mCallB, mRs, tupleD, mRetF, mChain, mScr, mScrLen, mScrIx, mMut, appD, max2D, min2D, mRng1, mRng2, rngD1, rngD2, rngOk, mItems, itemsD, mAsgN, mParEE, mParEN, mUn, negD, mCallN1, listD, unsE, powD, cPow, divD, cDiv, mFor, mSl, mSlL, slD, mNoPart, mPart, intO, mSlN, mSlNL, slN, mRevN, revO, mParNC, andD, orD, xorD, shrD, shlD, cShr, mStepN, mStepNL, stepO, mCatN, mCatNL, catN, e1])).trans ?_
  refine (seq_nx (ρ' := [.scr ns, .val (.int k), .own b2, .own [A, B], s4, s5, s6, s7]) ?_).trans hR
  simp [mSeq, mIf, mBol, mBin, mBinL, mBind, mLift, mPure, mPeek, mVar, ixD, iI, bolD, mAsg, mCall1, mCallN, intD, modD, iIc, cMod, mStore, mStoreO, mDone, gSet, mOwn, mPut, setD, mRet, mDrop, mStuck, mTru, truD, mOrT, mAndT, mNotT, mAnd, mOr, mNot, mIsi, isiT_eq, typD, lenD, mCons, mTup, mLst, mLstN, mVal, oOr, addD, subD, mulD, mulI, iIc, cMul, ltD, leD, gtD, geD, gTupD, gCons2, gsNil, mCallV, mCallB, mRs, tupleD, mRetF, mChain, mScr, mScrLen, mScrIx, mMut, appD, max2D, min2D, mRng1, mRng2, rngD1, rngD2, rngOk, mItems, itemsD, mAsgN, mParEE, mParEN, mUn, negD, mCallN1, listD, unsE, powD, cPow, divD, cDiv, mFor, mSl, mSlL, slD, mNoPart, mPart, intO, mSlN, mSlNL, slN, mRevN, revO, mParNC, andD, orD, xorD, shrD, shlD, cShr, mStepN, mStepNL, stepO, mCatN, mCatNL, catN, e2, e3, mLstN, fit]
theorem law_true (ns : List Int) (hn : ns.length ≤ 63) : fn_law ns = some (.ok (.bool true)) := by
  have hM : ∃ M : Int, 0 ≤ M ∧ M ≤ 6 ∧ mRng1 (mCons (mCallN max2D (mCons (mPure (.int 2)) (mCons (mCallN min2D (mCons (mPure (.int 6)) (mCons (mScrLen 0) (mPure [])))) (mPure [])))) (mPure [])) [.scr ns, .un, .un, .un, .un, .un, .un, .un] = some (.ok (rngL 0 M) [.scr ns, .un, .un, .un, .un, .un, .un, .un]) := by
    have h0 : ∃ M : Int, 0 ≤ M ∧ M ≤ 6 ∧ max2D [.int 2, .int (if (ns.length : Int) < 6 then (ns.length : Int) else 6)] = some (.int M) :=
      ⟨_, by split <;> split <;> omega, by split <;> split <;> omega, rfl⟩
    obtain ⟨M, h1, h2, h3⟩ := h0
    refine ⟨M, h1, h2, rng1_is ?_ (rngOk_le (by omega) (by omega))⟩
    simp [mCons, mCallN, min2D, mBind, mPure, mLift, mScrLen, mScr, h3]
  obtain ⟨M, h1, h2, hr⟩ := hM
  obtain ⟨ρ', h, _⟩ := forL_inv (g := mStore 1) (body := L_law_1) (fun ρ => ∃ z a b c d e f, ρ = [.scr ns, z, a, b, c, d, e, f]) (rngL 0 M) [.scr ns, .un, .un, .un, .un, .un, .un, .un] ⟨_, _, _, _, _, _, _, rfl⟩ (by
    rintro x ρ hd ⟨z, a, b, c, d, e, f, rfl⟩
    obtain ⟨t, rfl, t0, t1⟩ := rngL_mem hd
    obtain ⟨a', b', c', d', e', f', q⟩ := cell_turn (ns := ns) (k := t) a b c d e f t0 (by omega)
    exact ⟨_, _, by simp [mStore], Or.inl q, _, _, _, _, _, _, _, rfl⟩)
  have hR : R_law_1 [.scr ns, .un, .un, .un, .un, .un, .un, .un] = some (.ok .nx ρ') := by
    unfold R_law_1 mFor
    rw [bind_is hr]
    exact h
  simp [fn_law, runL, m_law, env0S, mSeq, mIf, mBol, mBin, mBinL, mBind, mLift, mPure, mPeek, mVar, ixD, iI, bolD, mAsg, mCall1, mCallN, intD, modD, iIc, cMod, mStore, mStoreO, mDone, gSet, mOwn, mPut, setD, mRet, mDrop, mStuck, mTru, truD, mOrT, mAndT, mNotT, mAnd, mOr, mNot, mIsi, isiT_eq, typD, lenD, mCons, mTup, mLst, mLstN, mVal, oOr, addD, subD, mulD, mulI, iIc, cMul, ltD, leD, gtD, geD, gTupD, gCons2, gsNil, mCallV, mCallB, mRs, tupleD, mRetF, mChain, mScr, mScrLen, mScrIx, mMut, appD, max2D, min2D, mRng1, mRng2, rngD1, rngD2, rngOk, mItems, itemsD, mAsgN, mParEE, mParEN, mUn, negD, mCallN1, listD, unsE, powD, cPow, divD, cDiv, mFor, mSl, mSlL, slD, mNoPart, mPart, intO, mSlN, mSlNL, slN, mRevN, revO, mParNC, andD, orD, xorD, shrD, shlD, cShr, mStepN, mStepNL, stepO, mCatN, mCatNL, catN, hR]

end Pf
namespace Pf
open PySem PySem.Spec L2 Dd
theorem all_mk {l : PySem.W.OpenLaw} {w : World} {K : PySem.W.Frag} {h : Heap} {mg : Str → Option Value} {fa f1 f2 f3 f4 f5 f6 f7 f8 f9 f10 f11 f12 f13 f14 f15 f16 f17 f18 f19 : Addr} (X : K.In h) (G : h.Ns mainGlobals mg) (hfa : mg "law" = some (.ref fa))
    {od1 an1 od2 an2 od3 an3 od4 an4 od5 an5 od6 an6 od7 an7 od8 an8 od9 an9 od10 an10 od11 an11 od12 an12 od13 an13 od14 an14 od15 an15 od16 an16 od17 an17 od18 an18 od19 an19 : Option Addr} {sl1 sl2 sl3 sl4 sl5 sl6 sl7 sl8 sl9 sl10 sl11 sl12 sl13 sl14 sl15 sl16 sl17 sl18 sl19 : Array (Option Value)} {oc1 kV1 dc1 pm1 cd1 ct1 oc2 kV2 dc2 pm2 cd2 ct2 oc3 kV3 dc3 pm3 cd3 ct3 oc4 kV4 dc4 pm4 cd4 ct4 oc5 kV5 dc5 pm5 cd5 ct5 oc6  dc6 pm6 cd6 ct6 oc7 kV7 dc7 pm7 cd7 ct7 oc8 kV8 dc8 pm8 cd8 ct8 oc9 kV9 dc9 pm9 cd9 ct9 oc10 kV10 dc10 pm10 cd10 ct10 oc11 kV11 dc11 pm11 cd11 ct11 oc12 kV12 dc12 pm12 cd12 ct12 oc13 kV13 dc13 pm13 cd13 ct13 oc14 kV14 dc14 pm14 cd14 ct14 oc15 kV15 dc15 pm15 cd15 ct15 oc16 kV16 dc16 pm16 cd16 ct16 oc17 kV17 dc17 pm17 cd17 ct17 oc18 kV18 dc18 pm18 cd18 ct18 oc19 kV19 dc19 pm19 cd19 ct19 : Value} {kD6 : Addr} {tk6_most : Tok} {tk6_check : Tok}
    (a1 : PySem.W.nsIn K mainGlobals "item_of_parts" = some (some (.ref f1))) (l1 : K.lookup f1 = some ⟨oc1, od1, .func (PySem.W.fnOf "item_of_parts" "item_of_parts" (defArgs s_item_of_parts) (defBody s_item_of_parts) (defScope s_item_of_parts) .none kV1 dc1 pm1 an1 cd1 ct1), sl1⟩) (c1 : PySem.W.codeIn K cd1 "item_of_parts" = true) (k1 : PySem.W.keepIn K (.ref f1) = true)
    (a2 : PySem.W.nsIn K mainGlobals "_rest_of" = some (some (.ref f2))) (l2 : K.lookup f2 = some ⟨oc2, od2, .func (PySem.W.fnOf "_rest_of" "_rest_of" (defArgs s__rest_of) (defBody s__rest_of) (defScope s__rest_of) .none kV2 dc2 pm2 an2 cd2 ct2), sl2⟩) (c2 : PySem.W.codeIn K cd2 "_rest_of" = true) (k2 : PySem.W.keepIn K (.ref f2) = true)
    (a3 : PySem.W.nsIn K mainGlobals "check_of" = some (some (.ref f3))) (l3 : K.lookup f3 = some ⟨oc3, od3, .func (PySem.W.fnOf "check_of" "check_of" (defArgs s_check_of) (defBody s_check_of) (defScope s_check_of) .none kV3 dc3 pm3 an3 cd3 ct3), sl3⟩) (c3 : PySem.W.codeIn K cd3 "check_of" = true) (k3 : PySem.W.keepIn K (.ref f3) = true)
    (a4 : PySem.W.nsIn K mainGlobals "_is_whole" = some (some (.ref f4))) (l4 : K.lookup f4 = some ⟨oc4, od4, .func (PySem.W.fnOf "_is_whole" "_is_whole" (defArgs s__is_whole) (defBody s__is_whole) (defScope s__is_whole) .none kV4 dc4 pm4 an4 cd4 ct4), sl4⟩) (c4 : PySem.W.codeIn K cd4 "_is_whole" = true) (k4 : PySem.W.keepIn K (.ref f4) = true)
    (a5 : PySem.W.nsIn K mainGlobals "_try_from" = some (some (.ref f5))) (l5 : K.lookup f5 = some ⟨oc5, od5, .func (PySem.W.fnOf "_try_from" "_try_from" (defArgs s__try_from) (defBody s__try_from) (defScope s__try_from) .none kV5 dc5 pm5 an5 cd5 ct5), sl5⟩) (c5 : PySem.W.codeIn K cd5 "_try_from" = true) (k5 : PySem.W.keepIn K (.ref f5) = true)
    (a6 : PySem.W.nsIn K mainGlobals "packets_in" = some (some (.ref f6))) (l6 : K.lookup f6 = some ⟨oc6, od6, .func (PySem.W.fnOf "packets_in" "packets_in" (defArgs s_packets_in) (defBody s_packets_in) (defScope s_packets_in) .none (.ref kD6) dc6 pm6 an6 cd6 ct6), sl6⟩) (c6 : PySem.W.codeIn K cd6 "packets_in" = true) (k6 : PySem.W.keepIn K (.ref f6) = true)
    (a7 : PySem.W.nsIn K mainGlobals "_law_box" = some (some (.ref f7))) (l7 : K.lookup f7 = some ⟨oc7, od7, .func (PySem.W.fnOf "_law_box" "_law_box" (defArgs s__law_box) (defBody s__law_box) (defScope s__law_box) .none kV7 dc7 pm7 an7 cd7 ct7), sl7⟩) (c7 : PySem.W.codeIn K cd7 "_law_box" = true) (k7 : PySem.W.keepIn K (.ref f7) = true)
    (a8 : PySem.W.nsIn K mainGlobals "_law_take" = some (some (.ref f8))) (l8 : K.lookup f8 = some ⟨oc8, od8, .func (PySem.W.fnOf "_law_take" "_law_take" (defArgs s__law_take) (defBody s__law_take) (defScope s__law_take) .none kV8 dc8 pm8 an8 cd8 ct8), sl8⟩) (c8 : PySem.W.codeIn K cd8 "_law_take" = true) (k8 : PySem.W.keepIn K (.ref f8) = true)
    (a9 : PySem.W.nsIn K mainGlobals "_law_alike" = some (some (.ref f9))) (l9 : K.lookup f9 = some ⟨oc9, od9, .func (PySem.W.fnOf "_law_alike" "_law_alike" (defArgs s__law_alike) (defBody s__law_alike) (defScope s__law_alike) .none kV9 dc9 pm9 an9 cd9 ct9), sl9⟩) (c9 : PySem.W.codeIn K cd9 "_law_alike" = true) (k9 : PySem.W.keepIn K (.ref f9) = true)
    (a10 : PySem.W.nsIn K mainGlobals "_law_numbers" = some (some (.ref f10))) (l10 : K.lookup f10 = some ⟨oc10, od10, .func (PySem.W.fnOf "_law_numbers" "_law_numbers" (defArgs s__law_numbers) (defBody s__law_numbers) (defScope s__law_numbers) .none kV10 dc10 pm10 an10 cd10 ct10), sl10⟩) (c10 : PySem.W.codeIn K cd10 "_law_numbers" = true) (k10 : PySem.W.keepIn K (.ref f10) = true)
    (a11 : PySem.W.nsIn K mainGlobals "_law_check" = some (some (.ref f11))) (l11 : K.lookup f11 = some ⟨oc11, od11, .func (PySem.W.fnOf "_law_check" "_law_check" (defArgs s__law_check) (defBody s__law_check) (defScope s__law_check) .none kV11 dc11 pm11 an11 cd11 ct11), sl11⟩) (c11 : PySem.W.codeIn K cd11 "_law_check" = true) (k11 : PySem.W.keepIn K (.ref f11) = true)
    (a12 : PySem.W.nsIn K mainGlobals "_law_frames" = some (some (.ref f12))) (l12 : K.lookup f12 = some ⟨oc12, od12, .func (PySem.W.fnOf "_law_frames" "_law_frames" (defArgs s__law_frames) (defBody s__law_frames) (defScope s__law_frames) .none kV12 dc12 pm12 an12 cd12 ct12), sl12⟩) (c12 : PySem.W.codeIn K cd12 "_law_frames" = true) (k12 : PySem.W.keepIn K (.ref f12) = true)
    (a13 : PySem.W.nsIn K mainGlobals "_law_is_byte" = some (some (.ref f13))) (l13 : K.lookup f13 = some ⟨oc13, od13, .func (PySem.W.fnOf "_law_is_byte" "_law_is_byte" (defArgs s__law_is_byte) (defBody s__law_is_byte) (defScope s__law_is_byte) .none kV13 dc13 pm13 an13 cd13 ct13), sl13⟩) (c13 : PySem.W.codeIn K cd13 "_law_is_byte" = true) (k13 : PySem.W.keepIn K (.ref f13) = true)
    (a14 : PySem.W.nsIn K mainGlobals "_law_tried" = some (some (.ref f14))) (l14 : K.lookup f14 = some ⟨oc14, od14, .func (PySem.W.fnOf "_law_tried" "_law_tried" (defArgs s__law_tried) (defBody s__law_tried) (defScope s__law_tried) .none kV14 dc14 pm14 an14 cd14 ct14), sl14⟩) (c14 : PySem.W.codeIn K cd14 "_law_tried" = true) (k14 : PySem.W.keepIn K (.ref f14) = true)
    (a15 : PySem.W.nsIn K mainGlobals "_law_packets" = some (some (.ref f15))) (l15 : K.lookup f15 = some ⟨oc15, od15, .func (PySem.W.fnOf "_law_packets" "_law_packets" (defArgs s__law_packets) (defBody s__law_packets) (defScope s__law_packets) .none kV15 dc15 pm15 an15 cd15 ct15), sl15⟩) (c15 : PySem.W.codeIn K cd15 "_law_packets" = true) (k15 : PySem.W.keepIn K (.ref f15) = true)
    (a16 : PySem.W.nsIn K mainGlobals "_law_stream" = some (some (.ref f16))) (l16 : K.lookup f16 = some ⟨oc16, od16, .func (PySem.W.fnOf "_law_stream" "_law_stream" (defArgs s__law_stream) (defBody s__law_stream) (defScope s__law_stream) .none kV16 dc16 pm16 an16 cd16 ct16), sl16⟩) (c16 : PySem.W.codeIn K cd16 "_law_stream" = true) (k16 : PySem.W.keepIn K (.ref f16) = true)
    (a17 : PySem.W.nsIn K mainGlobals "_law_asked" = some (some (.ref f17))) (l17 : K.lookup f17 = some ⟨oc17, od17, .func (PySem.W.fnOf "_law_asked" "_law_asked" (defArgs s__law_asked) (defBody s__law_asked) (defScope s__law_asked) .none kV17 dc17 pm17 an17 cd17 ct17), sl17⟩) (c17 : PySem.W.codeIn K cd17 "_law_asked" = true) (k17 : PySem.W.keepIn K (.ref f17) = true)
    (a18 : PySem.W.nsIn K mainGlobals "_law_right" = some (some (.ref f18))) (l18 : K.lookup f18 = some ⟨oc18, od18, .func (PySem.W.fnOf "_law_right" "_law_right" (defArgs s__law_right) (defBody s__law_right) (defScope s__law_right) .none kV18 dc18 pm18 an18 cd18 ct18), sl18⟩) (c18 : PySem.W.codeIn K cd18 "_law_right" = true) (k18 : PySem.W.keepIn K (.ref f18) = true)
    (a19 : PySem.W.nsIn K mainGlobals "law" = some (some (.ref f19))) (l19 : K.lookup f19 = some ⟨oc19, od19, .func (PySem.W.fnOf "law" "law" (defArgs s_law) (defBody s_law) (defScope s_law) .none kV19 dc19 pm19 an19 cd19 ct19), sl19⟩) (c19 : PySem.W.codeIn K cd19 "law" = true) (k19 : PySem.W.keepIn K (.ref f19) = true)
    (z1 : PySem.W.nsIn K mainGlobals "all" = some none)
    (z2 : PySem.W.nsIn K mainGlobals "bool" = some none)
    (z3 : PySem.W.nsIn K mainGlobals "dict" = some none)
    (z4 : PySem.W.nsIn K mainGlobals "int" = some none)
    (z5 : PySem.W.nsIn K mainGlobals "isinstance" = some none)
    (z6 : PySem.W.nsIn K mainGlobals "len" = some none)
    (z7 : PySem.W.nsIn K mainGlobals "list" = some none)
    (z8 : PySem.W.nsIn K mainGlobals "max" = some none)
    (z9 : PySem.W.nsIn K mainGlobals "min" = some none)
    (z10 : PySem.W.nsIn K mainGlobals "range" = some none)
    (z11 : PySem.W.nsIn K mainGlobals "repr" = some none)
    (z12 : PySem.W.nsIn K mainGlobals "sorted" = some none)
    (z13 : PySem.W.nsIn K mainGlobals "str" = some none)
    (z14 : PySem.W.nsIn K mainGlobals "sum" = some none)
    (z15 : PySem.W.nsIn K mainGlobals "tuple" = some none)
    (z16 : PySem.W.nsIn K mainGlobals "zip" = some none)
    (kd6_most : PySem.W.nsIn K kD6 "most" = some (some (.int 255 tk6_most)))
    (kd6_check : PySem.W.nsIn K kD6 "check" = some (some (.str "sum" tk6_check))) :
    ∃ fd : FuncData, (∀ (s : Shared) (v : Value), BindsTo s fd ⟨[v], []⟩ [("_law_script", v)]) ∧ ∀ base : Heap, K.In base → base.Ns mainGlobals mg → LawFn l.prog w K mg base fa fd "_law_script" 9 fn_law := by
  have e := hfa.symm.trans (PySem.W.mg_of X G a19)
  cases e
  have F1 := fun_mk (st := s_item_of_parts) l1 c1 k1
  have b1 := F1.binds (ps := ["items", "kind", "what", "parts"]) fun _ _ _ _ _ _ us hl => match us, hl with | [_, _, _, _], _ => rfl
  have F2 := fun_mk (st := s__rest_of) l2 c2 k2
  have b2 := F2.binds (ps := ["number"]) fun _ _ _ _ _ _ us hl => match us, hl with | [_], _ => rfl
  have F3 := fun_mk (st := s_check_of) l3 c3 k3
  have b3 := F3.binds (ps := ["kind", "numbers"]) fun _ _ _ _ _ _ us hl => match us, hl with | [_, _], _ => rfl
  have F4 := fun_mk (st := s__is_whole) l4 c4 k4
  have b4 := F4.binds (ps := ["item"]) fun _ _ _ _ _ _ us hl => match us, hl with | [_], _ => rfl
  have F5 := fun_mk (st := s__try_from) l5 c5 k5
  have b5 := F5.binds (ps := ["items", "at", "most", "check"]) fun _ _ _ _ _ _ us hl => match us, hl with | [_, _, _, _], _ => rfl
  have F6 := fun_mk (st := s_packets_in) l6 c6 k6
  have kb6_0 : KBn K (PySem.W.fnOf "packets_in" "packets_in" (defArgs s_packets_in) (defBody s_packets_in) (defScope s_packets_in) .none (.ref kD6) dc6 pm6 an6 cd6 ct6) ["items", "mark", "most", "check"] 2 ["most", "check"] (fun us ws => us ++ ([] ++ (ws ++ []))) (fun vs zs => vs ++ ([] ++ (zs ++ []))) := kbn_of (D := kD6) (ms := []) (fun q h => by cases h) (fun us ws h1 h2 => match us, ws, h1, h2 with | [_, _], [_, _], _, _ => rfl) (fun r1 r2 => r1.append (Vals.append (.nil : Vals [] []) (r2.append (.nil : Vals [] []))))
  have kb6_1 : KBn K (PySem.W.fnOf "packets_in" "packets_in" (defArgs s_packets_in) (defBody s_packets_in) (defScope s_packets_in) .none (.ref kD6) dc6 pm6 an6 cd6 ct6) ["items", "mark", "most", "check"] 2 ["most"] (fun us ws => us ++ ([] ++ (ws ++ [.str "sum" tk6_check]))) (fun vs zs => vs ++ ([] ++ (zs ++ [.str "sum"]))) := kbn_of (D := kD6) (ms := [("check", .str "sum" tk6_check)]) (fun q h => by
      simp only [List.mem_cons, List.not_mem_nil, or_false] at h
      rcases h with rfl <;> assumption) (fun us ws h1 h2 => match us, ws, h1, h2 with | [_, _], [_], _, _ => ⟨_, _, _, _, _, _, rfl, rfl, rfl⟩) (fun r1 r2 => r1.append (Vals.append (.nil : Vals [] []) (r2.append ((.cons ⟨_, rfl⟩ .nil) : Vals [.str "sum"] [.str "sum" tk6_check]))))
  have kb6_2 : KBn K (PySem.W.fnOf "packets_in" "packets_in" (defArgs s_packets_in) (defBody s_packets_in) (defScope s_packets_in) .none (.ref kD6) dc6 pm6 an6 cd6 ct6) ["items", "mark", "most", "check"] 2 [] (fun us ws => us ++ ([] ++ (ws ++ [.int 255 tk6_most, .str "sum" tk6_check]))) (fun vs zs => vs ++ ([] ++ (zs ++ [.int 255, .str "sum"]))) := kbn_of (D := kD6) (ms := [("most", .int 255 tk6_most), ("check", .str "sum" tk6_check)]) (fun q h => by
      simp only [List.mem_cons, List.not_mem_nil, or_false] at h
      rcases h with rfl | rfl <;> assumption) (fun us ws h1 h2 => match us, ws, h1, h2 with | [_, _], [], _, _ => ⟨_, _, _, _, _, _, rfl, rfl, ⟨_, _, _, _, _, _, rfl, rfl, rfl⟩⟩) (fun r1 r2 => r1.append (Vals.append (.nil : Vals [] []) (r2.append ((.cons ⟨_, rfl⟩ (.cons ⟨_, rfl⟩ .nil)) : Vals [.int 255, .str "sum"] [.int 255 tk6_most, .str "sum" tk6_check]))))
  have kb6_3 : KBn K (PySem.W.fnOf "packets_in" "packets_in" (defArgs s_packets_in) (defBody s_packets_in) (defScope s_packets_in) .none (.ref kD6) dc6 pm6 an6 cd6 ct6) ["items", "mark", "most", "check"] 2 ["check"] (fun us ws => us ++ ([.int 255 tk6_most] ++ (ws ++ []))) (fun vs zs => vs ++ ([.int 255] ++ (zs ++ []))) := kbn_of (D := kD6) (ms := [("most", .int 255 tk6_most)]) (fun q h => by
      simp only [List.mem_cons, List.not_mem_nil, or_false] at h
      rcases h with rfl <;> assumption) (fun us ws h1 h2 => match us, ws, h1, h2 with | [_, _], [_], _, _ => ⟨_, _, _, _, _, _, rfl, rfl, rfl⟩) (fun r1 r2 => r1.append (Vals.append ((.cons ⟨_, rfl⟩ .nil) : Vals [.int 255] [.int 255 tk6_most]) (r2.append (.nil : Vals [] []))))
  have F7 := fun_mk (st := s__law_box) l7 c7 k7
  have b7 := F7.binds (ps := ["_law_script", "_law_k"]) fun _ _ _ _ _ _ us hl => match us, hl with | [_, _], _ => rfl
  have F8 := fun_mk (st := s__law_take) l8 c8 k8
  have b8 := F8.binds (ps := ["_law_box_here", "_law_many"]) fun _ _ _ _ _ _ us hl => match us, hl with | [_, _], _ => rfl
  have F9 := fun_mk (st := s__law_alike) l9 c9 k9
  have b9 := F9.binds (ps := ["_law_found", "_law_due"]) fun _ _ _ _ _ _ us hl => match us, hl with | [_, _], _ => rfl
  have F10 := fun_mk (st := s__law_numbers) l10 c10 k10
  have b10 := F10.binds (ps := ["_law_box_here", "_law_bound"]) fun _ _ _ _ _ _ us hl => match us, hl with | [_, _], _ => rfl
  have F11 := fun_mk (st := s__law_check) l11 c11 k11
  have b11 := F11.binds (ps := ["_law_kind", "_law_numbers_here"]) fun _ _ _ _ _ _ us hl => match us, hl with | [_, _], _ => rfl
  have F12 := fun_mk (st := s__law_frames) l12 c12 k12
  have b12 := F12.binds (ps := ["_law_box_here", "_law_words", "_law_bits"]) fun _ _ _ _ _ _ us hl => match us, hl with | [_, _, _], _ => rfl
  have F13 := fun_mk (st := s__law_is_byte) l13 c13 k13
  have b13 := F13.binds (ps := ["_law_item"]) fun _ _ _ _ _ _ us hl => match us, hl with | [_], _ => rfl
  have F14 := fun_mk (st := s__law_tried) l14 c14 k14
  have b14 := F14.binds (ps := ["_law_whole", "_law_numbers_here", "_law_bound", "_law_kind"]) fun _ _ _ _ _ _ us hl => match us, hl with | [_, _, _, _], _ => rfl
  have F15 := fun_mk (st := s__law_packets) l15 c15 k15
  have b15 := F15.binds (ps := ["_law_items", "_law_mark", "_law_bound", "_law_kind"]) fun _ _ _ _ _ _ us hl => match us, hl with | [_, _, _, _], _ => rfl
  have F16 := fun_mk (st := s__law_stream) l16 c16 k16
  have b16 := F16.binds (ps := ["_law_box_here", "_law_mark", "_law_bound", "_law_kind", "_law_room"]) fun _ _ _ _ _ _ us hl => match us, hl with | [_, _, _, _, _], _ => rfl
  have F17 := fun_mk (st := s__law_asked) l17 c17 k17
  have b17 := F17.binds (ps := ["_law_box_here"]) fun _ _ _ _ _ _ us hl => match us, hl with | [_], _ => rfl
  have F18 := fun_mk (st := s__law_right) l18 c18 k18
  have b18 := F18.binds (ps := ["_law_items", "_law_mark", "_law_bound", "_law_kind"]) fun _ _ _ _ _ _ us hl => match us, hl with | [_, _, _, _], _ => rfl
  have F19 := fun_mk (st := s_law) l19 c19 k19
  have b19 := F19.binds (ps := ["_law_script"]) fun _ _ _ _ _ _ us hl => match us, hl with | [_], _ => rfl
  let T : Tx K mg := ⟨_, _, F1, PySem.W.mg_of X G a1, b1, _, _, F2, PySem.W.mg_of X G a2, b2, _, _, F3, PySem.W.mg_of X G a3, b3, _, _, F4, PySem.W.mg_of X G a4, b4, _, _, F5, PySem.W.mg_of X G a5, b5, _, _, F6, PySem.W.mg_of X G a6, _, kb6_0, _, kb6_1, _, kb6_2, _, kb6_3, _, _, F7, PySem.W.mg_of X G a7, b7, _, _, F8, PySem.W.mg_of X G a8, b8, _, _, F9, PySem.W.mg_of X G a9, b9, _, _, F10, PySem.W.mg_of X G a10, b10, _, _, F11, PySem.W.mg_of X G a11, b11, _, _, F12, PySem.W.mg_of X G a12, b12, _, _, F13, PySem.W.mg_of X G a13, b13, _, _, F14, PySem.W.mg_of X G a14, b14, _, _, F15, PySem.W.mg_of X G a15, b15, _, _, F16, PySem.W.mg_of X G a16, b16, _, _, F17, PySem.W.mg_of X G a17, b17, _, _, F18, PySem.W.mg_of X G a18, b18, _, _, F19, PySem.W.mg_of X G a19, b19, PySem.W.mg_none_of X G z1, PySem.W.mg_none_of X G z2, PySem.W.mg_none_of X G z3, PySem.W.mg_none_of X G z4, PySem.W.mg_none_of X G z5, PySem.W.mg_none_of X G z6, PySem.W.mg_none_of X G z7, PySem.W.mg_none_of X G z8, PySem.W.mg_none_of X G z9, PySem.W.mg_none_of X G z10, PySem.W.mg_none_of X G z11, PySem.W.mg_none_of X G z12, PySem.W.mg_none_of X G z13, PySem.W.mg_none_of X G z14, PySem.W.mg_none_of X G z15, PySem.W.mg_none_of X G z16⟩
  exact ⟨_, fun s v => .of_eq rfl, fun base _ _ => ok_law T⟩
end Pf
open PySem PySem.W PyProof.Rows
set_option maxRecDepth 100000 in
set_option maxHeartbeats 0 in
theorem PySem.Challenge.cw_wirelooker_k48_packets_read_holds : PySem.Challenge.rw_wirelooker_k48_packets_read.Holds := by
  w_on; o_law; k_head; (case hw => w_witness2)
  k_fill
  refine Dd.walk_ofG (l := PySem.Challenge.rw_wirelooker_k48_packets_read) (n := 63) (k := 9) (p := "_law_script") (g := Pf.fn_law) rfl (by decide) rfl ⟨rfl, by decide, by decide⟩ (fun w h Y => PySem.W.kIn_of Y) ?F (fun ns hl => Pf.law_true ns hl)
  case F =>
    intro w mg fa h KX G hmg
    refine' Pf.all_mk KX G hmg ?a1 ?l1 ?c1 ?k1 ?a2 ?l2 ?c2 ?k2 ?a3 ?l3 ?c3 ?k3 ?a4 ?l4 ?c4 ?k4 ?a5 ?l5 ?c5 ?k5 ?a6 ?l6 ?c6 ?k6 ?a7 ?l7 ?c7 ?k7 ?a8 ?l8 ?c8 ?k8 ?a9 ?l9 ?c9 ?k9 ?a10 ?l10 ?c10 ?k10 ?a11 ?l11 ?c11 ?k11 ?a12 ?l12 ?c12 ?k12 ?a13 ?l13 ?c13 ?k13 ?a14 ?l14 ?c14 ?k14 ?a15 ?l15 ?c15 ?k15 ?a16 ?l16 ?c16 ?k16 ?a17 ?l17 ?c17 ?k17 ?a18 ?l18 ?c18 ?k18 ?a19 ?l19 ?c19 ?k19 ?z1 ?z2 ?z3 ?z4 ?z5 ?z6 ?z7 ?z8 ?z9 ?z10 ?z11 ?z12 ?z13 ?z14 ?z15 ?z16 ?kd6_most ?kd6_check
    (case a1 => k_is); (case l1 => k_is); (case c1 => k_is); (case k1 => k_is); (case a2 => k_is); (case l2 => k_is); (case c2 => k_is); (case k2 => k_is); (case a3 => k_is); (case l3 => k_is); (case c3 => k_is); (case k3 => k_is); (case a4 => k_is); (case l4 => k_is); (case c4 => k_is); (case k4 => k_is); (case a5 => k_is); (case l5 => k_is); (case c5 => k_is); (case k5 => k_is); (case a6 => k_is); (case l6 => k_is); (case c6 => k_is); (case k6 => k_is); (case a7 => k_is); (case l7 => k_is); (case c7 => k_is); (case k7 => k_is); (case a8 => k_is); (case l8 => k_is); (case c8 => k_is); (case k8 => k_is); (case a9 => k_is); (case l9 => k_is); (case c9 => k_is); (case k9 => k_is); (case a10 => k_is); (case l10 => k_is); (case c10 => k_is); (case k10 => k_is); (case a11 => k_is); (case l11 => k_is); (case c11 => k_is); (case k11 => k_is); (case a12 => k_is); (case l12 => k_is); (case c12 => k_is); (case k12 => k_is); (case a13 => k_is); (case l13 => k_is); (case c13 => k_is); (case k13 => k_is); (case a14 => k_is); (case l14 => k_is); (case c14 => k_is); (case k14 => k_is); (case a15 => k_is); (case l15 => k_is); (case c15 => k_is); (case k15 => k_is); (case a16 => k_is); (case l16 => k_is); (case c16 => k_is); (case k16 => k_is); (case a17 => k_is); (case l17 => k_is); (case c17 => k_is); (case k17 => k_is); (case a18 => k_is); (case l18 => k_is); (case c18 => k_is); (case k18 => k_is); (case a19 => k_is); (case l19 => k_is); (case c19 => k_is); (case k19 => k_is); (case z1 => k_is); (case z2 => k_is); (case z3 => k_is); (case z4 => k_is); (case z5 => k_is); (case z6 => k_is); (case z7 => k_is); (case z8 => k_is); (case z9 => k_is); (case z10 => k_is); (case z11 => k_is); (case z12 => k_is); (case z13 => k_is); (case z14 => k_is); (case z15 => k_is); (case z16 => k_is); (case kd6_most => first | k_is | rfl | decide +kernel); (case kd6_check => first | k_is | rfl | decide +kernel)
