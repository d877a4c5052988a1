import PyProof.Rows.All
import PySem.Challenge.RW_wirelooker_k52_talks_read
import Wide.All
import OpenK.AllK
import Wide.FinOn
import PyProof.EqAt
import PyProof.EqKinds
import PyProof.TupleCall
import HandS.Base
import HandS.Call
import HandS.List
import HandS.Comp
import HandS.Iter
import HandS.Text
import HandS.Words
import HandS.Exc
import HandS.Dict
import HandS.IsInst
import HandS.Flow
import HandS.Wide
import HandS.RaiseMore
import HandS.Zip
import HandS.CallSlots
import HandS.WordsExc
import HandS.ExcOwn
import HandS.SortInts
import HandS.TupMul
import HandS.Star
import HandS.Conv
import HandS.More
import HandS.SortRule
import HandS.TryOnly
import HandS.SortKw
import KE.DataMinMax
import ObjForm.LawKit
import HandS.TupAny
import HandS.Style
import PyProof.ReprRoads
import HandS.Ends
import PyProof.WalksMore
import PyProof.Rows.SumAny
import KE.GoesMore
import KE.GoesZip
import HandS.ExcField
import KE.KExcInit
import KE.KExcIs
import KE.KIsAll
import PyProof.ExcBaseAll.IndexError
import PyProof.ExcBaseAll.LookupError
import HandS.Defaults
import KE.KRevSl
import KE.GoesEnum
import KE.BitLaws
import KE.OsArith
set_option Elab.async false
set_option linter.all false
set_option maxRecDepth 100000
set_option maxHeartbeats 4000000
namespace Dd
open PySem PySem.Spec L2
abbrev D := PyData
inductive Sl where
  | un
  | val (d : D)
  | own (ds : List D)
  | io (ds : List D)
  | scr (ns : List Int)
  | dct (kvs : List (Key × D))
abbrev En := List Sl
mutual
inductive Dp (K : PySem.W.Frag) (H : Hp) : V → D → Prop
  | non : Dp K H .non .none
  | bl (b : Bool) : Dp K H (.bl b) (.bool b)
  | int (i : Int) : Dp K H (.int i) (.int i)
  | str (x : Str) : Dp K H (.str x) (.str x)
  | lst {a : Addr} {xs : List V} {ds : List D} : Rd H a (.lst xs) → DpAll K H xs ds → Dp K H (.ref a) (.list ds)
  | tup {a : Addr} {xs : List V} {ds : List D} : SqT K H a xs → DpAll K H xs ds → Dp K H (.ref a) (.tuple ds)
inductive DpAll (K : PySem.W.Frag) (H : Hp) : List V → List D → Prop
  | nil : DpAll K H [] []
  | cons {v : V} {vs : List V} {d : D} {ds : List D} : Dp K H v d → DpAll K H vs ds → DpAll K H (v :: vs) (d :: ds)
end
mutual
theorem Dp.l2 {K : PySem.W.Frag} {F : Hp} : ∀ {v : V} {d : D}, Dp K F v d → L2.Dp K F v d
  | _, _, .non => .non
  | _, _, .bl b => .bl b
  | _, _, .int i => .int i
  | _, _, .str x => .str x
  | _, _, .lst h t => .lst (.inl h) (DpAll.l2 t)
  | _, _, .tup h t => .tup h (DpAll.l2 t)
theorem DpAll.l2 {K : PySem.W.Frag} {F : Hp} : ∀ {vs : List V} {ds : List D}, DpAll K F vs ds → L2.DpAll K F vs ds
  | _, _, .nil => .nil
  | _, _, .cons h t => .cons (Dp.l2 h) (DpAll.l2 t)
end
structure Ct where
  F0 : Hp
  H0 : Hp
  io : Option Addr
  pr : Hp
/-- a dict's entries -/
inductive KVs (K : PySem.W.Frag) (F : Hp) : List (Key × V) → List (Key × D) → Prop
  | nil : KVs K F [] []
  | cons {k : Key} {v : V} {d : D} {ws : List (Key × V)} {kvs : List (Key × D)} : Dp K F v d → KVs K F ws kvs → KVs K F ((k, v) :: ws) ((k, d) :: kvs)
/-- a slot's own dicts -/
structure Dcs (K : PySem.W.Frag) (F H H0 pr : Hp) (σ : St) (ρ : En) : Prop where
  at' : ∀ (i : Nat) (kvs : List (Key × D)), ρ[i]? = some (.dct kvs) → ∃ p ws, σ[i]? = some (some (.ref p)) ∧ H p = some (.dK ws) ∧ KVs K F ws kvs ∧ F p = none ∧ H0 p = none ∧ pr p = none
  sep : ∀ (i j : Nat) (k l : List (Key × D)) (p : Addr), ρ[i]? = some (.dct k) → ρ[j]? = some (.dct l) → σ[i]? = some (some (.ref p)) → σ[j]? = some (some (.ref p)) → i = j
structure Ok (K : PySem.W.Frag) (c : Ct) (σ : St) (H F : Hp) (ρ : En) : Prop where
  len : σ.length = ρ.length
  sub : Same F H
  ge : Same c.F0 F
  fe : ∀ b o, F b = some o → c.F0 b = some o ∨ c.H0 b = none
  keep : ∀ b o, c.H0 b = some o → c.io ≠ some b → H b = some o
  iod : ∀ p, c.io = some p → F p = none ∧ c.H0 p ≠ none ∧ c.pr p = none ∧ ∃ xs, H p = some (.lst xs)
  prt : ∀ b o, c.pr b = some o → H b = some o ∧ F b = none ∧ c.H0 b = none
  val : ∀ (i : Nat) (d : D), ρ[i]? = some (.val d) → ∃ v, σ[i]? = some (some v) ∧ Dp K F v d
  own : ∀ (i : Nat) (ds : List D), ρ[i]? = some (.own ds) → ∃ p vs, σ[i]? = some (some (.ref p)) ∧ H p = some (.lst vs) ∧ DpAll K F vs ds ∧ F p = none ∧ c.H0 p = none ∧ c.pr p = none
  ios : ∀ (i : Nat) (ds : List D), ρ[i]? = some (.io ds) → i = 0 ∧ ∃ p vs, c.io = some p ∧ σ[i]? = some (some (.ref p)) ∧ H p = some (.lst vs) ∧ DpAll K F vs ds
  scr : ∀ (i : Nat) (ns : List Int), ρ[i]? = some (.scr ns) → c.io = none ∧ ∃ a, σ[i]? = some (some (.ref a)) ∧ SqL K c.H0 a (ns.map V.int)
  sep : ∀ (i j : Nat) (ds es : List D) (p : Addr), ρ[i]? = some (.own ds) → ρ[j]? = some (.own es) → σ[i]? = some (some (.ref p)) → σ[j]? = some (some (.ref p)) → i = j
  dcs : Dcs K F H c.H0 c.pr σ ρ

section
variable {K : PySem.W.Frag} {F F' : Hp}
theorem Rd.mono {a : Addr} {u : HO} (s : Same F F') (h : Rd F a u) : Rd F' a u := by
  rcases h with h | ⟨o, h⟩
  · exact .inl (s _ _ h)
  · exact .inr ⟨o, s _ _ h⟩
theorem SqL.mono {a : Addr} {xs : List V} (s : Same F F') (h : SqL K F a xs) : SqL K F' a xs := h.imp (Rd.mono s) id
theorem SqT.mono {a : Addr} {xs : List V} (s : Same F F') (h : SqT K F a xs) : SqT K F' a xs := h.imp (Rd.mono s) id
mutual
theorem Dp.mono (s : Same F F') : ∀ {v : V} {d : D}, Dp K F v d → Dp K F' v d
  | _, _, .non => .non
  | _, _, .bl b => .bl b
  | _, _, .int i => .int i
  | _, _, .str x => .str x
  | _, _, .lst h t => .lst (Rd.mono s h) (DpAll.mono s t)
  | _, _, .tup h t => .tup (SqT.mono s h) (DpAll.mono s t)
theorem DpAll.mono (s : Same F F') : ∀ {vs : List V} {ds : List D}, DpAll K F vs ds → DpAll K F' vs ds
  | _, _, .nil => .nil
  | _, _, .cons h t => .cons (Dp.mono s h) (DpAll.mono s t)
end
theorem DpAll.length : ∀ {vs : List V} {ds : List D}, DpAll K F vs ds → vs.length = ds.length
  | _, _, .nil => rfl
  | _, _, .cons _ t => by simp [DpAll.length t]
theorem DpAll.get : ∀ {vs : List V} {ds : List D} {i : Nat} {v : V}, DpAll K F vs ds → vs[i]? = some v → ∃ d, ds[i]? = some d ∧ Dp K F v d
  | _, _, _, _, .nil, e => by simp at e
  | _, _, 0, v, .cons h t, e => by
    simp at e; subst e
    exact ⟨_, rfl, h⟩
  | _, _, i + 1, v, .cons h t, e => by
    obtain ⟨d, q, r⟩ := DpAll.get (i := i) (v := v) t (by simpa using e)
    exact ⟨d, by simpa using q, r⟩
theorem DpAll.getd : ∀ {vs : List V} {ds : List D} {i : Nat} {d : D}, DpAll K F vs ds → ds[i]? = some d → ∃ v, vs[i]? = some v ∧ Dp K F v d
  | _, _, _, _, .nil, e => by simp at e
  | _, _, 0, v, .cons h t, e => by
    simp at e; subst e
    exact ⟨_, rfl, h⟩
  | _, _, i + 1, v, .cons h t, e => by
    obtain ⟨d, q, r⟩ := DpAll.getd (i := i) (d := v) t (by simpa using e)
    exact ⟨d, by simpa using q, r⟩
theorem DpAll.append : ∀ {vs ws : List V} {ds es : List D}, DpAll K F vs ds → DpAll K F ws es → DpAll K F (vs ++ ws) (ds ++ es)
  | _, _, _, _, .nil, s => s
  | _, _, _, _, .cons h t, s => .cons h (DpAll.append t s)
theorem DpAll.set {v : V} {d : D} (r : Dp K F v d) : ∀ {vs : List V} {ds : List D} (i : Nat), DpAll K F vs ds → DpAll K F (vs.set i v) (ds.set i d)
  | _, _, _, .nil => .nil
  | _, _, 0, .cons _ t => .cons r t
  | _, _, i + 1, .cons h t => .cons h (DpAll.set r i t)
theorem DpAll.take : ∀ {vs : List V} {ds : List D} (n : Nat), DpAll K F vs ds → DpAll K F (vs.take n) (ds.take n)
  | _, _, 0, _ => .nil
  | _, _, _ + 1, .nil => .nil
  | _, _, n + 1, .cons h t => .cons h (DpAll.take n t)
theorem DpAll.drop : ∀ {vs : List V} {ds : List D} (n : Nat), DpAll K F vs ds → DpAll K F (vs.drop n) (ds.drop n)
  | _, _, 0, h => h
  | _, _, _ + 1, .nil => .nil
  | _, _, n + 1, .cons _ t => DpAll.drop n t
theorem DpAll.eraseIdx : ∀ {vs : List V} {ds : List D} (i : Nat), DpAll K F vs ds → DpAll K F (vs.eraseIdx i) (ds.eraseIdx i)
  | _, _, _, .nil => .nil
  | _, _, 0, .cons _ t => t
  | _, _, i + 1, .cons h t => .cons h (DpAll.eraseIdx i t)
theorem DpAll.one {v : V} {d : D} (h : Dp K F v d) : DpAll K F [v] [d] := .cons h .nil
theorem DpAll.reverse : ∀ {vs : List V} {ds : List D}, DpAll K F vs ds → DpAll K F vs.reverse ds.reverse
  | _, _, .nil => .nil
  | _, _, .cons h t => by
    rw [List.reverse_cons, List.reverse_cons]
    exact DpAll.append (DpAll.reverse t) (DpAll.one h)
theorem DpAll.ints : ∀ {vs : List V} {ns : List Int}, DpAll K F vs (ns.map PyData.int) → vs = ns.map V.int
  | _, [], .nil => rfl
  | _, n :: ns, .cons h t => by
    cases h
    rw [DpAll.ints t]; rfl
theorem DpAll.bls : ∀ {vs : List V} {ns : List Bool}, DpAll K F vs (ns.map PyData.bool) → vs = ns.map V.bl
  | _, [], .nil => rfl
  | _, n :: ns, .cons h t => by
    cases h
    rw [DpAll.bls t]; rfl
theorem DpAll.strs : ∀ {vs : List V} {ns : List Str}, DpAll K F vs (ns.map PyData.str) → vs = ns.map V.str
  | _, [], .nil => rfl
  | _, n :: ns, .cons h t => by
    cases h
    rw [DpAll.strs t]; rfl
theorem DpAll.ofInts : ∀ (ns : List Int), DpAll K F (ns.map V.int) (ns.map PyData.int)
  | [] => .nil
  | n :: ns => .cons (.int n) (DpAll.ofInts ns)
theorem DpAll.ofStrs : ∀ (ns : List Str), DpAll K F (ns.map V.str) (ns.map PyData.str)
  | [] => .nil
  | n :: ns => .cons (.str n) (DpAll.ofStrs ns)
theorem Same.updN {p : Addr} {o : HO} (h : F p = none) : Same F (upd F p o) := fun b u e => by
  rw [upd_ne (ne_of_none e h)]; exact e
theorem Same.upd2 {H : Hp} {p : Addr} {o : HO} (h : Same F H) : Same (upd F p o) (upd H p o) := fun b u e => by
  by_cases hb : b = p
  · subst hb; rw [upd_same] at e ⊢; exact e
  · rw [upd_ne hb] at e ⊢; exact h _ _ e
end

/-! ### own dicts -/
section
variable {K : PySem.W.Frag} {F F' H H' H0 pr pr' : Hp} {σ : St} {ρ : En}
theorem KVs.mono (s : Same F F') : ∀ {ws : List (Key × V)} {kvs : List (Key × D)}, KVs K F ws kvs → KVs K F' ws kvs
  | _, _, .nil => .nil
  | _, _, .cons h t => .cons (Dp.mono s h) (KVs.mono s t)
theorem Dcs.tr (h : Dcs K F H H0 pr σ ρ) (s : Same F F') (k : ∀ p ws, H p = some (.dK ws) → F p = none → H0 p = none → pr p = none → H' p = some (.dK ws) ∧ F' p = none ∧ pr' p = none) : Dcs K F' H' H0 pr' σ ρ :=
  ⟨fun i kvs e => by
    obtain ⟨p, ws, a1, a2, a3, a4, a5, a6⟩ := h.at' i kvs e
    obtain ⟨b1, b2, b3⟩ := k p ws a2 a4 a5 a6
    exact ⟨p, ws, a1, b1, KVs.mono s a3, b2, a5, b3⟩, h.sep⟩
theorem Dcs.sub {σ' : St} {ρ' : En} (h : Dcs K F H H0 pr σ ρ) (k : ∀ (i : Nat) (kvs : List (Key × D)), ρ'[i]? = some (.dct kvs) → ρ[i]? = some (.dct kvs) ∧ σ'[i]? = σ[i]?) : Dcs K F H H0 pr σ' ρ' :=
  ⟨fun i kvs e => by
    obtain ⟨e1, e2⟩ := k i kvs e
    rw [e2]; exact h.at' i kvs e1, fun i j a b p e f x y => by
    obtain ⟨e1, e2⟩ := k i a e
    obtain ⟨f1, f2⟩ := k j b f
    rw [e2] at x; rw [f2] at y
    exact h.sep i j a b p e1 f1 x y⟩
theorem Dcs.no (k : ∀ (i : Nat) (kvs : List (Key × D)), ρ[i]? = some (.dct kvs) → False) : Dcs K F H H0 pr σ ρ := ⟨fun i kvs e => (k i kvs e).elim, fun i _ a _ _ e _ _ _ => (k i a e).elim⟩
theorem Dcs.set {u : Sl} {v : Option V} {i : Nat} (h : Dcs K F H H0 pr σ ρ) (hi : i < ρ.length) (hs : i < σ.length) (hu : ∀ kvs : List (Key × D), u ≠ .dct kvs) : Dcs K F H H0 pr (σ.set i v) (ρ.set i u) := h.sub fun j kvs e => by
  by_cases q : i = j
  · subst q
    rw [List.getElem?_set_self hi] at e
    exact absurd (Option.some.inj e) (hu kvs)
  · rw [List.getElem?_set_ne q] at e ⊢
    exact ⟨e, rfl⟩
theorem Dcs.setE {u : Sl} {i : Nat} (h : Dcs K F H H0 pr σ ρ) (hi : i < ρ.length) (hu : ∀ kvs : List (Key × D), u ≠ .dct kvs) : Dcs K F H H0 pr σ (ρ.set i u) := h.sub fun j kvs e => by
  by_cases q : i = j
  · subst q
    rw [List.getElem?_set_self hi] at e
    exact absurd (Option.some.inj e) (hu kvs)
  · rw [List.getElem?_set_ne q] at e
    exact ⟨e, rfl⟩
end

/-! ### the heap grows -/
section
variable {K : PySem.W.Frag} {c : Ct} {σ : St} {H F : Hp} {ρ : En} {p : Addr} {o : HO}
theorem Ok.new (ok : Ok K c σ H F ρ) (h : H p = none) : F p = none ∧ c.H0 p = none ∧ c.pr p = none ∧ c.F0 p = none ∧ c.io ≠ some p := by
  have hF : F p = none := ok.sub.free h
  have hio : c.io ≠ some p := fun e => by
    obtain ⟨_, _, _, xs, q⟩ := ok.iod p e
    rw [h] at q; cases q
  refine ⟨hF, ?_, ?_, ok.ge.free hF, hio⟩
  · cases q : c.H0 p with
    | none => rfl
    | some u => rw [ok.keep p u q hio] at h; cases h
  · cases q : c.pr p with
    | none => rfl
    | some u => rw [(ok.prt p u q).1] at h; cases h
/-- a new object, seen by all -/
theorem Ok.alloc (ok : Ok K c σ H F ρ) (h : H p = none) : Ok K c σ (upd H p o) (upd F p o) ρ := by
  obtain ⟨hF, h0, hp, hF0, hio⟩ := ok.new h
  have s : Same F (upd F p o) := Same.updN hF
  have k : ∀ b u, H b = some u → upd H p o b = some u := Same.updN h
  refine ⟨ok.len, Same.upd2 ok.sub, ok.ge.trans s, fun b u e => ?_, fun b u e n => k _ _ (ok.keep b u e n), fun q e => ?_, fun b u e => ?_, fun i d e => ?_, fun i ds e => ?_, fun i ds e => ?_, ok.scr, ok.sep, ok.dcs.tr s fun q ws a1 a2 a3 a4 => ⟨k _ _ a1, by rw [upd_ne (ne_of_none a1 h)]; exact a2, a4⟩⟩
  · by_cases hb : b = p
    · subst hb; exact .inr h0
    · rw [upd_ne hb] at e; exact ok.fe b u e
  · obtain ⟨a1, a2, a3, xs, a4⟩ := ok.iod q e
    refine ⟨?_, a2, a3, xs, k _ _ a4⟩
    rw [upd_ne (ne_of_none a4 h)]; exact a1
  · obtain ⟨a1, a2, a3⟩ := ok.prt b u e
    refine ⟨k _ _ a1, ?_, a3⟩
    rw [upd_ne (ne_of_none a1 h)]; exact a2
  · obtain ⟨v, a1, a2⟩ := ok.val i d e
    exact ⟨v, a1, Dp.mono s a2⟩
  · obtain ⟨q, vs, a1, a2, a3, a4, a5, a6⟩ := ok.own i ds e
    refine ⟨q, vs, a1, k _ _ a2, DpAll.mono s a3, ?_, a5, a6⟩
    rw [upd_ne (ne_of_none a2 h)]; exact a4
  · obtain ⟨z, q, vs, a1, a2, a3, a4⟩ := ok.ios i ds e
    exact ⟨z, q, vs, a1, a2, k _ _ a3, DpAll.mono s a4⟩
abbrev Ct.put (c : Ct) (p : Addr) (o : HO) : Ct := { c with pr := upd c.pr p o }
/-- a new object, kept apart -/
theorem Ok.allocP (ok : Ok K c σ H F ρ) (h : H p = none) : Ok K (c.put p o) σ (upd H p o) F ρ := by
  obtain ⟨hF, h0, hp, hF0, hio⟩ := ok.new h
  have k : ∀ b u, H b = some u → upd H p o b = some u := Same.updN h
  refine ⟨ok.len, fun b u e => k _ _ (ok.sub b u e), ok.ge, ok.fe, fun b u e n => k _ _ (ok.keep b u e n), fun q e => ?_, fun b u e => ?_, ok.val, fun i ds e => ?_, fun i ds e => ?_, ok.scr, ok.sep, ok.dcs.tr (Same.refl F) fun q ws a1 a2 a3 a4 => ⟨k _ _ a1, a2, (upd_ne (ne_of_none a1 h)).trans a4⟩⟩
  · obtain ⟨a1, a2, a3, xs, a4⟩ := ok.iod q e
    refine ⟨a1, a2, ?_, xs, k _ _ a4⟩
    show upd c.pr p o q = none
    rw [upd_ne (ne_of_none a4 h)]; exact a3
  · by_cases hb : b = p
    · subst hb
      refine ⟨?_, hF, h0⟩
      rw [upd_same]; exact (upd_same (H := c.pr)).symm.trans e
    · have e' : c.pr b = some u := by rw [← e]; exact (upd_ne hb).symm
      obtain ⟨a1, a2, a3⟩ := ok.prt b u e'
      exact ⟨k _ _ a1, a2, a3⟩
  · obtain ⟨q, vs, a1, a2, a3, a4, a5, a6⟩ := ok.own i ds e
    refine ⟨q, vs, a1, k _ _ a2, a3, a4, a5, ?_⟩
    show upd c.pr p o q = none
    rw [upd_ne (ne_of_none a2 h)]; exact a6
  · obtain ⟨z, q, vs, a1, a2, a3, a4⟩ := ok.ios i ds e
    exact ⟨z, q, vs, a1, a2, k _ _ a3, a4⟩
/-- what is kept apart is changed -/
theorem Ok.putP {o' : HO} (ok : Ok K (c.put p o) σ H F ρ) : Ok K (c.put p o') σ (upd H p o') F ρ := by
  obtain ⟨hH, hF, h0⟩ := ok.prt p o upd_same
  have hio : c.io ≠ some p := fun e => by
    obtain ⟨_, a2, _⟩ := ok.iod p e
    exact a2 h0
  refine ⟨ok.len, fun b u e => ?_, ok.ge, ok.fe, fun b u e n => ?_, fun q e => ?_, fun b u e => ?_, ok.val, fun i ds e => ?_, fun i ds e => ?_, ok.scr, ok.sep, ok.dcs.tr (Same.refl F) fun q ws a1 a2 a3 a4 => by
    have ne : q ≠ p := fun z => by
      subst z
      have a4' : upd c.pr q o q = none := a4
      rw [upd_same] at a4'; cases a4'
    exact ⟨by rw [upd_ne ne]; exact a1, a2, (upd_ne ne).trans ((upd_ne ne).symm.trans a4)⟩⟩
  · rw [upd_ne (ne_of_none e hF)]; exact ok.sub b u e
  · rw [upd_ne (ne_of_none e h0)]; exact ok.keep b u e n
  · obtain ⟨a1, a2, a3, xs, a4⟩ := ok.iod q e
    have ne : q ≠ p := fun z => by subst z; exact a2 h0
    refine ⟨a1, a2, ?_, xs, by rw [upd_ne ne]; exact a4⟩
    show upd c.pr p o' q = none
    rw [upd_ne ne]; exact (upd_ne ne).symm.trans a3
  · by_cases hb : b = p
    · subst hb
      refine ⟨?_, hF, h0⟩
      rw [upd_same]; exact (upd_same (H := c.pr)).symm.trans e
    · have e' : (c.put p o).pr b = some u := (upd_ne hb).trans ((upd_ne hb).symm.trans e)
      obtain ⟨a1, a2, a3⟩ := ok.prt b u e'
      exact ⟨by rw [upd_ne hb]; exact a1, a2, a3⟩
  · obtain ⟨q, vs, a1, a2, a3, a4, a5, a6⟩ := ok.own i ds e
    have ne : q ≠ p := fun z => by
      subst z
      have a6' : upd c.pr q o q = none := a6
      rw [upd_same] at a6'; cases a6'
    refine ⟨q, vs, a1, by rw [upd_ne ne]; exact a2, a3, a4, a5, ?_⟩
    show upd c.pr p o' q = none
    rw [upd_ne ne]; exact (upd_ne ne).symm.trans a6
  · obtain ⟨z, q, vs, a1, a2, a3, a4⟩ := ok.ios i ds e
    have ne : q ≠ p := fun z => by subst z; exact hio a1
    exact ⟨z, q, vs, a1, a2, by rw [upd_ne ne]; exact a3, a4⟩
/-- what was kept apart is seen by all -/
theorem Ok.freeP (ok : Ok K (c.put p o) σ H F ρ) (hp : c.pr p = none) : Ok K c σ H (upd F p o) ρ := by
  obtain ⟨hH, hF, h0⟩ := ok.prt p o upd_same
  have s : Same F (upd F p o) := Same.updN hF
  refine ⟨ok.len, fun b u e => ?_, ok.ge.trans s, fun b u e => ?_, ok.keep, fun q e => ?_, fun b u e => ?_, fun i d e => ?_, fun i ds e => ?_, fun i ds e => ?_, ok.scr, ok.sep, ok.dcs.tr s fun q ws a1 a2 a3 a4 => by
    have ne : q ≠ p := fun z => by
      subst z
      have a4' : upd c.pr q o q = none := a4
      rw [upd_same] at a4'; cases a4'
    exact ⟨a1, by rw [upd_ne ne]; exact a2, (upd_ne ne).symm.trans a4⟩⟩
  · by_cases hb : b = p
    · subst hb; rw [upd_same] at e; cases e; exact hH
    · rw [upd_ne hb] at e; exact ok.sub b u e
  · by_cases hb : b = p
    · subst hb; exact .inr h0
    · rw [upd_ne hb] at e; exact ok.fe b u e
  · obtain ⟨a1, a2, a3, xs, a4⟩ := ok.iod q e
    have ne : q ≠ p := fun z => by subst z; exact a2 h0
    exact ⟨by rw [upd_ne ne]; exact a1, a2, (upd_ne ne).symm.trans a3, xs, a4⟩
  · have ne : b ≠ p := fun z => by subst z; rw [hp] at e; cases e
    obtain ⟨a1, a2, a3⟩ := ok.prt b u ((upd_ne ne).trans e)
    exact ⟨a1, by rw [upd_ne ne]; exact a2, a3⟩
  · obtain ⟨v, a1, a2⟩ := ok.val i d e
    exact ⟨v, a1, Dp.mono s a2⟩
  · obtain ⟨q, vs, a1, a2, a3, a4, a5, a6⟩ := ok.own i ds e
    have ne : q ≠ p := fun z => by
      subst z
      have a6' : upd c.pr q o q = none := a6
      rw [upd_same] at a6'; cases a6'
    exact ⟨q, vs, a1, a2, DpAll.mono s a3, by rw [upd_ne ne]; exact a4, a5, (upd_ne ne).symm.trans a6⟩
  · obtain ⟨z, q, vs, a1, a2, a3, a4⟩ := ok.ios i ds e
    exact ⟨z, q, vs, a1, a2, a3, DpAll.mono s a4⟩

/-! ### slots -/
def notIo : Option Sl → Bool
  | some (.io _) => false
  | _ => true
theorem get_set {α : Type} {l : List α} {i j : Nat} {a : α} (h : i < l.length) : (l.set i a)[j]? = if i = j then some a else l[j]? := by
  by_cases e : i = j
  · subst e; simp [h]
  · rw [List.getElem?_set_ne e, if_neg e]
/-- slot i gets any value; u says what is known of it -/
theorem Ok.set {v : Option V} {u : Sl} {i : Nat} (ok : Ok K c σ H F ρ) (hi : i < ρ.length)
    (hv : ∀ d, u = .val d → ∃ w, v = some w ∧ Dp K F w d)
    (ho : ∀ ds, u = .own ds → ∃ p vs, v = some (.ref p) ∧ H p = some (.lst vs) ∧ DpAll K F vs ds ∧ F p = none ∧ c.H0 p = none ∧ c.pr p = none ∧ ∀ (j : Nat) (es : List D), ρ[j]? = some (.own es) → σ[j]? = some (some (.ref p)) → j = i)
    (hio : ∀ ds, u ≠ .io ds) (hsc : ∀ ns, u ≠ .scr ns) (hdc : ∀ kvs : List (Key × D), u ≠ .dct kvs := by intro _ z; cases z) : Ok K c (σ.set i v) H F (ρ.set i u) := by
  have hs : i < σ.length := by rw [ok.len]; exact hi
  refine ⟨by rw [List.length_set, List.length_set]; exact ok.len, ok.sub, ok.ge, ok.fe, ok.keep, ok.iod, ok.prt, fun j d e => ?_, fun j ds e => ?_, fun j ds e => ?_, fun j ns e => ?_, fun j k ds es p a b x y => ?_, ok.dcs.set hi hs hdc⟩
  · rw [get_set hi] at e
    rw [get_set hs]
    by_cases q : i = j
    · rw [if_pos q] at e ⊢
      obtain ⟨w, e1, e2⟩ := hv d (Option.some.inj e)
      exact ⟨w, by rw [e1], e2⟩
    · rw [if_neg q] at e ⊢
      exact ok.val j d e
  · rw [get_set hi] at e
    rw [get_set hs]
    by_cases q : i = j
    · rw [if_pos q] at e ⊢
      obtain ⟨p, vs, e1, e2, e3, e4, e5, e6, _⟩ := ho ds (Option.some.inj e)
      exact ⟨p, vs, by rw [e1], e2, e3, e4, e5, e6⟩
    · rw [if_neg q] at e ⊢
      exact ok.own j ds e
  · rw [get_set hi] at e
    rw [get_set hs]
    by_cases q : i = j
    · rw [if_pos q] at e
      exact absurd (Option.some.inj e) (hio ds)
    · rw [if_neg q] at e ⊢
      exact ok.ios j ds e
  · rw [get_set hi] at e
    rw [get_set hs]
    by_cases q : i = j
    · rw [if_pos q] at e
      exact absurd (Option.some.inj e) (hsc ns)
    · rw [if_neg q] at e ⊢
      exact ok.scr j ns e
  · rw [get_set hi] at a b
    rw [get_set hs] at x y
    by_cases q : i = j
    · rw [if_pos q] at a x
      obtain ⟨p', vs, e1, _, _, _, _, _, e7⟩ := ho ds (Option.some.inj a)
      have ep : p' = p := by
        have z := Option.some.inj x
        rw [e1] at z
        cases z; rfl
      subst ep
      by_cases q2 : i = k
      · rw [← q, q2]
      · rw [if_neg q2] at b y
        rw [e7 k es b y]; exact q.symm
    · rw [if_neg q] at a x
      by_cases q2 : i = k
      · rw [if_pos q2] at b y
        obtain ⟨p', vs, e1, _, _, _, _, _, e7⟩ := ho es (Option.some.inj b)
        have ep : p' = p := by
          have z := Option.some.inj y
          rw [e1] at z
          cases z; rfl
        subst ep
        rw [e7 j ds a x]; exact q2
      · rw [if_neg q2] at b y
        exact ok.sep j k ds es p a b x y
theorem Ok.setV {v : V} {d : D} {i : Nat} (ok : Ok K c σ H F ρ) (hi : i < ρ.length) (h : Dp K F v d) : Ok K c (σ.set i (some v)) H F (ρ.set i (.val d)) :=
  ok.set hi (fun d' e => ⟨v, rfl, by cases e; exact h⟩) (fun _ e => by cases e) (fun _ e => by cases e) (fun _ e => by cases e)
theorem Ok.setU {v : Option V} {i : Nat} (ok : Ok K c σ H F ρ) (hi : i < ρ.length) : Ok K c (σ.set i v) H F (ρ.set i .un) :=
  ok.set hi (fun d' e => by cases e) (fun _ e => by cases e) (fun _ e => by cases e) (fun _ e => by cases e)
/-- what was kept apart becomes a slot's own -/
theorem Ok.ownP {xs : List V} {ds : List D} {i : Nat} (ok : Ok K (c.put p (.lst xs)) σ H F ρ) (hp : c.pr p = none) (hd : DpAll K F xs ds) (hi : i < ρ.length) : Ok K c (σ.set i (some (.ref p))) H F (ρ.set i (.own ds)) := by
  obtain ⟨hH, hF, h0⟩ := ok.prt p _ upd_same
  have nown : ∀ {q : Addr}, (c.put p (.lst xs)).pr q = none → q ≠ p := fun {q} a z => by
    subst z
    have a' : upd c.pr q (.lst xs) q = none := a
    rw [upd_same] at a'; cases a'
  have ok' : Ok K c σ H F ρ := by
    refine ⟨ok.len, ok.sub, ok.ge, ok.fe, ok.keep, fun q e => ?_, fun b u e => ?_, ok.val, fun j es e => ?_, ok.ios, ok.scr, ok.sep, ok.dcs.tr (Same.refl F) fun q ws a1 a2 a3 a4 => ⟨a1, a2, (upd_ne (nown a4)).symm.trans a4⟩⟩
    · obtain ⟨a1, a2, a3, a4⟩ := ok.iod q e
      exact ⟨a1, a2, (upd_ne (nown a3)).symm.trans a3, a4⟩
    · have ne : b ≠ p := fun z => by subst z; rw [hp] at e; cases e
      exact ok.prt b u ((upd_ne ne).trans e)
    · obtain ⟨q, vs, a1, a2, a3, a4, a5, a6⟩ := ok.own j es e
      exact ⟨q, vs, a1, a2, a3, a4, a5, (upd_ne (nown a6)).symm.trans a6⟩
  refine ok'.set hi (fun d' e => by cases e) (fun es e => ?_) (fun _ e => by cases e) (fun _ e => by cases e)
  cases e
  refine ⟨p, xs, rfl, hH, hd, hF, h0, hp, fun j es a b => ?_⟩
  obtain ⟨q, vs, a1, _, _, _, _, a6⟩ := ok.own j es a
  rw [b] at a1
  have z : p = q := by cases a1; rfl
  exact absurd z.symm (nown a6)
/-- a slot's own list is from now on seen by all -/
theorem Ok.frz {i : Nat} {ds : List D} (ok : Ok K c σ H F ρ) (e : ρ[i]? = some (.own ds)) : ∃ (F' : Hp) (p : Addr), Same F F' ∧ σ[i]? = some (some (.ref p)) ∧ Dp K F' (.ref p) (.list ds) ∧ Ok K c σ H F' (ρ.set i (.val (.list ds))) := by
  obtain ⟨p, vs, a1, a2, a3, a4, a5, a6⟩ := ok.own i ds e
  have hi : i < ρ.length := by
    rcases Nat.lt_or_ge i ρ.length with h | h
    · exact h
    · rw [List.getElem?_eq_none h] at e; cases e
  have s : Same F (upd F p (.lst vs)) := Same.updN a4
  have dp : Dp K (upd F p (.lst vs)) (.ref p) (.list ds) := .lst (.inl upd_same) (DpAll.mono s a3)
  refine ⟨upd F p (.lst vs), p, s, a1, dp, ?_⟩
  refine ⟨by rw [List.length_set]; exact ok.len, fun b u q => ?_, ok.ge.trans s, fun b u q => ?_, ok.keep, fun q z => ?_, fun b u q => ?_, fun j d q => ?_, fun j es q => ?_, fun j es q => ?_, fun j ns q => ?_, fun j k es fs q x y u w => ?_, (ok.dcs.setE hi (by intro _ z; cases z)).tr s fun q ws b1 b2 b3 b4 => ⟨b1, by
    have ne : q ≠ p := fun z => by subst z; rw [a2] at b1; cases b1
    rw [upd_ne ne]; exact b2, b4⟩⟩
  · by_cases hb : b = p
    · subst hb; rw [upd_same] at q; cases q; exact a2
    · rw [upd_ne hb] at q; exact ok.sub b u q
  · by_cases hb : b = p
    · subst hb; exact .inr a5
    · rw [upd_ne hb] at q; exact ok.fe b u q
  · obtain ⟨b1, b2, b3, b4⟩ := ok.iod q z
    have ne : q ≠ p := fun z => by subst z; exact b2 a5
    exact ⟨by rw [upd_ne ne]; exact b1, b2, b3, b4⟩
  · have ne : b ≠ p := fun z => by subst z; rw [a6] at q; cases q
    obtain ⟨b1, b2, b3⟩ := ok.prt b u q
    exact ⟨b1, by rw [upd_ne ne]; exact b2, b3⟩
  · rw [get_set hi] at q
    by_cases z : i = j
    · rw [if_pos z] at q
      subst z
      cases q
      exact ⟨_, a1, dp⟩
    · rw [if_neg z] at q
      obtain ⟨v, b1, b2⟩ := ok.val j d q
      exact ⟨v, b1, Dp.mono s b2⟩
  · rw [get_set hi] at q
    by_cases z : i = j
    · rw [if_pos z] at q; cases q
    · rw [if_neg z] at q
      obtain ⟨r, ws, b1, b2, b3, b4, b5, b6⟩ := ok.own j es q
      have ne : r ≠ p := fun y => by
        subst y
        exact z (ok.sep i j ds es r e q a1 b1)
      exact ⟨r, ws, b1, b2, DpAll.mono s b3, by rw [upd_ne ne]; exact b4, b5, b6⟩
  · rw [get_set hi] at q
    by_cases z : i = j
    · rw [if_pos z] at q; cases q
    · rw [if_neg z] at q
      obtain ⟨y, r, ws, b1, b2, b3, b4⟩ := ok.ios j es q
      exact ⟨y, r, ws, b1, b2, b3, DpAll.mono s b4⟩
  · rw [get_set hi] at q
    by_cases z : i = j
    · rw [if_pos z] at q; cases q
    · rw [if_neg z] at q
      exact ok.scr j ns q
  · rw [get_set hi] at x y
    by_cases z : i = j
    · rw [if_pos z] at x; cases x
    · rw [if_neg z] at x
      by_cases z2 : i = k
      · rw [if_pos z2] at y; cases y
      · rw [if_neg z2] at y
        exact ok.sep j k es fs q x y u w
/-- a slot's own list is changed -/
theorem Ok.change {i : Nat} {ds ds' : List D} {vs' : List V} (ok : Ok K c σ H F ρ) (e : ρ[i]? = some (.own ds)) (p : Addr) (hp : σ[i]? = some (some (.ref p))) (hd : DpAll K F vs' ds') : Ok K c σ (upd H p (.lst vs')) F (ρ.set i (.own ds')) := by
  obtain ⟨p', vs, a1, a2, a3, a4, a5, a6⟩ := ok.own i ds e
  have hpp : p' = p := by rw [hp] at a1; cases a1; rfl
  subst hpp
  have hi : i < ρ.length := by
    rcases Nat.lt_or_ge i ρ.length with h | h
    · exact h
    · rw [List.getElem?_eq_none h] at e; cases e
  refine ⟨by rw [List.length_set]; exact ok.len, fun b u q => ?_, ok.ge, ok.fe, fun b u q n => ?_, fun q z => ?_, fun b u q => ?_, fun j d q => ?_, fun j es q => ?_, fun j es q => ?_, fun j ns q => ?_, fun j k es fs q x y u w => ?_, (ok.dcs.setE hi (by intro _ z; cases z)).tr (Same.refl F) fun q ws b1 b2 b3 b4 => ⟨by
    have ne : q ≠ p' := fun z => by subst z; rw [a2] at b1; cases b1
    rw [upd_ne ne]; exact b1, b2, b4⟩⟩
  · rw [upd_ne (ne_of_none q a4)]; exact ok.sub b u q
  · rw [upd_ne (ne_of_none q a5)]; exact ok.keep b u q n
  · obtain ⟨b1, b2, b3, xs, b4⟩ := ok.iod q z
    have ne : q ≠ p' := fun z => by subst z; exact b2 a5
    exact ⟨b1, b2, b3, xs, by rw [upd_ne ne]; exact b4⟩
  · have ne : b ≠ p' := fun z => by subst z; rw [a6] at q; cases q
    obtain ⟨b1, b2, b3⟩ := ok.prt b u q
    exact ⟨by rw [upd_ne ne]; exact b1, b2, b3⟩
  · rw [get_set hi] at q
    by_cases z : i = j
    · rw [if_pos z] at q; cases q
    · rw [if_neg z] at q
      exact ok.val j d q
  · rw [get_set hi] at q
    by_cases z : i = j
    · rw [if_pos z] at q
      subst z
      cases q
      exact ⟨p', vs', a1, upd_same, hd, a4, a5, a6⟩
    · rw [if_neg z] at q
      obtain ⟨r, ws, b1, b2, b3, b4, b5, b6⟩ := ok.own j es q
      have ne : r ≠ p' := fun y => by
        subst y
        exact z (ok.sep i j ds es r e q a1 b1)
      exact ⟨r, ws, b1, by rw [upd_ne ne]; exact b2, b3, b4, b5, b6⟩
  · rw [get_set hi] at q
    by_cases z : i = j
    · rw [if_pos z] at q; cases q
    · rw [if_neg z] at q
      obtain ⟨y, r, ws, b1, b2, b3, b4⟩ := ok.ios j es q
      have ne : r ≠ p' := fun y => by
        subst y
        obtain ⟨_, c2, _⟩ := ok.iod r b1
        exact c2 a5
      exact ⟨y, r, ws, b1, b2, by rw [upd_ne ne]; exact b3, b4⟩
  · rw [get_set hi] at q
    by_cases z : i = j
    · rw [if_pos z] at q; cases q
    · rw [if_neg z] at q
      exact ok.scr j ns q
  · rw [get_set hi] at x y
    by_cases z : i = j
    · subst z
      by_cases z2 : i = k
      · exact z2
      · rw [if_neg z2] at y
        exact ok.sep i k ds fs q e y u w
    · rw [if_neg z] at x
      by_cases z2 : i = k
      · subst z2
        exact ok.sep j i es ds q x e u w
      · rw [if_neg z2] at y
        exact ok.sep j k es fs q x y u w
/-- the caller's list is changed -/
theorem Ok.changeI {i : Nat} {ds ds' : List D} {vs' : List V} (ok : Ok K c σ H F ρ) (e : ρ[i]? = some (.io ds)) (p : Addr) (hp : σ[i]? = some (some (.ref p))) (hd : DpAll K F vs' ds') : Ok K c σ (upd H p (.lst vs')) F (ρ.set i (.io ds')) := by
  obtain ⟨i0, p', vs, a1, a2, a3, a4⟩ := ok.ios i ds e
  have hpp : p' = p := by rw [hp] at a2; cases a2; rfl
  subst hpp
  obtain ⟨b1, b2, b3, xs, b4⟩ := ok.iod p' a1
  have hi : i < ρ.length := by
    rcases Nat.lt_or_ge i ρ.length with h | h
    · exact h
    · rw [List.getElem?_eq_none h] at e; cases e
  have noi : ∀ {q : Addr}, c.io = some q → q = p' := fun {q} z => by rw [a1] at z; cases z; rfl
  refine ⟨by rw [List.length_set]; exact ok.len, fun b u q => ?_, ok.ge, ok.fe, fun b u q n => ?_, fun q z => ?_, fun b u q => ?_, fun j d q => ?_, fun j es q => ?_, fun j es q => ?_, fun j ns q => ?_, fun j k es fs q x y u w => ?_, (ok.dcs.setE hi (by intro _ z; cases z)).tr (Same.refl F) fun q ws e1 e2 e3 e4 => ⟨by
    have ne : q ≠ p' := fun z => by subst z; exact b2 e3
    rw [upd_ne ne]; exact e1, e2, e4⟩⟩
  · rw [upd_ne (ne_of_none q b1)]; exact ok.sub b u q
  · have ne : b ≠ p' := fun z => by subst z; exact n a1
    rw [upd_ne ne]; exact ok.keep b u q n
  · have := noi z
    subst this
    exact ⟨b1, b2, b3, vs', upd_same⟩
  · have ne : b ≠ p' := fun z => by subst z; rw [b3] at q; cases q
    obtain ⟨c1, c2, c3⟩ := ok.prt b u q
    exact ⟨by rw [upd_ne ne]; exact c1, c2, c3⟩
  · rw [get_set hi] at q
    by_cases z : i = j
    · rw [if_pos z] at q; cases q
    · rw [if_neg z] at q
      exact ok.val j d q
  · rw [get_set hi] at q
    by_cases z : i = j
    · rw [if_pos z] at q; cases q
    · rw [if_neg z] at q
      obtain ⟨r, ws, c1, c2, c3, c4, c5, c6⟩ := ok.own j es q
      have ne : r ≠ p' := fun y => by
        subst y
        exact b2 c5
      exact ⟨r, ws, c1, by rw [upd_ne ne]; exact c2, c3, c4, c5, c6⟩
  · rw [get_set hi] at q
    by_cases z : i = j
    · rw [if_pos z] at q
      subst z
      cases q
      exact ⟨i0, p', vs', a1, a2, upd_same, hd⟩
    · rw [if_neg z] at q
      obtain ⟨y, _⟩ := ok.ios j es q
      exact absurd (i0.trans y.symm) z
  · rw [get_set hi] at q
    by_cases z : i = j
    · rw [if_pos z] at q; cases q
    · rw [if_neg z] at q
      exact ok.scr j ns q
  · rw [get_set hi] at x y
    by_cases z : i = j
    · rw [if_pos z] at x; cases x
    · rw [if_neg z] at x
      by_cases z2 : i = k
      · rw [if_pos z2] at y; cases y
      · rw [if_neg z2] at y
        exact ok.sep j k es fs q x y u w
end
end Dd

namespace Dd
open PySem PySem.Spec L2
/-- an error: its class, its fields -/
structure Ex where
  C : Str
  fs : List (Str × D)
inductive R (α : Type) where
  | ok (a : α) (ρ : En)
  | ex (e : Ex) (ρ : En)
abbrev M (α : Type) := En → Option (R α)
def mPure {α : Type} (a : α) : M α := fun ρ => some (.ok a ρ)
def mBind {α β : Type} (m : M α) (f : α → M β) : M β := fun ρ => match m ρ with
  | none => none
  | some (.ok a ρ') => f a ρ'
  | some (.ex e ρ') => some (.ex e ρ')
def mLift {α : Type} (o : Option α) : M α := fun ρ => match o with
  | none => none
  | some a => some (.ok a ρ)
def mStuck {α : Type} : M α := fun _ => none

def ExR (K : PySem.W.Frag) (e : Ex) (cls : Value) (x : Option Addr) (F' H' : Hp) : Prop :=
  ∃ Ca : Addr, PySem.W.nsIn K mainGlobals e.C = some (some (.ref Ca)) ∧ cls = .ref Ca ∧ ∃ (dd : Addr) (vs : List (Str × V)), x = some dd ∧ F' dd = some (.xd vs) ∧ vs.map (·.1) = e.fs.map (·.1) ∧ DpAll K F' (vs.map (·.2)) (e.fs.map (·.2))

def post {α : Type} (K : PySem.W.Frag) (W : WX) (c : Ct) (σ : St) (F : Hp) (G : α → Hp → Hp → Prop) : Option (R α) → Prop
  | none => False
  | some (.ok a ρ') => ∀ H' F', Ok K c σ H' F' ρ' → Same F F' → G a H' F'
  | some (.ex e ρ') => ∀ cls x H' F', Ok K c σ H' F' ρ' → Same F F' → ExR K e cls x F' H' → W cls x σ H'
section
variable {α β : Type} {K : PySem.W.Frag} {W : WX} {c : Ct} {σ : St} {F H : Hp} {ρ : En}
theorem post_weak {G : α → Hp → Hp → Prop} {F1 : Hp} (s : Same F F1) : ∀ {r : Option (R α)}, post K W c σ F G r → post K W c σ F1 G r
  | some (.ok a ρ'), h => fun H' F' ok s' => h H' F' ok (s.trans s')
  | some (.ex e ρ'), h => fun cls x H' F' ok s' => h cls x H' F' ok (s.trans s')
theorem post_mono {G G' : α → Hp → Hp → Prop} (k : ∀ a H' F', Same F F' → G a H' F' → G' a H' F') : ∀ {r : Option (R α)}, post K W c σ F G r → post K W c σ F G' r
  | some (.ok a ρ'), h => fun H' F' ok s => k a H' F' s (h H' F' ok s)
  | some (.ex e ρ'), h => h
theorem post_bind {G : β → Hp → Hp → Prop} {m : M α} {f : α → M β} (h : post K W c σ F G (mBind m f ρ)) :
    post K W c σ F (fun a H1 F1 => ∃ ρ1, Ok K c σ H1 F1 ρ1 ∧ Same F F1 ∧ post K W c σ F1 G (f a ρ1)) (m ρ) := by
  unfold mBind at h
  cases e : m ρ with
  | none => rw [e] at h; exact h
  | some r =>
    rw [e] at h
    cases r with
    | ok a ρ' => exact fun H' F' ok s => ⟨ρ', ok, s, post_weak s h⟩
    | ex x ρ' => exact h
theorem post_ok {G : α → Hp → Hp → Prop} {a : α} (h : post K W c σ F G (some (.ok a ρ))) (ok : Ok K c σ H F ρ) : G a H F := h H F ok (Same.refl F)
theorem post_lift {G : α → Hp → Hp → Prop} {o : Option α} (h : post K W c σ F G (mLift o ρ)) : ∃ a, o = some a ∧ post K W c σ F G (some (.ok a ρ)) := by
  unfold mLift at h
  cases o with
  | none => exact h.elim
  | some a => exact ⟨a, rfl, h⟩
end
/-! ### the judgements -/
abbrev qE (K : PySem.W.Frag) (Q : VK) : D → Hp → Hp → Prop := fun d H' F' => ∀ v, Dp K F' v d → Q v H'
abbrev qT (Q : Bool → Hp → Prop) : Bool → Hp → Hp → Prop := fun b H' _ => Q b H'
abbrev qA (K : PySem.W.Frag) (Q : List V → Hp → Prop) : List D → Hp → Hp → Prop := fun ds H' F' => ∀ vs, DpAll K F' vs ds → Q vs H'
def Pk (K : PySem.W.Frag) (H F : Hp) (x : V) (a : D) : Prop := Dp K F x a ∨ ∃ (p : Addr) (vs : List V) (ds : List D), x = .ref p ∧ a = .list ds ∧ H p = some (.lst vs) ∧ DpAll K F vs ds
abbrev qP (K : PySem.W.Frag) (Q : VK) : D → Hp → Hp → Prop := fun d H' F' => ∀ v, Pk K H' F' v d → Q v H'
def tE (K : PySem.W.Frag) (W : WX) (m : M D) : TE := fun σ H Q => ∃ c F ρ, Ok K c σ H F ρ ∧ post K W c σ F (qE K Q) (m ρ)
/-- a value that may be a slot's own list: looked at, then gone -/
def tP (K : PySem.W.Frag) (W : WX) (m : M D) : TE := fun σ H Q => ∃ c F ρ, Ok K c σ H F ρ ∧ post K W c σ F (qP K Q) (m ρ)
def tT (K : PySem.W.Frag) (W : WX) (m : M Bool) : TT := fun σ H Q => ∃ c F ρ, Ok K c σ H F ρ ∧ post K W c σ F (qT Q) (m ρ)
def tA (K : PySem.W.Frag) (W : WX) (m : M (List D)) : TA := fun σ H Q => ∃ c F ρ, Ok K c σ H F ρ ∧ post K W c σ F (qA K Q) (m ρ)
inductive Fl where
  | nx | bk | ct
  | rt (d : D)
  | rf (ds : List D)
def postS (K : PySem.W.Frag) (W : WX) (c : Ct) (F : Hp) (Dn : Ends) : Option (R Fl) → Prop
  | none => False
  | some (.ok .nx ρ') => ∀ σ' H' F', Ok K c σ' H' F' ρ' → Same F F' → Dn.nx σ' H'
  | some (.ok .bk ρ') => ∀ σ' H' F', Ok K c σ' H' F' ρ' → Same F F' → Dn.bk σ' H'
  | some (.ok .ct ρ') => ∀ σ' H' F', Ok K c σ' H' F' ρ' → Same F F' → Dn.ct σ' H'
  | some (.ok (.rt d) ρ') => ∀ σ' v H' F', Ok K c σ' H' F' ρ' → Same F F' → Dp K F' v d → Dn.rt v H'
  | some (.ok (.rf ds) ρ') => ∀ σ' p vs H' F', Ok K c σ' H' F' ρ' → Same F F' → H' p = some (.lst vs) → DpAll K F' vs ds → F' p = none → c.H0 p = none → Dn.rt (.ref p) H'
  | some (.ex e ρ') => ∀ σ' cls x H' F', Ok K c σ' H' F' ρ' → Same F F' → ExR K e cls x F' H' → W cls x σ' H'
def tS (K : PySem.W.Frag) (W : WX) (m : M Fl) : TS := fun Dn σ H => ∃ c F ρ, Ok K c σ H F ρ ∧ postS K W c F Dn (m ρ)
/-- a store: of a value, by a target -/
def postG (K : PySem.W.Frag) (W : WX) (c : Ct) (F : Hp) (Q : St → Hp → Prop) : Option (R Unit) → Prop
  | none => False
  | some (.ok _ ρ') => ∀ σ' H' F', Ok K c σ' H' F' ρ' → Same F F' → Q σ' H'
  | some (.ex e ρ') => ∀ σ' cls x H' F', Ok K c σ' H' F' ρ' → Same F F' → ExR K e cls x F' H' → W cls x σ' H'
def tG (K : PySem.W.Frag) (W : WX) (g : D → M Unit) : TG := fun v σ H Q => ∃ c F ρ d, Ok K c σ H F ρ ∧ Dp K F v d ∧ postG K W c F Q (g d ρ)
def tGs (K : PySem.W.Frag) (W : WX) (g : List D → M Unit) : TGs := fun vs σ H Q => ∃ c F ρ ds, Ok K c σ H F ρ ∧ DpAll K F vs ds ∧ postG K W c F Q (g ds ρ)
section
variable {X : Cx} {e : Expr} {es : List Expr} {st : Stmt} {sts : List Stmt}
theorem PE.imp {t t' : TE} (h : PE X e t) (k : ∀ σ H Q, t' σ H Q → t σ H Q) : PE X e t' := ⟨fun pins s σ H Q I q => h.run pins s σ H Q I (k σ H Q q)⟩
theorem PT.imp {t t' : TT} (h : PT X e t) (k : ∀ σ H Q, t' σ H Q → t σ H Q) : PT X e t' := ⟨fun pins s σ H Q I q => h.run pins s σ H Q I (k σ H Q q)⟩
theorem PA.imp {t t' : TA} (h : PA X es t) (k : ∀ σ H Q, t' σ H Q → t σ H Q) : PA X es t' := ⟨fun pos pins s σ H Q I q => h.run pos pins s σ H Q I (k σ H Q q)⟩
theorem PS.imp {t t' : TS} (h : PS X st t) (k : ∀ Dn σ H, t' Dn σ H → t Dn σ H) : PS X st t' := ⟨fun pins s σ H Dn I q => h.run pins s σ H Dn I (k Dn σ H q)⟩
theorem PSs.imp {t t' : TS} (h : PSs X sts t) (k : ∀ Dn σ H, t' Dn σ H → t Dn σ H) : PSs X sts t' := ⟨fun pins s σ H Dn I q => h.run pins s σ H Dn I (k Dn σ H q)⟩
theorem PG.imp {t t' : TG} (h : PG X e t) (k : ∀ v σ H Q, t' v σ H Q → t v σ H Q) : PG X e t' := ⟨fun pins s σ H v u Q I r q => h.run pins s σ H v u Q I r (k v σ H Q q)⟩
theorem PGs.imp {t t' : TGs} (h : PGs X es t) (k : ∀ v σ H Q, t' v σ H Q → t v σ H Q) : PGs X es t' := ⟨fun pins s σ H v u Q I r q => h.run pins s σ H v u Q I r (k v σ H Q q)⟩
theorem PI.imp {tg : Expr} {t t' : TI} (h : PI X tg e t) (k : ∀ σ H Q, t' σ H Q → t σ H Q) : PI X tg e t' := ⟨fun pins s σ H Q I q => h.run pins s σ H Q I (k σ H Q q)⟩
end
section
variable {K : PySem.W.Frag} {W : WX} {c : Ct} {σ : St} {F H : Hp} {ρ : En}
theorem postS_weak {Dn : Ends} {F1 : Hp} (s : Same F F1) : ∀ {r : Option (R Fl)}, postS K W c F Dn r → postS K W c F1 Dn r
  | some (.ok .nx ρ'), h => fun σ' H' F' ok s' => h σ' H' F' ok (s.trans s')
  | some (.ok .bk ρ'), h => fun σ' H' F' ok s' => h σ' H' F' ok (s.trans s')
  | some (.ok .ct ρ'), h => fun σ' H' F' ok s' => h σ' H' F' ok (s.trans s')
  | some (.ok (.rt d) ρ'), h => fun σ' v H' F' ok s' => h σ' v H' F' ok (s.trans s')
  | some (.ok (.rf d) ρ'), h => fun σ' p v H' F' ok s' => h σ' p v H' F' ok (s.trans s')
  | some (.ex e ρ'), h => fun σ' cls x H' F' ok s' => h σ' cls x H' F' ok (s.trans s')
theorem postG_weak {Q : St → Hp → Prop} {F1 : Hp} (s : Same F F1) : ∀ {r : Option (R Unit)}, postG K W c F Q r → postG K W c F1 Q r
  | some (.ok _ ρ'), h => fun σ' H' F' ok s' => h σ' H' F' ok (s.trans s')
  | some (.ex e ρ'), h => fun σ' cls x H' F' ok s' => h σ' cls x H' F' ok (s.trans s')
/-- an expression ahead of what is stated of a statement -/
theorem postS_bind {α : Type} {Dn : Ends} {m : M α} {f : α → M Fl} (h : postS K W c F Dn (mBind m f ρ)) :
    post K W c σ F (fun a H1 F1 => ∃ ρ1, Ok K c σ H1 F1 ρ1 ∧ Same F F1 ∧ postS K W c F1 Dn (f a ρ1)) (m ρ) := by
  unfold mBind at h
  cases e : m ρ with
  | none => rw [e] at h; exact h.elim
  | some r =>
    rw [e] at h
    cases r with
    | ok a ρ' => exact fun H' F' ok s => ⟨ρ', ok, s, postS_weak s h⟩
    | ex x ρ' => exact fun cls y H' F' ok s q => h σ cls y H' F' ok s q
theorem postG_bind {α : Type} {Q : St → Hp → Prop} {m : M α} {f : α → M Unit} (h : postG K W c F Q (mBind m f ρ)) :
    post K W c σ F (fun a H1 F1 => ∃ ρ1, Ok K c σ H1 F1 ρ1 ∧ Same F F1 ∧ postG K W c F1 Q (f a ρ1)) (m ρ) := by
  unfold mBind at h
  cases e : m ρ with
  | none => rw [e] at h; exact h.elim
  | some r =>
    rw [e] at h
    cases r with
    | ok a ρ' => exact fun H' F' ok s => ⟨ρ', ok, s, postG_weak s h⟩
    | ex x ρ' => exact fun cls y H' F' ok s q => h σ cls y H' F' ok s q
/-- a store ahead of what is stated of a statement, of a store -/
theorem postG_mono {Q Q' : St → Hp → Prop} (k : ∀ σ' H', Q σ' H' → Q' σ' H') : ∀ {r : Option (R Unit)}, postG K W c F Q r → postG K W c F Q' r
  | some (.ok _ ρ'), h => fun σ' H' F' ok s' => k _ _ (h σ' H' F' ok s')
  | some (.ex e ρ'), h => h
theorem postS_bindG {Dn : Ends} {m : M Unit} {f : Unit → M Fl} (h : postS K W c F Dn (mBind m f ρ)) :
    postG K W c F (fun σ1 H1 => ∃ F1 ρ1, Ok K c σ1 H1 F1 ρ1 ∧ Same F F1 ∧ postS K W c F1 Dn (f () ρ1)) (m ρ) := by
  unfold mBind at h
  cases e : m ρ with
  | none => rw [e] at h; exact h.elim
  | some r =>
    rw [e] at h
    cases r with
    | ok a ρ' => exact fun σ' H' F' ok s => ⟨F', ρ', ok, s, postS_weak s h⟩
    | ex x ρ' => exact h
theorem postG_bindG {Q : St → Hp → Prop} {m : M Unit} {f : Unit → M Unit} (h : postG K W c F Q (mBind m f ρ)) :
    postG K W c F (fun σ1 H1 => ∃ F1 ρ1, Ok K c σ1 H1 F1 ρ1 ∧ Same F F1 ∧ postG K W c F1 Q (f () ρ1)) (m ρ) := by
  unfold mBind at h
  cases e : m ρ with
  | none => rw [e] at h; exact h.elim
  | some r =>
    rw [e] at h
    cases r with
    | ok a ρ' => exact fun σ' H' F' ok s => ⟨F', ρ', ok, s, postG_weak s h⟩
    | ex x ρ' => exact h
end

/-! ### what a looked-at value is -/
section
variable {K : PySem.W.Frag} {c : Ct} {σ : St} {F H : Hp} {ρ : En} {x : V}
theorem Pk.of {a : D} (h : Dp K F x a) : Pk K H F x a := .inl h
theorem Pk.dp {a : D} (s : Same F H) (h : Pk K H F x a) : L2.Dp K H x a := by
  rcases h with h | ⟨p, vs, ds, rfl, rfl, h, r⟩
  · exact Dp.l2 (Dp.mono s h)
  · exact .lst (SqL.of h) (DpAll.l2 (DpAll.mono s r))
theorem Pk.rd {ds : List D} (s : Same F H) (h : Pk K H F x (.list ds)) : ∃ p vs, x = .ref p ∧ Rd H p (.lst vs) ∧ DpAll K F vs ds := by
  rcases h with h | ⟨p, vs, es, rfl, e, h, r⟩
  · cases h with
    | lst h r => exact ⟨_, _, rfl, Rd.mono s h, r⟩
  · cases e
    exact ⟨p, vs, rfl, .inl h, r⟩
theorem Pk.lst {ds : List D} (s : Same F H) (h : Pk K H F x (.list ds)) : ∃ p vs, x = .ref p ∧ SqL K H p vs ∧ DpAll K F vs ds := by
  rcases h with h | ⟨p, vs, es, rfl, e, h, r⟩
  · cases h with
    | lst h r => exact ⟨_, _, rfl, .inl (Rd.mono s h), r⟩
  · cases e
    exact ⟨p, vs, rfl, SqL.of h, r⟩
theorem Pk.tup {ds : List D} (s : Same F H) (h : Pk K H F x (.tuple ds)) : ∃ p vs, x = .ref p ∧ SqT K H p vs ∧ DpAll K F vs ds := by
  rcases h with h | ⟨p, vs, es, rfl, e, h, r⟩
  · cases h with
    | tup h r => exact ⟨_, _, rfl, SqT.mono s h, r⟩
  · cases e
theorem Pk.int {i : Int} (h : Pk K H F x (.int i)) : x = .int i := by
  rcases h with h | ⟨p, vs, es, rfl, e, h, r⟩
  · cases h; rfl
  · cases e
theorem Pk.bool {i : Bool} (h : Pk K H F x (.bool i)) : x = .bl i := by
  rcases h with h | ⟨p, vs, es, rfl, e, h, r⟩
  · cases h; rfl
  · cases e
theorem Pk.str {i : Str} (h : Pk K H F x (.str i)) : x = .str i := by
  rcases h with h | ⟨p, vs, es, rfl, e, h, r⟩
  · cases h; rfl
  · cases e
theorem Pk.none (h : Pk K H F x .none) : x = .non := by
  rcases h with h | ⟨p, vs, es, rfl, e, h, r⟩
  · cases h; rfl
  · cases e
end

/-! ### names -/
def mVar (i : Nat) : M D := fun ρ => match ρ[i]? with
  | some (.val d) => some (.ok d ρ)
  | some (.own ds) => some (.ok (.list ds) (ρ.set i (.val (.list ds))))
  | _ => none
def mPeek (i : Nat) : M D := fun ρ => match ρ[i]? with
  | some (.val d) => some (.ok d ρ)
  | some (.own ds) => some (.ok (.list ds) ρ)
  | some (.io ds) => some (.ok (.list ds) ρ)
  | _ => none
section
variable {X : Cx} {K : PySem.W.Frag} {W : WX} {c : Ct} {σ : St} {F H : Hp} {ρ : En}
theorem peek_at {i : Nat} {Q : VK} (ok : Ok K c σ H F ρ) (h : post K W c σ F (qP K Q) (mPeek i ρ)) : ∃ v d, σ[i]? = some (some v) ∧ Pk K H F v d ∧ mPeek i ρ = some (.ok d ρ) ∧ Q v H := by
  unfold mPeek at h ⊢
  split at h
  · rename_i d e
    obtain ⟨v, a1, a2⟩ := ok.val i d e
    exact ⟨v, d, a1, .inl a2, rfl, h H F ok (Same.refl F) v (.inl a2)⟩
  · rename_i ds e
    obtain ⟨p, vs, a1, a2, a3, _⟩ := ok.own i ds e
    have q : Pk K H F (.ref p) (.list ds) := .inr ⟨p, vs, ds, rfl, rfl, a2, a3⟩
    exact ⟨.ref p, _, a1, q, rfl, h H F ok (Same.refl F) _ q⟩
  · rename_i ds e
    obtain ⟨_, p, vs, _, a1, a2, a3⟩ := ok.ios i ds e
    have q : Pk K H F (.ref p) (.list ds) := .inr ⟨p, vs, ds, rfl, rfl, a2, a3⟩
    exact ⟨.ref p, _, a1, q, rfl, h H F ok (Same.refl F) _ q⟩
  · exact h.elim
theorem tVar_of {i : Nat} {Q : VK} (h : tE K W (mVar i) σ H Q) : tVar i σ H Q := by
  obtain ⟨c, F, ρ, ok, h⟩ := h
  unfold mVar at h
  split at h
  · rename_i d e
    obtain ⟨v, a1, a2⟩ := ok.val i d e
    exact ⟨v, a1, h H F ok (Same.refl F) v a2⟩
  · rename_i ds e
    obtain ⟨F', p, s, a1, a2, ok'⟩ := ok.frz e
    exact ⟨.ref p, a1, h H F' ok' s _ a2⟩
  · exact h.elim
theorem tVar_ofP {i : Nat} {Q : VK} (h : tP K W (mPeek i) σ H Q) : tVar i σ H Q := by
  obtain ⟨c, F, ρ, ok, h⟩ := h
  obtain ⟨v, d, a1, _, _, q⟩ := peek_at ok h
  exact ⟨v, a1, q⟩
theorem tP_of {m : M D} {Q : VK} (h : tP K W m σ H Q) : tE K W m σ H Q := by
  obtain ⟨c, F, ρ, ok, h⟩ := h
  exact ⟨c, F, ρ, ok, post_mono (fun a H' F' _ q v r => q v (.inl r)) h⟩
theorem dv (i : Nat) {x : Str} {pos : Pos} (hN : X.N[i]? = some x := by rfl) (hv : Vis X.env.scope x := by first | exact Or.inl rfl | exact Or.inr (Or.inl rfl) | exact Or.inr (Or.inr rfl)) (hd : (x == ("__debug__" : Str)) = false := by decide)
    (hcd : (x == ("__classdict__" : Str)) = false := by decide) : PE X (.Name x pos) (tE K W (mVar i)) := PE.imp (pe_var hN hv hd hcd) fun _ _ _ => tVar_of
theorem dpk (i : Nat) {x : Str} {pos : Pos} (hN : X.N[i]? = some x := by rfl) (hv : Vis X.env.scope x := by first | exact Or.inl rfl | exact Or.inr (Or.inl rfl) | exact Or.inr (Or.inr rfl)) (hd : (x == ("__debug__" : Str)) = false := by decide)
    (hcd : (x == ("__classdict__" : Str)) = false := by decide) : PE X (.Name x pos) (tP K W (mPeek i)) := PE.imp (pe_var hN hv hd hcd) fun _ _ _ => tVar_ofP
/-- any value may be looked at -/
theorem dP {e : Expr} {m : M D} (h : PE X e (tE K W m)) : PE X e (tP K W m) := PE.imp h fun _ _ _ => tP_of
/-! constants -/
theorem tC_of {v : V} {d : D} {Q : VK} (r : ∀ F, Dp K F v d) (h : tE K W (mPure d) σ H Q) : tC v σ H Q := by
  obtain ⟨c, F, ρ, ok, h⟩ := h
  exact h H F ok (Same.refl F) v (r F)
theorem dInt {i : Int} {j pos} : PE X (.Constant (.int i) j pos) (tE K W (mPure (.int i))) := PE.imp pe_int fun _ _ _ => tC_of fun _ => .int i
theorem dBl {b : Bool} {j pos} : PE X (.Constant (.bool b) j pos) (tE K W (mPure (.bool b))) := PE.imp pe_bl fun _ _ _ => tC_of fun _ => .bl b
theorem dNon {j pos} : PE X (.Constant .none j pos) (tE K W (mPure .none)) := PE.imp pe_non fun _ _ _ => tC_of fun _ => .non
theorem dStr {x : Str} {j pos} : PE X (.Constant (.str x) j pos) (tE K W (mPure (.str x))) := PE.imp pe_str fun _ _ _ => tC_of fun _ => .str x
/-- what the run never comes to -/
theorem dNever {e : Expr} : PE X e (tE K W mStuck) := ⟨fun _ _ _ _ _ _ h => by obtain ⟨_, _, _, _, h⟩ := h; exact h.elim⟩
theorem dNeverS {st : Stmt} : PS X st (tS K W mStuck) := ⟨fun _ _ _ _ _ _ h => by obtain ⟨_, _, _, _, h⟩ := h; exact h.elim⟩

/-! ### two values, and what comes of them -/
/-- a rule of the layer serves g -/
def OpD (K : PySem.W.Frag) (r : R2) (g : D → D → Option D) : Prop :=
  ∀ {W : WX} {c : Ct} {σ : St} {H F : Hp} {ρ : En} {x y : V} {a b d : D} {Q : VK}, Ok K c σ H F ρ → Pk K H F x a → Pk K H F y b → g a b = some d → post K W c σ F (qE K Q) (some (.ok d ρ)) → r x y H Q
def mBin (g : D → D → Option D) (ma mb : M D) : M D := mBind ma fun a => mBind mb fun b => mLift (g a b)
theorem post_peek {α : Type} {i : Nat} {G : α → Hp → Hp → Prop} {f : D → M α} (ok : Ok K c σ H F ρ) (h : post K W c σ F G (mBind (mPeek i) f ρ)) : ∃ v d, σ[i]? = some (some v) ∧ Pk K H F v d ∧ post K W c σ F G (f d ρ) := by
  unfold mBind mPeek at h
  cases e : ρ[i]? with
  | none => rw [e] at h; exact h.elim
  | some u =>
    rw [e] at h
    cases u with
    | un => exact h.elim
    | val d =>
      obtain ⟨v, a1, a2⟩ := ok.val i d e
      exact ⟨v, d, a1, .inl a2, h⟩
    | own ds =>
      obtain ⟨p, vs, a1, a2, a3, _⟩ := ok.own i ds e
      exact ⟨.ref p, _, a1, .inr ⟨p, vs, ds, rfl, rfl, a2, a3⟩, h⟩
    | io ds =>
      obtain ⟨_, p, vs, _, a1, a2, a3⟩ := ok.ios i ds e
      exact ⟨.ref p, _, a1, .inr ⟨p, vs, ds, rfl, rfl, a2, a3⟩, h⟩
    | scr ns => exact h.elim
    | dct _ => exact h.elim
/-- the left one is a slot, read behind the right one -/
def mBinL (g : D → D → Option D) (i : Nat) (mb : M D) : M D := mBind (mPeek i) fun _ => mBind mb fun b => mBind (mPeek i) fun a => mLift (g a b)
theorem tOp_of {r : R2} {g : D → D → Option D} (ho : OpD K r g) {ma mb : M D} {Q : VK} (h : tE K W (mBin g ma mb) σ H Q) : tOp r (tE K W ma) (tP K W mb) σ H Q := by
  obtain ⟨c, F, ρ, ok, h⟩ := h
  refine ⟨c, F, ρ, ok, post_mono ?_ (post_bind h)⟩
  rintro a H1 F1 _ ⟨ρ1, ok1, s1, h1⟩ x rx
  refine ⟨c, F1, ρ1, ok1, post_mono ?_ (post_bind h1)⟩
  rintro b H2 F2 s2' ⟨ρ2, ok2, s2, h2⟩ y ry
  obtain ⟨d, e, h3⟩ := post_lift h2
  exact ho ok2 (.inl (Dp.mono s2 rx)) ry e h3
theorem tOp_ofL {r : R2} {g : D → D → Option D} (ho : OpD K r g) {i : Nat} {mb : M D} {Q : VK} (h : tE K W (mBinL g i mb) σ H Q) : tOp r (tVar i) (tP K W mb) σ H Q := by
  obtain ⟨c, F, ρ, ok, h⟩ := h
  obtain ⟨v, _, ev, _, h⟩ := post_peek ok h
  refine ⟨v, ev, c, F, ρ, ok, post_mono ?_ (post_bind h)⟩
  rintro b H2 F2 _ ⟨ρ2, ok2, s2, h2⟩ y ry
  obtain ⟨v', a, ev', pk, h3⟩ := post_peek ok2 h2
  obtain ⟨d, e, h4⟩ := post_lift h3
  have ee : v' = v := by rw [ev] at ev'; cases ev'; rfl
  subst ee
  exact ho ok2 pk ry e h4
end
end Dd

namespace Dd
open PySem PySem.Spec L2
section
variable {K : PySem.W.Frag}
/-! ### operators -/
def fit (n : Nat) : Bool := decide (n ≤ 16000000)
theorem fit_le {n : Nat} (h : fit n = true) : n ≤ sizeLine := by
  have := of_decide_eq_true h
  rw [sizeLine_eq]; omega
theorem fit_lt {n : Nat} (h : fit n = true) : n < sizeLine := by
  have := of_decide_eq_true h
  rw [sizeLine_eq]; omega
/-- ints -/
def iI (f : Int → Int → D) : D → D → Option D
  | .int i, .int j => some (f i j)
  | _, _ => none
def iIc (C : Int → Int → Bool) (f : Int → Int → D) : D → D → Option D
  | .int i, .int j => if C i j = true then some (f i j) else none
  | _, _ => none
theorem opD_I {g : Int → Int → V} {f : Int → Int → D} (h : ∀ F i j, Dp K F (g i j) (f i j)) : OpD K (rI0 g) (iI f) := by
  intro W c σ H F ρ x y a b d Q ok rx ry e q
  unfold iI at e
  split at e
  · rename_i i j
    cases e
    exact ⟨i, j, rx.int, ry.int, post_ok q ok _ (h F i j)⟩
  · cases e
theorem opD_Ic {Cp : Int → Int → Prop} {C : Int → Int → Bool} {g : Int → Int → V} {f : Int → Int → D} (hC : ∀ i j, C i j = true → Cp i j) (h : ∀ F i j, Dp K F (g i j) (f i j)) : OpD K (rI Cp g) (iIc C f) := by
  intro W c σ H F ρ x y a b d Q ok rx ry e q
  unfold iIc at e
  split at e
  · rename_i i j
    split at e
    · rename_i hc
      cases e
      exact ⟨i, j, rx.int, ry.int, hC i j hc, post_ok q ok _ (h F i j)⟩
    · cases e
  · cases e
/-- one rule or another -/
def oOr (g g' : D → D → Option D) : D → D → Option D := fun a b => match g a b with
  | some d => some d
  | none => g' a b
theorem opD_or {r r' : R2} {g g' : D → D → Option D} (h : OpD K r g) (h' : OpD K r' g') : OpD K (fun x y H Q => r x y H Q ∨ r' x y H Q) (oOr g g') := by
  intro W c σ H F ρ x y a b d Q ok rx ry e q
  unfold oOr at e
  split at e
  · rename_i d' e'
    cases e
    exact .inl (h ok rx ry e' q)
  · exact .inr (h' ok rx ry e q)
/-- a new list, a new tuple -/
theorem new_lst {W : WX} {c : Ct} {σ : St} {H F : Hp} {ρ : En} {Q : VK} {vs : List V} {ds : List D} (ok : Ok K c σ H F ρ) (hd : DpAll K F vs ds) (q : post K W c σ F (qE K Q) (some (.ok (.list ds) ρ))) (p : Addr) (hp : H p = none) :
    Q (.ref p) (upd H p (.lst vs)) :=
  q _ _ (ok.alloc hp) (Same.updN (ok.new hp).1) _ (.lst (.inl upd_same) (DpAll.mono (Same.updN (ok.new hp).1) hd))
theorem new_tup {W : WX} {c : Ct} {σ : St} {H F : Hp} {ρ : En} {Q : VK} {vs : List V} {ds : List D} (ok : Ok K c σ H F ρ) (hd : DpAll K F vs ds) (q : post K W c σ F (qE K Q) (some (.ok (.tuple ds) ρ))) (p : Addr) (hp : H p = none) :
    Q (.ref p) (upd H p (.tup vs)) :=
  q _ _ (ok.alloc hp) (Same.updN (ok.new hp).1) _ (.tup (SqT.of upd_same) (DpAll.mono (Same.updN (ok.new hp).1) hd))

theorem sq_raw {X : Cx} {pins : List (Addr × Obj)} {σ : St} {H : Hp} {s : Shared} {a : Addr} {xs : List V} (I : Inv X pins σ H s) (h : Rd H a (.lst xs)) :
    xs.length ≤ sizeLine ∧ ∃ (its : List Value) (n : Nat), Vals xs its ∧ xs.length = its.length ∧ s.heap.get? a = some { cls := .type "list", data := .seq its.toArray n } := by
  have q : ObjOk X.prog X.w H s.heap a (.lst xs) := h.ok I.hok
  obtain ⟨z, its, n, r, e⟩ := q
  exact ⟨z, its, n, r, r.length, e⟩
/-- list + list, any -/
def rCatS : R2 := fun x y H Q => ∃ l b xs zs, x = .ref l ∧ y = .ref b ∧ Rd H l (.lst xs) ∧ Rd H b (.lst zs) ∧ xs.length + zs.length ≤ sizeLine ∧ ∀ p, H p = none → Q (.ref p) (upd H p (.lst (xs ++ zs)))
theorem op_catS {X : Cx} : OpR X (binaryOp .Add) rCatS := by
  intro pins s σ H x y v u Q I rx ry h
  obtain ⟨l, b, xs, zs, rfl, rfl, hH, hB, hz, q⟩ := h
  cases rx
  cases ry
  obtain ⟨z, its, n, r, hl, e⟩ := sq_raw I hH
  obtain ⟨z2, its2, n2, r2, hl2, e2⟩ := sq_raw I hB
  refine PySem.P.add_list e e2 ?_ (by rw [List.size_toArray, List.size_toArray]; omega)
  have ea : its.toArray ++ its2.toArray = (its ++ its2).toArray := by simp
  rw [ea]
  exact ⟨.ref _, _, I.lnew (t' := s.toks) (r.append r2) (by rw [List.length_append]; omega), rfl, q _ I.fresh⟩
def catL : D → D → Option D
  | .list xs, .list ys => if fit (xs.length + ys.length) = true then some (.list (xs ++ ys)) else none
  | _, _ => none
def catT : D → D → Option D
  | .tuple xs, .tuple ys => if (!xs.isEmpty && fit (xs.length + ys.length)) = true then some (.tuple (xs ++ ys)) else none
  | _, _ => none
def catS : D → D → Option D
  | .str x, .str y => if fit (x.length + y.length) = true then some (.str (x ++ y)) else none
  | _, _ => none
theorem opD_catL : OpD K rCatS catL := by
  intro W c σ H F ρ x y a b d Q ok rx ry e q
  unfold catL at e
  split at e
  · rename_i xs ys
    split at e
    · rename_i hc
      cases e
      obtain ⟨p, vs, rfl, hp, dp⟩ := Pk.rd ok.sub rx
      obtain ⟨p2, vs2, rfl, hp2, dp2⟩ := Pk.rd ok.sub ry
      exact ⟨p, p2, vs, vs2, rfl, rfl, hp, hp2, by rw [DpAll.length dp, DpAll.length dp2]; exact fit_le hc, fun p hp => new_lst ok (DpAll.append dp dp2) q p hp⟩
    · cases e
  · cases e
theorem opD_catT : OpD K (rCatT K) catT := by
  intro W c σ H F ρ x y a b d Q ok rx ry e q
  unfold catT at e
  split at e
  · rename_i xs ys
    split at e
    · rename_i hc
      cases e
      obtain ⟨p, vs, rfl, hp, dp⟩ := Pk.tup ok.sub rx
      obtain ⟨p2, vs2, rfl, hp2, dp2⟩ := Pk.tup ok.sub ry
      rw [Bool.and_eq_true] at hc
      refine ⟨p, p2, vs, vs2, rfl, rfl, hp, hp2, fun z => ?_, by rw [DpAll.length dp, DpAll.length dp2]; exact fit_le hc.2, fun z => ?_, fun z p hp => new_tup ok (DpAll.append dp dp2) q p hp⟩
      · subst z
        cases dp
        simp at hc
      · subst z
        cases dp2
        rw [List.append_nil] at q
        rcases rx with rx | ⟨_, _, _, _, e, _⟩
        · exact post_ok q ok _ rx
        · cases e
    · cases e
  · cases e
def rAddStr : R2 := fun x y H Q => ∃ i j, x = .str i ∧ y = .str j ∧ i.length + j.length ≤ sizeLine ∧ Q (.str (i ++ j)) H
theorem opD_catS : OpD K rAddStr catS := by
  intro W c σ H F ρ x y a b d Q ok rx ry e q
  unfold catS at e
  split at e
  · rename_i i j
    split at e
    · rename_i hc
      cases e
      exact ⟨i, j, rx.str, ry.str, fit_le hc, post_ok q ok _ (.str _)⟩
    · cases e
  · cases e
def addD : D → D → Option D := oOr (iI fun i j => .int (i + j)) (oOr catL (oOr catT catS))
def rAddA (K : PySem.W.Frag) : R2 := fun x y H Q => rI0 (fun i j => .int (i + j)) x y H Q ∨ (rCatS x y H Q ∨ (rCatT K x y H Q ∨ rAddStr x y H Q))
theorem opD_add : OpD K (rAddA K) addD := opD_or (opD_I fun _ _ _ => .int _) (opD_or opD_catL (opD_or opD_catT opD_catS))
theorem or_addA {X : Cx} : OpR X (binaryOp .Add) (rAddA X.K) := OpR.or op_add (OpR.or op_catS (OpR.or op_catT op_add_str))
def subD : D → D → Option D := iI fun i j => .int (i - j)
theorem opD_sub : OpD K (rI0 fun i j => .int (i - j)) subD := opD_I fun _ _ _ => .int _
/-- * of ints, one of them small; of a list by an int -/
def cMul (i j : Int) : Bool := decide (i.natAbs < 18446744073709551616) || decide (j.natAbs < 18446744073709551616)
theorem cMul_ok (i j : Int) (h : cMul i j = true) : CMul i j := by
  unfold cMul at h
  simp only [Bool.or_eq_true, decide_eq_true_eq] at h
  exact h.imp (fun q => by omega) (fun q => by omega)
def mulI : D → D → Option D := iIc cMul fun i j => .int (i * j)
def cDiv (_ j : Int) : Bool := decide (0 < j) && decide (j.natAbs < 1152921504606846976)
theorem cDiv_ok (i j : Int) (h : cDiv i j = true) : CDivW i j := by
  unfold cDiv at h
  simp only [Bool.and_eq_true, decide_eq_true_eq] at h
  exact wide_div (b := 60) h.1 h.2 (by decide) (by decide)
def divD : D → D → Option D := iIc cDiv fun i j => .int (i / j)
theorem opD_div : OpD K (rI CDivW fun i j => .int (i / j)) divD := opD_Ic cDiv_ok fun _ _ _ => .int _
def cMod (_ j : Int) : Bool := decide (0 < j)
def modD : D → D → Option D := iIc cMod fun i j => .int (i % j)
theorem opD_mod : OpD K (rI (fun _ j => 0 < j) fun i j => .int (i % j)) modD := opD_Ic (fun _ _ h => of_decide_eq_true h) fun _ _ _ => .int _
def cPow (i j : Int) : Bool := decide (0 ≤ j) && decide (j ≤ 1000000) && decide (i.natAbs < 2 ^ 64)
def powD : D → D → Option D := iIc cPow fun i j => .int (i ^ j.toNat)
theorem opD_pow : OpD K (rI CPow fun i j => .int (i ^ j.toNat)) powD := opD_Ic (fun i j h => by
  unfold cPow at h
  simp only [Bool.and_eq_true, decide_eq_true_eq] at h
  exact ⟨h.1.1, h.1.2, h.2⟩) fun _ _ _ => .int _
def rRepL : R2 := fun x y H Q => ∃ l k xs, x = .ref l ∧ y = .int k ∧ H l = some (.lst xs) ∧ -(2 ^ 63) ≤ k ∧ k < 2 ^ 63 ∧ xs.length * k.toNat ≤ sizeLine ∧
  ∀ p, H p = none → Q (.ref p) (upd H p (.lst (List.replicate k.toNat xs).flatten))
/-- comparing -/
def ltD : D → D → Option D := iI fun i j => .bool (decide (i < j))
def leD : D → D → Option D := iI fun i j => .bool (decide (i ≤ j))
def gtD : D → D → Option D := iI fun i j => .bool (decide (j < i))
def geD : D → D → Option D := iI fun i j => .bool (decide (j ≤ i))
theorem opD_lt : OpD K (rI0 fun i j => .bl (decide (i < j))) ltD := opD_I fun _ _ _ => .bl _
theorem opD_le : OpD K (rI0 fun i j => .bl (decide (i ≤ j))) leD := opD_I fun _ _ _ => .bl _
theorem opD_gt : OpD K (rI0 fun i j => .bl (decide (j < i))) gtD := opD_I fun _ _ _ => .bl _
theorem opD_ge : OpD K (rI0 fun i j => .bl (decide (j ≤ i))) geD := opD_I fun _ _ _ => .bl _
def eqD (a b : D) : Option D := if (SeqAt.shaped a && SeqAt.shaped b) = true then some (.bool (PyData.eqv a b)) else none
def neD (a b : D) : Option D := if (SeqAt.shaped a && SeqAt.shaped b) = true then some (.bool (!PyData.eqv a b)) else none
theorem opD_eq : OpD K (rEqD K) eqD := by
  intro W c σ H F ρ x y a b d Q ok rx ry e q
  unfold eqD at e
  split at e
  · rename_i hc
    cases e
    rw [Bool.and_eq_true] at hc
    exact ⟨a, b, Pk.dp ok.sub rx, Pk.dp ok.sub ry, hc.1, hc.2, post_ok q ok _ (.bl _)⟩
  · cases e
theorem opD_ne : OpD K (rNeD K) neD := by
  intro W c σ H F ρ x y a b d Q ok rx ry e q
  unfold neD at e
  split at e
  · rename_i hc
    cases e
    rw [Bool.and_eq_true] at hc
    exact ⟨a, b, Pk.dp ok.sub rx, Pk.dp ok.sub ry, hc.1, hc.2, post_ok q ok _ (.bl _)⟩
  · cases e
def isNon : D → Bool
  | .none => true
  | _ => false
theorem isNon_of {H F : Hp} {x : V} {a : D} (h : Pk K H F x a) : decide (x = .non) = isNon a := by
  rcases h with h | ⟨p, vs, es, rfl, rfl, h, r⟩
  · cases h <;> rfl
  · rfl
def isD : D → D → Option D
  | a, .none => some (.bool (isNon a))
  | _, _ => none
def isntD : D → D → Option D
  | a, .none => some (.bool (!isNon a))
  | _, _ => none
theorem opD_is : OpD K (fun x y H Q => y = .non ∧ Q (.bl (decide (x = .non))) H) isD := by
  intro W c σ H F ρ x y a b d Q ok rx ry e q
  unfold isD at e
  split at e
  · cases e
    refine ⟨ry.none, post_ok q ok _ ?_⟩
    rw [isNon_of rx]; exact .bl _
  · cases e
theorem opD_isnt : OpD K (fun x y H Q => y = .non ∧ Q (.bl (!decide (x = .non))) H) isntD := by
  intro W c σ H F ρ x y a b d Q ok rx ry e q
  unfold isntD at e
  split at e
  · cases e
    refine ⟨ry.none, post_ok q ok _ ?_⟩
    rw [isNon_of rx]; exact .bl _
  · cases e
/-- in a list, a tuple of plain things -/
def toV : D → V
  | .none => .non
  | .bool b => .bl b
  | .int i => .int i
  | .str x => .str x
  | _ => .non
def flatD : D → Bool
  | .none | .bool _ | .int _ | .str _ => true
  | _ => false
theorem flat_of {F : Hp} {x : V} {a : D} (h : Dp K F x a) (f : flatD a = true) : x = toV a := by
  cases h <;> first | rfl | cases f
theorem flats_of {F : Hp} : ∀ {vs : List V} {ds : List D}, DpAll K F vs ds → ds.all flatD = true → vs = ds.map toV
  | _, _, .nil, _ => rfl
  | _, _, .cons h t, f => by
    simp only [List.all_cons, Bool.and_eq_true] at f
    rw [flat_of h f.1, flats_of t f.2]; rfl
def inFlat (a : D) (ds : List D) : Bool := inV (toV a) (ds.map toV)
def inOk (a : D) (ds : List D) : Bool := flatD a && ds.all flatD && flatV (toV a) && (ds.map toV).all flatV
def inD (neg : Bool) : D → D → Option D
  | a, .list ds => if inOk a ds = true then some (.bool (if neg then !inFlat a ds else inFlat a ds)) else none
  | a, .tuple ds => if inOk a ds = true then some (.bool (if neg then !inFlat a ds else inFlat a ds)) else none
  | _, _ => none
theorem opD_in (neg : Bool) : OpD K (rIn K neg) (inD neg) := by
  intro W c σ H F ρ x y a b d Q ok rx ry e q
  have go : ∀ (ds : List D) (p : Addr) (vs : List V), inOk a ds = true → DpAll K F vs ds → d = .bool (if neg then !inFlat a ds else inFlat a ds) → (SqL K H p vs ∨ SqT K H p vs) → y = .ref p → rIn K neg x y H Q := by
    intro ds p vs hc dp ed hs ey
    unfold inOk at hc
    simp only [Bool.and_eq_true] at hc
    obtain ⟨⟨⟨h1, h2⟩, h3⟩, h4⟩ := hc
    have ex : x = toV a := by
      rcases rx with rx | ⟨_, _, _, _, e', _⟩
      · exact flat_of rx h1
      · subst e'; cases h1
    have ev : vs = ds.map toV := flats_of dp h2
    subst ex ev ed
    exact ⟨p, _, ey, hs, h3, h4, post_ok q ok _ (.bl _)⟩
  unfold inD at e
  split at e
  · split at e
    · rename_i hc
      cases e
      obtain ⟨p, vs, ey, hp, dp⟩ := Pk.lst ok.sub ry
      exact go _ p vs hc dp rfl (.inl hp) ey
    · cases e
  · split at e
    · rename_i hc
      cases e
      obtain ⟨p, vs, ey, hp, dp⟩ := Pk.tup ok.sub ry
      exact go _ p vs hc dp rfl (.inr hp) ey
    · cases e
  · cases e
/-- an item by its place -/
def ixD : D → D → Option D
  | .list ds, .int i => atI ds i
  | .tuple ds, .int i => atI ds i
  | .str z, .int i => if fit z.length = true then (atI z.cps.toList i).map fun c => .str ⟨#[c]⟩ else none
  | _, _ => none
theorem atI_D {F : Hp} {vs : List V} {ds : List D} {i : Int} {d : D} (h : DpAll K F vs ds) (e : atI ds i = some d) : ∃ v, atI vs i = some v ∧ Dp K F v d := by
  unfold atI at e ⊢
  rw [DpAll.length h]
  cases q : ixN ds.length i with
  | none => rw [q] at e; cases e
  | some j =>
    rw [q] at e
    exact DpAll.getd h e
theorem opD_ix : OpD K (rIx K) ixD := by
  intro W c σ H F ρ x y a b d Q ok rx ry e q
  unfold ixD at e
  split at e
  · rename_i ds i
    obtain ⟨p, vs, rfl, hp, dp⟩ := Pk.lst ok.sub rx
    obtain ⟨v, e1, e2⟩ := atI_D dp e
    exact .inl ⟨p, vs, i, v, rfl, ry.int, hp, e1, post_ok q ok _ e2⟩
  · rename_i ds i
    obtain ⟨p, vs, rfl, hp, dp⟩ := Pk.tup ok.sub rx
    obtain ⟨v, e1, e2⟩ := atI_D dp e
    exact .inr (.inl ⟨p, vs, i, v, rfl, ry.int, hp, e1, post_ok q ok _ e2⟩)
  · rename_i z i
    split at e
    · rename_i hf
      cases q' : atI z.cps.toList i with
      | none => rw [q'] at e; cases e
      | some c' =>
        rw [q'] at e
        cases e
        exact .inr (.inr ⟨z, i, c', rx.str, ry.int, fit_le hf, q', post_ok q ok _ (.str _)⟩)
    · cases e
  · cases e
end
end Dd

namespace Dd
open PySem PySem.Spec L2
section
variable {X : Cx} {W : WX} {a b c' : Expr} {ma mb mc : M D} {pos : Pos} {σ : St} {H : Hp} {K : PySem.W.Frag}
/-! ### operators in an expression -/
theorem dOp {op : Operator} {r : R2} {g : D → D → Option D} (ho : OpR X (binaryOp op) r) (hd : OpD X.K r g) (ha : PE X a (tE X.K W ma)) (hb : PE X b (tP X.K W mb)) : PE X (.BinOp a op b pos) (tE X.K W (mBin g ma mb)) :=
  PE.imp (pe_op ho ha hb) fun _ _ _ => tOp_of hd
theorem dOpL {op : Operator} {r : R2} {g : D → D → Option D} {i : Nat} (ho : OpR X (binaryOp op) r) (hd : OpD X.K r g) (ha : PE X a (tVar i)) (hb : PE X b (tP X.K W mb)) : PE X (.BinOp a op b pos) (tE X.K W (mBinL g i mb)) :=
  PE.imp (pe_op ho ha hb) fun _ _ _ => tOp_ofL hd
theorem dCmp {op : CmpOp} {r : R2} {g : D → D → Option D} (ho : OpR X (compareOp op) r) (hd : OpD X.K r g) (hm : behindInMarks op b = false) (ha : PE X a (tE X.K W ma)) (hb : PE X b (tP X.K W mb)) : PE X (.Compare a [op] [b] pos) (tE X.K W (mBin g ma mb)) :=
  PE.imp (pe_cmpR ho ha hb hm) fun _ _ _ => tOp_of hd
theorem dCmpL {op : CmpOp} {r : R2} {g : D → D → Option D} {i : Nat} (ho : OpR X (compareOp op) r) (hd : OpD X.K r g) (hm : behindInMarks op b = false) (ha : PE X a (tVar i)) (hb : PE X b (tP X.K W mb)) : PE X (.Compare a [op] [b] pos) (tE X.K W (mBinL g i mb)) :=
  PE.imp (pe_cmpR ho ha hb hm) fun _ _ _ => tOp_ofL hd
theorem dIx (ha : PE X a (tE X.K W ma)) (hb : PE X b (tP X.K W mb)) (hs : PlainIx b := by exact fun _ _ => rfl) : PE X (.Subscript a b pos) (tE X.K W (mBin ixD ma mb)) := PE.imp (pe_ix ix_seq ha hb hs) fun _ _ _ => tOp_of opD_ix
theorem dIxL {i : Nat} (ha : PE X a (tVar i)) (hb : PE X b (tP X.K W mb)) (hs : PlainIx b := by exact fun _ _ => rfl) : PE X (.Subscript a b pos) (tE X.K W (mBinL ixD i mb)) := PE.imp (pe_ix ix_seq ha hb hs) fun _ _ _ => tOp_ofL opD_ix
/-- one value -/
def mUn (g : D → Option D) (ma : M D) : M D := mBind ma fun a => mLift (g a)
def negD : D → Option D
  | .int i => some (.int (-i))
  | _ => none
theorem dNeg (ha : PE X a (tE X.K W ma)) : PE X (.UnaryOp .USub a pos) (tE X.K W (mUn negD ma)) := by
  refine PE.imp (pe_un un_neg ha) ?_
  rintro σ H Q ⟨c, F, ρ, ok, h⟩
  refine ⟨c, F, ρ, ok, post_mono ?_ (post_bind h)⟩
  rintro d H1 F1 _ ⟨ρ1, ok1, s1, h1⟩ x rx
  obtain ⟨d', e, h2⟩ := post_lift h1
  unfold negD at e
  split at e
  · cases e
    cases rx
    exact ⟨_, rfl, post_ok (W := W) h2 ok1 _ (.int _)⟩
  · cases e
/-! ### truth -/
def truD : D → Option Bool
  | .none => some false
  | .bool b => some b
  | .int i => some (i != 0)
  | .str x => if fit x.length = true then some ((x.length : Int) != 0) else none
  | .list ds => some (!ds.isEmpty)
  | .tuple ds => some (!ds.isEmpty)
  | .dict _ => none
theorem isEmpty_dp {F : Hp} {vs : List V} {ds : List D} (h : DpAll K F vs ds) : vs.isEmpty = ds.isEmpty := by cases h <;> rfl
theorem tru_of {c : Ct} {F : Hp} {ρ : En} (ok : Ok K c σ H F ρ) {x : V} {d : D} {k : Bool} (r : Pk K H F x d) (e : truD d = some k) : TruV K x H k := by
  cases d with
  | none => cases r.none; cases e; rfl
  | bool b => cases r.bool; cases e; rfl
  | int i => cases r.int; cases e; rfl
  | str z =>
    cases r.str
    have e : (if fit z.length = true then some ((z.length : Int) != 0) else none) = some k := e
    split at e
    · rename_i hf
      cases e
      exact ⟨fit_le hf, rfl⟩
    · cases e
  | list ds =>
    obtain ⟨p, vs, rfl, hp, dp⟩ := Pk.lst ok.sub r
    cases e
    exact .inl ⟨vs, hp, by rw [isEmpty_dp dp]⟩
  | tuple ds =>
    obtain ⟨p, vs, rfl, hp, dp⟩ := Pk.tup ok.sub r
    cases e
    exact .inr (.inl ⟨vs, hp, by rw [isEmpty_dp dp]⟩)
  | dict _ => cases e
def mTru (m : M D) : M Bool := mBind m fun d => mLift (truD d)
/-- any expression but comparisons, and, or, not: by its value's truth -/
theorem dTru (ha : PE X a (tP X.K W ma)) (he : ∀ whole, isTrue a X.env whole = (do let v ← whole; standAt a.pos; holding [v] (truthy v)) := by exact fun _ => rfl) : PT X a (tT X.K W (mTru ma)) := by
  refine PT.imp (pt_truth ha he) ?_
  rintro σ H Q ⟨c, F, ρ, ok, h⟩
  refine ⟨c, F, ρ, ok, post_mono ?_ (post_bind h)⟩
  rintro d H1 F1 _ ⟨ρ1, ok1, s1, h1⟩ x rx
  obtain ⟨k, e, h2⟩ := post_lift h1
  exact ⟨k, tru_of ok1 rx e, post_ok (W := W) h2 ok1⟩
def bolD : D → Option Bool
  | .bool b => some b
  | _ => none
def mBol (m : M D) : M Bool := mBind m fun d => mLift (bolD d)
theorem tTest_of {t : TE} {m : M D} (ht : ∀ σ H Q, tE K W m σ H Q → t σ H Q) {Q : Bool → Hp → Prop} (h : tT K W (mBol m) σ H Q) : tTest t σ H Q := by
  obtain ⟨c, F, ρ, ok, h⟩ := h
  refine ht _ _ _ ⟨c, F, ρ, ok, post_mono ?_ (post_bind h)⟩
  rintro d H1 F1 _ ⟨ρ1, ok1, s1, h1⟩ x rx
  obtain ⟨k, e, h2⟩ := post_lift h1
  unfold bolD at e
  split at e
  · cases e
    cases rx
    exact ⟨_, rfl, post_ok (W := W) h2 ok1⟩
  · cases e
theorem dtCmp {op : CmpOp} {r : R2} {g : D → D → Option D} (ho : OpR X (compareOp op) r) (hd : OpD X.K r g) (hm : behindInMarks op b = false) (ha : PE X a (tE X.K W ma)) (hb : PE X b (tP X.K W mb)) : PT X (.Compare a [op] [b] pos) (tT X.K W (mBol (mBin g ma mb))) :=
  PT.imp (pt_cmpR ho ha hb hm) fun _ _ _ => tTest_of fun _ _ _ => tOp_of hd
theorem dtCmpL {op : CmpOp} {r : R2} {g : D → D → Option D} {i : Nat} (ho : OpR X (compareOp op) r) (hd : OpD X.K r g) (hm : behindInMarks op b = false) (ha : PE X a (tVar i)) (hb : PE X b (tP X.K W mb)) : PT X (.Compare a [op] [b] pos) (tT X.K W (mBol (mBinL g i mb))) :=
  PT.imp (pt_cmpR ho ha hb hm) fun _ _ _ => tTest_of fun _ _ _ => tOp_ofL hd
/-- a < b < c -/
def mChain (g g' : D → D → Option D) (ma mb mc : M D) : M D := mBind ma fun a => mBind mb fun b => mBind (mLift (g a b)) fun r => mBind (mLift (bolD r)) fun k => if k = true then mBind mc fun c => mLift (g' b c) else mPure (.bool false)
theorem tChain_of {r r' : R2} {g g' : D → D → Option D} (ho : OpD K r g) (ho' : OpD K r' g') {Q : VK} (h : tE K W (mChain g g' ma mb mc) σ H Q) : tChain r r' (tE K W ma) (tE K W mb) (tP K W mc) σ H Q := by
  obtain ⟨c, F, ρ, ok, h⟩ := h
  refine ⟨c, F, ρ, ok, post_mono ?_ (post_bind h)⟩
  rintro a H1 F1 _ ⟨ρ1, ok1, s1, h1⟩ x rx
  refine ⟨c, F1, ρ1, ok1, post_mono ?_ (post_bind h1)⟩
  rintro b H2 F2 s2' ⟨ρ2, ok2, s2, h2⟩ y ry
  obtain ⟨d, e, h3⟩ := post_lift (o := g a b) (by exact post_mono (fun _ _ _ _ q => q) (post_bind h2))
  obtain ⟨ρ3, ok3, s3, h4⟩ := post_ok (W := W) h3 ok2
  refine ho (W := W) ok3 (.inl (Dp.mono (s2.trans s3) rx)) (.inl (Dp.mono s3 ry)) e ?_
  obtain ⟨k, ek, h5⟩ := post_lift (o := bolD d) (by exact post_mono (fun _ _ _ _ q => q) (post_bind h4))
  unfold bolD at ek
  split at ek
  · rename_i k'
    cases ek
    intro H' F' ok' s' v rv
    obtain ⟨ρ4, ok4, s4, h6⟩ := h5 H' F' ok' s'
    cases rv
    refine ⟨k, rfl, ?_⟩
    cases k with
    | false =>
      rw [if_neg (by decide)] at h6 ⊢
      exact post_ok (W := W) h6 ok4 _ (.bl _)
    | true =>
      rw [if_pos rfl] at h6 ⊢
      refine ⟨c, F', ρ4, ok4, post_mono ?_ (post_bind h6)⟩
      rintro z H5 F5 _ ⟨ρ5, ok5, s5, h7⟩ w' rw'
      obtain ⟨d', e', h8⟩ := post_lift h7
      exact ho' ok5 (.inl (Dp.mono ((s3.trans s').trans s5) ry)) rw' e' h8
  · cases ek
theorem dChain {op op' : CmpOp} {r r' : R2} {g g' : D → D → Option D} (ho : OpR X (compareOp op) r) (hd : OpD X.K r g) (ho' : OpR X (compareOp op') r') (hd' : OpD X.K r' g') (ha : PE X a (tE X.K W ma)) (hb : PE X b (tE X.K W mb)) (hc : PE X c' (tP X.K W mc)) (hm : lastMarks [op, op'] [b, c'] = false := by with_unfolding_all rfl) :
    PE X (.Compare a [op, op'] [b, c'] pos) (tE X.K W (mChain g g' ma mb mc)) := PE.imp (pe_chain ho ho' ha hb hc hm) fun _ _ _ => tChain_of hd hd'
theorem dtChain {op op' : CmpOp} {r r' : R2} {g g' : D → D → Option D} (ho : OpR X (compareOp op) r) (hd : OpD X.K r g) (ho' : OpR X (compareOp op') r') (hd' : OpD X.K r' g') (ha : PE X a (tE X.K W ma)) (hb : PE X b (tE X.K W mb)) (hc : PE X c' (tP X.K W mc)) (hm : lastMarks [op, op'] [b, c'] = false := by with_unfolding_all rfl) :
    PT X (.Compare a [op, op'] [b, c'] pos) (tT X.K W (mBol (mChain g g' ma mb mc))) := PT.imp (pt_chain ho ho' ha hb hc hm) fun _ _ _ => tTest_of fun _ _ _ => tChain_of hd hd'
/-! ### and, or, not -/
def mIf {α : Type} (mc : M Bool) (ma mb : M α) : M α := mBind mc fun k => if k = true then ma else mb
def mAndT (ma mb : M Bool) : M Bool := mBind ma fun k => if k = true then mb else mPure false
def mOrT (ma mb : M Bool) : M Bool := mBind ma fun k => if k = true then mPure true else mb
def mNotT (ma : M Bool) : M Bool := mBind ma fun k => mPure (!k)
variable {ta tb : M Bool} {rest : List Expr}
theorem dtNot (ha : PT X a (tT X.K W ta)) : PT X (.UnaryOp .Not a pos) (tT X.K W (mNotT ta)) := by
  refine PT.imp (pt_not ha) ?_
  rintro σ H Q ⟨c, F, ρ, ok, h⟩
  refine ⟨c, F, ρ, ok, post_mono ?_ (post_bind h)⟩
  rintro k H1 F1 _ ⟨ρ1, ok1, s1, h1⟩
  exact post_ok (W := W) h1 ok1
theorem PW.imp {e : Expr} {t t' : TT} (h : PW X e t) (k : ∀ σ H Q, t' σ H Q → t σ H Q) : PW X e t' := ⟨fun wh pins s σ H Q I q => h.run wh pins s σ H Q I (k σ H Q q)⟩
theorem dwAnd1 (ha : PT X a (tT X.K W ta)) : PW X (.BoolOp .And [a] pos) (tT X.K W ta) := pw_and1 ha
theorem dwOr1 (ha : PT X a (tT X.K W ta)) : PW X (.BoolOp .Or [a] pos) (tT X.K W ta) := pw_or1 ha
theorem dwAnd (ha : PT X a (tT X.K W ta)) (hb : PW X (.BoolOp .And (b :: rest) pos) (tT X.K W tb)) : PW X (.BoolOp .And (a :: b :: rest) pos) (tT X.K W (mAndT ta tb)) := by
  refine PW.imp (pw_and ha hb) ?_
  rintro σ H Q ⟨c, F, ρ, ok, h⟩
  refine ⟨c, F, ρ, ok, post_mono ?_ (post_bind h)⟩
  rintro k H1 F1 _ ⟨ρ1, ok1, s1, h1⟩
  cases k with
  | true => exact ⟨c, F1, ρ1, ok1, h1⟩
  | false => exact post_ok (W := W) h1 ok1
theorem dwOr (ha : PT X a (tT X.K W ta)) (hb : PW X (.BoolOp .Or (b :: rest) pos) (tT X.K W tb)) : PW X (.BoolOp .Or (a :: b :: rest) pos) (tT X.K W (mOrT ta tb)) := by
  refine PW.imp (pw_or ha hb) ?_
  rintro σ H Q ⟨c, F, ρ, ok, h⟩
  refine ⟨c, F, ρ, ok, post_mono ?_ (post_bind h)⟩
  rintro k H1 F1 _ ⟨ρ1, ok1, s1, h1⟩
  cases k with
  | true => exact post_ok (W := W) h1 ok1
  | false => exact ⟨c, F1, ρ1, ok1, h1⟩
/-- .. as values -/
def mAnd (ma mb : M D) : M D := mBind ma fun a => mBind (mLift (truD a)) fun k => if k = true then mb else mPure a
def mOr (ma mb : M D) : M D := mBind ma fun a => mBind (mLift (truD a)) fun k => if k = true then mPure a else mb
def mNot (ma : M D) : M D := mBind ma fun a => mBind (mLift (truD a)) fun k => mPure (.bool (!k))
theorem dOne {op : BoolOp} (ha : PE X a (tE X.K W ma)) : PE X (.BoolOp op [a] pos) (tE X.K W ma) := pe_one ha
theorem dAnd (ha : PE X a (tE X.K W ma)) (hb : PE X (.BoolOp .And (b :: rest) pos) (tE X.K W mb)) : PE X (.BoolOp .And (a :: b :: rest) pos) (tE X.K W (mAnd ma mb)) := by
  refine PE.imp (pe_andT ha hb) ?_
  rintro σ H Q ⟨c, F, ρ, ok, h⟩
  refine ⟨c, F, ρ, ok, post_mono ?_ (post_bind h)⟩
  rintro a H1 F1 _ ⟨ρ1, ok1, s1, h1⟩ x rx
  obtain ⟨k, e, h2⟩ := post_lift (o := truD a) (by exact post_mono (fun _ _ _ _ q => q) (post_bind h1))
  obtain ⟨ρ2, ok2, s2, h3⟩ := post_ok (W := W) h2 ok1
  refine ⟨k, tru_of ok1 (.inl rx) e, ?_⟩
  cases k with
  | true => exact ⟨c, F1, ρ2, ok2, h3⟩
  | false => exact post_ok (W := W) h3 ok2 _ rx
theorem dOr (ha : PE X a (tE X.K W ma)) (hb : PE X (.BoolOp .Or (b :: rest) pos) (tE X.K W mb)) : PE X (.BoolOp .Or (a :: b :: rest) pos) (tE X.K W (mOr ma mb)) := by
  refine PE.imp (pe_orT ha hb) ?_
  rintro σ H Q ⟨c, F, ρ, ok, h⟩
  refine ⟨c, F, ρ, ok, post_mono ?_ (post_bind h)⟩
  rintro a H1 F1 _ ⟨ρ1, ok1, s1, h1⟩ x rx
  obtain ⟨k, e, h2⟩ := post_lift (o := truD a) (by exact post_mono (fun _ _ _ _ q => q) (post_bind h1))
  obtain ⟨ρ2, ok2, s2, h3⟩ := post_ok (W := W) h2 ok1
  refine ⟨k, tru_of ok1 (.inl rx) e, ?_⟩
  cases k with
  | true => exact post_ok (W := W) h3 ok2 _ rx
  | false => exact ⟨c, F1, ρ2, ok2, h3⟩
theorem dNot (ha : PE X a (tP X.K W ma)) : PE X (.UnaryOp .Not a pos) (tE X.K W (mNot ma)) := by
  refine PE.imp (pe_notT ha) ?_
  rintro σ H Q ⟨c, F, ρ, ok, h⟩
  refine ⟨c, F, ρ, ok, post_mono ?_ (post_bind h)⟩
  rintro a H1 F1 _ ⟨ρ1, ok1, s1, h1⟩ x rx
  obtain ⟨k, e, h2⟩ := post_lift (o := truD a) (by exact post_mono (fun _ _ _ _ q => q) (post_bind h1))
  obtain ⟨ρ2, ok2, s2, h3⟩ := post_ok (W := W) h2 ok1
  exact ⟨k, tru_of ok1 rx e, post_ok (W := W) h3 ok2 _ (.bl _)⟩
theorem dIf {cnd : Expr} {mc : M Bool} (hc : PT X cnd (tT X.K W mc)) (ha : PE X a (tE X.K W ma)) (hb : PE X b (tE X.K W mb)) : PE X (.IfExp cnd a b pos) (tE X.K W (mIf mc ma mb)) := by
  refine PE.imp (pe_ifExp hc ha hb) ?_
  rintro σ H Q ⟨c, F, ρ, ok, h⟩
  refine ⟨c, F, ρ, ok, post_mono ?_ (post_bind h)⟩
  rintro k H1 F1 _ ⟨ρ1, ok1, s1, h1⟩
  cases k with
  | true => exact ⟨c, F1, ρ1, ok1, h1⟩
  | false => exact ⟨c, F1, ρ1, ok1, h1⟩
/-! ### argument lists, displays -/
variable {es : List Expr} {ms : M (List D)}
def mCons (m : M D) (ms : M (List D)) : M (List D) := mBind m fun d => mBind ms fun ds => mPure (d :: ds)
theorem dNil : PA X [] (tA X.K W (mPure [])) := PA.imp pa_nil (by
  rintro σ H Q ⟨c, F, ρ, ok, h⟩
  exact post_ok (W := W) h ok _ .nil)
theorem dCons (ha : PE X a (tE X.K W ma)) (hr : PA X es (tA X.K W ms)) (hs : starEach (a :: es) X.env = (false, eval a X.env) :: starEach es X.env := by rfl) : PA X (a :: es) (tA X.K W (mCons ma ms)) := by
  refine PA.imp (pa_cons ha hr hs) ?_
  rintro σ H Q ⟨c, F, ρ, ok, h⟩
  refine ⟨c, F, ρ, ok, post_mono ?_ (post_bind h)⟩
  rintro d H1 F1 _ ⟨ρ1, ok1, s1, h1⟩ x rx
  refine ⟨c, F1, ρ1, ok1, post_mono ?_ (post_bind h1)⟩
  rintro ds H2 F2 _ ⟨ρ2, ok2, s2, h2⟩ xs rxs
  exact post_ok (W := W) h2 ok2 _ (.cons (Dp.mono s2 rx) rxs)
def mTup (ms : M (List D)) : M D := mBind ms fun ds => mLift (if fit ds.length = true then some (.tuple ds) else none)
def mLst (ms : M (List D)) : M D := mBind ms fun ds => mLift (if fit ds.length = true then some (.list ds) else none)
theorem dTup {x1} (h : PA X es (tA X.K W ms)) : PE X (.Tuple es x1 pos) (tE X.K W (mTup ms)) := by
  refine PE.imp (pe_tup h) ?_
  rintro σ H Q ⟨c, F, ρ, ok, h⟩
  refine ⟨c, F, ρ, ok, post_mono ?_ (post_bind h)⟩
  rintro ds H1 F1 _ ⟨ρ1, ok1, s1, h1⟩ xs rx
  obtain ⟨d, e, h2⟩ := post_lift h1
  split at e
  · rename_i hf
    cases e
    exact ⟨by rw [DpAll.length rx]; exact fit_le hf, fun p hp => new_tup ok1 rx h2 p hp⟩
  · cases e
theorem dLst (h : PA X es (tA X.K W ms)) : PE X (.List es pos) (tE X.K W (mLst ms)) := by
  refine PE.imp (pe_lst h) ?_
  rintro σ H Q ⟨c, F, ρ, ok, h⟩
  refine ⟨c, F, ρ, ok, post_mono ?_ (post_bind h)⟩
  rintro ds H1 F1 _ ⟨ρ1, ok1, s1, h1⟩ xs rx
  obtain ⟨d, e, h2⟩ := post_lift h1
  split at e
  · rename_i hf
    cases e
    exact ⟨by rw [DpAll.length rx]; exact fit_le hf, fun p hp => new_lst ok1 rx h2 p hp⟩
  · cases e
/-! ### built-ins by name -/
inductive PkAll (K : PySem.W.Frag) (H F : Hp) : List V → List D → Prop
  | nil : PkAll K H F [] []
  | cons {v : V} {vs : List V} {d : D} {ds : List D} : Pk K H F v d → PkAll K H F vs ds → PkAll K H F (v :: vs) (d :: ds)
theorem PkAll.of {F : Hp} : ∀ {vs : List V} {ds : List D}, DpAll K F vs ds → PkAll K H F vs ds
  | _, _, .nil => .nil
  | _, _, .cons h t => .cons (.inl h) (PkAll.of t)
def CallD (K : PySem.W.Frag) (r : List V → Hp → VK → Prop) (g : List D → Option D) : Prop :=
  ∀ {W : WX} {c : Ct} {σ : St} {H F : Hp} {ρ : En} {xs : List V} {ds : List D} {d : D} {Q : VK}, Ok K c σ H F ρ → PkAll K H F xs ds → g ds = some d → post K W c σ F (qE K Q) (some (.ok d ρ)) → r xs H Q
def mCall1 (g : List D → Option D) (m : M D) : M D := mBind m fun d => mLift (g [d])
def mCallN (g : List D → Option D) (ms : M (List D)) : M D := mBind ms fun ds => mLift (g ds)
variable {x : Str} {p : Pos} {id T : String} {r : List V → Hp → VK → Prop} {g : List D → Option D}
theorem tCB1 (hd : CallD K r g) {Q : VK} (h : tE K W (mCall1 g ma) σ H Q) : tCB r (tCons (tP K W ma) tNil) σ H Q := by
  obtain ⟨c, F, ρ, ok, h⟩ := h
  refine ⟨c, F, ρ, ok, post_mono ?_ (post_bind h)⟩
  rintro d H1 F1 _ ⟨ρ1, ok1, s1, h1⟩ x rx
  obtain ⟨d', e, h2⟩ := post_lift h1
  exact hd ok1 (.cons rx .nil) e h2
theorem tCBn (hd : CallD K r g) {Q : VK} (h : tE K W (mCallN g ms) σ H Q) : tCB r (tA K W ms) σ H Q := by
  obtain ⟨c, F, ρ, ok, h⟩ := h
  refine ⟨c, F, ρ, ok, post_mono ?_ (post_bind h)⟩
  rintro ds H1 F1 _ ⟨ρ1, ok1, s1, h1⟩ xs rx
  obtain ⟨d', e, h2⟩ := post_lift h1
  exact hd ok1 (.of rx) e h2
theorem dB1 (hc : CallR X (.builtin id) r) (hd : CallD X.K r g) (hm : X.mg x = none) (hv : bootBuiltins x = some (.builtin id)) (ha : PE X a (tP X.K W ma)) (hg : Gl X x := by rfl) (hs : starEach (a :: []) X.env = (false, eval a X.env) :: starEach [] X.env := by rfl) (hn : x ≠ "__name__" := by decide) (hdb : (x == ("__debug__" : Str)) = false := by decide)
    (hpl : (backTo pos (starEach [] X.env)).any (·.1) = false := by rfl) : PE X (.Call (.Name x p) [a] [] pos) (tE X.K W (mCall1 g ma)) :=
  PE.imp (pe_callB hc hg hm hv (pa_cons ha pa_nil hs) hn hdb hs hpl) fun _ _ _ => tCB1 hd
theorem dTy1 (hc : CallR X (.type T) r) (hd : CallD X.K r g) (hm : X.mg x = none) (hv : bootBuiltins x = some (.type T)) (ha : PE X a (tP X.K W ma)) (hg : Gl X x := by rfl) (hs : starEach (a :: []) X.env = (false, eval a X.env) :: starEach [] X.env := by rfl) (hn : x ≠ "__name__" := by decide) (hdb : (x == ("__debug__" : Str)) = false := by decide)
    (hpl : (backTo pos (starEach [] X.env)).any (·.1) = false := by rfl) : PE X (.Call (.Name x p) [a] [] pos) (tE X.K W (mCall1 g ma)) :=
  PE.imp (pe_callTy hc hg hm hv (pa_cons ha pa_nil hs) hn hdb hs hpl) fun _ _ _ => tCB1 hd
theorem dBn (hc : CallR X (.builtin id) r) (hd : CallD X.K r g) (hm : X.mg x = none) (hv : bootBuiltins x = some (.builtin id)) (ha : PA X (a :: es) (tA X.K W ms)) (hg : Gl X x := by rfl) (hs : starEach (a :: es) X.env = (false, eval a X.env) :: starEach es X.env := by rfl) (hn : x ≠ "__name__" := by decide) (hdb : (x == ("__debug__" : Str)) = false := by decide)
    (hpl : (backTo pos (starEach es X.env)).any (·.1) = false := by rfl) : PE X (.Call (.Name x p) (a :: es) [] pos) (tE X.K W (mCallN g ms)) :=
  PE.imp (pe_callB hc hg hm hv ha hn hdb hs hpl) fun _ _ _ => tCBn hd
end
end Dd

namespace Dd
open PySem PySem.Spec L2
section
variable {X : Cx} {W : WX} {K : PySem.W.Frag} {e tg : Expr} {st : Stmt} {sts : List Stmt} {m : M D} {pos : Pos} {m1 m2 : M Fl}
/-! ### statements -/
def mSeq (m1 m2 : M Fl) : M Fl := mBind m1 fun f => match f with
  | .nx => m2
  | o => mPure o
theorem bind_ok {α β : Type} {m : M α} {f : α → M β} {ρ ρ' : En} {b : β} (h : mBind m f ρ = some (.ok b ρ')) : ∃ a ρ1, m ρ = some (.ok a ρ1) ∧ f a ρ1 = some (.ok b ρ') := by
  unfold mBind at h
  cases e : m ρ with
  | none => rw [e] at h; cases h
  | some r =>
    rw [e] at h
    cases r with
    | ok a ρ1 => exact ⟨a, ρ1, rfl, h⟩
    | ex x ρ1 => cases h
theorem seq_post {c : Ct} {F : Hp} {Dn : Ends} {ρ : En} (h : postS K W c F Dn (mSeq m1 m2 ρ)) : postS K W c F { Dn with nx := tS K W m2 Dn } (m1 ρ) := by
  unfold mSeq mBind at h
  cases e : m1 ρ with
  | none => rw [e] at h; exact h
  | some r =>
    rw [e] at h
    cases r with
    | ex x ρ1 => exact h
    | ok f ρ1 =>
      cases f with
      | nx => exact fun σ' H' F' ok s => ⟨c, F', ρ1, ok, postS_weak s h⟩
      | bk => exact h
      | ct => exact h
      | rt d => exact h
      | rf ds => exact h
theorem dsCons (h1 : PS X st (tS X.K W m1)) (h2 : PSs X sts (tS X.K W m2)) : PSs X (st :: sts) (tS X.K W (mSeq m1 m2)) :=
  PSs.imp (pss_cons h1 h2) fun Dn σ H ⟨c, F, ρ, ok, h⟩ => ⟨c, F, ρ, ok, seq_post h⟩
theorem dsOne (h1 : PS X st (tS X.K W m1)) : PSs X [st] (tS X.K W m1) := pss_one h1
theorem dsNil : PSs X [] (tS X.K W (mPure .nx)) := PSs.imp pss_nil fun Dn σ H ⟨c, F, ρ, ok, h⟩ => h σ H F ok (Same.refl F)
theorem dPass : PS X (.Pass pos) (tS X.K W (mPure .nx)) := PS.imp ps_pass fun Dn σ H ⟨c, F, ρ, ok, h⟩ => h σ H F ok (Same.refl F)
theorem dBreak : PS X (.Break pos) (tS X.K W (mPure .bk)) := PS.imp ps_break fun Dn σ H ⟨c, F, ρ, ok, h⟩ => h σ H F ok (Same.refl F)
theorem dCont : PS X (.Continue pos) (tS X.K W (mPure .ct)) := PS.imp ps_continue fun Dn σ H ⟨c, F, ρ, ok, h⟩ => h σ H F ok (Same.refl F)
def mRet (m : M D) : M Fl := mBind m fun d => mPure (.rt d)
theorem dRet (he : PE X e (tE X.K W m)) : PS X (.Return (some e) pos) (tS X.K W (mRet m)) := PS.imp (ps_ret he) (by
  rintro Dn σ H ⟨c, F, ρ, ok, h⟩
  refine ⟨c, F, ρ, ok, post_mono ?_ (postS_bind h)⟩
  rintro d H1 F1 _ ⟨ρ1, ok1, s1, h1⟩ v rv
  exact h1 σ v H1 F1 ok1 (Same.refl F1) rv)
theorem dRetN : PS X (.Return none pos) (tS X.K W (mPure (.rt .none))) := PS.imp ps_retN (by
  rintro Dn σ H ⟨c, F, ρ, ok, h⟩
  exact h σ .non H F ok (Same.refl F) .non)
/-- a new list is handed back, the caller's own -/
def mRetF (ms : M (List D)) : M Fl := mBind ms fun ds => mBind (mLift (if fit ds.length = true then some ds else none)) fun ds => mPure (.rf ds)
theorem dRetF {es : List Expr} {lp : Pos} {ms : M (List D)} (h : PA X es (tA X.K W ms)) : PS X (.Return (some (.List es lp)) pos) (tS X.K W (mRetF ms)) := PS.imp (ps_ret (pe_lst h)) (by
  rintro Dn σ H ⟨c, F, ρ, ok, h⟩
  refine ⟨c, F, ρ, ok, post_mono ?_ (postS_bind h)⟩
  rintro ds H1 F1 _ ⟨ρ1, ok1, s1, h1⟩ xs rx
  have h2 := postS_bind (σ := σ) h1
  obtain ⟨d, e, h3⟩ := post_lift h2
  split at e
  · rename_i hf
    cases e
    refine ⟨by rw [DpAll.length rx]; exact fit_le hf, fun p hp => ?_⟩
    obtain ⟨a1, a2, a3, a4, a5⟩ := ok1.new hp
    have k : Same H1 (upd H1 p (.lst xs)) := Same.updN hp
    have ok2 : Ok X.K c σ (upd H1 p (.lst xs)) F1 ρ1 := by
      obtain ok' := ok1.allocP (o := .lst xs) hp
      refine ⟨ok'.len, ok'.sub, ok'.ge, ok'.fe, ok'.keep, fun q z => ?_, fun b u z => ?_, ok'.val, fun i es z => ?_, ok'.ios, ok'.scr, ok'.sep, ok1.dcs.tr (Same.refl F1) fun q ws b1 b2 b3 b4 => ⟨k _ _ b1, b2, b4⟩⟩
      · obtain ⟨b1, b2, b3, xs', b4⟩ := ok1.iod q z
        exact ⟨b1, b2, b3, xs', k _ _ b4⟩
      · obtain ⟨b1, b2, b3⟩ := ok1.prt b u z
        exact ⟨k _ _ b1, b2, b3⟩
      · obtain ⟨q, vs, b1, b2, b3, b4, b5, b6⟩ := ok1.own i es z
        exact ⟨q, vs, b1, k _ _ b2, b3, b4, b5, b6⟩
    obtain ⟨ρ2, ok3, s3, h4⟩ := h3 _ _ ok2 (Same.refl F1)
    exact h4 σ p xs _ _ ok3 (Same.refl F1) upd_same rx a1 a2
  · cases e)
def mDrop (m : M D) : M Fl := mBind m fun _ => mPure .nx
theorem dExpr (he : PE X e (tE X.K W m)) (hs : swapsWith e none pos.line X.env = pure false := by rfl) : PS X (.Expr e pos) (tS X.K W (mDrop m)) := PS.imp (ps_expr he hs) (by
  rintro Dn σ H ⟨c, F, ρ, ok, h⟩
  refine ⟨c, F, ρ, ok, post_mono ?_ (postS_bind h)⟩
  rintro d H1 F1 _ ⟨ρ1, ok1, s1, h1⟩ v rv
  exact h1 σ H1 F1 ok1 (Same.refl F1))
theorem dIfS {cnd : Expr} {a b : List Stmt} {mc : M Bool} (hc : PT X cnd (tT X.K W mc)) (ha : PSs X a (tS X.K W m1)) (hb : PSs X b (tS X.K W m2)) : PS X (.If cnd a b pos) (tS X.K W (mIf mc m1 m2)) := PS.imp (ps_if hc ha hb) (by
  rintro Dn σ H ⟨c, F, ρ, ok, h⟩
  refine ⟨c, F, ρ, ok, post_mono ?_ (postS_bind h)⟩
  rintro k H1 F1 _ ⟨ρ1, ok1, s1, h1⟩
  cases k with
  | true => exact ⟨c, F1, ρ1, ok1, h1⟩
  | false => exact ⟨c, F1, ρ1, ok1, h1⟩)
/-! ### stores -/
def mStore (i : Nat) (d : D) : M Unit := fun ρ => if i < ρ.length then some (.ok () (ρ.set i (.val d))) else none
def mDone : M Fl := mPure .nx
theorem dgName {i : Nat} {x : Str} {p : Pos} (hN : X.N.Nodup) (hi : X.N[i]? = some x := by rfl) (hx : Loc X.env.scope x := by first | exact Or.inl rfl | exact Or.inr rfl) (hf : X.fn x = true ∨ X.env.scope.names.lookup x = some .local := by first | exact .inl rfl | exact .inr rfl) : PG X (.Name x p) (tG X.K W (mStore i)) := PG.imp (pg_name hN hi hx hf) (by
  rintro v σ H Q ⟨c, F, ρ, d, ok, r, h⟩
  unfold mStore at h
  split at h
  · rename_i hl
    exact h _ H F (ok.setV hl r) (Same.refl F)
  · exact h.elim)
theorem dgsNil : PGs X [] (tGs X.K W fun ds => match ds with | [] => mPure () | _ => mStuck) := PGs.imp pgs_nil (by
  rintro vs σ H Q ⟨c, F, ρ, ds, ok, r, h⟩
  cases r with
  | nil => exact ⟨rfl, h σ H F ok (Same.refl F)⟩
  | cons _ _ => exact h.elim)
def gCons2 (g : D → M Unit) (gs : List D → M Unit) : List D → M Unit
  | [] => mStuck
  | d :: ds => mBind (g d) fun _ => gs ds
theorem dgsCons {es : List Expr} {g : D → M Unit} {gs : List D → M Unit} (h1 : PG X e (tG X.K W g)) (h2 : PGs X es (tGs X.K W gs)) (hs : (assignEach (e :: es) X.env).map (·.2) = assign e X.env :: (assignEach es X.env).map (·.2) := by rfl) : PGs X (e :: es) (tGs X.K W (gCons2 g gs)) :=
  PGs.imp (pgs_cons h1 h2 hs) (by
  rintro vs σ H Q ⟨c, F, ρ, ds, ok, r, h⟩
  cases r with
  | nil => exact h.elim
  | cons r rr =>
    refine ⟨_, _, rfl, c, F, ρ, _, ok, r, postG_mono ?_ (postG_bindG h)⟩
    rintro σ1 H1 ⟨F1, ρ1, ok1, s1, h1⟩
    exact ⟨c, F1, ρ1, _, ok1, DpAll.mono s1 rr, h1⟩)
def gTupD (n : Nat) (gs : List D → M Unit) : D → M Unit
  | .tuple ds => if ds.length = n then gs ds else mStuck
  | _ => mStuck
theorem dgTup {es : List Expr} {k : Nat} {gs : List D → M Unit} {n : Nat} (hc : X.calm = true) (h : PGs X es (tGs X.K W gs)) (hn : (assignEach es X.env).length = n := by rfl) (hst : (assignEach es X.env).findIdx? (·.1) = none := by rfl) : PG X (.Tuple es k pos) (tG X.K W (gTupD n gs)) :=
  PG.imp (pg_tup hc h hn hst) (by
  rintro v σ H Q ⟨c, F, ρ, d, ok, r, h⟩
  unfold gTupD at h
  split at h
  · split at h
    · rename_i hl
      obtain ⟨p, vs, rfl, hp, dp⟩ := Pk.tup ok.sub (.inl r)
      exact ⟨p, vs, rfl, hp, by rw [DpAll.length dp]; exact hl, c, F, ρ, _, ok, dp, h⟩
    · exact h.elim
  · exact h.elim)
/-- a slot's own list (or the caller's): what it holds; it is changed -/
def mOwn (i : Nat) : M (List D) := fun ρ => match ρ[i]? with
  | some (.own ds) => some (.ok ds ρ)
  | some (.io ds) => some (.ok ds ρ)
  | _ => none
def mPut (i : Nat) (ds : List D) : M Unit := fun ρ => match ρ[i]? with
  | some (.own _) => some (.ok () (ρ.set i (.own ds)))
  | some (.io _) => some (.ok () (ρ.set i (.io ds)))
  | _ => none
theorem own_at {c : Ct} {σ : St} {H F : Hp} {ρ : En} {i : Nat} {α : Type} {G : α → Hp → Hp → Prop} {f : List D → M α} (ok : Ok K c σ H F ρ) (h : post K W c σ F G (mBind (mOwn i) f ρ)) :
    ∃ p vs ds, σ[i]? = some (some (.ref p)) ∧ H p = some (.lst vs) ∧ DpAll K F vs ds ∧ F p = none ∧ post K W c σ F G (f ds ρ) := by
  unfold mBind mOwn at h
  cases e : ρ[i]? with
  | none => rw [e] at h; exact h.elim
  | some u =>
    rw [e] at h
    cases u with
    | own ds =>
      obtain ⟨p, vs, a1, a2, a3, a4, _⟩ := ok.own i ds e
      exact ⟨p, vs, ds, a1, a2, a3, a4, h⟩
    | io ds =>
      obtain ⟨_, p, vs, a0, a1, a2, a3⟩ := ok.ios i ds e
      exact ⟨p, vs, ds, a1, a2, a3, (ok.iod p a0).1, h⟩
    | un => exact h.elim
    | val _ => exact h.elim
    | scr _ => exact h.elim
    | dct _ => exact h.elim
theorem own_atG {c : Ct} {σ : St} {H F : Hp} {ρ : En} {i : Nat} {Q : St → Hp → Prop} {f : List D → M Unit} (ok : Ok K c σ H F ρ) (h : postG K W c F Q (mBind (mOwn i) f ρ)) :
    ∃ p vs ds, σ[i]? = some (some (.ref p)) ∧ H p = some (.lst vs) ∧ DpAll K F vs ds ∧ F p = none ∧ postG K W c F Q (f ds ρ) := by
  unfold mBind mOwn at h
  cases e : ρ[i]? with
  | none => rw [e] at h; exact h.elim
  | some u =>
    rw [e] at h
    cases u with
    | own ds =>
      obtain ⟨p, vs, a1, a2, a3, a4, _⟩ := ok.own i ds e
      exact ⟨p, vs, ds, a1, a2, a3, a4, h⟩
    | io ds =>
      obtain ⟨_, p, vs, a0, a1, a2, a3⟩ := ok.ios i ds e
      exact ⟨p, vs, ds, a1, a2, a3, (ok.iod p a0).1, h⟩
    | un => exact h.elim
    | val _ => exact h.elim
    | scr _ => exact h.elim
    | dct _ => exact h.elim
theorem put_ok {c : Ct} {σ : St} {H F : Hp} {ρ : En} {i : Nat} {ds : List D} {vs' : List V} {p : Addr} {α : Type} {G : α → Hp → Hp → Prop} {f : Unit → M α} (ok : Ok K c σ H F ρ) (hp : σ[i]? = some (some (.ref p))) (hd : DpAll K F vs' ds)
    (h : post K W c σ F G (mBind (mPut i ds) f ρ)) : ∃ ρ', Ok K c σ (upd H p (.lst vs')) F ρ' ∧ post K W c σ F G (f () ρ') := by
  unfold mBind mPut at h
  cases e : ρ[i]? with
  | none => rw [e] at h; exact h.elim
  | some u =>
    rw [e] at h
    cases u with
    | own es => exact ⟨_, ok.change e p hp hd, h⟩
    | io es => exact ⟨_, ok.changeI e p hp hd, h⟩
    | un => exact h.elim
    | val _ => exact h.elim
    | scr _ => exact h.elim
    | dct _ => exact h.elim
theorem put_okG {c : Ct} {σ : St} {H F : Hp} {ρ : En} {i : Nat} {ds : List D} {vs' : List V} {p : Addr} {Q : St → Hp → Prop} (ok : Ok K c σ H F ρ) (hp : σ[i]? = some (some (.ref p))) (hd : DpAll K F vs' ds)
    (h : postG K W c F Q (mPut i ds ρ)) : Q σ (upd H p (.lst vs')) := by
  unfold mPut at h
  cases e : ρ[i]? with
  | none => rw [e] at h; exact h.elim
  | some u =>
    rw [e] at h
    cases u with
    | own es => exact h _ _ _ (ok.change e p hp hd) (Same.refl F)
    | io es => exact h _ _ _ (ok.changeI e p hp hd) (Same.refl F)
    | un => exact h.elim
    | val _ => exact h.elim
    | scr _ => exact h.elim
    | dct _ => exact h.elim
/-- x[k] = value, x a slot's own list -/
def setD : List D → D → D → Option (List D)
  | ds, .int k, d => (ixN ds.length k).map fun j => ds.set j d
  | _, _, _ => none
def gSet (i : Nat) (mk : M D) (d : D) : M Unit := mBind (mOwn i) fun _ => mBind mk fun k => mBind (mOwn i) fun ds => mBind (mLift (setD ds k d)) fun es => mPut i es
theorem dgSet {i : Nat} {o k : Expr} {mk : M D} (ho : PE X o (tVar i)) (hk : PE X k (tE X.K W mk))
    (ha : ∀ v, assign (.Subscript o k pos) X.env v = (do
      let ov ← holding [v] (eval o X.env)
      let iv ← holding [v, ov] (eval k X.env)
      standAt pos
      holding [v, ov, iv] (setItem ov iv v)
      release [v, ov, iv] []) := by exact fun _ => rfl) : PG X (.Subscript o k pos) (tG X.K W (gSet i mk)) := PG.imp (pg_sub ho hk set_list ha) (by
  rintro v σ H Q ⟨c, F, ρ, d, ok, r, h⟩
  obtain ⟨p, vs, ds, a1, a2, a3, a4, h⟩ := own_atG ok h
  refine ⟨.ref p, a1, c, F, ρ, ok, post_mono ?_ (postG_bind h)⟩
  rintro kd H1 F1 _ ⟨ρ1, ok1, s1, h1⟩ kv rk
  obtain ⟨p', vs1, ds1, b1, b2, b3, b4, h1⟩ := own_atG ok1 h1
  have ep : p' = p := by rw [a1] at b1; cases b1; rfl
  subst ep
  have h2 := postG_bind (σ := σ) h1
  obtain ⟨es, e, h3⟩ := post_lift h2
  obtain ⟨ρ2, ok2, s2, h4⟩ := h3 H1 F1 ok1 (Same.refl F1)
  cases kd with
  | int z =>
    cases rk
    have e : (ixN ds1.length z).map (fun j => ds1.set j d) = some es := e
    cases q : ixN ds1.length z with
    | none => rw [q] at e; cases e
    | some j =>
      rw [q] at e
      cases e
      refine ⟨p', vs1, z, j, rfl, rfl, b2, by rw [DpAll.length b3]; exact q, ?_⟩
      exact put_okG ok2 b1 (DpAll.set (Dp.mono s1 r) j b3) h4
  | none => cases e
  | bool _ => cases e
  | str _ => cases e
  | list _ => cases e
  | tuple _ => cases e
  | dict _ => cases e)
def mAsg (m : M D) (g : D → M Unit) : M Fl := mBind m fun d => mBind (g d) fun _ => mDone
theorem asg_of {Dn : Ends} {σ : St} {H : Hp} {g : D → M Unit} (h : tS K W (mAsg m g) Dn σ H) : tAsg (tE K W m) (tG K W g) Dn σ H := by
  obtain ⟨c, F, ρ, ok, h⟩ := h
  refine ⟨c, F, ρ, ok, post_mono ?_ (postS_bind h)⟩
  rintro d H1 F1 _ ⟨ρ1, ok1, s1, h1⟩ v rv
  refine ⟨c, F1, ρ1, d, ok1, rv, postG_mono ?_ (postS_bindG h1)⟩
  rintro σ2 H2 ⟨F2, ρ2, ok2, s2, h2⟩
  exact h2 σ2 H2 F2 ok2 (Same.refl F2)
theorem dAsg {g : D → M Unit} (he : PE X e (tE X.K W m)) (hg : PG X tg (tG X.K W g)) (hs : swapsWithSole [tg] e pos.line X.env = pure false := by rfl) (hw : swappedStores [tg] e X.env = pure none := by rfl)
    (h1 : (assignEach [tg] X.env).map (·.2) = [assign tg X.env] := by rfl) : PS X (.Assign [tg] e pos) (tS X.K W (mAsg m g)) := PS.imp (ps_asg he hg hs hw h1) fun _ _ _ => asg_of
/-- name = value -/
theorem dSet {i : Nat} {x : Str} {pos' : Pos} (hN : X.N.Nodup) (he : PE X e (tE X.K W m)) (hi : X.N[i]? = some x := by rfl) (hx : Loc X.env.scope x := by first | exact Or.inl rfl | exact Or.inr rfl) (hs : swapsWith e (some (.Name x pos')) pos.line X.env = pure false := by rfl)
    (hf : X.fn x = true ∨ X.env.scope.names.lookup x = some .local := by first | exact .inl rfl | exact .inr rfl) : PS X (.Assign [.Name x pos'] e pos) (tS X.K W (mAsg m (mStore i))) := PS.imp (ps_set hN hi hx he hs hf) (by
  rintro Dn σ H h
  obtain ⟨c, F, ρ, ok, h⟩ := h
  refine ⟨c, F, ρ, ok, post_mono ?_ (postS_bind h)⟩
  rintro d H1 F1 _ ⟨ρ1, ok1, s1, h1⟩ v rv
  have h2 := postS_bindG h1
  unfold mStore at h2
  split at h2
  · rename_i hl
    obtain ⟨F2, ρ2, ok2, s2, h3⟩ := h2 _ H1 F1 (ok1.setV hl rv) (Same.refl F1)
    exact h3 _ _ _ ok2 (Same.refl F2)
  · exact h2.elim)
/-- name = [..], its own -/
def mStoreO (i : Nat) (ds : List D) : M Unit := fun ρ => if i < ρ.length then some (.ok () (ρ.set i (.own ds))) else none
def mAsgO (ms : M (List D)) (i : Nat) : M Fl := mBind ms fun ds => mBind (mLift (if fit ds.length = true then some ds else none)) fun ds => mBind (mStoreO i ds) fun _ => mDone
theorem dSetO {i : Nat} {x : Str} {pos' lp : Pos} {es : List Expr} {ms : M (List D)} (hN : X.N.Nodup) (he : PA X es (tA X.K W ms)) (hi : X.N[i]? = some x := by rfl) (hx : Loc X.env.scope x := by first | exact Or.inl rfl | exact Or.inr rfl)
    (hs : swapsWith (.List es lp) (some (.Name x pos')) pos.line X.env = pure false := by rfl)
    (hf : X.fn x = true ∨ X.env.scope.names.lookup x = some .local := by first | exact .inl rfl | exact .inr rfl) : PS X (.Assign [.Name x pos'] (.List es lp) pos) (tS X.K W (mAsgO ms i)) := PS.imp (ps_set hN hi hx (pe_lst he) hs hf) (by
  rintro Dn σ H h
  obtain ⟨c, F, ρ, ok, h⟩ := h
  refine ⟨c, F, ρ, ok, post_mono ?_ (postS_bind h)⟩
  rintro ds H1 F1 _ ⟨ρ1, ok1, s1, h1⟩ xs rx
  have h2 := postS_bind (σ := σ) h1
  obtain ⟨d, e, h3⟩ := post_lift h2
  split at e
  · rename_i hf
    cases e
    refine ⟨by rw [DpAll.length rx]; exact fit_le hf, fun p hp => ?_⟩
    obtain ⟨ρ2, ok2, s2, h4⟩ := h3 H1 F1 ok1 (Same.refl F1)
    have hpr : c.pr p = none := (ok2.new hp).2.2.1
    have h5 := postS_bindG h4
    unfold mStoreO at h5
    split at h5
    · rename_i hl
      obtain ⟨F3, ρ3, ok3, s3, h6⟩ := h5 _ _ _ ((ok2.allocP (o := .lst xs) hp).ownP hpr rx hl) (Same.refl F1)
      exact h6 _ _ _ ok3 (Same.refl F3)
    · exact h5.elim
  · cases e)
/-- name op= value -/
def mAug (i : Nat) (g : D → D → Option D) (m : M D) : M Fl := mBind (mPeek i) fun _ => mBind m fun b => mBind (mPeek i) fun a => mBind (mLift (g a b)) fun d => mBind (mStore i d) fun _ => mDone
theorem peekS {c : Ct} {σ : St} {H F : Hp} {ρ : En} {i : Nat} {Dn : Ends} {f : D → M Fl} (ok : Ok K c σ H F ρ) (h : postS K W c F Dn (mBind (mPeek i) f ρ)) : ∃ v d, σ[i]? = some (some v) ∧ Pk K H F v d ∧ postS K W c F Dn (f d ρ) := by
  unfold mBind mPeek at h
  cases e : ρ[i]? with
  | none => rw [e] at h; exact h.elim
  | some u =>
    rw [e] at h
    cases u with
    | un => exact h.elim
    | val d =>
      obtain ⟨v, a1, a2⟩ := ok.val i d e
      exact ⟨v, d, a1, .inl a2, h⟩
    | own ds =>
      obtain ⟨p, vs, a1, a2, a3, _⟩ := ok.own i ds e
      exact ⟨.ref p, _, a1, .inr ⟨p, vs, ds, rfl, rfl, a2, a3⟩, h⟩
    | io ds =>
      obtain ⟨_, p, vs, _, a1, a2, a3⟩ := ok.ios i ds e
      exact ⟨.ref p, _, a1, .inr ⟨p, vs, ds, rfl, rfl, a2, a3⟩, h⟩
    | scr ns => exact h.elim
    | dct _ => exact h.elim
theorem dAug {i : Nat} {x : Str} {op : Operator} {r : R2} {g : D → D → Option D} {pos' : Pos} (hN : X.N.Nodup) (ho : OpR X (inplaceOp op) r) (hd : OpD X.K r g) (he : PE X e (tE X.K W m)) (hi : X.N[i]? = some x := by rfl) (hx : Loc X.env.scope x := by first | exact Or.inl rfl | exact Or.inr rfl)
    (hf : X.fn x = true ∨ X.env.scope.names.lookup x = some .local := by first | exact .inl rfl | exact .inr rfl) : PS X (.AugAssign (.Name x pos') op e pos) (tS X.K W (mAug i g m)) := PS.imp (ps_aug hN hi hx he (ti := r) ho hf) (by
  rintro Dn σ H ⟨c, F, ρ, ok, h⟩
  obtain ⟨v, _, ev, _, h⟩ := peekS ok h
  refine ⟨v, ev, c, F, ρ, ok, post_mono ?_ (postS_bind h)⟩
  rintro b H1 F1 _ ⟨ρ1, ok1, s1, h1⟩ y ry
  obtain ⟨v', a, ev', pk, h2⟩ := peekS ok1 h1
  have ee : v' = v := by rw [ev] at ev'; cases ev'; rfl
  subst ee
  obtain ⟨d, e, h3⟩ := post_lift (postS_bind (σ := σ) h2)
  refine hd (W := W) ok1 pk (.inl ry) e ?_
  intro H2 F2 ok2' s2' z rz
  obtain ⟨ρ2, ok2, s2, h4⟩ := h3 H2 F2 ok2' s2'
  have h5 := postS_bindG h4
  unfold mStore at h5
  split at h5
  · rename_i hl
    obtain ⟨F3, ρ3, ok3, s3, h6⟩ := h5 _ H2 F2 (ok2.setV hl rz) (Same.refl F2)
    exact h6 _ _ _ ok3 (Same.refl F3)
  · exact h5.elim)
/-! ### methods that change a slot's own list -/
def MutD (K : PySem.W.Frag) (r : V → List V → Hp → VK → Prop) (g : List D → List D → Option (List D × D)) : Prop :=
  ∀ {H F : Hp} {l : Addr} {xs vs : List V} {ds as ds' : List D} {d : D} {Q : VK}, Same F H → F l = none → H l = some (.lst xs) → DpAll K F xs ds → DpAll K F vs as → g ds as = some (ds', d) →
    (∀ xs' v, DpAll K F xs' ds' → Dp K F v d → Q v (upd H l (.lst xs'))) → r (.ref l) vs H Q
def mMut (i : Nat) (g : List D → List D → Option (List D × D)) (ms : M (List D)) : M D := mBind (mOwn i) fun _ => mBind ms fun as => mBind (mOwn i) fun ds => mBind (mLift (g ds as)) fun q => mBind (mPut i q.1) fun _ => mPure q.2
theorem mut_of {i : Nat} {r : V → List V → Hp → VK → Prop} {g : List D → List D → Option (List D × D)} (hd : MutD K r g) {ms : M (List D)} {σ : St} {H : Hp} {Q : VK} (h : tE K W (mMut i g ms) σ H Q) : tBM K "list" r (tVar i) (tA K W ms) σ H Q := by
  obtain ⟨c, F, ρ, ok, h⟩ := h
  obtain ⟨p, vs, ds, a1, a2, a3, a4, h⟩ := own_at ok h
  refine ⟨.ref p, a1, .inl ⟨rfl, vs, SqL.of a2⟩, c, F, ρ, ok, post_mono ?_ (post_bind h)⟩
  rintro as H1 F1 _ ⟨ρ1, ok1, s1, h1⟩ ws rw'
  obtain ⟨p', vs1, ds1, b1, b2, b3, b4, h1⟩ := own_at ok1 h1
  have ep : p' = p := by rw [a1] at b1; cases b1; rfl
  subst ep
  obtain ⟨⟨ds', d⟩, e, h2⟩ := post_lift (post_bind h1)
  obtain ⟨ρ2, ok2, s2, h3⟩ := h2 H1 F1 ok1 (Same.refl F1)
  refine hd ok1.sub b4 b2 b3 rw' e fun xs' v dx dv => ?_
  obtain ⟨ρ3, ok3, h4⟩ := put_ok ok2 b1 dx h3
  exact h4 _ _ ok3 (Same.refl F1) v dv
theorem mut_of0 {i : Nat} {r : V → List V → Hp → VK → Prop} {g : List D → List D → Option (List D × D)} (hd : MutD K r g) {σ : St} {H : Hp} {Q : VK} (h : tE K W (mMut i g (mPure [])) σ H Q) : tBM0 K "list" r (tVar i) σ H Q := by
  obtain ⟨c, F, ρ, ok, h⟩ := h
  obtain ⟨p, vs, ds, a1, a2, a3, a4, h⟩ := own_at ok h
  refine ⟨.ref p, a1, .inl ⟨rfl, vs, SqL.of a2⟩, ?_⟩
  obtain ⟨ρ1, ok1, s1, h1⟩ := (post_bind h) H F ok (Same.refl F)
  obtain ⟨p', vs1, ds1, b1, b2, b3, b4, h1⟩ := own_at ok1 h1
  have ep : p' = p := by rw [a1] at b1; cases b1; rfl
  subst ep
  obtain ⟨⟨ds', d⟩, e, h2⟩ := post_lift (post_bind h1)
  obtain ⟨ρ2, ok2, s2, h3⟩ := h2 H F ok1 (Same.refl F)
  refine hd ok1.sub b4 b2 b3 .nil e fun xs' v dx dv => ?_
  obtain ⟨ρ3, ok3, h4⟩ := put_ok ok2 b1 dx h3
  exact h4 _ _ ok3 (Same.refl F) v dv
def appD : List D → List D → Option (List D × D)
  | ds, [d] => if fit ds.length = true then some (ds ++ [d], .none) else none
  | _, _ => none
theorem mut_app : MutD K rAppend appD := by
  intro H F l xs vs ds as ds' d Q s hF hl hx hv e k
  cases hv with
  | nil => cases e
  | cons h t =>
    cases t with
    | cons _ _ => cases e
    | nil =>
      rename_i v0 d0
      have e : (if fit ds.length = true then some (ds ++ [d0], PyData.none) else none) = some (ds', d) := e
      by_cases hf : fit ds.length = true
      · rw [if_pos hf] at e
        cases e
        exact ⟨l, xs, _, rfl, rfl, hl, by rw [DpAll.length hx]; exact fit_lt hf, k _ _ (DpAll.append hx (.one h)) .non⟩
      · rw [if_neg hf] at e
        cases e
def popAtD : List D → List D → Option (List D × D)
  | ds, [.int i] => if decide (i.natAbs < 9223372036854775808) = true then (seqIndex? i ds.length).bind fun k => (ds[k]?).map fun d => (ds.eraseIdx k, d) else none
  | _, _ => none
theorem mut_popAt : MutD K rPopAt popAtD := by
  intro H F l xs vs ds as ds' d Q s hF hl hx hv e k
  unfold popAtD at e
  split at e
  · rename_i i
    cases hv with
    | cons h t =>
      cases t
      cases h
      split at e
      · rename_i hb
        have hb := of_decide_eq_true hb
        cases q : seqIndex? i ds.length with
        | none => rw [q] at e; cases e
        | some j =>
          rw [q] at e
          cases q2 : ds[j]? with
          | none => simp only [Option.bind_some] at e; rw [q2] at e; cases e
          | some y =>
            simp only [Option.bind_some] at e
            rw [q2] at e
            cases e
            obtain ⟨v, e1, e2⟩ := DpAll.getd hx q2
            exact ⟨l, xs, i, j, v, rfl, rfl, hl, by omega, by omega, by rw [DpAll.length hx]; exact q, e1, k _ _ (DpAll.eraseIdx j hx) e2⟩
      · cases e
  · cases e
def revD : List D → List D → Option (List D × D)
  | ds, [] => some (ds.reverse, .none)
  | _, _ => none
theorem mut_rev : MutD K rReverse revD := by
  intro H F l xs vs ds as ds' d Q s hF hl hx hv e k
  cases hv with
  | cons _ _ => cases e
  | nil =>
    cases e
    exact ⟨l, xs, rfl, rfl, hl, k _ _ (DpAll.reverse hx) .non⟩
end
end Dd

namespace Dd
open PySem PySem.Spec L2
section
variable {X : Cx} {W : WX} {K : PySem.W.Frag} {e tg : Expr} {m : M D} {pos : Pos}
/-! ### what is walked -/
structure ItD (K : PySem.W.Frag) (F : Hp) (J : It) (ds : List D) : Prop where
  go : ∀ H i, Same F H → i < ds.length → J.go i H
  stop : ∀ H i, Same F H → ds.length ≤ i → J.stop i H
  yld : ∀ H i x H' d, Same F H → ds[i]? = some d → J.yld i H x H' → (H' = H ∧ Dp K F x d) ∨ (∃ T xs es, d = .tuple es ∧ x = .ref T ∧ H T = none ∧ H' = upd H T (.tup xs) ∧ DpAll K F xs es)
def tI (K : PySem.W.Frag) (W : WX) (m : M (List D)) : TI := fun σ H R => ∃ c F ρ, Ok K c σ H F ρ ∧ post K W c σ F (fun ds H1 F1 => ∀ J, ItD K F1 J ds → R J H1) (m ρ)
theorem seq_inj_l {H : Hp} {a : Addr} {xs ys : List V} (h1 : H a = some (.lst xs) ∨ ∃ o, H a = some (.frz o (.lst xs))) (h2 : Rd H a (.lst ys)) : xs = ys := by
  rcases h1 with h1 | ⟨o, h1⟩ <;> rcases h2 with h2 | ⟨o', h2⟩ <;> (rw [h1] at h2; first | (cases h2; rfl) | (cases h2))
/-- a list or a tuple -/
def iSeq (K : PySem.W.Frag) (tl : TE) : TI := fun σ H R => tl σ H fun x H1 => ∃ a, x = .ref a ∧ (((∃ xs, SqL K H1 a xs) ∧ R (Itl K a) H1) ∨ ((∃ xs, SqT K H1 a xs) ∧ R (Itt K a) H1))
theorem pi_seq {l : Expr} {tl : TE} (hl : PE X l tl) : PI X tg l (iSeq X.K tl) := by
  refine ⟨fun pins s σ H R I h => ?_⟩
  refine thn (hl.run pins s σ H _ I h) fun v s1 ⟨x, H1, I1, r1, q1⟩ => ?_
  obtain ⟨a, e, ⟨⟨xs, hq⟩, q⟩ | ⟨⟨xs, hq⟩, q⟩⟩ := q1
  · subst e
    cases r1
    obtain ⟨its, rv, p, hz⟩ := I1.list hq
    refine wpAny_pyIter_list p.isList ?_
    refine ⟨s1.heap.objs.size, [s1.heap.objs.size], _, _, H1, rfl, I1.kept (t' := s1.toks) fun b o e => Heap.get?_push_of_some _ e, turn_list a _, ⟨_, Heap.get?_push_size _ rfl, rfl, rfl⟩, fun b hb => ?_, q⟩
    have e : b = s1.heap.objs.size := by simpa using hb
    subst e
    exact I1.fpOk (Nat.le_refl _) (I1.hok.fresh (Nat.le_refl _))
  · subst e
    cases r1
    obtain ⟨its, rv, p, hz⟩ := I1.tuple hq
    refine wpAny_pyIter_tuple (show s1.heap.IsTuple a its.toArray from p) ?_
    refine ⟨s1.heap.objs.size, [s1.heap.objs.size], _, _, H1, rfl, I1.kept (t' := s1.toks) fun b o e => Heap.get?_push_of_some _ e, turn_tuple a _, ⟨_, Heap.get?_push_size _ rfl, rfl, rfl⟩, fun b hb => ?_, q⟩
    have e : b = s1.heap.objs.size := by simpa using hb
    subst e
    exact I1.fpOk (Nat.le_refl _) (I1.hok.fresh (Nat.le_refl _))
/-- a value that is walked: a list's, a tuple's items -/
def itemsD : D → Option (List D)
  | .list ds => some ds
  | .tuple ds => some ds
  | _ => none
def mItems (m : M D) : M (List D) := mBind m fun d => mLift (itemsD d)
end
section
variable {X : Cx} {W : WX} {K : PySem.W.Frag} {e tg : Expr} {m : M D} {pos : Pos}
theorem lst_same {H : Hp} {a : Addr} {xs ys : List V} (h : Rd H a (.lst xs)) (h2 : Rd H a (.lst ys)) : xs = ys := by
  rcases h with h1 | ⟨o, h1⟩ <;> rcases h2 with h2 | ⟨o', h2⟩ <;> (rw [h1] at h2; first | (cases h2; rfl) | (cases h2))
/-- two readings of one sequence agree: by the machine's own heap -/
theorem itl_D {F : Hp} {a : Addr} {xs : List V} {ds : List D} (h : Rd F a (.lst xs)) (hd : DpAll K F xs ds) : ItD K F (Itl K a) ds where
  go := fun H i s hi => by
    obtain ⟨x, q⟩ : ∃ x, xs[i]? = some x := ⟨xs[i]'(by rw [DpAll.length hd]; exact hi), by simp⟩
    exact ⟨xs, x, .inl (Rd.mono s h), q⟩
  stop := fun H i s hi => ⟨xs, .inl (Rd.mono s h), by rw [DpAll.length hd]; exact hi⟩
  yld := fun H i x H' d s q y => by
    obtain ⟨e, y⟩ := y
    obtain ⟨v, q1, q2⟩ := DpAll.getd hd q
    have q3 := y xs (.inl (Rd.mono s h))
    rw [q3] at q1
    cases q1
    exact .inl ⟨e, q2⟩
theorem itt_D {F : Hp} {a : Addr} {xs : List V} {ds : List D} (h : SqT K F a xs) (hd : DpAll K F xs ds) : ItD K F (Itt K a) ds where
  go := fun H i s hi => by
    obtain ⟨x, q⟩ : ∃ x, xs[i]? = some x := ⟨xs[i]'(by rw [DpAll.length hd]; exact hi), by simp⟩
    exact ⟨xs, x, SqT.mono s h, q⟩
  stop := fun H i s hi => ⟨xs, SqT.mono s h, by rw [DpAll.length hd]; exact hi⟩
  yld := fun H i x H' d s q y => by
    obtain ⟨e, y⟩ := y
    obtain ⟨v, q1, q2⟩ := DpAll.getd hd q
    have q3 := y xs (SqT.mono s h)
    rw [q3] at q1
    cases q1
    exact .inl ⟨e, q2⟩
theorem diSeq (he : PE X e (tE X.K W m)) : PI X tg e (tI X.K W (mItems m)) := PI.imp (pi_seq he) (by
  rintro σ H R ⟨c, F, ρ, ok, h⟩
  refine ⟨c, F, ρ, ok, post_mono ?_ (post_bind h)⟩
  rintro d H1 F1 _ ⟨ρ1, ok1, s1, h1⟩ v rv
  obtain ⟨ds, e, h2⟩ := post_lift h1
  unfold itemsD at e
  split at e
  · cases e
    cases rv with
    | lst hr hd => exact ⟨_, rfl, .inl ⟨⟨_, .inl (Rd.mono ok1.sub hr)⟩, h2 H1 F1 ok1 (Same.refl F1) _ (itl_D hr hd)⟩⟩
  · cases e
    cases rv with
    | tup hr hd => exact ⟨_, rfl, .inr ⟨⟨_, SqT.mono ok1.sub hr⟩, h2 H1 F1 ok1 (Same.refl F1) _ (itt_D hr hd)⟩⟩
  · cases e)
/-- range -/
def rngL (lo hi : Int) : List D := (List.range (hi - lo).toNat).map fun i => .int (lo + (i : Nat))
def rngOk (i : Int) : Bool := decide (i.natAbs < 4611686018427387904)
def rngD1 : List D → Option (List D)
  | [.int j] => if rngOk j = true then some (rngL 0 j) else none
  | _ => none
def rngD2 : List D → Option (List D)
  | [.int i, .int j] => if (rngOk i && rngOk j) = true then some (rngL i j) else none
  | _ => none
theorem rngL_get {lo hi : Int} {i : Nat} {d : D} (h : (rngL lo hi)[i]? = some d) : d = .int (lo + (i : Nat)) ∧ i < (hi - lo).toNat := by
  unfold rngL at h
  rw [List.getElem?_map] at h
  by_cases q : i < (hi - lo).toNat
  · rw [List.getElem?_range q] at h
    cases h
    exact ⟨rfl, q⟩
  · rw [List.getElem?_eq_none (by simpa using q)] at h
    cases h
theorem rngL_length (lo hi : Int) : (rngL lo hi).length = (hi - lo).toNat := by simp [rngL]
theorem itr_D {F : Hp} {lo hi : Int} : ItD K F (Itr lo (hi - lo).toNat) (rngL lo hi) where
  go := fun H i s hi => by rw [rngL_length] at hi; exact hi
  stop := fun H i s hi => by rw [rngL_length] at hi; exact hi
  yld := fun H i x H' d s q y => by
    obtain ⟨e1, e2⟩ := y
    obtain ⟨e3, _⟩ := rngL_get q
    subst e1 e2 e3
    exact .inl ⟨rfl, .int _⟩
def mRng1 (ms : M (List D)) : M (List D) := mBind ms fun ds => mLift (rngD1 ds)
def mRng2 (ms : M (List D)) : M (List D) := mBind ms fun ds => mLift (rngD2 ds)
variable {a b : Expr} {ms : M (List D)} {p : Pos}
theorem rngOk_of {i : Int} (h : rngOk i = true) : -(2 ^ 62) ≤ i ∧ i < 2 ^ 62 := by
  unfold rngOk at h
  have h := of_decide_eq_true h
  exact ⟨by omega, by omega⟩
theorem diRng1 (hm : X.mg "range" = none) (ha : PA X [a] (tA X.K W ms)) (hg : Gl X "range" := by rfl) (hs : starEach [a] X.env = [(false, eval a X.env)] := by rfl) : PI X tg (.Call (.Name "range" p) [a] [] pos) (tI X.K W (mRng1 ms)) := PI.imp (pi_range1 hg hm ha hs) (by
  rintro σ H R ⟨c, F, ρ, ok, h⟩
  refine ⟨c, F, ρ, ok, post_mono ?_ (post_bind h)⟩
  rintro ds H1 F1 _ ⟨ρ1, ok1, s1, h1⟩ vs rv
  obtain ⟨out, e, h2⟩ := post_lift h1
  unfold rngD1 at e
  split at e
  · rename_i j
    split at e
    · rename_i hb
      cases e
      cases rv with
      | cons r t =>
        cases t
        cases r
        obtain ⟨b1, b2⟩ := rngOk_of hb
        refine ⟨j, rfl, b1, b2, h2 H1 F1 ok1 (Same.refl F1) _ ?_⟩
        have q := itr_D (K := X.K) (F := F1) (lo := 0) (hi := j)
        rw [Int.sub_zero] at q
        exact q
    · cases e
  · cases e)
theorem diRng2 (hm : X.mg "range" = none) (ha : PA X [a, b] (tA X.K W ms)) (hg : Gl X "range" := by rfl) (hs : starEach [a, b] X.env = [(false, eval a X.env), (false, eval b X.env)] := by rfl) (hs2 : starEach [b] X.env = [(false, eval b X.env)] := by rfl) : PI X tg (.Call (.Name "range" p) [a, b] [] pos) (tI X.K W (mRng2 ms)) := PI.imp (pi_range2 hg hm ha hs hs2) (by
  rintro σ H R ⟨c, F, ρ, ok, h⟩
  refine ⟨c, F, ρ, ok, post_mono ?_ (post_bind h)⟩
  rintro ds H1 F1 _ ⟨ρ1, ok1, s1, h1⟩ vs rv
  obtain ⟨out, e, h2⟩ := post_lift h1
  unfold rngD2 at e
  split at e
  · rename_i i j
    split at e
    · rename_i hb
      cases e
      cases rv with
      | cons r t =>
        cases t with
        | cons r' t' =>
          cases t'
          cases r
          cases r'
          rw [Bool.and_eq_true] at hb
          obtain ⟨b1, b2⟩ := rngOk_of hb.1
          obtain ⟨b3, b4⟩ := rngOk_of hb.2
          exact ⟨i, j, rfl, ⟨b1, b2, b3, b4⟩, h2 H1 F1 ok1 (Same.refl F1) _ itr_D⟩
    · cases e
  · cases e)
/-- enumerate of a list; zip of two lists, of two tuples -/
def enumL (ds : List D) : List D := (List.range ds.length).map fun i => .tuple [.int (i : Nat), ds.getD i .none]
def enumD : List D → Option (List D)
  | [.list ds] => some (enumL ds)
  | _ => none
theorem enumL_get {ds : List D} {i : Nat} {d : D} (h : (enumL ds)[i]? = some d) : ∃ y, ds[i]? = some y ∧ d = .tuple [.int (i : Nat), y] := by
  unfold enumL at h
  rw [List.getElem?_map] at h
  by_cases q : i < ds.length
  · rw [List.getElem?_range q] at h
    have e : ds[i]? = some ds[i] := List.getElem?_eq_getElem q
    refine ⟨ds[i], e, ?_⟩
    have h' := Option.some.inj h
    rw [← h']
    show PyData.tuple [PyData.int (i : Nat), ds.getD i PyData.none] = _
    rw [List.getD_eq_getElem?_getD, e]; rfl
  · rw [List.getElem?_eq_none (by simpa using q)] at h
    cases h
theorem enumL_length (ds : List D) : (enumL ds).length = ds.length := by simp [enumL]
theorem ite_D {F : Hp} {a : Addr} {xs : List V} {ds : List D} (h : Rd F a (.lst xs)) (hd : DpAll K F xs ds) : ItD K F (Ite K a) (enumL ds) where
  go := fun H i s hi => by
    rw [enumL_length] at hi
    obtain ⟨x, q⟩ : ∃ x, xs[i]? = some x := ⟨xs[i]'(by rw [DpAll.length hd]; exact hi), by simp⟩
    exact ⟨xs, x, .inl (Rd.mono s h), q⟩
  stop := fun H i s hi => ⟨xs, .inl (Rd.mono s h), by rw [enumL_length] at hi; rw [DpAll.length hd]; exact hi⟩
  yld := fun H i x H' d s q y => by
    obtain ⟨T, z, e1, e2, e3, y⟩ := y
    obtain ⟨yd, q1, e4⟩ := enumL_get q
    obtain ⟨v, q2, q3⟩ := DpAll.getd hd q1
    have q4 := y xs (.inl (Rd.mono s h))
    rw [q4] at q2
    cases q2
    exact .inr ⟨T, _, _, e4, e1, e2, e3, .cons (.int _) (.one q3)⟩
def mEnum (ms : M (List D)) : M (List D) := mBind ms fun ds => mLift (enumD ds)
variable {elts : List Expr} {kk : Nat} {tpos : Pos}
theorem diEnum (hm : X.mg "enumerate" = none) (ha : PA X [e] (tA X.K W ms)) (hg : Gl X "enumerate" := by rfl) (hs : starEach [e] X.env = [(false, eval e X.env)] := by rfl) : PI X (.Tuple elts kk tpos) (.Call (.Name "enumerate" p) [e] [] pos) (tI X.K W (mEnum ms)) := PI.imp (pi_enum hg hm ha hs) (by
  rintro σ H R ⟨c, F, ρ, ok, h⟩
  refine ⟨c, F, ρ, ok, post_mono ?_ (post_bind h)⟩
  rintro ds H1 F1 _ ⟨ρ1, ok1, s1, h1⟩ vs rv
  obtain ⟨out, e, h2⟩ := post_lift h1
  unfold enumD at e
  split at e
  · cases e
    cases rv with
    | cons r t =>
      cases t
      cases r with
      | lst hr hd => exact ⟨_, _, rfl, .inl (Rd.mono ok1.sub hr), h2 H1 F1 ok1 (Same.refl F1) _ (ite_D hr hd)⟩
  · cases e)
def zipL (ds es : List D) : List D := List.zipWith (fun x y => .tuple [x, y]) ds es
def zipD : List D → Option (List D)
  | [.list ds, .list es] => some (zipL ds es)
  | [.tuple ds, .tuple es] => some (zipL ds es)
  | _ => none
theorem zipL_get {ds es : List D} {i : Nat} {d : D} (h : (zipL ds es)[i]? = some d) : ∃ y z, ds[i]? = some y ∧ es[i]? = some z ∧ d = .tuple [y, z] := by
  unfold zipL at h
  rw [List.getElem?_zipWith] at h
  cases q1 : ds[i]? with
  | none => rw [q1] at h; cases h
  | some y =>
    cases q2 : es[i]? with
    | none => rw [q1, q2] at h; cases h
    | some z =>
      rw [q1, q2] at h
      cases h
      exact ⟨y, z, rfl, rfl, rfl⟩
theorem itz_D {F : Hp} {a b : Addr} {xs ys : List V} {ds es : List D} (h : Rd F a (.lst xs)) (hd : DpAll K F xs ds) (h2 : Rd F b (.lst ys)) (hd2 : DpAll K F ys es) : ItD K F (Itz K a b) (zipL ds es) where
  go := fun H i s hi => by
    have hl : i < ds.length ∧ i < es.length := by simp [zipL] at hi; omega
    obtain ⟨x, q⟩ : ∃ x, xs[i]? = some x := ⟨xs[i]'(by rw [DpAll.length hd]; exact hl.1), by simp⟩
    obtain ⟨y, q'⟩ : ∃ x, ys[i]? = some x := ⟨ys[i]'(by rw [DpAll.length hd2]; exact hl.2), by simp⟩
    exact ⟨xs, ys, x, y, .inl (Rd.mono s h), .inl (Rd.mono s h2), q, q'⟩
  stop := fun H i s hi => ⟨xs, ys, .inl (Rd.mono s h), .inl (Rd.mono s h2), by rw [DpAll.length hd, DpAll.length hd2]; simp [zipL] at hi; omega⟩
  yld := fun H i x H' d s q y => by
    obtain ⟨T, z, z2, e1, e2, e3, y, y2⟩ := y
    obtain ⟨yd, zd, q1, q1', e4⟩ := zipL_get q
    obtain ⟨v, q2, q3⟩ := DpAll.getd hd q1
    obtain ⟨v2, q2', q3'⟩ := DpAll.getd hd2 q1'
    have q4 := y xs (.inl (Rd.mono s h))
    have q5 := y2 ys (.inl (Rd.mono s h2))
    rw [q4] at q2
    rw [q5] at q2'
    cases q2
    cases q2'
    exact .inr ⟨T, _, _, e4, e1, e2, e3, .cons q3 (.one q3')⟩
theorem itzT_D {F : Hp} {a b : Addr} {xs ys : List V} {ds es : List D} (h : SqT K F a xs) (hd : DpAll K F xs ds) (h2 : SqT K F b ys) (hd2 : DpAll K F ys es) : ItD K F (RZ.ItzT K a b) (zipL ds es) where
  go := fun H i s hi => by
    have hl : i < ds.length ∧ i < es.length := by simp [zipL] at hi; omega
    obtain ⟨x, q⟩ : ∃ x, xs[i]? = some x := ⟨xs[i]'(by rw [DpAll.length hd]; exact hl.1), by simp⟩
    obtain ⟨y, q'⟩ : ∃ x, ys[i]? = some x := ⟨ys[i]'(by rw [DpAll.length hd2]; exact hl.2), by simp⟩
    exact ⟨xs, ys, x, y, SqT.mono s h, SqT.mono s h2, q, q'⟩
  stop := fun H i s hi => ⟨xs, ys, SqT.mono s h, SqT.mono s h2, by rw [DpAll.length hd, DpAll.length hd2]; simp [zipL] at hi; omega⟩
  yld := fun H i x H' d s q y => by
    obtain ⟨T, z, z2, e1, e2, e3, y, y2⟩ := y
    obtain ⟨yd, zd, q1, q1', e4⟩ := zipL_get q
    obtain ⟨v, q2, q3⟩ := DpAll.getd hd q1
    obtain ⟨v2, q2', q3'⟩ := DpAll.getd hd2 q1'
    have q4 := y xs (SqT.mono s h)
    have q5 := y2 ys (SqT.mono s h2)
    rw [q4] at q2
    rw [q5] at q2'
    cases q2
    cases q2'
    exact .inr ⟨T, _, _, e4, e1, e2, e3, .cons q3 (.one q3')⟩
def mZip (ms : M (List D)) : M (List D) := mBind ms fun ds => mLift (zipD ds)
theorem diZip (hm : X.mg "zip" = none) (ha : PA X [a, b] (tA X.K W ms)) (hg : Gl X "zip" := by rfl) (hs : starEach [a, b] X.env = (false, eval a X.env) :: starEach [b] X.env := by rfl) (hpl : (backTo pos (starEach [b] X.env)).any (·.1) = false := by rfl) :
    PI X (.Tuple elts kk tpos) (.Call (.Name "zip" p) [a, b] [] pos) (tI X.K W (mZip ms)) := PI.imp (RZ.pi_zipA hg hm ha hs hpl) (by
  rintro σ H R ⟨c, F, ρ, ok, h⟩
  refine ⟨c, F, ρ, ok, post_mono ?_ (post_bind h)⟩
  rintro ds H1 F1 _ ⟨ρ1, ok1, s1, h1⟩ vs rv
  obtain ⟨out, e, h2⟩ := post_lift h1
  unfold zipD at e
  split at e
  · cases e
    cases rv with
    | cons r t =>
      cases t with
      | cons r' t' =>
        cases t'
        cases r with
        | lst hr hd =>
          cases r' with
          | lst hr' hd' => exact ⟨_, _, _, _, rfl, .inl ⟨.inl (Rd.mono ok1.sub hr), .inl (Rd.mono ok1.sub hr'), h2 H1 F1 ok1 (Same.refl F1) _ (itz_D hr hd hr' hd')⟩⟩
  · cases e
    cases rv with
    | cons r t =>
      cases t with
      | cons r' t' =>
        cases t'
        cases r with
        | tup hr hd =>
          cases r' with
          | tup hr' hd' => exact ⟨_, _, _, _, rfl, .inr ⟨SqT.mono ok1.sub hr, SqT.mono ok1.sub hr', h2 H1 F1 ok1 (Same.refl F1) _ (itzT_D hr hd hr' hd')⟩⟩
  · cases e)
end
/-! ### for, while -/
def mForL (g : D → M Unit) (body : M Fl) : List D → M Fl
  | [] => mPure .nx
  | d :: ds => mBind (g d) fun _ => mBind body fun f => match f with
    | .nx => mForL g body ds
    | .ct => mForL g body ds
    | .bk => mPure .nx
    | o => mPure o
def mFor (mi : M (List D)) (g : D → M Unit) (body : M Fl) : M Fl := mBind mi fun ds => mForL g body ds
section
variable {X : Cx} {W : WX} {K : PySem.W.Frag} {e tg : Expr} {pos : Pos}
theorem yld_ok {c : Ct} {σ : St} {H F : Hp} {ρ : En} {J : It} {ds : List D} {i : Nat} {x : V} {H' : Hp} {d : D} (ok : Ok K c σ H F ρ) (hJ : ∀ H x H' d, Same F H → ds[i]? = some d → J.yld i H x H' → (H' = H ∧ Dp K F x d) ∨ (∃ T xs es, d = .tuple es ∧ x = .ref T ∧ H T = none ∧ H' = upd H T (.tup xs) ∧ DpAll K F xs es)) (e : ds[i]? = some d) (y : J.yld i H x H') :
    ∃ F', Ok K c σ H' F' ρ ∧ Same F F' ∧ Dp K F' x d := by
  rcases hJ H x H' d ok.sub e y with ⟨rfl, r⟩ | ⟨T, xs, es, rfl, rfl, hT, rfl, r⟩
  · exact ⟨F, ok, Same.refl F, r⟩
  · have s : Same F (upd F T (.tup xs)) := Same.updN (ok.new hT).1
    exact ⟨_, ok.alloc hT, s, .tup (SqT.of upd_same) (DpAll.mono s r)⟩
theorem ItD.mono {F F' : Hp} {J : It} {ds : List D} (s : Same F F') (h : ItD K F J ds) : ∀ (i : Nat) H x H' d, Same F' H → ds[i]? = some d → J.yld i H x H' → (H' = H ∧ Dp K F' x d) ∨ (∃ T xs es, d = .tuple es ∧ x = .ref T ∧ H T = none ∧ H' = upd H T (.tup xs) ∧ DpAll K F' xs es) := fun i H x H' d s' e y => by
  rcases h.yld H i x H' d (s.trans s') e y with ⟨a1, a2⟩ | ⟨T, xs, es, a1, a2, a3, a4, a5⟩
  · exact .inl ⟨a1, Dp.mono s a2⟩
  · exact .inr ⟨T, xs, es, a1, a2, a3, a4, DpAll.mono s a5⟩
theorem for_post {c : Ct} {F : Hp} {Dn : Ends} {ρ : En} {mb rest : M Fl} {N : St → Hp → Prop} (h : postS K W c F Dn (mBind mb (fun f => match f with
    | .nx => rest
    | .ct => rest
    | .bk => mPure .nx
    | o => mPure o) ρ)) (hN : ∀ σ' H' F' ρ', Ok K c σ' H' F' ρ' → Same F F' → postS K W c F' Dn (rest ρ') → N σ' H') : postS K W c F { Dn with nx := N, ct := N, bk := Dn.nx } (mb ρ) := by
  unfold mBind at h
  cases e : mb ρ with
  | none => rw [e] at h; exact h
  | some r =>
    rw [e] at h
    cases r with
    | ex x ρ1 => exact h
    | ok f ρ1 =>
      cases f with
      | nx => exact fun σ' H' F' ok s => hN σ' H' F' ρ1 ok s (postS_weak s h)
      | ct => exact fun σ' H' F' ok s => hN σ' H' F' ρ1 ok s (postS_weak s h)
      | bk => exact h
      | rt d => exact h
      | rf ds => exact h
theorem dFor {iter : Expr} {body : List Stmt} {mi : M (List D)} {g : D → M Unit} {mb : M Fl} (hp : PassesOwn (model X.prog X.w) X.A X.env X.xe) (hc : X.calm = true) (hi : PI X tg iter (tI X.K W mi)) (hg : PG X tg (tG X.K W g)) (hb : PSs X body (tS X.K W mb))
    (hs : ∀ x, foldedSetIterable iter X.env x = pure x := by exact fun _ => rfl) : PS X (.For tg iter body [] pos) (tS X.K W (mFor mi g mb)) := PS.imp (ps_for hp hc hi hg hb hs) (by
  rintro Dn σ H ⟨c, F, ρ, ok, h⟩
  refine ⟨c, F, ρ, ok, post_mono ?_ (postS_bind h)⟩
  rintro ds H1 F1 _ ⟨ρ1, ok1, s1, h1⟩ J hJ
  refine ⟨fun i n σ' H' => i + n = ds.length ∧ ∃ F' ρ', Ok X.K c σ' H' F' ρ' ∧ Same F1 F' ∧ postS X.K W c F' Dn (mForL g mb (ds.drop i) ρ'), ⟨ds.length, by omega, F1, ρ1, ok1, Same.refl F1, h1⟩, ?_⟩
  rintro i n σ' H' ⟨en, F', ρ', ok', s', h'⟩
  by_cases hi : i < ds.length
  · obtain ⟨d, ed⟩ : ∃ d, ds[i]? = some d := ⟨ds[i], List.getElem?_eq_getElem hi⟩
    have edr : ds.drop i = d :: ds.drop (i + 1) := by
      rw [List.drop_eq_getElem_cons hi]
      have := List.getElem?_eq_getElem hi
      rw [ed] at this
      rw [Option.some.inj this]
    rw [edr] at h'
    refine .inr ⟨hJ.go H' i (s'.trans ok'.sub) hi, fun σ3 H3 => ∃ F3 ρ3, Ok X.K c σ3 H3 F3 ρ3 ∧ Same F1 F3 ∧ postS X.K W c F3 Dn (mForL g mb (ds.drop (i + 1)) ρ3), fun σ3 H3 w => ⟨n - 1, by omega, by omega, w⟩, fun x H2 y => ?_⟩
    obtain ⟨F2, ok2, s2, r2⟩ := yld_ok ok' (hJ.mono s' i) ed y
    refine ⟨c, F2, ρ', d, ok2, r2, postG_mono ?_ (postG_weak s2 (postS_bindG h'))⟩
    rintro σ4 H4 ⟨F4, ρ4, ok4, s4, h4⟩
    exact ⟨c, F4, ρ4, ok4, for_post h4 fun σ5 H5 F5 ρ5 ok5 s5 h5 => ⟨F5, ρ5, ok5, (s'.trans s4).trans s5, h5⟩⟩
  · have ei : ds.drop i = [] := List.drop_eq_nil_of_le (by omega)
    rw [ei] at h'
    exact .inl ⟨hJ.stop H' i (s'.trans ok'.sub) (by omega), h' σ' H' F' ok' (Same.refl F')⟩)
end
end Dd

namespace Dd
open PySem PySem.Spec L2
/-! ### while -/
def mWhileN (c : M Bool) (body : M Fl) : Nat → M Fl
  | 0 => mStuck
  | n + 1 => mBind c fun k => if k = true then mBind body fun f => match f with
    | .nx => mWhileN c body n
    | .ct => mWhileN c body n
    | .bk => mPure .nx
    | o => mPure o
    else mPure .nx
def mWhile (fuel : En → Nat) (c : M Bool) (body : M Fl) : M Fl := fun ρ => mWhileN c body (fuel ρ) ρ
section
variable {X : Cx} {W : WX} {K : PySem.W.Frag} {e tg : Expr} {pos : Pos}
theorem dWhile {cnd : Expr} {body : List Stmt} {mc : M Bool} {mb : M Fl} {fuel : En → Nat} (hp : PassesOwn (model X.prog X.w) X.A X.env X.xe) (hc : PT X cnd (tT X.K W mc)) (hb : PSs X body (tS X.K W mb)) : PS X (.While cnd body [] pos) (tS X.K W (mWhile fuel mc mb)) := PS.imp (ps_while hp hc hb) (by
  rintro Dn σ H ⟨c, F, ρ, ok, h⟩
  refine ⟨fun n σ' H' => ∃ F' ρ', Ok X.K c σ' H' F' ρ' ∧ Same F F' ∧ postS X.K W c F' Dn (mWhileN mc mb n ρ'), ⟨fuel ρ, F, ρ, ok, Same.refl F, h⟩, ?_⟩
  rintro n σ' H' ⟨F', ρ', ok', s', h'⟩
  cases n with
  | zero => exact h'.elim
  | succ n =>
    refine ⟨c, F', ρ', ok', post_mono ?_ (postS_bind h')⟩
    rintro k H1 F1 _ ⟨ρ1, ok1, s1, h1⟩
    cases k with
    | false => exact h1 σ' H1 F1 ok1 (Same.refl F1)
    | true =>
      refine ⟨fun σ3 H3 => ∃ F3 ρ3, Ok X.K c σ3 H3 F3 ρ3 ∧ Same F F3 ∧ postS X.K W c F3 Dn (mWhileN mc mb n ρ3), fun σ3 H3 w => ⟨n, Nat.lt_succ_self n, w⟩, ?_⟩
      exact ⟨c, F1, ρ1, ok1, for_post h1 fun σ5 H5 F5 ρ5 ok5 s5 h5 => ⟨F5, ρ5, ok5, (s'.trans s1).trans s5, h5⟩⟩)
/-! ### comprehensions -/
def WF : WX := fun _ _ _ _ => False
/-- the stores of a comprehension's target: one name, or a tuple of names -/
def unsE (ρ : En) : List Nat → En
  | [] => ρ
  | i :: is => (unsE ρ is).set i .un
def mUn_ (vs : List Nat) : M Unit := fun ρ => some (.ok () (unsE ρ vs))
theorem unsE_length (ρ : En) : ∀ vs, (unsE ρ vs).length = ρ.length
  | [] => rfl
  | v :: vs => by unfold unsE; rw [List.length_set, unsE_length ρ vs]
theorem ok_wipe {c : Ct} {σ : St} {H F : Hp} {ρ : En} (ok : Ok K c σ H F ρ) : ∀ vs : List Nat, Ok K c (wipe σ vs) H F (unsE ρ vs)
  | [] => ok
  | v :: vs => by
    have ok' := ok_wipe ok vs
    unfold wipe unsE
    by_cases h : v < (unsE ρ vs).length
    · exact ok'.setU h
    · have h1 : (unsE ρ vs).set v .un = unsE ρ vs := List.set_eq_of_length_le (by omega)
      have h2 : (wipe σ vs).set v none = wipe σ vs := List.set_eq_of_length_le (by rw [ok'.len]; omega)
      rw [h1, h2]; exact ok'
theorem unsE_at {ρ : En} {i : Nat} : ∀ {vs : List Nat}, i ∈ vs → (unsE ρ vs)[i]? = some .un ∨ (unsE ρ vs)[i]? = none
  | v :: vs, h => by
    unfold unsE
    by_cases e : v = i
    · subst e
      by_cases hl : v < (unsE ρ vs).length
      · left; simp [hl]
      · right; simp only [List.getElem?_eq_none_iff, List.length_set]; omega
    · rw [List.getElem?_set_ne e]
      exact unsE_at (by cases h with
        | head => exact absurd rfl e
        | tail _ h => exact h)
/-- nothing is known of the wiped slots: they may be what they were -/
theorem ok_unwipe {c : Ct} {σ : St} {H F : Hp} {ρ : En} {vs : List Nat} (ok : Ok K c (wipe σ vs) H F (unsE ρ vs)) : Ok K c σ H F (unsE ρ vs) := by
  have out : ∀ {i : Nat} {u : Sl}, (unsE ρ vs)[i]? = some u → u ≠ .un → (wipe σ vs)[i]? = σ[i]? := fun {i u} e n => by
    by_cases h : i ∈ vs
    · rcases unsE_at (ρ := ρ) h with q | q
      · rw [q] at e; exact absurd (Option.some.inj e).symm n
      · rw [q] at e; cases e
    · exact wipe_out h
  refine ⟨by rw [← ok.len, wipe_length], ok.sub, ok.ge, ok.fe, ok.keep, ok.iod, ok.prt, fun i d e => ?_, fun i ds e => ?_, fun i ds e => ?_, fun i ns e => ?_, fun i j ds es p a b x y => ?_, ok.dcs.sub fun i kvs e => ⟨e, (out e (by intro z; cases z)).symm⟩⟩
  · obtain ⟨v, a1, a2⟩ := ok.val i d e
    exact ⟨v, by rw [← out e (by intro z; cases z)]; exact a1, a2⟩
  · obtain ⟨p, w, a1, a2⟩ := ok.own i ds e
    exact ⟨p, w, by rw [← out e (by intro z; cases z)]; exact a1, a2⟩
  · obtain ⟨z, p, w, a0, a1, a2⟩ := ok.ios i ds e
    exact ⟨z, p, w, a0, by rw [← out e (by intro z; cases z)]; exact a1, a2⟩
  · obtain ⟨z, p, a1, a2⟩ := ok.scr i ns e
    exact ⟨z, p, by rw [← out e (by intro z; cases z)]; exact a1, a2⟩
  · exact ok.sep i j ds es p a b (by rw [out a (by intro z; cases z)]; exact x) (by rw [out b (by intro z; cases z)]; exact y)
theorem unsE_self {ρ : En} : ∀ {vs : List Nat}, unsE (unsE ρ vs) vs = unsE ρ vs := fun {vs} => by
  apply List.ext_getElem?
  intro i
  by_cases h : i ∈ vs
  · rcases unsE_at (ρ := unsE ρ vs) h with q | q <;> rcases unsE_at (ρ := ρ) h with q' | q' <;> rw [q, q']
    · have := List.getElem?_eq_none_iff.mp q'
      have h2 : i < (unsE (unsE ρ vs) vs).length := by
        rcases Nat.lt_or_ge i (unsE (unsE ρ vs) vs).length with z | z
        · exact z
        · rw [List.getElem?_eq_none z] at q; cases q
      rw [unsE_length] at h2
      omega
    · have := List.getElem?_eq_none_iff.mp q
      rw [unsE_length] at this
      have h2 : i < (unsE ρ vs).length := by
        rcases Nat.lt_or_ge i (unsE ρ vs).length with z | z
        · exact z
        · rw [List.getElem?_eq_none z] at q'; cases q'
      omega
  · have o : ∀ (ρ : En) (vs : List Nat), i ∉ vs → (unsE ρ vs)[i]? = ρ[i]? := fun ρ vs => by
      induction vs with
      | nil => intro _; rfl
      | cons v vs ih =>
        intro h
        unfold unsE
        rw [List.getElem?_set_ne (fun z => h (by rw [z]; exact List.mem_cons_self)), ih fun z => h (List.mem_cons_of_mem _ z)]
    rw [o _ _ h]
/-- the target of a comprehension's for: where it stores, and that it stores nowhere else -/
structure CTg (K : PySem.W.Frag) (vs : List Nat) (g : TG) (gD : D → M Unit) : Prop where
  run : ∀ {c : Ct} {σ : St} {H F : Hp} {ρ : En} {v : V} {d : D} {u : Unit} {ρ' : En} {Q : St → Hp → Prop}, Ok K c σ H F ρ → Dp K F v d → gD d ρ = some (.ok u ρ') →
    (∀ σ', Ok K c σ' H F ρ' → wipe σ' vs = wipe σ vs → Q σ' H) → g v σ H Q
theorem wipe_set {σ : St} {i : Nat} {v : Option V} : ∀ {vs : List Nat}, i ∈ vs → wipe (σ.set i v) vs = wipe σ vs := fun {vs} h => by
  have o : ∀ (vs : List Nat) (σ : St), (wipe (σ.set i v) vs) = (wipe σ vs).set i v ∨ i ∈ vs := fun vs => by
    induction vs with
    | nil => intro σ; exact .inl rfl
    | cons w vs ih =>
      intro σ
      by_cases e : i = w
      · exact .inr (e ▸ List.mem_cons_self)
      · rcases ih σ with q | q
        · left; unfold wipe; rw [q, List.set_comm _ _ e]
        · exact .inr (List.mem_cons_of_mem _ q)
  induction vs with
  | nil => cases h
  | cons w vs ih =>
    unfold wipe
    by_cases e : i = w
    · subst e
      by_cases h' : i ∈ vs
      · rw [ih h']
      · rcases o vs σ with q | q
        · rw [q, List.set_set]
        · exact absurd q h'
    · have h' : i ∈ vs := by cases h with
        | head => exact absurd rfl e
        | tail _ h => exact h
      rw [ih h']
theorem ctName {vs : List Nat} {i : Nat} (h : i ∈ vs) : CTg K vs (gName i) (mStore i) := ⟨fun {c σ H F ρ v d u ρ' Q} ok r e k => by
  unfold mStore at e
  split at e
  · rename_i hl
    cases e
    exact k _ (ok.setV hl r) (wipe_set h)
  · cases e⟩
def gNamesT : List Nat → TGs
  | [] => gNil
  | i :: is => gCons (gName i) (gNamesT is)
def gNamesD : List Nat → List D → M Unit
  | [], [] => mPure ()
  | i :: is, d :: ds => mBind (mStore i d) fun _ => gNamesD is ds
  | _, _ => mStuck
theorem names_run {vs : List Nat} {c : Ct} {H F : Hp} : ∀ {is : List Nat} {xs : List V} {ds : List D} {σ : St} {ρ : En} {u : Unit} {ρ' : En} {Q : St → Hp → Prop}, (∀ i ∈ is, i ∈ vs) → Ok K c σ H F ρ → DpAll K F xs ds → gNamesD is ds ρ = some (.ok u ρ') →
    (∀ σ', Ok K c σ' H F ρ' → wipe σ' vs = wipe σ vs → Q σ' H) → gNamesT is xs σ H Q
  | [], _, _, σ, ρ, u, ρ', Q, hv, ok, .nil, e, k => by
    cases e
    exact ⟨rfl, k σ ok rfl⟩
  | [], _, _, σ, ρ, u, ρ', Q, hv, ok, .cons _ _, e, k => by cases e
  | i :: is, _, _, σ, ρ, u, ρ', Q, hv, ok, .nil, e, k => by cases e
  | i :: is, _, _, σ, ρ, u, ρ', Q, hv, ok, .cons (v := x) (vs := xs) (d := d) (ds := ds) r rr, e, k => by
    obtain ⟨_, ρ1, e1, e2⟩ := bind_ok e
    refine ⟨x, xs, rfl, ?_⟩
    unfold mStore at e1
    split at e1
    · rename_i hl
      cases e1
      refine names_run (vs := vs) (fun j hj => hv j (List.mem_cons_of_mem _ hj)) (ok.setV hl r) rr e2 fun σ' ok' w => k σ' ok' ?_
      rw [w, wipe_set (hv i List.mem_cons_self)]
    · cases e1
theorem ctTup {vs is : List Nat} (h : ∀ i ∈ is, i ∈ vs) : CTg K vs (gTup K is.length (gNamesT is)) (gTupD is.length (gNamesD is)) := ⟨fun {c σ H F ρ v d u ρ' Q} ok r e k => by
  unfold gTupD at e
  split at e
  · split at e
    · rename_i hl
      obtain ⟨p, xs, rfl, hp, dp⟩ := Pk.tup ok.sub (.inl r)
      exact ⟨p, xs, rfl, hp, by rw [DpAll.length dp]; exact hl, names_run h ok dp e k⟩
    · cases e
  · cases e⟩
def mGo (vs : List Nat) (g : D → M Unit) (tt : M Bool) (te : M D) : List D → M (List D)
  | [] => mPure []
  | d :: ds => mBind (g d) fun _ => mBind tt fun k => mBind (if k = true then mBind te fun y => mPure [y] else mPure []) fun es => mBind (mUn_ vs) fun _ => mBind (mGo vs g tt te ds) fun rest => mPure (es ++ rest)
/-- nothing is raised out of a comprehension -/
def mRest (vs : List Nat) (g : D → M Unit) (tt : M Bool) (te : M D) (ds : List D) : M (List D) := fun ρ => match mGo vs g tt te ds (unsE ρ vs) with
  | some (.ok out ρe) => if fit ds.length = true then some (.ok out (unsE ρe vs)) else none
  | _ => none
def mComp (vs : List Nat) (mi : M (List D)) (g : D → M Unit) (tt : M Bool) (te : M D) : M (List D) := mBind mi (mRest vs g tt te)
theorem go_length {vs : List Nat} {g : D → M Unit} {tt : M Bool} {te : M D} : ∀ {ds out : List D} {ρ ρ' : En}, mGo vs g tt te ds ρ = some (.ok out ρ') → out.length ≤ ds.length
  | [], out, ρ, ρ', h => by cases h; exact Nat.le_refl _
  | d :: ds, out, ρ, ρ', h => by
    obtain ⟨_, ρ1, h1, h⟩ := bind_ok h
    obtain ⟨k, ρ2, h2, h⟩ := bind_ok h
    obtain ⟨es, ρ3, h3, h⟩ := bind_ok h
    obtain ⟨_, ρ4, h4, h⟩ := bind_ok h
    obtain ⟨rest, ρ5, h5, h⟩ := bind_ok h
    cases h
    have l := go_length h5
    have l2 : es.length ≤ 1 := by
      cases k with
      | true =>
        obtain ⟨y, _, _, h3⟩ := bind_ok h3
        cases h3; exact Nat.le_refl _
      | false => cases h3; exact Nat.zero_le _
    rw [List.length_append, List.length_cons]
    omega
theorem wipe_wipe {σ : St} {vs : List Nat} : wipe (wipe σ vs) vs = wipe σ vs := by
  have o : ∀ (ws : List Nat), (∀ i ∈ ws, i ∈ vs) → wipe (wipe σ ws) vs = wipe σ vs := fun ws => by
    induction ws with
    | nil => intro _; rfl
    | cons w ws ih =>
      intro h
      show wipe ((wipe σ ws).set w none) vs = _
      rw [wipe_set (h w List.mem_cons_self), ih fun i hi => h i (List.mem_cons_of_mem _ hi)]
  exact o vs fun _ h => h
/-- the heart: the loop of a comprehension, the new list kept apart -/
theorem comp_core {mi : M (List D)} {vs : List Nat} {g : TG} {gD : D → M Unit} {mt : M Bool} {me : M D} (hg : CTg K vs g gD) {σ : St} {H : Hp} {Q : VK}
    {tt : TT} (ht : ∀ σ H Q, tT K WF mt σ H Q → tt σ H Q) {c : Ct} {F : Hp} {ρ : En} (ok : Ok K c σ H F ρ)
    (h : post K W c σ F (fun ds H1 F1 => ∃ ρ1, Ok K c σ H1 F1 ρ1 ∧ fit ds.length = true ∧ ∃ out ρe, mGo vs gD mt me ds (unsE ρ1 vs) = some (.ok out ρe) ∧
      ∀ p acc H2 F2, c.pr p = none → Ok K (c.put p (.lst acc)) σ H2 F2 (unsE ρe vs) → Same F1 F2 → DpAll K F2 acc out → Q (.ref p) H2) (mi ρ)) : tLc (tI K W mi) g tt (tE K WF me) vs σ H Q := by
  refine ⟨c, F, ρ, ok, post_mono ?_ h⟩
  rintro ds H1 F1 _ ⟨ρ1, ok1, hf, out, ρe, hgo, k⟩ J hJ p hp
  have hpr : c.pr p = none := (ok1.new hp).2.2.1
  refine ⟨fun i n H => i + n = ds.length ∧ ∃ acc o1 F2 ρ2 rest, Ok K (c.put p (.lst acc)) (wipe σ vs) H F2 (unsE ρ2 vs) ∧ Same F1 F2 ∧ DpAll K F2 acc o1 ∧ o1.length ≤ i ∧ mGo vs gD mt me (ds.drop i) (unsE ρ2 vs) = some (.ok rest ρe) ∧ out = o1 ++ rest,
    ⟨ds.length, by omega, [], [], F1, ρ1, out, ok_wipe (ok1.allocP hp) vs, Same.refl F1, .nil, Nat.le_refl _, hgo, rfl⟩, ?_⟩
  rintro i n H2 ⟨en, acc, o1, F2, ρ2, rest, ok2, s2, da, hl, hgo2, eo⟩
  by_cases hi : i < ds.length
  · obtain ⟨d, ed⟩ : ∃ d, ds[i]? = some d := ⟨ds[i], List.getElem?_eq_getElem hi⟩
    have edr : ds.drop i = d :: ds.drop (i + 1) := by
      rw [List.drop_eq_getElem_cons hi]
      have := List.getElem?_eq_getElem hi
      rw [ed] at this
      rw [Option.some.inj this]
    rw [edr] at hgo2
    obtain ⟨_, ρa, e1, g1⟩ := bind_ok hgo2
    obtain ⟨b, ρb, e2, g2⟩ := bind_ok g1
    obtain ⟨es, ρc, e3, g3⟩ := bind_ok g2
    obtain ⟨_, ρd, e4, g4⟩ := bind_ok g3
    obtain ⟨rest', ρf, e5, g5⟩ := bind_ok g4
    cases e4
    cases g5
    have hz : acc.length < sizeLine := by
      rw [DpAll.length da]
      have := of_decide_eq_true hf
      rw [sizeLine_eq]; omega
    refine .inr ⟨hJ.go H2 i (s2.trans ok2.sub) hi, fun H' => ∃ acc o1 F2 ρ2 rest, Ok K (c.put p (.lst acc)) (wipe σ vs) H' F2 (unsE ρ2 vs) ∧ Same F1 F2 ∧ DpAll K F2 acc o1 ∧ o1.length ≤ i + 1 ∧ mGo vs gD mt me (ds.drop (i + 1)) (unsE ρ2 vs) = some (.ok rest ρe) ∧ out = o1 ++ rest,
      fun H' w => ⟨n - 1, by omega, by omega, w⟩, fun x H' y => ?_⟩
    obtain ⟨F3, ok3, s3, r3⟩ := yld_ok ok2 (hJ.mono s2 i) ed y
    refine hg.run ok3 r3 e1 fun σ' ok4 hw => ?_
    rw [wipe_wipe] at hw
    refine ⟨hw, ht _ _ _ ⟨_, F3, ρa, ok4, ?_⟩⟩
    rw [e2]
    intro H5 F5 ok5 s5
    cases b with
    | false =>
      rw [if_neg (by decide)] at e3
      cases e3
      refine iteF ?_
      refine ⟨acc, o1, F5, ρb, rest', ?_, (s2.trans s3).trans s5, DpAll.mono (s3.trans s5) da, by omega, e5, by rw [eo]; rfl⟩
      have q := ok_wipe ok5 vs
      rw [hw] at q
      exact q
    | true =>
      rw [if_pos rfl] at e3
      obtain ⟨yd, ρy, e6, e7⟩ := bind_ok e3
      cases e7
      refine iteT ?_
      refine ⟨_, F5, ρb, ok5, ?_⟩
      rw [e6]
      intro H6 F6 ok6 s6 v rv
      refine ⟨acc, (ok6.prt p _ upd_same).1, hz, acc ++ [v], o1 ++ [yd], F6, _, rest', ?_, ((s2.trans s3).trans s5).trans s6, DpAll.append (DpAll.mono ((s3.trans s5).trans s6) da) (.one rv), by rw [List.length_append]; exact Nat.succ_le_succ hl, e5, by rw [eo]; simp⟩
      have q := ok_wipe (ok6.putP (o' := .lst (acc ++ [v]))) vs
      rw [hw] at q
      exact q
  · have ei : ds.drop i = [] := List.drop_eq_nil_of_le (by omega)
    rw [ei] at hgo2
    cases hgo2
    refine .inl ⟨hJ.stop H2 i (s2.trans ok2.sub) (by omega), ?_⟩
    rw [List.append_nil] at eo
    subst eo
    refine k p acc H2 F2 hpr ?_ s2 da
    rw [unsE_self]
    exact ok_unwipe ok2
theorem comp_read {α : Type} {vs : List Nat} {gD : D → M Unit} {mt : M Bool} {me : M D} {ds : List D} {ρ1 : En} {c : Ct} {σ : St} {F : Hp} {G : α → Hp → Hp → Prop} {f : List D → M α}
    (h : post K W c σ F G (mBind (mRest vs gD mt me ds) f ρ1)) :
    fit ds.length = true ∧ ∃ out ρe, mGo vs gD mt me ds (unsE ρ1 vs) = some (.ok out ρe) ∧ post K W c σ F G (f out (unsE ρe vs)) := by
  unfold mBind mRest at h
  cases q : mGo vs gD mt me ds (unsE ρ1 vs) with
  | none => rw [q] at h; exact h.elim
  | some r =>
    rw [q] at h
    cases r with
    | ex x ρ' => exact h.elim
    | ok out ρe =>
      by_cases hf : fit ds.length = true
      · simp only [if_pos hf] at h
        exact ⟨hf, out, ρe, rfl, h⟩
      · simp only [if_neg hf] at h
        exact h.elim
theorem bind_assoc {α β γ : Type} (m : M α) (f : α → M β) (g : β → M γ) (ρ : En) : mBind (mBind m f) g ρ = mBind m (fun a => mBind (f a) g) ρ := by
  unfold mBind
  cases m ρ with
  | none => rfl
  | some r => cases r <;> rfl
def mCompV (vs : List Nat) (mi : M (List D)) (g : D → M Unit) (tt : M Bool) (te : M D) : M D := mBind (mComp vs mi g tt te) fun out => mPure (.list out)
theorem comp_val {mi : M (List D)} {vs : List Nat} {g : TG} {gD : D → M Unit} {mt : M Bool} {me : M D} (hg : CTg K vs g gD) {σ : St} {H : Hp} {Q : VK}
    {tt : TT} (ht : ∀ σ H Q, tT K WF mt σ H Q → tt σ H Q) (h : tE K W (mCompV vs mi gD mt me) σ H Q) : tLc (tI K W mi) g tt (tE K WF me) vs σ H Q := by
  obtain ⟨c, F, ρ, ok, h⟩ := h
  refine comp_core hg ht ok ?_
  unfold mCompV mComp at h
  rw [bind_assoc] at h
  refine post_mono ?_ (post_bind h)
  rintro ds H1 F1 _ ⟨ρ1, ok1, s1, h1⟩
  obtain ⟨hf, out, ρe, hgo, h2⟩ := comp_read h1
  refine ⟨ρ1, ok1, hf, out, ρe, hgo, fun p acc H2 F2 hpr ok2 s2 da => ?_⟩
  obtain ⟨hH, hF, h0⟩ := ok2.prt p _ upd_same
  have s : Same F2 (upd F2 p (.lst acc)) := Same.updN hF
  exact h2 _ _ (ok2.freeP hpr) (s2.trans s) _ (.lst (.inl upd_same) (DpAll.mono s da))
/-- [..] as a value -/
theorem dComp {elt iter : Expr} {ifs : List Expr} {scope : Scope} {own : List (Str × Nat)} {mi : M (List D)} {g : TG} {gD : D → M Unit} {mt : M Bool} {me : M D} {tt : TT} (hc : X.calm = true) (hN : X.N.Nodup) (hi : PI X tg iter (tI X.K W mi)) (ok : BlkOk X.N X.env.scope scope own)
    (hg : ∀ (s : Shared) (H : Hp) (C : Addr) (cl : List (Str × Addr)) (fp : List Addr), PG (X.blk s H scope (compEnvC scope cl C X.env) fp) tg g) (ht : ∀ (s : Shared) (H : Hp) (C : Addr) (cl : List (Str × Addr)) (fp : List Addr), PTs (X.blk s H scope (compEnvC scope cl C X.env) fp) ifs tt)
    (he : ∀ (s : Shared) (H : Hp) (C : Addr) (cl : List (Str × Addr)) (fp : List Addr), PE (X.blk s H scope (compEnvC scope cl C X.env) fp) elt (tE X.K WF me)) (hG : CTg X.K (own.map (·.2)) g gD) (hT : ∀ σ H Q, tT X.K WF mt σ H Q → tt σ H Q)
    (hs : ∀ x, foldedSetIterable iter X.env x = pure x := by exact fun _ => rfl) : PE X (.ListComp elt [⟨tg, iter, ifs, 0⟩] scope pos) (tE X.K W (mCompV (own.map (·.2)) mi gD mt me)) :=
  PE.imp (pe_lc hc hN hi ok hg ht he hs) fun _ _ _ => comp_val hG hT
theorem tYes_of {σ : St} {H : Hp} {Q : Bool → Hp → Prop} (h : tT K WF (mPure true) σ H Q) : tYes σ H Q := by
  obtain ⟨c, F, ρ, ok, h⟩ := h
  exact h H F ok (Same.refl F)
/-- name = [..]: its own -/
def mAsgC (m : M (List D)) (i : Nat) : M Fl := mBind m fun ds => mBind (mStoreO i ds) fun _ => mDone
end
end Dd

namespace Dd
open PySem PySem.Spec L2
/-! ### what a def promises -/
structure Ext (F H F' H' : Hp) : Prop where
  ff : Same F F'
  fh : Same F' H'
  fe : ∀ b o, F' b = some o → F b = some o ∨ H b = none
  hh : Same H H'
structure ExtB (p : Addr) (F H F' H' : Hp) : Prop where
  ff : Same F F'
  fh : Same F' H'
  fe : ∀ b o, F' b = some o → F b = some o ∨ H b = none
  hh : ∀ b o, b ≠ p → H b = some o → H' b = some o
  fp : F' p = none
abbrev Rs (α : Type) := Except Ex α
def spV (K : PySem.W.Frag) (n : Nat) (f : List D → Option (Rs D)) : Sp := fun vs H Q E => ∃ F ds, Same F H ∧ DpAll K F vs ds ∧ ds.length = n ∧ match f ds with
  | none => False
  | some (.ok d) => ∀ v F' H', Ext F H F' H' → Dp K F' v d → Q v H'
  | some (.error e) => ∀ cls x F' H', Ext F H F' H' → ExR K e cls x F' H' → E cls x H'
def spF (K : PySem.W.Frag) (n : Nat) (f : List D → Option (Rs (List D))) : Sp := fun vs H Q E => ∃ F ds, Same F H ∧ DpAll K F vs ds ∧ ds.length = n ∧ match f ds with
  | none => False
  | some (.ok es) => ∀ p xs F' H', Ext F H F' H' → H p = none → F' p = none → H' p = some (.lst xs) → DpAll K F' xs es → Q (.ref p) H'
  | some (.error e) => ∀ cls x F' H', Ext F H F' H' → ExR K e cls x F' H' → E cls x H'
def spB (K : PySem.W.Frag) (n : Nat) (f : List D → List D → Option (Rs D × List D)) : Sp := fun vs H Q E => ∃ F p bs0 bs rest ds, vs = .ref p :: rest ∧ Same F H ∧ F p = none ∧ H p = some (.lst bs0) ∧ DpAll K F bs0 bs ∧ DpAll K F rest ds ∧ ds.length + 1 = n ∧ match f bs ds with
  | none => False
  | some (.ok d, bs') => ∀ v bs1 F' H', ExtB p F H F' H' → H' p = some (.lst bs1) → DpAll K F' bs1 bs' → Dp K F' v d → Q v H'
  | some (.error e, bs') => ∀ cls x bs1 F' H', ExtB p F H F' H' → H' p = some (.lst bs1) → DpAll K F' bs1 bs' → ExR K e cls x F' H' → E cls x H'
def spS (K : PySem.W.Frag) (n : Nat) (f : List Int → List D → Option (Rs (List D))) : Sp := fun vs H Q E => ∃ F a ns rest ds, vs = .ref a :: rest ∧ Same F H ∧ SqL K H a (ns.map V.int) ∧ DpAll K F rest ds ∧ ds.length + 1 = n ∧ match f ns ds with
  | none => False
  | some (.ok es) => ∀ p xs F' H', Ext F H F' H' → H p = none → F' p = none → H' p = some (.lst xs) → DpAll K F' xs es → Q (.ref p) H'
  | some (.error e) => ∀ cls x F' H', Ext F H F' H' → ExR K e cls x F' H' → E cls x H'
/-- the law: a list of ints, True -/
def spL (K : PySem.W.Frag) (f : List Int → Option (Rs D)) : Sp := fun vs H Q E => ∃ a ns, vs = [.ref a] ∧ SqL K H a (ns.map V.int) ∧ f ns = some (.ok (.bool true)) ∧ ∀ H', Q (.bl true) H'
def env0 (n : Nat) (ds : List D) : En := ds.map .val ++ List.replicate (n - ds.length) .un
def runV (m : M Fl) (n : Nat) (ds : List D) : Option (Rs D) := match m (env0 n ds) with
  | some (.ok (.rt d) _) => some (.ok d)
  | some (.ok .nx _) => some (.ok .none)
  | some (.ex e _) => some (.error e)
  | _ => none
def runF (m : M Fl) (n : Nat) (ds : List D) : Option (Rs (List D)) := match m (env0 n ds) with
  | some (.ok (.rf d) _) => some (.ok d)
  | some (.ex e _) => some (.error e)
  | _ => none
def env0B (n : Nat) (bs : List D) (ds : List D) : En := .io bs :: (ds.map .val ++ List.replicate (n - (ds.length + 1)) .un)
def runB (m : M Fl) (n : Nat) (bs : List D) (ds : List D) : Option (Rs D × List D) := match m (env0B n bs ds) with
  | some (.ok (.rt d) (.io bs' :: _)) => some (.ok d, bs')
  | some (.ok .nx (.io bs' :: _)) => some (.ok .none, bs')
  | some (.ex e (.io bs' :: _)) => some (.error e, bs')
  | _ => none
def env0S (n : Nat) (ns : List Int) (ds : List D) : En := .scr ns :: (ds.map .val ++ List.replicate (n - (ds.length + 1)) .un)
def runS (m : M Fl) (n : Nat) (ns : List Int) (ds : List D) : Option (Rs (List D)) := match m (env0S n ns ds) with
  | some (.ok (.rf d) _) => some (.ok d)
  | some (.ex e _) => some (.error e)
  | _ => none
def runL (m : M Fl) (n : Nat) (ns : List Int) : Option (Rs D) := match m (env0S n ns []) with
  | some (.ok (.rt d) _) => some (.ok d)
  | some (.ex e _) => some (.error e)
  | _ => none
section
variable {K : PySem.W.Frag} {F H : Hp}
abbrev noPr : Hp := fun _ => none
theorem start_get {N : List Str} {vs : List V} {i : Nat} {v : V} (h : vs[i]? = some v) : (L2.start N vs)[i]? = some (some v) := by
  unfold L2.start
  have hl : i < vs.length := by
    rcases Nat.lt_or_ge i vs.length with z | z
    · exact z
    · rw [List.getElem?_eq_none z] at h; cases h
  rw [List.getElem?_append_left (by simpa using hl), List.getElem?_map, h]; rfl
theorem start_len {N : List Str} {vs : List V} (h : vs.length ≤ N.length) : (L2.start N vs).length = N.length := by
  unfold L2.start
  rw [List.length_append, List.length_map, List.length_replicate]; omega
theorem env0_get {n : Nat} {ds : List D} {i : Nat} {u : Sl} (h : (env0 n ds)[i]? = some u) : (∃ d, ds[i]? = some d ∧ u = .val d) ∨ u = .un := by
  unfold env0 at h
  rcases Nat.lt_or_ge i ds.length with z | z
  · rw [List.getElem?_append_left (by simpa using z), List.getElem?_map] at h
    obtain ⟨d, e⟩ : ∃ d, ds[i]? = some d := ⟨ds[i], List.getElem?_eq_getElem z⟩
    rw [e] at h
    cases h
    exact .inl ⟨d, e, rfl⟩
  · rw [List.getElem?_append_right (by simpa using z)] at h
    rw [List.getElem?_replicate] at h
    split at h
    · cases h; exact .inr rfl
    · cases h
theorem start_ok {N : List Str} {vs : List V} {ds : List D} (s : Same F H) (r : DpAll K F vs ds) (h : ds.length ≤ N.length) : Ok K ⟨F, H, none, noPr⟩ (L2.start N vs) H F (env0 N.length ds) := by
  have hl := DpAll.length r
  refine ⟨?_, s, Same.refl F, fun b o e => .inl e, fun b o e _ => e, fun p e => (by cases e), fun b o e => (by cases e), fun i d e => ?_, fun i es e => ?_, fun i es e => ?_, fun i es e => ?_, fun i j es fs p e _ _ _ => ?_, .no fun i es e => ?_⟩
  · rw [start_len (by omega)]
    unfold env0
    rw [List.length_append, List.length_map, List.length_replicate]; omega
  · rcases env0_get e with ⟨d', e1, e2⟩ | e2
    · cases e2
      obtain ⟨v, q1, q2⟩ := DpAll.getd r e1
      exact ⟨v, start_get q1, q2⟩
    · cases e2
  all_goals
    rcases env0_get e with ⟨d', e1, e2⟩ | e2 <;> cases e2
theorem env0B_get {n : Nat} {u0 : Sl} {ds : List D} {i : Nat} {u : Sl} (h : (u0 :: (ds.map Sl.val ++ List.replicate (n - (ds.length + 1)) Sl.un))[i]? = some u) : (i = 0 ∧ u = u0) ∨ (∃ j d, i = j + 1 ∧ ds[j]? = some d ∧ u = .val d) ∨ u = .un := by
  cases i with
  | zero =>
    have h' : u0 = u := by simpa using h
    exact .inl ⟨rfl, h'.symm⟩
  | succ j =>
    have h' : (env0 (n - 1) ds)[j]? = some u := by
      unfold env0
      have e : n - 1 - ds.length = n - (ds.length + 1) := by omega
      rw [e]
      simpa using h
    rcases env0_get h' with ⟨d, e1, e2⟩ | e2
    · exact .inr (.inl ⟨j, d, rfl, e1, e2⟩)
    · exact .inr (.inr e2)
theorem startB_ok {N : List Str} {p : Addr} {bs0 rest : List V} {bs ds : List D} (s : Same F H) (hF : F p = none) (hp : H p = some (.lst bs0)) (rb : DpAll K F bs0 bs) (r : DpAll K F rest ds) (h : ds.length + 1 ≤ N.length) :
    Ok K ⟨F, H, some p, noPr⟩ (L2.start N (.ref p :: rest)) H F (env0B N.length bs ds) := by
  have hl := DpAll.length r
  refine ⟨?_, s, Same.refl F, fun b o e => .inl e, fun b o e _ => e, fun q e => ?_, fun b o e => (by cases e), fun i d e => ?_, fun i es e => ?_, fun i es e => ?_, fun i es e => ?_, fun i j es fs q e _ _ _ => ?_, .no fun i es e => ?_⟩
  · rw [start_len (by simp only [List.length_cons]; omega)]
    unfold env0B
    rw [List.length_cons, List.length_append, List.length_map, List.length_replicate]; omega
  · have e' : some p = some q := e
    cases e'
    exact ⟨hF, by show H p ≠ none; rw [hp]; exact Option.some_ne_none _, rfl, bs0, hp⟩
  · rcases env0B_get e with ⟨_, e2⟩ | ⟨j, d', rfl, e1, e2⟩ | e2 <;> cases e2
    obtain ⟨v, q1, q2⟩ := DpAll.getd r e1
    exact ⟨v, start_get (by simpa using q1), q2⟩
  · rcases env0B_get e with ⟨_, e2⟩ | ⟨j, d', rfl, e1, e2⟩ | e2 <;> cases e2
  · rcases env0B_get e with ⟨rfl, e2⟩ | ⟨j, d', rfl, e1, e2⟩ | e2 <;> cases e2
    exact ⟨rfl, p, bs0, rfl, start_get rfl, hp, rb⟩
  · rcases env0B_get e with ⟨_, e2⟩ | ⟨j, d', rfl, e1, e2⟩ | e2 <;> cases e2
  · rcases env0B_get e with ⟨_, e2⟩ | ⟨j, d', rfl, e1, e2⟩ | e2 <;> cases e2
  · rcases env0B_get e with ⟨_, e2⟩ | ⟨j, d', rfl, e1, e2⟩ | e2 <;> cases e2
theorem startS_ok {N : List Str} {a : Addr} {ns : List Int} {rest : List V} {ds : List D} (s : Same F H) (hp : SqL K H a (ns.map V.int)) (r : DpAll K F rest ds) (h : ds.length + 1 ≤ N.length) :
    Ok K ⟨F, H, none, noPr⟩ (L2.start N (.ref a :: rest)) H F (env0S N.length ns ds) := by
  have hl := DpAll.length r
  refine ⟨?_, s, Same.refl F, fun b o e => .inl e, fun b o e _ => e, fun q e => (by cases e), fun b o e => (by cases e), fun i d e => ?_, fun i es e => ?_, fun i es e => ?_, fun i es e => ?_, fun i j es fs q e _ _ _ => ?_, .no fun i es e => ?_⟩
  · rw [start_len (by simp only [List.length_cons]; omega)]
    unfold env0S
    rw [List.length_cons, List.length_append, List.length_map, List.length_replicate]; omega
  · rcases env0B_get e with ⟨_, e2⟩ | ⟨j, d', rfl, e1, e2⟩ | e2 <;> cases e2
    obtain ⟨v, q1, q2⟩ := DpAll.getd r e1
    exact ⟨v, start_get (by simpa using q1), q2⟩
  · rcases env0B_get e with ⟨_, e2⟩ | ⟨j, d', rfl, e1, e2⟩ | e2 <;> cases e2
  · rcases env0B_get e with ⟨_, e2⟩ | ⟨j, d', rfl, e1, e2⟩ | e2 <;> cases e2
  · rcases env0B_get e with ⟨rfl, e2⟩ | ⟨j, d', rfl, e1, e2⟩ | e2 <;> cases e2
    exact ⟨rfl, a, start_get rfl, hp⟩
  · rcases env0B_get e with ⟨_, e2⟩ | ⟨j, d', rfl, e1, e2⟩ | e2 <;> cases e2
  · rcases env0B_get e with ⟨_, e2⟩ | ⟨j, d', rfl, e1, e2⟩ | e2 <;> cases e2
theorem Ok.ext {σ : St} {F' H' : Hp} {ρ : En} {pr : Hp} (ok : Ok K ⟨F, H, none, pr⟩ σ H' F' ρ) : Ext F H F' H' := ⟨ok.ge, ok.sub, ok.fe, fun b o e => ok.keep b o e (by simp)⟩
theorem Ok.extB {σ : St} {F' H' : Hp} {ρ : En} {pr : Hp} {p : Addr} (ok : Ok K ⟨F, H, some p, pr⟩ σ H' F' ρ) : ExtB p F H F' H' :=
  ⟨ok.ge, ok.sub, ok.fe, fun b o n e => ok.keep b o e (by intro z; cases z; exact n rfl), (ok.iod p rfl).1⟩
/-! ### behind a call -/
theorem Ok.call {c : Ct} {σ : St} {F' H' : Hp} {ρ : En} (ok : Ok K c σ H F ρ) (x : Ext F H F' H') : Ok K c σ H' F' ρ := by
  have nf : ∀ {b o}, H b = some o → F b = none → F' b = none := fun {b o} h n => by
    cases q : F' b with
    | none => rfl
    | some u =>
      rcases x.fe b u q with z | z
      · rw [n] at z; cases z
      · rw [h] at z; cases z
  refine ⟨ok.len, x.fh, ok.ge.trans x.ff, fun b o e => ?_, fun b o e n => x.hh _ _ (ok.keep b o e n), fun p e => ?_, fun b o e => ?_, fun i d e => ?_, fun i ds e => ?_, fun i ds e => ?_, ok.scr, ok.sep, ok.dcs.tr x.ff fun p ws a1 a2 a3 a4 => ⟨x.hh _ _ a1, nf a1 a2, a4⟩⟩
  · rcases x.fe b o e with z | z
    · exact ok.fe b o z
    · exact .inr (ok.new z).2.1
  · obtain ⟨a1, a2, a3, xs, a4⟩ := ok.iod p e
    exact ⟨nf a4 a1, a2, a3, xs, x.hh _ _ a4⟩
  · obtain ⟨a1, a2, a3⟩ := ok.prt b o e
    exact ⟨x.hh _ _ a1, nf a1 a2, a3⟩
  · obtain ⟨v, a1, a2⟩ := ok.val i d e
    exact ⟨v, a1, Dp.mono x.ff a2⟩
  · obtain ⟨p, vs, a1, a2, a3, a4, a5, a6⟩ := ok.own i ds e
    exact ⟨p, vs, a1, x.hh _ _ a2, DpAll.mono x.ff a3, nf a2 a4, a5, a6⟩
  · obtain ⟨z, p, vs, a0, a1, a2, a3⟩ := ok.ios i ds e
    exact ⟨z, p, vs, a0, a1, x.hh _ _ a2, DpAll.mono x.ff a3⟩
/-- the list at p, a slot's own or the caller's, was changed by a call -/
theorem Ok.callB {c : Ct} {σ : St} {F' H' : Hp} {ρ : En} {i : Nat} {p : Addr} {bs0 bs1 : List V} {bs bs' : List D} (ok : Ok K c σ H F ρ) (hi : ρ[i]? = some (.own bs) ∨ ρ[i]? = some (.io bs)) (hp : σ[i]? = some (some (.ref p))) (x : ExtB p F H F' H') (hb : H' p = some (.lst bs1)) (rb : DpAll K F' bs1 bs') :
    ∃ ρ', mPut i bs' ρ = some (.ok () ρ') ∧ Ok K c σ H' F' ρ' := by
  -- the heap with p as it was ahead of the call
  have nf : ∀ {b o}, H b = some o → F b = none → F' b = none := fun {b o} h n => by
    cases q : F' b with
    | none => rfl
    | some u =>
      rcases x.fe b u q with z | z
      · rw [n] at z; cases z
      · rw [h] at z; cases z
  have hpH : ∃ vs, H p = some (.lst vs) ∧ DpAll K F vs bs := by
    rcases hi with hi | hi
    · obtain ⟨q, vs, a1, a2, a3, _⟩ := ok.own i bs hi
      rw [hp] at a1; cases a1; exact ⟨vs, a2, a3⟩
    · obtain ⟨_, q, vs, _, a1, a2, a3⟩ := ok.ios i bs hi
      rw [hp] at a1; cases a1; exact ⟨vs, a2, a3⟩
  obtain ⟨vs0, hpH, r0⟩ := hpH
  have x0 : Ext F H F' (upd H' p (.lst vs0)) := ⟨x.ff, fun b o e => by rw [upd_ne (ne_of_none e x.fp)]; exact x.fh b o e, x.fe, fun b o e => by
    by_cases hb' : b = p
    · subst hb'; rw [upd_same]; rw [hpH] at e; exact e
    · rw [upd_ne hb']; exact x.hh b o hb' e⟩
  have ok1 := ok.call x0
  have back : upd (upd H' p (.lst vs0)) p (.lst bs1) = H' := by
    rw [upd_upd]
    funext b
    unfold upd
    split
    · rename_i h; rw [h, hb]
    · rfl
  rcases hi with hi | hi
  · have q := ok1.change hi p hp rb
    rw [back] at q
    exact ⟨_, by unfold mPut; rw [hi], q⟩
  · have q := ok1.changeI hi p hp rb
    rw [back] at q
    exact ⟨_, by unfold mPut; rw [hi], q⟩
end
/-! ### calls of defs -/
section
variable {X : Cx} {W : WX} {K : PySem.W.Frag} {ms : M (List D)} {n : Nat} {σ : St} {H : Hp}
def mRs (o : Option (Rs D)) : M D := fun ρ => match o with
  | none => none
  | some (.ok d) => some (.ok d ρ)
  | some (.error e) => some (.ex e ρ)
def mCallV (n : Nat) (f : List D → Option (Rs D)) (ms : M (List D)) : M D := mBind ms fun ds => if ds.length = n then mRs (f ds) else mStuck
theorem callV_of {f : List D → Option (Rs D)} {Q : VK} (h : tE K W (mCallV n f ms) σ H Q) : tCallS (spV K n f) (WE W) (tA K W ms) σ H Q := by
  obtain ⟨c, F, ρ, ok, h⟩ := h
  refine ⟨c, F, ρ, ok, post_mono ?_ (post_bind h)⟩
  rintro ds H1 F1 _ ⟨ρ1, ok1, s1, h1⟩ vs rv
  split at h1
  · rename_i hl
    refine ⟨F1, ds, ok1.sub, rv, hl, ?_⟩
    unfold mRs at h1
    cases e : f ds with
    | none => rw [e] at h1; exact h1
    | some r =>
      rw [e] at h1
      cases r with
      | ok d => exact fun v F' H' x r => h1 H' F' (ok1.call x) x.ff v r
      | error e => exact fun cls y F' H' x r => h1 cls y H' F' (ok1.call x) x.ff r
  · exact h1.elim
/-- a call that changes a slot's own list -/
def mCallB (i n : Nat) (f : List D → List D → Option (Rs D × List D)) (ms : M (List D)) : M D := mBind (mOwn i) fun _ => mBind ms fun ds => mBind (mOwn i) fun bs => if ds.length + 1 = n then (match f bs ds with
  | none => mStuck
  | some (r, bs') => mBind (mPut i bs') fun _ => mRs (some r)) else mStuck
theorem own_is {α : Type} {ρ : En} {i : Nat} {r : R (List D)} (h : mOwn i ρ = some r) : ∃ ds, r = .ok ds ρ ∧ (ρ[i]? = some (.own ds) ∨ ρ[i]? = some (.io ds)) := by
  unfold mOwn at h
  split at h
  · rename_i ds e; cases h; exact ⟨ds, rfl, .inl e⟩
  · rename_i ds e; cases h; exact ⟨ds, rfl, .inr e⟩
  · cases h
theorem callB_of {i : Nat} {f : List D → List D → Option (Rs D × List D)} {Q : VK} (h : tE K W (mCallB i n f ms) σ H Q) : tCallS (spB K n f) (WE W) (tCons (tVar i) (tA K W ms)) σ H Q := by
  obtain ⟨c, F, ρ, ok, h⟩ := h
  obtain ⟨p, vs, ds0, a1, a2, a3, a4, h⟩ := own_at ok h
  refine ⟨.ref p, a1, c, F, ρ, ok, post_mono ?_ (post_bind h)⟩
  rintro ds H1 F1 _ ⟨ρ1, ok1, s1, h1⟩ ws rw'
  have hw : ∃ bs, (ρ1[i]? = some (.own bs) ∨ ρ1[i]? = some (.io bs)) ∧ post K W c σ F1 (qE K Q) ((if ds.length + 1 = n then (match f bs ds with
      | none => mStuck
      | some (r, bs') => mBind (mPut i bs') fun _ => mRs (some r)) else mStuck) ρ1) := by
    unfold mBind at h1
    cases e : mOwn i ρ1 with
    | none => rw [e] at h1; exact h1.elim
    | some r =>
      obtain ⟨bs, rfl, e2⟩ := own_is (α := D) e
      rw [e] at h1
      exact ⟨bs, e2, h1⟩
  obtain ⟨bs, hi, h2⟩ := hw
  obtain ⟨p', vs1, b1, b2, b3, b4⟩ : ∃ p vs, σ[i]? = some (some (.ref p)) ∧ H1 p = some (.lst vs) ∧ DpAll K F1 vs bs ∧ F1 p = none := by
    rcases hi with hi | hi
    · obtain ⟨q, vs, c1, c2, c3, c4, _⟩ := ok1.own i bs hi
      exact ⟨q, vs, c1, c2, c3, c4⟩
    · obtain ⟨_, q, vs, c0, c1, c2, c3⟩ := ok1.ios i bs hi
      exact ⟨q, vs, c1, c2, c3, (ok1.iod q c0).1⟩
  have ep : p' = p := by rw [a1] at b1; cases b1; rfl
  subst ep
  split at h2
  · rename_i hl
    refine ⟨F1, p', vs1, bs, ws, ds, rfl, ok1.sub, b4, b2, b3, rw', hl, ?_⟩
    cases e : f bs ds with
    | none => rw [e] at h2; exact h2
    | some q =>
      rw [e] at h2
      obtain ⟨r, bs'⟩ := q
      cases r with
      | ok d =>
        intro v bs1 F' H' x hb rb rv
        obtain ⟨ρ2, e2, ok2⟩ := ok1.callB (bs0 := vs1) hi b1 x hb rb
        have h3 := post_bind h2
        rw [e2] at h3
        obtain ⟨ρ3, ok3, s3, h4⟩ := h3 H' F' ok2 x.ff
        exact h4 H' F' ok3 (Same.refl F') v rv
      | error ex =>
        intro cls y bs1 F' H' x hb rb rv
        obtain ⟨ρ2, e2, ok2⟩ := ok1.callB (bs0 := vs1) hi b1 x hb rb
        have h3 := post_bind h2
        rw [e2] at h3
        obtain ⟨ρ3, ok3, s3, h4⟩ := h3 H' F' ok2 x.ff
        exact h4 cls y H' F' ok3 (Same.refl F') rv
  · exact h2.elim
/-- name = f(..), f hands back a new list: its own -/
def mAsgF (i n : Nat) (f : List D → Option (Rs (List D))) (ms : M (List D)) : M Fl := mBind ms fun ds => if ds.length = n then (match f ds with
  | none => mStuck
  | some (.ok es) => mBind (mStoreO i es) fun _ => mDone
  | some (.error e) => fun ρ => some (.ex e ρ)) else mStuck
theorem ok_fresh {c : Ct} {F F' H' : Hp} {ρ : En} {p : Addr} {xs : List V} {es : List D} {i : Nat} (ok : Ok K c σ H F ρ) (x : Ext F H F' H') (hp : H p = none) (hf : F' p = none) (hl : H' p = some (.lst xs)) (r : DpAll K F' xs es) (hi : i < ρ.length) :
    Ok K c (σ.set i (some (.ref p))) H' F' (ρ.set i (.own es)) := by
  have ok1 := ok.call x
  obtain ⟨b1, b2, b3, b4, b5⟩ := ok.new hp
  refine ok1.set hi (fun d' e => by cases e) (fun fs e => ?_) (fun _ e => by cases e) (fun _ e => by cases e)
  cases e
  refine ⟨p, xs, rfl, hl, r, hf, b2, b3, fun j fs a b => ?_⟩
  obtain ⟨q, vs, a1, a2, _⟩ := ok.own j fs a
  rw [b] at a1
  have z : p = q := by cases a1; rfl
  subst z
  rw [hp] at a2; cases a2
theorem asgF_of {i : Nat} {f : List D → Option (Rs (List D))} {Dn : Ends} (h : tS K W (mAsgF i n f ms) Dn σ H) : tAsg (tCallS (spF K n f) (WE W) (tA K W ms)) (gName i) Dn σ H := by
  obtain ⟨c, F, ρ, ok, h⟩ := h
  refine ⟨c, F, ρ, ok, post_mono ?_ (postS_bind h)⟩
  rintro ds H1 F1 _ ⟨ρ1, ok1, s1, h1⟩ vs rv
  split at h1
  · rename_i hl
    refine ⟨F1, ds, ok1.sub, rv, hl, ?_⟩
    cases e : f ds with
    | none => rw [e] at h1; exact h1
    | some r =>
      rw [e] at h1
      cases r with
      | error e => exact fun cls y F' H' x r => h1 σ cls y H' F' (ok1.call x) x.ff r
      | ok es =>
        intro p xs F' H' x hp hf hl' rx
        have h2 := postS_bindG h1
        unfold mStoreO at h2
        split at h2
        · rename_i hi
          obtain ⟨F3, ρ3, ok3, s3, h6⟩ := h2 _ H' F' (ok_fresh ok1 x hp hf hl' rx hi) x.ff
          exact h6 _ _ _ ok3 (Same.refl F3)
        · exact h2.elim
  · exact h1.elim
/-- name = _law_box(script, ..) -/
def mScr (j : Nat) : M (List Int) := fun ρ => match ρ[j]? with
  | some (.scr ns) => some (.ok ns ρ)
  | _ => none
def mAsgS (i j n : Nat) (f : List Int → List D → Option (Rs (List D))) (ms : M (List D)) : M Fl := mBind (mScr j) fun ns => mBind ms fun ds => if ds.length + 1 = n then (match f ns ds with
  | none => mStuck
  | some (.ok es) => mBind (mStoreO i es) fun _ => mDone
  | some (.error e) => fun ρ => some (.ex e ρ)) else mStuck
theorem Ok.scrH {c : Ct} {F : Hp} {ρ : En} {j : Nat} {ns : List Int} (ok : Ok K c σ H F ρ) (e : ρ[j]? = some (.scr ns)) : c.io = none ∧ ∃ a, σ[j]? = some (some (.ref a)) ∧ SqL K c.H0 a (ns.map V.int) ∧ SqL K H a (ns.map V.int) := by
  obtain ⟨a0, a, a1, a2⟩ := ok.scr j ns e
  exact ⟨a0, a, a1, a2, SqL.mono (fun b o q => ok.keep b o q (by rw [a0]; simp)) a2⟩
theorem asgS_of {i j : Nat} {f : List Int → List D → Option (Rs (List D))} {Dn : Ends} (h : tS K W (mAsgS i j n f ms) Dn σ H) : tAsg (tCallS (spS K n f) (WE W) (tCons (tVar j) (tA K W ms))) (gName i) Dn σ H := by
  obtain ⟨c, F, ρ, ok, h⟩ := h
  have hj : ∃ ns, ρ[j]? = some (.scr ns) ∧ postS K W c F Dn (mBind ms (fun ds => if ds.length + 1 = n then (match f ns ds with
      | none => mStuck
      | some (.ok es) => mBind (mStoreO i es) fun _ => mDone
      | some (.error e) => fun ρ => some (.ex e ρ)) else mStuck) ρ) := by
    unfold mAsgS mBind mScr at h
    cases e : ρ[j]? with
    | none => rw [e] at h; exact h.elim
    | some u =>
      rw [e] at h
      cases u with
      | scr ns => exact ⟨ns, rfl, h⟩
      | un => exact h.elim
      | val _ => exact h.elim
      | own _ => exact h.elim
      | io _ => exact h.elim
      | dct _ => exact h.elim
  obtain ⟨ns, ej, h⟩ := hj
  obtain ⟨a0, a, a1, a2, a3⟩ := ok.scrH ej
  refine ⟨.ref a, a1, c, F, ρ, ok, post_mono ?_ (postS_bind h)⟩
  rintro ds H1 F1 _ ⟨ρ1, ok1, s1, h1⟩ vs rv
  have a4 : SqL K H1 a (ns.map V.int) := SqL.mono (fun b o q => ok1.keep b o q (by rw [a0]; simp)) a2
  split at h1
  · rename_i hl
    refine ⟨F1, a, ns, vs, ds, rfl, ok1.sub, a4, rv, hl, ?_⟩
    cases e : f ns ds with
    | none => rw [e] at h1; exact h1
    | some r =>
      rw [e] at h1
      cases r with
      | error e => exact fun cls y F' H' x r => h1 σ cls y H' F' (ok1.call x) x.ff r
      | ok es =>
        intro p xs F' H' x hp hf hl' rx
        have h2 := postS_bindG h1
        unfold mStoreO at h2
        split at h2
        · rename_i hi
          obtain ⟨F3, ρ3, ok3, s3, h6⟩ := h2 _ H' F' (ok_fresh ok1 x hp hf hl' rx hi) x.ff
          exact h6 _ _ _ ok3 (Same.refl F3)
        · exact h2.elim
  · exact h1.elim
/-- len(script), script[..] -/
def mScrLen (j : Nat) : M D := mBind (mScr j) fun ns => mPure (.int (ns.length : Nat))
def mScrIx (j : Nat) (m : M D) : M D := mBind (mScr j) fun ns => mBind m fun d => mLift (match d with
  | .int i => (atI ns i).map PyData.int
  | _ => none)
theorem scr_at {α : Type} {c : Ct} {F : Hp} {ρ : En} {j : Nat} {G : α → Hp → Hp → Prop} {f : List Int → M α} (h : post K W c σ F G (mBind (mScr j) f ρ)) : ∃ ns, ρ[j]? = some (.scr ns) ∧ post K W c σ F G (f ns ρ) := by
  unfold mBind mScr at h
  cases e : ρ[j]? with
  | none => rw [e] at h; exact h.elim
  | some u =>
    rw [e] at h
    cases u with
    | scr ns => exact ⟨ns, rfl, h⟩
    | un => exact h.elim
    | val _ => exact h.elim
    | own _ => exact h.elim
    | io _ => exact h.elim
    | dct _ => exact h.elim
variable {pos p : Pos} {a : Expr} {m : M D}
theorem dScrLen {j : Nat} (hm : X.mg "len" = none) (ha : PE X a (tVar j)) (hg : Gl X "len" := by rfl) (hs : starEach (a :: []) X.env = (false, eval a X.env) :: starEach [] X.env := by rfl) (hpl : (backTo pos (starEach [] X.env)).any (·.1) = false := by rfl) : PE X (.Call (.Name "len" p) [a] [] pos) (tE X.K W (mScrLen j)) :=
  PE.imp (pe_callB call_len_seq hg hm PySem.boot_len (pa_cons ha pa_nil hs) (by decide) (by decide) hs hpl) (by
  rintro σ H Q ⟨c, F, ρ, ok, h⟩
  obtain ⟨ns, ej, h⟩ := scr_at h
  obtain ⟨a0, a, a1, a2, a3⟩ := ok.scrH ej
  refine ⟨.ref a, a1, a, _, rfl, .inl a3, ?_⟩
  rw [List.length_map]
  exact h H F ok (Same.refl F) _ (.int _))
theorem dScrIx {j : Nat} {b : Expr} (ha : PE X a (tVar j)) (hb : PE X b (tE X.K W m)) (hs : PlainIx b := by exact fun _ _ => rfl) : PE X (.Subscript a b pos) (tE X.K W (mScrIx j m)) := PE.imp (pe_ix ix_list ha hb hs) (by
  rintro σ H Q ⟨c, F, ρ, ok, h⟩
  obtain ⟨ns, ej, h⟩ := scr_at h
  obtain ⟨a0, a, a1, a2, a3⟩ := ok.scrH ej
  refine ⟨.ref a, a1, c, F, ρ, ok, post_mono ?_ (post_bind h)⟩
  rintro d H1 F1 _ ⟨ρ1, ok1, s1, h1⟩ v rv
  obtain ⟨d', e, h2⟩ := post_lift h1
  split at e
  · rename_i i
    cases rv
    cases q : atI ns i with
    | none => rw [q] at e; cases e
    | some z =>
      rw [q] at e
      cases e
      refine ⟨a, _, i, .int z, rfl, rfl, SqL.mono (fun b o q => ok1.keep b o q (by rw [a0]; simp)) a2, ?_, h2 H1 F1 ok1 (Same.refl F1) _ (.int z)⟩
      unfold atI at q ⊢
      rw [List.length_map]
      cases q2 : ixN ns.length i with
      | none => rw [q2] at q; cases q
      | some k =>
        rw [q2] at q
        show (ns.map V.int)[k]? = _
        rw [List.getElem?_map, show ns[k]? = some z from q]; rfl
  · cases e)
end
/-! ### a def by its body -/
section
variable {P : Program} {w : World} {K : PySem.W.Frag} {mg : Str → Option Value} {base : Heap} {x qual : Str} {st : Stmt} {f : Addr} {fd : FuncData} {N ps : List Str} {k : Nat} {m : M Fl}
abbrev Body (P : Program) (w : World) (K : PySem.W.Frag) (mg : Str → Option Value) (base : Heap) (qual : Str) (st : Stmt) (f : Addr) (N : List Str) (k : Nat) (m : M Fl) : Prop :=
  ∀ (cdv : Value) (A : Around) (outer : List Env) (s : Shared) (H : Hp) (E : XK), Room k (A.deeper (PyProof.Rows.envOfC qual (defScope st) s.heap.objs.size f cdv)) →
    PSs (cxOf (L2.CX P w) P w K mg base N qual (defScope st) f cdv A outer s H E) (defBody st) (tS K (fun cls d _ H => E cls d H) m)
theorem FnScope.le {sc : Scope} (S : FnScope N ps sc) : ps.length ≤ N.length := by
  have := congrArg List.length S.pre
  rw [List.length_take] at this
  omega
theorem okV (Fn : Fun K x qual st f fd) (S : FnScope N ps (defScope st)) (hb : Body P w K mg base qual st f N k m) : FnOk P w K mg base (L2.CX P w) (k + 1) f fd ps (spV K ps.length (runV m N.length)) := by
  refine Fn.okX S (fun vs H Q E h => ?_) (fun cdv A outer s H vs Q E hr h => ⟨_, hb cdv A outer s H E hr, ?_⟩)
  · obtain ⟨F, ds, _, r, hl, _⟩ := h
    rw [DpAll.length r]; exact hl
  · obtain ⟨F, ds, s', r, hl, h⟩ := h
    refine ⟨_, F, _, start_ok s' r (by rw [hl]; exact FnScope.le S), ?_⟩
    unfold runV at h
    cases e : m (env0 N.length ds) with
    | none => rw [e] at h; exact h
    | some q =>
      rw [e] at h
      cases q with
      | ex y ρ' => exact fun σ' cls z H' F' ok _ r' => h cls z F' H' ok.ext r'
      | ok fl ρ' =>
        cases fl with
        | nx => exact fun σ' H' F' ok _ => h .non F' H' ok.ext .non
        | rt d => exact fun σ' v H' F' ok _ r' => h v F' H' ok.ext r'
        | bk => exact h.elim
        | ct => exact h.elim
        | rf _ => exact h.elim
theorem okF (Fn : Fun K x qual st f fd) (S : FnScope N ps (defScope st)) (hb : Body P w K mg base qual st f N k m) : FnOk P w K mg base (L2.CX P w) (k + 1) f fd ps (spF K ps.length (runF m N.length)) := by
  refine Fn.okX S (fun vs H Q E h => ?_) (fun cdv A outer s H vs Q E hr h => ⟨_, hb cdv A outer s H E hr, ?_⟩)
  · obtain ⟨F, ds, _, r, hl, _⟩ := h
    rw [DpAll.length r]; exact hl
  · obtain ⟨F, ds, s', r, hl, h⟩ := h
    refine ⟨_, F, _, start_ok s' r (by rw [hl]; exact FnScope.le S), ?_⟩
    unfold runF at h
    cases e : m (env0 N.length ds) with
    | none => rw [e] at h; exact h
    | some q =>
      rw [e] at h
      cases q with
      | ex y ρ' => exact fun σ' cls z H' F' ok _ r' => h cls z F' H' ok.ext r'
      | ok fl ρ' =>
        cases fl with
        | nx => exact h.elim
        | rt d => exact h.elim
        | bk => exact h.elim
        | ct => exact h.elim
        | rf es => exact fun σ' p xs H' F' ok _ hp r' hf h0 => h p xs F' H' ok.ext h0 hf hp r'
theorem okB (Fn : Fun K x qual st f fd) (S : FnScope N ps (defScope st)) (hb : Body P w K mg base qual st f N k m) : FnOk P w K mg base (L2.CX P w) (k + 1) f fd ps (spB K ps.length (runB m N.length)) := by
  refine Fn.okX S (fun vs H Q E h => ?_) (fun cdv A outer s H vs Q E hr h => ⟨_, hb cdv A outer s H E hr, ?_⟩)
  · obtain ⟨F, p, bs0, bs, rest, ds, rfl, _, _, _, _, r, hl, _⟩ := h
    rw [List.length_cons, DpAll.length r]; exact hl
  · obtain ⟨F, p, bs0, bs, rest, ds, rfl, s', hF, hp, rb, r, hl, h⟩ := h
    refine ⟨_, F, _, startB_ok s' hF hp rb r (by rw [hl]; exact FnScope.le S), ?_⟩
    have fin : ∀ {σ' H' F' ρ' bs'}, Ok K ⟨F, H, some p, noPr⟩ σ' H' F' (.io bs' :: ρ') → ∃ bs1, H' p = some (.lst bs1) ∧ DpAll K F' bs1 bs' := fun {σ' H' F' ρ' bs'} ok => by
      obtain ⟨_, q, vs, c0, c1, c2, c3⟩ := ok.ios 0 bs' rfl
      have e : some p = some q := c0
      cases e
      exact ⟨vs, c2, c3⟩
    unfold runB at h
    cases e : m (env0B N.length bs ds) with
    | none => rw [e] at h; exact h
    | some q =>
      rw [e] at h
      cases q with
      | ex y ρ' =>
        intro σ' cls z H' F' ok _ r'
        cases ρ' with
        | nil => exact h.elim
        | cons u ρ' =>
          cases u with
          | io bs' =>
            obtain ⟨bs1, b1, b2⟩ := fin ok
            exact h cls z bs1 F' H' ok.extB b1 b2 r'
          | un => exact h.elim
          | val _ => exact h.elim
          | own _ => exact h.elim
          | scr _ => exact h.elim
          | dct _ => exact h.elim
      | ok fl ρ' =>
        cases fl with
        | nx =>
          intro σ' H' F' ok _
          cases ρ' with
          | nil => exact h.elim
          | cons u ρ' =>
            cases u with
            | io bs' =>
              obtain ⟨bs1, b1, b2⟩ := fin ok
              exact h .non bs1 F' H' ok.extB b1 b2 .non
            | un => exact h.elim
            | val _ => exact h.elim
            | own _ => exact h.elim
            | scr _ => exact h.elim
            | dct _ => exact h.elim
        | rt d =>
          intro σ' v H' F' ok _ r'
          cases ρ' with
          | nil => exact h.elim
          | cons u ρ' =>
            cases u with
            | io bs' =>
              obtain ⟨bs1, b1, b2⟩ := fin ok
              exact h v bs1 F' H' ok.extB b1 b2 r'
            | un => exact h.elim
            | val _ => exact h.elim
            | own _ => exact h.elim
            | scr _ => exact h.elim
            | dct _ => exact h.elim
        | bk => exact h.elim
        | ct => exact h.elim
        | rf _ => exact h.elim
theorem okS (Fn : Fun K x qual st f fd) (S : FnScope N ps (defScope st)) (hb : Body P w K mg base qual st f N k m) : FnOk P w K mg base (L2.CX P w) (k + 1) f fd ps (spS K ps.length (runS m N.length)) := by
  refine Fn.okX S (fun vs H Q E h => ?_) (fun cdv A outer s H vs Q E hr h => ⟨_, hb cdv A outer s H E hr, ?_⟩)
  · obtain ⟨F, a, ns, rest, ds, rfl, _, _, r, hl, _⟩ := h
    rw [List.length_cons, DpAll.length r]; exact hl
  · obtain ⟨F, a, ns, rest, ds, rfl, s', hp, r, hl, h⟩ := h
    refine ⟨_, F, _, startS_ok s' hp r (by rw [hl]; exact FnScope.le S), ?_⟩
    unfold runS at h
    cases e : m (env0S N.length ns ds) with
    | none => rw [e] at h; exact h
    | some q =>
      rw [e] at h
      cases q with
      | ex y ρ' => exact fun σ' cls z H' F' ok _ r' => h cls z F' H' ok.ext r'
      | ok fl ρ' =>
        cases fl with
        | nx => exact h.elim
        | rt d => exact h.elim
        | bk => exact h.elim
        | ct => exact h.elim
        | rf es => exact fun σ' p xs H' F' ok _ hp r' hf h0 => h p xs F' H' ok.ext h0 hf hp r'
theorem okL (Fn : Fun K x qual st f fd) (hps : ps.length = 1) (S : FnScope N ps (defScope st)) (hb : Body P w K mg base qual st f N k m) : FnOk P w K mg base (L2.CX P w) (k + 1) f fd ps (spL K (runL m N.length)) := by
  refine Fn.okX S (fun vs H Q E h => ?_) (fun cdv A outer s H vs Q E hr h => ⟨_, hb cdv A outer s H E hr, ?_⟩)
  · obtain ⟨a, ns, rfl, _⟩ := h
    rw [hps]; rfl
  · obtain ⟨a, ns, rfl, hp, h, hQ⟩ := h
    refine ⟨_, fun _ => none, _, startS_ok (F := fun _ => none) (ds := []) (fun b o e => by cases e) hp .nil (by have := FnScope.le S; rw [hps] at this; exact this), ?_⟩
    unfold runL at h
    cases e : m (env0S N.length ns []) with
    | none => rw [e] at h; cases h
    | some q =>
      rw [e] at h
      cases q with
      | ex y ρ' => cases h
      | ok fl ρ' =>
        cases fl with
        | nx => cases h
        | rt d =>
          cases h
          intro σ' v H' F' ok _ r'
          cases r'
          exact hQ H'
        | bk => cases h
        | ct => cases h
        | rf es => cases h
end
end Dd

namespace Dd
open PySem PySem.Spec L2
section
variable {X : Cx} {W : WX} {K : PySem.W.Frag}
/-! ### built-ins -/
def rOr (r r' : List V → Hp → VK → Prop) : List V → Hp → VK → Prop := fun xs H Q => r xs H Q ∨ r' xs H Q
def cOr (g g' : List D → Option D) : List D → Option D := fun ds => match g ds with
  | some d => some d
  | none => g' ds
theorem callD_or {r r' : List V → Hp → VK → Prop} {g g' : List D → Option D} (h : CallD K r g) (h' : CallD K r' g') : CallD K (rOr r r') (cOr g g') := by
  intro W c σ H F ρ xs ds d Q ok rx e q
  unfold cOr at e
  split at e
  · rename_i d' e'
    cases e
    exact .inl (h ok rx e' q)
  · exact .inr (h' ok rx e q)
theorem pk1 {H F : Hp} {xs : List V} {d : D} (h : PkAll K H F xs [d]) : ∃ x, xs = [x] ∧ Pk K H F x d := by
  cases h with
  | cons r t => cases t; exact ⟨_, rfl, r⟩
theorem pk2 {H F : Hp} {xs : List V} {d e : D} (h : PkAll K H F xs [d, e]) : ∃ x y, xs = [x, y] ∧ Pk K H F x d ∧ Pk K H F y e := by
  cases h with
  | cons r t =>
    obtain ⟨y, rfl, r'⟩ := pk1 t
    exact ⟨_, y, rfl, r, r'⟩
def lenD : List D → Option D
  | [.list ds] => some (.int (ds.length : Nat))
  | [.tuple ds] => some (.int (ds.length : Nat))
  | [.str z] => if fit z.length = true then some (.int (z.length : Nat)) else none
  | _ => none
def rLen (K : PySem.W.Frag) : List V → Hp → VK → Prop := rOr (fun xs H Q => ∃ p ys, xs = [.ref p] ∧ (SqL K H p ys ∨ SqT K H p ys) ∧ Q (.int ys.length) H) (fun xs H Q => ∃ z, xs = [.str z] ∧ z.length ≤ sizeLine ∧ Q (.int z.length) H)
theorem cr_len : CallR X (.builtin "len") (rLen X.K) := CallR.or call_len_seq call_len_str
theorem cd_len : CallD K (rLen K) lenD := by
  intro W c σ H F ρ xs ds d Q ok rx e q
  unfold lenD at e
  split at e
  · cases e
    obtain ⟨x, rfl, r⟩ := pk1 rx
    obtain ⟨p, vs, rfl, hp, dp⟩ := Pk.lst ok.sub r
    exact .inl ⟨p, vs, rfl, .inl hp, by rw [DpAll.length dp]; exact post_ok q ok _ (.int _)⟩
  · cases e
    obtain ⟨x, rfl, r⟩ := pk1 rx
    obtain ⟨p, vs, rfl, hp, dp⟩ := Pk.tup ok.sub r
    exact .inl ⟨p, vs, rfl, .inr hp, by rw [DpAll.length dp]; exact post_ok q ok _ (.int _)⟩
  · split at e
    · rename_i hf
      cases e
      obtain ⟨x, rfl, r⟩ := pk1 rx
      cases r.str
      exact .inr ⟨_, rfl, fit_le hf, post_ok q ok _ (.int _)⟩
    · cases e
  · cases e
def intD : List D → Option D
  | [.int i] => some (.int i)
  | [.bool k] => some (.int (if k then 1 else 0))
  | _ => none
theorem cd_int : CallD K (fun xs H Q => (∃ i, xs = [.int i] ∧ Q (.int i) H) ∨ ∃ k, xs = [.bl k] ∧ Q (.int (if k then 1 else 0)) H) intD := by
  intro W c σ H F ρ xs ds d Q ok rx e q
  unfold intD at e
  split at e
  · cases e
    obtain ⟨x, rfl, r⟩ := pk1 rx
    cases r.int
    exact .inl ⟨_, rfl, post_ok q ok _ (.int _)⟩
  · cases e
    obtain ⟨x, rfl, r⟩ := pk1 rx
    cases r.bool
    exact .inr ⟨_, rfl, post_ok q ok _ (.int _)⟩
  · cases e
def max2D : List D → Option D
  | [.int i, .int j] => some (.int (if j > i then j else i))
  | _ => none
def min2D : List D → Option D
  | [.int i, .int j] => some (.int (if j < i then j else i))
  | _ => none
theorem cd_max2 : CallD K (fun xs H Q => ∃ i j, xs = [.int i, .int j] ∧ Q (.int (if j > i then j else i)) H) max2D := by
  intro W c σ H F ρ xs ds d Q ok rx e q
  unfold max2D at e
  split at e
  · cases e
    obtain ⟨x, y, rfl, r, r'⟩ := pk2 rx
    cases r.int
    cases r'.int
    exact ⟨_, _, rfl, post_ok q ok _ (.int _)⟩
  · cases e
theorem cd_min2 : CallD K (fun xs H Q => ∃ i j, xs = [.int i, .int j] ∧ Q (.int (if j < i then j else i)) H) min2D := by
  intro W c σ H F ρ xs ds d Q ok rx e q
  unfold min2D at e
  split at e
  · cases e
    obtain ⟨x, y, rfl, r, r'⟩ := pk2 rx
    cases r.int
    cases r'.int
    exact ⟨_, _, rfl, post_ok q ok _ (.int _)⟩
  · cases e
def tupleD : List D → Option D
  | [.list ds] => some (.tuple ds)
  | [.tuple ds] => some (.tuple ds)
  | _ => none
theorem cd_tuple : CallD K (fun xs H Q => ∃ p ys, xs = [.ref p] ∧ ((SqL K H p ys ∧ ∀ l, H l = none → Q (.ref l) (upd H l (.tup ys))) ∨ (SqT K H p ys ∧ Q (.ref p) H))) tupleD := by
  intro W c σ H F ρ xs ds d Q ok rx e q
  unfold tupleD at e
  split at e
  · cases e
    obtain ⟨x, rfl, r⟩ := pk1 rx
    obtain ⟨p, vs, rfl, hp, dp⟩ := Pk.lst ok.sub r
    exact ⟨p, vs, rfl, .inl ⟨hp, fun l hl => new_tup ok dp q l hl⟩⟩
  · cases e
    obtain ⟨x, rfl, r⟩ := pk1 rx
    obtain ⟨p, vs, rfl, hp, dp⟩ := Pk.tup ok.sub r
    refine ⟨p, vs, rfl, .inr ⟨hp, ?_⟩⟩
    rcases r with r | ⟨_, _, _, _, e, _⟩
    · exact post_ok q ok _ r
    · cases e
  · cases e
/-- ints, bools of a list -/
def toInts : List D → Option (List Int)
  | [] => some []
  | .int i :: ds => (toInts ds).map (i :: ·)
  | _ => none
theorem toInts_eq : ∀ {ds : List D} {ns : List Int}, toInts ds = some ns → ds = ns.map PyData.int
  | [], ns, h => by cases h; rfl
  | d :: ds, ns, h => by
    cases d with
    | int i =>
      have h : (toInts ds).map (i :: ·) = some ns := h
      cases q : toInts ds with
      | none => rw [q] at h; cases h
      | some ms =>
        rw [q] at h
        cases h
        rw [toInts_eq q]; rfl
    | none => cases h
    | bool _ => cases h
    | str _ => cases h
    | list _ => cases h
    | tuple _ => cases h
    | dict _ => cases h
theorem toInts_map : ∀ (ns : List Int), toInts (ns.map PyData.int) = some ns
  | [] => rfl
  | n :: ns => by
    show (toInts (ns.map PyData.int)).map (n :: ·) = _
    rw [toInts_map ns]; rfl
def toBools : List D → Option (List Bool)
  | [] => some []
  | .bool i :: ds => (toBools ds).map (i :: ·)
  | _ => none
theorem toBools_eq : ∀ {ds : List D} {ns : List Bool}, toBools ds = some ns → ds = ns.map PyData.bool
  | [], ns, h => by cases h; rfl
  | d :: ds, ns, h => by
    cases d with
    | bool i =>
      have h : (toBools ds).map (i :: ·) = some ns := h
      cases q : toBools ds with
      | none => rw [q] at h; cases h
      | some ms =>
        rw [q] at h
        cases h
        rw [toBools_eq q]; rfl
    | none => cases h
    | int _ => cases h
    | str _ => cases h
    | list _ => cases h
    | tuple _ => cases h
    | dict _ => cases h
theorem toBools_map : ∀ (ns : List Bool), toBools (ns.map PyData.bool) = some ns
  | [] => rfl
  | n :: ns => by
    show (toBools (ns.map PyData.bool)).map (n :: ·) = _
    rw [toBools_map ns]; rfl
def sumD : List D → Option D
  | [.list ds] => (toInts ds).map fun ns => .int ns.sum
  | _ => none
def allD : List D → Option D
  | [.list ds] => (toBools ds).map fun bs => .bool (bs.all id)
  | _ => none
def anyD : List D → Option D
  | [.list ds] => (toBools ds).map fun bs => .bool (bs.any id)
  | _ => none
theorem cd_sum : CallD K (rSum K) sumD := by
  intro W c σ H F ρ xs ds d Q ok rx e q
  unfold sumD at e
  split at e
  · rename_i es
    cases q2 : toInts es with
    | none => rw [q2] at e; cases e
    | some ns =>
      rw [q2] at e
      cases e
      obtain ⟨x, rfl, r⟩ := pk1 rx
      obtain ⟨p, vs, rfl, hp, dp⟩ := Pk.lst ok.sub r
      rw [toInts_eq q2] at dp
      rw [DpAll.ints dp] at hp
      exact ⟨p, ns, rfl, hp, post_ok q ok _ (.int _)⟩
  · cases e
theorem cd_all : CallD K (rAll K) allD := by
  intro W c σ H F ρ xs ds d Q ok rx e q
  unfold allD at e
  split at e
  · rename_i es
    cases q2 : toBools es with
    | none => rw [q2] at e; cases e
    | some ns =>
      rw [q2] at e
      cases e
      obtain ⟨x, rfl, r⟩ := pk1 rx
      obtain ⟨p, vs, rfl, hp, dp⟩ := Pk.lst ok.sub r
      rw [toBools_eq q2] at dp
      rw [DpAll.bls dp] at hp
      exact ⟨p, ns, rfl, hp, post_ok q ok _ (.bl _)⟩
  · cases e
theorem cd_any : CallD K (rAny K) anyD := by
  intro W c σ H F ρ xs ds d Q ok rx e q
  unfold anyD at e
  split at e
  · rename_i es
    cases q2 : toBools es with
    | none => rw [q2] at e; cases e
    | some ns =>
      rw [q2] at e
      cases e
      obtain ⟨x, rfl, r⟩ := pk1 rx
      obtain ⟨p, vs, rfl, hp, dp⟩ := Pk.lst ok.sub r
      rw [toBools_eq q2] at dp
      rw [DpAll.bls dp] at hp
      exact ⟨p, ns, rfl, hp, post_ok q ok _ (.bl _)⟩
  · cases e
/-- repr of what is plain -/
def reprD : List D → Option D
  | [.none] => some (.str "None")
  | [.bool b] => some (.str (if b then "True" else "False"))
  | [.int i] => if i.natAbs.log2 < 1920 then some (.str (toString i)) else none
  | [.str x] => if fit (reprText x).length = true then some (.str (reprText x)) else none
  | _ => none
def rRepr : List V → Hp → VK → Prop := fun xs H Q => (xs = [.non] ∧ Q (.str "None") H) ∨ (∃ b : Bool, xs = [.bl b] ∧ Q (.str (if b then "True" else "False")) H) ∨ (∃ i : Int, xs = [.int i] ∧ i.natAbs.log2 < 1920 ∧ Q (.str (toString i)) H) ∨ ∃ x, xs = [.str x] ∧ (reprText x).length ≤ sizeLine ∧ Q (.str (reprText x)) H
theorem cr_repr : CallR X (.builtin "repr") rRepr := by
  intro pins s σ H xs us Q I r h
  rcases h with ⟨rfl, q⟩ | ⟨b, rfl, q⟩ | ⟨i, rfl, hi, q⟩ | ⟨x, rfl, hx, q⟩
  · obtain ⟨u, rfl, ru⟩ := vals1 r
    cases ru
    exact PySem.P.repr_of_none ⟨.str "None", H, I.tok _, ⟨_, rfl⟩, q⟩
  · obtain ⟨u, rfl, ru⟩ := vals1 r
    cases ru
    exact PySem.P.repr_of_bool ⟨.str _, H, I.tok _, ⟨_, rfl⟩, q⟩
  · obtain ⟨u, rfl, ru⟩ := vals1 r
    obtain ⟨t, rfl⟩ := ru
    exact PySem.P.repr_of_int hi ⟨.str _, H, I.tok _, ⟨_, rfl⟩, q⟩
  · obtain ⟨u, rfl, ru⟩ := vals1 r
    obtain ⟨t, rfl⟩ := ru
    exact PySem.P.repr_of_str ⟨.str _, H, I.tok _, ⟨_, rfl⟩, q⟩ hx
theorem cd_repr : CallD K rRepr reprD := by
  intro W c σ H F ρ xs ds d Q ok rx e q
  unfold reprD at e
  split at e
  · cases e
    obtain ⟨x, rfl, r⟩ := pk1 rx
    cases r.none
    exact .inl ⟨rfl, post_ok q ok _ (.str _)⟩
  · cases e
    obtain ⟨x, rfl, r⟩ := pk1 rx
    cases r.bool
    exact .inr (.inl ⟨_, rfl, post_ok q ok _ (.str _)⟩)
  · split at e
    · rename_i hf
      cases e
      obtain ⟨x, rfl, r⟩ := pk1 rx
      cases r.int
      exact .inr (.inr (.inl ⟨_, rfl, hf, post_ok q ok _ (.str _)⟩))
    · cases e
  · split at e
    · rename_i hf
      cases e
      obtain ⟨x, rfl, r⟩ := pk1 rx
      cases r.str
      exact .inr (.inr (.inr ⟨_, rfl, fit_le hf, post_ok q ok _ (.str _)⟩))
    · cases e
  · cases e
/-! ### isinstance -/
def typD : D → String
  | .none => "NoneType"
  | .bool _ => "bool"
  | .int _ => "int"
  | .str _ => "str"
  | .list _ => "list"
  | .tuple _ => "tuple"
  | .dict _ => "dict"
theorem typ_of {c : Ct} {σ : St} {H F : Hp} {ρ : En} (ok : Ok K c σ H F ρ) {x : V} {d : D} (r : Pk K H F x d) : TyX K H x (.type (typD d)) := by
  cases d with
  | none => cases r.none; exact .base .non
  | bool b => cases r.bool; exact .base (.bl b)
  | int i => cases r.int; exact .base (.int i)
  | str z => cases r.str; exact .base (.str z)
  | list ds =>
    obtain ⟨p, vs, rfl, hp, dp⟩ := Pk.rd ok.sub r
    rcases hp with hp | ⟨o, hp⟩
    · exact .base (.lst hp)
    · exact .base (.frz hp)
  | tuple ds =>
    obtain ⟨p, vs, rfl, hp, dp⟩ := Pk.tup ok.sub r
    rcases hp with (hp | ⟨o, hp⟩) | ⟨o, its, n, h1, h2, _⟩
    · exact .base (.tup hp)
    · exact .fTuple hp
    · exact .kTuple h1 h2
  | dict _ =>
    rcases r with r | ⟨_, _, _, _, e, _⟩
    · cases r
    · cases e
def isiT (T : String) (d : D) : Bool := match kitB (typD d) T with
  | some b => b
  | none => false
def isiOk (T : String) : Bool := (kitB "NoneType" T).isSome && (kitB "bool" T).isSome && (kitB "int" T).isSome && (kitB "str" T).isSome && (kitB "list" T).isSome && (kitB "tuple" T).isSome && (kitB "dict" T).isSome
theorem isi_kit {T : String} (h : isiOk T = true) (d : D) : PySem.W.kitOne K (.type (typD d)) (.type T) = some (isiT T d) := by
  unfold isiOk at h
  simp only [Bool.and_eq_true] at h
  obtain ⟨⟨⟨⟨⟨⟨h1, h2⟩, h3⟩, h4⟩, h5⟩, h6⟩, h7⟩ := h
  refine kit_ty ?_
  unfold isiT
  cases d <;> (unfold typD; first
    | (obtain ⟨b, e⟩ := Option.isSome_iff_exists.mp h1; rw [e])
    | (obtain ⟨b, e⟩ := Option.isSome_iff_exists.mp h2; rw [e])
    | (obtain ⟨b, e⟩ := Option.isSome_iff_exists.mp h3; rw [e])
    | (obtain ⟨b, e⟩ := Option.isSome_iff_exists.mp h4; rw [e])
    | (obtain ⟨b, e⟩ := Option.isSome_iff_exists.mp h5; rw [e])
    | (obtain ⟨b, e⟩ := Option.isSome_iff_exists.mp h6; rw [e])
    | (obtain ⟨b, e⟩ := Option.isSome_iff_exists.mp h7; rw [e]))
def mIsi (T : String) (m : M D) : M D := mBind m fun d => mPure (.bool (isiT T d))
variable {a : Expr} {m : M D} {p q pos : Pos} {tn : Str} {T : String}
theorem dIsi (hm : X.mg "isinstance" = none) (hmT : X.mg tn = none) (hT : isiOk T = true) (ha : PE X a (tP X.K W m)) (hv : bootBuiltins tn = some (.type T)) (hg : Gl X "isinstance" := by rfl) (hgT : Gl X tn := by rfl)
    (hn : tn ≠ "__name__" := by decide) (hdb : (tn == ("__debug__" : Str)) = false := by decide) (hs : starEach [a, .Name tn q] X.env = (false, eval a X.env) :: starEach [.Name tn q] X.env := by rfl) (hs2 : starEach [.Name tn q] X.env = (false, eval (.Name tn q) X.env) :: starEach [] X.env := by rfl) (hpl : (backTo pos (starEach [.Name tn q] X.env)).any (·.1) = false := by rfl)
    (hbi : bootBuiltins "isinstance" = some (.builtin "isinstance") := by decide +kernel) : PE X (.Call (.Name "isinstance" p) [a, .Name tn q] [] pos) (tE X.K W (mIsi T m)) :=
  PE.imp (pe_callB call_isi hg hm hbi (pa_cons ha (pa_cons (pe_bltn hgT hmT hv (hn := hn) (hd := hdb) (r := (show RelV (V.ty T) (Value.type T) from rfl))) pa_nil hs2) hs) (by decide) (by decide) hs hpl) (by
  rintro σ H Q ⟨c, F, ρ, ok, h⟩
  refine ⟨c, F, ρ, ok, post_mono ?_ (post_bind h)⟩
  rintro d H1 F1 _ ⟨ρ1, ok1, s1, h1⟩ v rv
  exact ⟨v, _, _, _, _, rfl, .ty T, typ_of ok1 rv, isi_kit hT d, h1 H1 F1 ok1 (Same.refl F1) _ (.bl _)⟩)
end
/-! ### a new list, not yet anyone's -/
def postN (K : PySem.W.Frag) (W : WX) (c : Ct) (σ : St) (F : Hp) (Q : VK) : Option (R (List D)) → Prop
  | none => False
  | some (.ok out ρ') => ∀ p xs H' F', Ok K (c.put p (.lst xs)) σ H' F' ρ' → c.pr p = none → Same F F' → DpAll K F' xs out → Q (.ref p) H'
  | some (.ex e ρ') => ∀ cls x H' F', Ok K c σ H' F' ρ' → Same F F' → ExR K e cls x F' H' → W cls x σ H'
def tN (K : PySem.W.Frag) (W : WX) (m : M (List D)) : TE := fun σ H Q => ∃ c F ρ, Ok K c σ H F ρ ∧ postN K W c σ F Q (m ρ)
section
variable {X : Cx} {W : WX} {K : PySem.W.Frag} {σ : St} {H F : Hp} {ρ : En} {c : Ct}
theorem postN_weak {Q : VK} {F1 : Hp} (s : Same F F1) : ∀ {r : Option (R (List D))}, postN K W c σ F Q r → postN K W c σ F1 Q r
  | some (.ok a ρ'), h => fun p xs H' F' ok hp s' => h p xs H' F' ok hp (s.trans s')
  | some (.ex e ρ'), h => fun cls x H' F' ok s' => h cls x H' F' ok (s.trans s')
theorem postN_bind {α : Type} {Q : VK} {m : M α} {f : α → M (List D)} (h : postN K W c σ F Q (mBind m f ρ)) :
    post K W c σ F (fun a H1 F1 => ∃ ρ1, Ok K c σ H1 F1 ρ1 ∧ Same F F1 ∧ postN K W c σ F1 Q (f a ρ1)) (m ρ) := by
  unfold mBind at h
  cases e : m ρ with
  | none => rw [e] at h; exact h
  | some r =>
    rw [e] at h
    cases r with
    | ok a ρ' => exact fun H' F' ok s => ⟨ρ', ok, s, postN_weak s h⟩
    | ex x ρ' => exact h
theorem new_N {Q : VK} {vs : List V} {ds : List D} (ok : Ok K c σ H F ρ) (hd : DpAll K F vs ds) (q : postN K W c σ F Q (some (.ok ds ρ))) (p : Addr) (hp : H p = none) : Q (.ref p) (upd H p (.lst vs)) :=
  q p vs _ F (ok.allocP hp) (ok.new hp).2.2.1 (Same.refl F) hd
theorem postN_lift {Q : VK} {o : Option (List D)} (h : postN K W c σ F Q (mLift o ρ)) : ∃ a, o = some a ∧ postN K W c σ F Q (some (.ok a ρ)) := by
  unfold mLift at h
  cases o with
  | none => exact h.elim
  | some a => exact ⟨a, rfl, h⟩
def mVal (m : M (List D)) : M D := mBind m fun ds => mPure (.list ds)
theorem tE_N {m : M (List D)} {Q : VK} (h : tE K W (mVal m) σ H Q) : tN K W m σ H Q := by
  obtain ⟨c, F, ρ, ok, h⟩ := h
  refine ⟨c, F, ρ, ok, ?_⟩
  unfold mVal mBind at h
  cases e : m ρ with
  | none => rw [e] at h; exact h
  | some r =>
    rw [e] at h
    cases r with
    | ex x ρ' => exact h
    | ok out ρ' =>
      intro p xs H' F' ok' hp s' r
      obtain ⟨hH, hF, h0⟩ := ok'.prt p _ upd_same
      have s : Same F' (upd F' p (.lst xs)) := Same.updN hF
      exact h H' _ (ok'.freeP hp) (s'.trans s) _ (.lst (.inl upd_same) (DpAll.mono s r))
theorem dVal {e : Expr} {m : M (List D)} (h : PE X e (tN X.K W m)) : PE X e (tE X.K W (mVal m)) := PE.imp h fun _ _ _ => tE_N
def mAsgN (m : M (List D)) (i : Nat) : M Fl := mBind m fun ds => mBind (mStoreO i ds) fun _ => mDone
theorem asgN_of {m : M (List D)} {i : Nat} {Dn : Ends} (h : tS K W (mAsgN m i) Dn σ H) : tAsg (tN K W m) (gName i) Dn σ H := by
  obtain ⟨c, F, ρ, ok, h⟩ := h
  refine ⟨c, F, ρ, ok, ?_⟩
  unfold mAsgN mBind at h
  cases e : m ρ with
  | none => rw [e] at h; exact h.elim
  | some r =>
    rw [e] at h
    cases r with
    | ex x ρ' => exact fun cls y H' F' ok s r => h σ cls y H' F' ok s r
    | ok out ρ' =>
      intro p xs H' F' ok' hp s' r
      have h5 : postS K W c F Dn (mBind (mStoreO i out) (fun _ => mDone) ρ') := h
      have h6 := postS_bindG h5
      unfold mStoreO at h6
      split at h6
      · rename_i hl
        obtain ⟨F3, ρ3, ok3, s3, h7⟩ := h6 _ H' F' (ok'.ownP hp r hl) s'
        exact h7 _ _ _ ok3 (Same.refl F3)
      · exact h6.elim
theorem dsN {i : Nat} {x : Str} {pos pos' : Pos} {e : Expr} {m : M (List D)} (hN : X.N.Nodup) (he : PE X e (tN X.K W m)) (hi : X.N[i]? = some x := by rfl) (hx : Loc X.env.scope x := by first | exact Or.inl rfl | exact Or.inr rfl)
    (hs : swapsWith e (some (.Name x pos')) pos.line X.env = pure false := by rfl)
    (hf : X.fn x = true ∨ X.env.scope.names.lookup x = some .local := by first | exact .inl rfl | exact .inr rfl) : PS X (.Assign [.Name x pos'] e pos) (tS X.K W (mAsgN m i)) := PS.imp (ps_set hN hi hx he hs hf) fun _ _ _ => asgN_of
/-- a comprehension, as a new list; on one line with its name -/
theorem comp_N {mi : M (List D)} {vs : List Nat} {g : TG} {gD : D → M Unit} {mt : M Bool} {me : M D} (hg : CTg K vs g gD) {Q : VK}
    {tt : TT} (ht : ∀ σ H Q, tT K WF mt σ H Q → tt σ H Q) (h : tN K W (mComp vs mi gD mt me) σ H Q) : tLc (tI K W mi) g tt (tE K WF me) vs σ H Q := by
  obtain ⟨c, F, ρ, ok, h⟩ := h
  refine comp_core hg ht ok ?_
  unfold mComp at h
  refine post_mono ?_ (postN_bind h)
  rintro ds H1 F1 _ ⟨ρ1, ok1, s1, h1⟩
  unfold mRest at h1
  cases q : mGo vs gD mt me ds (unsE ρ1 vs) with
  | none => rw [q] at h1; exact h1.elim
  | some r =>
    rw [q] at h1
    cases r with
    | ex x ρ' => exact h1.elim
    | ok out ρe =>
      by_cases hf : fit ds.length = true
      · simp only [if_pos hf] at h1
        exact ⟨ρ1, ok1, hf, out, ρe, q, fun p acc H2 F2 hpr ok2 s2 da => h1 p acc H2 F2 ok2 hpr s2 da⟩
      · simp only [if_neg hf] at h1
        exact h1.elim
theorem dCompN {elt iter tg : Expr} {ifs : List Expr} {scope : Scope} {own : List (Str × Nat)} {pos : Pos} {mi : M (List D)} {g : TG} {gD : D → M Unit} {mt : M Bool} {me : M D} {tt : TT} (hc : X.calm = true) (hN : X.N.Nodup) (hi : PI X tg iter (tI X.K W mi)) (ok : BlkOk X.N X.env.scope scope own)
    (hg : ∀ (s : Shared) (H : Hp) (C : Addr) (cl : List (Str × Addr)) (fp : List Addr), PG (X.blk s H scope (compEnvC scope cl C X.env) fp) tg g) (ht : ∀ (s : Shared) (H : Hp) (C : Addr) (cl : List (Str × Addr)) (fp : List Addr), PTs (X.blk s H scope (compEnvC scope cl C X.env) fp) ifs tt)
    (he : ∀ (s : Shared) (H : Hp) (C : Addr) (cl : List (Str × Addr)) (fp : List Addr), PE (X.blk s H scope (compEnvC scope cl C X.env) fp) elt (tE X.K WF me)) (hG : CTg X.K (own.map (·.2)) g gD) (hT : ∀ σ H Q, tT X.K WF mt σ H Q → tt σ H Q)
    (hs : ∀ x, foldedSetIterable iter X.env x = pure x := by exact fun _ => rfl) : PE X (.ListComp elt [⟨tg, iter, ifs, 0⟩] scope pos) (tN X.K W (mComp (own.map (·.2)) mi gD mt me)) :=
  PE.imp (pe_lc hc hN hi ok hg ht he hs) fun _ _ _ => comp_N hG hT
theorem dsCompN {i : Nat} {y : Str} {py spos : Pos} {elt iter tg : Expr} {ifs : List Expr} {scope : Scope} {own : List (Str × Nat)} {pos : Pos} {mi : M (List D)} {g : TG} {gD : D → M Unit} {mt : M Bool} {me : M D} {tt : TT} (hc : X.calm = true) (hN : X.N.Nodup)
    (hsw : swapsWith (.ListComp elt [⟨tg, iter, ifs, 0⟩] scope pos) (some (.Name y py)) spos.line X.env = pure true) (hi : PI X tg iter (tI X.K W mi)) (ok : BlkOk X.N X.env.scope scope own)
    (hg : ∀ (s : Shared) (H : Hp) (C : Addr) (cl : List (Str × Addr)) (fp : List Addr), PG (X.blk s H scope (compEnvC scope cl C X.env) fp) tg g) (ht : ∀ (s : Shared) (H : Hp) (C : Addr) (cl : List (Str × Addr)) (fp : List Addr), PTs (X.blk s H scope (compEnvC scope cl C X.env) fp) ifs tt)
    (he : ∀ (s : Shared) (H : Hp) (C : Addr) (cl : List (Str × Addr)) (fp : List Addr), PE (X.blk s H scope (compEnvC scope cl C X.env) fp) elt (tE X.K WF me)) (hG : CTg X.K (own.map (·.2)) g gD) (hT : ∀ σ H Q, tT X.K WF mt σ H Q → tt σ H Q)
    (hy : X.N[i]? = some y := by rfl) (hyl : X.env.scope.names.lookup y = some .local := by rfl)
    (hs : ∀ x, foldedSetIterable iter X.env x = pure x := by exact fun _ => rfl) : PS X (.Assign [.Name y py] (.ListComp elt [⟨tg, iter, ifs, 0⟩] scope pos) spos) (tS X.K W (mAsgN (mComp (own.map (·.2)) mi gD mt me) i)) :=
  PS.imp (ps_setLc hc hN hy hyl hsw hi ok hg ht he hs) fun Dn σ H h => by
    have q := asgN_of h
    exact comp_N hG hT q
/-- list(..), sorted(..), .. -/
def CallN (K : PySem.W.Frag) (r : List V → Hp → VK → Prop) (g : List D → Option (List D)) : Prop :=
  ∀ {W : WX} {c : Ct} {σ : St} {H F : Hp} {ρ : En} {xs : List V} {ds : List D} {out : List D} {Q : VK}, Ok K c σ H F ρ → PkAll K H F xs ds → g ds = some out → postN K W c σ F Q (some (.ok out ρ)) → r xs H Q
def mCallN1 (g : List D → Option (List D)) (m : M D) : M (List D) := mBind m fun d => mLift (g [d])
variable {a : Expr} {ma mb : M D} {x : Str} {p pos : Pos} {id T : String} {r : List V → Hp → VK → Prop} {g : List D → Option (List D)}
theorem tCBN1 (hd : CallN K r g) {Q : VK} (h : tN K W (mCallN1 g ma) σ H Q) : tCB r (tCons (tP K W ma) tNil) σ H Q := by
  obtain ⟨c, F, ρ, ok, h⟩ := h
  refine ⟨c, F, ρ, ok, post_mono ?_ (postN_bind h)⟩
  rintro d H1 F1 _ ⟨ρ1, ok1, s1, h1⟩ x rx
  obtain ⟨d', e, h2⟩ := postN_lift h1
  exact hd ok1 (.cons rx .nil) e h2
theorem dBN1 (hc : CallR X (.builtin id) r) (hd : CallN X.K r g) (hm : X.mg x = none) (hv : bootBuiltins x = some (.builtin id)) (ha : PE X a (tP X.K W ma)) (hg : Gl X x := by rfl) (hs : starEach (a :: []) X.env = (false, eval a X.env) :: starEach [] X.env := by rfl) (hn : x ≠ "__name__" := by decide) (hdb : (x == ("__debug__" : Str)) = false := by decide)
    (hpl : (backTo pos (starEach [] X.env)).any (·.1) = false := by rfl) : PE X (.Call (.Name x p) [a] [] pos) (tN X.K W (mCallN1 g ma)) :=
  PE.imp (pe_callB hc hg hm hv (pa_cons ha pa_nil hs) hn hdb hs hpl) fun _ _ _ => tCBN1 hd
theorem dTyN1 (hc : CallR X (.type T) r) (hd : CallN X.K r g) (hm : X.mg x = none) (hv : bootBuiltins x = some (.type T)) (ha : PE X a (tP X.K W ma)) (hg : Gl X x := by rfl) (hs : starEach (a :: []) X.env = (false, eval a X.env) :: starEach [] X.env := by rfl) (hn : x ≠ "__name__" := by decide) (hdb : (x == ("__debug__" : Str)) = false := by decide)
    (hpl : (backTo pos (starEach [] X.env)).any (·.1) = false := by rfl) : PE X (.Call (.Name x p) [a] [] pos) (tN X.K W (mCallN1 g ma)) :=
  PE.imp (pe_callTy hc hg hm hv (pa_cons ha pa_nil hs) hn hdb hs hpl) fun _ _ _ => tCBN1 hd
def listD : List D → Option (List D)
  | [.list ds] => some ds
  | [.tuple ds] => some ds
  | _ => none
theorem cn_list : CallN K (fun xs H Q => ∃ p ys, xs = [.ref p] ∧ (SqL K H p ys ∨ SqT K H p ys) ∧ ∀ l, H l = none → Q (.ref l) (upd H l (.lst ys))) listD := by
  intro W c σ H F ρ xs ds d Q ok rx e q
  unfold listD at e
  split at e
  · cases e
    obtain ⟨x, rfl, r⟩ := pk1 rx
    obtain ⟨p, vs, rfl, hp, dp⟩ := Pk.lst ok.sub r
    exact ⟨p, vs, rfl, .inl hp, fun l hl => new_N ok dp q l hl⟩
  · cases e
    obtain ⟨x, rfl, r⟩ := pk1 rx
    obtain ⟨p, vs, rfl, hp, dp⟩ := Pk.tup ok.sub r
    exact ⟨p, vs, rfl, .inr hp, fun l hl => new_N ok dp q l hl⟩
  · cases e
end
end Dd

namespace Dd
open PySem PySem.Spec L2
section
variable {X : Cx} {W : WX} {K : PySem.W.Frag} {σ : St} {H F : Hp} {ρ : En} {c : Ct}
/-! ### a tuple by 0, by 1 -/
theorem tuple_mul0 (l : Addr) (items : Array Value) (n : Nat) (dd : Option Addr) (sl : Array (Option Value)) (u : Tok) (c1 : items.isEmpty = false) :
    Meets (Builtin.«tuple.__mul__» ⟨[.ref l, .int 0 u], []⟩) (fun _ R s => s.heap.get? l = some { cls := .type "tuple", dict := dd, data := .seq items n, slots := sl } ∧
      R (.ok (.ret (Value.ref s.heap.objs.size))) { s with heap := s.heap.push { cls := Value.type "tuple", data := Data.seq #[] }, toks := s.toks }) :=
  .of_wp fun prog w A R s h => by
    obtain ⟨hp, g, d, tk, os⟩ := s
    obtain ⟨hl, h⟩ := h
    have f1 := AutoSeq1.idx_int
    have c1' : (items.isEmpty || (0 : Int) == 1) = false := by rw [c1]; rfl
    wp_walk using wpAny_loadPart' hl
    repeat (first
      | (refine wpAny_ite_false (decide_eq_false (by rw [c1']; exact Bool.false_ne_true)) ?_; wp_walk using wpAny_loadPart' hl))
    exact ⟨_, rfl, h⟩
theorem tuple_mul1 (l : Addr) (items : Array Value) (n : Nat) (dd : Option Addr) (sl : Array (Option Value)) (u : Tok) :
    Meets (Builtin.«tuple.__mul__» ⟨[.ref l, .int 1 u], []⟩) (fun _ R s => s.heap.get? l = some { cls := .type "tuple", dict := dd, data := .seq items n, slots := sl } ∧
      R (.ok (.ret (Value.ref l))) s) :=
  .of_wp fun prog w A R s h => by
    obtain ⟨hp, g, d, tk, os⟩ := s
    obtain ⟨hl, h⟩ := h
    have f1 := AutoSeq1.idx_int
    have c1' : (items.isEmpty || (1 : Int) == 1) = true := by simp
    wp_walk using wpAny_loadPart' hl
    repeat (first
      | (refine wpAny_ite_true (decide_eq_true (by rw [c1'])) ?_; wp_walk using wpAny_loadPart' hl))
    exact ⟨_, rfl, h⟩

def rRep01 (K : PySem.W.Frag) : R2 := fun x y H Q => ∃ l xs, x = .ref l ∧ SqT K H l xs ∧ xs ≠ [] ∧ ((y = .int 0 ∧ ∀ p, H p = none → Q (.ref p) (upd H p (.tup []))) ∨ (y = .int 1 ∧ Q (.ref l) H))
theorem op_rep01 : OpR X (binaryOp .Mult) (rRep01 X.K) := by
  intro pins s σ H vx vy v u Q I rx ry hh
  obtain ⟨l, xs, rfl, hT, hne, hh⟩ := hh
  cases rx
  obtain ⟨its, rr, ⟨⟨cls, dd, data, sl⟩, hob, hcl, n, hdt⟩, hsz⟩ := I.tuple hT
  simp only at hcl hdt
  subst hcl hdt
  have hemp : its.toArray.isEmpty = false := by
    cases its with
    | nil => exact absurd (List.eq_nil_of_length_eq_zero (by rw [rr.length]; rfl)) hne
    | cons _ _ => rfl
  rcases hh with ⟨rfl, q⟩ | ⟨rfl, q⟩
  · obtain ⟨t, rfl⟩ := ry
    refine wpAny_binaryOp_repeat_ref (T := "tuple") (U := "int") (by decide) ⟨_, hob, rfl⟩ (fun s' => typeIs_int s' 0 t) noFill_tuple_mul F.fills_int_mul F.slot_int_rmul repeat_tuple F.slot_int_index.lookup
      (call_meets F.slot_int_rmul (typeIs_int s 0 t) F.entry_int_rmul (F.args_int_rmul_2 _ _) (int_rmul_tuple 0 t l its.toArray n dd sl)
        ⟨hob, rfl, ⟨_, hob, rfl⟩, call_meets F.slot_tuple_mul ⟨_, hob, rfl⟩ F.entry_tuple_mul (F.args_tuple_mul_2 _ _) (tuple_mul0 l its.toArray n dd sl t hemp) ⟨hob, ?_⟩⟩)
    refine ⟨.ref s.heap.objs.size, _, I.laid (t' := s.toks) (o := .tup []) (fun b ob qq => Heap.get?_push_of_some _ qq) (Nat.le_refl _) ?_, rfl, q _ (I.hok.fresh (Nat.le_refl _))⟩
    exact ⟨Nat.zero_le _, [], .nil, PyProof.Rows.IsTup.new _ _⟩
  · obtain ⟨t, rfl⟩ := ry
    refine wpAny_binaryOp_repeat_ref (T := "tuple") (U := "int") (by decide) ⟨_, hob, rfl⟩ (fun s' => typeIs_int s' 1 t) noFill_tuple_mul F.fills_int_mul F.slot_int_rmul repeat_tuple F.slot_int_index.lookup
      (call_meets F.slot_int_rmul (typeIs_int s 1 t) F.entry_int_rmul (F.args_int_rmul_2 _ _) (int_rmul_tuple 1 t l its.toArray n dd sl)
        ⟨hob, rfl, ⟨_, hob, rfl⟩, call_meets F.slot_tuple_mul ⟨_, hob, rfl⟩ F.entry_tuple_mul (F.args_tuple_mul_2 _ _) (tuple_mul1 l its.toArray n dd sl t) ⟨hob, ?_⟩⟩)
    exact ⟨.ref l, H, I.tok _, rfl, q⟩
def repT : D → D → Option D
  | .tuple ds, .int k => if ds.isEmpty = true then none else if k = 0 then some (.tuple []) else if k = 1 then some (.tuple ds) else none
  | _, _ => none
theorem opD_repT : OpD K (rRep01 K) repT := by
  intro W c σ H F ρ x y a b d Q ok rx ry e q
  unfold repT at e
  split at e
  · rename_i ds k
    obtain ⟨p, vs, rfl, hp, dp⟩ := Pk.tup ok.sub rx
    by_cases he : ds.isEmpty = true
    · rw [if_pos he] at e; cases e
    · rw [if_neg he] at e
      have hne : vs ≠ [] := fun z => by
        subst z
        cases dp
        exact he rfl
      by_cases h0 : k = 0
      · rw [if_pos h0] at e
        cases e
        subst h0
        exact ⟨p, vs, rfl, hp, hne, .inl ⟨ry.int, fun l hl => new_tup ok .nil q l hl⟩⟩
      · rw [if_neg h0] at e
        by_cases h1 : k = 1
        · rw [if_pos h1] at e
          cases e
          subst h1
          refine ⟨p, vs, rfl, hp, hne, .inr ⟨ry.int, ?_⟩⟩
          rcases rx with rx | ⟨_, _, _, _, e, _⟩
          · exact post_ok q ok _ rx
          · cases e
        · rw [if_neg h1] at e
          cases e
  · cases e
/-- a list by an int -/
theorem DpAll.rep {vs : List V} {ds : List D} (h : DpAll K F vs ds) : ∀ k : Nat, DpAll K F (List.replicate k vs).flatten (List.replicate k ds).flatten
  | 0 => .nil
  | k + 1 => by
    rw [List.replicate_succ, List.replicate_succ, List.flatten_cons, List.flatten_cons]
    exact DpAll.append h (DpAll.rep h k)
def repLD : D → D → Option (List D)
  | .list ds, .int k => if (decide (k.natAbs < 9223372036854775808) && fit (ds.length * k.toNat)) = true then some (List.replicate k.toNat ds).flatten else none
  | _, _ => none
/-- [..] * k: the list is a display -/
def mRepN (ms : M (List D)) (mk : M D) : M (List D) := mBind ms fun ds => mBind (mLift (if fit ds.length = true then some ds else none)) fun ds => mBind mk fun k => mLift (repLD (.list ds) k)
theorem ok_unput {p : Addr} {o : HO} (ok : Ok K (c.put p o) σ H F ρ) (hp : c.pr p = none) : Ok K c σ H F ρ := by
  have nown : ∀ {q : Addr}, (c.put p o).pr q = none → q ≠ p := fun {q} a z => by
    subst z
    have a' : upd c.pr q o q = none := a
    rw [upd_same] at a'; cases a'
  refine ⟨ok.len, ok.sub, ok.ge, ok.fe, ok.keep, fun q e => ?_, fun b u e => ?_, ok.val, fun j es e => ?_, ok.ios, ok.scr, ok.sep, ok.dcs.tr (Same.refl F) fun q ws a1 a2 a3 a4 => ⟨a1, a2, (upd_ne (nown a4)).symm.trans a4⟩⟩
  · obtain ⟨a1, a2, a3, a4⟩ := ok.iod q e
    exact ⟨a1, a2, (upd_ne (nown a3)).symm.trans a3, a4⟩
  · have ne : b ≠ p := fun z => by subst z; rw [hp] at e; cases e
    exact ok.prt b u ((upd_ne ne).trans e)
  · obtain ⟨q, vs, a1, a2, a3, a4, a5, a6⟩ := ok.own j es e
    exact ⟨q, vs, a1, a2, a3, a4, a5, (upd_ne (nown a6)).symm.trans a6⟩
theorem rep_of {ms : M (List D)} {mk : M D} {Q : VK} (h : tN K W (mRepN ms mk) σ H Q) : tOp rRep (tLst (tA K W ms)) (tE K W mk) σ H Q := by
  obtain ⟨c, F, ρ, ok, h⟩ := h
  refine ⟨c, F, ρ, ok, post_mono ?_ (postN_bind h)⟩
  rintro ds H1 F1 _ ⟨ρ1, ok1, s1, h1⟩ xs rx
  obtain ⟨ds', e, h2⟩ := post_lift (postN_bind h1)
  split at e
  · rename_i hf
    cases e
    refine ⟨by rw [DpAll.length rx]; exact fit_le hf, fun p hp => ?_⟩
    obtain ⟨ρ2, ok2, s2, h3⟩ := h2 H1 F1 ok1 (Same.refl F1)
    have hpr := (ok2.new hp).2.2.1
    refine ⟨c.put p (.lst xs), F1, ρ2, ok2.allocP hp, ?_⟩
    have h4 := postN_bind h3
    cases e2 : mk ρ2 with
    | none => rw [e2] at h4; exact h4.elim
    | some r =>
      rw [e2] at h4
      cases r with
      | ex y ρ3 => exact fun cls z H' F' ok' s' r => h4 cls z H' F' (ok_unput ok' hpr) s' r
      | ok kd ρ3 =>
        intro H' F' ok' s' kv rk
        obtain ⟨ρ4, ok4, s4, h5⟩ := h4 H' F' (ok_unput ok' hpr) s'
        obtain ⟨out, e3, h6⟩ := postN_lift h5
        cases kd with
        | int k =>
          cases rk
          unfold repLD at e3
          simp only at e3
          split at e3
          · rename_i hb
            cases e3
            simp only [Bool.and_eq_true] at hb
            refine ⟨p, k, xs, rfl, rfl, (ok'.prt p _ upd_same).1, by have := of_decide_eq_true hb.1; omega, by have := of_decide_eq_true hb.1; omega, by rw [DpAll.length rx]; exact fit_le hb.2, fun l hl => ?_⟩
            exact new_N ok4 (DpAll.rep (DpAll.mono s' rx) k.toNat) h6 l hl
          · cases e3
        | none => cases e3
        | bool _ => cases e3
        | str _ => cases e3
        | list _ => cases e3
        | tuple _ => cases e3
        | dict _ => cases e3
  · cases e
theorem dRepN {es : List Expr} {lp pos : Pos} {b : Expr} {ms : M (List D)} {mk : M D} (ha : PA X es (tA X.K W ms)) (hb : PE X b (tE X.K W mk)) : PE X (.BinOp (.List es lp) .Mult b pos) (tN X.K W (mRepN ms mk)) := PE.imp (pe_op op_rep (pe_lst ha) hb) fun _ _ _ => rep_of
def mulD : D → D → Option D := oOr mulI repT
def rMulA (K : PySem.W.Frag) : R2 := fun x y H Q => rI CMul (fun i j => .int (i * j)) x y H Q ∨ rRep01 K x y H Q
theorem opD_mul : OpD K (rMulA K) mulD := opD_or (opD_Ic cMul_ok fun _ _ _ => .int _) opD_repT
theorem or_mulA : OpR X (binaryOp .Mult) (rMulA X.K) := OpR.or op_mul op_rep01
/-! ### a, b = x, y -/
variable {i j : Nat} {x y : Str} {a b : Expr} {ma mb : M D} {px py pt pos : Pos} {kt k2 : Nat} {pt2 : Pos}
def mParEE (i j : Nat) (ma mb : M D) : M Fl := mBind ma fun a => mBind mb fun b => mBind (mStore i a) fun _ => mBind (mStore j b) fun _ => mDone
theorem parEE_of {Dn : Ends} (h : tS K W (mParEE i j ma mb) Dn σ H) : tPar i j (tCons (tE K W ma) (tCons (tE K W mb) tNil)) Dn σ H := by
  obtain ⟨c, F, ρ, ok, h⟩ := h
  refine ⟨c, F, ρ, ok, post_mono ?_ (postS_bind h)⟩
  rintro d1 H1 F1 _ ⟨ρ1, ok1, s1, h1⟩ v1 r1
  refine ⟨c, F1, ρ1, ok1, post_mono ?_ (postS_bind h1)⟩
  rintro d2 H2 F2 _ ⟨ρ2, ok2, s2, h2⟩ v2 r2
  refine ⟨v1, v2, rfl, ?_⟩
  have h3 := postS_bindG h2
  unfold mStore at h3
  split at h3
  · rename_i hl
    obtain ⟨F3, ρ3, ok3, s3, h4⟩ := h3 _ H2 F2 (ok2.setV hl (Dp.mono s2 r1)) (Same.refl F2)
    have h5 := postS_bindG h4
    unfold mStore at h5
    split at h5
    · rename_i hl2
      obtain ⟨F4, ρ4, ok4, s4, h6⟩ := h5 _ H2 F3 (ok3.setV hl2 (Dp.mono s3 r2)) (Same.refl F3)
      exact h6 _ _ _ ok4 (Same.refl F4)
    · exact h5.elim
  · exact h3.elim
theorem dParEE (hc : X.calm = true) (hN : X.N.Nodup) (hij : i ≠ j) (ha : PE X a (tE X.K W ma)) (hb : PE X b (tE X.K W mb)) (hi : X.N[i]? = some x := by rfl) (hj : X.N[j]? = some y := by rfl)
    (hx : X.env.scope.names.lookup x = some .local := by rfl) (hy : X.env.scope.names.lookup y = some .local := by rfl)
    (hw : swappedStores [.Tuple [.Name x px, .Name y py] kt pt] (.Tuple [a, b] k2 pt2) X.env = pure (some [x, y]) := by rfl)
    (hs : swapsWithSole [.Tuple [.Name x px, .Name y py] kt pt] (.Tuple [a, b] k2 pt2) pos.line X.env = pure false := by rfl)
    (hs1 : starEach [a, b] X.env = (false, eval a X.env) :: starEach [b] X.env := by rfl) (hs2 : starEach [b] X.env = (false, eval b X.env) :: starEach [] X.env := by rfl) :
    PS X (.Assign [.Tuple [.Name x px, .Name y py] kt pt] (.Tuple [a, b] k2 pt2) pos) (tS X.K W (mParEE i j ma mb)) :=
  PS.imp (ps_par hc hN hi hj hij hx hy (pa_cons ha (pa_cons hb pa_nil hs2) hs1) hw hs) fun _ _ _ => parEE_of
/-- .. the second a new list -/
def mParEN (i j : Nat) (ma : M D) (mb : M (List D)) : M Fl := mBind ma fun a => mBind mb fun b => mBind (mStore i a) fun _ => mBind (mStoreO j b) fun _ => mDone
theorem parEN_of {mn : M (List D)} {Dn : Ends} (h : tS K W (mParEN i j ma mn) Dn σ H) : tPar i j (tCons (tE K W ma) (tCons (tN K W mn) tNil)) Dn σ H := by
  obtain ⟨c, F, ρ, ok, h⟩ := h
  refine ⟨c, F, ρ, ok, post_mono ?_ (postS_bind h)⟩
  rintro d1 H1 F1 _ ⟨ρ1, ok1, s1, h1⟩ v1 r1
  refine ⟨c, F1, ρ1, ok1, ?_⟩
  unfold mBind at h1
  cases e : mn ρ1 with
  | none => rw [e] at h1; exact h1.elim
  | some r =>
    rw [e] at h1
    cases r with
    | ex y ρ' => exact fun cls z H' F' ok s r => h1 σ cls z H' F' ok s r
    | ok out ρ2 =>
      intro p xs H' F' ok' hp s' rx
      refine ⟨v1, .ref p, rfl, ?_⟩
      have h2 : postS K W c F1 Dn (mBind (mStore i d1) (fun _ => mBind (mStoreO j out) fun _ => mDone) ρ2) := h1
      have h3 := postS_bindG h2
      unfold mStore at h3
      split at h3
      · rename_i hl
        have okA := ok'.setV hl (Dp.mono s' r1)
        have h4 : postS K W c F1 Dn (mBind (mStoreO j out) (fun _ => mDone) (ρ2.set i (.val d1))) := by
          unfold mBind mStore at h2
          simp only [if_pos hl] at h2
          exact h2
        have h5 := postS_bindG h4
        unfold mStoreO at h5
        split at h5
        · rename_i hl2
          obtain ⟨F4, ρ4, ok4, s4, h6⟩ := h5 _ H' F' (okA.ownP hp rx hl2) s'
          exact h6 _ _ _ ok4 (Same.refl F4)
        · exact h5.elim
      · exact h3.elim
theorem dParEN {mn : M (List D)} (hc : X.calm = true) (hN : X.N.Nodup) (hij : i ≠ j) (ha : PE X a (tE X.K W ma)) (hb : PE X b (tN X.K W mn)) (hi : X.N[i]? = some x := by rfl) (hj : X.N[j]? = some y := by rfl)
    (hx : X.env.scope.names.lookup x = some .local := by rfl) (hy : X.env.scope.names.lookup y = some .local := by rfl)
    (hw : swappedStores [.Tuple [.Name x px, .Name y py] kt pt] (.Tuple [a, b] k2 pt2) X.env = pure (some [x, y]) := by rfl)
    (hs : swapsWithSole [.Tuple [.Name x px, .Name y py] kt pt] (.Tuple [a, b] k2 pt2) pos.line X.env = pure false := by rfl)
    (hs1 : starEach [a, b] X.env = (false, eval a X.env) :: starEach [b] X.env := by rfl) (hs2 : starEach [b] X.env = (false, eval b X.env) :: starEach [] X.env := by rfl) :
    PS X (.Assign [.Tuple [.Name x px, .Name y py] kt pt] (.Tuple [a, b] k2 pt2) pos) (tS X.K W (mParEN i j ma mn)) :=
  PS.imp (ps_par hc hN hi hj hij hx hy (pa_cons ha (pa_cons hb pa_nil hs2) hs1) hw hs) fun _ _ _ => parEN_of
/-- a new list, written -/
theorem dLstN {es : List Expr} {ms : M (List D)} {pos : Pos} (h : PA X es (tA X.K W ms)) : PE X (.List es pos) (tN X.K W (mBind ms fun ds => mLift (if fit ds.length = true then some ds else none))) := PE.imp (pe_lst h) (by
  rintro σ H Q ⟨c, F, ρ, ok, h⟩
  refine ⟨c, F, ρ, ok, post_mono ?_ (postN_bind h)⟩
  rintro ds H1 F1 _ ⟨ρ1, ok1, s1, h1⟩ xs rx
  obtain ⟨d, e, h2⟩ := postN_lift h1
  split at e
  · rename_i hf
    cases e
    exact ⟨by rw [DpAll.length rx]; exact fit_le hf, fun p hp => new_N ok1 rx h2 p hp⟩
  · cases e)
end
/-! ### calls, in short -/
section
variable {X : Cx} {W : WX} {k n : Nat} {f : Addr} {fd : FuncData} {ps : List Str} {x : Str} {p pos : Pos} {e : Expr} {es : List Expr} {ms : M (List D)}
theorem dCallV {g : List D → Option (Rs D)} (F : FnOk X.prog X.w X.K X.mg X.base (L2.CX X.prog X.w) k f fd ps (spV X.K n g)) (hr : Room k X.A) (hm : X.mg x = some (.ref f)) (hk : PySem.W.keepIn X.K (.ref f) = true) (hb : Binds X.K fd ps []) (tk : Takes X W)
    (ha : PA X (e :: es) (tA X.K W ms)) (hg : Gl X x := by rfl) (hdb : (x == ("__debug__" : Str)) = false := by decide) (he : starEach (e :: es) X.env = (false, eval e X.env) :: starEach es X.env := by rfl) (hpl : (backTo pos (starEach es X.env)).any (·.1) = false := by rfl) :
    PE X (.Call (.Name x p) (e :: es) [] pos) (tE X.K W (mCallV n g ms)) := PE.imp (pe_callS F hr hg hm hk hb (fun σ => passAt tk σ) ha hdb he hpl) fun _ _ _ => callV_of
theorem dCallB {i : Nat} {g : List D → List D → Option (Rs D × List D)} (F : FnOk X.prog X.w X.K X.mg X.base (L2.CX X.prog X.w) k f fd ps (spB X.K n g)) (hr : Room k X.A) (hm : X.mg x = some (.ref f)) (hk : PySem.W.keepIn X.K (.ref f) = true) (hb : Binds X.K fd ps []) (tk : Takes X W)
    (h1 : PE X e (tVar i)) (ha : PA X es (tA X.K W ms)) (hg : Gl X x := by rfl) (hdb : (x == ("__debug__" : Str)) = false := by decide) (he : starEach (e :: es) X.env = (false, eval e X.env) :: starEach es X.env := by rfl) (hpl : (backTo pos (starEach es X.env)).any (·.1) = false := by rfl) :
    PE X (.Call (.Name x p) (e :: es) [] pos) (tE X.K W (mCallB i n g ms)) := PE.imp (pe_callS F hr hg hm hk hb (fun σ => passAt tk σ) (pa_cons h1 ha he) hdb he hpl) fun _ _ _ => callB_of
theorem dCallSt {i j : Nat} {y : Str} {pos' spos : Pos} {g : List Int → List D → Option (Rs (List D))} (F : FnOk X.prog X.w X.K X.mg X.base (L2.CX X.prog X.w) k f fd ps (spS X.K n g)) (hr : Room k X.A) (hm : X.mg x = some (.ref f)) (hk : PySem.W.keepIn X.K (.ref f) = true) (hb : Binds X.K fd ps []) (tk : Takes X W) (hN : X.N.Nodup)
    (h1 : PE X e (tVar j)) (ha : PA X es (tA X.K W ms)) (hg : Gl X x := by rfl) (hdb : (x == ("__debug__" : Str)) = false := by decide) (he : starEach (e :: es) X.env = (false, eval e X.env) :: starEach es X.env := by rfl) (hpl : (backTo pos (starEach es X.env)).any (·.1) = false := by rfl)
    (hi : X.N[i]? = some y := by rfl) (hx : Loc X.env.scope y := by first | exact Or.inl rfl | exact Or.inr rfl)
    (hs : swapsWith (.Call (.Name x p) (e :: es) [] pos) (some (.Name y pos')) spos.line X.env = pure false := by rfl)
    (hf : X.fn y = true ∨ X.env.scope.names.lookup y = some .local := by first | exact .inl rfl | exact .inr rfl) :
    PS X (.Assign [.Name y pos'] (.Call (.Name x p) (e :: es) [] pos) spos) (tS X.K W (mAsgS i j n g ms)) := PS.imp (ps_set hN hi hx (pe_callS F hr hg hm hk hb (fun σ => passAt tk σ) (pa_cons h1 ha he) hdb he hpl) hs hf) fun _ _ _ => asgS_of
end
theorem hCX0 {P : Program} {w : World} {H : Hp} {s : Shared} {e : Value} {s' : Shared} (h : L2.CX P w [] H s (fun _ _ _ => False) e s') : False := by
  obtain ⟨_, _, _, _, _, _, _, _, _, _, _, _, z⟩ := h
  exact z
theorem b_len : bootBuiltins "len" = some (.builtin "len") := by decide +kernel
theorem b_int : bootBuiltins "int" = some (.type "int") := by decide +kernel
theorem b_bool : bootBuiltins "bool" = some (.type "bool") := by decide +kernel
theorem b_str : bootBuiltins "str" = some (.type "str") := by decide +kernel
theorem b_tuple : bootBuiltins "tuple" = some (.type "tuple") := by decide +kernel
theorem b_list : bootBuiltins "list" = some (.type "list") := by decide +kernel
theorem b_dict : bootBuiltins "dict" = some (.type "dict") := by decide +kernel
theorem b_sum : bootBuiltins "sum" = some (.builtin "sum") := by decide +kernel
theorem b_all : bootBuiltins "all" = some (.builtin "all") := by decide +kernel
theorem b_any : bootBuiltins "any" = some (.builtin "any") := by decide +kernel
theorem b_min : bootBuiltins "min" = some (.builtin "min") := by decide +kernel
theorem b_max : bootBuiltins "max" = some (.builtin "max") := by decide +kernel
theorem b_repr : bootBuiltins "repr" = some (.builtin "repr") := by decide +kernel
theorem b_sorted : bootBuiltins "sorted" = some (.builtin "sorted") := by decide +kernel
theorem i_int : isiOk "int" = true := by decide +kernel
theorem i_bool : isiOk "bool" = true := by decide +kernel
theorem i_str : isiOk "str" = true := by decide +kernel
theorem i_tuple : isiOk "tuple" = true := by decide +kernel
theorem i_list : isiOk "list" = true := by decide +kernel
theorem i_dict : isiOk "dict" = true := by decide +kernel
end Dd

namespace Dd
open PySem PySem.Spec L2
def gsNil : List D → M Unit
  | [] => mPure ()
  | _ => mStuck
def mLstN (ms : M (List D)) : M (List D) := mBind ms fun ds => mLift (if fit ds.length = true then some ds else none)
section
variable {X : Cx} {W : WX} {K : PySem.W.Frag}
theorem dgsNil2 : PGs X [] (tGs X.K W gsNil) := PGs.imp pgs_nil (by
  rintro vs σ H Q ⟨c, F, ρ, ds, ok, r, h⟩
  cases r with
  | nil => exact ⟨rfl, h σ H F ok (Same.refl F)⟩
  | cons _ _ => exact h.elim)
def insD : List D → List D → Option (List D × D)
  | ds, [.int i, d] => if (fit ds.length && decide (0 ≤ i) && decide (i.natAbs < 9223372036854775808)) = true then some (ds.take i.toNat ++ [d] ++ ds.drop i.toNat, .none) else none
  | _, _ => none
def rIns : V → List V → Hp → VK → Prop := fun x vs H Q => ∃ (l : Addr) (xs : List V) (i : Int) (y : V), x = .ref l ∧ vs = [.int i, y] ∧ H l = some (.lst xs) ∧ xs.length < sizeLine ∧ 0 ≤ i ∧ i < 2 ^ 63 ∧ Q .non (upd H l (.lst (xs.take i.toNat ++ [y] ++ xs.drop i.toNat)))
theorem mut_ins : MutD K rIns insD := by
  intro H F l xs vs ds as ds' d Q s hF hl hx hv e k
  unfold insD at e
  split at e
  · rename_i i y
    split at e
    · rename_i hb
      cases e
      simp only [Bool.and_eq_true] at hb
      cases hv with
      | cons h t =>
        cases t with
        | cons h' t' =>
          cases t'
          cases h
          exact ⟨l, xs, i, _, rfl, rfl, hl, by rw [DpAll.length hx]; exact fit_lt hb.1.1, of_decide_eq_true hb.1.2, by have := of_decide_eq_true hb.2; omega, k _ _ (DpAll.append (DpAll.append (DpAll.take _ hx) (.one h')) (DpAll.drop _ hx)) .non⟩
    · cases e
  · cases e
theorem opD_addI : OpD K (rI0 fun i j => .int (i + j)) (iI fun i j => .int (i + j)) := opD_I fun _ _ _ => .int _
end
end Dd

namespace Dd
open PySem PySem.Spec L2
/-! ### a def by its body, its scope and its statements spelled out -/
section
variable {P : Program} {w : World} {K : PySem.W.Frag} {mg : Str → Option Value} {base : Heap} {x qual : Str} {st : Stmt} {f : Addr} {fd : FuncData} {N ps : List Str} {k : Nat} {m : M Fl} {sc : Scope} {bd : List Stmt}
abbrev BodyL (P : Program) (w : World) (K : PySem.W.Frag) (mg : Str → Option Value) (base : Heap) (qual : Str) (sc : Scope) (bd : List Stmt) (f : Addr) (N : List Str) (k : Nat) (m : M Fl) : Prop :=
  ∀ (cdv : Value) (A : Around) (outer : List Env) (s : Shared) (H : Hp) (E : XK), Room k (A.deeper (PyProof.Rows.envOfC qual sc s.heap.objs.size f cdv)) →
    PSs (cxOf (L2.CX P w) P w K mg base N qual sc f cdv A outer s H E) bd (tS K (fun cls d _ H => E cls d H) m)
theorem okV2 (Fn : Fun K x qual st f fd) (S : FnScope N ps (defScope st)) (h1 : defScope st = sc) (h2 : defBody st = bd) (hb : BodyL P w K mg base qual sc bd f N k m) : FnOk P w K mg base (L2.CX P w) (k + 1) f fd ps (spV K ps.length (runV m N.length)) := by
  subst h1 h2
  exact okV Fn S hb
theorem okF2 (Fn : Fun K x qual st f fd) (S : FnScope N ps (defScope st)) (h1 : defScope st = sc) (h2 : defBody st = bd) (hb : BodyL P w K mg base qual sc bd f N k m) : FnOk P w K mg base (L2.CX P w) (k + 1) f fd ps (spF K ps.length (runF m N.length)) := by
  subst h1 h2
  exact okF Fn S hb
theorem okB2 (Fn : Fun K x qual st f fd) (S : FnScope N ps (defScope st)) (h1 : defScope st = sc) (h2 : defBody st = bd) (hb : BodyL P w K mg base qual sc bd f N k m) : FnOk P w K mg base (L2.CX P w) (k + 1) f fd ps (spB K ps.length (runB m N.length)) := by
  subst h1 h2
  exact okB Fn S hb
theorem okS2 (Fn : Fun K x qual st f fd) (S : FnScope N ps (defScope st)) (h1 : defScope st = sc) (h2 : defBody st = bd) (hb : BodyL P w K mg base qual sc bd f N k m) : FnOk P w K mg base (L2.CX P w) (k + 1) f fd ps (spS K ps.length (runS m N.length)) := by
  subst h1 h2
  exact okS Fn S hb
theorem okL2 (Fn : Fun K x qual st f fd) (hps : ps.length = 1) (S : FnScope N ps (defScope st)) (h1 : defScope st = sc) (h2 : defBody st = bd) (hb : BodyL P w K mg base qual sc bd f N k m) : FnOk P w K mg base (L2.CX P w) (k + 1) f fd ps (spL K (runL m N.length)) := by
  subst h1 h2
  exact okL Fn hps S hb
end
end Dd

namespace Dd
open PySem PySem.Spec L2
/-! ### reasoning about runs -/
theorem bind_is {α β : Type} {m : M α} {f : α → M β} {ρ ρ' : En} {a : α} (h : m ρ = some (.ok a ρ')) : mBind m f ρ = f a ρ' := by
  unfold mBind; rw [h]
theorem seq_nx {m1 m2 : M Fl} {ρ ρ' : En} (h : m1 ρ = some (.ok .nx ρ')) : mSeq m1 m2 ρ = m2 ρ' := bind_is h
/-- a loop by an invariant over its turns; no turn leaves it -/
theorem forL_ix {g : D → M Unit} {body : M Fl} (P : Nat → En → Prop) : ∀ (ds : List D) (i : Nat) (ρ : En), P i ρ →
    (∀ j d ρ, ds[j]? = some d → P (i + j) ρ → ∃ ρ1 ρ2, g d ρ = some (.ok () ρ1) ∧ (body ρ1 = some (.ok .nx ρ2) ∨ body ρ1 = some (.ok .ct ρ2)) ∧ P (i + j + 1) ρ2) →
    ∃ ρ', mForL g body ds ρ = some (.ok .nx ρ') ∧ P (i + ds.length) ρ'
  | [], i, ρ, p, _ => ⟨ρ, rfl, p⟩
  | d :: ds, i, ρ, p, h => by
    obtain ⟨ρ1, ρ2, e1, e2, p2⟩ := h 0 d ρ rfl p
    obtain ⟨ρ', e3, p3⟩ := forL_ix P ds (i + 1) ρ2 p2 fun j d' ρ' e q => by
      obtain ⟨a, b, c1, c2, c3⟩ := h (j + 1) d' ρ' (by simpa using e) (by rw [show i + (j + 1) = i + 1 + j from by omega]; exact q)
      exact ⟨a, b, c1, c2, by rw [show i + 1 + j + 1 = i + (j + 1) + 1 from by omega]; exact c3⟩
    refine ⟨ρ', ?_, by rw [List.length_cons, show i + (ds.length + 1) = i + 1 + ds.length from by omega]; exact p3⟩
    unfold mForL
    rw [bind_is e1]
    rcases e2 with e2 | e2 <;> (rw [bind_is e2]; exact e3)
theorem forL_inv {g : D → M Unit} {body : M Fl} (P : En → Prop) (ds : List D) (ρ : En) (p : P ρ)
    (h : ∀ d ρ, d ∈ ds → P ρ → ∃ ρ1 ρ2, g d ρ = some (.ok () ρ1) ∧ (body ρ1 = some (.ok .nx ρ2) ∨ body ρ1 = some (.ok .ct ρ2)) ∧ P ρ2) :
    ∃ ρ', mForL g body ds ρ = some (.ok .nx ρ') ∧ P ρ' := by
  obtain ⟨ρ', e, q⟩ := forL_ix (fun _ => P) ds 0 ρ p fun j d ρ e q => h d ρ (List.mem_of_getElem? e) q
  exact ⟨ρ', e, q⟩
/-- a comprehension whose turns leave the slots as they were -/
theorem go_filter {vs : List Nat} {g : D → M Unit} {tt : M Bool} {te : M D} {ρ : En} {p : D → Bool} {f : D → D} : ∀ (ds : List D),
    (∀ d ∈ ds, ∃ ρ1 ρ2, g d ρ = some (.ok () ρ1) ∧ tt ρ1 = some (.ok (p d) ρ2) ∧ (p d = true → ∃ ρ3, te ρ2 = some (.ok (f d) ρ3) ∧ unsE ρ3 vs = ρ) ∧ (p d = false → unsE ρ2 vs = ρ)) →
    mGo vs g tt te ds ρ = some (.ok ((ds.filter p).map f) ρ)
  | [], _ => rfl
  | d :: ds, h => by
    obtain ⟨ρ1, ρ2, e1, e2, h3, h4⟩ := h d List.mem_cons_self
    have ih := go_filter (vs := vs) (g := g) (tt := tt) (te := te) ds fun d' h' => h d' (List.mem_cons_of_mem _ h')
    unfold mGo
    rw [bind_is e1, bind_is e2]
    cases q : p d with
    | true =>
      obtain ⟨ρ3, e3, e4⟩ := h3 q
      rw [if_pos rfl]
      have e5 : (mBind te fun y => mPure [y]) ρ2 = some (.ok [f d] ρ3) := by rw [bind_is e3]; rfl
      rw [bind_is e5]
      have e6 : mUn_ vs ρ3 = some (.ok () ρ) := by unfold mUn_; rw [e4]
      rw [bind_is e6, bind_is ih, List.filter_cons_of_pos q]; rfl
    | false =>
      rw [if_neg (by decide)]
      have e5 : (mPure ([] : List D)) ρ2 = some (.ok [] ρ2) := rfl
      rw [bind_is e5]
      have e6 : mUn_ vs ρ2 = some (.ok () ρ) := by unfold mUn_; rw [h4 q]
      rw [bind_is e6, bind_is ih, List.filter_cons_of_neg (by rw [q]; decide)]; rfl
theorem go_map {vs : List Nat} {g : D → M Unit} {te : M D} {ρ : En} {f : D → D} (ds : List D)
    (h : ∀ d ∈ ds, ∃ ρ1 ρ3, g d ρ = some (.ok () ρ1) ∧ te ρ1 = some (.ok (f d) ρ3) ∧ unsE ρ3 vs = ρ) :
    mGo vs g (mPure true) te ds ρ = some (.ok (ds.map f) ρ) := by
  have q := go_filter (vs := vs) (g := g) (tt := mPure true) (te := te) (ρ := ρ) (p := fun _ => true) (f := f) ds fun d hd => by
    obtain ⟨ρ1, ρ3, e1, e2, e3⟩ := h d hd
    exact ⟨ρ1, ρ1, e1, rfl, fun _ => ⟨ρ3, e2, e3⟩, fun z => by cases z⟩
  rw [q, List.filter_eq_self.mpr (fun _ _ => rfl)]
theorem comp_is {vs : List Nat} {mi : M (List D)} {g : D → M Unit} {tt : M Bool} {te : M D} {ρ ρ1 ρe : En} {ds out : List D} (h1 : mi ρ = some (.ok ds ρ1)) (h2 : fit ds.length = true) (h3 : mGo vs g tt te ds (unsE ρ1 vs) = some (.ok out ρe)) :
    mComp vs mi g tt te ρ = some (.ok out (unsE ρe vs)) := by
  unfold mComp
  rw [bind_is h1]
  unfold mRest
  rw [h3]
  simp only [if_pos h2]
theorem atI_nat' {α : Type} {xs : List α} {i : Int} {v : α} (h0 : 0 ≤ i) (h : xs[i.toNat]? = some v) : atI xs i = some v := by
  have := atI_nat h
  rwa [Int.toNat_of_nonneg h0] at this
theorem rngL_mem {lo hi : Int} {d : D} (h : d ∈ rngL lo hi) : ∃ i : Int, d = .int i ∧ lo ≤ i ∧ i < hi := by
  obtain ⟨i, e⟩ := List.getElem?_of_mem h
  obtain ⟨e1, e2⟩ := rngL_get e
  exact ⟨_, e1, by omega, by omega⟩
def isiS (T t : String) : Bool := match kitB t T with
  | some b => b
  | none => false
theorem isiT_eq {T : String} {d : D} : isiT T d = isiS T (typD d) := rfl
theorem isi_int_NoneType : isiS "int" "NoneType" = false := by decide +kernel
theorem isi_int_bool : isiS "int" "bool" = true := by decide +kernel
theorem isi_int_int : isiS "int" "int" = true := by decide +kernel
theorem isi_int_str : isiS "int" "str" = false := by decide +kernel
theorem isi_int_list : isiS "int" "list" = false := by decide +kernel
theorem isi_int_tuple : isiS "int" "tuple" = false := by decide +kernel
theorem isi_int_dict : isiS "int" "dict" = false := by decide +kernel
theorem isi_bool_NoneType : isiS "bool" "NoneType" = false := by decide +kernel
theorem isi_bool_bool : isiS "bool" "bool" = true := by decide +kernel
theorem isi_bool_int : isiS "bool" "int" = false := by decide +kernel
theorem isi_bool_str : isiS "bool" "str" = false := by decide +kernel
theorem isi_bool_list : isiS "bool" "list" = false := by decide +kernel
theorem isi_bool_tuple : isiS "bool" "tuple" = false := by decide +kernel
theorem isi_bool_dict : isiS "bool" "dict" = false := by decide +kernel
theorem isi_str_NoneType : isiS "str" "NoneType" = false := by decide +kernel
theorem isi_str_bool : isiS "str" "bool" = false := by decide +kernel
theorem isi_str_int : isiS "str" "int" = false := by decide +kernel
theorem isi_str_str : isiS "str" "str" = true := by decide +kernel
theorem isi_str_list : isiS "str" "list" = false := by decide +kernel
theorem isi_str_tuple : isiS "str" "tuple" = false := by decide +kernel
theorem isi_str_dict : isiS "str" "dict" = false := by decide +kernel
theorem isi_list_NoneType : isiS "list" "NoneType" = false := by decide +kernel
theorem isi_list_bool : isiS "list" "bool" = false := by decide +kernel
theorem isi_list_int : isiS "list" "int" = false := by decide +kernel
theorem isi_list_str : isiS "list" "str" = false := by decide +kernel
theorem isi_list_list : isiS "list" "list" = true := by decide +kernel
theorem isi_list_tuple : isiS "list" "tuple" = false := by decide +kernel
theorem isi_list_dict : isiS "list" "dict" = false := by decide +kernel
theorem isi_tuple_NoneType : isiS "tuple" "NoneType" = false := by decide +kernel
theorem isi_tuple_bool : isiS "tuple" "bool" = false := by decide +kernel
theorem isi_tuple_int : isiS "tuple" "int" = false := by decide +kernel
theorem isi_tuple_str : isiS "tuple" "str" = false := by decide +kernel
theorem isi_tuple_list : isiS "tuple" "list" = false := by decide +kernel
theorem isi_tuple_tuple : isiS "tuple" "tuple" = true := by decide +kernel
theorem isi_tuple_dict : isiS "tuple" "dict" = false := by decide +kernel
theorem isi_dict_NoneType : isiS "dict" "NoneType" = false := by decide +kernel
theorem isi_dict_bool : isiS "dict" "bool" = false := by decide +kernel
theorem isi_dict_int : isiS "dict" "int" = false := by decide +kernel
theorem isi_dict_str : isiS "dict" "str" = false := by decide +kernel
theorem isi_dict_list : isiS "dict" "list" = false := by decide +kernel
theorem isi_dict_tuple : isiS "dict" "tuple" = false := by decide +kernel
theorem isi_dict_dict : isiS "dict" "dict" = true := by decide +kernel
theorem toBools_mapf {α : Type} (p : α → Bool) : ∀ (ds : List α), toBools (ds.map fun x => PyData.bool (p x)) = some (ds.map p)
  | [] => rfl
  | d :: ds => by
    show (toBools (ds.map fun x => PyData.bool (p x))).map (p d :: ·) = _
    rw [toBools_mapf p ds]; rfl
theorem allD_mapf {α : Type} (p : α → Bool) (ds : List α) : allD [.list (ds.map fun x => PyData.bool (p x))] = some (.bool (ds.all p)) := by
  show (toBools (ds.map fun x => PyData.bool (p x))).map _ = _
  rw [toBools_mapf]
  show some (PyData.bool ((ds.map p).all id)) = _
  rw [List.all_map]; rfl
theorem anyD_mapf {α : Type} (p : α → Bool) (ds : List α) : anyD [.list (ds.map fun x => PyData.bool (p x))] = some (.bool (ds.any p)) := by
  show (toBools (ds.map fun x => PyData.bool (p x))).map _ = _
  rw [toBools_mapf]
  show some (PyData.bool ((ds.map p).any id)) = _
  rw [List.any_map]; rfl
theorem sh_int (i : Int) : SeqAt.shaped (.int i) = true := by simp [SeqAt.shaped, PyData.canLay0, PyData.depth]
theorem sh_bool (i : Bool) : SeqAt.shaped (.bool i) = true := by simp [SeqAt.shaped, PyData.canLay0, PyData.depth]
theorem sh_none : SeqAt.shaped .none = true := by simp [SeqAt.shaped, PyData.canLay0, PyData.depth]
theorem eq_int (i j : Int) : eqD (.int i) (.int j) = some (.bool (decide (i = j))) := by
  have e : PyData.eqv (.int i) (.int j) = decide (i = j) := by
    simp only [PyData.eqv]
    by_cases h : i = j <;> simp [h]
  simp [eqD, sh_int, e]
theorem ne_int (i j : Int) : neD (.int i) (.int j) = some (.bool (!decide (i = j))) := by
  have e : PyData.eqv (.int i) (.int j) = decide (i = j) := by
    simp only [PyData.eqv]
    by_cases h : i = j <;> simp [h]
  simp [neD, sh_int, e]
/-- data whose lists go at most n deep, all texts laid -/
def Sh (n : Nat) (d : D) : Prop := d.canLay0 = true ∧ d.depth ≤ n
theorem Sh.shaped {n : Nat} {d : D} (h : Sh n d) (hn : n ≤ 64) : SeqAt.shaped d = true := by
  simp only [SeqAt.shaped, Bool.and_eq_true, decide_eq_true_eq]
  exact ⟨h.1, by have := h.2; omega⟩
theorem Sh.mono {n m : Nat} {d : D} (h : Sh n d) (hn : n ≤ m) : Sh m d := ⟨h.1, Nat.le_trans h.2 hn⟩
theorem Sh.int (i : Int) : Sh 0 (.int i) := ⟨by simp [PyData.canLay0], by simp [PyData.depth]⟩
theorem Sh.bool (i : Bool) : Sh 0 (.bool i) := ⟨by simp [PyData.canLay0], by simp [PyData.depth]⟩
theorem Sh.none : Sh 0 .none := ⟨by simp [PyData.canLay0], by simp [PyData.depth]⟩
theorem sh_all {n : Nat} : ∀ {ds : List D}, (∀ d ∈ ds, Sh n d) → PyData.canLayAll0 ds = true ∧ PyData.depthAll ds ≤ n
  | [], _ => ⟨by simp [PyData.canLayAll0], by simp [PyData.depthAll]⟩
  | d :: ds, h => by
    obtain ⟨a, b⟩ := h d List.mem_cons_self
    obtain ⟨a', b'⟩ := sh_all (ds := ds) fun x hx => h x (List.mem_cons_of_mem _ hx)
    refine ⟨by simp only [PyData.canLayAll0, a, a', Bool.and_self], ?_⟩
    simp only [PyData.depthAll]
    omega
theorem Sh.list {n : Nat} {ds : List D} (h : ∀ d ∈ ds, Sh n d) : Sh (n + 1) (.list ds) := by
  obtain ⟨a, b⟩ := sh_all h
  exact ⟨by simp only [PyData.canLay0, a], by simp only [PyData.depth]; omega⟩
theorem Sh.tuple {n : Nat} {ds : List D} (h : ∀ d ∈ ds, Sh n d) : Sh (n + 1) (.tuple ds) := by
  obtain ⟨a, b⟩ := sh_all h
  exact ⟨by simp only [PyData.canLay0, a], by simp only [PyData.depth]; omega⟩
theorem Sh.ints (ns : List Int) : Sh 1 (.list (ns.map PyData.int)) := Sh.list fun d hd => by
  obtain ⟨i, _, rfl⟩ := List.mem_map.mp hd
  exact Sh.int i
theorem eq_sh {n m : Nat} {a b : D} (ha : Sh n a) (hb : Sh m b) (hn : n ≤ 64) (hm : m ≤ 64) : eqD a b = some (.bool (PyData.eqv a b)) := by
  simp [eqD, ha.shaped hn, hb.shaped hm]
theorem ne_sh {n m : Nat} {a b : D} (ha : Sh n a) (hb : Sh m b) (hn : n ≤ 64) (hm : m ≤ 64) : neD a b = some (.bool (!PyData.eqv a b)) := by
  simp [neD, ha.shaped hn, hb.shaped hm]
theorem eqvAll_refl : ∀ (ds : List D), (∀ d ∈ ds, PyData.eqv d d = true) → PyData.eqvAll ds ds = true
  | [], _ => by simp [PyData.eqvAll]
  | d :: ds, h => by
    simp only [PyData.eqvAll, Bool.and_eq_true]
    exact ⟨h d List.mem_cons_self, eqvAll_refl ds fun x hx => h x (List.mem_cons_of_mem _ hx)⟩
/-- repr of truths -/
def reprB (b : Bool) : D := .str (if b then "True" else "False")
theorem repr_bool (b : Bool) : reprD [.bool b] = some (reprB b) := rfl
theorem ne_reprB (a b : Bool) : neD (reprB a) (reprB b) = some (.bool (!decide (a = b))) := by
  have h1 : ∀ b, SeqAt.shaped (reprB b) = true := fun b => by cases b <;> decide +kernel
  have h2 : PyData.eqv (reprB a) (reprB b) = decide (a = b) := by cases a <;> cases b <;> decide +kernel
  simp [neD, h1, h2]
theorem rng2_is {ms : M (List D)} {ρ ρ1 : En} {i j : Int} (h : ms ρ = some (.ok [.int i, .int j] ρ1)) (hi : rngOk i = true) (hj : rngOk j = true) : mRng2 ms ρ = some (.ok (rngL i j) ρ1) := by
  unfold mRng2
  rw [bind_is h]
  have e : rngD2 [.int i, .int j] = some (rngL i j) := by
    show (if (rngOk i && rngOk j) = true then some (rngL i j) else none) = _
    rw [hi, hj]; rfl
  rw [e]; rfl
theorem rng1_is {ms : M (List D)} {ρ ρ1 : En} {j : Int} (h : ms ρ = some (.ok [.int j] ρ1)) (hj : rngOk j = true) : mRng1 ms ρ = some (.ok (rngL 0 j) ρ1) := by
  unfold mRng1
  rw [bind_is h]
  have e : rngD1 [.int j] = some (rngL 0 j) := by
    show (if rngOk j = true then some (rngL 0 j) else none) = _
    rw [hj]; rfl
  rw [e]; rfl
theorem rngOk_le {i : Int} (h0 : -1000000000000 ≤ i) (h1 : i ≤ 1000000000000) : rngOk i = true := by
  unfold rngOk
  exact decide_eq_true (by omega)
end Dd

namespace Dd
open PySem PySem.Spec L2
section
variable {X : Cx} {W : WX} {K : PySem.W.Frag}
/-! ### isinstance by several types -/
inductive TyNs (X : Cx) : List Expr → List String → Prop
  | nil : TyNs X [] []
  | cons {tn : Str} {T : String} {q : Pos} {es : List Expr} {Ts : List String} (h : PE X (.Name tn q) (tC (.ty T))) (hT : isiOk T = true) (r : TyNs X es Ts) (hs : starEach (.Name tn q :: es) X.env = (false, eval (.Name tn q) X.env) :: starEach es X.env) : TyNs X (.Name tn q :: es) (T :: Ts)
theorem tys {tn : Str} {T : String} {q : Pos} {es : List Expr} {Ts : List String} (hmT : X.mg tn = none) (hT : isiOk T = true) (hv : bootBuiltins tn = some (.type T)) (r : TyNs X es Ts) (hgT : Gl X tn := by rfl)
    (hn : tn ≠ "__name__" := by decide) (hdb : (tn == ("__debug__" : Str)) = false := by decide) (hs : starEach (.Name tn q :: es) X.env = (false, eval (.Name tn q) X.env) :: starEach es X.env := by rfl) : TyNs X (.Name tn q :: es) (T :: Ts) :=
  .cons (pe_bltn hgT hmT hv (hn := hn) (hd := hdb) (r := (show RelV (V.ty T) (Value.type T) from rfl))) hT r hs
def tTys (Ts : List String) : TA := fun _ H Q => Q (Ts.map V.ty) H
theorem pa_tys : ∀ {es : List Expr} {Ts : List String}, TyNs X es Ts → PA X es (tTys Ts)
  | _, _, .nil => pa_nil
  | _, _, .cons h _ r hs => pa_cons h (pa_tys r) hs
theorem tys_ok : ∀ {es : List Expr} {Ts : List String}, TyNs X es Ts → ∀ T ∈ Ts, isiOk T = true
  | _, _, .nil, T, h => by cases h
  | _, _, .cons _ hT r _, T, h => by
    rcases List.mem_cons.mp h with rfl | h
    · exact hT
    · exact tys_ok r T h
theorem tys_pair : ∀ Ts : List String, Paired ClsV (Ts.map V.ty) (Ts.map Value.type)
  | [] => .nil
  | T :: Ts => .cons (.ty T) (tys_pair Ts)
def isiA (Ts : List String) (d : D) : Bool := Ts.any fun T => isiT T d
theorem isiA_kit : ∀ {Ts : List String}, (∀ T ∈ Ts, isiOk T = true) → ∀ d : D, PySem.W.kitAny K (.type (typD d)) (Ts.map Value.type) = some (isiA Ts d)
  | [], _, d => kitAny_nil
  | T :: Ts, h, d => by
    refine kitAny_cons (isi_kit (h T List.mem_cons_self) d) (fun e => ?_) fun e => ?_
    · rw [isiA_kit (fun T' h' => h T' (List.mem_cons_of_mem _ h')) d]
      show some (Ts.any fun T => isiT T d) = some ((T :: Ts).any fun T => isiT T d)
      rw [List.any_cons, e, Bool.false_or]
    · show ((T :: Ts).any fun T => isiT T d) = true
      rw [List.any_cons, e, Bool.true_or]
theorem pk_alloc {c : Ct} {σ : St} {H F : Hp} {ρ : En} {x : V} {d : D} {p : Addr} {o : HO} (ok : Ok K c σ H F ρ) (h : H p = none) (r : Pk K H F x d) : Pk K (upd H p o) (upd F p o) x d := by
  have s : Same F (upd F p o) := Same.updN (ok.new h).1
  rcases r with r | ⟨q, vs, ds, rfl, rfl, hq, r⟩
  · exact .inl (Dp.mono s r)
  · exact .inr ⟨q, vs, ds, rfl, rfl, Same.updN h _ _ hq, DpAll.mono s r⟩
def mIsiA (Ts : List String) (m : M D) : M D := mBind m fun d => mPure (.bool (isiA Ts d))
variable {a : Expr} {m : M D} {p pos tpos : Pos} {es : List Expr} {Ts : List String} {k : Nat}
theorem dIsiA (hm : X.mg "isinstance" = none) (ht : TyNs X es Ts) (ha : PE X a (tP X.K W m)) (hl : Ts.length ≤ 100 := by decide) (hg : Gl X "isinstance" := by rfl)
    (hs : starEach [a, .Tuple es k tpos] X.env = (false, eval a X.env) :: starEach [.Tuple es k tpos] X.env := by rfl) (hs2 : starEach [.Tuple es k tpos] X.env = (false, eval (.Tuple es k tpos) X.env) :: starEach [] X.env := by rfl) (hpl : (backTo pos (starEach [.Tuple es k tpos] X.env)).any (·.1) = false := by rfl)
    (hbi : bootBuiltins "isinstance" = some (.builtin "isinstance") := by decide +kernel) : PE X (.Call (.Name "isinstance" p) [a, .Tuple es k tpos] [] pos) (tE X.K W (mIsiA Ts m)) :=
  PE.imp (pe_callB call_isiT hg hm hbi (pa_cons ha (pa_cons (pe_tup (pa_tys ht)) pa_nil hs2) hs) (by decide) (by decide) hs hpl) (by
  rintro σ H Q ⟨c, F, ρ, ok, h⟩
  refine ⟨c, F, ρ, ok, post_mono ?_ (post_bind h)⟩
  rintro d H1 F1 _ ⟨ρ1, ok1, s1, h1⟩ v rv
  show (Ts.map V.ty).length ≤ sizeLine ∧ ∀ q, H1 q = none → rIsiT X.K [v, .ref q] (upd H1 q (.tup (Ts.map V.ty))) Q
  refine ⟨by rw [List.length_map, sizeLine_eq]; omega, fun q hq => ?_⟩
  have ok2 := ok1.alloc (o := .tup (Ts.map V.ty)) hq
  exact ⟨v, q, _, _, _, _, rfl, upd_same, tys_pair Ts, typ_of ok2 (pk_alloc ok1 hq rv), isiA_kit (tys_ok ht) d, h1 _ _ ok2 (Same.updN (ok1.new hq).1) _ (.bl _)⟩)
end
/-! ### a def that calls itself -/
section
variable {P : Program} {w : World} {K : PySem.W.Frag} {mg : Str → Option Value} {base : Heap} {j n : Nat} {f : Addr} {fd : FuncData} {ps : List Str}
theorem okV0 {g : List D → Option (Rs D)} (hg : ∀ ds, g ds = none) : FnOk P w K mg base (L2.CX P w) j f fd ps (spV K n g) := by
  have no : ∀ vs H Q E, ¬ spV K n g vs H Q E := fun vs H Q E h => by
    obtain ⟨F, ds, _, _, _, h⟩ := h
    simp only [hg] at h
  exact ⟨fun vs H Q E h => absurd h (no _ _ _ _), fun A outer s H args us vs Q E _ _ _ _ h => absurd h (no _ _ _ _)⟩
end
end Dd

namespace Dd
open PySem PySem.Spec L2
/-! ### sorted: lists of pairs of ints -/
def leP (p q : Int × Int) : Bool := !SrtO.lexB q p
theorem leP_iff {p q : Int × Int} : leP p q = true ↔ p.1 < q.1 ∨ (p.1 = q.1 ∧ p.2 ≤ q.2) := by
  unfold leP
  rw [Bool.not_eq_true', SrtO.lexB_no]
  omega
/-- sorted(xs), xs a list whose members stand for pairs of ints by R -/
def rSortDP (K : PySem.W.Frag) : List V → Hp → VK → Prop := fun vs H Q => ∃ (R : V → Int × Int → Prop) (a : Addr) (xs : List V) (ps : List (Int × Int)), vs = [V.ref a] ∧ SqL K H a xs ∧ Paired R xs ps ∧ (∀ x p, R x p → ∃ t, x = V.ref t ∧ SqT K H t [.int p.1, .int p.2]) ∧
  ∀ ys qs l, Paired R ys qs → qs.Perm ps → qs.Pairwise (fun p q => leP p q = true) → H l = none → Q (.ref l) (upd H l (.lst ys))
theorem isPair_inj {h : Heap} {v : Value} {a b c d : Int} (p : Srt.IsPair h v a b) (q : Srt.IsPair h v c d) : a = c ∧ b = d := by
  obtain ⟨t, o, t1, t2, n, e, ho, hc, hd⟩ := p
  obtain ⟨t', o', t1', t2', n', e', ho', hc', hd'⟩ := q
  subst e
  cases e'
  rw [ho] at ho'
  cases ho'
  rw [hd] at hd'
  injection hd' with h1 _
  injection h1 with h1
  injection h1 with h2 h3
  injection h3 with h3 _
  injection h2 with h2 _
  injection h3 with h3 _
  exact ⟨h2, h3⟩
open Classical in
noncomputable def pairOf (h : Heap) (u : Value) : Int × Int := if e : ∃ p : Int × Int, Srt.IsPair h u p.1 p.2 then Classical.choose e else (0, 0)
theorem pairOf_is {h : Heap} {u : Value} {p : Int × Int} (e : Srt.IsPair h u p.1 p.2) : pairOf h u = p := by
  have e' : ∃ p : Int × Int, Srt.IsPair h u p.1 p.2 := ⟨p, e⟩
  unfold pairOf
  rw [dif_pos e']
  obtain ⟨a, b⟩ := isPair_inj (Classical.choose_spec e') e
  exact Prod.ext a b
theorem paired_left {α β : Type} {R : α → β → Prop} : ∀ {xs : List α} {ps : List β}, Paired R xs ps → ∀ x ∈ xs, ∃ p, R x p
  | _, _, .nil, x, h => by cases h
  | _, _, .cons r t, x, h => by
    rcases List.mem_cons.mp h with rfl | h
    · exact ⟨_, r⟩
    · exact paired_left t x h
theorem paired_map {α β γ : Type} {R : α → β → Prop} {f : γ → α} {g : γ → β} : ∀ {us : List γ}, (∀ u ∈ us, R (f u) (g u)) → Paired R (us.map f) (us.map g)
  | [], _ => .nil
  | u :: us, h => .cons (h u List.mem_cons_self) (paired_map fun v hv => h v (List.mem_cons_of_mem _ hv))
theorem paired_fn {α β γ : Type} {R : α → β → Prop} {f : γ → α} {g : γ → β} : ∀ {us : List γ} {ps : List β}, Paired R (us.map f) ps → (∀ u ∈ us, ∀ p, R (f u) p → g u = p) → ps = us.map g
  | [], _, .nil, _ => rfl
  | u :: us, _, .cons r t, h => by
    rw [List.map_cons, h u List.mem_cons_self _ r, paired_fn t fun v hv => h v (List.mem_cons_of_mem _ hv)]
section
variable {X : Cx} {K : PySem.W.Frag}
theorem cr_sortDP : CallR X (.builtin "sorted") (rSortDP X.K) := by
  intro pins s σ H vs us Q I r h
  obtain ⟨R, a, xs, ps, rfl, hs, hx, hR, q⟩ := h
  obtain ⟨its, rv, hl, hz⟩ := I.list hs
  obtain ⟨u, rfl, ru⟩ := vals1 r
  obtain rfl : u = Value.ref a := ru
  obtain ⟨e1, e2⟩ := refs_back rv fun x m => by
    obtain ⟨p, hp⟩ := paired_left hx x m
    obtain ⟨t, e, _⟩ := hR x p hp
    exact ⟨t, e⟩
  have isP : ∀ v ∈ its, ∀ p, R (backV v) p → Srt.IsPair s.heap v p.1 p.2 := fun v hv p hp => by
    obtain ⟨t, rfl⟩ := e2 v hv
    obtain ⟨t', e, hT⟩ := hR _ p hp
    cases e
    obtain ⟨its2, r2, ⟨o, ho, hc, n, hd⟩, _⟩ := I.tuple hT
    obtain ⟨u1, u2, rfl, ri, rj⟩ := vals2 r2
    obtain ⟨t1, rfl⟩ := ri
    obtain ⟨t2, rfl⟩ := rj
    exact ⟨t, o, t1, t2, n, rfl, ho, hc, hd⟩
  have hk : ∀ v ∈ its, ∀ p, R (backV v) p → pairOf s.heap v = p := fun v hv p hp => pairOf_is (isP v hv p hp)
  have hg : ∀ v ∈ its, R (backV v) (pairOf s.heap v) := fun v hv => by
    have hm : backV v ∈ xs := by rw [e1]; exact List.mem_map.mpr ⟨_, hv, rfl⟩
    obtain ⟨p, hp⟩ := paired_left hx _ hm
    rw [hk v hv p hp]; exact hp
  have hps : ps = its.map (pairOf s.heap) := by
    rw [e1] at hx
    exact paired_fn hx hk
  refine SrtO.sorted_pairsO (k := pairOf s.heap) hl.isList (by rw [← rv.length]; exact hz) (fun v hv => isP v hv _ (hg v hv)) fun h' d out h1 h2 kp hd hn => ?_
  have h3 : ∀ u ∈ out, ∃ a, u = Value.ref a := fun u hu => e2 u (h2.perm.mem_iff.mp hu)
  obtain ⟨n, hn⟩ := hn
  refine ⟨.ref d, upd H d (.lst (out.map backV)), I.laid (t' := s.toks) kp hd ⟨?_, out, n, vals_back h3, hn⟩, rfl, q _ (out.map (pairOf s.heap)) d (paired_map fun u hu => hg u (h2.perm.mem_iff.mp hu)) ?_ ?_ (I.hok.fresh hd)⟩
  · rw [List.length_map, h2.perm.length_eq, ← rv.length]
    exact hz
  · rw [hps]
    exact h2.perm.map _
  · refine List.pairwise_map.mpr (h1.imp fun {x y} h => ?_)
    have h' : SrtO.lexB (pairOf s.heap y) (pairOf s.heap x) = false := h
    unfold leP
    rw [h']; rfl
end
/-! ### the sorted list is one -/
theorem sorted_uniq {α : Type} (le : α → α → Bool) (anti : ∀ a b, le a b = true → le b a = true → a = b) : ∀ {l m : List α}, l.Perm m → l.Pairwise (fun a b => le a b = true) → m.Pairwise (fun a b => le a b = true) → l = m
  | [], m, h, _, _ => (List.Perm.nil_eq h)
  | x :: l, [], h, _, _ => absurd h.length_eq (by simp)
  | x :: l, y :: m, h, hl, hm => by
    have hxy : x = y := by
      rcases List.mem_cons.mp (h.mem_iff.mp (List.mem_cons_self (a := x) (l := l))) with e | hx
      · exact e
      · rcases List.mem_cons.mp (h.mem_iff.mpr (List.mem_cons_self (a := y) (l := m))) with e | hy
        · exact e.symm
        · exact anti _ _ ((List.pairwise_cons.mp hl).1 y hy) ((List.pairwise_cons.mp hm).1 x hx)
    subst hxy
    rw [sorted_uniq le anti h.cons_inv (List.pairwise_cons.mp hl).2 (List.pairwise_cons.mp hm).2]
def insP (p : Int × Int) : List (Int × Int) → List (Int × Int)
  | [] => [p]
  | q :: qs => if leP p q = true then p :: q :: qs else q :: insP p qs
def sortP : List (Int × Int) → List (Int × Int)
  | [] => []
  | p :: ps => insP p (sortP ps)
theorem insP_perm (p : Int × Int) : ∀ qs, (insP p qs).Perm (p :: qs)
  | [] => List.Perm.refl _
  | q :: qs => by
    unfold insP
    split
    · exact List.Perm.refl _
    · exact ((insP_perm p qs).cons q).trans (List.Perm.swap p q qs)
theorem sortP_perm : ∀ ps, (sortP ps).Perm ps
  | [] => List.Perm.refl _
  | p :: ps => (insP_perm p (sortP ps)).trans ((sortP_perm ps).cons p)
theorem leP_tot (p q : Int × Int) (h : ¬ leP p q = true) : leP q p = true := by
  rw [leP_iff] at h ⊢
  omega
theorem leP_trans {p q r : Int × Int} (h1 : leP p q = true) (h2 : leP q r = true) : leP p r = true := by
  rw [leP_iff] at h1 h2 ⊢
  omega
theorem insP_pw (p : Int × Int) : ∀ {qs}, qs.Pairwise (fun a b => leP a b = true) → (insP p qs).Pairwise (fun a b => leP a b = true)
  | [], _ => List.pairwise_singleton _ _
  | q :: qs, h => by
    unfold insP
    obtain ⟨h1, h2⟩ := List.pairwise_cons.mp h
    split
    · rename_i hp
      refine List.pairwise_cons.mpr ⟨fun r hr => ?_, h⟩
      rcases List.mem_cons.mp hr with rfl | hr
      · exact hp
      · exact leP_trans hp (h1 r hr)
    · rename_i hp
      refine List.pairwise_cons.mpr ⟨fun r hr => ?_, insP_pw p h2⟩
      rcases List.mem_cons.mp ((insP_perm p qs).mem_iff.mp hr) with rfl | hr
      · exact leP_tot _ _ hp
      · exact h1 r hr
theorem sortP_pw : ∀ ps, (sortP ps).Pairwise (fun a b => leP a b = true)
  | [] => List.Pairwise.nil
  | p :: ps => insP_pw p (sortP_pw ps)
theorem leP_anti (a b : Int × Int) (h1 : leP a b = true) (h2 : leP b a = true) : a = b := by
  rw [leP_iff] at h1 h2
  exact Prod.ext (by omega) (by omega)
theorem sortP_eq {qs ps : List (Int × Int)} (h : qs.Perm ps) (hq : qs.Pairwise (fun a b => leP a b = true)) : qs = sortP ps :=
  sorted_uniq leP leP_anti (h.trans (sortP_perm ps).symm) hq (sortP_pw ps)
def toPair : D → Option (Int × Int)
  | .tuple [.int a, .int b] => some (a, b)
  | _ => none
def toPairs : List D → Option (List (Int × Int))
  | [] => some []
  | d :: ds => match toPair d with
    | some p => (toPairs ds).map (p :: ·)
    | none => none
def pairD (p : Int × Int) : D := .tuple [.int p.1, .int p.2]
theorem toPair_eq {d : D} {p : Int × Int} (h : toPair d = some p) : d = pairD p := by
  unfold toPair at h
  split at h
  · cases h; rfl
  · cases h
theorem toPairs_eq : ∀ {ds : List D} {ps : List (Int × Int)}, toPairs ds = some ps → ds = ps.map pairD
  | [], _, h => by cases h; rfl
  | d :: ds, ps, h => by
    unfold toPairs at h
    split at h
    · rename_i p e
      cases q : toPairs ds with
      | none => rw [q] at h; cases h
      | some qs =>
        rw [q] at h; cases h
        rw [List.map_cons, ← toPair_eq e, ← toPairs_eq q]
    · cases h
theorem toPairs_map : ∀ ps : List (Int × Int), toPairs (ps.map pairD) = some ps
  | [] => rfl
  | p :: ps => by
    show (toPairs (ps.map pairD)).map (p :: ·) = _
    rw [toPairs_map ps]; rfl
def sortD : List D → Option (List D)
  | [.list ds] => (toPairs ds).map fun ps => (sortP ps).map pairD
  | _ => none
section
variable {K : PySem.W.Frag}
abbrev RP (K : PySem.W.Frag) (F : Hp) (x : V) (p : Int × Int) : Prop := Dp K F x (pairD p)
theorem rp_all {F : Hp} : ∀ {xs : List V} {ps : List (Int × Int)}, DpAll K F xs (ps.map pairD) → Paired (RP K F) xs ps
  | _, [], .nil => .nil
  | _, _ :: _, .cons h t => .cons h (rp_all t)
theorem all_rp {F : Hp} : ∀ {xs : List V} {ps : List (Int × Int)}, Paired (RP K F) xs ps → DpAll K F xs (ps.map pairD)
  | _, _, .nil => .nil
  | _, _, .cons h t => .cons h (all_rp t)
theorem cn_sort : CallN K (rSortDP K) sortD := by
  intro W c σ H F ρ xs ds out Q ok rx e q
  unfold sortD at e
  split at e
  · rename_i es
    cases e2 : toPairs es with
    | none => rw [e2] at e; cases e
    | some ps =>
      rw [e2] at e; cases e
      obtain ⟨x, rfl, r⟩ := pk1 rx
      obtain ⟨p, vs, rfl, hp, dp⟩ := Pk.lst ok.sub r
      have e3 := toPairs_eq e2
      subst e3
      refine ⟨RP K F, p, vs, ps, rfl, hp, rp_all dp, fun x p h => ?_, fun ys qs l hy hperm hpw hl => ?_⟩
      · have h2 : Dp K H x (pairD p) := Dp.mono ok.sub h
        unfold pairD at h2
        cases h2 with
        | tup h t =>
          cases t with
          | cons a t =>
            cases t with
            | cons b t =>
              cases t; cases a; cases b
              exact ⟨_, rfl, h⟩
      · have e4 := sortP_eq hperm hpw
        subst e4
        exact new_N ok (all_rp hy) q l hl
  · cases e
end
end Dd

namespace Dd
open PySem PySem.Spec L2
/-! ### a, b = a new list, a constant -/
section
variable {X : Cx} {W : WX} {K : PySem.W.Frag} {σ : St} {H : Hp} {i j : Nat} {x y : Str} {a b : Expr} {mn : M (List D)} {px py pt pos : Pos} {kt k2 : Nat} {pt2 : Pos} {v : V} {d : D}
def mParNC (i j : Nat) (mn : M (List D)) (d : D) : M Fl := mBind mn fun out => mBind (mStoreO i out) fun _ => mBind (mStore j d) fun _ => mDone
theorem parNC_of (hd : ∀ F, Dp K F v d) {Dn : Ends} (h : tS K W (mParNC i j mn d) Dn σ H) : tPar i j (tCons (tN K W mn) (tCons (tC v) tNil)) Dn σ H := by
  obtain ⟨c, F, ρ, ok, h⟩ := h
  refine ⟨c, F, ρ, ok, ?_⟩
  unfold mParNC mBind at h
  cases e : mn ρ with
  | none => rw [e] at h; exact h.elim
  | some r =>
    rw [e] at h
    cases r with
    | ex y ρ' => exact fun cls z H' F' ok s r => h σ cls z H' F' ok s r
    | ok out ρ2 =>
      intro p xs H' F' ok' hp s' rx
      refine ⟨.ref p, v, rfl, ?_⟩
      have h2 : postS K W c F Dn (mBind (mStoreO i out) (fun _ => mBind (mStore j d) fun _ => mDone) ρ2) := h
      have h3 := postS_bindG h2
      unfold mStoreO at h3
      split at h3
      · rename_i hl
        obtain ⟨F4, ρ4, ok4, s4, h4⟩ := h3 _ H' F' (ok'.ownP hp rx hl) s'
        have h5 := postS_bindG h4
        unfold mStore at h5
        split at h5
        · rename_i hl2
          obtain ⟨F5, ρ5, ok5, s5, h6⟩ := h5 _ H' F4 (ok4.setV hl2 (hd _)) (Same.refl _)
          exact h6 _ _ _ ok5 (Same.refl _)
        · exact h5.elim
      · exact h3.elim
theorem dParNC (hc : X.calm = true) (hN : X.N.Nodup) (hij : i ≠ j) (ha : PE X a (tN X.K W mn)) (hb : PE X b (tC v)) (hd : ∀ F, Dp X.K F v d) (hi : X.N[i]? = some x := by rfl) (hj : X.N[j]? = some y := by rfl)
    (hx : X.env.scope.names.lookup x = some .local := by rfl) (hy : X.env.scope.names.lookup y = some .local := by rfl)
    (hw : swappedStores [.Tuple [.Name x px, .Name y py] kt pt] (.Tuple [a, b] k2 pt2) X.env = pure (some [x, y]) := by rfl)
    (hs : swapsWithSole [.Tuple [.Name x px, .Name y py] kt pt] (.Tuple [a, b] k2 pt2) pos.line X.env = pure false := by rfl)
    (hs1 : starEach [a, b] X.env = (false, eval a X.env) :: starEach [b] X.env := by rfl) (hs2 : starEach [b] X.env = (false, eval b X.env) :: starEach [] X.env := by rfl) :
    PS X (.Assign [.Tuple [.Name x px, .Name y py] kt pt] (.Tuple [a, b] k2 pt2) pos) (tS X.K W (mParNC i j mn d)) :=
  PS.imp (ps_par hc hN hi hj hij hx hy (pa_cons ha (pa_cons hb pa_nil hs2) hs1) hw hs) fun _ _ _ => parNC_of hd
end
/-! ### range, downwards -/
section
variable {X : Cx} {W : WX} {K : PySem.W.Frag} {tg a b e : Expr} {ms : M (List D)} {p pos : Pos}
def rngDn (i j : Int) : List D := (List.range (i - j).toNat).map fun k => .int (i - (k : Nat))
def rngD3 : List D → Option (List D)
  | [.int i, .int j, .int c] => if (rngOk i && rngOk j && decide (c = -1)) = true then some (rngDn i j) else none
  | _ => none
theorem rngDn_get {i j : Int} {k : Nat} {d : D} (h : (rngDn i j)[k]? = some d) : d = .int (i - (k : Nat)) ∧ k < (i - j).toNat := by
  unfold rngDn at h
  rw [List.getElem?_map] at h
  by_cases q : k < (i - j).toNat
  · rw [List.getElem?_range q] at h
    cases h
    exact ⟨rfl, q⟩
  · rw [List.getElem?_eq_none (by simpa using q)] at h
    cases h
theorem rngDn_length (i j : Int) : (rngDn i j).length = (i - j).toNat := by simp [rngDn]
theorem itc_D {F : Hp} {i j : Int} : ItD K F (Itc i (-1) (i - j).toNat) (rngDn i j) where
  go := fun H k s hi => by rw [rngDn_length] at hi; exact hi
  stop := fun H k s hi => by rw [rngDn_length] at hi; exact hi
  yld := fun H k x H' d s q y => by
    obtain ⟨e1, e2⟩ := y
    obtain ⟨e3, _⟩ := rngDn_get q
    subst e1 e2 e3
    refine .inl ⟨rfl, ?_⟩
    have e : i + (k : Nat) * (-1) = i - (k : Nat) := by omega
    rw [e]
    exact .int _
def mRng3 (ms : M (List D)) : M (List D) := mBind ms fun ds => mLift (rngD3 ds)
theorem diRng3 {c : Expr} (hm : X.mg "range" = none) (ha : PA X [a, b, c] (tA X.K W ms)) (hg : Gl X "range" := by rfl) (hs : starEach [a, b, c] X.env = (false, eval a X.env) :: starEach [b, c] X.env := by rfl) (hpl : (backTo pos (starEach [b, c] X.env)).any (·.1) = false := by rfl) : PI X tg (.Call (.Name "range" p) [a, b, c] [] pos) (tI X.K W (mRng3 ms)) := PI.imp (pi_range3 hg hm ha hs hpl) (by
  rintro σ H R ⟨c, F, ρ, ok, h⟩
  refine ⟨c, F, ρ, ok, post_mono ?_ (post_bind h)⟩
  rintro ds H1 F1 _ ⟨ρ1, ok1, s1, h1⟩ vs rv
  obtain ⟨out, e, h2⟩ := post_lift h1
  unfold rngD3 at e
  split at e
  · rename_i i j c'
    split at e
    · rename_i hb
      cases e
      simp only [Bool.and_eq_true, decide_eq_true_eq] at hb
      obtain ⟨⟨hb1, hb2⟩, hc⟩ := hb
      subst hc
      cases rv with
      | cons r t =>
        cases t with
        | cons r' t' =>
          cases t' with
          | cons r'' t'' =>
            cases t''
            cases r
            cases r'
            cases r''
            obtain ⟨b1, b2⟩ := rngOk_of hb1
            obtain ⟨b3, b4⟩ := rngOk_of hb2
            exact ⟨i, j, -1, _, rfl, RgC.neg b1 b2 b3 b4, h2 H1 F1 ok1 (Same.refl F1) _ itc_D⟩
    · cases e
  · cases e)
end
end Dd

namespace Dd
open PySem PySem.Spec L2
/-! ### *e in a display -/
section
variable {X : Cx} {W : WX} {K : PySem.W.Frag} {a : Expr} {es : List Expr} {p : Pos} {ma : M D} {mr : M (List D)}
def mStar (ma : M D) (mr : M (List D)) : M (List D) := mBind ma fun d => mBind (mLift (itemsD d)) fun xs => mBind mr fun ys => mPure (xs ++ ys)
theorem dStar (ha : PE X a (tP X.K W ma)) (hr : PA X es (tA X.K W mr)) (hs : starEach (.Starred a p :: es) X.env = (true, eval a X.env) :: starEach es X.env := by rfl) : PA X (.Starred a p :: es) (tA X.K W (mStar ma mr)) := by
  refine PA.imp (StX.pa_star ha hr hs) ?_
  rintro σ H Q ⟨c, F, ρ, ok, h⟩
  refine ⟨c, F, ρ, ok, post_mono ?_ (post_bind h)⟩
  rintro d H1 F1 _ ⟨ρ1, ok1, s1, h1⟩ v rv
  have main : ∀ (q : Addr) (vs : List V) (ds : List D), v = .ref q → (SqT X.K H1 q vs ∨ SqL X.K H1 q vs) → DpAll X.K F1 vs ds → post X.K W c σ F1 (qA X.K Q) ((mBind mr fun ys => mPure (ds ++ ys)) ρ1) → ∃ p xs, v = V.ref p ∧ (SqT X.K H1 p xs ∨ SqL X.K H1 p xs) ∧ tA X.K W mr σ H1 fun ys H2 => Q (xs ++ ys) H2 := by
    intro q vs ds hv hq hd h2
    refine ⟨q, vs, hv, hq, c, F1, ρ1, ok1, post_mono ?_ (post_bind h2)⟩
    rintro ys H2 F2 _ ⟨ρ2, ok2, s2, h3⟩ ws rw'
    exact post_ok (W := W) h3 ok2 _ (DpAll.append (DpAll.mono s2 hd) rw')
  cases d with
  | list ds =>
    obtain ⟨q, vs, rfl, hp, dp⟩ := Pk.lst ok1.sub rv
    exact main q vs ds rfl (.inr hp) dp h1
  | tuple ds =>
    obtain ⟨q, vs, rfl, hp, dp⟩ := Pk.tup ok1.sub rv
    exact main q vs ds rfl (.inl hp) dp h1
  | _ => exact (h1 : False).elim
end
end Dd

namespace Dd
open PySem PySem.Spec L2
/-! ### a, b, .. = a list -/
section
variable {X : Cx} {W : WX} {pos : Pos}
def gLstD (n : Nat) (gs : List D → M Unit) : D → M Unit
  | .list ds => if ds.length = n then gs ds else mStuck
  | _ => mStuck
theorem dgLst {es : List Expr} {k : Nat} {gs : List D → M Unit} {n : Nat} (hc : X.calm = true) (h : PGs X es (tGs X.K W gs)) (hn : (assignEach es X.env).length = n := by rfl) (hst : (assignEach es X.env).findIdx? (·.1) = none := by rfl) : PG X (.Tuple es k pos) (tG X.K W (gLstD n gs)) :=
  PG.imp (pg_lst hc h hn hst) (by
  rintro v σ H Q ⟨c, F, ρ, d, ok, r, h⟩
  unfold gLstD at h
  split at h
  · split at h
    · rename_i hl
      obtain ⟨p, vs, rfl, hp, dp⟩ := Pk.lst ok.sub (.inl r)
      exact ⟨p, vs, rfl, hp, by rw [DpAll.length dp]; exact hl, c, F, ρ, _, ok, dp, h⟩
    · exact h.elim
  · exact h.elim)
end
end Dd

namespace Dd
open PySem PySem.Spec L2 PySem.W
/-! ### min(a list of ints, default=d) -/
def rMinDef (K : PySem.W.Frag) : List V → List V → Hp → VK → Prop := fun vs zs H Q => ∃ (a : Addr) (ns : List Int) (d : V), vs = [V.ref a] ∧ zs = [d] ∧ SqL K H a (ns.map V.int) ∧
  Q (match ns with | [] => d | n :: r => .int (r.foldl min n)) H
theorem alikeAll_ints (ns : List Int) : AlikeAll (ns.map PyData.int) := by
  refine ⟨fun x hx y hy => ?_, fun x hx => ?_⟩
  · obtain ⟨i, _, rfl⟩ := List.mem_map.mp hx
    obtain ⟨j, _, rfl⟩ := List.mem_map.mp hy
    rfl
  · obtain ⟨i, _, rfl⟩ := List.mem_map.mp hx
    exact fun z => by cases z
theorem depth_ints : ∀ ns : List Int, PyData.depthAll (ns.map PyData.int) = 0
  | [] => by simp [PyData.depthAll]
  | n :: ns => by
    rw [List.map_cons]
    simp [PyData.depthAll, PyData.depth, depth_ints ns]
section
variable {X : Cx}
theorem cr_minDef (hc : X.calm = true) (hu : X.A.units + 64 < cLine) : CallRK X (.builtin "min") [Str.ofString "default"] (rMinDef X.K) := by
  intro pins s σ H xs zs us ws Q I rx rz h
  obtain ⟨a, ns, d, rfl, rfl, hs, q⟩ := h
  obtain ⟨its, rv, hl, hz⟩ := I.list hs
  obtain ⟨u, rfl, ru⟩ := vals1 rx
  obtain rfl : u = Value.ref a := ru
  obtain ⟨w, rfl, rw'⟩ := vals1 rz
  have hi := rv.ints
  show wpAny _ _ (call (.builtin "min") [.ref a] [(Str.ofString "default", w)]) _ _ s
  refine min_list_default (I.ok.hd hc) hl.isList (xs := ns.map PyData.int) (as := []) (PyProof.Rows.ints_readAll s.heap hi) (alikeAll_ints ns) (by rw [depth_ints]; omega) (fun e h' tk hk => ?_) fun y ys i v h' tk bs e hv hr hk => ?_
  · have e' : ns = [] := by cases ns with
      | nil => rfl
      | cons n r => cases e
    subst e'
    exact ⟨d, H, I.kept (t' := tk) hk, rw', q⟩
  · cases ns with
    | nil => cases e
    | cons n r =>
      injection e with e1 e2
      subst e1 e2
      rw [minD_ints] at hr
      cases hr
      exact ⟨.int (r.foldl min n), H, I.kept (t' := tk) hk, ⟨_, rfl⟩, q⟩
def minDefD : D → Option D
  | .list ds => (toInts ds).map fun ns => match ns with
    | [] => .none
    | n :: r => .int (r.foldl min n)
  | _ => none
variable {W : WX} {a : Expr} {m : M D} {p pos kp np : Pos} {jj : Nat}
def mMinDef (m : M D) : M D := mBind m fun d => mLift (minDefD d)
theorem dMinDef (hc : X.calm = true) (hu : X.A.units + 64 < cLine) (hm : X.mg "min" = none) (ha : PE X a (tP X.K W m)) (hg : Gl X "min" := by rfl) (hbi : bootBuiltins "min" = some (.builtin "min") := by decide +kernel)
    (hs : starEach (a :: []) X.env = (false, eval a X.env) :: starEach [] X.env := by rfl)
    (he : backTo pos (starEach (a :: []) X.env) = (false, eval a X.env) :: backTo pos (starEach [] X.env) := by rfl) (hpl : (backTo pos (starEach (a :: []) X.env)).any (·.1) = false := by rfl)
    (hall : (backToKw pos (keywordEach [⟨some "default", .Constant .none jj np, kp⟩] X.env)).all (·.1.isSome) = true := by rfl) (hnone : (backToKw pos (keywordEach [⟨some "default", .Constant .none jj np, kp⟩] X.env)).any (·.1.isNone) = false := by rfl) (hks : (backToKw pos (keywordEach [⟨some "default", .Constant .none jj np, kp⟩] X.env)).filterMap (·.1) = [Str.ofString "default"] := by rfl) :
    PE X (.Call (.Name "min" p) [a] [⟨some "default", .Constant .none jj np, kp⟩] pos) (tE X.K W (mMinDef m)) :=
  PE.imp (pe_callBK (cr_minDef hc hu) hg hm hbi (pa_cons ha pa_nil hs) (pk_cons pe_non pk_nil) (by decide) (by decide) he hpl hall hnone hks) (by
  rintro σ H Q ⟨c, F, ρ, ok, h⟩
  refine ⟨c, F, ρ, ok, post_mono ?_ (post_bind h)⟩
  rintro d H1 F1 _ ⟨ρ1, ok1, s1, h1⟩ v rv
  show rMinDef X.K [v] [.non] H1 Q
  obtain ⟨d', e, h2⟩ := post_lift h1
  unfold minDefD at e
  split at e
  · rename_i ds
    cases e2 : toInts ds with
    | none => rw [e2] at e; cases e
    | some ns =>
      rw [e2] at e
      cases e
      obtain ⟨q, vs, rfl, hp, dp⟩ := Pk.lst ok1.sub rv
      rw [toInts_eq e2] at dp
      rw [DpAll.ints dp] at hp
      refine ⟨q, ns, .non, rfl, rfl, hp, ?_⟩
      cases ns with
      | nil => exact h2 H1 F1 ok1 (Same.refl F1) _ .non
      | cons n r => exact h2 H1 F1 ok1 (Same.refl F1) _ (.int _)
  · cases e)
end
end Dd

namespace Dd
open PySem PySem.Spec L2
/-! ### slices -/
def cutL (ds : List D) (lo hi : Option Int) : List D := (ds.drop (HT.sIx ds.length 0 lo)).take (HT.sIx ds.length ds.length hi - HT.sIx ds.length 0 lo)
def slD : D → Option Int → Option Int → Option D
  | .list ds, lo, hi => some (.list (cutL ds lo hi))
  | .tuple ds, lo, hi => some (.tuple (cutL ds lo hi))
  | .str z, lo, hi => if fit z.length = true then some (.str (cutS z lo hi)) else none
  | _, _, _ => none
def intO : D → Option (Option Int)
  | .int i => some (some i)
  | _ => none
def mNoPart : M (Option Int) := mPure none
def mPart (m : M D) : M (Option Int) := mBind m fun d => mLift (intO d)
section
variable {X : Cx} {W : WX} {K : PySem.W.Frag} {σ : St} {H F : Hp} {ρ : En} {c : Ct}
def tO (K : PySem.W.Frag) (W : WX) (m : M (Option Int)) : TO := fun σ H Q => ∃ c F ρ, Ok K c σ H F ρ ∧ post K W c σ F (fun o H' _ => Q o H') (m ρ)
theorem PO.imp {e : Option Expr} {t t' : TO} (h : PO X e t) (k : ∀ σ H Q, t' σ H Q → t σ H Q) : PO X e t' := ⟨fun pins s σ H Q I q => h.run pins s σ H Q I (k σ H Q q)⟩
theorem dNoPart : PO X none (tO X.K W mNoPart) := PO.imp po_none (by
  rintro σ H Q ⟨c, F, ρ, ok, h⟩
  exact post_ok h ok)
theorem dPart {e : Expr} {m : M D} (h : PE X e (tE X.K W m)) : PO X (some e) (tO X.K W (mPart m)) := PO.imp (po_some h) (by
  rintro σ H Q ⟨c, F, ρ, ok, h⟩
  refine ⟨c, F, ρ, ok, post_mono ?_ (post_bind h)⟩
  rintro d H1 F1 _ ⟨ρ1, ok1, s1, h1⟩ v rv
  obtain ⟨o, e, h2⟩ := post_lift h1
  cases d with
  | int i =>
    cases e
    cases rv
    exact ⟨i, rfl, post_ok h2 ok1⟩
  | _ => cases e)
theorem DpAll.cut {vs : List V} {ds : List D} (h : DpAll K F vs ds) (lo hi : Option Int) : DpAll K F (cutV vs lo hi) (cutL ds lo hi) := by
  unfold cutV cutL
  rw [DpAll.length h]
  exact DpAll.take _ (DpAll.drop _ h)
def rSlAll (K : PySem.W.Frag) : V → Option Int → Option Int → Hp → VK → Prop := fun x lo hi H Q => rSlL K x lo hi H Q ∨ (rSlA K x lo hi H Q ∨ rSlS x lo hi H Q)
theorem sl_all' : SlR X (rSlAll X.K) := SlR.or sl_list (SlR.or sl_tupA sl_str)
theorem cutL_whole {ds : List D} {lo hi : Option Int} (h : HT.sIx ds.length 0 lo = 0 ∧ HT.sIx ds.length ds.length hi = ds.length) : cutL ds lo hi = ds := by
  unfold cutL
  rw [h.1, h.2]
  simp
theorem sl_of {W : WX} {x : V} {a d : D} {lo hi : Option Int} {Q : VK} (ok : Ok K c σ H F ρ) (rx : Pk K H F x a) (e : slD a lo hi = some d) (q : post K W c σ F (qE K Q) (some (.ok d ρ))) : rSlAll K x lo hi H Q := by
  cases a with
  | list ds =>
    cases e
    obtain ⟨p, vs, rfl, hp, dp⟩ := Pk.lst ok.sub rx
    exact .inl ⟨p, vs, rfl, hp, fun p hp => new_lst ok (DpAll.cut dp lo hi) q p hp⟩
  | tuple ds =>
    cases e
    obtain ⟨p, vs, rfl, hp, dp⟩ := Pk.tup ok.sub rx
    refine .inr (.inl ⟨p, vs, rfl, hp, fun z => ?_, fun _ p hp => new_tup ok (DpAll.cut dp lo hi) q p hp⟩)
    rw [DpAll.length dp] at z
    rw [cutL_whole z] at q
    rcases rx with rx | ⟨_, _, _, _, e, _⟩
    · exact post_ok q ok _ rx
    · cases e
  | str z =>
    unfold slD at e
    dsimp only at e
    split at e
    · rename_i hf
      cases e
      exact .inr (.inr ⟨z, rx.str, fit_le hf, post_ok q ok _ (.str _)⟩)
    · cases e
  | _ => cases e
def mSl (ma : M D) (ml mh : M (Option Int)) : M D := mBind ma fun a => mBind ml fun l => mBind mh fun h => mLift (slD a l h)
def mSlL (i : Nat) (ml mh : M (Option Int)) : M D := mBind (mPeek i) fun _ => mBind ml fun l => mBind mh fun h => mBind (mPeek i) fun a => mLift (slD a l h)
variable {ma : M D} {ml mh : M (Option Int)} {a : Expr} {lo hi : Option Expr} {pos p2 : Pos}
theorem tSl_of {Q : VK} (h : tE K W (mSl ma ml mh) σ H Q) : tSl (rSlAll K) (tE K W ma) (tO K W ml) (tO K W mh) σ H Q := by
  obtain ⟨c, F, ρ, ok, h⟩ := h
  refine ⟨c, F, ρ, ok, post_mono ?_ (post_bind h)⟩
  rintro a H1 F1 _ ⟨ρ1, ok1, s1, h1⟩ x rx
  refine ⟨c, F1, ρ1, ok1, post_mono ?_ (post_bind h1)⟩
  rintro l H2 F2 _ ⟨ρ2, ok2, s2, h2⟩
  refine ⟨c, F2, ρ2, ok2, post_mono ?_ (post_bind h2)⟩
  rintro u H3 F3 _ ⟨ρ3, ok3, s3, h3⟩
  obtain ⟨d, e, h4⟩ := post_lift h3
  exact sl_of ok3 (.inl (Dp.mono (s2.trans s3) rx)) e h4
theorem tSl_ofL {i : Nat} {Q : VK} (h : tE K W (mSlL i ml mh) σ H Q) : tSl (rSlAll K) (tVar i) (tO K W ml) (tO K W mh) σ H Q := by
  obtain ⟨c, F, ρ, ok, h⟩ := h
  obtain ⟨v, _, ev, _, h⟩ := post_peek ok h
  refine ⟨v, ev, c, F, ρ, ok, post_mono ?_ (post_bind h)⟩
  rintro l H2 F2 _ ⟨ρ2, ok2, s2, h2⟩
  refine ⟨c, F2, ρ2, ok2, post_mono ?_ (post_bind h2)⟩
  rintro u H3 F3 _ ⟨ρ3, ok3, s3, h3⟩
  obtain ⟨v', a, ev', pk, h3⟩ := post_peek ok3 h3
  obtain ⟨d, e, h4⟩ := post_lift h3
  have ee : v' = v := by rw [ev] at ev'; cases ev'; rfl
  subst ee
  exact sl_of ok3 pk e h4
theorem dSl (ha : PE X a (tE X.K W ma)) (hl : PO X lo (tO X.K W ml)) (hh : PO X hi (tO X.K W mh)) : PE X (.Subscript a (.Slice lo hi none p2) pos) (tE X.K W (mSl ma ml mh)) := PE.imp (pe_slice sl_all' ha hl hh) fun _ _ _ => tSl_of
theorem dSlL {i : Nat} (ha : PE X a (tVar i)) (hl : PO X lo (tO X.K W ml)) (hh : PO X hi (tO X.K W mh)) : PE X (.Subscript a (.Slice lo hi none p2) pos) (tE X.K W (mSlL i ml mh)) := PE.imp (pe_slice sl_all' ha hl hh) fun _ _ _ => tSl_ofL
/-! .. of a list, a new one -/
def slN : D → Option Int → Option Int → Option (List D)
  | .list ds, lo, hi => some (cutL ds lo hi)
  | _, _, _ => none
def mSlN (ma : M D) (ml mh : M (Option Int)) : M (List D) := mBind ma fun a => mBind ml fun l => mBind mh fun h => mLift (slN a l h)
def mSlNL (i : Nat) (ml mh : M (Option Int)) : M (List D) := mBind (mPeek i) fun _ => mBind ml fun l => mBind mh fun h => mBind (mPeek i) fun a => mLift (slN a l h)
theorem slN_of {W : WX} {x : V} {a : D} {ds : List D} {lo hi : Option Int} {Q : VK} (ok : Ok K c σ H F ρ) (rx : Pk K H F x a) (e : slN a lo hi = some ds) (q : postN K W c σ F Q (some (.ok ds ρ))) : rSlL K x lo hi H Q := by
  cases a with
  | list ds =>
    cases e
    obtain ⟨p, vs, rfl, hp, dp⟩ := Pk.lst ok.sub rx
    exact ⟨p, vs, rfl, hp, fun p hp => new_N ok (DpAll.cut dp lo hi) q p hp⟩
  | _ => cases e
theorem tSlN_of {Q : VK} (h : tN K W (mSlN ma ml mh) σ H Q) : tSl (rSlL K) (tE K W ma) (tO K W ml) (tO K W mh) σ H Q := by
  obtain ⟨c, F, ρ, ok, h⟩ := h
  refine ⟨c, F, ρ, ok, post_mono ?_ (postN_bind h)⟩
  rintro a H1 F1 _ ⟨ρ1, ok1, s1, h1⟩ x rx
  refine ⟨c, F1, ρ1, ok1, post_mono ?_ (postN_bind h1)⟩
  rintro l H2 F2 _ ⟨ρ2, ok2, s2, h2⟩
  refine ⟨c, F2, ρ2, ok2, post_mono ?_ (postN_bind h2)⟩
  rintro u H3 F3 _ ⟨ρ3, ok3, s3, h3⟩
  obtain ⟨d, e, h4⟩ := postN_lift h3
  exact slN_of ok3 (.inl (Dp.mono (s2.trans s3) rx)) e h4
theorem post_peekN {i : Nat} {Q : VK} {f : D → M (List D)} (ok : Ok K c σ H F ρ) (h : postN K W c σ F Q (mBind (mPeek i) f ρ)) : ∃ v d, σ[i]? = some (some v) ∧ Pk K H F v d ∧ postN K W c σ F Q (f d ρ) := by
  unfold mBind mPeek at h
  cases e : ρ[i]? with
  | none => rw [e] at h; exact h.elim
  | some u =>
    rw [e] at h
    cases u with
    | un => exact h.elim
    | val d =>
      obtain ⟨v, a1, a2⟩ := ok.val i d e
      exact ⟨v, d, a1, .inl a2, h⟩
    | own ds =>
      obtain ⟨p, vs, a1, a2, a3, _⟩ := ok.own i ds e
      exact ⟨.ref p, _, a1, .inr ⟨p, vs, ds, rfl, rfl, a2, a3⟩, h⟩
    | io ds =>
      obtain ⟨_, p, vs, _, a1, a2, a3⟩ := ok.ios i ds e
      exact ⟨.ref p, _, a1, .inr ⟨p, vs, ds, rfl, rfl, a2, a3⟩, h⟩
    | scr ns => exact h.elim
    | dct _ => exact h.elim
theorem tSlN_ofL {i : Nat} {Q : VK} (h : tN K W (mSlNL i ml mh) σ H Q) : tSl (rSlL K) (tVar i) (tO K W ml) (tO K W mh) σ H Q := by
  obtain ⟨c, F, ρ, ok, h⟩ := h
  obtain ⟨v, _, ev, _, h⟩ := post_peekN ok h
  refine ⟨v, ev, c, F, ρ, ok, post_mono ?_ (postN_bind h)⟩
  rintro l H2 F2 _ ⟨ρ2, ok2, s2, h2⟩
  refine ⟨c, F2, ρ2, ok2, post_mono ?_ (postN_bind h2)⟩
  rintro u H3 F3 _ ⟨ρ3, ok3, s3, h3⟩
  obtain ⟨v', a, ev', pk, h3⟩ := post_peekN ok3 h3
  obtain ⟨d, e, h4⟩ := postN_lift h3
  have ee : v' = v := by rw [ev] at ev'; cases ev'; rfl
  subst ee
  exact slN_of ok3 pk e h4
theorem dSlN (ha : PE X a (tE X.K W ma)) (hl : PO X lo (tO X.K W ml)) (hh : PO X hi (tO X.K W mh)) : PE X (.Subscript a (.Slice lo hi none p2) pos) (tN X.K W (mSlN ma ml mh)) := PE.imp (pe_slice sl_list ha hl hh) fun _ _ _ => tSlN_of
theorem dSlNL {i : Nat} (ha : PE X a (tVar i)) (hl : PO X lo (tO X.K W ml)) (hh : PO X hi (tO X.K W mh)) : PE X (.Subscript a (.Slice lo hi none p2) pos) (tN X.K W (mSlNL i ml mh)) := PE.imp (pe_slice sl_list ha hl hh) fun _ _ _ => tSlN_ofL
/-! ### a list turned round -/
def revO : D → Option (List D)
  | .list ds => some ds.reverse
  | _ => none
def mRevN (m : M D) : M (List D) := mBind m fun d => mLift (revO d)
variable {k : Nat} {p1 p3 : Pos}
theorem dRevN (ha : PE X a (tP X.K W ma)) : PE X (.Subscript a (.Slice none none (some (.UnaryOp .USub (.Constant (.int 1) k p1) p2)) p3) pos) (tN X.K W (mRevN ma)) := PE.imp (pe_revL ha) (by
  rintro σ H Q ⟨c, F, ρ, ok, h⟩
  refine ⟨c, F, ρ, ok, post_mono ?_ (postN_bind h)⟩
  rintro a H1 F1 _ ⟨ρ1, ok1, s1, h1⟩ x rx
  obtain ⟨ds, e, h2⟩ := postN_lift h1
  cases a with
  | list es =>
    cases e
    obtain ⟨p, vs, rfl, hp, dp⟩ := Pk.lst ok1.sub rx
    exact ⟨p, vs, rfl, hp, fun p hp => new_N ok1 (DpAll.reverse dp) h2 p hp⟩
  | _ => cases e)
end
end Dd

namespace Dd
open PySem PySem.Spec L2 PyProof.Rows
/-! ### the law's own def, at the caller that calls it: there nothing is being shown (no guard stands) -/
def LawFn (P : Program) (w : World) (K : PySem.W.Frag) (mg : Str → Option Value) (base : Heap) (f : Addr) (fd : FuncData) (p : Str) (k : Nat) (g : List Int → Option (Rs D)) : Prop :=
  ∀ (s : Shared) (H : Hp) (a : Addr) (ns : List Int), Room k callerA → Env0 P w K mg base callerA [] s H → BindsTo s fd ⟨[.ref a], []⟩ [(p, .ref a)] → SqL K H a (ns.map V.int) → g ns = some (.ok (.bool true)) →
    codeAny (model P w) callerA (.call (.ref f) ⟨[.ref a], []⟩) (CR (L2.CX P w) [] P w H s (fun v _ => v = .bl true) fun _ _ _ => False) s
section
variable {P : Program} {w : World} {K : PySem.W.Frag} {mg : Str → Option Value} {base : Heap} {x qual p : Str} {st : Stmt} {f : Addr} {fd : FuncData} {N : List Str} {k : Nat} {m : M Fl} {sc : Scope} {bd : List Stmt}
abbrev BodyG (P : Program) (w : World) (K : PySem.W.Frag) (mg : Str → Option Value) (base : Heap) (qual : Str) (sc : Scope) (bd : List Stmt) (f : Addr) (N : List Str) (k : Nat) (m : M Fl) : Prop :=
  ∀ (cdv : Value) (s : Shared) (H : Hp) (E : XK), Room k (callerA.deeper (envOfC qual sc s.heap.objs.size f cdv)) →
    PSs (cxOf (L2.CX P w) P w K mg base N qual sc f cdv callerA [] s H E) bd (tS K (fun cls d _ H => E cls d H) m)
theorem lawFn_of (Fn : Fun K x qual st f fd) (S : FnScope N [p] (defScope st)) (h1 : defScope st = sc) (h2 : defBody st = bd) (hb : BodyG P w K mg base qual sc bd f N k m) : LawFn P w K mg base f fd p (k + 1) (runL m N.length) := by
  subst h1 h2
  intro s H a ns room e0 bind sq done
  obtain ⟨oc, od, kV, doc, pm, an, cdv, ct, osl, rfl, at_f, code⟩ := Fn.ex
  have inK : K.In s.heap := e0.mod.kin.keeps fun b o e => (e0.bs b o e).1
  have par : ∀ y ∈ [(p, Value.ref a)], (defScope st).names.lookup y.1 = some .local ∨ ((defScope st).names.lookup y.1 = some .cell ∧ ((cellsFrom (s.heap.objs.size + 1) (defScope st).names []).lookup y.1).isSome = true) := by
    intro y hy
    rw [List.mem_singleton.mp hy]
    exact (S.par p (by simp)).imp id fun z => ⟨z, PySem.W.cellsFrom_some _ _ _ (.inl z)⟩
  refine codeAny_call_function room.depth (inK _ _ at_f) rfl S.co S.gen rfl (PySem.W.codeRec_of inK code) (bind _ _ _ _ ?_)
  refine wpAny_newFunctionEnv_cells S.kind par ?_
  rintro env rfl s1 y
  have nolim : s.heap.NoLimit := e0.mod.nolimit.keeps fun b o e => (e0.bs b o e).1
  refine ⟨nolim.keeps y.toInCall.keep, codeAny_func ?_⟩
  have run := hb cdv s H (fun _ _ _ => False) (room.deeper _)
  have J := inv_start (CX := L2.CX P w) (qual := qual) (f := f) (cd := cdv) (E := fun _ _ _ => False) (vs := [V.ref a]) S room.hd e0 rfl (.cons rfl .nil) y
  have goal : tS K (fun cls d _ H => (fun _ _ _ => False : XK) cls d H) m { nx := fun _ H' => (fun v (_ : Hp) => v = V.bl true) .non H', rt := fun v _ => v = V.bl true } (L2.start N [V.ref a]) H := by
    refine ⟨_, fun _ => none, _, startS_ok (F := fun _ => none) (ds := []) (fun b o e => by cases e) sq .nil (FnScope.le S), ?_⟩
    unfold runL at done
    cases e : m (env0S N.length ns []) with
    | none => rw [e] at done; cases done
    | some q =>
      rw [e] at done
      match q, done with
      | .ok (.rt d) ρ', done =>
        cases done
        intro σ' v H' F' _ _ rv
        cases rv
        rfl
      | .ok .nx ρ', done => cases done
      | .ok .bk ρ', done => cases done
      | .ok .ct ρ', done => cases done
      | .ok (.rf es) ρ', done => cases done
      | .ex z ρ', done => cases done
  refine wpAny_mono (run.run [] s1 _ H _ J goal) ?_ fun e s' hs => hs
  intro fl s' hs
  match fl, hs with
  | .ret u, ⟨v, σ', H', J', rv, q⟩ => exact ⟨v, H', J'.os, J'.bare, J'.base, J'.hok, rv, q⟩
  | .next, ⟨σ', H', J', q⟩ => exact ⟨V.non, H', J'.os, J'.bare, J'.base, J'.hok, rfl, q⟩
  | .brk, ⟨_, _, _, q⟩ => exact q.elim
  | .cont, ⟨_, _, _, q⟩ => exact q.elim
end
section
variable {P : Program} {w : World} {K : PySem.W.Frag} {mg mb : Str → Option Value} {f a : Addr} {fd : FuncData} {p : Str} {k : Nat} {g : List Int → Option (Rs D)} {s : Shared} {us : List Value} {ns : List Int}
/-- the script's object -/
def scrO (us : List Value) : Obj := { cls := .type "list", data := .seq us.toArray }
/-- what is tracked: nothing, or the script alone -/
structure Trk (K : PySem.W.Frag) (h : Heap) (a : Addr) (us : List Value) (ns : List Int) (H : Hp) : Prop where
  only : ∀ b u, H b = some u → b = a ∧ u = .frz (scrO us) (.lst (ns.map V.int)) ∧ K.lookup a = none
  seq : SqL K H a (ns.map V.int)
theorem trk_free {h : Heap} {H : Hp} (T : Trk K h a us ns H) {b : Addr} (e : b ≠ a ∨ K.lookup a ≠ none) : H b = none := by
  cases q : H b with
  | none => rfl
  | some u =>
    obtain ⟨z, _, l⟩ := T.only b u q
    rcases e with e | e
    · exact absurd z e
    · exact absurd l e
theorem trk_ex (inK : K.In s.heap) (obj : s.heap.get? a = some (scrO us)) (hints : IntsAre us ns) (fits : ns.length ≤ sizeLine) : ∃ H, Trk K s.heap a us ns H ∧ HOk P w H s.heap := by
  have vals := vals_ints hints
  have len := hints.length
  by_cases hk : K.lookup a = none
  · refine ⟨fun b => if b = a then some (.frz (scrO us) (.lst (ns.map V.int))) else none, ⟨fun b u e => ?_, .inl (.inr ⟨scrO us, if_pos rfl⟩)⟩, fun b u e => ?_⟩
    · by_cases hb : b = a
      · rw [if_pos hb] at e
        exact ⟨hb, (Option.some.inj e).symm, hk⟩
      · rw [if_neg hb] at e; cases e
    · by_cases hb : b = a
      · subst hb
        dsimp only at e
        rw [if_pos rfl] at e
        cases e
        exact ⟨obj, by rw [List.length_map]; exact fits, us, _, vals, obj⟩
      · dsimp only at e
        rw [if_neg hb] at e; cases e
  · obtain ⟨o, ho⟩ := Option.ne_none_iff_exists'.mp hk
    have e := inK a o ho
    rw [obj] at e
    cases e
    exact ⟨fun _ => none, ⟨fun b u e => (by cases e), .inr ⟨_, us.toArray, _, ho, rfl, rfl, rfl, by rw [List.size_toArray, len]; exact fits, by simpa using vals⟩⟩, fun b u e => (by cases e)⟩
theorem law_run (inK : K.In s.heap) (main : s.heap.Ns mainGlobals mg) (blt : s.heap.Ns builtinsNs mb) (boot : ∀ x : Str, x ≠ "__name__" → mb x = bootBuiltins x) (lim : s.heap.NoLimit) (gens : s.gens = #[])
    (obj : s.heap.get? a = some (scrO us)) (hints : IntsAre us ns) (fits : ns.length ≤ sizeLine) (room : Room k callerA)
    (F : ∀ base : Heap, K.In base → base.Ns mainGlobals mg → LawFn P w K mg base f fd p k g) (bind : ∀ (s : Shared) (u : Value), BindsTo s fd ⟨[u], []⟩ [(p, u)]) (done : g ns = some (.ok (.bool true))) :
    codeAny (model P w) callerA (.call (.ref f) ⟨[.ref a], []⟩) (fun r s' => r = .ok (.ret (.bool true)) ∧ OldK s.heap s'.heap ∧ s'.os = s.os ∧ AllBare s'.gens) s := by
  obtain ⟨H, T, ok⟩ := trk_ex (P := P) (w := w) inK obj hints fits
  have isList : ∀ {o : Obj}, s.heap.get? a = some o → ∀ es n, o.data ≠ .dict es n := fun {o} e es n d => by
    rw [obj] at e; cases e; cases d
  have shown : ∀ {b : Addr} {m : Str → Option Value}, s.heap.Ns b m → (hidT s.heap H).Ns b m := by
    rintro b m ⟨o, es, n, e, d, r⟩
    exact ⟨o, es, n, hidT_get e (trk_free T (.inl fun z => isList (z ▸ e) es n d)), d, r⟩
  have inKb : K.In (hidT s.heap H) := fun b o e => by
    refine hidT_get (inK b o e) (trk_free T ?_)
    by_cases z : b = a
    · exact .inr fun y => by rw [← z, e] at y; cases y
    · exact .inl z
  obtain ⟨mc, n1, n2⟩ := lim
  have mod : Mod K mg (hidT s.heap H) := ⟨inKb, shown main, ⟨mb, shown blt, boot⟩, ⟨mc, shown n1, n2⟩⟩
  have e0 : Env0 P w K mg (hidT s.heap H) callerA [] s H := ⟨rfl, mod, fun b o e => of_hidT e, (by rw [hidT_size]; exact Nat.le_refl _), trivial, fun b z => (by cases z), ok, .of_eq gens⟩
  refine codeAny_mono (F _ inKb (shown main) s H a ns room e0 (bind s (.ref a)) T.seq done) fun r s' h => ?_
  match r, h with
  | .error e, h => exact (hCX0 h).elim
  | .ok .next, h => exact h.elim
  | .ok .brk, h => exact h.elim
  | .ok .cont, h => exact h.elim
  | .ok (.ret u), ⟨v, H', os, bare, un, ok', rv, q⟩ =>
    subst q
    obtain rfl : u = Value.bool true := rv
    refine ⟨rfl, OldK.of_keep fun b o e => ?_, os, bare⟩
    cases y : H b with
    | none => exact un.keep b o e y (fun z => by cases z) fun z => by cases z
    | some u =>
      obtain ⟨rfl, rfl, _⟩ := T.only b u y
      have z := (ok' b _ (un.frzs b _ _ y)).1
      rw [obj] at e
      cases e
      exact z
end
theorem walk_ofG {l : PySem.W.OpenLaw} {n k : Nat} {q : Program} {loose : List Str} {XP : (Str → Option Value) → Heap → Prop} {YP : World → Heap → Prop} {d : DefRec} {K : Params → PySem.W.Frag} {p : Str} {g : List Int → Option (Rs D)}
    (most : l.most = some n) (small : n ≤ sizeLine) (noDef : d.params.defaults = []) (room : Room k callerA) (inK : ∀ (w : World) (h : Heap), YP w h → (K w.params).In h)
    (F : ∀ (w : World) (mg : Str → Option Value) (f : Addr) (h : Heap), (K w.params).In h → h.Ns mainGlobals mg → mg d.name = some (.ref f) →
      ∃ fd : FuncData, (∀ (s : Shared) (u : Value), BindsTo s fd ⟨[u], []⟩ [(p, u)]) ∧ ∀ base : Heap, (K w.params).In base → base.Ns mainGlobals mg → LawFn l.prog w (K w.params) mg base f fd p k g)
    (done : ∀ ns : List Int, ns.length ≤ n → g ns = some (.ok (.bool true))) : PySem.W.WalkO q loose XP YP l.row.toRowW d [] (fun f vs => PySem.call f vs) := by
  refine Att.attach_call most noDef ?_
  intro w s₀ s₁ mg mb f o pm cd doc a vs ns G Y _ _ _ hmg hobj hints hlen hg
  obtain ⟨fd, bind, hF⟩ := F w mg f _ (inK w _ Y) G.T.g hmg
  exact law_run (inK w _ Y) G.T.g G.T.b G.T.builtins G.T.nolimit hg hobj hints (Nat.le_trans hlen small) room hF bind (done ns hlen)
/-! ### what is shown: repr of anything that is read -/
section
variable {X : Cx} {K : PySem.W.Frag}
def rShow (K : PySem.W.Frag) : List V → Hp → VK → Prop := fun xs H Q => ∃ (a : Addr) (d : D), xs = [.ref a] ∧ L2.Dp K H (.ref a) d ∧ d.showable = true ∧ d.hasDict = false ∧ d.depth ≤ 60 ∧ d.shown.length ≤ sizeLine ∧ Q (.str d.shown) H
theorem cr_show (hg : X.A.guards = some []) (hu : X.A.units + 64 < cLine) : CallR X (.builtin "repr") (rShow X.K) := by
  intro pins s σ H xs us Q I rv h
  obtain ⟨a, d, rfl, dp, sh, nd, dep, len, q⟩ := h
  cases rv with
  | cons r1 r2 =>
    cases r2
    obtain ⟨as, rd⟩ := L2.Dp.reads I d _ _ dp r1
    cases r1
    exact repr_of_reads' rd sh (fun z => by rw [nd] at z; cases z) hg (by omega) (fun b o e => e) (fun h' u tk k => ⟨.str d.shown, H, I.kept k, ⟨_, rfl⟩, q⟩) len
def showOk : D → Bool
  | .list ds => (PyData.list ds).showable && !(PyData.list ds).hasDict && decide ((PyData.list ds).depth ≤ 60) && fit (PyData.list ds).shown.length
  | .tuple ds => (PyData.tuple ds).showable && !(PyData.tuple ds).hasDict && decide ((PyData.tuple ds).depth ≤ 60) && fit (PyData.tuple ds).shown.length
  | _ => false
def showD : List D → Option D
  | [d] => if showOk d = true then some (.str d.shown) else none
  | _ => none
theorem showOk_ref {d : D} (h : showOk d = true) : d.showable = true ∧ d.hasDict = false ∧ d.depth ≤ 60 ∧ d.shown.length ≤ sizeLine ∧ ((∃ ds, d = .list ds) ∨ ∃ ds, d = .tuple ds) := by
  cases d with
  | list ds =>
    simp only [showOk, Bool.and_eq_true, Bool.not_eq_true', decide_eq_true_eq] at h
    exact ⟨h.1.1.1, h.1.1.2, h.1.2, fit_le h.2, .inl ⟨_, rfl⟩⟩
  | tuple ds =>
    simp only [showOk, Bool.and_eq_true, Bool.not_eq_true', decide_eq_true_eq] at h
    exact ⟨h.1.1.1, h.1.1.2, h.1.2, fit_le h.2, .inr ⟨_, rfl⟩⟩
  | _ => cases h
theorem cd_show : CallD K (rShow K) showD := by
  intro W c σ H F ρ xs ds d Q ok r e q
  unfold showD at e
  split at e
  · rename_i d'
    split at e
    · rename_i hs
      cases e
      obtain ⟨x, rfl, pk⟩ := pk1 r
      obtain ⟨h1, h2, h3, h4, h5⟩ := showOk_ref hs
      have dp := Pk.dp ok.sub pk
      have hx : ∃ a, x = .ref a := by
        rcases h5 with ⟨es, rfl⟩ | ⟨es, rfl⟩
        · obtain ⟨p, _, e, _⟩ := Pk.lst ok.sub pk; exact ⟨p, e⟩
        · obtain ⟨p, _, e, _⟩ := Pk.tup ok.sub pk; exact ⟨p, e⟩
      obtain ⟨a, rfl⟩ := hx
      exact ⟨a, d', rfl, dp, h1, h2, h3, h4, post_ok q ok _ (.str _)⟩
    · cases e
  · cases e
def reprG : List D → Option D := cOr reprD showD
theorem cd_reprG : CallD K (rOr rRepr (rShow K)) reprG := callD_or cd_repr cd_show
theorem cr_reprG (hg : X.A.guards = some []) (hu : X.A.units + 64 < cLine) : CallR X (.builtin "repr") (rOr rRepr (rShow X.K)) := CallR.or cr_repr (cr_show hg hu)
end
end Dd

namespace Dd
open PySem PySem.Spec L2 PyProof.Rows
/-! ### bits -/
section
variable {K : PySem.W.Frag}
def andD : D → D → Option D := iI fun i j => .int (Builtin.bitAnd i j)
def orD : D → D → Option D := iI fun i j => .int (Builtin.bitOr i j)
def xorD : D → D → Option D := iI fun i j => .int (Builtin.bitXor i j)
theorem opD_and : OpD K (rI0 fun i j => .int (Builtin.bitAnd i j)) andD := opD_I fun _ _ _ => .int _
theorem opD_or_ : OpD K (rI0 fun i j => .int (Builtin.bitOr i j)) orD := opD_I fun _ _ _ => .int _
theorem opD_xor : OpD K (rI0 fun i j => .int (Builtin.bitXor i j)) xorD := opD_I fun _ _ _ => .int _
def cShr (_ j : Int) : Bool := decide (0 ≤ j)
def shrD : D → D → Option D := iIc cShr fun i j => .int (i / 2 ^ j.toNat)
theorem opD_shr : OpD K (rI (fun _ j => 0 ≤ j) fun i j => .int (i / 2 ^ j.toNat)) shrD := opD_Ic (fun _ _ h => of_decide_eq_true h) fun _ _ _ => .int _
def shlD : D → D → Option D := iIc cPow fun i j => .int (i * 2 ^ j.toNat)
theorem cPow_ok (i j : Int) (h : cPow i j = true) : CPow i j := by
  simp only [cPow, Bool.and_eq_true, decide_eq_true_eq] at h
  exact ⟨h.1.1, h.1.2, h.2⟩
theorem opD_shl : OpD K (rI CPow fun i j => .int (i * 2 ^ j.toNat)) shlD := opD_Ic cPow_ok fun _ _ _ => .int _
theorem opD_mulI : OpD K (rI CMul fun i j => .int (i * j)) mulI := opD_Ic cMul_ok fun _ _ _ => .int _
end
/-! ### a slice by steps, of a list -/
def pickL {α : Type} (ds : List α) (lo hi st : Option Int) : List α := (sliceRange (sliceBounds lo hi st ds.length).1 (sliceBounds lo hi st ds.length).2.1 (sliceBounds lo hi st ds.length).2.2).filterMap (ds[·]?)
section
variable {K : PySem.W.Frag} {F : Hp}
theorem picks_dp {vs : List V} {ds : List D} (h : DpAll K F vs ds) : ∀ idx : List Nat, DpAll K F (idx.filterMap (vs[·]?)) (idx.filterMap (ds[·]?))
  | [] => .nil
  | i :: idx => by
    have ih := picks_dp h idx
    cases e : ds[i]? with
    | none =>
      have l := DpAll.length h
      have e2 : vs[i]? = none := List.getElem?_eq_none (by rw [l]; exact List.getElem?_eq_none_iff.mp e)
      rw [List.filterMap_cons_none (by exact e2), List.filterMap_cons_none (by exact e)]
      exact ih
    | some d =>
      obtain ⟨v, e2, r⟩ := DpAll.getd h e
      rw [List.filterMap_cons_some (by exact e2), List.filterMap_cons_some (by exact e)]
      exact .cons r ih
theorem DpAll.pick {vs : List V} {ds : List D} (h : DpAll K F vs ds) (lo hi st : Option Int) : DpAll K F (pickL vs lo hi st) (pickL ds lo hi st) := by
  unfold pickL
  rw [DpAll.length h]
  exact picks_dp h _
theorem vals_get {xs : List V} {us : List Value} (r : Vals xs us) : ∀ i : Nat, (xs[i]? = none ∧ us[i]? = none) ∨ ∃ x u, xs[i]? = some x ∧ us[i]? = some u ∧ RelV x u := by
  induction r with
  | nil => intro i; exact .inl ⟨by simp, by simp⟩
  | cons h _ ih =>
    intro i
    cases i with
    | zero => exact .inr ⟨_, _, rfl, rfl, h⟩
    | succ i => simpa using ih i
theorem picks_vals {xs : List V} {us : List Value} (r : Vals xs us) : ∀ idx : List Nat, Vals (idx.filterMap (xs[·]?)) (idx.filterMap (us[·]?))
  | [] => .nil
  | i :: idx => by
    rcases vals_get r i with ⟨e1, e2⟩ | ⟨x, u, e1, e2, h⟩
    · rw [List.filterMap_cons_none (by exact e1), List.filterMap_cons_none (by exact e2)]
      exact picks_vals r idx
    · rw [List.filterMap_cons_some (by exact e1), List.filterMap_cons_some (by exact e2)]
      exact .cons h (picks_vals r idx)
end
def tStep (K : PySem.W.Frag) (te : TE) (tl : TO) (k : Int) : TE := fun σ H Q => te σ H fun x H1 => tl σ H1 fun l H2 => ∃ a xs, x = .ref a ∧ SqL K H2 a xs ∧ (pickL xs l none (some k)).length ≤ sizeLine ∧ ∀ p, H2 p = none → Q (.ref p) (upd H2 p (.lst (pickL xs l none (some k))))
section
variable {X : Cx} {e : Expr} {te : TE} {tl : TO} {lo : Option Expr} {k : Int} {j : Option Str} {p1 p3 pos : Pos}
theorem pe_step {kk : Nat} (k0 : k ≠ 0) (he : PE X e te) (hl : PO X lo tl) : PE X (.Subscript e (.Slice lo none (some (.Constant (.int k) kk p1)) p3) pos) (tStep X.K te tl k) := by
  refine ⟨fun pins s σ H Q I h => ?_⟩
  refine Subscript_ (thn (he.run pins s σ H _ I h) ?_)
  rintro v s1 ⟨x, H1, I1, rv, q1⟩
  refine wpAny_Slice (thn (hl.run pins s1 σ H1 _ I1 q1) ?_)
  rintro vl s2 ⟨l, H2, I2, pl, q2⟩
  refine thn (po_none.run pins s2 σ H2 (fun o H3 => o = none ∧ H3 = H2) I2 ⟨rfl, rfl⟩) ?_
  rintro vu s3 ⟨u, H3, I3, pu, rfl, rfl⟩
  refine thn ((po_some (pe_int (i := k) (j := kk) (pos := p1))).run pins s3 σ H3 (fun o H4 => o = some k ∧ H4 = H3) I3 ⟨k, rfl, rfl, rfl⟩) ?_
  rintro vs s4 ⟨o, H4, I4, ps, rfl, rfl⟩
  obtain ⟨a, xs, rfl, sq, fits, q⟩ := q2
  cases rv
  have I5 : Inv X pins σ H4 { s4 with heap := s4.heap.push { cls := .type "slice", data := .fields #[vl, vu, vs] } } := I4.kept (t' := s4.toks) fun b ob y => Heap.get?_push_of_some _ y
  obtain ⟨its, r, ht, hz⟩ := I5.list sq
  have len := r.length
  show wpAny (model X.prog X.w) X.A (subscriptTail e (.Slice lo none (some (.Constant (.int k) kk p1)) p3) (.ref a) (.ref s4.heap.objs.size)) (EP X pins σ Q) X.xe { s4 with heap := s4.heap.push { cls := .type "slice", data := .fields #[vl, vu, vs] } }
  refine tail_any (ops := [.ref a, .ref s4.heap.objs.size]) ht.isList.typeIs (PySem.slot_list_getitem.lookup) ?_ (by with_unfolding_all rfl)
  refine wpAny_getItem_list_slice ht.isList (Heap.IsSliceOf.new _ vl vu vs) pl pu ps (by intro z; exact k0 (Option.some.inj z)) ?_ (by rw [List.size_toArray]; omega)
  have same : slicePick its.toArray l none (some k) = (pickL its l none (some k)).toArray := by
    unfold slicePick pickL
    simp
  rw [same]
  refine ⟨.ref _, _, I5.laid (t' := s4.toks) (o := .lst (pickL xs l none (some k))) (fun b ob y => Heap.get?_push_of_some _ y) (Nat.le_refl _) ?_, rfl, q _ (I5.hok.fresh (Nat.le_refl _))⟩
  refine ⟨fits, _, 0, ?_, Heap.get?_push_size _ rfl⟩
  unfold pickL
  rw [len]
  exact picks_vals r _
end
def stepO (k : Int) : D → Option Int → Option (List D)
  | .list ds, lo => if fit (pickL ds lo none (some k)).length = true then some (pickL ds lo none (some k)) else none
  | _, _ => none
def mStepN (k : Int) (m : M D) (ml : M (Option Int)) : M (List D) := mBind m fun d => mBind ml fun l => mLift (stepO k d l)
section
variable {X : Cx} {W : WX} {e : Expr} {lo : Option Expr} {m : M D} {ml : M (Option Int)} {k : Int} {p1 p3 pos : Pos} {kk : Nat}
theorem dStepN (k0 : k ≠ 0) (he : PE X e (tE X.K W m)) (hl : PO X lo (tO X.K W ml)) : PE X (.Subscript e (.Slice lo none (some (.Constant (.int k) kk p1)) p3) pos) (tN X.K W (mStepN k m ml)) := PE.imp (pe_step k0 he hl) (by
  rintro σ H Q ⟨c, F, ρ, ok, h⟩
  refine ⟨c, F, ρ, ok, post_mono ?_ (postN_bind h)⟩
  rintro d H1 F1 _ ⟨ρ1, ok1, s1, h1⟩ x rx
  refine ⟨c, F1, ρ1, ok1, post_mono ?_ (postN_bind h1)⟩
  rintro l H2 F2 _ ⟨ρ2, ok2, s2, h2⟩
  obtain ⟨ds, e, h3⟩ := postN_lift h2
  cases d with
  | list es =>
    unfold stepO at e
    dsimp only at e
    split at e
    · rename_i hf
      cases e
      obtain ⟨p, vs, rfl, hp, dp⟩ := Pk.lst ok2.sub (.inl (Dp.mono s2 rx))
      refine ⟨p, vs, rfl, hp, ?_, fun p hp => new_N ok2 (DpAll.pick dp l none (some k)) h3 p hp⟩
      rw [DpAll.length (DpAll.pick dp l none (some k))]
      exact fit_le hf
    · cases e
  | _ => cases e)
end
/-! ### list + list, a new one -/
def catN : D → D → Option (List D)
  | .list xs, .list ys => if fit (xs.length + ys.length) = true then some (xs ++ ys) else none
  | _, _ => none
def mCatN (ma mb : M D) : M (List D) := mBind ma fun a => mBind mb fun b => mLift (catN a b)
def mCatNL (i : Nat) (mb : M D) : M (List D) := mBind (mPeek i) fun _ => mBind mb fun b => mBind (mPeek i) fun a => mLift (catN a b)
section
variable {X : Cx} {W : WX} {K : PySem.W.Frag} {c : Ct} {σ : L2.St} {F H : Hp} {ρ : En} {ma mb : M D} {a b : Expr} {pos : Pos}
theorem catN_of {x y : V} {a b : D} {ds : List D} {Q : VK} (ok : Ok K c σ H F ρ) (rx : Pk K H F x a) (ry : Pk K H F y b) (e : catN a b = some ds) (q : postN K W c σ F Q (some (.ok ds ρ))) : rCatS x y H Q := by
  unfold catN at e
  split at e
  · rename_i xs ys
    split at e
    · rename_i hf
      cases e
      obtain ⟨p, vs, rfl, hp, dp⟩ := Pk.rd ok.sub rx
      obtain ⟨p2, vs2, rfl, hp2, dp2⟩ := Pk.rd ok.sub ry
      exact ⟨p, p2, vs, vs2, rfl, rfl, hp, hp2, by rw [DpAll.length dp, DpAll.length dp2]; exact fit_le hf, fun p hp => new_N ok (DpAll.append dp dp2) q p hp⟩
    · cases e
  · cases e
theorem dCatN (ha : PE X a (tE X.K W ma)) (hb : PE X b (tP X.K W mb)) : PE X (.BinOp a .Add b pos) (tN X.K W (mCatN ma mb)) := PE.imp (pe_op op_catS ha hb) (by
  rintro σ H Q ⟨c, F, ρ, ok, h⟩
  refine ⟨c, F, ρ, ok, post_mono ?_ (postN_bind h)⟩
  rintro a H1 F1 _ ⟨ρ1, ok1, s1, h1⟩ x rx
  refine ⟨c, F1, ρ1, ok1, post_mono ?_ (postN_bind h1)⟩
  rintro b H2 F2 _ ⟨ρ2, ok2, s2, h2⟩ y ry
  obtain ⟨ds, e, h3⟩ := postN_lift h2
  exact catN_of ok2 (.inl (Dp.mono s2 rx)) ry e h3)
theorem dCatNL {i : Nat} (ha : PE X a (tVar i)) (hb : PE X b (tP X.K W mb)) : PE X (.BinOp a .Add b pos) (tN X.K W (mCatNL i mb)) := PE.imp (pe_op op_catS ha hb) (by
  rintro σ H Q ⟨c, F, ρ, ok, h⟩
  obtain ⟨v, _, ev, _, h⟩ := post_peekN ok h
  refine ⟨v, ev, c, F, ρ, ok, post_mono ?_ (postN_bind h)⟩
  rintro b H2 F2 _ ⟨ρ2, ok2, s2, h2⟩ y ry
  obtain ⟨v', a, ev', pk, h3⟩ := post_peekN ok2 h2
  obtain ⟨ds, e, h4⟩ := postN_lift h3
  have ee : v' = v := by rw [ev] at ev'; cases ev'; rfl
  subst ee
  exact catN_of ok2 pk ry e h4)
end
end Dd

namespace Dd
open PySem PySem.Spec L2 PyProof.Rows
/-! ### sum of a tuple of ints -/
theorem preSum_get (ns : List Int) : ∀ n : Nat, n ≤ ns.length → preSum (fun j => ns.getD j 0) n = (ns.take n).sum
  | 0, _ => rfl
  | n + 1, h => by
    have ih := preSum_get ns n (by omega)
    show preSum (fun j => ns.getD j 0) n + ns.getD n 0 = _
    rw [ih, List.take_succ, List.getElem?_eq_getElem (show n < ns.length by omega), List.sum_append, List.getD_eq_getElem?_getD, List.getElem?_eq_getElem (show n < ns.length by omega)]
    simp
theorem ints_get {us : List Value} {ns : List Int} (r : Vals (ns.map V.int) us) {i : Nat} {v : Value} (e : us[i]? = some v) : ∃ t, v = .int (ns.getD i 0) t := by
  rcases vals_get r i with ⟨_, e2⟩ | ⟨x, u, e1, e2, h⟩
  · rw [e2] at e; cases e
  · rw [e2] at e
    cases e
    rw [List.getElem?_map] at e1
    cases q : ns[i]? with
    | none => rw [q] at e1; cases e1
    | some n =>
      rw [q] at e1
      cases e1
      obtain ⟨t, rfl⟩ := h
      exact ⟨t, by rw [List.getD_eq_getElem?_getD, q]; rfl⟩
def rSumT (K : PySem.W.Frag) : List V → Hp → VK → Prop := fun xs H Q => ∃ (a : Addr) (ns : List Int), xs = [V.ref a] ∧ SqT K H a (ns.map V.int) ∧ Q (.int ns.sum) H
section
variable {X : Cx} {K : PySem.W.Frag}
theorem cr_sumT (hc : X.calm = true) : CallR X (.builtin "sum") (rSumT X.K) := by
  intro pins s σ H xs us Q I rv h
  obtain ⟨a, ns, rfl, sq, q⟩ := h
  obtain ⟨its, r, tup, _⟩ := I.tuple sq
  rw [Vals.ref1 rv]
  have calm : X.A.in1.handled = none := I.ok.hd hc
  have lt : a < s.heap.objs.size := by
    obtain ⟨o, e, _⟩ := show s.heap.IsTuple a its.toArray from tup
    exact Heap.lt_size e
  have len : its.length = ns.length := by rw [← r.length, List.length_map]
  refine call_sum_walkG (wpAny_pyIter_tuple (show s.heap.IsTuple a its.toArray from tup) ?_)
  refine ⟨_, _, _, _, _, _, fun j => ns.getD j 0, rfl, Walks.tuple (A := X.A.in1) calm s.heap.objs.size a (Nat.ne_of_lt lt) its.toArray, ⟨⟨_, Heap.get?_push_size _ rfl, rfl, rfl⟩, ?_⟩, ?_, fun i v e => ints_get r (by simpa using e), ?_⟩
  · exact (show s.heap.IsTuple a its.toArray from tup).at fun o e => Heap.get?_push_of_some _ e
  · intro b hb
    show b < (s.heap.push _).objs.size
    rw [Heap.size_push]
    simp only [List.mem_cons, List.not_mem_nil, or_false] at hb
    rcases hb with rfl | rfl
    · exact Nat.lt_succ_self _
    · exact Nat.lt_succ_of_lt lt
  · intro h' tk t' keep
    have e : preSum (fun j => ns.getD j 0) its.toArray.size = ns.sum := by
      rw [List.size_toArray, len, preSum_get ns _ (Nat.le_refl _), List.take_length]
    rw [e]
    refine ⟨.int ns.sum, H, I.kept fun b o y => ?_, ⟨_, rfl⟩, q⟩
    refine keep b o ?_ (Heap.get?_push_of_some _ y)
    intro z
    have z' : b = s.heap.objs.size := by simpa using z
    exact absurd (Heap.lt_size y) (by rw [z']; exact Nat.lt_irrefl _)
def sumT : List D → Option D
  | [.tuple ds] => (toInts ds).map fun ns => .int ns.sum
  | _ => none
theorem cd_sumT : CallD K (rSumT K) sumT := by
  intro W c σ H F ρ xs ds d Q ok r e q
  unfold sumT at e
  split at e
  · rename_i es
    cases q2 : toInts es with
    | none => rw [q2] at e; cases e
    | some ns =>
      rw [q2] at e
      cases e
      obtain ⟨x, rfl, pk⟩ := pk1 r
      obtain ⟨p, vs, rfl, hp, dp⟩ := Pk.tup ok.sub pk
      have e1 := toInts_eq q2
      subst e1
      have e2 := DpAll.ints dp
      subst e2
      exact ⟨p, ns, rfl, hp, post_ok q ok _ (.int _)⟩
  · cases e
def sumA : List D → Option D := cOr sumD sumT
theorem cr_sumA (hc : X.calm = true) : CallR X (.builtin "sum") (rOr (rSum X.K) (rSumT X.K)) := CallR.or (cr_sum hc) (cr_sumT hc)
theorem cd_sumA : CallD K (rOr (rSum K) (rSumT K)) sumA := callD_or cd_sum cd_sumT
end
/-! ### a slice by steps of a list that stands in a slot -/
def mStepNL (k : Int) (i : Nat) (ml : M (Option Int)) : M (List D) := mBind (mPeek i) fun _ => mBind ml fun l => mBind (mPeek i) fun d => mLift (stepO k d l)
section
variable {X : Cx} {W : WX} {e : Expr} {lo : Option Expr} {ml : M (Option Int)} {k : Int} {p1 p3 pos : Pos} {kk : Nat}
theorem dStepNL {i : Nat} (k0 : k ≠ 0) (he : PE X e (tVar i)) (hl : PO X lo (tO X.K W ml)) : PE X (.Subscript e (.Slice lo none (some (.Constant (.int k) kk p1)) p3) pos) (tN X.K W (mStepNL k i ml)) := PE.imp (pe_step k0 he hl) (by
  rintro σ H Q ⟨c, F, ρ, ok, h⟩
  obtain ⟨v, _, ev, _, h⟩ := post_peekN ok h
  refine ⟨v, ev, c, F, ρ, ok, post_mono ?_ (postN_bind h)⟩
  rintro l H2 F2 _ ⟨ρ2, ok2, s2, h2⟩
  obtain ⟨v', d, ev', pk, h3⟩ := post_peekN ok2 h2
  obtain ⟨ds, e, h4⟩ := postN_lift h3
  have ee : v' = v := by rw [ev] at ev'; cases ev'; rfl
  subst ee
  cases d with
  | list es =>
    unfold stepO at e
    dsimp only at e
    split at e
    · rename_i hf
      cases e
      obtain ⟨p, vs, rfl, hp, dp⟩ := Pk.lst ok2.sub pk
      refine ⟨p, vs, rfl, hp, ?_, fun p hp => new_N ok2 (DpAll.pick dp l none (some k)) h4 p hp⟩
      rw [DpAll.length (DpAll.pick dp l none (some k))]
      exact fit_le hf
    · cases e
  | _ => cases e)
end
end Dd

namespace Dd
open PySem PySem.Spec L2 PyProof.Rows
variable {K : PySem.W.Frag}
/-! ### zip of a list and a tuple, whichever is first -/
/-- a list (false) or a tuple (true), and an iterator of it -/
def SqB (K : PySem.W.Frag) : Bool → Hp → Addr → List V → Prop
  | false, H, a, xs => SqL K H a xs
  | true, H, a, xs => SqT K H a xs
def IsB : Bool → Heap → Addr → Array Value → Prop
  | false, h, a, its => h.IsList a its
  | true, h, a, its => h.IsTuple a its
def ItB : Bool → Heap → Addr → Addr → Nat → Prop
  | false, h, i, a, k => h.IsListIter i a k
  | true, h, i, a, k => h.IsTupleIter i a k
theorem ItB.at {b : Bool} {h h' : Heap} {i a : Addr} {k : Nat} (t : ItB b h i a k) (e : ∀ o, h.get? i = some o → h'.get? i = some o) : ItB b h' i a k := by
  cases b
  · exact Heap.IsListIter.at t e
  · exact Heap.IsTupleIter.at t e
theorem ItB.obj {b : Bool} {h : Heap} {i a : Addr} {k : Nat} (t : ItB b h i a k) : ∃ o, h.get? i = some o ∧ ∀ v, o.data ≠ .cell v := by
  cases b
  · obtain ⟨o, e, _, d⟩ := t
    exact ⟨o, e, fun v q => by rw [d] at q; cases q⟩
  · obtain ⟨o, e, _, d⟩ := t
    exact ⟨o, e, fun v q => by rw [d] at q; cases q⟩
theorem IsB.lt {b : Bool} {h : Heap} {a : Addr} {its : Array Value} (t : IsB b h a its) : a < h.objs.size := by
  cases b
  · obtain ⟨o, e, _⟩ := t
    exact Heap.lt_size e
  · obtain ⟨o, e, _⟩ := t
    exact Heap.lt_size e
theorem sqB_inv {X : Cx} {pins : List (Addr × Obj)} {σ : L2.St} {H : Hp} {s : Shared} {b : Bool} {a : Addr} {xs : List V} (I : Inv X pins σ H s) (h : SqB X.K b H a xs) : ∃ its : List Value, Vals xs its ∧ IsB b s.heap a its.toArray := by
  cases b
  · obtain ⟨its, rv, p, _⟩ := I.list h
    exact ⟨its, rv, p.isList⟩
  · obtain ⟨its, rv, p, _⟩ := I.tuple h
    exact ⟨its, rv, p⟩
theorem sqB_inj {X : Cx} {pins : List (Addr × Obj)} {σ : L2.St} {H : Hp} {s : Shared} {b : Bool} {a : Addr} {xs ys : List V} (I : Inv X pins σ H s) (h : SqB X.K b H a xs) (h' : SqB X.K b H a ys) : xs = ys := by
  cases b
  · exact I.list_inj h h'
  · exact I.tuple_inj h h'
theorem drawsB {prog : Program} {w : World} {A : Around} (hh : A.handled = none) (b : Bool) (it l : Addr) (hne : l ≠ it) (items : Array Value) :
    Draws prog w A it [it, l] items.size (fun i v => items[i]? = some v) (fun i h => ItB b h it l i ∧ IsB b h l items) := by
  cases b
  · exact Draws.list hh it l hne items
  · exact Draws.tuple hh it l hne items
theorem sepB {z TI TO i1 i2 a b : Addr} (D : ZipApart z TI TO i1 i2 a b) : ZipSep2 z TI TO i1 i2 [i1, a] [i2, b] where
  TIz := D.TIz
  TOz := D.TOz
  TITO := D.TITO
  TIi1 := D.TIi1
  mem1 := by simp
  zf1 := by simp [D.i1z.symm, D.l1z.symm]
  Tf1 := by simp [D.TOi1, D.l1TO.symm]
  TIi2 := D.TIi2
  mem2 := by simp
  zf2 := by simp [D.i2z.symm, D.l2z.symm]
  Tf2 := by simp [D.TOi2, D.l2TO.symm]
  sep1_2 := by simp [D.i12, D.l2i1.symm]
  sep2_1 := by simp [D.i12.symm, D.l1i2.symm]
/-- the items of both in new pairs -/
def Itzb (K : PySem.W.Frag) (b1 b2 : Bool) (a b : Addr) (n1 n2 : Nat) : It :=
  ⟨fun i H => ∃ (xs ys : List V) (x y : V), SqB K b1 H a xs ∧ SqB K b2 H b ys ∧ xs.length = n1 ∧ ys.length = n2 ∧ xs[i]? = some x ∧ ys[i]? = some y,
    fun i H v H' => ∃ T x y, v = .ref T ∧ H T = none ∧ H' = upd H T (.tup [x, y]) ∧ (∀ xs, SqB K b1 H a xs → xs[i]? = some x) ∧ ∀ ys, SqB K b2 H b ys → ys[i]? = some y,
    fun i H => ∃ xs ys : List V, SqB K b1 H a xs ∧ SqB K b2 H b ys ∧ xs.length = n1 ∧ ys.length = n2 ∧ (n1 ≤ i ∨ n2 ≤ i)⟩
theorem in1_handled {A : Around} (h : A.handled = none) : A.in1.handled = none := h
theorem turn_zipB {P : Program} {w : World} {elts : List Expr} {kk : Nat} {tpos : Pos} {b1 b2 : Bool} {a b z TI TO i1 i2 : Addr} {n1 n2 : Nat} (D : ZipApart z TI TO i1 i2 a b) :
    Turn P w K (.Tuple elts kk tpos) (Itzb K b1 b2 a b n1 n2) [z, TI, TO, i1, i2] z (fun i h => IsZip h z TI TO .none ∧ IsTupOf2 h TI (.ref i1) (.ref i2) ∧ (∃ x y, IsTupOf2 h TO x y) ∧ ItB b1 h i1 a i ∧ ItB b2 h i2 b i ∧ i ≤ n1 ∧ i ≤ n2) where
  mem := by simp
  obj := fun i h st c hc => by
    obtain ⟨hz, hTI, ⟨x, y, hTO⟩, h1, h2, hn1, hn2⟩ := st
    have e' : c = z ∨ c = TI ∨ c = TO ∨ c = i1 ∨ c = i2 := by simpa using hc
    rcases e' with rfl | rfl | rfl | rfl | rfl
    · exact ⟨_, hz, fun v q => nomatch q⟩
    · exact ⟨_, hTI, fun v q => nomatch q⟩
    · exact ⟨_, hTO, fun v q => nomatch q⟩
    · exact h1.obj
    · exact h2.obj
  keep := fun i h h' st k => by
    obtain ⟨hz, hTI, ⟨x, y, hTO⟩, h1, h2, hn1, hn2⟩ := st
    exact ⟨k z (by simp) _ hz, k TI (by simp) _ hTI, ⟨x, y, k TO (by simp) _ hTO⟩, h1.at fun o q => k i1 (by simp) o q, h2.at fun o q => k i2 (by simp) o q, hn1, hn2⟩
  item := by
    intro X hP hw hK hc i pins s σ H E I hf st hg
    subst hP hw hK
    obtain ⟨hz, hTI, ⟨x0, y0, hTO⟩, h1, h2, hn1, hn2⟩ := st
    obtain ⟨xs, ys, x, y, hqx, hqy, ln1, ln2, hx, hy⟩ := hg
    obtain ⟨its, rv, p⟩ := sqB_inv I hqx
    obtain ⟨its2, rv2, p2⟩ := sqB_inv I hqy
    obtain ⟨u, hu, ru⟩ := rv.get hx
    obtain ⟨u2, hu2, ru2⟩ := rv2.get hy
    have hzl : z < s.heap.objs.size := Heap.lt_size hz
    have hh := in1_handled (I.ok.hd hc)
    have lt1 : i < its.toArray.size := by
      have := (List.getElem?_eq_some_iff.mp hu).1
      simpa using this
    have lt2 : i < its2.toArray.size := by
      have := (List.getElem?_eq_some_iff.mp hu2).1
      simpa using this
    refine wpAny_pyNext_zipD2_item (sepB D) (drawsB hh b1 i1 a D.l1i1 its.toArray) (drawsB hh b2 i2 b D.l2i2 its2.toArray) hz hTI hTO ⟨h1, p⟩ ⟨h2, p2⟩ lt1 lt2 fun x1 x2 h' tk q1 q2 z' TO' d1 d2 hT hsz hk => ?_
    have ex1 : x1 = u := by
      have : its.toArray[i]? = some u := by simpa using hu
      rw [this] at q1
      exact (Option.some.inj q1).symm
    have ex2 : x2 = u2 := by
      have : its2.toArray[i]? = some u2 := by simpa using hu2
      rw [this] at q2
      exact (Option.some.inj q2).symm
    subst ex1 ex2
    refine ⟨_, rfl, wpAny_letOwnedTupleGo_zip (s := { s with heap := h', toks := tk }) z' fun h'' z'' sb => ?_⟩
    have hT2 : h''.get? s.heap.objs.size = some { cls := .type "tuple", data := .seq #[x1, x2] } := (sb.2 _ (Nat.ne_of_gt hzl)).trans hT
    have new : ObjOk X.prog X.w (upd H s.heap.objs.size (.tup [x, y])) h'' s.heap.objs.size (.tup [x, y]) :=
      ⟨by show 2 ≤ sizeLine; decide, [x1, x2], .cons ru (.cons ru2 .nil), ⟨_, hT2, rfl, _, rfl⟩⟩
    have I1 : Inv X pins σ (upd H s.heap.objs.size (.tup [x, y])) { s with heap := h'', toks := tk } :=
      I.turnedNew (t' := tk) (ch := [z, TI, TO, i1, i2]) (fun c o hb q => (sb.2 c (fun q' => hb (by simp [q']))).trans (hk c o (fun q' => hb (by simp [q'])) (fun q' => hb (by simp [q'])) (fun q' => hb (by simp [q'])) (fun q' => hb (by simp [q'])) q)) hf (Nat.le_refl _) new
    refine ⟨.ref s.heap.objs.size, _, I1, rfl, ⟨_, x, y, rfl, I.hok.fresh (Nat.le_refl _), rfl, fun l hl => by rw [sqB_inj I hl hqx]; exact hx, fun l hl => by rw [sqB_inj I hl hqy]; exact hy⟩, ⟨z'', ?_, ⟨x1, x2, ?_⟩, ?_, ?_, ?_, ?_⟩, fun c hcm => ?_⟩
    · exact (sb.2 _ D.TIz).trans (hk _ _ D.TIz D.TITO D.TIi1 D.TIi2 hTI)
    · exact (sb.2 _ D.TOz).trans TO'
    · exact d1.1.at fun o q => (sb.2 _ D.i1z).trans q
    · exact d2.1.at fun o q => (sb.2 _ D.i2z).trans q
    · have := (List.getElem?_eq_some_iff.mp hx).1; omega
    · have := (List.getElem?_eq_some_iff.mp hy).1; omega
    · have hlt : c < s.heap.objs.size := by
        have e' : c = z ∨ c = TI ∨ c = TO ∨ c = i1 ∨ c = i2 := by simpa using hcm
        rcases e' with rfl | rfl | rfl | rfl | rfl
        · exact hzl
        · exact Heap.lt_size hTI
        · exact Heap.lt_size hTO
        · obtain ⟨_, e1, _⟩ := h1.obj; exact Heap.lt_size e1
        · obtain ⟨_, e2, _⟩ := h2.obj; exact Heap.lt_size e2
      rw [upd_ne (Nat.ne_of_lt hlt)]
      exact (hf c hcm).1
  done := by
    intro X hP hw hK hc i pins s σ H E I hf st hg
    subst hP hw hK
    obtain ⟨hz, hTI, ⟨x0, y0, hTO⟩, h1, h2, hn1, hn2⟩ := st
    obtain ⟨xs, ys, hqx, hqy, ln1, ln2, hend⟩ := hg
    obtain ⟨its, rv, p⟩ := sqB_inv I hqx
    obtain ⟨its2, rv2, p2⟩ := sqB_inv I hqy
    have l1 := rv.length
    have l2 := rv2.length
    have hh := in1_handled (I.ok.hd hc)
    refine wpAny_pyNext_zipD2_end (sepB D) (drawsB hh b1 i1 a D.l1i1 its.toArray) (drawsB hh b2 i2 b D.l2i2 its2.toArray) hz hTI hTO ⟨h1, p⟩ ⟨h2, p2⟩ (by simp; omega) (by simp; omega) (by simp; omega) fun h' tk hk => ⟨rfl, I.turnedL (t' := tk) (ch := [z, TI, TO, i1, i2]) (fun c o hb q =>
      hk c o (fun q' => hb (by simp [q'])) (fun q' => hb (by simp [q'])) (fun q' => hb (by simp [q'])) (fun q' => hb (by simp [q'])) q) hf⟩
  self := fun A i s Q E st h => wpAny_pyIter_zip st.1 h
/-- iter of a list or a tuple -/
def objB : Bool → Addr → Obj
  | false, l => { cls := .type "list_iterator", data := .fields #[.ref l, .int 0 0] }
  | true, l => { cls := .type "tuple_iterator", data := .fields #[.ref l, .int 0 0] }
theorem beginsB (b : Bool) (l : Addr) (items : Array Value) : Begins (.ref l) (objB b l) fun h => IsB b h l items := by
  cases b
  · exact begins_list l items
  · exact begins_tuple l items
theorem itB_of {b : Bool} {h : Heap} {i l : Addr} (e : h.get? i = some (objB b l)) : ItB b h i l 0 := by
  cases b
  · exact ⟨_, e, rfl, rfl⟩
  · exact ⟨_, e, rfl, rfl⟩
def iZipB (K : PySem.W.Frag) (ta : TA) : TI := fun σ H R => ta σ H fun vs H1 => ∃ b1 b2 a b xs ys, vs = [.ref a, .ref b] ∧ SqB K b1 H1 a xs ∧ SqB K b2 H1 b ys ∧ R (Itzb K b1 b2 a b xs.length ys.length) H1
theorem pi_zipB {X : Cx} {e e2 : Expr} {ta : TA} {p pos tpos : Pos} {elts : List Expr} {kk : Nat} (hg : Gl X "zip") (hm : X.mg "zip" = none) (ha : PA X [e, e2] ta)
    (hs : starEach [e, e2] X.env = (false, eval e X.env) :: starEach [e2] X.env := by rfl) (hpl : (backTo pos (starEach [e2] X.env)).any (·.1) = false := by rfl) :
    PI X (.Tuple elts kk tpos) (.Call (.Name "zip" p) [e, e2] [] pos) (iZipB X.K ta) := by
  refine ⟨fun pins s σ H R I h => ?_⟩
  refine Call_ (ld_blt I hg hm PyProof.Rows.boot_zip (PyProof.Rows.callWith_type1 (thn (ha.run pos pins s σ H _ I h) fun us s1 ⟨vs, H1, I1, r1, q1⟩ => ?_) hs hpl))
  obtain ⟨b1, b2, a, b, xs, ys, ex, hqx, hqy, q⟩ := q1
  subst ex
  cases r1 with
  | cons r rr =>
    cases rr with
    | cons r' rr =>
      cases rr
      cases r
      cases r'
      have fresh5 : ∀ c, c ∈ [s1.heap.objs.size + 4, s1.heap.objs.size + 2, s1.heap.objs.size + 3, s1.heap.objs.size, s1.heap.objs.size + 1] → FpOk X pins H1 c := fun c hcm => by
        have e' : c = s1.heap.objs.size + 4 ∨ c = s1.heap.objs.size + 2 ∨ c = s1.heap.objs.size + 3 ∨ c = s1.heap.objs.size ∨ c = s1.heap.objs.size + 1 := by simpa using hcm
        have hle : s1.heap.objs.size ≤ c := by
          rcases e' with rfl | rfl | rfl | rfl | rfl
          · exact Nat.le_add_right _ _
          · exact Nat.le_add_right _ _
          · exact Nat.le_add_right _ _
          · exact Nat.le_refl _
          · exact Nat.le_add_right _ _
        exact I1.fpOk hle (I1.hok.fresh hle)
      obtain ⟨its, rv, p1⟩ := sqB_inv I1 hqx
      obtain ⟨its2, rv2, p2⟩ := sqB_inv I1 hqy
      refine zip_begins2 (beginsB b1 a its.toArray) (beginsB b2 b its2.toArray) p1 p2 fun h' hz hTI hTO h1 h2 hsz hk => wpAny_pyIter_zip hz ?_
      have I2 : Inv X pins σ H1 { s1 with heap := h' } := I1.kept (t' := s1.toks) hk
      exact ⟨s1.heap.objs.size + 4, [s1.heap.objs.size + 4, s1.heap.objs.size + 2, s1.heap.objs.size + 3, s1.heap.objs.size, s1.heap.objs.size + 1], _, _, H1, rfl, I2, turn_zipB (PySem.W.ktu_apart s1.heap.objs.size a b p1.lt p2.lt), ⟨hz, hTI, ⟨_, _, hTO⟩, itB_of h1, itB_of h2, Nat.zero_le _, Nat.zero_le _⟩, fresh5, q⟩
theorem sqB_mono {F H : Hp} {b : Bool} {a : Addr} {xs : List V} (s : Same F H) (h : SqB K b F a xs) : SqB K b H a xs := by
  cases b
  · rcases h with h | h
    · exact .inl (Rd.mono s h)
    · exact .inr h
  · exact SqT.mono s h
theorem itzB_D {F : Hp} {b1 b2 : Bool} {a b : Addr} {xs ys : List V} {ds es : List D} (h : SqB K b1 F a xs) (hd : DpAll K F xs ds) (h2 : SqB K b2 F b ys) (hd2 : DpAll K F ys es) : ItD K F (Itzb K b1 b2 a b xs.length ys.length) (zipL ds es) where
  go := fun H i s hi => by
    have hl : i < ds.length ∧ i < es.length := by simp [zipL] at hi; omega
    obtain ⟨x, q⟩ : ∃ x, xs[i]? = some x := ⟨xs[i]'(by rw [DpAll.length hd]; exact hl.1), by simp⟩
    obtain ⟨y, q'⟩ : ∃ x, ys[i]? = some x := ⟨ys[i]'(by rw [DpAll.length hd2]; exact hl.2), by simp⟩
    exact ⟨xs, ys, x, y, sqB_mono s h, sqB_mono s h2, rfl, rfl, q, q'⟩
  stop := fun H i s hi => ⟨xs, ys, sqB_mono s h, sqB_mono s h2, rfl, rfl, by rw [DpAll.length hd, DpAll.length hd2]; simp [zipL] at hi; omega⟩
  yld := fun H i x H' d s q y => by
    obtain ⟨T, z, z2, e1, e2, e3, y, y2⟩ := y
    obtain ⟨yd, zd, q1, q1', e4⟩ := zipL_get q
    obtain ⟨v, q2, q3⟩ := DpAll.getd hd q1
    obtain ⟨v2, q2', q3'⟩ := DpAll.getd hd2 q1'
    have q4 := y xs (sqB_mono s h)
    have q5 := y2 ys (sqB_mono s h2)
    rw [q4] at q2
    rw [q5] at q2'
    cases q2
    cases q2'
    exact .inr ⟨T, _, _, e4, e1, e2, e3, .cons q3 (.one q3')⟩
def zipBD : List D → Option (List D)
  | [.list ds, .list es] => some (zipL ds es)
  | [.tuple ds, .tuple es] => some (zipL ds es)
  | [.list ds, .tuple es] => some (zipL ds es)
  | [.tuple ds, .list es] => some (zipL ds es)
  | _ => none
def mZipB (ms : M (List D)) : M (List D) := mBind ms fun ds => mLift (zipBD ds)
def sqOf : D → Option (Bool × List D)
  | .list ds => some (false, ds)
  | .tuple ds => some (true, ds)
  | _ => none
theorem sqOf_dp {F : Hp} {x : V} {d : D} {b : Bool} {ds : List D} (h : Dp K F x d) (e : sqOf d = some (b, ds)) : ∃ a xs, x = .ref a ∧ SqB K b F a xs ∧ DpAll K F xs ds := by
  cases h with
  | lst hr hd => cases e; exact ⟨_, _, rfl, .inl hr, hd⟩
  | tup hr hd => cases e; exact ⟨_, _, rfl, hr, hd⟩
  | _ => cases e
theorem zipBD_of {ds : List D} {out : List D} (e : zipBD ds = some out) : ∃ d d' b b' es es', ds = [d, d'] ∧ sqOf d = some (b, es) ∧ sqOf d' = some (b', es') ∧ out = zipL es es' := by
  unfold zipBD at e
  split at e
  · cases e; exact ⟨_, _, _, _, _, _, rfl, rfl, rfl, rfl⟩
  · cases e; exact ⟨_, _, _, _, _, _, rfl, rfl, rfl, rfl⟩
  · cases e; exact ⟨_, _, _, _, _, _, rfl, rfl, rfl, rfl⟩
  · cases e; exact ⟨_, _, _, _, _, _, rfl, rfl, rfl, rfl⟩
  · cases e
variable {X : Cx} {W : WX} {a b : Expr} {elts : List Expr} {kk : Nat} {p pos tpos : Pos} {ms : M (List D)}
theorem diZipB (hm : X.mg "zip" = none) (ha : PA X [a, b] (tA X.K W ms)) (hg : Gl X "zip" := by rfl) (hs : starEach [a, b] X.env = (false, eval a X.env) :: starEach [b] X.env := by rfl) (hpl : (backTo pos (starEach [b] X.env)).any (·.1) = false := by rfl) :
    PI X (.Tuple elts kk tpos) (.Call (.Name "zip" p) [a, b] [] pos) (tI X.K W (mZipB ms)) := PI.imp (pi_zipB hg hm ha hs hpl) (by
  rintro σ H R ⟨c, F, ρ, ok, h⟩
  refine ⟨c, F, ρ, ok, post_mono ?_ (post_bind h)⟩
  rintro ds H1 F1 _ ⟨ρ1, ok1, s1, h1⟩ vs rv
  obtain ⟨out, e, h2⟩ := post_lift h1
  obtain ⟨d, d', b, b', es, es', e1, e2, e3, e4⟩ := zipBD_of e
  subst e1 e4
  cases rv with
  | cons r t =>
    cases t with
    | cons r' t' =>
      cases t'
      obtain ⟨a, xs, rfl, q1, q2⟩ := sqOf_dp r e2
      obtain ⟨a', xs', rfl, q1', q2'⟩ := sqOf_dp r' e3
      exact ⟨b, b', a, a', xs, xs', rfl, sqB_mono ok1.sub q1, sqB_mono ok1.sub q1', h2 H1 F1 ok1 (Same.refl F1) _ (itzB_D q1 q2 q1' q2')⟩)
end Dd

namespace Dd
open PySem PySem.Spec L2 PyProof.Rows
/-! ### defs that are called where nothing is being shown: what a def promises there -/
structure FnG (P : Program) (w : World) (K : PySem.W.Frag) (mg : Str → Option Value) (base : Heap) (CX : CXT) (k : Nat) (f : Addr) (fd : FuncData) (ps : List Str) (sp : Sp) : Prop where
  len : ∀ vs H Q E, sp vs H Q E → vs.length = ps.length
  run : ∀ (A : Around) (outer : List Env) (s : Shared) (H : Hp) (args : Args) (us : List Value) (vs : List V) (Q : VK) (E : XK), A.guards = some [] → Room k A → Env0 P w K mg base A outer s H → BindsTo s fd args (ps.zip us) → Vals vs us → sp vs H Q E →
    codeAny (model P w) A (.call (.ref f) args) (CR CX outer P w H s Q E) s
theorem FnG.mono {P : Program} {w : World} {K : PySem.W.Frag} {mg : Str → Option Value} {base : Heap} {CX : CXT} {j k : Nat} {f : Addr} {fd : FuncData} {ps : List Str} {sp : Sp} (F : FnG P w K mg base CX j f fd ps sp) (h : j ≤ k) : FnG P w K mg base CX k f fd ps sp :=
  ⟨F.len, fun A outer s H args us vs Q E hg hr => F.run A outer s H args us vs Q E hg (hr.mono h)⟩
section
variable {P : Program} {w : World} {K : PySem.W.Frag} {mg : Str → Option Value} {base : Heap} {x qual : Str} {st : Stmt} {f : Addr} {fd : FuncData} {N ps : List Str} {k : Nat} {m : M Fl} {sc : Scope} {bd : List Stmt}
theorem okXG {sp : Sp} (Fn : Fun K x qual st f fd) (S : FnScope N ps (defScope st)) (len : ∀ vs H Q E, sp vs H Q E → vs.length = ps.length)
    (hbody : ∀ (cdv : Value) (A : Around) (outer : List Env) (s : Shared) (H : Hp) (vs : List V) (Q : VK) (E : XK), A.guards = some [] → Room k (A.deeper (envOfC qual (defScope st) s.heap.objs.size f cdv)) → sp vs H Q E →
      ∃ t, PSs (cxOf (L2.CX P w) P w K mg base N qual (defScope st) f cdv A outer s H E) (defBody st) t ∧ t { nx := fun _ H' => Q .non H', rt := Q } (L2.start N vs) H) : FnG P w K mg base (L2.CX P w) (k + 1) f fd ps sp := by
  obtain ⟨oc, od, kV, doc, pm, an, cdv, ct, osl, rfl, at_f, code⟩ := Fn.ex
  refine ⟨len, fun A outer s H args us vs Q E hgd room e0 bind rv done => ?_⟩
  have inK : K.In s.heap := e0.mod.kin.keeps fun b o e => (e0.bs b o e).1
  have nolim : s.heap.NoLimit := e0.mod.nolimit.keeps fun b o e => (e0.bs b o e).1
  have par : ∀ y ∈ ps.zip us, (defScope st).names.lookup y.1 = some .local ∨ ((defScope st).names.lookup y.1 = some .cell ∧ ((cellsFrom (s.heap.objs.size + 1) (defScope st).names []).lookup y.1).isSome = true) := fun y hy =>
    (S.par y.1 (List.of_mem_zip (a := y.1) (b := y.2) hy).1).imp id fun z => ⟨z, PySem.W.cellsFrom_some _ _ _ (.inl z)⟩
  refine codeAny_call_function room.depth (inK _ _ at_f) rfl S.co S.gen rfl (PySem.W.codeRec_of inK code) (bind _ _ _ _ ?_)
  refine wpAny_newFunctionEnv_cells S.kind par ?_
  rintro env rfl s1 y
  refine ⟨nolim.keeps y.toInCall.keep, codeAny_func ?_⟩
  obtain ⟨t, run, goal⟩ := hbody cdv A outer s H vs Q E hgd (room.deeper _) done
  have J := inv_start (CX := L2.CX P w) (qual := qual) (f := f) (cd := cdv) (E := E) S room.hd e0 (len _ _ _ _ done) rv y
  refine wpAny_mono (run.run [] s1 _ H _ J goal) ?_ fun e s' hs => hs
  intro fl s' hs
  match fl, hs with
  | .ret u, ⟨v, σ', H', J', rv, q⟩ => exact ⟨v, H', J'.os, J'.bare, J'.base, J'.hok, rv, q⟩
  | .next, ⟨σ', H', J', q⟩ => exact ⟨V.non, H', J'.os, J'.bare, J'.base, J'.hok, rfl, q⟩
  | .brk, ⟨_, _, _, q⟩ => exact q.elim
  | .cont, ⟨_, _, _, q⟩ => exact q.elim
abbrev BodyC (P : Program) (w : World) (K : PySem.W.Frag) (mg : Str → Option Value) (base : Heap) (qual : Str) (sc : Scope) (bd : List Stmt) (f : Addr) (N : List Str) (k : Nat) (m : M Fl) : Prop :=
  ∀ (cdv : Value) (A : Around) (outer : List Env) (s : Shared) (H : Hp) (E : XK), A.guards = some [] → Room k (A.deeper (PyProof.Rows.envOfC qual sc s.heap.objs.size f cdv)) →
    PSs (cxOf (L2.CX P w) P w K mg base N qual sc f cdv A outer s H E) bd (tS K (fun cls d _ H => E cls d H) m)
theorem okV2G (Fn : Fun K x qual st f fd) (S : FnScope N ps (defScope st)) (h1 : defScope st = sc) (h2 : defBody st = bd) (hb : BodyC P w K mg base qual sc bd f N k m) : FnG P w K mg base (L2.CX P w) (k + 1) f fd ps (spV K ps.length (runV m N.length)) := by
  subst h1 h2
  refine okXG Fn S (fun vs H Q E h => ?_) (fun cdv A outer s H vs Q E hgd hr h => ⟨_, hb cdv A outer s H E hgd hr, ?_⟩)
  · obtain ⟨F, ds, _, r, hl, _⟩ := h
    rw [DpAll.length r]; exact hl
  · obtain ⟨F, ds, s', r, hl, h⟩ := h
    refine ⟨_, F, _, start_ok s' r (by rw [hl]; exact FnScope.le S), ?_⟩
    unfold runV at h
    cases e : m (env0 N.length ds) with
    | none => rw [e] at h; exact h
    | some q =>
      rw [e] at h
      cases q with
      | ex y ρ' => exact fun σ' cls z H' F' ok _ r' => h cls z F' H' ok.ext r'
      | ok fl ρ' =>
        cases fl with
        | nx => exact fun σ' H' F' ok _ => h .non F' H' ok.ext .non
        | rt d => exact fun σ' v H' F' ok _ r' => h v F' H' ok.ext r'
        | bk => exact h.elim
        | ct => exact h.elim
        | rf _ => exact h.elim
theorem okF2G (Fn : Fun K x qual st f fd) (S : FnScope N ps (defScope st)) (h1 : defScope st = sc) (h2 : defBody st = bd) (hb : BodyC P w K mg base qual sc bd f N k m) : FnG P w K mg base (L2.CX P w) (k + 1) f fd ps (spF K ps.length (runF m N.length)) := by
  subst h1 h2
  refine okXG Fn S (fun vs H Q E h => ?_) (fun cdv A outer s H vs Q E hgd hr h => ⟨_, hb cdv A outer s H E hgd hr, ?_⟩)
  · obtain ⟨F, ds, _, r, hl, _⟩ := h
    rw [DpAll.length r]; exact hl
  · obtain ⟨F, ds, s', r, hl, h⟩ := h
    refine ⟨_, F, _, start_ok s' r (by rw [hl]; exact FnScope.le S), ?_⟩
    unfold runF at h
    cases e : m (env0 N.length ds) with
    | none => rw [e] at h; exact h
    | some q =>
      rw [e] at h
      cases q with
      | ex y ρ' => exact fun σ' cls z H' F' ok _ r' => h cls z F' H' ok.ext r'
      | ok fl ρ' =>
        cases fl with
        | nx => exact h.elim
        | rt d => exact h.elim
        | bk => exact h.elim
        | ct => exact h.elim
        | rf es => exact fun σ' p xs H' F' ok _ hp r' hf h0 => h p xs F' H' ok.ext h0 hf hp r'
theorem okB2G (Fn : Fun K x qual st f fd) (S : FnScope N ps (defScope st)) (h1 : defScope st = sc) (h2 : defBody st = bd) (hb : BodyC P w K mg base qual sc bd f N k m) : FnG P w K mg base (L2.CX P w) (k + 1) f fd ps (spB K ps.length (runB m N.length)) := by
  subst h1 h2
  refine okXG Fn S (fun vs H Q E h => ?_) (fun cdv A outer s H vs Q E hgd hr h => ⟨_, hb cdv A outer s H E hgd hr, ?_⟩)
  · obtain ⟨F, p, bs0, bs, rest, ds, rfl, _, _, _, _, r, hl, _⟩ := h
    rw [List.length_cons, DpAll.length r]; exact hl
  · obtain ⟨F, p, bs0, bs, rest, ds, rfl, s', hF, hp, rb, r, hl, h⟩ := h
    refine ⟨_, F, _, startB_ok s' hF hp rb r (by rw [hl]; exact FnScope.le S), ?_⟩
    have fin : ∀ {σ' H' F' ρ' bs'}, Ok K ⟨F, H, some p, noPr⟩ σ' H' F' (.io bs' :: ρ') → ∃ bs1, H' p = some (.lst bs1) ∧ DpAll K F' bs1 bs' := fun {σ' H' F' ρ' bs'} ok => by
      obtain ⟨_, q, vs, c0, c1, c2, c3⟩ := ok.ios 0 bs' rfl
      have e : some p = some q := c0
      cases e
      exact ⟨vs, c2, c3⟩
    unfold runB at h
    cases e : m (env0B N.length bs ds) with
    | none => rw [e] at h; exact h
    | some q =>
      rw [e] at h
      cases q with
      | ex y ρ' =>
        intro σ' cls z H' F' ok _ r'
        cases ρ' with
        | nil => exact h.elim
        | cons u ρ' =>
          cases u with
          | io bs' =>
            obtain ⟨bs1, b1, b2⟩ := fin ok
            exact h cls z bs1 F' H' ok.extB b1 b2 r'
          | un => exact h.elim
          | val _ => exact h.elim
          | own _ => exact h.elim
          | scr _ => exact h.elim
          | dct _ => exact h.elim
      | ok fl ρ' =>
        cases fl with
        | nx =>
          intro σ' H' F' ok _
          cases ρ' with
          | nil => exact h.elim
          | cons u ρ' =>
            cases u with
            | io bs' =>
              obtain ⟨bs1, b1, b2⟩ := fin ok
              exact h .non bs1 F' H' ok.extB b1 b2 .non
            | un => exact h.elim
            | val _ => exact h.elim
            | own _ => exact h.elim
            | scr _ => exact h.elim
            | dct _ => exact h.elim
        | rt d =>
          intro σ' v H' F' ok _ r'
          cases ρ' with
          | nil => exact h.elim
          | cons u ρ' =>
            cases u with
            | io bs' =>
              obtain ⟨bs1, b1, b2⟩ := fin ok
              exact h v bs1 F' H' ok.extB b1 b2 r'
            | un => exact h.elim
            | val _ => exact h.elim
            | own _ => exact h.elim
            | scr _ => exact h.elim
            | dct _ => exact h.elim
        | bk => exact h.elim
        | ct => exact h.elim
        | rf _ => exact h.elim
theorem okS2G (Fn : Fun K x qual st f fd) (S : FnScope N ps (defScope st)) (h1 : defScope st = sc) (h2 : defBody st = bd) (hb : BodyC P w K mg base qual sc bd f N k m) : FnG P w K mg base (L2.CX P w) (k + 1) f fd ps (spS K ps.length (runS m N.length)) := by
  subst h1 h2
  refine okXG Fn S (fun vs H Q E h => ?_) (fun cdv A outer s H vs Q E hgd hr h => ⟨_, hb cdv A outer s H E hgd hr, ?_⟩)
  · obtain ⟨F, a, ns, rest, ds, rfl, _, _, r, hl, _⟩ := h
    rw [List.length_cons, DpAll.length r]; exact hl
  · obtain ⟨F, a, ns, rest, ds, rfl, s', hp, r, hl, h⟩ := h
    refine ⟨_, F, _, startS_ok s' hp r (by rw [hl]; exact FnScope.le S), ?_⟩
    unfold runS at h
    cases e : m (env0S N.length ns ds) with
    | none => rw [e] at h; exact h
    | some q =>
      rw [e] at h
      cases q with
      | ex y ρ' => exact fun σ' cls z H' F' ok _ r' => h cls z F' H' ok.ext r'
      | ok fl ρ' =>
        cases fl with
        | nx => exact h.elim
        | rt d => exact h.elim
        | bk => exact h.elim
        | ct => exact h.elim
        | rf es => exact fun σ' p xs H' F' ok _ hp r' hf h0 => h p xs F' H' ok.ext h0 hf hp r'
end
section
variable {P : Program} {w : World} {K : PySem.W.Frag} {mg : Str → Option Value} {base : Heap} {j n : Nat} {f : Addr} {fd : FuncData} {ps : List Str}
theorem okV0G {g : List D → Option (Rs D)} (hg : ∀ ds, g ds = none) : FnG P w K mg base (L2.CX P w) j f fd ps (spV K n g) := by
  have no : ∀ vs H Q E, ¬ spV K n g vs H Q E := fun vs H Q E h => by
    obtain ⟨F, ds, _, _, _, h⟩ := h
    simp only [hg] at h
  exact ⟨fun vs H Q E h => absurd h (no _ _ _ _), fun A outer s H args us vs Q E _ _ _ _ _ h => absurd h (no _ _ _ _)⟩
end
section
variable {X : Cx} {CX : CXT} {W : WX} {k n : Nat} {f : Addr} {fd : FuncData} {ps : List Str} {sp : Sp} {E : L2.St → XK} {t : TA} {x : Str} {p pos : Pos} {e : Expr} {es : List Expr} {ms : M (List D)}
theorem run_fnG {pins : List (Addr × Obj)} {σ : L2.St} {H : Hp} {s : Shared} {Q : VK} {us : List Value} {vs : List V} (F : FnG X.prog X.w X.K X.mg X.base CX k f fd ps sp) (hgd : X.A.guards = some []) (hr : Room k X.A) (hb : Binds X.K fd ps []) (hx : PassesAt CX X σ (E σ))
    (I : Inv X pins σ H s) (r : Vals vs us) (h : sp vs H Q (E σ)) : wpAny (model X.prog X.w) X.A (call (.ref f) us) (EP X pins σ Q) X.xe s := by
  have b := hb s us I.kIn (by rw [List.append_nil, ← r.length]; exact F.len _ _ _ _ h)
  rw [List.append_nil] at b
  refine wpAny_call (codeAny_mono (F.run X.A X.stack s H ⟨us, []⟩ us vs Q (E σ) hgd hr I.env0 b r h) fun q s' hq => ?_)
  match q, hq with
  | .error e, hq => exact hx pins H s e s' I hq
  | .ok (.ret u), hq => exact I.after hq
  | .ok .next, hq => exact False.elim hq
  | .ok .brk, hq => exact False.elim hq
  | .ok .cont, hq => exact False.elim hq
theorem pe_callG (F : FnG X.prog X.w X.K X.mg X.base CX k f fd ps sp) (hgd : X.A.guards = some []) (hr : Room k X.A) (hg : Gl X x) (hm : X.mg x = some (.ref f)) (hk : PySem.W.keepIn X.K (.ref f) = true) (hb : Binds X.K fd ps []) (hx : ∀ σ, PassesAt CX X σ (E σ))
    (ha : PA X (e :: es) t) (hdb : (x == ("__debug__" : Str)) = false := by decide) (he : starEach (e :: es) X.env = (false, eval e X.env) :: starEach es X.env := by rfl) (hpl : (backTo pos (starEach es X.env)).any (·.1) = false := by rfl) :
    PE X (.Call (.Name x p) (e :: es) [] pos) (tCallS sp E t) :=
  ⟨fun pins s σ H Q I h => wpAny_Call_Name_kw (ld_glob I hg hm (PySem.W.callWith_K (h₀ := X.base) I.ok.mod.kin hk (thn (ha.run pos pins s σ H _ I h) fun us s1 ⟨vs, H1, I1, r, q⟩ => ⟨I1.kIn, run_fnG F hgd hr hb (hx σ) I1 r q⟩) he hpl) hdb)⟩
theorem dCallVG {g : List D → Option (Rs D)} (hgd : X.A.guards = some []) (F : FnG X.prog X.w X.K X.mg X.base (L2.CX X.prog X.w) k f fd ps (spV X.K n g)) (hr : Room k X.A) (hm : X.mg x = some (.ref f)) (hk : PySem.W.keepIn X.K (.ref f) = true) (hb : Binds X.K fd ps []) (tk : Takes X W)
    (ha : PA X (e :: es) (tA X.K W ms)) (hg : Gl X x := by rfl) (hdb : (x == ("__debug__" : Str)) = false := by decide) (he : starEach (e :: es) X.env = (false, eval e X.env) :: starEach es X.env := by rfl) (hpl : (backTo pos (starEach es X.env)).any (·.1) = false := by rfl) :
    PE X (.Call (.Name x p) (e :: es) [] pos) (tE X.K W (mCallV n g ms)) := PE.imp (pe_callG F hgd hr hg hm hk hb (fun σ => passAt tk σ) ha hdb he hpl) fun _ _ _ => callV_of
theorem dCallBG {i : Nat} {g : List D → List D → Option (Rs D × List D)} (hgd : X.A.guards = some []) (F : FnG X.prog X.w X.K X.mg X.base (L2.CX X.prog X.w) k f fd ps (spB X.K n g)) (hr : Room k X.A) (hm : X.mg x = some (.ref f)) (hk : PySem.W.keepIn X.K (.ref f) = true) (hb : Binds X.K fd ps []) (tk : Takes X W)
    (h1 : PE X e (tVar i)) (ha : PA X es (tA X.K W ms)) (hg : Gl X x := by rfl) (hdb : (x == ("__debug__" : Str)) = false := by decide) (he : starEach (e :: es) X.env = (false, eval e X.env) :: starEach es X.env := by rfl) (hpl : (backTo pos (starEach es X.env)).any (·.1) = false := by rfl) :
    PE X (.Call (.Name x p) (e :: es) [] pos) (tE X.K W (mCallB i n g ms)) := PE.imp (pe_callG F hgd hr hg hm hk hb (fun σ => passAt tk σ) (pa_cons h1 ha he) hdb he hpl) fun _ _ _ => callB_of
theorem dCallStG {i j : Nat} {y : Str} {pos' spos : Pos} {g : List Int → List D → Option (Rs (List D))} (hgd : X.A.guards = some []) (F : FnG X.prog X.w X.K X.mg X.base (L2.CX X.prog X.w) k f fd ps (spS X.K n g)) (hr : Room k X.A) (hm : X.mg x = some (.ref f)) (hk : PySem.W.keepIn X.K (.ref f) = true) (hb : Binds X.K fd ps []) (tk : Takes X W) (hN : X.N.Nodup)
    (h1 : PE X e (tVar j)) (ha : PA X es (tA X.K W ms)) (hg : Gl X x := by rfl) (hdb : (x == ("__debug__" : Str)) = false := by decide) (he : starEach (e :: es) X.env = (false, eval e X.env) :: starEach es X.env := by rfl) (hpl : (backTo pos (starEach es X.env)).any (·.1) = false := by rfl)
    (hi : X.N[i]? = some y := by rfl) (hx : Loc X.env.scope y := by first | exact Or.inl rfl | exact Or.inr rfl)
    (hs : swapsWith (.Call (.Name x p) (e :: es) [] pos) (some (.Name y pos')) spos.line X.env = pure false := by rfl)
    (hf : X.fn y = true ∨ X.env.scope.names.lookup y = some .local := by first | exact .inl rfl | exact .inr rfl) :
    PS X (.Assign [.Name y pos'] (.Call (.Name x p) (e :: es) [] pos) spos) (tS X.K W (mAsgS i j n g ms)) := PS.imp (ps_set hN hi hx (pe_callG F hgd hr hg hm hk hb (fun σ => passAt tk σ) (pa_cons h1 ha he) hdb he hpl) hs hf) fun _ _ _ => asgS_of
end
end Dd

/-! ### an own exception's first field, whatever built-in class it is under -/
namespace PySem
namespace OwnE
open PySem.W PySem.Calls PyProof.Rows PySem.HandSPX
open Builtin Builtin.ObjectAttr
variable {prog : Program} {w : World} {A : Around} {E : Value → Shared → Prop} {R : Result → Shared → Prop} {hp : Heap} {g : Array GenState} {d : Drawn} {t : Nat} {os : OsState} {K : Frag} {B : String} {bmB : List Value}
theorem first_field {name : Str} {tk : Tok} {v : Value} {x C : Addr} {fv : Array Value} {cd : ClassData} (SF : StoreFacts B bmB "object.__setattr__" "object")
    (X : K.In hp) (hx : hp.get? x = some { cls := .ref C, data := .fields fv }) (hcd : clsIn K C = some cd) (hh : cd.hasDict = true) (ho : excOver K C bmB = true) (ha : takerIn K C name = some none)
    (hq : ∀ h' tk' dx, (∀ b o, b ≠ x → hp.get? b = some o → h'.get? b = some o) → hp.objs.size ≤ dx → dx ≠ x → h'.get? x = some { cls := .ref C, dict := some dx, data := .fields fv } →
      h'.Ns1 dx (fun y => if y = name then some v else none) → R (.ok (.ret .none)) ⟨h', g, d, tk', os⟩) :
    codeAny (model prog w) A (.call (.builtin "object.__setattr__") ⟨[.ref x, .str name tk, v], []⟩) R ⟨hp, g, d, t, os⟩ := by
  have I : InstAt hp x { cls := .ref C, data := .fields fv } C none := ⟨hx, rfl, rfl, trivial⟩
  refine osa_openX SF X I ho ha fun b => ?_
  have apart : x ≠ hp.objs.size := Nat.ne_of_lt (Heap.lt_size hx)
  have known : Looks (model prog w) hp (classData C) cd := looks_clsIn X hcd
  obtain ⟨nm, bs, mro, ns, qn, hd, sn, sb, ab, col, del⟩ := cd
  obtain rfl : hd = true := hh
  dsimp only
  unfold storeInOwnDict ownDictForStores
  repeat (first | with_reducible refine store_in_new ?_ ?_ | with_reducible refine wpAny_loadPart_at hx ?_ | with_reducible refine known.at ?_ | wp_step)
  · exact ⟨_, #[], _, (Heap.get?_update_ne _ _ _ _ apart.symm).trans (Heap.get?_push_at rfl rfl), rfl, fun e he => absurd he (by simp), fun _ => rfl⟩
  · intro h' tk' hn' hs
    have x1 : (hp.push { cls := .type "dict", data := .dict #[] }).get? x = some { cls := .ref C, data := .fields fv } := Heap.get?_push_of_some _ hx
    exact hq h' tk' hp.objs.size (fun c o hb ho => (hs.2 c (Nat.ne_of_lt (Heap.lt_size ho))).trans ((Heap.get?_update_ne _ _ _ _ hb).trans (Heap.get?_push_of_some _ ho)))
      (Nat.le_refl _) apart.symm ((hs.2 x apart).trans (Heap.get?_update_self _ x1 rfl)) hn'
end OwnE
end PySem

namespace Dd
open PySem PySem.Spec L2 PyProof.Rows
/-! ### raise C(e) -/
def mRaise (cn : Str) (fns : List Str) (ms : M (List D)) : M Fl := mBind ms fun ds ρ => if ds.length = fns.length then some (.ex ⟨cn, fns.zip ds⟩ ρ) else none
section
variable {X : Cx} {W : WX} {e : Expr} {cn f : Str} {C : Addr} {ms : M (List D)} {pos : Pos}
theorem dRaise1 (hc : X.calm = true) (n : PySem.W.nsIn X.K mainGlobals cn = some (some (.ref C))) (tk : Takes X W)
    (hp : PMk X e fun σ H Q => tA X.K W ms σ H fun vs H1 => ∃ v, vs = [v] ∧ ∀ d, H1 d = none → Q (.ref C) (some d) (upd H1 d (.xd [(f, v)]))) :
    PS X (.Raise (some e) none pos) (tS X.K W (mRaise cn [f] ms)) := PS.imp (ps_raise hc tk hp) (by
  rintro Dn σ H ⟨c, F, ρ, ok, h⟩
  refine ⟨c, F, ρ, ok, post_mono ?_ (postS_bind h)⟩
  rintro ds H1 F1 _ ⟨ρ1, ok1, s1, h1⟩ vs rv
  by_cases hl : ds.length = ([f] : List Str).length
  · rw [if_pos hl] at h1
    match ds, vs, rv, hl with
    | [y], [v], .cons r .nil, _ =>
      exact ⟨v, rfl, fun d hd => h1 σ _ _ _ _ (ok1.alloc hd) (Same.updN (ok1.new hd).1) ⟨C, n, rfl, d, [(f, v)], rfl, upd_same, rfl, .one (Dp.mono (Same.updN (ok1.new hd).1) r)⟩⟩
  · rw [if_neg hl] at h1
    exact h1.elim)
end
/-! ### a caught exception, in a suite -/
/-- what an own class must have for its fields to be read and its class to be asked for -/
structure ExTxt (K : PySem.W.Frag) (cn : Str) (C : Addr) : Prop where
  nm : PySem.W.nsIn K mainGlobals cn = some (some (.ref C))
  xf : XfC K C
  kt : ∀ x ox od, PySem.W.KitX K (.ref x) (.ref C) fun h => PySem.W.InstAt h x ox C od
/-- a part of a display in a suite: a text, a field, whether it is of a class -/
inductive Pt where
  | txt (x : Str)
  | fld (f : Str)
  | isi (b : Bool)
def ptV (fs : List (Str × V)) : Pt → Option V
  | .txt x => some (.str x)
  | .fld f => fs.lookup f
  | .isi b => some (.bl b)
def ptD (fs : List (Str × D)) : Pt → Option D
  | .txt x => some (.str x)
  | .fld f => fs.lookup f
  | .isi b => some (.bool b)
def ptsV (fs : List (Str × V)) : List Pt → Option (List V)
  | [] => some []
  | p :: ps => match ptV fs p, ptsV fs ps with
    | some v, some vs => some (v :: vs)
    | _, _ => none
def ptsD (fs : List (Str × D)) : List Pt → Option (List D)
  | [] => some []
  | p :: ps => match ptD fs p, ptsD fs ps with
    | some v, some vs => some (v :: vs)
    | _, _ => none
theorem lookup_rel {K : PySem.W.Frag} {F : Hp} {f : Str} {d : D} : ∀ {vs : List (Str × V)} {ds : List (Str × D)}, vs.map (·.1) = ds.map (·.1) → DpAll K F (vs.map (·.2)) (ds.map (·.2)) → ds.lookup f = some d → ∃ v, vs.lookup f = some v ∧ Dp K F v d
  | [], [], _, _, h => by cases h
  | [], _ :: _, e, _, _ => by cases e
  | _ :: _, [], e, _, _ => by cases e
  | (g, v) :: vs, (g', y) :: ds, e, r, h => by
    obtain ⟨rfl, e2⟩ := List.cons.inj e
    cases r with
    | cons r1 r2 =>
      by_cases hg : f = g
      · subst hg
        have : ((f, y) :: ds).lookup f = some y := by simp [List.lookup]
        rw [this] at h
        cases h
        exact ⟨v, by simp [List.lookup], r1⟩
      · have eb : (f == g) = false := by simpa using hg
        have e1 : ((g, y) :: ds).lookup f = ds.lookup f := by simp [List.lookup, eb]
        have e3 : ((g, v) :: vs).lookup f = vs.lookup f := by simp [List.lookup, eb]
        rw [e1] at h
        rw [e3]
        exact lookup_rel e2 r2 h
theorem pt_rel {K : PySem.W.Frag} {F : Hp} {vs : List (Str × V)} {ds : List (Str × D)} (e : vs.map (·.1) = ds.map (·.1)) (r : DpAll K F (vs.map (·.2)) (ds.map (·.2))) {d : D} : ∀ {p : Pt}, ptD ds p = some d → ∃ v, ptV vs p = some v ∧ Dp K F v d
  | .txt x, h => by cases h; exact ⟨_, rfl, .str x⟩
  | .fld f, h => lookup_rel e r h
  | .isi b, h => by cases h; exact ⟨_, rfl, .bl b⟩
theorem pts_rel {K : PySem.W.Frag} {F : Hp} {vs : List (Str × V)} {ds : List (Str × D)} (e : vs.map (·.1) = ds.map (·.1)) (r : DpAll K F (vs.map (·.2)) (ds.map (·.2))) : ∀ {ps : List Pt} {ys : List D}, ptsD ds ps = some ys → ∃ xs, ptsV vs ps = some xs ∧ DpAll K F xs ys
  | [], ys, h => by cases h; exact ⟨[], rfl, .nil⟩
  | p :: ps, ys, h => by
    unfold ptsD at h
    cases h1 : ptD ds p with
    | none => rw [h1] at h; cases h
    | some y =>
      cases h2 : ptsD ds ps with
      | none => rw [h1, h2] at h; cases h
      | some zs =>
        rw [h1, h2] at h
        cases h
        obtain ⟨x, e1, r1⟩ := pt_rel e r h1
        obtain ⟨xs, e2, r2⟩ := pts_rel e r h2
        exact ⟨x :: xs, by unfold ptsV; rw [e1, e2], .cons r1 r2⟩
section
variable {X : Cx} {a C dd : Addr} {i : Nat} {cls : Value} {d : Option Addr} {oe : Obj} {pn : List (Addr × Obj)} {cn f : Str} {pos p : Pos} {e ec : Expr} {es : List Expr}
def tPt (a C : Addr) (i : Nat) (cls : Value) (d : Option Addr) (p : Pt) : TE := fun σ H Q => ∃ dd fs v, σ[i]? = some (some (.ref a)) ∧ cls = .ref C ∧ d = some dd ∧ H dd = some (.xd fs) ∧ ptV fs p = some v ∧ Q v H
def tPts (a C : Addr) (i : Nat) (cls : Value) (d : Option Addr) (ps : List Pt) : TA := fun σ H Q => ∃ dd fs vs, σ[i]? = some (some (.ref a)) ∧ cls = .ref C ∧ d = some dd ∧ H dd = some (.xd fs) ∧ ptsV fs ps = some vs ∧ Q vs H
theorem pts_nil' : PA X [] (tPts a C i cls d []) := ⟨fun pos pins s σ H Q I ⟨_, _, vs, _, _, _, _, ev, q⟩ => by
  cases ev
  exact pa_nil.run pos pins s σ H Q I q⟩
theorem pts_cons' {q : Pt} {qs : List Pt} (h1 : PE X e (tPt a C i cls d q)) (h2 : PA X es (tPts a C i cls d qs)) (hs : starEach (e :: es) X.env = (false, eval e X.env) :: starEach es X.env := by rfl) : PA X (e :: es) (tPts a C i cls d (q :: qs)) :=
  ⟨fun pos pins s σ H Q I ⟨dd, fs, vs, hi, hc, hd, hx, ev, h⟩ => by
    refine (pa_cons h1 h2 hs).run pos pins s σ H Q I ?_
    unfold ptsV at ev
    cases e1 : ptV fs q with
    | none => rw [e1] at ev; cases ev
    | some v =>
      cases e2 : ptsV fs qs with
      | none => rw [e1, e2] at ev; cases ev
      | some ws =>
        rw [e1, e2] at ev
        cases ev
        exact ⟨dd, fs, v, hi, hc, hd, hx, e1, dd, fs, ws, hi, hc, hd, hx, e2, h⟩⟩
theorem pt_txt {m : Str} {j : Nat} : PE X (.Constant (.str m) j p) (tPt a C i cls d (.txt m)) := PE.imp pe_str fun σ H Q ⟨_, _, v, _, _, _, _, ev, q⟩ => by
  cases ev
  exact q
theorem pt_fld (T : ExTxt X.K cn C) (hno : PySem.W.findIn X.K (.ref C) f = some none) (hz : Zc cls d oe) (hf : ∃ vs, oe.data = .fields vs) (he : PE (X.suite a ((a, oe) :: pn)) e (tVar i)) (hb : attributeBase e f X.env (eval e X.env) = eval e X.env := by rfl) :
    PE (X.suite a ((a, oe) :: pn)) (.Attribute e f pos) (tPt a C i cls d (.fld f)) := PE.imp (pe_xf T.xf hno hz hf he hb) fun σ H Q ⟨dd, fs, v, hi, hc, hd, hx, ev, q⟩ =>
  ⟨.ref a, hi, rfl, hc, dd, fs, v, hd, hx, ev, q⟩
def rIsX (K : PySem.W.Frag) (a C : Addr) (cls : Value) (d : Option Addr) (cv : Value) (b : Bool) : List V → Hp → VK → Prop := fun xs H Q => ∃ (dd : Addr) (fs : List (Str × V)) (vv : V), xs = [.ref a, vv] ∧ (∀ u, RelV vv u → u = cv) ∧ cls = .ref C ∧ d = some dd ∧ H dd = some (.xd fs) ∧ PySem.W.kitOne K (.ref C) cv = some b ∧ Q (.bl b) H
theorem call_isX {cv : Value} {b : Bool} (T : ExTxt X.K cn C) (hz : Zc cls d oe) (hf : ∃ vs, oe.data = .fields vs) : CallR (X.suite a ((a, oe) :: pn)) (.builtin "isinstance") (rIsX X.K a C cls d cv b) := by
  intro pins s σ H xs us Q I r h
  obtain ⟨dd, fs, vv, rfl, k, rfl, rfl, hx, e, q⟩ := h
  obtain ⟨u1, u2, rfl, r1, r2⟩ := vals2 r
  obtain rfl := k _ r2
  obtain rfl : u1 = Value.ref a := r1
  obtain ⟨ha, _⟩ := I.pin (a, oe) (List.mem_append_left _ List.mem_cons_self)
  obtain ⟨vs, hd⟩ := hf
  have hx' : ObjOk X.prog X.w H s.heap dd (.xd fs) := I.hok dd _ hx
  obtain ⟨mA, hns, hr⟩ := hx'
  obtain ⟨od, ho, hl⟩ := lookIn_ns hns
  have J : PySem.W.InstAt s.heap a oe C (some od) := ⟨ha, hz.1, by unfold PySem.W.notCls; rw [hd] <;> rfl, by rw [hz.2]; exact ho⟩
  exact PySem.W.kia_one (T.kt a oe (some od)) I.kIn J e (fun z => nomatch z) fun tk => ⟨.bl b, H, I.tok tk, rfl, q⟩
theorem pt_isi {cv : Value} {vv : V} {b : Bool} (T : ExTxt X.K cn C) (k : PySem.W.kitOne X.K (.ref C) cv = some b) (kv : ∀ u, RelV vv u → u = cv) (hm : X.mg "isinstance" = none) (hz : Zc cls d oe) (hf : ∃ vs, oe.data = .fields vs)
    (he : PE (X.suite a ((a, oe) :: pn)) e (tVar i)) (hc : PE (X.suite a ((a, oe) :: pn)) ec (tC vv)) (hg : Gl X "isinstance" := by rfl)
    (hs1 : starEach [e, ec] X.env = (false, eval e X.env) :: starEach [ec] X.env := by rfl) (hs2 : starEach [ec] X.env = (false, eval ec X.env) :: starEach [] X.env := by rfl) (hpl : (backTo pos (starEach [ec] X.env)).any (·.1) = false := by rfl)
    (hbi : bootBuiltins "isinstance" = some (.builtin "isinstance") := by decide +kernel) :
    PE (X.suite a ((a, oe) :: pn)) (.Call (.Name "isinstance" p) [e, ec] [] pos) (tPt a C i cls d (.isi b)) :=
  PE.imp (pe_callB (X := X.suite a ((a, oe) :: pn)) (call_isX (cv := cv) (b := b) T hz hf) hg hm hbi (pa_cons he (pa_cons hc pa_nil hs2) hs1) (by decide) (by decide) hs1 hpl) fun σ H Q ⟨dd, fs, v, hi, hcl, hd, hx, ev, q⟩ => by
    cases ev
    exact ⟨.ref a, hi, dd, fs, vv, rfl, kv, hcl, hd, hx, k, q⟩
end
/-! ### try .. except C as e: v = (..) -/
def mSuite (v : Nat) (ps : List Pt) (e : Ex) : M Fl := fun ρ => match ptsD e.fs ps with
  | some ds => if v < ρ.length ∧ fit ds.length = true then some (.ok .nx (ρ.set v (.val (.tuple ds)))) else none
  | none => none
def mTry (cn : Str) (i : Nat) (mb : M Fl) (hs : Ex → M Fl) : M Fl := fun ρ => match mb ρ with
  | some (.ex e ρ') => if e.C = cn ∧ i < ρ'.length then (match hs e (ρ'.set i .un) with
    | some (.ok .nx ρ2) => some (.ok .nx (ρ2.set i .un))
    | _ => none) else none
  | r => r
section
variable {X : Cx} {Wout : WX} {x n cn y : Str} {c : Value} {C : Addr} {i v : Nat} {body : List Stmt} {es : List Expr} {np pos pos' yp tp sp : Pos} {kk : Nat} {mb : M Fl} {ps : List Pt}
theorem dTryT (hs : X.stack = X.env :: X.outer) (hf : X.env.frame = some X.env.locals) (hN : X.N.Nodup) (hi : X.N[i]? = some n) (hln : X.env.kindOf n = some .local) (hc : Names X x c) (tk : Takes X Wout)
    (T : ExTxt X.K cn C) (te : PySem.W.exmOne X.K (.ref C) c = some true)
    (hb : ∀ (W : WX) (pn : List (Addr × Obj)) (xe : Value → Shared → Prop), Takes (X.tr pn xe) W → PassesOwn (model X.prog X.w) X.A X.env xe → PSs (X.tr pn xe) body (tS X.K W mb))
    (hsu : ∀ (a : Addr) (oe : Obj) (cls : Value) (d : Option Addr) (pn : List (Addr × Obj)), Zc cls d oe → (∃ vs, oe.data = .fields vs) → PA (X.suite a ((a, oe) :: pn)) es (tPts a C i cls d ps))
    (hv : X.N[v]? = some y) (hy : Loc X.env.scope y := by first | exact Or.inl rfl | exact Or.inr rfl)
    (hsw : swapsWith (.Tuple es kk tp) (some (.Name y yp)) sp.line X.env = pure false := by rfl)
    (hfn : X.fn y = true ∨ X.env.scope.names.lookup y = some .local := by first | exact .inl rfl | exact .inr rfl) :
    PS X (.Try body [.ExceptHandler (some (.Name x np)) (some n) [.Assign [.Name y yp] (.Tuple es kk tp) sp] pos'] [] [] pos) (tS X.K Wout (mTry cn i mb (mSuite v ps))) := by
  refine PS.imp (ps_try_as (tb := fun W => tS X.K W mb) (ts := fun a cls d => tAsg (tTup (tPts a C i cls d ps)) (gName v)) hs hf hN hi hln hc tk hb (fun a oe cls d pn hz hfl => pss_one (ps_set (X := X.suite a ((a, oe) :: pn)) hN hv hy (pe_tup (hsu a oe cls d pn hz hfl)) hsw hfn))) ?_
  rintro D σ H ⟨cc, F, ρ, ok, h⟩
  refine ⟨cc, F, ρ, ok, ?_⟩
  unfold mTry at h
  cases em : mb ρ with
  | none => rw [em] at h; exact h.elim
  | some r =>
    rw [em] at h
    cases r with
    | ok fl ρ' => cases fl <;> exact h
    | ex e ρ' =>
      dsimp only at h
      split at h
      · rename_i hcn
        obtain ⟨hcn, hil⟩ := hcn
        intro σ' cls z H' F' ok' s' er
        obtain ⟨Ca, n1, rfl, dd, vs, rfl, hF, hnm, hdp⟩ := er
        have eC : Ca = C := by
          rw [hcn, T.nm] at n1
          exact (Value.ref.inj (Option.some.inj (Option.some.inj n1))).symm
        subst eC
        refine ⟨true, te, fun _ a ha => ?_, fun z => nomatch z⟩
        unfold mSuite at h
        cases ed : ptsD e.fs ps with
        | none => rw [ed] at h; exact h.elim
        | some ds =>
          rw [ed] at h
          dsimp only at h
          by_cases hq : v < (ρ'.set i .un).length ∧ fit ds.length = true
          · rw [if_pos hq] at h
            obtain ⟨hvl, hfit⟩ := hq
            obtain ⟨xs, ev, rx⟩ := pts_rel hnm hdp ed
            have ok1 := ok'.setU (v := some (.ref a)) hil
            refine ⟨dd, vs, xs, ?_, rfl, rfl, ok'.sub _ _ hF, ev, by rw [DpAll.length rx]; exact fit_le hfit, fun p hp => ?_⟩
            · have : i < σ'.length := by rw [ok'.len]; exact hil
              simp [this]
            · have ok2 := ok1.alloc (o := .tup xs) hp
              have sF : Same F' (upd F' p (.tup xs)) := Same.updN (ok1.new hp).1
              have ok3 := ok2.setV hvl (Dp.tup (.inl (.inl upd_same)) (DpAll.mono sF rx))
              have ok4 := ok3.setU (v := none) (i := i) (by rw [List.length_set, List.length_set]; exact hil)
              exact h _ _ _ ok4 (s'.trans sF)
          · rw [if_neg hq] at h
            exact h.elim
      · exact h.elim
end
end Dd

namespace Dd
open PySem PySem.Spec L2 PyProof.Rows
/-! ### list(range(..)), tuple(range(..)) -/
def rgOf (i : Int) : D → Option (List D)
  | .int j => if (rngOk i && rngOk j && fit (j - i).toNat) = true then some (rngL i j) else none
  | _ => none
theorem rgOf_ok {i : Int} {d : D} {out : List D} (e : rgOf i d = some out) : ∃ j, d = .int j ∧ RgOk i j ∧ out = rngL i j := by
  unfold rgOf at e
  split at e
  · rename_i j
    split at e
    · rename_i hb
      cases e
      rw [Bool.and_eq_true, Bool.and_eq_true] at hb
      obtain ⟨⟨h1, h2⟩, h3⟩ := hb
      obtain ⟨a1, a2⟩ := rngOk_of h1
      obtain ⟨a3, a4⟩ := rngOk_of h2
      have h4 : (j - i).toNat ≤ 16000000 := of_decide_eq_true h3
      exact ⟨j, rfl, ⟨a1, a2, a3, a4, by omega⟩, rfl⟩
    · cases e
  · cases e
theorem rg_rel {K : PySem.W.Frag} {F : Hp} {a : Int} : ∀ l : List Nat, DpAll K F (l.map fun i => V.int (a + (i : Nat))) (l.map fun i => PyData.int (a + (i : Nat)))
  | [] => .nil
  | x :: l => .cons (.int _) (rg_rel l)
def mRgN1 (ma : M D) : M (List D) := mBind ma fun d => mLift (rgOf 0 d)
def rgOf2 : D → D → Option D
  | .int i, b => (rgOf i b).map PyData.tuple
  | _, _ => none
def mRgN2 (ma mb : M D) : M (List D) := mBind ma fun a => mBind mb fun b => mLift (match a with
  | .int i => rgOf i b
  | _ => none)
def mTupRg1 (ma : M D) : M D := mBind ma fun d => mLift ((rgOf 0 d).map PyData.tuple)
def mTupRg2 (ma mb : M D) : M D := mBind ma fun a => mBind mb fun b => mLift (rgOf2 a b)
section
variable {X : Cx} {W : WX} {a b : Expr} {ma mb : M D} {p p2 pos pos2 : Pos}
theorem dLstRg1 (hc : X.calm = true) (hm : X.mg "list" = none) (hr : X.mg "range" = none) (ha : PE X a (tE X.K W ma)) (hg : Gl X "list" := by rfl) (hg2 : Gl X "range" := by rfl)
    (na : starEach [.Call (.Name "range" p2) [a] [] pos2] X.env = (false, eval (.Call (.Name "range" p2) [a] [] pos2) X.env) :: starEach [] X.env := by rfl) (nb : starEach [a] X.env = (false, eval a X.env) :: starEach [] X.env := by rfl) :
    PE X (.Call (.Name "list" p) [.Call (.Name "range" p2) [a] [] pos2] [] pos) (tN X.K W (mRgN1 ma)) := PE.imp (pe_listRg hc hg hm (prg_1 hg2 hr ha nb) na) (by
  rintro σ H Q ⟨c, F, ρ, ok, h⟩
  refine ⟨c, F, ρ, ok, post_mono ?_ (postN_bind h)⟩
  rintro d H1 F1 _ ⟨ρ1, ok1, s1, h1⟩ v rv
  obtain ⟨out, e, h2⟩ := postN_lift h1
  obtain ⟨j, rfl, hk, rfl⟩ := rgOf_ok e
  cases rv
  exact ⟨j, rfl, hk, fun q hq => new_N ok1 (rg_rel _) h2 q hq⟩)
theorem dLstRg2 (hc : X.calm = true) (hm : X.mg "list" = none) (hr : X.mg "range" = none) (ha : PE X a (tE X.K W ma)) (hb : PE X b (tE X.K W mb)) (hg : Gl X "list" := by rfl) (hg2 : Gl X "range" := by rfl)
    (na : starEach [.Call (.Name "range" p2) [a, b] [] pos2] X.env = (false, eval (.Call (.Name "range" p2) [a, b] [] pos2) X.env) :: starEach [] X.env := by rfl) (n1 : starEach [a, b] X.env = (false, eval a X.env) :: starEach [b] X.env := by rfl) (n2 : starEach [b] X.env = (false, eval b X.env) :: starEach [] X.env := by rfl)
    (hp : (backTo pos2 (starEach [b] X.env)).any (·.1) = false := by rfl) :
    PE X (.Call (.Name "list" p) [.Call (.Name "range" p2) [a, b] [] pos2] [] pos) (tN X.K W (mRgN2 ma mb)) := PE.imp (pe_listRg hc hg hm (prg_2 hg2 hr ha hb n1 n2 hp) na) (by
  rintro σ H Q ⟨c, F, ρ, ok, h⟩
  refine ⟨c, F, ρ, ok, post_mono ?_ (postN_bind h)⟩
  rintro d H1 F1 _ ⟨ρ1, ok1, s1, h1⟩ v rv
  refine ⟨c, F1, ρ1, ok1, post_mono ?_ (postN_bind h1)⟩
  rintro d2 H2 F2 _ ⟨ρ2, ok2, s2, h2⟩ v2 rv2
  obtain ⟨out, e, h3⟩ := postN_lift h2
  split at e
  · obtain ⟨j, rfl, hk, rfl⟩ := rgOf_ok e
    cases rv
    cases rv2
    exact ⟨_, j, rfl, rfl, hk, fun q hq => new_N ok2 (rg_rel _) h3 q hq⟩
  · cases e)
theorem dTupRg1 (hc : X.calm = true) (hm : X.mg "tuple" = none) (hr : X.mg "range" = none) (ha : PE X a (tE X.K W ma)) (hg : Gl X "tuple" := by rfl) (hg2 : Gl X "range" := by rfl)
    (na : starEach [.Call (.Name "range" p2) [a] [] pos2] X.env = (false, eval (.Call (.Name "range" p2) [a] [] pos2) X.env) :: starEach [] X.env := by rfl) (nb : starEach [a] X.env = (false, eval a X.env) :: starEach [] X.env := by rfl) :
    PE X (.Call (.Name "tuple" p) [.Call (.Name "range" p2) [a] [] pos2] [] pos) (tE X.K W (mTupRg1 ma)) := PE.imp (pe_tupRg hc hg hm (prg_1 hg2 hr ha nb) na) (by
  rintro σ H Q ⟨c, F, ρ, ok, h⟩
  refine ⟨c, F, ρ, ok, post_mono ?_ (post_bind h)⟩
  rintro d H1 F1 _ ⟨ρ1, ok1, s1, h1⟩ v rv
  obtain ⟨out, e, h2⟩ := post_lift h1
  obtain ⟨ds, e1, rfl⟩ := Option.map_eq_some_iff.mp e
  obtain ⟨j, rfl, hk, rfl⟩ := rgOf_ok e1
  cases rv
  exact ⟨j, rfl, hk, fun q hq => h2 _ _ (ok1.alloc hq) (Same.updN (ok1.new hq).1) _ (Dp.tup (.inl (.inl upd_same)) (rg_rel _))⟩)
theorem dTupRg2 (hc : X.calm = true) (hm : X.mg "tuple" = none) (hr : X.mg "range" = none) (ha : PE X a (tE X.K W ma)) (hb : PE X b (tE X.K W mb)) (hg : Gl X "tuple" := by rfl) (hg2 : Gl X "range" := by rfl)
    (na : starEach [.Call (.Name "range" p2) [a, b] [] pos2] X.env = (false, eval (.Call (.Name "range" p2) [a, b] [] pos2) X.env) :: starEach [] X.env := by rfl) (n1 : starEach [a, b] X.env = (false, eval a X.env) :: starEach [b] X.env := by rfl) (n2 : starEach [b] X.env = (false, eval b X.env) :: starEach [] X.env := by rfl)
    (hp : (backTo pos2 (starEach [b] X.env)).any (·.1) = false := by rfl) :
    PE X (.Call (.Name "tuple" p) [.Call (.Name "range" p2) [a, b] [] pos2] [] pos) (tE X.K W (mTupRg2 ma mb)) := PE.imp (pe_tupRg hc hg hm (prg_2 hg2 hr ha hb n1 n2 hp) na) (by
  rintro σ H Q ⟨c, F, ρ, ok, h⟩
  refine ⟨c, F, ρ, ok, post_mono ?_ (post_bind h)⟩
  rintro d H1 F1 _ ⟨ρ1, ok1, s1, h1⟩ v rv
  refine ⟨c, F1, ρ1, ok1, post_mono ?_ (post_bind h1)⟩
  rintro d2 H2 F2 _ ⟨ρ2, ok2, s2, h2⟩ v2 rv2
  obtain ⟨out, e, h3⟩ := post_lift h2
  unfold rgOf2 at e
  split at e
  · obtain ⟨ds, e1, rfl⟩ := Option.map_eq_some_iff.mp e
    obtain ⟨j, rfl, hk, rfl⟩ := rgOf_ok e1
    cases rv
    cases rv2
    exact ⟨_, j, rfl, rfl, hk, fun q hq => h3 _ _ (ok2.alloc hq) (Same.updN (ok2.new hq).1) _ (Dp.tup (.inl (.inl upd_same)) (rg_rel _))⟩
  · cases e)
end
end Dd

namespace Dd
open PySem PySem.Spec L2 PyProof.Rows
/-! ### calls with keywords, keyword-only parameters that lack -/
theorem kbn_of {K : PySem.W.Frag} {fd : FuncData} {ps : List Str} {n : Nat} {ks : List Str} {g : List Value → List Value → List Value} {gV : List V → List V → List V} {D : Addr} {ms : List (Str × Value)}
    (hms : ∀ q ∈ ms, PySem.W.nsIn K D q.1 = some (some q.2)) (h : ∀ us ws : List Value, us.length = n → ws.length = ks.length → KwChain D ms (bindArgs fd ⟨us, ks.zip ws⟩) (ps.zip (g us ws)))
    (rel : ∀ {vs : List V} {us : List Value} {zs : List V} {ws : List Value}, Vals vs us → Vals zs ws → Vals (gV vs zs) (g us ws)) : KBn K fd ps n ks g gV :=
  ⟨fun s us ws X l1 l2 => BindsTo.of_looks fun M => KwChain.looks X hms (h us ws l1 l2), rel⟩
def tCallK (n m : Nat) (sp : Sp) (gV : List V → List V → List V) (E : L2.St → XK) (t tk : TA) : TE := fun σ H Q => t σ H fun vs H1 => tk σ H1 fun zs H2 => vs.length = n ∧ zs.length = m ∧ sp (gV vs zs) H2 Q (E σ)
section
variable {X : Cx} {CX : CXT} {W : WX} {k n : Nat} {f : Addr} {fd : FuncData} {ps ks : List Str} {sp : Sp} {E : L2.St → XK} {x : Str} {p pos : Pos} {e : Expr} {es : List Expr} {kws : List Keyword} {t tk : TA} {g : List Value → List Value → List Value} {gV : List V → List V → List V}
theorem run_fnK {pins : List (Addr × Obj)} {σ : L2.St} {H : Hp} {s : Shared} {Q : VK} {us ws : List Value} {vs zs : List V} (F : FnG X.prog X.w X.K X.mg X.base CX k f fd ps sp) (hgd : X.A.guards = some []) (hr : Room k X.A) (hb : KBn X.K fd ps n ks g gV) (hx : PassesAt CX X σ (E σ))
    (I : Inv X pins σ H s) (r : Vals vs us) (rz : Vals zs ws) (l1 : vs.length = n) (l2 : zs.length = ks.length) (h : sp (gV vs zs) H Q (E σ)) : wpAny (model X.prog X.w) X.A (call (.ref f) us (ks.zip ws)) (EP X pins σ Q) X.xe s := by
  refine wpAny_call (codeAny_mono (F.run X.A X.stack s H ⟨us, ks.zip ws⟩ (g us ws) (gV vs zs) Q (E σ) hgd hr I.env0 (hb.to s us ws I.kIn (r.length.symm.trans l1) (rz.length.symm.trans l2)) (hb.rel r rz) h) fun q s' hq => ?_)
  match q, hq with
  | .error e, hq => exact hx pins H s e s' I hq
  | .ok (.ret u), hq => exact I.after hq
  | .ok .next, hq => exact False.elim hq
  | .ok .brk, hq => exact False.elim hq
  | .ok .cont, hq => exact False.elim hq
theorem pe_callK (F : FnG X.prog X.w X.K X.mg X.base CX k f fd ps sp) (hgd : X.A.guards = some []) (hr : Room k X.A) (hg : Gl X x) (hm : X.mg x = some (.ref f)) (hk : PySem.W.keepIn X.K (.ref f) = true) (hb : KBn X.K fd ps n ks g gV) (hx : ∀ σ, PassesAt CX X σ (E σ))
    (ha : PA X (e :: es) t) (hkw : PK X kws tk) (hall : (backToKw pos (keywordEach kws X.env)).all (·.1.isSome) = true := by rfl) (hks : (backToKw pos (keywordEach kws X.env)).filterMap (·.1) = ks := by rfl)
    (hdb : (x == ("__debug__" : Str)) = false := by decide) (he : starEach (e :: es) X.env = (false, eval e X.env) :: starEach es X.env := by rfl)
    (hpl : ((backTo pos (starEach (e :: es) X.env)).any (·.1) || (backToKw pos (keywordEach kws X.env)).any (·.1.isNone)) = false := by rfl) :
    PE X (.Call (.Name x p) (e :: es) kws pos) (tCallK n ks.length sp gV E t tk) :=
  ⟨fun pins s σ H Q I h => wpAny_Call_Name_kw (ld_glob I hg hm (PySem.W.callWith_KW (h₀ := X.base) I.ok.mod.kin hk hall (thn (ha.run pos pins s σ H _ I h) fun us s1 ⟨vs, H1, I1, r, q⟩ =>
    thn (hkw.run pos pins s1 σ H1 _ I1 q) fun ws s2 ⟨zs, H2, I2, rz, l1, l2, q2⟩ => ⟨I2.kIn, by
      rw [hks]
      exact run_fnK F hgd hr hb (hx σ) I2 r rz l1 l2 q2⟩) hpl he) hdb)⟩
theorem PK.imp {t t' : TA} (h : PK X kws t) (k : ∀ σ H Q, t' σ H Q → t σ H Q) : PK X kws t' := ⟨fun pos pins s σ H Q I q => h.run pos pins s σ H Q I (k σ H Q q)⟩
theorem dkNil : PK X [] (tA X.K W (mPure [])) := PK.imp pk_nil (by
  rintro σ H Q ⟨c, F, ρ, ok, h⟩
  exact post_ok (W := W) h ok _ .nil)
theorem dkCons {ma : M D} {ms : M (List D)} {nm : Option Str} {kpos : Pos} (ha : PE X e (tE X.K W ma)) (hr : PK X kws (tA X.K W ms)) : PK X (⟨nm, e, kpos⟩ :: kws) (tA X.K W (mCons ma ms)) := by
  refine PK.imp (pk_cons ha hr) ?_
  rintro σ H Q ⟨c, F, ρ, ok, h⟩
  refine ⟨c, F, ρ, ok, post_mono ?_ (post_bind h)⟩
  rintro d H1 F1 _ ⟨ρ1, ok1, s1, h1⟩ x rx
  refine ⟨c, F1, ρ1, ok1, post_mono ?_ (post_bind h1)⟩
  rintro ds H2 F2 _ ⟨ρ2, ok2, s2, h2⟩ xs rxs
  exact post_ok (W := W) h2 ok2 _ (.cons (Dp.mono s2 rx) rxs)
theorem dpAll_app {K : PySem.W.Frag} {F : Hp} : ∀ {xs ys : List V} {ds es : List D}, DpAll K F xs ds → DpAll K F ys es → DpAll K F (xs ++ ys) (ds ++ es)
  | _, _, _, _, .nil, h => h
  | _, _, _, _, .cons r t, h => .cons r (dpAll_app t h)
/-- f(e, .., k = v, ..): n values, then the defaults a, then m keywords' values, then the defaults b -/
def mCallK (n m : Nat) (a b : List D) (f : List D → Option (Rs D)) (ms mk : M (List D)) : M D := mBind ms fun ds => mBind mk fun es => if ds.length = n ∧ es.length = m then mRs (f (ds ++ (a ++ (es ++ b)))) else mStuck
theorem dCallKG {m np : Nat} {a b : List D} {aV bV : List V} {fn : List D → Option (Rs D)} {ms mk : M (List D)} (hgd : X.A.guards = some []) (F : FnG X.prog X.w X.K X.mg X.base (L2.CX X.prog X.w) k f fd ps (spV X.K np fn)) (hr : Room k X.A) (hm : X.mg x = some (.ref f)) (hk : PySem.W.keepIn X.K (.ref f) = true)
    (hb : KBn X.K fd ps n ks g fun vs zs => vs ++ (aV ++ (zs ++ bV))) (tk : Takes X W) (hc1 : ∀ F, DpAll X.K F aV a) (hc2 : ∀ F, DpAll X.K F bV b)
    (ha : PA X (e :: es) (tA X.K W ms)) (hkw : PK X kws (tA X.K W mk)) (hn : np = n + (a.length + (m + b.length)) := by rfl) (hlm : ks.length = m := by rfl) (hg : Gl X x := by rfl)
    (hall : (backToKw pos (keywordEach kws X.env)).all (·.1.isSome) = true := by rfl) (hks : (backToKw pos (keywordEach kws X.env)).filterMap (·.1) = ks := by rfl)
    (hdb : (x == ("__debug__" : Str)) = false := by decide) (he : starEach (e :: es) X.env = (false, eval e X.env) :: starEach es X.env := by rfl)
    (hpl : ((backTo pos (starEach (e :: es) X.env)).any (·.1) || (backToKw pos (keywordEach kws X.env)).any (·.1.isNone)) = false := by rfl) :
    PE X (.Call (.Name x p) (e :: es) kws pos) (tE X.K W (mCallK n m a b fn ms mk)) := PE.imp (pe_callK F hgd hr hg hm hk hb (fun σ => passAt tk σ) ha hkw hall hks hdb he hpl) (by
  rintro σ H Q ⟨c, F0, ρ, ok, h⟩
  refine ⟨c, F0, ρ, ok, post_mono ?_ (post_bind h)⟩
  rintro ds H1 F1 _ ⟨ρ1, ok1, s1, h1⟩ vs rv
  refine ⟨c, F1, ρ1, ok1, post_mono ?_ (post_bind h1)⟩
  rintro es H2 F2 _ ⟨ρ2, ok2, s2, h2⟩ zs rz
  by_cases hl : ds.length = n ∧ es.length = m
  · rw [if_pos hl] at h2
    refine ⟨(DpAll.length rv).trans hl.1, ((DpAll.length rz).trans hl.2).trans hlm.symm, F2, ds ++ (a ++ (es ++ b)), ok2.sub, dpAll_app (DpAll.mono s2 rv) (dpAll_app (hc1 F2) (dpAll_app rz (hc2 F2))), ?_, ?_⟩
    · rw [List.length_append, List.length_append, List.length_append, hl.1, hl.2, hn]
    · unfold mRs at h2
      cases e : fn (ds ++ (a ++ (es ++ b))) with
      | none => rw [e] at h2; exact h2
      | some r =>
        rw [e] at h2
        cases r with
        | ok d => exact fun v F' H' x r => h2 H' F' (ok2.call x) x.ff v r
        | error e => exact fun cls y F' H' x r => h2 cls y H' F' (ok2.call x) x.ff r
  · rw [if_neg hl] at h2
    exact h2.elim)
end
end Dd

namespace Dd
open PySem PySem.Spec L2 PyProof.Rows
/-! ### a, b, c = x, y, z -/
def mPar3 (i j l : Nat) (ma mb mc : M D) : M Fl := mBind ma fun a => mBind mb fun b => mBind mc fun c => mBind (mStore i a) fun _ => mBind (mStore j b) fun _ => mBind (mStore l c) fun _ => mDone
/-- .. the first a new empty list -/
def mParL (i j l : Nat) (mb mc : M D) : M Fl := mBind mb fun b => mBind mc fun c => mBind (mStoreO i []) fun _ => mBind (mStore j b) fun _ => mBind (mStore l c) fun _ => mDone
section
variable {X : Cx} {W : WX} {K : PySem.W.Frag} {σ : L2.St} {H F : Hp} {ρ : En} {c : Ct} {Dn : Ends} {i j l : Nat} {ma mb mc : M D}
theorem store_bind {α : Type} {d : D} {v : V} {f : Unit → M Fl} (ok : Ok K c σ H F ρ) (r : Dp K F v d) (h : postS K W c F Dn (mBind (mStore i d) f ρ)) : ∃ F1 ρ1, Ok K c (σ.set i (some v)) H F1 ρ1 ∧ Same F F1 ∧ postS K W c F1 Dn (f () ρ1) := by
  have h3 := postS_bindG h
  unfold mStore at h3
  split at h3
  · rename_i hl
    exact h3 _ H F (ok.setV hl r) (Same.refl F)
  · exact h3.elim
theorem par3_of (h : tS K W (mPar3 i j l ma mb mc) Dn σ H) : tPar3 i j l (tCons (tE K W ma) (tCons (tE K W mb) (tCons (tE K W mc) tNil))) Dn σ H := by
  obtain ⟨c, F, ρ, ok, h⟩ := h
  refine ⟨c, F, ρ, ok, post_mono ?_ (postS_bind h)⟩
  rintro d1 H1 F1 _ ⟨ρ1, ok1, s1, h1⟩ v1 r1
  refine ⟨c, F1, ρ1, ok1, post_mono ?_ (postS_bind h1)⟩
  rintro d2 H2 F2 _ ⟨ρ2, ok2, s2, h2⟩ v2 r2
  refine ⟨c, F2, ρ2, ok2, post_mono ?_ (postS_bind h2)⟩
  rintro d3 H3 F3 _ ⟨ρ3, ok3, s3, h3⟩ v3 r3
  refine ⟨v1, v2, v3, rfl, ?_⟩
  obtain ⟨F4, ρ4, ok4, s4, h4⟩ := store_bind (α := Unit) ok3 (Dp.mono (s2.trans s3) r1) h3
  obtain ⟨F5, ρ5, ok5, s5, h5⟩ := store_bind (α := Unit) ok4 (Dp.mono (s3.trans s4) r2) h4
  obtain ⟨F6, ρ6, ok6, s6, h6⟩ := store_bind (α := Unit) ok5 (Dp.mono (s4.trans s5) r3) h5
  exact h6 _ _ _ ok6 (Same.refl F6)
theorem postS_put {α : Type} {p : Addr} {o : HO} {m : M α} {f : α → M Fl} (hp : c.pr p = none) (h : postS K W c F Dn (mBind m f ρ)) :
    post K W (c.put p o) σ F (fun a H1 F1 => ∃ ρ1, Ok K (c.put p o) σ H1 F1 ρ1 ∧ Same F F1 ∧ postS K W c F1 Dn (f a ρ1)) (m ρ) := by
  unfold mBind at h
  cases e : m ρ with
  | none => rw [e] at h; exact h.elim
  | some r =>
    rw [e] at h
    cases r with
    | ok a ρ1 => exact fun H' F' ok s => ⟨ρ1, ok, s, postS_weak s h⟩
    | ex z ρ1 => exact fun cls x H' F' ok s er => h σ cls x H' F' (ok_unput ok hp) s er
theorem parL_of (h : tS K W (mParL i j l mb mc) Dn σ H) : tPar3 i j l (tCons (tLst tNil) (tCons (tE K W mb) (tCons (tE K W mc) tNil))) Dn σ H := by
  obtain ⟨c, F, ρ, ok, h⟩ := h
  refine ⟨Nat.zero_le _, fun p hp => ?_⟩
  have okp := ok.allocP (o := .lst []) hp
  have hpr := (ok.new hp).2.2.1
  refine ⟨c.put p (.lst []), F, ρ, okp, post_mono ?_ (postS_put hpr h)⟩
  rintro d2 H2 F2 _ ⟨ρ2, ok2, s2, h2⟩ v2 r2
  refine ⟨c.put p (.lst []), F2, ρ2, ok2, post_mono ?_ (postS_put hpr h2)⟩
  rintro d3 H3 F3 _ ⟨ρ3, ok3, s3, h3⟩ v3 r3
  refine ⟨.ref p, v2, v3, rfl, ?_⟩
  have h4 := postS_bindG h3
  unfold mStoreO at h4
  split at h4
  · rename_i hl
    obtain ⟨F4, ρ4, ok4, s4, h5⟩ := h4 _ H3 F3 (ok3.ownP hpr .nil hl) (Same.refl F3)
    obtain ⟨F5, ρ5, ok5, s5, h6⟩ := store_bind (α := Unit) ok4 (Dp.mono (s3.trans s4) r2) h5
    obtain ⟨F6, ρ6, ok6, s6, h7⟩ := store_bind (α := Unit) ok5 (Dp.mono (s4.trans s5) r3) h6
    exact h7 _ _ _ ok6 (Same.refl F6)
  · exact h4.elim
variable {x y z : Str} {a b cc : Expr} {px py pz pt pt2 pos : Pos} {kt k2 : Nat}
theorem dPar3 (hc : X.calm = true) (hN : X.N.Nodup) (hij : i ≠ j) (hil : i ≠ l) (hjl : j ≠ l) (ha : PE X a (tE X.K W ma)) (hb : PE X b (tE X.K W mb)) (hcc : PE X cc (tE X.K W mc)) (hi : X.N[i]? = some x := by rfl) (hj : X.N[j]? = some y := by rfl) (hl : X.N[l]? = some z := by rfl)
    (hx : X.env.scope.names.lookup x = some .local := by rfl) (hy : X.env.scope.names.lookup y = some .local := by rfl) (hz : X.env.scope.names.lookup z = some .local := by rfl)
    (hw : swappedStores [.Tuple [.Name x px, .Name y py, .Name z pz] kt pt] (.Tuple [a, b, cc] k2 pt2) X.env = pure (some [x, y, z]) := by rfl)
    (hs : swapsWithSole [.Tuple [.Name x px, .Name y py, .Name z pz] kt pt] (.Tuple [a, b, cc] k2 pt2) pos.line X.env = pure false := by rfl)
    (hs1 : starEach [a, b, cc] X.env = (false, eval a X.env) :: starEach [b, cc] X.env := by rfl) (hs2 : starEach [b, cc] X.env = (false, eval b X.env) :: starEach [cc] X.env := by rfl) (hs3 : starEach [cc] X.env = (false, eval cc X.env) :: starEach [] X.env := by rfl) :
    PS X (.Assign [.Tuple [.Name x px, .Name y py, .Name z pz] kt pt] (.Tuple [a, b, cc] k2 pt2) pos) (tS X.K W (mPar3 i j l ma mb mc)) :=
  PS.imp (ps_par3 hc hN hi hj hl hij hil hjl hx hy hz (pa_cons ha (pa_cons hb (pa_cons hcc pa_nil hs3) hs2) hs1) hw hs) fun _ _ _ => par3_of
theorem dParL {lp : Pos} (hc : X.calm = true) (hN : X.N.Nodup) (hij : i ≠ j) (hil : i ≠ l) (hjl : j ≠ l) (hb : PE X b (tE X.K W mb)) (hcc : PE X cc (tE X.K W mc)) (hi : X.N[i]? = some x := by rfl) (hj : X.N[j]? = some y := by rfl) (hl : X.N[l]? = some z := by rfl)
    (hx : X.env.scope.names.lookup x = some .local := by rfl) (hy : X.env.scope.names.lookup y = some .local := by rfl) (hz : X.env.scope.names.lookup z = some .local := by rfl)
    (hw : swappedStores [.Tuple [.Name x px, .Name y py, .Name z pz] kt pt] (.Tuple [.List [] lp, b, cc] k2 pt2) X.env = pure (some [x, y, z]) := by rfl)
    (hs : swapsWithSole [.Tuple [.Name x px, .Name y py, .Name z pz] kt pt] (.Tuple [.List [] lp, b, cc] k2 pt2) pos.line X.env = pure false := by rfl)
    (hs1 : starEach [.List [] lp, b, cc] X.env = (false, eval (.List [] lp) X.env) :: starEach [b, cc] X.env := by rfl) (hs2 : starEach [b, cc] X.env = (false, eval b X.env) :: starEach [cc] X.env := by rfl) (hs3 : starEach [cc] X.env = (false, eval cc X.env) :: starEach [] X.env := by rfl) :
    PS X (.Assign [.Tuple [.Name x px, .Name y py, .Name z pz] kt pt] (.Tuple [.List [] lp, b, cc] k2 pt2) pos) (tS X.K W (mParL i j l mb mc)) :=
  PS.imp (ps_par3 hc hN hi hj hl hij hil hjl hx hy hz (pa_cons (pe_lst pa_nil) (pa_cons hb (pa_cons hcc pa_nil hs3) hs2) hs1) hw hs) fun _ _ _ => parL_of
/-- .. where a name is a cell: the tuple is made and taken apart -/
theorem parLC_of (h : tS K W (mParL i j l mb mc) Dn σ H) : tAsg (tTup (tCons (tLst tNil) (tCons (tE K W mb) (tCons (tE K W mc) tNil)))) (gTup K 3 (gCons (gName i) (gCons (gName j) (gCons (gName l) gNil)))) Dn σ H := by
  obtain ⟨c, F, ρ, ok, h⟩ := h
  refine ⟨Nat.zero_le _, fun p hp => ?_⟩
  have okp := ok.allocP (o := .lst []) hp
  have hpr := (ok.new hp).2.2.1
  refine ⟨c.put p (.lst []), F, ρ, okp, post_mono ?_ (postS_put hpr h)⟩
  rintro d2 H2 F2 _ ⟨ρ2, ok2, s2, h2⟩ v2 r2
  refine ⟨c.put p (.lst []), F2, ρ2, ok2, post_mono ?_ (postS_put hpr h2)⟩
  rintro d3 H3 F3 _ ⟨ρ3, ok3, s3, h3⟩ v3 r3
  refine ⟨by show 3 ≤ sizeLine; rw [sizeLine_eq]; decide, fun q hq => ⟨q, _, rfl, .inl (.inl upd_same), rfl, _, _, rfl, _, _, rfl, _, _, rfl, rfl, ?_⟩⟩
  have okq := ok3.alloc (o := .tup [.ref p, v2, v3]) hq
  have sq : Same F3 (upd F3 q (.tup [.ref p, v2, v3])) := Same.updN (ok3.new hq).1
  have h4 := postS_bindG h3
  unfold mStoreO at h4
  split at h4
  · rename_i hl
    obtain ⟨F4, ρ4, ok4, s4, h5⟩ := h4 _ _ _ (okq.ownP hpr .nil hl) sq
    obtain ⟨F5, ρ5, ok5, s5, h6⟩ := store_bind (α := Unit) ok4 (Dp.mono (s3.trans s4) r2) h5
    obtain ⟨F6, ρ6, ok6, s6, h7⟩ := store_bind (α := Unit) ok5 (Dp.mono (s4.trans s5) r3) h6
    exact h7 _ _ _ ok6 (Same.refl F6)
  · exact h4.elim
theorem dParLC {lp : Pos} (hc : X.calm = true) (hN : X.N.Nodup) (hb : PE X b (tE X.K W mb)) (hcc : PE X cc (tE X.K W mc)) (hi : X.N[i]? = some x := by rfl) (hj : X.N[j]? = some y := by rfl) (hl : X.N[l]? = some z := by rfl)
    (hx : Loc X.env.scope x := by first | exact Or.inl rfl | exact Or.inr rfl) (hy : Loc X.env.scope y := by first | exact Or.inl rfl | exact Or.inr rfl) (hz : Loc X.env.scope z := by first | exact Or.inl rfl | exact Or.inr rfl)
    (hfx : X.fn x = true ∨ X.env.scope.names.lookup x = some .local := by first | exact .inl rfl | exact .inr rfl) (hfy : X.fn y = true ∨ X.env.scope.names.lookup y = some .local := by first | exact .inl rfl | exact .inr rfl) (hfz : X.fn z = true ∨ X.env.scope.names.lookup z = some .local := by first | exact .inl rfl | exact .inr rfl)
    (hs : swapsWithSole [.Tuple [.Name x px, .Name y py, .Name z pz] kt pt] (.Tuple [.List [] lp, b, cc] k2 pt2) pos.line X.env = pure false := by rfl)
    (hw : swappedStores [.Tuple [.Name x px, .Name y py, .Name z pz] kt pt] (.Tuple [.List [] lp, b, cc] k2 pt2) X.env = pure none := by rfl)
    (h1 : (assignEach [.Tuple [.Name x px, .Name y py, .Name z pz] kt pt] X.env).map (·.2) = [assign (.Tuple [.Name x px, .Name y py, .Name z pz] kt pt) X.env] := by rfl)
    (hn : (assignEach [.Name x px, .Name y py, .Name z pz] X.env).length = 3 := by rfl) (hst : (assignEach [.Name x px, .Name y py, .Name z pz] X.env).findIdx? (·.1) = none := by rfl)
    (e1 : (assignEach [.Name x px, .Name y py, .Name z pz] X.env).map (·.2) = assign (.Name x px) X.env :: (assignEach [.Name y py, .Name z pz] X.env).map (·.2) := by rfl)
    (e2 : (assignEach [.Name y py, .Name z pz] X.env).map (·.2) = assign (.Name y py) X.env :: (assignEach [.Name z pz] X.env).map (·.2) := by rfl)
    (e3 : (assignEach [.Name z pz] X.env).map (·.2) = assign (.Name z pz) X.env :: (assignEach [] X.env).map (·.2) := by rfl)
    (hs1 : starEach [.List [] lp, b, cc] X.env = (false, eval (.List [] lp) X.env) :: starEach [b, cc] X.env := by rfl) (hs2 : starEach [b, cc] X.env = (false, eval b X.env) :: starEach [cc] X.env := by rfl) (hs3 : starEach [cc] X.env = (false, eval cc X.env) :: starEach [] X.env := by rfl) :
    PS X (.Assign [.Tuple [.Name x px, .Name y py, .Name z pz] kt pt] (.Tuple [.List [] lp, b, cc] k2 pt2) pos) (tS X.K W (mParL i j l mb mc)) :=
  PS.imp (ps_asg (pe_tup (pa_cons (pe_lst pa_nil) (pa_cons hb (pa_cons hcc pa_nil hs3) hs2) hs1)) (pg_tup hc (pgs_cons (pg_name hN hi hx hfx) (pgs_cons (pg_name hN hj hy hfy) (pgs_cons (pg_name hN hl hz hfz) pgs_nil e3) e2) e1) hn hst) hs hw h1) fun _ _ _ => parLC_of
end
end Dd

namespace Dd
open PySem PySem.Spec L2 PyProof.Rows
/-! ### a, *b = a list -/
section
variable {prog : Program} {w : World} {A : Around} {E : Value → Shared → Prop} {s : Shared}
theorem star_list {l : Addr} {items : Array Value} {n i : Nat} {Q : List Value → Shared → Prop} (hl : s.heap.IsList l items) (hh : A.handled = none) (hi : i < n) (hn : n ≤ items.size + 1) (hz : items.size ≤ sizeLine)
    (h : ∀ (h2 : Heap) (tk : Nat), (∀ b o, s.heap.get? b = some o → h2.get? b = some o) →
      Q (items.toList.take i ++ [.ref h2.objs.size] ++ (items.toList.drop i).drop (items.size + 1 - n)) { s with heap := h2.push (seqObj "list" ((items.toList.drop i).take (items.size + 1 - n)).toArray 0), toks := tk }) :
    wpAny (model prog w) A (unpackItems (.ref l) n (some i)) Q E s := by
  have hlt : l ≠ s.heap.objs.size := by obtain ⟨o, ho, _⟩ := hl; exact Nat.ne_of_lt (Heap.lt_size ho)
  have hll : l < s.heap.objs.size := by obtain ⟨o, ho, _⟩ := hl; exact Heap.lt_size ho
  unfold unpackItems
  refine wpAny_bind ?_
  unfold notIterableAtAll
  refine wpAny_bind (wpAny_specialOf hl.typeIs slot_list_iter.lookup ?_)
  refine wpAny_pure ?_
  simp only [Bool.false_eq_true, if_false]
  refine wpAny_bind (wpAny_holding (wpAny_pyIter_list hl ?_))
  refine wpAny_bind (wpAny_holding (PySem.W.kun_draw hlt i 0 _ _ ⟨_, Heap.get?_push_size _ rfl, rfl, rfl⟩ (hl.push _) (by omega) fun h₁ hit₁ hs₁ => ?_))
  have hl₁ : h₁.IsList l items := (hl.push _).extBut hs₁.extBut hlt
  rw [Nat.zero_add] at hit₁
  have hit₁' := hit₁
  obtain ⟨oi, hoi, _⟩ := hit₁'
  have hl₁' := hl₁
  obtain ⟨ol, hol, _⟩ := hl₁'
  rw [List.drop_zero]
  have hfl : (items.toList.take i).length = i := by rw [List.length_take, Array.length_toList]; omega
  rw [if_neg (show ¬ ((items.toList.take i).length < i) by rw [hfl]; omega)]
  refine wpAny_bind (wpAny_holding (PySem.W.kun_collect (s := { s with heap := h₁ }) (T := "list_iterator") (.inr (.inr (.inl rfl))) (Walks.list (A := A.in1) hh s.heap.objs.size l hlt items) (fun j u st => st.1.typeIs) (k := i) (by omega) ⟨hit₁, hl₁⟩ (Heap.lt_size hoi) (Heap.lt_size hol) (fun h₂ tk hk => ?_) hz))
  have hrl : (items.toList.drop i).length = items.size - i := by rw [List.length_drop, Array.length_toList]
  have hmid : (items.toList.drop i).length - (n - 1 - i) = items.size + 1 - n := by rw [hrl]; omega
  show wpAny _ _ (if (items.toList.drop i).length < n - 1 - i then _ else _) _ _ _
  rw [if_neg (by rw [hrl]; omega)]
  show wpAny _ _ (newList ((items.toList.drop i).take ((items.toList.drop i).length - (n - 1 - i))) >>= fun d => pure (items.toList.take i ++ [d] ++ (items.toList.drop i).drop ((items.toList.drop i).length - (n - 1 - i)))) _ _ _
  rw [hmid]
  refine wpAny_bind (wpAny_newList ?_ (by rw [List.length_take, hrl]; omega))
  refine wpAny_pure (h h₂ tk fun b o e => ?_)
  have hb : b ≠ s.heap.objs.size := Nat.ne_of_lt (Heap.lt_size e)
  exact hk b o hb (hs₁.extBut b o hb (Heap.get?_push_of_some _ e))
end
/-- a, *b = a list: the others are a new list -/
def gLstS (K : PySem.W.Frag) (n i : Nat) (t : TGs) : TG := fun v σ H Q => ∃ a xs, v = .ref a ∧ SqL K H a xs ∧ i < n ∧ n ≤ xs.length + 1 ∧
  ∀ D, H D = none → t (xs.take i ++ [.ref D] ++ (xs.drop i).drop (xs.length + 1 - n)) σ (upd H D (.lst ((xs.drop i).take (xs.length + 1 - n)))) Q
section
variable {X : Cx} {pos : Pos} {W : WX}
theorem pg_lstS {es : List Expr} {k : Nat} {t : TGs} {n i : Nat} (hc : X.calm = true) (h : PGs X es t)
    (hn : (assignEach es X.env).length = n := by rfl) (hst : (assignEach es X.env).findIdx? (·.1) = some i := by rfl) : PG X (.Tuple es k pos) (gLstS X.K n i t) := by
  refine ⟨fun pins s σ H v u Q I r hw => ?_⟩
  obtain ⟨a, xs, e1, hq, hi, hl, hw⟩ := hw
  subst e1
  cases r
  obtain ⟨its, rv, pl, hz⟩ := I.list hq
  have hlen : its.length = xs.length := rv.length.symm
  rw [PyProof.Rows.assign_Tuple]
  refine wpAny_bind (wpAny_standAt ?_)
  unfold unpack
  rw [hn, hst]
  refine wpAny_bind (wpAny_holding (star_list pl.isList (I.ok.hd hc) hi (by simp [hlen]; exact hl) (by simp [hlen]; exact hz) fun h2 tk hk => ?_))
  have I1 : Inv X pins σ H { s with heap := h2, toks := tk } := I.kept hk
  have hm : ((its.toArray.toList.drop i).take (its.toArray.size + 1 - n)).length ≤ sizeLine := by
    simp only [List.length_take, List.length_drop, List.size_toArray]
    rw [hlen]; omega
  have hv : Vals ((xs.drop i).take (xs.length + 1 - n)) ((its.toArray.toList.drop i).take (its.toArray.size + 1 - n)) := by
    simp only [List.size_toArray, hlen]
    exact (rv.drop i).take _
  have I2 : Inv X pins σ (upd H h2.objs.size (.lst ((xs.drop i).take (xs.length + 1 - n)))) { s with heap := h2.push (seqObj "list" ((its.toArray.toList.drop i).take (its.toArray.size + 1 - n)).toArray 0), toks := tk } :=
    I1.laid (t' := tk) (fun b u e => Heap.get?_push_of_some _ e) (Nat.le_refl _)
      (show ObjOk X.prog X.w _ _ _ (.lst _) from ⟨by rw [hv.length]; exact hm, _, 0, hv, Heap.get?_push_size _ rfl⟩)
  refine h.run pins _ σ _ _ _ Q I2 ?_ (hw h2.objs.size (I1.hok.fresh (Nat.le_refl _)))
  simp only [List.size_toArray, hlen]
  exact ((rv.take i).append (.cons (show L2.RelV (V.ref h2.objs.size) (.ref h2.objs.size) from rfl) .nil)).append ((rv.drop i).drop _)
theorem pgs_consS {e : Expr} {es : List Expr} {t : TG} {u : TGs} {sp : Pos} (h1 : PG X e t) (h2 : PGs X es u)
    (hs : (assignEach (.Starred e sp :: es) X.env).map (·.2) = assign e X.env :: (assignEach es X.env).map (·.2) := by rfl) : PGs X (.Starred e sp :: es) (gCons t u) := by
  refine ⟨fun pins s σ H vs us Q I r h => ?_⟩
  obtain ⟨v, vr, e1, h⟩ := h
  subst e1
  cases r with
  | cons r rr =>
    rw [hs]
    refine assignInOrder_cons (thn (h1.run pins s σ H _ _ _ I r h) fun _ s1 ⟨σ1, H1, I1, q1⟩ => ?_)
    exact h2.run pins s1 σ1 H1 _ _ Q I1 rr q1
theorem dgsConsS {e : Expr} {es : List Expr} {sp : Pos} {g : D → M Unit} {gs : List D → M Unit} (h1 : PG X e (tG X.K W g)) (h2 : PGs X es (tGs X.K W gs)) (hs : (assignEach (.Starred e sp :: es) X.env).map (·.2) = assign e X.env :: (assignEach es X.env).map (·.2) := by rfl) : PGs X (.Starred e sp :: es) (tGs X.K W (gCons2 g gs)) :=
  PGs.imp (pgs_consS h1 h2 hs) (by
  rintro vs σ H Q ⟨c, F, ρ, ds, ok, r, h⟩
  cases r with
  | nil => exact h.elim
  | cons r rr =>
    refine ⟨_, _, rfl, c, F, ρ, _, ok, r, postG_mono ?_ (postG_bindG h)⟩
    rintro σ1 H1 ⟨F1, ρ1, ok1, s1, h1⟩
    exact ⟨c, F1, ρ1, _, ok1, DpAll.mono s1 rr, h1⟩)
def gStarD (n i : Nat) (gs : List D → M Unit) : D → M Unit
  | .list ds => if i < n ∧ n ≤ ds.length + 1 then gs (ds.take i ++ [.list ((ds.drop i).take (ds.length + 1 - n))] ++ (ds.drop i).drop (ds.length + 1 - n)) else mStuck
  | _ => mStuck
theorem dgStar {es : List Expr} {k : Nat} {gs : List D → M Unit} {n i : Nat} (hc : X.calm = true) (h : PGs X es (tGs X.K W gs)) (hn : (assignEach es X.env).length = n := by rfl) (hst : (assignEach es X.env).findIdx? (·.1) = some i := by rfl) : PG X (.Tuple es k pos) (tG X.K W (gStarD n i gs)) :=
  PG.imp (pg_lstS hc h hn hst) (by
  rintro v σ H Q ⟨c, F, ρ, d, ok, r, h⟩
  unfold gStarD at h
  split at h
  · rename_i ds1
    split at h
    · rename_i hl
      obtain ⟨p, vs, rfl, hp, dp⟩ := Pk.lst ok.sub (.inl r)
      have le := DpAll.length dp
      refine ⟨p, vs, rfl, hp, hl.1, by rw [le]; exact hl.2, fun q hq => ?_⟩
      rw [le]
      have hF : F q = none := ok.sub.free hq
      have s : Same F (upd F q (.lst ((vs.drop i).take (ds1.length + 1 - n)))) := Same.updN hF
      have ok2 := ok.alloc (o := .lst ((vs.drop i).take (ds1.length + 1 - n))) hq
      refine ⟨c, _, ρ, _, ok2, ?_, postG_weak s h⟩
      have dm := DpAll.mono s dp
      exact DpAll.append (DpAll.append (DpAll.take i dm) (.cons (.lst (.inl upd_same) (DpAll.take _ (DpAll.drop i dm))) .nil)) (DpAll.drop _ (DpAll.drop i dm))
    · exact h.elim
  · exact h.elim)
end
/-! ### xs.clear() -/
def clearD : List D → List D → Option (List D × D)
  | _, [] => some ([], .none)
  | _, _ => none
theorem mut_clear {K : PySem.W.Frag} : MutD K rClear clearD := by
  intro H F l xs vs ds as ds' d Q s hF hl hx hv e k
  cases hv with
  | cons _ _ => cases e
  | nil =>
    cases e
    exact ⟨l, xs, rfl, rfl, hl, k _ _ .nil .non⟩
/-! ### a def that hands back a new list -/
section
variable {K : PySem.W.Frag} {W : WX} {c : Ct} {σ : L2.St} {H F : Hp} {ρ : En}
theorem Ok.dropP {p : Addr} {xs : List V} (ok : Ok K (c.put p (.lst xs)) σ H F ρ) (hp : c.pr p = none) : Ok K c σ H F ρ := by
  have nown : ∀ {q : Addr}, (c.put p (.lst xs)).pr q = none → q ≠ p := fun {q} a z => by
    subst z
    have a' : upd c.pr q (.lst xs) q = none := a
    rw [upd_same] at a'; cases a'
  refine ⟨ok.len, ok.sub, ok.ge, ok.fe, ok.keep, fun q e => ?_, fun b u e => ?_, ok.val, fun j es e => ?_, ok.ios, ok.scr, ok.sep, ok.dcs.tr (Same.refl F) fun q ws a1 a2 a3 a4 => ⟨a1, a2, (upd_ne (nown a4)).symm.trans a4⟩⟩
  · obtain ⟨a1, a2, a3, a4⟩ := ok.iod q e
    exact ⟨a1, a2, (upd_ne (nown a3)).symm.trans a3, a4⟩
  · have ne : b ≠ p := fun z => by subst z; rw [hp] at e; cases e
    exact ok.prt b u ((upd_ne ne).trans e)
  · obtain ⟨q, vs, a1, a2, a3, a4, a5, a6⟩ := ok.own j es e
    exact ⟨q, vs, a1, a2, a3, a4, a5, (upd_ne (nown a6)).symm.trans a6⟩
end
section
variable {X : Cx} {W : WX} {pos : Pos}
def mRetFN (m : M (List D)) : M Fl := mBind m fun ds => mPure (.rf ds)
theorem dRetFN {e : Expr} {m : M (List D)} (h : PE X e (tN X.K W m)) : PS X (.Return (some e) pos) (tS X.K W (mRetFN m)) := PS.imp (ps_ret h) (by
  rintro Dn σ H ⟨c, F, ρ, ok, h⟩
  refine ⟨c, F, ρ, ok, ?_⟩
  unfold mRetFN mBind at h
  cases e : m ρ with
  | none => rw [e] at h; exact h.elim
  | some r =>
    rw [e] at h
    cases r with
    | ex x ρ' => exact fun cls y H' F' ok s r => h σ cls y H' F' ok s r
    | ok out ρ' =>
      intro p xs H' F' ok' hp s' r
      obtain ⟨hH, hF, h0⟩ := ok'.prt p _ upd_same
      exact h σ p xs H' F' (ok'.dropP hp) s' hH r hF h0)
end
section
variable {K : PySem.W.Frag} {W : WX} {σ : L2.St} {H : Hp} {n : Nat} {ms : M (List D)}
def asV (f : List D → Option (Rs (List D))) : List D → Option (Rs D) := fun ds => match f ds with
  | none => none
  | some (.ok es) => some (.ok (.list es))
  | some (.error e) => some (.error e)
theorem callFV_of {f : List D → Option (Rs (List D))} {Q : VK} (h : tE K W (mCallV n (asV f) ms) σ H Q) : tCallS (spF K n f) (WE W) (tA K W ms) σ H Q := by
  obtain ⟨c, F, ρ, ok, h⟩ := h
  refine ⟨c, F, ρ, ok, post_mono ?_ (post_bind h)⟩
  rintro ds H1 F1 _ ⟨ρ1, ok1, s1, h1⟩ vs rv
  split at h1
  · rename_i hl
    refine ⟨F1, ds, ok1.sub, rv, hl, ?_⟩
    unfold mRs asV at h1
    cases e : f ds with
    | none => rw [e] at h1; exact h1
    | some r =>
      rw [e] at h1
      cases r with
      | error e => exact fun cls y F' H' x r => h1 cls y H' F' (ok1.call x) x.ff r
      | ok es =>
        intro p xs F' H' x hp hf hl' rx
        have s2 : Same F' (upd F' p (.lst xs)) := Same.updN hf
        have x2 : Ext F1 H1 (upd F' p (.lst xs)) H' := ⟨x.ff.trans s2, fun b o q => by
            by_cases hb : b = p
            · subst hb; rw [upd_same] at q; cases q; exact hl'
            · rw [upd_ne hb] at q; exact x.fh b o q, fun b o q => by
            by_cases hb : b = p
            · subst hb; exact .inr hp
            · rw [upd_ne hb] at q; exact x.fe b o q, x.hh⟩
        exact h1 H' _ (ok1.call x2) x2.ff _ (.lst (.inl upd_same) (DpAll.mono s2 rx))
  · exact h1.elim
/-- a call that looks at a slot's own list; what is told is no list -/
def scalD : D → Bool
  | .none => true
  | .bool _ => true
  | .int _ => true
  | .str _ => true
  | _ => false
def mCallP (i n : Nat) (f : List D → Option (Rs D)) (ms : M (List D)) : M D := mBind (mOwn i) fun _ => mBind ms fun ds => mBind (mOwn i) fun bs => if ds.length + 1 = n then (match f (.list bs :: ds) with
  | some (.ok d) => if scalD d = true then mPure d else mStuck
  | _ => mStuck) else mStuck
theorem scal_dp {F F' : Hp} {v : V} {d : D} (hs : scalD d = true) (h : Dp K F v d) : Dp K F' v d := by
  cases h with
  | non => exact .non
  | bl b => exact .bl b
  | int i => exact .int i
  | str x => exact .str x
  | lst _ _ => cases hs
  | tup _ _ => cases hs
theorem callP_of {i : Nat} {f : List D → Option (Rs D)} {Q : VK} (h : tE K W (mCallP i n f ms) σ H Q) : tCallS (spV K n f) (WE W) (tCons (tVar i) (tA K W ms)) σ H Q := by
  obtain ⟨c, F, ρ, ok, h⟩ := h
  obtain ⟨p, vs, ds0, a1, a2, a3, a4, h⟩ := own_at ok h
  refine ⟨.ref p, a1, c, F, ρ, ok, post_mono ?_ (post_bind h)⟩
  rintro ds H1 F1 _ ⟨ρ1, ok1, s1, h1⟩ ws rw'
  obtain ⟨p', vs1, bs, b1, b2, b3, b4, h2⟩ := own_at ok1 h1
  have ep : p' = p := by rw [a1] at b1; cases b1; rfl
  subst ep
  split at h2
  · rename_i hl
    have s2 : Same F1 (upd F1 p' (.lst vs1)) := Same.updN b4
    refine ⟨upd F1 p' (.lst vs1), .list bs :: ds, fun b o q => ?_, .cons (.lst (.inl upd_same) (DpAll.mono s2 b3)) (DpAll.mono s2 rw'), hl, ?_⟩
    · by_cases hb : b = p'
      · subst hb; rw [upd_same] at q; cases q; exact b2
      · rw [upd_ne hb] at q; exact ok1.sub b o q
    · cases e : f (.list bs :: ds) with
      | none => rw [e] at h2; exact h2.elim
      | some r =>
        rw [e] at h2
        cases r with
        | error x => exact h2.elim
        | ok d =>
          dsimp only at h2 ⊢
          by_cases hs : scalD d = true
          · rw [if_pos hs] at h2
            intro v F' H' x rv
            exact h2 H' F1 (ok1.call ⟨Same.refl F1, fun b o q => x.fh b o (x.ff b o (s2 b o q)), fun b o q => .inl q, x.hh⟩) (Same.refl F1) v (scal_dp hs rv)
          · rw [if_neg hs] at h2; exact h2.elim
  · exact h2.elim
end
section
variable {X : Cx} {W : WX} {k n : Nat} {f : Addr} {fd : FuncData} {ps : List Str} {x : Str} {p pos : Pos} {e : Expr} {es : List Expr} {ms : M (List D)}
theorem dCallP {i : Nat} {g : List D → Option (Rs D)} (F : FnOk X.prog X.w X.K X.mg X.base (L2.CX X.prog X.w) k f fd ps (spV X.K n g)) (hr : Room k X.A) (hm : X.mg x = some (.ref f)) (hk : PySem.W.keepIn X.K (.ref f) = true) (hb : Binds X.K fd ps []) (tk : Takes X W)
    (h1 : PE X e (tVar i)) (ha : PA X es (tA X.K W ms)) (hg : Gl X x := by rfl) (hdb : (x == ("__debug__" : Str)) = false := by decide) (he : starEach (e :: es) X.env = (false, eval e X.env) :: starEach es X.env := by rfl) (hpl : (backTo pos (starEach es X.env)).any (·.1) = false := by rfl) :
    PE X (.Call (.Name x p) (e :: es) [] pos) (tE X.K W (mCallP i n g ms)) := PE.imp (pe_callS F hr hg hm hk hb (fun σ => passAt tk σ) (pa_cons h1 ha he) hdb he hpl) fun _ _ _ => callP_of
theorem dCallPG {i : Nat} {g : List D → Option (Rs D)} (hgd : X.A.guards = some []) (F : FnG X.prog X.w X.K X.mg X.base (L2.CX X.prog X.w) k f fd ps (spV X.K n g)) (hr : Room k X.A) (hm : X.mg x = some (.ref f)) (hk : PySem.W.keepIn X.K (.ref f) = true) (hb : Binds X.K fd ps []) (tk : Takes X W)
    (h1 : PE X e (tVar i)) (ha : PA X es (tA X.K W ms)) (hg : Gl X x := by rfl) (hdb : (x == ("__debug__" : Str)) = false := by decide) (he : starEach (e :: es) X.env = (false, eval e X.env) :: starEach es X.env := by rfl) (hpl : (backTo pos (starEach es X.env)).any (·.1) = false := by rfl) :
    PE X (.Call (.Name x p) (e :: es) [] pos) (tE X.K W (mCallP i n g ms)) := PE.imp (pe_callG F hgd hr hg hm hk hb (fun σ => passAt tk σ) (pa_cons h1 ha he) hdb he hpl) fun _ _ _ => callP_of
theorem dCallFV {g : List D → Option (Rs (List D))} (F : FnOk X.prog X.w X.K X.mg X.base (L2.CX X.prog X.w) k f fd ps (spF X.K n g)) (hr : Room k X.A) (hm : X.mg x = some (.ref f)) (hk : PySem.W.keepIn X.K (.ref f) = true) (hb : Binds X.K fd ps []) (tk : Takes X W)
    (ha : PA X (e :: es) (tA X.K W ms)) (hg : Gl X x := by rfl) (hdb : (x == ("__debug__" : Str)) = false := by decide) (he : starEach (e :: es) X.env = (false, eval e X.env) :: starEach es X.env := by rfl) (hpl : (backTo pos (starEach es X.env)).any (·.1) = false := by rfl) :
    PE X (.Call (.Name x p) (e :: es) [] pos) (tE X.K W (mCallV n (asV g) ms)) := PE.imp (pe_callS F hr hg hm hk hb (fun σ => passAt tk σ) ha hdb he hpl) fun _ _ _ => callFV_of
theorem dCallFVG {g : List D → Option (Rs (List D))} (hgd : X.A.guards = some []) (F : FnG X.prog X.w X.K X.mg X.base (L2.CX X.prog X.w) k f fd ps (spF X.K n g)) (hr : Room k X.A) (hm : X.mg x = some (.ref f)) (hk : PySem.W.keepIn X.K (.ref f) = true) (hb : Binds X.K fd ps []) (tk : Takes X W)
    (ha : PA X (e :: es) (tA X.K W ms)) (hg : Gl X x := by rfl) (hdb : (x == ("__debug__" : Str)) = false := by decide) (he : starEach (e :: es) X.env = (false, eval e X.env) :: starEach es X.env := by rfl) (hpl : (backTo pos (starEach es X.env)).any (·.1) = false := by rfl) :
    PE X (.Call (.Name x p) (e :: es) [] pos) (tE X.K W (mCallV n (asV g) ms)) := PE.imp (pe_callG F hgd hr hg hm hk hb (fun σ => passAt tk σ) ha hdb he hpl) fun _ _ _ => callFV_of
theorem dAsgF {i : Nat} {y : Str} {pos' spos : Pos} {g : List D → Option (Rs (List D))} (F : FnOk X.prog X.w X.K X.mg X.base (L2.CX X.prog X.w) k f fd ps (spF X.K n g)) (hr : Room k X.A) (hm : X.mg x = some (.ref f)) (hk : PySem.W.keepIn X.K (.ref f) = true) (hb : Binds X.K fd ps []) (tk : Takes X W) (hN : X.N.Nodup)
    (ha : PA X (e :: es) (tA X.K W ms)) (hg : Gl X x := by rfl) (hdb : (x == ("__debug__" : Str)) = false := by decide) (he : starEach (e :: es) X.env = (false, eval e X.env) :: starEach es X.env := by rfl) (hpl : (backTo pos (starEach es X.env)).any (·.1) = false := by rfl)
    (hi : X.N[i]? = some y := by rfl) (hx : Loc X.env.scope y := by first | exact Or.inl rfl | exact Or.inr rfl)
    (hs : swapsWith (.Call (.Name x p) (e :: es) [] pos) (some (.Name y pos')) spos.line X.env = pure false := by rfl)
    (hf : X.fn y = true ∨ X.env.scope.names.lookup y = some .local := by first | exact .inl rfl | exact .inr rfl) :
    PS X (.Assign [.Name y pos'] (.Call (.Name x p) (e :: es) [] pos) spos) (tS X.K W (mAsgF i n g ms)) := PS.imp (ps_set hN hi hx (pe_callS F hr hg hm hk hb (fun σ => passAt tk σ) ha hdb he hpl) hs hf) fun _ _ _ => asgF_of
theorem dAsgFG {i : Nat} {y : Str} {pos' spos : Pos} {g : List D → Option (Rs (List D))} (hgd : X.A.guards = some []) (F : FnG X.prog X.w X.K X.mg X.base (L2.CX X.prog X.w) k f fd ps (spF X.K n g)) (hr : Room k X.A) (hm : X.mg x = some (.ref f)) (hk : PySem.W.keepIn X.K (.ref f) = true) (hb : Binds X.K fd ps []) (tk : Takes X W) (hN : X.N.Nodup)
    (ha : PA X (e :: es) (tA X.K W ms)) (hg : Gl X x := by rfl) (hdb : (x == ("__debug__" : Str)) = false := by decide) (he : starEach (e :: es) X.env = (false, eval e X.env) :: starEach es X.env := by rfl) (hpl : (backTo pos (starEach es X.env)).any (·.1) = false := by rfl)
    (hi : X.N[i]? = some y := by rfl) (hx : Loc X.env.scope y := by first | exact Or.inl rfl | exact Or.inr rfl)
    (hs : swapsWith (.Call (.Name x p) (e :: es) [] pos) (some (.Name y pos')) spos.line X.env = pure false := by rfl)
    (hf : X.fn y = true ∨ X.env.scope.names.lookup y = some .local := by first | exact .inl rfl | exact .inr rfl) :
    PS X (.Assign [.Name y pos'] (.Call (.Name x p) (e :: es) [] pos) spos) (tS X.K W (mAsgF i n g ms)) := PS.imp (ps_set hN hi hx (pe_callG F hgd hr hg hm hk hb (fun σ => passAt tk σ) ha hdb he hpl) hs hf) fun _ _ _ => asgF_of
end
end Dd

namespace Dd
open PySem PySem.Spec L2 PyProof.Rows HT
/-! ### t[::-1] of a tuple -/
section
variable {prog : Program} {w : World} {A : Around} {E : Value → Shared → Prop} {s : Shared}
theorem applied_rev {sl : Addr} {vl vu vs : Value} {n : Nat} {Q : Int × Int × Nat → Shared → Prop} (hs : s.heap.IsSliceOf sl vl vu vs) (pl : IsPart vl none) (pu : IsPart vu none) (ps : IsPart vs (some (-1)))
    (h : Q ((n : Int) - 1, -1, n) s) : wpAny (model prog w) A (Builtin.Slice.sliceApplied (.ref sl) (pure (n : Int))) Q E s := by
  obtain ⟨os, hos, hcs, hds⟩ := id hs
  unfold Builtin.Slice.sliceApplied Builtin.Slice.sliceFields
  refine wpAny_bind (wpAny_bind (wpAny_field hos hds (x := vl) rfl (wpAny_bind (wpAny_field hos hds (x := vu) rfl (wpAny_bind (wpAny_field hos hds (x := vs) rfl (wpAny_pure ?_)))))))
  refine wpAny_bind (slicePart_ ps ?_)
  show wpAny _ _ (if ((-1 : Int) == 0) = true then _ else _) _ _ s
  rw [if_neg (by decide)]
  refine wpAny_bind (slicePart_ pl (wpAny_bind (slicePart_ pu (wpAny_bind (wpAny_pure ?_)))))
  show wpAny _ _ (match Builtin.Slice.sliceAdjust none none (-1) (n : Int) with | (lo, hi) => pure (lo, (-1 : Int), Builtin.Slice.slicePlaces lo hi (-1))) _ _ s
  have ea : Builtin.Slice.sliceAdjust none none (-1) (n : Int) = ((n : Int) - 1, -1) := rfl
  rw [ea]
  show wpAny _ _ (pure ((n : Int) - 1, (-1 : Int), Builtin.Slice.slicePlaces ((n : Int) - 1) (-1) (-1))) _ _ s
  have ep : Builtin.Slice.slicePlaces ((n : Int) - 1) (-1) (-1) = n := by
    unfold Builtin.Slice.slicePlaces
    rw [if_neg (by decide)]
    have e1 : (-(-1) : Int) = 1 := by decide
    rw [e1, Int.ediv_one]
    split <;> omega
  rw [ep]
  exact wpAny_pure h
theorem fm_congr {α β : Type} {f g : α → Option β} : ∀ {l : List α}, (∀ a, a ∈ l → f a = g a) → l.filterMap f = l.filterMap g
  | [], _ => rfl
  | a :: l, h => by
    rw [List.filterMap_cons, List.filterMap_cons, h a List.mem_cons_self, fm_congr fun b hb => h b (List.mem_cons_of_mem _ hb)]
theorem pick_rev (xs : Array Value) : ((List.range xs.size).filterMap fun (m : Nat) => xs[(((xs.size : Int) - 1) + (m : Int) * (-1)).toNat]?).toArray = xs.toList.reverse.toArray := by
  have h : ((List.range xs.size).filterMap fun (m : Nat) => xs[(((xs.size : Int) - 1) + (m : Int) * (-1)).toNat]?) = xs.toList.reverse := by
    have e : ∀ m, m ∈ List.range xs.size → xs[(((xs.size : Int) - 1) + (m : Int) * (-1)).toNat]? = xs.toList.reverse[m]? := fun m hm => by
      have hm := List.mem_range.mp hm
      rw [List.getElem?_reverse (by simpa using hm), Array.getElem?_toList, Array.length_toList]
      congr 1
      omega
    rw [fm_congr e]
    have : xs.size = xs.toList.reverse.length := by simp
    rw [this]
    generalize xs.toList.reverse = ys
    clear e this
    induction ys with
    | nil => rfl
    | cons y ys ih =>
      rw [List.length_cons, List.range_succ_eq_map, List.filterMap_cons]
      simp only [List.getElem?_cons_zero, List.filterMap_map]
      congr 1
  rw [h]
theorem item_rev {t sl : Addr} {items : Array Value} {vl vu vs : Value} {Q : Value → Shared → Prop} (ht : IsTup s.heap t items) (hs : s.heap.IsSliceOf sl vl vu vs) (pl : IsPart vl none) (pu : IsPart vu none) (ps : IsPart vs (some (-1)))
    (h : Q (.ref s.heap.objs.size) { s with heap := s.heap.push { cls := .type "tuple", data := .seq items.toList.reverse.toArray } })
    (hsz : items.size ≤ sizeLine) : wpAny (model prog w) A (getItem (.ref t) (.ref sl)) Q E s := by
  have htake : sizeOk (.seq items.toList.reverse.toArray) := by
    show items.toList.reverse.toArray.size ≤ sizeLine
    simpa using hsz
  obtain ⟨os, hos, hcs, hds⟩ := id hs
  have hTs : s.TypeIs (.ref sl) "slice" := ⟨os, hos, hcs⟩
  unfold getItem
  try with_reducible refine wpAny_holding ?_
  first | refine wpAny_bind (wpAny_pure ?_) | skip
  refine wpAny_bind (wpAny_sequenceKey ht.typeIs (by decide) ?_)
  refine wpAny_bind (wpAny_callSpecial?_slot (name := Str.ofString "__getitem__") ht.typeIs PyProof.Rows.slot_tuple_getitem
    (wpAny_call_entry PyProof.Rows.slot_tuple_getitem ht.typeIs entry_tuple_getitem ?_ (args_tuple_getitem _ _)))
  show wpAny _ _ (Builtin.Tuple.tupleItemsOf (.ref t) >>= _) _ _ s
  refine wpAny_bind (tupleItemsOf_ ht ?_)
  refine wpAny_bind (wpAny_typeOf hTs ?_)
  rw [if_pos (by decide)]
  refine wpAny_bind (applied_rev hs pl pu ps ?_)
  have hno : ¬ ((((items.size : Int) - 1) == 0 && (-1 : Int) == 1 && items.size == items.size) = true) := by
    intro q
    rw [Bool.and_eq_true, Bool.and_eq_true] at q
    exact absurd q.1.2 (by decide)
  show wpAny _ _ (if (((items.size : Int) - 1) == 0 && (-1 : Int) == 1 && items.size == items.size) = true then _ else _) _ _ s
  rw [if_neg hno, pick_rev]
  first
    | exact wpAny_bind (m := Builtin.Tuple.tupleExact _) (wpAny_newObj_type (wpAny_pure ⟨_, rfl, wpAny_pure h⟩) htake)
    | exact wpAny_bind (m := Builtin.Tuple.tupleExact _) (wpAny_newObj_type (wpAny_bind (wpAny_pure (wpAny_pure ⟨_, rfl, wpAny_pure h⟩))) htake)
    | exact wpAny_bind (wpAny_bind (m := Builtin.Tuple.tupleExact _) (wpAny_newObj_type (wpAny_pure (wpAny_pure ⟨_, rfl, wpAny_pure h⟩)) htake))
    | exact wpAny_bind (wpAny_bind (m := Builtin.Tuple.tupleExact _) (wpAny_newObj_type (wpAny_pure ⟨_, rfl, wpAny_pure h⟩) htake))
end
def tRevT (K : PySem.W.Frag) (te : TE) : TE := fun σ H Q => te σ H fun x H1 => ∃ a xs, x = .ref a ∧ SqT K H1 a xs ∧ ∀ p, H1 p = none → Q (.ref p) (upd H1 p (.tup xs.reverse))
section
variable {X : Cx} {W : WX} {a : Expr} {ma : M D} {pos p1 p2 p3 : Pos} {k : Nat}
theorem pe_revT {e : Expr} {te : TE} (he : PE X e te) : PE X (.Subscript e (.Slice none none (some (.UnaryOp .USub (.Constant (.int 1) k p1) p2)) p3) pos) (tRevT X.K te) := by
  refine ⟨fun pins s σ H Q I h => ?_⟩
  refine Subscript_ (thn (he.run pins s σ H _ I h) fun v s1 ⟨x, H1, I1, r1, q1⟩ => ?_)
  obtain ⟨a, xs, ex, hx, q⟩ := q1
  subst ex
  cases r1
  have hst : PO X (some (.UnaryOp .USub (.Constant (.int 1) k p1) p2)) (tPart (tUn (rU fun i => .int (-i)) (tC (.int 1)))) := po_some (pe_un un_neg pe_int)
  refine wpAny_Slice (thn (po_none.run pins s1 σ H1 (fun o H2 => o = none ∧ H2 = H1) I1 ⟨rfl, rfl⟩) fun vl s2 ⟨l, H2, I2, pl, el, e2⟩ => ?_)
  subst el e2
  refine thn (po_none.run pins s2 σ H2 (fun o H3 => o = none ∧ H3 = H2) I2 ⟨rfl, rfl⟩) fun vu s3 ⟨u, H3, I3, pu, eu, e3⟩ => ?_
  subst eu e3
  refine thn (hst.run pins s3 σ H3 (fun o H4 => o = some (-1) ∧ H4 = H3) I3 ⟨1, rfl, -1, rfl, rfl, rfl⟩) fun vs s4 ⟨o, H4, I4, ps, eo, e4⟩ => ?_
  subst eo e4
  have I5 : Inv X pins σ H4 { s4 with heap := s4.heap.push { cls := .type "slice", data := .fields #[vl, vu, vs] } } := I4.kept (t' := s4.toks) fun b ob q => Heap.get?_push_of_some _ q
  obtain ⟨its, r, ht, hz⟩ := I5.tuple hx
  have hlen := r.length
  show wpAny (model X.prog X.w) X.A (subscriptTail e (.Slice none none (some (.UnaryOp .USub (.Constant (.int 1) k p1) p2)) p3) (.ref a) (.ref s4.heap.objs.size)) (EP X pins σ Q) X.xe { s4 with heap := s4.heap.push { cls := .type "slice", data := .fields #[vl, vu, vs] } }
  refine tail_any (ops := [.ref a, .ref s4.heap.objs.size]) ht.typeIs (PyProof.Rows.slot_tuple_getitem.lookup) ?_ (by with_unfolding_all rfl)
  refine item_rev ht (Heap.IsSliceOf.new _ vl vu vs) pl pu ps ?_ (by rw [List.size_toArray]; omega)
  refine ⟨.ref _, _, I5.laid (t' := s4.toks) (o := .tup xs.reverse) (fun b ob q => Heap.get?_push_of_some _ q) (Nat.le_refl _) ?_, rfl, q _ (I5.hok.fresh (Nat.le_refl _))⟩
  exact ⟨by rw [List.length_reverse]; exact hz, _, r.reverse, ⟨_, Heap.get?_push_size _ rfl, rfl, 0, rfl⟩⟩
def revTD : D → Option D
  | .tuple ds => some (.tuple ds.reverse)
  | _ => none
def mRevT (m : M D) : M D := mBind m fun d => mLift (revTD d)
theorem dRevT (ha : PE X a (tP X.K W ma)) : PE X (.Subscript a (.Slice none none (some (.UnaryOp .USub (.Constant (.int 1) k p1) p2)) p3) pos) (tE X.K W (mRevT ma)) := PE.imp (pe_revT ha) (by
  rintro σ H Q ⟨c, F, ρ, ok, h⟩
  refine ⟨c, F, ρ, ok, post_mono ?_ (post_bind h)⟩
  rintro a H1 F1 _ ⟨ρ1, ok1, s1, h1⟩ x rx
  obtain ⟨d, e, h2⟩ := post_lift h1
  cases a with
  | tuple es =>
    cases e
    obtain ⟨p, vs, rfl, hp, dp⟩ := Pk.tup ok1.sub rx
    refine ⟨p, vs, rfl, hp, fun q hq => ?_⟩
    have hF : F1 q = none := ok1.sub.free hq
    have s : Same F1 (upd F1 q (.tup vs.reverse)) := Same.updN hF
    exact h2 _ _ (ok1.alloc hq) s _ (.tup (.inl (.inl upd_same)) (DpAll.mono s (DpAll.reverse dp)))
  | _ => cases e)
end
end Dd

namespace Dd
open PySem PySem.Spec L2 PyProof.Rows
variable {K : PySem.W.Frag}
/-! ### enumerate of a list or a tuple -/
theorem meets_enum1 {v : Value} {o : Obj} {H : Heap → Prop} (B : Begins v o H) :
    Meets (Builtin.«enumerate.__new__» ⟨[.type "enumerate", v], []⟩) (fun _ R s => H s.heap ∧
      R (.ok (.ret (.ref (s.heap.push o).objs.size))) { s with heap := (s.heap.push o).push { cls := .type "enumerate", data := .fields #[.none, .bool false, .ref s.heap.objs.size, rawInt 0, .none, .none] } }) :=
  .of_wp fun prog w A R s h => by
    obtain ⟨hp, g, d, tk, os⟩ := s; obtain ⟨h1, h⟩ := h
    have hsub := sub_enumerate
    have q1 : ∀ {A' : Around} {E : Value → Shared → Prop} {Q : Value → Shared → Prop}, Q (.ref hp.objs.size) ⟨hp.push o, g, d, tk, os⟩ → wpAny (model prog w) A' (pyIter v) Q E ⟨hp, g, d, tk, os⟩ :=
      fun q => B.iter prog w _ _ ⟨hp, g, d, tk, os⟩ _ h1 q
    wp_walk using q1
    refine wpAny_stack_any fun st => wpAny_pure ?_
    split
    · rename_i c _ _ _ _ _
      cases (c == Value.type "enumerate")
      · wp_walk using q1
        exact ⟨_, rfl, h⟩
      · wp_walk using q1
        exact ⟨_, rfl, h⟩
    · wp_walk using q1
      exact ⟨_, rfl, h⟩
theorem call_enum1 {prog : Program} {w : World} {A : Around} {E : Value → Shared → Prop} {s : Shared} {v : Value} {o : Obj} {H : Heap → Prop} {Q : Value → Shared → Prop} (B : Begins v o H) (h1 : H s.heap)
    (h : ∀ h', IsEnum h' (s.heap.objs.size + 1) s.heap.objs.size 0 .none → h'.get? s.heap.objs.size = some o → h'.objs.size = s.heap.objs.size + 2 →
      (∀ b o, s.heap.get? b = some o → h'.get? b = some o) → Q (.ref (s.heap.objs.size + 1)) { s with heap := h' }) :
    wpAny (model prog w) A (call (.type "enumerate") [v]) Q E s := by
  refine callType_new F.called_enumerate (by decide) (F.typeCall_enumerate_1 _) (F.newCall_enumerate_1 _) (fun obj => F.args_object_init_2 obj _) F.entry_enumerate_new
    (meets_enum1 B) ⟨h1, ?_⟩
  have hz : (s.heap.push o).objs.size = s.heap.objs.size + 1 := Heap.size_push ..
  show _ ∧ _
  rw [hz]
  have he : IsEnum ((s.heap.push o).push { cls := .type "enumerate", data := .fields #[.none, .bool false, .ref s.heap.objs.size, rawInt 0, .none, .none] }) (s.heap.objs.size + 1) s.heap.objs.size 0 .none := by
    have := Heap.get?_push_size (s.heap.push o) (o := { cls := .type "enumerate", data := .fields #[.none, .bool false, .ref s.heap.objs.size, rawInt 0, .none, .none] }) rfl
    rw [hz] at this; exact this
  refine ⟨⟨_, he, rfl⟩, h _ he (Heap.get?_push_of_some _ (Heap.get?_push_size _ B.free)) (by rw [Heap.size_push, hz]) fun b o x => Heap.get?_push_of_some _ (Heap.get?_push_of_some _ x)⟩
def IteB (K : PySem.W.Frag) (b : Bool) (a : Addr) (n : Nat) : It :=
  ⟨fun i H => ∃ (xs : List V) (x : V), SqB K b H a xs ∧ xs.length = n ∧ xs[i]? = some x, fun i H v H' => ∃ T x, v = .ref T ∧ H T = none ∧ H' = upd H T (.tup [.int (i : Nat), x]) ∧ ∀ xs, SqB K b H a xs → xs[i]? = some x, fun i H => ∃ xs : List V, SqB K b H a xs ∧ xs.length = n ∧ n ≤ i⟩
theorem turn_enumB {P : Program} {w : World} {elts : List Expr} {kk : Nat} {tpos : Pos} {b : Bool} {n : Nat} (a e it : Addr) (hea : e ≠ a) (hai : a ≠ it) :
    Turn P w K (.Tuple elts kk tpos) (IteB K b a n) [e, it] e (fun i h => (∃ old, IsEnum h e it ((i : Nat) : Int) old) ∧ ItB b h it a i ∧ e ≠ it ∧ i ≤ n) where
  mem := by simp
  obj := fun i h st c hc => by
    obtain ⟨⟨old, he⟩, h1, _⟩ := st
    have e' : c = e ∨ c = it := by simpa using hc
    rcases e' with z | z
    · rw [z]; exact ⟨_, he, fun v q => nomatch q⟩
    · rw [z]; exact h1.obj
  keep := fun i h h' st k => let ⟨⟨old, he⟩, hi, hne, hn⟩ := st; ⟨⟨old, k e (by simp) _ he⟩, hi.at fun o q => k it (by simp) o q, hne, hn⟩
  item := by
    intro X hP hw hK hc i pins s σ H E I hf st hg
    subst hP hw hK
    obtain ⟨⟨old, he⟩, hit, hne, hn⟩ := st
    obtain ⟨xs, x, hq, ln, hx⟩ := hg
    obtain ⟨its, rv, p⟩ := sqB_inv I hq
    obtain ⟨u, hu, ru⟩ := rv.get hx
    have hel : e < s.heap.objs.size := Heap.lt_size he
    have hil : it < s.heap.objs.size := by obtain ⟨_, q, _⟩ := hit.obj; exact Heap.lt_size q
    have hh := in1_handled (I.ok.hd hc)
    have lt1 : i < its.toArray.size := by
      have := (List.getElem?_eq_some_iff.mp hu).1
      simpa using this
    refine wpAny_pyNext_enum_itemD (drawsB hh b it a hai its.toArray) he ⟨hit, p⟩ lt1 hne (by simp [hne, hea]) fun x1 h' tk q1 ho hst' hT hsz hk => ?_
    have ex1 : x1 = u := by
      have : its.toArray[i]? = some u := by simpa using hu
      rw [this] at q1
      exact (Option.some.inj q1).symm
    subst ex1
    refine ⟨_, rfl, wpAny_letOwnedTupleGo_enum (s := { s with heap := h', toks := tk + 1 }) ho fun h'' he' sb => ?_⟩
    have hT2 : h''.get? s.heap.objs.size = some { cls := .type "tuple", data := .seq #[.int i tk, x1] } := (sb.2 _ (Nat.ne_of_gt hel)).trans hT
    have new : ObjOk X.prog X.w (upd H s.heap.objs.size (.tup [.int (i : Nat), x])) h'' s.heap.objs.size (.tup [.int (i : Nat), x]) :=
      ⟨by show 2 ≤ sizeLine; decide, [.int i tk, x1], .cons ⟨_, rfl⟩ (.cons ru .nil), ⟨_, hT2, rfl, _, rfl⟩⟩
    have I1 : Inv X pins σ (upd H s.heap.objs.size (.tup [.int (i : Nat), x])) { s with heap := h'', toks := tk + 1 } :=
      I.turnedNew (t' := tk + 1) (ch := [e, it]) (fun b ob hb q => (sb.2 b (fun z => hb (by simp [z]))).trans (hk b ob (fun z => hb (by simp [z])) (fun z => hb (by simp [z])) q)) hf (Nat.le_refl _) new
    refine ⟨.ref s.heap.objs.size, _, I1, rfl, ⟨_, x, rfl, I.hok.fresh (Nat.le_refl _), rfl, fun ys hy => by rw [sqB_inj I hy hq]; exact hx⟩, ⟨⟨x1, ?_⟩, hst'.1.at fun o q => (sb.2 it (Ne.symm hne)).trans q, hne, ?_⟩, fun b hb => ?_⟩
    · have e1 : ((i + 1 : Nat) : Int) = (i : Int) + 1 := by omega
      rw [e1]; exact he'
    · have := (List.getElem?_eq_some_iff.mp hx).1; omega
    · have hb' : b < s.heap.objs.size := by
        have e' : b = e ∨ b = it := by simpa using hb
        rcases e' with z | z
        · rw [z]; exact hel
        · rw [z]; exact hil
      rw [upd_ne (Nat.ne_of_lt hb')]
      exact (hf b hb).1
  done := by
    intro X hP hw hK hc i pins s σ H E I hf st hg
    subst hP hw hK
    obtain ⟨⟨old, he⟩, hit, hne, hn⟩ := st
    obtain ⟨xs, hq, ln, hx⟩ := hg
    obtain ⟨its, rv, p⟩ := sqB_inv I hq
    obtain ⟨f0, f1, f2, f3, f4, f5⟩ := hf it (by simp)
    have hl := rv.length
    have hh := in1_handled (I.ok.hd hc)
    have hin : i = its.toArray.size := by simp; omega
    exact wpAny_pyNext_enum_endD (drawsB hh b it a hai its.toArray) he ⟨by rw [← hin]; exact hit, p⟩ fun h' eb => ⟨rfl, I.turned (t' := s.toks) (fun b o hb q => eb b o hb q) f0 f1 f3 f4 f5⟩
  self := fun A i s Q E st h => let ⟨⟨_, he⟩, _⟩ := st; wpAny_pyIter_enum he h
def iEnumB (K : PySem.W.Frag) (ta : TA) : TI := fun σ H R => ta σ H fun vs H1 => ∃ b a xs, vs = [.ref a] ∧ SqB K b H1 a xs ∧ R (IteB K b a xs.length) H1
theorem pi_enumB {X : Cx} {e : Expr} {ta : TA} {p pos tpos : Pos} {elts : List Expr} {kk : Nat} (hg : Gl X "enumerate") (hm : X.mg "enumerate" = none) (ha : PA X [e] ta) (hs : starEach [e] X.env = [(false, eval e X.env)] := by rfl) :
    PI X (.Tuple elts kk tpos) (.Call (.Name "enumerate" p) [e] [] pos) (iEnumB X.K ta) := by
  refine ⟨fun pins s σ H R I h => ?_⟩
  refine Call_ (ld_blt I hg hm boot_enumerate (PyProof.Rows.callWith_type1 (thn (ha.run pos pins s σ H _ I h) fun us s1 ⟨vs, H1, I1, r1, q1⟩ => ?_) hs rfl))
  obtain ⟨b, a, xs, ex, hq, q⟩ := q1
  subst ex
  cases r1 with
  | cons r rr =>
    cases rr
    cases r
    obtain ⟨its, rv, p'⟩ := sqB_inv I1 hq
    refine call_enum1 (beginsB b a its.toArray) p' fun h' he hit hsz hk => wpAny_pyIter_enum he ?_
    have I2 : Inv X pins σ H1 { s1 with heap := h' } := I1.kept (t' := s1.toks) hk
    have hal := p'.lt
    refine ⟨s1.heap.objs.size + 1, [s1.heap.objs.size + 1, s1.heap.objs.size], _, _, H1, rfl, I2, turn_enumB a (s1.heap.objs.size + 1) s1.heap.objs.size (by intro z; rw [← z] at hal; exact absurd hal (Nat.not_lt_of_le (Nat.le_succ _))) (Nat.ne_of_lt hal), ⟨⟨.none, he⟩, itB_of hit, Nat.succ_ne_self _, Nat.zero_le _⟩, fun b hb => ?_, q⟩
    have e' : b = s1.heap.objs.size + 1 ∨ b = s1.heap.objs.size := by simpa using hb
    have hle : s1.heap.objs.size ≤ b := by
      rcases e' with z | z
      · rw [z]; exact Nat.le_add_right _ _
      · rw [z]; exact Nat.le_refl _
    exact I1.fpOk hle (I1.hok.fresh hle)
theorem iteB_D {F : Hp} {b : Bool} {a : Addr} {xs : List V} {ds : List D} (h : SqB K b F a xs) (hd : DpAll K F xs ds) : ItD K F (IteB K b a xs.length) (enumL ds) where
  go := fun H i s hi => by
    rw [enumL_length] at hi
    obtain ⟨x, q⟩ : ∃ x, xs[i]? = some x := ⟨xs[i]'(by rw [DpAll.length hd]; exact hi), by simp⟩
    exact ⟨xs, x, sqB_mono s h, rfl, q⟩
  stop := fun H i s hi => ⟨xs, sqB_mono s h, rfl, by rw [enumL_length] at hi; rw [DpAll.length hd]; exact hi⟩
  yld := fun H i x H' d s q y => by
    obtain ⟨T, z, e1, e2, e3, y⟩ := y
    obtain ⟨yd, q1, e4⟩ := enumL_get q
    obtain ⟨v, q2, q3⟩ := DpAll.getd hd q1
    have q4 := y xs (sqB_mono s h)
    rw [q4] at q2
    cases q2
    exact .inr ⟨T, _, _, e4, e1, e2, e3, .cons (.int _) (.one q3)⟩
def enumBD : List D → Option (List D)
  | [.list ds] => some (enumL ds)
  | [.tuple ds] => some (enumL ds)
  | _ => none
def mEnumB (ms : M (List D)) : M (List D) := mBind ms fun ds => mLift (enumBD ds)
variable {X : Cx} {W : WX} {e : Expr} {elts : List Expr} {kk : Nat} {p pos tpos : Pos} {ms : M (List D)}
theorem diEnumB (hm : X.mg "enumerate" = none) (ha : PA X [e] (tA X.K W ms)) (hg : Gl X "enumerate" := by rfl) (hs : starEach [e] X.env = [(false, eval e X.env)] := by rfl) : PI X (.Tuple elts kk tpos) (.Call (.Name "enumerate" p) [e] [] pos) (tI X.K W (mEnumB ms)) := PI.imp (pi_enumB hg hm ha hs) (by
  rintro σ H R ⟨c, F, ρ, ok, h⟩
  refine ⟨c, F, ρ, ok, post_mono ?_ (post_bind h)⟩
  rintro ds H1 F1 _ ⟨ρ1, ok1, s1, h1⟩ vs rv
  obtain ⟨out, e, h2⟩ := post_lift h1
  have hb : ∃ d b es, ds = [d] ∧ sqOf d = some (b, es) ∧ out = enumL es := by
    unfold enumBD at e
    split at e
    · cases e; exact ⟨_, _, _, rfl, rfl, rfl⟩
    · cases e; exact ⟨_, _, _, rfl, rfl, rfl⟩
    · cases e
  obtain ⟨d, b, es, e1, e2, e3⟩ := hb
  subst e1 e3
  cases rv with
  | cons r t =>
    cases t
    obtain ⟨a, xs, rfl, q1, q2⟩ := sqOf_dp r e2
    exact ⟨b, a, xs, rfl, sqB_mono ok1.sub q1, h2 H1 F1 ok1 (Same.refl F1) _ (iteB_D q1 q2)⟩)
end Dd

namespace Dd
open PySem PySem.Spec L2
/-! ### a slot's own dict -/
def valD : List (Key × D) → Key → Option D
  | [], _ => none
  | (k, d) :: r, x => if k = x then some d else valD r x
def dropD : List (Key × D) → Key → List (Key × D)
  | [], _ => []
  | (k, d) :: r, x => if k = x then dropD r x else (k, d) :: dropD r x
def putD : List (Key × D) → Key → D → List (Key × D)
  | [], x, v => [(x, v)]
  | (k, d) :: r, x, v => if k = x then (k, v) :: (if (valD r x).isSome = true then putD r x v else r) else (k, d) :: putD r x v
def keyD : D → Option Key
  | .int i => some (.inl i)
  | .str x => some (.inr x)
  | _ => none
section
variable {K : PySem.W.Frag} {F H : Hp}
theorem KVs.length : ∀ {ws : List (Key × V)} {kvs : List (Key × D)}, KVs K F ws kvs → ws.length = kvs.length
  | _, _, .nil => rfl
  | _, _, .cons _ t => by rw [List.length_cons, List.length_cons, KVs.length t]
theorem KVs.valv : ∀ {ws : List (Key × V)} {kvs : List (Key × D)} (k : Key), KVs K F ws kvs → (valV ws k = none ∧ valD kvs k = none) ∨ (∃ v d, valV ws k = some v ∧ valD kvs k = some d ∧ Dp K F v d)
  | _, _, k, .nil => .inl ⟨rfl, rfl⟩
  | _, _, k, .cons (k := k') (v := v) (d := d) (ws := ws) (kvs := kvs) h t => by
    by_cases e : k' = k
    · exact .inr ⟨v, d, by simp [valV, List.find?, e], by simp [valD, e], h⟩
    · have e1 : valV ((k', v) :: ws) k = valV ws k := by simp [valV, List.find?, e]
      have e2 : valD ((k', d) :: kvs) k = valD kvs k := by simp [valD, e]
      rw [e1, e2]
      exact KVs.valv k t
theorem KVs.dropk : ∀ {ws : List (Key × V)} {kvs : List (Key × D)} (k : Key), KVs K F ws kvs → KVs K F (dropK ws k) (dropD kvs k)
  | _, _, k, .nil => .nil
  | _, _, k, .cons (k := k') (v := v) (d := d) (ws := ws) (kvs := kvs) h t => by
    have q := KVs.dropk k t
    by_cases e : k' = k
    · have e1 : dropK ((k', v) :: ws) k = dropK ws k := by simp [dropK, List.filter, e]
      have e2 : dropD ((k', d) :: kvs) k = dropD kvs k := by simp [dropD, e]
      rw [e1, e2]; exact q
    · have e1 : dropK ((k', v) :: ws) k = (k', v) :: dropK ws k := by simp [dropK, List.filter, e]
      have e2 : dropD ((k', d) :: kvs) k = (k', d) :: dropD kvs k := by simp [dropD, e]
      rw [e1, e2]; exact .cons h q
theorem KVs.snoc {k : Key} {v : V} {d : D} (h0 : Dp K F v d) : ∀ {ws : List (Key × V)} {kvs : List (Key × D)}, KVs K F ws kvs → KVs K F (ws ++ [(k, v)]) (kvs ++ [(k, d)])
  | _, _, .nil => .cons h0 .nil
  | _, _, .cons h t => .cons h (KVs.snoc h0 t)
theorem KVs.repl {k : Key} {v : V} {d : D} (h0 : Dp K F v d) : ∀ {ws : List (Key × V)} {kvs : List (Key × D)}, KVs K F ws kvs → KVs K F (ws.map fun kv => if kv.1 = k then (kv.1, v) else kv) (kvs.map fun kv => if kv.1 = k then (kv.1, d) else kv)
  | _, _, .nil => .nil
  | _, _, .cons (k := k') h t => by
    have q := KVs.repl (k := k) h0 t
    by_cases e : k' = k
    · simp only [List.map_cons, if_pos e]; exact .cons h0 q
    · simp only [List.map_cons, if_neg e]; exact .cons h q
theorem KVs.any : ∀ {ws : List (Key × V)} {kvs : List (Key × D)} (k : Key), KVs K F ws kvs → (ws.any fun kv => decide (kv.1 = k)) = (kvs.any fun kv => decide (kv.1 = k))
  | _, _, k, .nil => rfl
  | _, _, k, .cons h t => by rw [List.any_cons, List.any_cons, KVs.any k t]
theorem KVs.items : ∀ {ws : List (Key × V)} {kvs : List (Key × D)}, KVs K F ws kvs → DpAll K F (ws.map (·.2)) (kvs.map (·.2))
  | _, _, .nil => .nil
  | _, _, .cons h t => .cons h (KVs.items t)
/-- d[k] = v -/
def setKD (kvs : List (Key × D)) (k : Key) (d : D) : List (Key × D) := if (kvs.any fun kv => decide (kv.1 = k)) = true then kvs.map fun kv => if kv.1 = k then (kv.1, d) else kv else kvs ++ [(k, d)]
theorem KVs.putk {ws : List (Key × V)} {kvs : List (Key × D)} {k : Key} {v : V} {d : D} (h : KVs K F ws kvs) (h0 : Dp K F v d) : KVs K F (putK ws k v) (setKD kvs k d) := by
  unfold putK setKD
  rw [KVs.any k h]
  split
  · exact KVs.repl h0 h
  · exact KVs.snoc h0 h
theorem key_is {y : V} {d : D} {k : Key} (r : Dp K F y d) (e : keyD d = some k) : y = kV k := by
  cases r <;> first | (cases e; rfl) | cases e
end
section
variable {K : PySem.W.Frag} {W : WX} {c : Ct} {σ : L2.St} {H F : Hp} {ρ : En}
theorem lt_of_get {α : Type} {l : List α} {i : Nat} {a : α} (e : l[i]? = some a) : i < l.length := by
  rcases Nat.lt_or_ge i l.length with h | h
  · exact h
  · rw [List.getElem?_eq_none h] at e; cases e
/-- the dict is kept apart, the slot empty -/
theorem Ok.lockD {i : Nat} {kvs : List (Key × D)} (ok : Ok K c σ H F ρ) (e : ρ[i]? = some (.dct kvs)) :
    ∃ p ws, σ[i]? = some (some (.ref p)) ∧ H p = some (.dK ws) ∧ KVs K F ws kvs ∧ c.pr p = none ∧ Ok K (c.put p (.dK ws)) σ H F (ρ.set i .un) := by
  obtain ⟨p, ws, a1, a2, a3, a4, a5, a6⟩ := ok.dcs.at' i kvs e
  have hi := lt_of_get e
  have oth : ∀ {j : Nat} {u : Sl}, (ρ.set i .un)[j]? = some u → u ≠ .un → i ≠ j ∧ ρ[j]? = some u := fun {j u} q n => by
    rw [get_set hi] at q
    by_cases z : i = j
    · rw [if_pos z] at q; exact absurd (Option.some.inj q).symm n
    · rw [if_neg z] at q; exact ⟨z, q⟩
  refine ⟨p, ws, a1, a2, a3, a6, ?_⟩
  refine ⟨by rw [List.length_set]; exact ok.len, ok.sub, ok.ge, ok.fe, ok.keep, fun q z => ?_, fun b u q => ?_, fun j d q => ?_, fun j es q => ?_, fun j es q => ?_, fun j ns q => ?_, fun j k es fs q x y u w => ?_, ?_⟩
  · obtain ⟨b1, b2, b3, b4⟩ := ok.iod q z
    have ne : q ≠ p := fun z => by subst z; exact b2 a5
    exact ⟨b1, b2, (upd_ne ne).trans b3, b4⟩
  · by_cases z : b = p
    · subst z
      have q' : upd c.pr b (.dK ws) b = some u := q
      rw [upd_same] at q'; cases q'
      exact ⟨a2, a4, a5⟩
    · exact ok.prt b u ((upd_ne z).symm.trans q)
  · exact ok.val j d (oth q (by intro z; cases z)).2
  · obtain ⟨r, vs, b1, b2, b3, b4, b5, b6⟩ := ok.own j es (oth q (by intro z; cases z)).2
    have ne : r ≠ p := fun z => by subst z; rw [a2] at b2; cases b2
    exact ⟨r, vs, b1, b2, b3, b4, b5, (upd_ne ne).trans b6⟩
  · exact ok.ios j es (oth q (by intro z; cases z)).2
  · exact ok.scr j ns (oth q (by intro z; cases z)).2
  · exact ok.sep j k es fs q (oth x (by intro z; cases z)).2 (oth y (by intro z; cases z)).2 u w
  · refine ⟨fun j l q => ?_, fun j k l m q x y u w => ok.dcs.sep j k l m q (oth x (by intro z; cases z)).2 (oth y (by intro z; cases z)).2 u w⟩
    obtain ⟨ne0, q'⟩ := oth q (by intro z; cases z)
    obtain ⟨r, vs, b1, b2, b3, b4, b5, b6⟩ := ok.dcs.at' j l q'
    have ne : r ≠ p := fun z => by subst z; exact ne0 (ok.dcs.sep i j kvs l r e q' a1 b1)
    exact ⟨r, vs, b1, b2, b3, b4, b5, (upd_ne ne).trans b6⟩
/-- the dict that was kept apart is slot i's -/
theorem Ok.asD {p : Addr} {ws : List (Key × V)} {kvs : List (Key × D)} {i : Nat} (ok : Ok K (c.put p (.dK ws)) σ H F ρ) (hpr : c.pr p = none) (hi : i < ρ.length) (hs : σ[i]? = some (some (.ref p))) (hk : KVs K F ws kvs) : Ok K c σ H F (ρ.set i (.dct kvs)) := by
  obtain ⟨hH, hF, h0⟩ := ok.prt p _ upd_same
  have nown : ∀ {q : Addr}, (c.put p (.dK ws)).pr q = none → q ≠ p := fun {q} a z => by
    subst z
    have a' : upd c.pr q (.dK ws) q = none := a
    rw [upd_same] at a'; cases a'
  have ok' := ok_unput ok hpr
  have oth : ∀ {j : Nat} {u : Sl}, (ρ.set i (.dct kvs))[j]? = some u → (∀ l, u ≠ .dct l) → ρ[j]? = some u := fun {j u} q n => by
    rw [get_set hi] at q
    by_cases z : i = j
    · rw [if_pos z] at q; exact absurd (Option.some.inj q).symm (n kvs)
    · rw [if_neg z] at q; exact q
  refine ⟨by rw [List.length_set]; exact ok.len, ok'.sub, ok'.ge, ok'.fe, ok'.keep, ok'.iod, ok'.prt, fun j d q => ok'.val j d (oth q (by intro _ z; cases z)), fun j es q => ok'.own j es (oth q (by intro _ z; cases z)), fun j es q => ok'.ios j es (oth q (by intro _ z; cases z)), fun j ns q => ok'.scr j ns (oth q (by intro _ z; cases z)),
    fun j k es fs q x y u w => ok'.sep j k es fs q (oth x (by intro _ z; cases z)) (oth y (by intro _ z; cases z)) u w, ?_⟩
  refine ⟨fun j l q => ?_, fun j k l m q x y u w => ?_⟩
  · rw [get_set hi] at q
    by_cases z : i = j
    · rw [if_pos z] at q
      subst z
      cases q
      exact ⟨p, ws, hs, hH, hk, hF, h0, hpr⟩
    · rw [if_neg z] at q
      exact ok'.dcs.at' j l q
  · rw [get_set hi] at x y
    have dif : ∀ {j : Nat} {l : List (Key × D)}, ρ[j]? = some (.dct l) → σ[j]? = some (some (.ref p)) → False := fun {j l} a b => by
      obtain ⟨r, vs, b1, _, _, _, _, b6⟩ := ok.dcs.at' j l a
      rw [b] at b1
      cases b1
      exact nown b6 rfl
    by_cases z : i = j
    · by_cases z2 : i = k
      · rw [← z, z2]
      · rw [if_neg z2] at y
        rw [← z, hs] at u
        cases u
        exact (dif y w).elim
    · rw [if_neg z] at x
      by_cases z2 : i = k
      · rw [← z2, hs] at w
        cases w
        exact (dif x u).elim
      · rw [if_neg z2] at y
        exact ok'.dcs.sep j k l m q x y u w
def mDct (i : Nat) : M (List (Key × D)) := fun ρ => match ρ[i]? with
  | some (.dct kvs) => some (.ok kvs ρ)
  | _ => none
def mPutD (i : Nat) (kvs : List (Key × D)) : M Unit := fun ρ => match ρ[i]? with
  | some (.dct _) => some (.ok () (ρ.set i (.dct kvs)))
  | _ => none
theorem dct_at {α : Type} {i : Nat} {G : α → Hp → Hp → Prop} {f : List (Key × D) → M α} (h : post K W c σ F G (mBind (mDct i) f ρ)) : ∃ kvs, ρ[i]? = some (.dct kvs) ∧ post K W c σ F G (f kvs ρ) := by
  unfold mBind mDct at h
  cases e : ρ[i]? with
  | none => rw [e] at h; exact h.elim
  | some u =>
    rw [e] at h
    cases u with
    | dct kvs => exact ⟨kvs, rfl, h⟩
    | un => exact h.elim
    | val _ => exact h.elim
    | own _ => exact h.elim
    | io _ => exact h.elim
    | scr _ => exact h.elim
theorem dct_atS {i : Nat} {Dn : Ends} {f : List (Key × D) → M Fl} (h : postS K W c F Dn (mBind (mDct i) f ρ)) : ∃ kvs, ρ[i]? = some (.dct kvs) ∧ postS K W c F Dn (f kvs ρ) := by
  unfold mBind mDct at h
  cases e : ρ[i]? with
  | none => rw [e] at h; exact h.elim
  | some u =>
    rw [e] at h
    cases u with
    | dct kvs => exact ⟨kvs, rfl, h⟩
    | un => exact h.elim
    | val _ => exact h.elim
    | own _ => exact h.elim
    | io _ => exact h.elim
    | scr _ => exact h.elim
/-- k in d -/
def mInDict (i : Nat) (mk : M D) : M D := mBind mk fun k => mBind (mDct i) fun kvs => mLift ((keyD k).map fun k => .bool (valD kvs k).isSome)
theorem tDIn_of {i : Nat} {mk : M D} {Q : VK} (h : tE K W (mInDict i mk) σ H Q) : tDIn (tE K W mk) (tVar i) σ H Q := by
  obtain ⟨c, F, ρ, ok, h⟩ := h
  refine ⟨c, F, ρ, ok, post_mono ?_ (post_bind h)⟩
  rintro k H1 F1 _ ⟨ρ1, ok1, s1, h1⟩ y ry
  obtain ⟨kvs, e, h2⟩ := dct_at h1
  obtain ⟨p, ws, a1, a2, a3, _⟩ := ok1.dcs.at' i kvs e
  obtain ⟨d, e2, h3⟩ := post_lift h2
  cases ek : keyD k with
  | none => rw [ek] at e2; cases e2
  | some kk =>
    rw [ek] at e2
    cases e2
    have ey := key_is ry ek
    subst ey
    refine ⟨.ref p, a1, p, _, rfl, DGet.k a2, ?_⟩
    have q := h3 H1 F1 ok1 (Same.refl F1)
    have eq : (valV ws kk).isSome = (valD kvs kk).isSome := by
      rcases KVs.valv kk a3 with ⟨q1, q2⟩ | ⟨v, d, q1, q2, _⟩ <;> rw [q1, q2] <;> rfl
    rw [eq]
    exact q _ (.bl _)
theorem Ok.chgD {i : Nat} {kvs kvs' : List (Key × D)} {ws' : List (Key × V)} {p : Addr} (ok : Ok K c σ H F ρ) (e : ρ[i]? = some (.dct kvs)) (hp : σ[i]? = some (some (.ref p))) (hk : KVs K F ws' kvs') : Ok K c σ (upd H p (.dK ws')) F (ρ.set i (.dct kvs')) := by
  obtain ⟨p', ws, a1, a2, a3, a4, ok1⟩ := ok.lockD e
  have ep : p' = p := by rw [hp] at a1; cases a1; rfl
  subst ep
  have q := (ok1.putP (o' := .dK ws')).asD a4 (by rw [List.length_set]; exact lt_of_get e) a1 hk
  rw [List.set_set] at q
  exact q
theorem putD_ok {i : Nat} {kvs : List (Key × D)} {ws' : List (Key × V)} {p : Addr} {α : Type} {G : α → Hp → Hp → Prop} {f : Unit → M α} (ok : Ok K c σ H F ρ) (hp : σ[i]? = some (some (.ref p))) (hk : KVs K F ws' kvs)
    (h : post K W c σ F G (mBind (mPutD i kvs) f ρ)) : ∃ ρ', Ok K c σ (upd H p (.dK ws')) F ρ' ∧ post K W c σ F G (f () ρ') := by
  unfold mBind mPutD at h
  cases e : ρ[i]? with
  | none => rw [e] at h; exact h.elim
  | some u =>
    rw [e] at h
    cases u with
    | dct es => exact ⟨_, ok.chgD e hp hk, h⟩
    | un => exact h.elim
    | val _ => exact h.elim
    | own _ => exact h.elim
    | io _ => exact h.elim
    | scr _ => exact h.elim
theorem putD_okS {i : Nat} {kvs : List (Key × D)} {ws' : List (Key × V)} {p : Addr} {Dn : Ends} {f : Unit → M Fl} (ok : Ok K c σ H F ρ) (hp : σ[i]? = some (some (.ref p))) (hk : KVs K F ws' kvs)
    (h : postS K W c F Dn (mBind (mPutD i kvs) f ρ)) : ∃ ρ', Ok K c σ (upd H p (.dK ws')) F ρ' ∧ postS K W c F Dn (f () ρ') := by
  unfold mBind mPutD at h
  cases e : ρ[i]? with
  | none => rw [e] at h; exact h.elim
  | some u =>
    rw [e] at h
    cases u with
    | dct es => exact ⟨_, ok.chgD e hp hk, h⟩
    | un => exact h.elim
    | val _ => exact h.elim
    | own _ => exact h.elim
    | io _ => exact h.elim
    | scr _ => exact h.elim
/-- d.pop(k), k there -/
def mPopDict (i : Nat) (mk : M D) : M D := mBind (mDct i) fun _ => mBind mk fun k => mBind (mDct i) fun kvs => mBind (mLift ((keyD k).bind fun k => (valD kvs k).map fun d => (d, dropD kvs k))) fun q => mBind (mPutD i q.2) fun _ => mPure q.1
theorem tDPop_of {i : Nat} {mk : M D} {Q : VK} (h : tE K W (mPopDict i mk) σ H Q) : tDPop1 (tVar i) (tE K W mk) σ H Q := by
  obtain ⟨c, F, ρ, ok, h⟩ := h
  obtain ⟨kvs0, e0, h⟩ := dct_at h
  obtain ⟨p, ws0, a1, a2, a3, _⟩ := ok.dcs.at' i kvs0 e0
  refine ⟨.ref p, a1, p, rfl, .inl ⟨ws0, .inl a2⟩, c, F, ρ, ok, post_mono ?_ (post_bind h)⟩
  rintro k H1 F1 _ ⟨ρ1, ok1, s1, h1⟩ y ry
  obtain ⟨kvs, e, h2⟩ := dct_at h1
  obtain ⟨p', ws, b1, b2, b3, _⟩ := ok1.dcs.at' i kvs e
  have ep : p' = p := by rw [a1] at b1; cases b1; rfl
  subst ep
  obtain ⟨⟨d, kvs'⟩, e2, h3⟩ := post_lift (post_bind h2)
  obtain ⟨ρ2, ok2, s2, h4⟩ := h3 H1 F1 ok1 (Same.refl F1)
  cases ek : keyD k with
  | none => rw [ek] at e2; cases e2
  | some kk =>
    rw [ek] at e2
    have e2 : (valD kvs kk).map (fun d => (d, dropD kvs kk)) = some (d, kvs') := e2
    have ey := key_is ry ek
    subst ey
    rcases KVs.valv kk b3 with ⟨q1, q2⟩ | ⟨v, d', q1, q2, r⟩
    · rw [q2] at e2; cases e2
    · rw [q2] at e2
      cases e2
      refine ⟨ws, kk, v, b2, rfl, q1, ?_⟩
      obtain ⟨ρ3, ok3, h5⟩ := putD_ok (ws' := dropK ws kk) ok2 b1 (KVs.dropk kk b3) h4
      exact h5 _ _ ok3 (Same.refl F1) v r
/-- d[k] = v -/
def mSetDict (i : Nat) (mk mv : M D) : M Fl := mBind mv fun d => mBind (mDct i) fun _ => mBind mk fun k => mBind (mDct i) fun kvs => mBind (mLift ((keyD k).bind fun k => if fit kvs.length = true then some (setKD kvs k d) else none)) fun q => mBind (mPutD i q) fun _ => mDone
theorem sDPut_of {i : Nat} {mk mv : M D} {Dn : Ends} (h : tS K W (mSetDict i mk mv) Dn σ H) : sDPut (tVar i) (tE K W mk) (tE K W mv) Dn σ H := by
  obtain ⟨c, F, ρ, ok, h⟩ := h
  refine ⟨c, F, ρ, ok, post_mono ?_ (postS_bind h)⟩
  rintro d H1 F1 _ ⟨ρ1, ok1, s1, h1⟩ v rv
  obtain ⟨kvs0, e0, h1⟩ := dct_atS h1
  obtain ⟨p, ws0, a1, a2, a3, _⟩ := ok1.dcs.at' i kvs0 e0
  refine ⟨.ref p, a1, c, F1, ρ1, ok1, post_mono ?_ (postS_bind h1)⟩
  rintro k H2 F2 _ ⟨ρ2, ok2, s2, h2⟩ y ry
  obtain ⟨kvs, e, h2⟩ := dct_atS h2
  obtain ⟨p', ws, b1, b2, b3, _⟩ := ok2.dcs.at' i kvs e
  have ep : p' = p := by rw [a1] at b1; cases b1; rfl
  subst ep
  obtain ⟨kvs', e2, h3⟩ := post_lift (postS_bind (σ := σ) h2)
  obtain ⟨ρ3, ok3, s3, h4⟩ := h3 H2 F2 ok2 (Same.refl F2)
  cases ek : keyD k with
  | none => rw [ek] at e2; cases e2
  | some kk =>
    rw [ek] at e2
    have e2 : (if fit kvs.length = true then some (setKD kvs kk d) else none) = some kvs' := e2
    have ey := key_is ry ek
    subst ey
    by_cases hf : fit kvs.length = true
    · rw [if_pos hf] at e2
      cases e2
      refine ⟨p', _, rfl, DPut.k b2 (by rw [KVs.length b3]; have := of_decide_eq_true hf; rw [sizeLine_eq]; omega), ?_⟩
      obtain ⟨ρ4, ok4, h5⟩ := putD_okS (ws' := putK ws kk v) ok3 b1 (KVs.putk b3 (Dp.mono s2 rv)) h4
      exact h5 _ _ _ ok4 (Same.refl F2)
    · rw [if_neg hf] at e2; cases e2
/-- x = {} -/
def mNewDict (i : Nat) : M Fl := fun ρ => if i < ρ.length then some (.ok .nx (ρ.set i (.dct []))) else none
theorem newD_of {i : Nat} {Dn : Ends} (h : tS K W (mNewDict i) Dn σ H) : tAsg tDNewK (gName i) Dn σ H := by
  obtain ⟨c, F, ρ, ok, h⟩ := h
  intro p hp
  unfold mNewDict at h
  split at h
  · rename_i hi
    have hpr := (ok.new hp).2.2.1
    have q := ((ok.allocP (o := .dK []) hp).setU (v := some (.ref p)) hi).asD hpr (by rw [List.length_set]; exact hi) (List.getElem?_set_self (by rw [ok.len]; exact hi)) (KVs.nil (K := K) (F := F))
    rw [List.set_set] at q
    exact h _ _ _ q (Same.refl F)
  · exact h.elim
/-- xs.extend(a new list) -/
def mExt (i : Nat) (mn : M (List D)) : M D := mBind (mOwn i) fun _ => mBind mn fun es => mBind (mOwn i) fun ds => mBind (mLift (if fit (ds.length + es.length) = true then some (ds ++ es) else none)) fun q => mBind (mPut i q) fun _ => mPure .none
theorem ext_of {i : Nat} {mn : M (List D)} {Q : VK} (h : tE K W (mExt i mn) σ H Q) : tBM K "list" rExtend (tVar i) (tCons (tN K W mn) tNil) σ H Q := by
  obtain ⟨c, F, ρ, ok, h⟩ := h
  obtain ⟨p, vs, ds, a1, a2, a3, a4, h⟩ := own_at ok h
  refine ⟨.ref p, a1, .inl ⟨rfl, vs, SqL.of a2⟩, c, F, ρ, ok, ?_⟩
  unfold mBind at h
  cases e : mn ρ with
  | none => rw [e] at h; exact h.elim
  | some r =>
    rw [e] at h
    cases r with
    | ex x ρ' => exact fun cls y H' F' ok s r => h cls y H' F' ok s r
    | ok out ρ1 =>
      intro q xs H1 F1 ok1' hp s1 rx
      have ok1 := ok_unput ok1' hp
      have h1 : post K W c σ F1 (qE K Q) (mBind (mOwn i) (fun ds => mBind (mLift (if fit (ds.length + out.length) = true then some (ds ++ out) else none)) fun q => mBind (mPut i q) fun _ => mPure .none) ρ1) := post_weak s1 h
      obtain ⟨p', vs1, ds1, b1, b2, b3, b4, h1⟩ := own_at ok1 h1
      have ep : p' = p := by rw [a1] at b1; cases b1; rfl
      subst ep
      obtain ⟨qd, e2, h2⟩ := post_lift (post_bind h1)
      obtain ⟨ρ2, ok2, s2, h3⟩ := h2 H1 F1 ok1 (Same.refl F1)
      by_cases hf : fit (ds1.length + out.length) = true
      · rw [if_pos hf] at e2
        cases e2
        obtain ⟨ρ3, ok3, h4⟩ := put_ok ok2 b1 (DpAll.append b3 rx) h3
        exact ⟨p', q, vs1, xs, rfl, rfl, b2, (ok1'.prt q _ upd_same).1, by rw [DpAll.length b3, DpAll.length rx]; have := of_decide_eq_true hf; rw [sizeLine_eq]; omega, h4 _ _ ok3 (Same.refl F1) .non .non⟩
      · rw [if_neg hf] at e2; cases e2
end
end Dd

namespace Dd
open PySem PySem.Spec L2
section
variable {K : PySem.W.Frag} {W : WX} {σ : L2.St} {H : Hp}
/-! ### [.. for v in d.values()] -/
def mVals (i : Nat) : M (List D) := fun ρ => match ρ[i]? with
  | some (.dct kvs) => some (.ok (kvs.map (·.2)) (ρ.set i .un))
  | _ => none
theorem put_comm {c : Ct} {p q : Addr} {a b : HO} (h : p ≠ q) : (c.put p a).put q b = (c.put q b).put p a := by
  have e : upd (upd c.pr p a) q b = upd (upd c.pr q b) p a := by
    funext x
    unfold upd
    by_cases h1 : x = q
    · by_cases h2 : x = p
      · exact absurd (h2.symm.trans h1) h
      · simp [h1, h2, Ne.symm h]
    · simp [h1]
  unfold Ct.put
  rw [e]
theorem comp_vals {i : Nat} {vs : List Nat} {g : TG} {gD : D → M Unit} {mt : M Bool} {me : M D} (hg : CTg K vs g gD) {Q : VK} {tt : TT} (ht : ∀ σ H Q, tT K WF mt σ H Q → tt σ H Q) {c : Ct} {F : Hp} {ρ : En} {kvs : List (Key × D)} (ok : Ok K c σ H F ρ) (e : ρ[i]? = some (.dct kvs))
    (hf : fit (kvs.map (·.2)).length = true) {out : List D} {ρe : En} (hgo : mGo vs gD mt me (kvs.map (·.2)) (unsE (ρ.set i .un) vs) = some (.ok out ρe))
    (k : ∀ p acc H2 F2, c.pr p = none → Ok K (c.put p (.lst acc)) σ H2 F2 (unsE ρe vs) → Same F F2 → DpAll K F2 acc out → Q (.ref p) H2) : tLockE (tLc (iVals (tVar i)) g tt (tE K WF me) vs) σ H Q := by
  obtain ⟨a, ws, a1, a2, a3, a4, ok0⟩ := ok.lockD e
  refine ⟨a, .dK ws, a2, trivial, fun od => ?_⟩
  refine ⟨.ref a, a1, a, od, ws, rfl, upd_same, fun p hp => ?_⟩
  have ok1 := ok0.putP (o' := .frz od (.dK ws))
  have hap : a ≠ p := fun z => by subst z; rw [upd_same] at hp; cases hp
  have hpr1 : (c.put a (.frz od (.dK ws))).pr p = none := (ok1.new hp).2.2.1
  have hpr : c.pr p = none := (upd_ne (Ne.symm hap)).symm.trans hpr1
  have hl : ws.length = (kvs.map (·.2)).length := by rw [List.length_map]; exact KVs.length a3
  have hlk : ∀ {acc : List V} {σ' : L2.St} {H2 F2 : Hp} {ρ2 : En}, Ok K ((c.put a (.frz od (.dK ws))).put p (.lst acc)) σ' H2 F2 ρ2 → H2 a = some (.frz od (.dK ws)) := fun {acc σ' H2 F2 ρ2} ok2 => (ok2.prt a _ ((upd_ne hap).trans upd_same)).1
  have hit := KVs.items a3
  generalize kvs.map (·.2) = ds at hf hgo hl hit
  refine ⟨fun i n H => i + n = ds.length ∧ ∃ acc o1 F2 ρ2 rest, Ok K ((c.put a (.frz od (.dK ws))).put p (.lst acc)) (wipe σ vs) H F2 (unsE ρ2 vs) ∧ Same F F2 ∧ DpAll K F2 acc o1 ∧ o1.length ≤ i ∧ mGo vs gD mt me (ds.drop i) (unsE ρ2 vs) = some (.ok rest ρe) ∧ out = o1 ++ rest,
    ⟨ds.length, by omega, [], [], F, ρ.set i .un, out, ok_wipe (ok1.allocP hp) vs, Same.refl F, .nil, Nat.le_refl _, hgo, rfl⟩, ?_⟩
  rintro i n H2 ⟨en, acc, o1, F2, ρ2, rest, ok2, s2, da, hle, hgo2, eo⟩
  by_cases hi : i < ds.length
  · obtain ⟨d, ed⟩ : ∃ d, ds[i]? = some d := ⟨ds[i], List.getElem?_eq_getElem hi⟩
    have edr : ds.drop i = d :: ds.drop (i + 1) := by
      rw [List.drop_eq_getElem_cons hi]
      have := List.getElem?_eq_getElem hi
      rw [ed] at this
      rw [Option.some.inj this]
    rw [edr] at hgo2
    obtain ⟨_, ρa, e1, g1⟩ := bind_ok hgo2
    obtain ⟨b, ρb, e2, g2⟩ := bind_ok g1
    obtain ⟨es, ρc, e3, g3⟩ := bind_ok g2
    obtain ⟨_, ρd, e4, g4⟩ := bind_ok g3
    obtain ⟨rest', ρf, e5, g5⟩ := bind_ok g4
    cases e4
    cases g5
    have hz : acc.length < sizeLine := by
      rw [DpAll.length da]
      have := of_decide_eq_true hf
      rw [sizeLine_eq]; omega
    refine .inr ⟨⟨hlk ok2, by omega⟩, fun H' => ∃ acc o1 F2 ρ2 rest, Ok K ((c.put a (.frz od (.dK ws))).put p (.lst acc)) (wipe σ vs) H' F2 (unsE ρ2 vs) ∧ Same F F2 ∧ DpAll K F2 acc o1 ∧ o1.length ≤ i + 1 ∧ mGo vs gD mt me (ds.drop (i + 1)) (unsE ρ2 vs) = some (.ok rest ρe) ∧ out = o1 ++ rest,
      fun H' w => ⟨n - 1, by omega, by omega, w⟩, fun x H' y => ?_⟩
    obtain ⟨eh, kk, ey⟩ := y
    subst eh
    have r3 : Dp K F2 x d := by
      have e1 : (ws.map (·.2))[i]? = some x := by rw [List.getElem?_map, ey]; rfl
      obtain ⟨d', q, r⟩ := DpAll.get hit e1
      rw [ed] at q
      cases q
      exact Dp.mono s2 r
    refine hg.run ok2 r3 e1 fun σ' ok4 hw => ?_
    rw [wipe_wipe] at hw
    refine ⟨hw, ht _ _ _ ⟨_, F2, ρa, ok4, ?_⟩⟩
    rw [e2]
    intro H5 F5 ok5 s5
    cases b with
    | false =>
      rw [if_neg (by decide)] at e3
      cases e3
      refine iteF ?_
      refine ⟨acc, o1, F5, ρb, rest', ?_, s2.trans s5, DpAll.mono s5 da, by omega, e5, by rw [eo]; rfl⟩
      have q := ok_wipe ok5 vs
      rw [hw] at q
      exact q
    | true =>
      rw [if_pos rfl] at e3
      obtain ⟨yd, ρy, e6, e7⟩ := bind_ok e3
      cases e7
      refine iteT ?_
      refine ⟨_, F5, ρb, ok5, ?_⟩
      rw [e6]
      intro H6 F6 ok6 s6 v rv
      refine ⟨acc, (ok6.prt p _ upd_same).1, hz, acc ++ [v], o1 ++ [yd], F6, _, rest', ?_, (s2.trans s5).trans s6, DpAll.append (DpAll.mono (s5.trans s6) da) (.one rv), by rw [List.length_append]; exact Nat.succ_le_succ hle, e5, by rw [eo]; simp⟩
      have q := ok_wipe (ok6.putP (o' := .lst (acc ++ [v]))) vs
      rw [hw] at q
      exact q
  · have ei : ds.drop i = [] := List.drop_eq_nil_of_le (by omega)
    rw [ei] at hgo2
    cases hgo2
    refine .inl ⟨⟨hlk ok2, by omega⟩, hlk ok2, ?_⟩
    rw [List.append_nil] at eo
    subst eo
    have ok3 := ok_unwipe ok2
    rw [put_comm hap] at ok3
    have ok4 := ok_unput (ok3.putP (o' := .dK ws)) ((upd_ne hap).trans a4)
    refine k p acc _ F2 hpr ?_ s2 da
    rw [unsE_self]
    exact ok4
theorem vals_at {i : Nat} {ρ : En} {r : R (List D)} (h : mVals i ρ = some r) : ∃ kvs, ρ[i]? = some (.dct kvs) ∧ r = .ok (kvs.map (·.2)) (ρ.set i .un) := by
  unfold mVals at h
  split at h
  · rename_i kvs e
    cases h
    exact ⟨kvs, e, rfl⟩
  · cases h
theorem comp_valsN {i : Nat} {vs : List Nat} {g : TG} {gD : D → M Unit} {mt : M Bool} {me : M D} (hg : CTg K vs g gD) {Q : VK} {tt : TT} (ht : ∀ σ H Q, tT K WF mt σ H Q → tt σ H Q) (h : tN K W (mComp vs (mVals i) gD mt me) σ H Q) : tLockE (tLc (iVals (tVar i)) g tt (tE K WF me) vs) σ H Q := by
  obtain ⟨c, F, ρ, ok, h⟩ := h
  unfold mComp mBind at h
  cases e0 : mVals i ρ with
  | none => rw [e0] at h; exact h.elim
  | some r =>
    obtain ⟨kvs, e, rfl⟩ := vals_at e0
    rw [e0] at h
    have h1 : postN K W c σ F Q (mRest vs gD mt me (kvs.map (·.2)) (ρ.set i .un)) := h
    unfold mRest at h1
    cases q : mGo vs gD mt me (kvs.map (·.2)) (unsE (ρ.set i .un) vs) with
    | none => rw [q] at h1; exact h1.elim
    | some r =>
      rw [q] at h1
      cases r with
      | ex x ρ' => exact h1.elim
      | ok out ρe =>
        by_cases hf : fit (kvs.map (·.2)).length = true
        · simp only [if_pos hf] at h1
          exact comp_vals hg ht ok e hf q fun p acc H2 F2 hpr ok2 s2 da => h1 p acc H2 F2 ok2 hpr s2 da
        · simp only [if_neg hf] at h1
          exact h1.elim
end
section
variable {X : Cx} {W : WX}
theorem dCompVals {i : Nat} {elt tg e : Expr} {apos cpos : Pos} {ifs : List Expr} {scope : Scope} {own : List (Str × Nat)} {pos : Pos} {g : TG} {gD : D → M Unit} {mt : M Bool} {me : M D} {tt : TT} (hc : X.calm = true) (hN : X.N.Nodup) (hi : PE X e (tVar i)) (ok : BlkOk X.N X.env.scope scope own)
    (hg : ∀ (s : Shared) (H : Hp) (C : Addr) (cl : List (Str × Addr)) (fp : List Addr), PG (X.blk s H scope (compEnvC scope cl C X.env) fp) tg g) (ht : ∀ (s : Shared) (H : Hp) (C : Addr) (cl : List (Str × Addr)) (fp : List Addr), PTs (X.blk s H scope (compEnvC scope cl C X.env) fp) ifs tt)
    (he : ∀ (s : Shared) (H : Hp) (C : Addr) (cl : List (Str × Addr)) (fp : List Addr), PE (X.blk s H scope (compEnvC scope cl C X.env) fp) elt (tE X.K WF me)) (hG : CTg X.K (own.map (·.2)) g gD) (hT : ∀ σ H Q, tT X.K WF mt σ H Q → tt σ H Q)
    (hb : attributeBase e ("values" : Str) X.env (eval e X.env) = eval e X.env := by rfl) (hl : (apos.endLine == cpos.line) = true := by rfl)
    (hs : ∀ x, foldedSetIterable (.Call (.Attribute e "values" apos) [] [] cpos) X.env x = pure x := by exact fun _ => rfl) : PE X (.ListComp elt [⟨tg, .Call (.Attribute e "values" apos) [] [] cpos, ifs, 0⟩] scope pos) (tN X.K W (mComp (own.map (·.2)) (mVals i) gD mt me)) :=
  PE.imp (pe_lock (pe_lc hc hN (pi_values hi hb hl) ok hg ht he hs)) fun _ _ _ => comp_valsN hG hT
end
end Dd
namespace Dd
open PySem PySem.Spec L2
section
variable {X : Cx} {W : WX}
theorem dGlobI {x : Str} {i : Int} {tk : Tok} {pos : Pos} (hm : X.mg x = some (.int i tk)) (hg : Gl X x := by rfl) (hd : (x == ("__debug__" : Str)) = false := by decide) : PE X (.Name x pos) (tE X.K W (mPure (.int i))) :=
  PE.imp (pe_glob (v := .int i) hg hm ⟨_, rfl⟩ hd) fun _ _ _ => tC_of fun _ => .int i
theorem dtInDict {i : Nat} {a b : Expr} {mk : M D} {pos : Pos} (hu : X.A.units + 1 < cLine) (hm : behindInMarks .In b = false) (ha : PE X a (tE X.K W mk)) (hb : PE X b (tVar i)) : PT X (.Compare a [.In] [b] pos) (tT X.K W (mBol (mInDict i mk))) :=
  PT.imp (pt_cmp (pc_din hu ha hb) hm) fun _ _ _ => tTest_of fun _ _ _ => tDIn_of
theorem dPopDict {i : Nat} {o e : Expr} {mk : M D} {apos cpos : Pos} (ho : PE X o (tVar i)) (he : PE X e (tE X.K W mk))
    (h1 : attributeBase o ("pop" : Str) X.env (eval o X.env) = eval o X.env := by rfl)
    (h2 : (((backTo cpos (starEach [e] X.env)).all fun x => !x.1) && ((backToKw cpos (keywordEach [] X.env)).all fun x => x.1.isSome) && decide ([e].length + ([] : List Keyword).length + (if ([] : List Keyword).isEmpty = true then 0 else 1) < 30)) = true := by rfl)
    (h3 : (apos.endLine == cpos.line) = true := by rfl) (h4 : backTo cpos (starEach [e] X.env) = [(false, eval e X.env)] := by rfl) : PE X (.Call (.Attribute o "pop" apos) [e] [] cpos) (tE X.K W (mPopDict i mk)) :=
  PE.imp (pe_dpop1 ho he ⟨h1, h2, h3, h4⟩) fun _ _ _ => tDPop_of
theorem dSetDict {i : Nat} {o k e : Expr} {mk mv : M D} {pos pos' : Pos} (hu : X.A.units + 1 < cLine) (ho : PE X o (tVar i)) (hk : PE X k (tE X.K W mk)) (he : PE X e (tE X.K W mv)) (hs : swapsWith e (some (.Subscript o k pos')) pos.line X.env = pure false := by rfl) : PS X (.Assign [.Subscript o k pos'] e pos) (tS X.K W (mSetDict i mk mv)) :=
  PS.imp (ps_dput hu ho hk he hs) fun _ _ _ => sDPut_of
theorem dNewDict {i : Nat} {x : Str} {dp pos pos' : Pos} (hN : X.N.Nodup) (hi : X.N[i]? = some x := by rfl) (hx : Loc X.env.scope x := by first | exact Or.inl rfl | exact Or.inr rfl)
    (hs : swapsWith (.Dict [] [] dp) (some (.Name x pos')) pos.line X.env = pure false := by rfl)
    (hf : X.fn x = true ∨ X.env.scope.names.lookup x = some .local := by first | exact .inl rfl | exact .inr rfl) : PS X (.Assign [.Name x pos'] (.Dict [] [] dp) pos) (tS X.K W (mNewDict i)) :=
  PS.imp (ps_set hN hi hx pe_dnewK hs hf) fun _ _ _ => newD_of
end
end Dd

namespace Pf
open PySem PySem.Spec L2 Dd
def topS (i : Nat) : Stmt := PySem.Challenge.pw_wirelooker_k52_talks_read.main.body.getD i (.Pass ⟨0, 0, 0, 0⟩)
def m_item_of_parts : M Fl :=
  (mRet (mTup (mCons (mVar 1) (mCons (mVar 2) (mCons (mBin ixD (mBinL ixD 0 (mBinL ixD 3 (mPure (.int 0)))) (mPure (.int 2))) (mCons (mBin ixD (mBinL ixD 0 (mBinL ixD 3 (mUn negD (mPure (.int 1))))) (mPure (.int 3))) (mCons (mCall1 tupleD (mPeek 3)) (mPure []))))))))
def fn_item_of_parts : List D → Option (Rs D) := runV m_item_of_parts 4
abbrev s_item_of_parts : Stmt := topS 1
abbrev N_item_of_parts : List Str := ["items", "kind", "what", "parts"]
theorem sc_item_of_parts : FnScope N_item_of_parts ["items", "kind", "what", "parts"] (defScope s_item_of_parts) := ⟨rfl, rfl, rfl, by decide +kernel, rfl, by decide +kernel, by decide +kernel⟩
def m__said : M Fl :=
  (mRet (mSl (mBin ixD (mBinL ixD 0 (mPeek 1)) (mPure (.int 1))) (mPart (mPure (.int 1))) mNoPart))
def fn__said : List D → Option (Rs D) := runV m__said 2
abbrev s__said : Stmt := topS 5
abbrev N__said : List Str := ["items", "at"]
theorem sc__said : FnScope N__said ["items", "at"] (defScope s__said) := ⟨rfl, rfl, rfl, by decide +kernel, rfl, by decide +kernel, by decide +kernel⟩
def m__alone : M Fl :=
  (mRet (mCallV 4 fn_item_of_parts (mCons (mVar 0) (mCons (mVar 1) (mCons (mCallV 2 fn__said (mCons (mVar 0) (mCons (mVar 2) (mPure [])))) (mCons (mTup (mCons (mVar 2) (mPure []))) (mPure [])))))))
def fn__alone : List D → Option (Rs D) := runV m__alone 3
abbrev s__alone : Stmt := topS 6
abbrev N__alone : List Str := ["items", "kind", "at"]
theorem sc__alone : FnScope N__alone ["items", "kind", "at"] (defScope s__alone) := ⟨rfl, rfl, rfl, by decide +kernel, rfl, by decide +kernel, by decide +kernel⟩
def L_talks_in_0 : M Fl :=
  (mSeq (mIf (mOrT (mBol (mBin neD (mBinL ixD 4 (mPure (.int 0))) (mPure (.str "packet")))) ((mBol (mBin eqD (mBinL ixD 4 (mPure (.int 1))) (mTup (mPure [])))))) (mPure .ct) (mPure .nx))
  (mSeq (mAsg (mBin ixD (mBinL ixD 4 (mPure (.int 1))) (mPure (.int 0))) (mStore 5))
  (mIf (mBol (mBinL ltD 5 (mPure (.int 128)))) (mSeq (mIf (mBol (mInDict 2 (mVar 5))) (mDrop (mMut 1 appD (mCons (mCallV 3 fn__alone (mCons (mVar 0) (mCons (mPure (.str "lost")) (mCons (mPopDict 2 (mVar 5)) (mPure []))))) (mPure [])))) (mPure .nx))
  (mSetDict 2 (mVar 5) (mVar 3))) (mIf (mBol (mInDict 2 (mBinL subD 5 (mPure (.int 128))))) (mSeq (mAsg (mPopDict 2 (mBinL subD 5 (mPure (.int 128)))) (mStore 6))
  (mDrop (mMut 1 appD (mCons (mCallV 4 fn_item_of_parts (mCons (mVar 0) (mCons (mPure (.str "talk")) (mCons (mTup (mCons (mCallV 2 fn__said (mCons (mVar 0) (mCons (mVar 6) (mPure [])))) (mCons (mCallV 2 fn__said (mCons (mVar 0) (mCons (mVar 3) (mPure [])))) (mPure [])))) (mCons (mTup (mCons (mVar 6) (mCons (mVar 3) (mPure [])))) (mPure [])))))) (mPure []))))) (mDrop (mMut 1 appD (mCons (mCallV 3 fn__alone (mCons (mVar 0) (mCons (mPure (.str "stray")) (mCons (mVar 3) (mPure []))))) (mPure []))))))))
def R_talks_in_0 : M Fl :=
  mFor (mEnumB (mCons (mVar 0) (mPure []))) (gTupD 2 (gCons2 (mStore 3) (gCons2 (mStore 4) gsNil))) L_talks_in_0
def C_talks_in_0 : M (List D) :=
  (mComp [6] (mVals 2) (mStore 6) (mPure true) (mCallV 3 fn__alone (mCons (mVar 0) (mCons (mPure (.str "open")) (mCons (mVar 6) (mPure []))))))
def m_talks_in : M Fl :=
  (mSeq (mAsgN (mLstN (mPure [])) 1)
  (mSeq (mNewDict 2)
  (mSeq (R_talks_in_0)
  (mSeq (mDrop (mExt 1 C_talks_in_0))
  (mRet (mCall1 tupleD (mPeek 1)))))))
def fn_talks_in : List D → Option (Rs D) := runV m_talks_in 7
abbrev s_talks_in : Stmt := topS 4
abbrev N_talks_in : List Str := ["items", "talks", "asked", "at", "item", "tag", "ask"]
theorem sc_talks_in : FnScope N_talks_in ["items"] (defScope s_talks_in) := ⟨rfl, rfl, rfl, by decide +kernel, rfl, by decide +kernel, by decide +kernel⟩
def m__law_box : M Fl :=
  (mSeq (mAsg (mBin addD (mBin mulD (mPure (.int 5717)) (mPeek 1)) (mPure (.int 23))) (mStore 2))
  (mSeq (mIf (mBol (mBinL ltD 1 (mScrLen 0))) (mAsg (mScrIx 0 (mVar 1)) (mStore 2)) (mIf (mBol (mBin gtD (mScrLen 0) (mPure (.int 0)))) (mAsg (mBinL addD 2 (mBin mulD (mBin modD (mCall1 intD (mScrIx 0 (mBin modD (mCall1 intD (mPeek 1)) (mScrLen 0)))) (mPure (.int 2147483629))) (mPure (.int 69623)))) (mStore 2)) (mPure .nx)))
  (mSeq (mAsg (mBin addD (mBin modD (mBin addD (mBin mulD (mBin modD (mCall1 intD (mPeek 2)) (mPure (.int 2147483629))) (mPure (.int 48271))) (mBin mulD (mPure (.int 40692)) (mPeek 1))) (mPure (.int 2147483629))) (mPure (.int 1))) (mStore 3))
  (mRetF (mCons (mBin ixD (mLst (mCons (mPure (.int 0)) (mCons (mVar 2) (mPure [])))) (mCall1 intD (mBinL geD 2 (mBin powD (mPure (.int 10)) (mPure (.int 18)))))) (mCons (mVar 3) (mCons (mPure (.int 0)) (mPure []))))))))
def fn__law_box : List Int → List D → Option (Rs (List D)) := runS m__law_box 4
abbrev s__law_box : Stmt := topS 8
abbrev N__law_box : List Str := ["_law_script", "_law_k", "_law_cell", "_law_seed"]
theorem sc__law_box : FnScope N__law_box ["_law_script", "_law_k"] (defScope s__law_box) := ⟨rfl, rfl, rfl, by decide +kernel, rfl, by decide +kernel, by decide +kernel⟩
def m__law_take : M Fl :=
  (mSeq (mIf (mBol (mBin gtD (mBinL ixD 0 (mPure (.int 0))) (mPure (.int 0)))) (mSeq (mAsg (mBin modD (mCall1 intD (mBinL ixD 0 (mPure (.int 0)))) (mPeek 1)) (mStore 2))
  (mSeq (mAsg (mBin divD (mBinL ixD 0 (mPure (.int 0))) (mPeek 1)) (gSet 0 (mPure (.int 0))))
  (mRet (mVar 2)))) (mPure .nx))
  (mSeq (mAsg (mBin addD (mBinL ixD 0 (mPure (.int 2))) (mPure (.int 1))) (gSet 0 (mPure (.int 2))))
  (mSeq (mAsg (mBin modD (mCall1 intD (mBin mulD (mBin addD (mBinL ixD 0 (mPure (.int 1))) (mBin mulD (mPure (.int 104729)) (mBinL ixD 0 (mPure (.int 2))))) (mPure (.int 69623)))) (mPure (.int 2147483647))) (mStore 3))
  (mSeq (mAsg (mBin addD (mBin modD (mBin addD (mBinL mulD 3 (mPure (.int 48271))) (mPure (.int 30103))) (mPure (.int 2147483629))) (mPure (.int 1))) (gSet 0 (mPure (.int 1))))
  (mRet (mBin modD (mBin divD (mBin addD (mBinL mulD 3 (mPure (.int 2147483647))) (mBinL ixD 0 (mPure (.int 1)))) (mPure (.int 8191))) (mPeek 1)))))))
def fn__law_take : List D → List D → Option (Rs D × List D) := runB m__law_take 4
abbrev s__law_take : Stmt := topS 9
abbrev N__law_take : List Str := ["_law_box_here", "_law_many", "_law_digit", "_law_one"]
theorem sc__law_take : FnScope N__law_take ["_law_box_here", "_law_many"] (defScope s__law_take) := ⟨rfl, rfl, rfl, by decide +kernel, rfl, by decide +kernel, by decide +kernel⟩
def C__law_alike_0 (rec : List D → Option (Rs D)) : M (List D) :=
  (mComp [3, 4] (mZip (mCons (mVar 0) (mCons (mVar 1) (mPure [])))) (gTupD 2 (gNamesD [3, 4])) (mPure true) (mCallV 2 rec (mCons (mVar 3) (mCons (mVar 4) (mPure [])))))
def C__law_alike_1 (rec : List D → Option (Rs D)) : M (List D) :=
  (mComp [2] (mItems (mVar 1)) (mStore 2) (mPure true) (mCallV 2 rec (mCons (mBinL ixD 0 (mPeek 2)) (mCons (mBinL ixD 1 (mPeek 2)) (mPure [])))))
def m__law_alike (rec : List D → Option (Rs D)) : M Fl :=
  (mSeq (mIf (mTru (mIsiA ["tuple", "list"] (mPeek 1))) (mSeq (mIf (mOrT (mBol (mBin neD (mIsi "tuple" (mPeek 0)) (mIsi "tuple" (mPeek 1)))) ((mBol (mBin neD (mIsi "list" (mPeek 0)) (mIsi "list" (mPeek 1)))))) (mRet (mPure (.bool false))) (mPure .nx))
  (mRet (mAnd (mBin eqD (mCall1 lenD (mPeek 0)) (mCall1 lenD (mPeek 1))) (mCall1 allD (mVal (C__law_alike_0 rec)))))) (mPure .nx))
  (mSeq (mIf (mTru (mIsi "dict" (mPeek 1))) (mSeq (mIf (mOrT (mNotT (mTru (mIsi "dict" (mPeek 0)))) ((mBol (mBin neD (mVal (mCallN1 sortD (mVal (mCallN1 listD (mPeek 0))))) (mVal (mCallN1 sortD (mVal (mCallN1 listD (mPeek 1))))))))) (mRet (mPure (.bool false))) (mPure .nx))
  (mRet (mCall1 allD (mVal (C__law_alike_1 rec))))) (mPure .nx))
  (mSeq (mIf (mOrT (mBol (mBin neD (mIsi "bool" (mPeek 0)) (mIsi "bool" (mPeek 1)))) ((mBol (mBin neD (mIsi "str" (mPeek 0)) (mIsi "str" (mPeek 1)))))) (mRet (mPure (.bool false))) (mPure .nx))
  (mRet (mAnd (mNot (mIsiA ["tuple", "list", "dict"] (mPeek 0))) (mBinL eqD 0 (mPeek 1)))))))
def fn__law_alike : Nat → List D → Option (Rs D)
  | 0, _ => none
  | n + 1, ds => runV (m__law_alike (fn__law_alike n)) 5 ds
abbrev s__law_alike : Stmt := topS 10
abbrev N__law_alike : List Str := ["_law_found", "_law_due", "_law_key", "_law_one", "_law_other"]
theorem sc__law_alike : FnScope N__law_alike ["_law_found", "_law_due"] (defScope s__law_alike) := ⟨rfl, rfl, rfl, by decide +kernel, rfl, by decide +kernel, by decide +kernel⟩
def C__law_numbers_0 : M (List D) :=
  (mComp [4] (mRng1 (mCons (mCallB 0 2 fn__law_take (mCons (mBinL addD 1 (mPure (.int 1))) (mPure []))) (mPure []))) (mStore 4) (mPure true) (mBinL addD 3 (mCallB 0 2 fn__law_take (mCons (mVar 2) (mPure [])))))
def m__law_numbers : M Fl :=
  (mSeq (mAsg (mBin ixD (mLst (mCons (mPure (.int 2)) (mCons (mPure (.int 5)) (mCons (mPure (.int 256)) (mCons (mPure (.int 256)) (mPure [])))))) (mCallB 0 2 fn__law_take (mCons (mPure (.int 4)) (mPure [])))) (mStore 2))
  (mSeq (mAsg (mBin ixD (mLst (mCons (mPure (.int 0)) (mCons (mBin subD (mPure (.int 256)) (mPeek 2)) (mPure [])))) (mCallB 0 2 fn__law_take (mCons (mPure (.int 2)) (mPure [])))) (mStore 3))
  (mRet (mVal C__law_numbers_0))))
def fn__law_numbers : List D → List D → Option (Rs D × List D) := runB m__law_numbers 5
abbrev s__law_numbers : Stmt := topS 11
abbrev N__law_numbers : List Str := ["_law_box_here", "_law_bound", "_law_wide", "_law_low", "_law_k"]
theorem sc__law_numbers : FnScope N__law_numbers ["_law_box_here", "_law_bound"] (defScope s__law_numbers) := ⟨rfl, rfl, rfl, by decide +kernel, rfl, by decide +kernel, by decide +kernel⟩
def L__law_replies_0 : M Fl :=
  (mSeq (mParEE 7 8 (mCallB 0 2 fn__law_take (mCons (mPure (.int 9)) (mPure []))) (mBinL ixD 5 (mCallB 0 2 fn__law_take (mCons (mPure (.int 4)) (mPure [])))))
  (mSeq (mAsg (mCallB 0 2 fn__law_numbers (mCons (mBin ixD (mLst (mCons (mPure (.int 3)) (mCons (mPure (.int 3)) (mCons (mPure (.int 3)) (mCons (mPure (.int 40)) (mPure [])))))) (mCallB 0 2 fn__law_take (mCons (mPure (.int 4)) (mPure [])))) (mPure []))) (mStore 9))
  (mSeq (mParEE 10 11 (mPure (.str "packet")) (mBin addD (mTup (mCons (mBinL addD 8 (mBin mulD (mPure (.int 128)) (mCallB 0 2 fn__law_take (mCons (mPure (.int 2)) (mPure []))))) (mPure []))) (mCall1 tupleD (mPeek 9))))
  (mSeq (mIf (mBol (mBinL eqD 7 (mPure (.int 0)))) (mAsg (mTup (mPure [])) (mStore 11)) (mPure .nx))
  (mSeq (mIf (mBol (mBinL eqD 7 (mPure (.int 1)))) (mAsg (mTup (mCons (mCallB 0 2 fn__law_take (mCons (mPure (.int 256)) (mPure []))) (mPure []))) (mStore 11)) (mPure .nx))
  (mSeq (mAsg (mBin addD (mPure (.int 3)) (mCall1 lenD (mPeek 11))) (mStore 12))
  (mSeq (mIf (mBol (mBinL eqD 7 (mPure (.int 2)))) (mPar3 10 11 12 (mPure (.str "torn")) (mBin ixD (mLst (mCons (mPure (.str "word")) (mCons (mPure (.str "long")) (mCons (mPure (.str "check")) (mPure []))))) (mCallB 0 2 fn__law_take (mCons (mPure (.int 3)) (mPure [])))) (mPure (.int 1))) (mPure .nx))
  (mSeq (mAsg (mBinL addD 4 (mBinL mulD 12 (mBin addD (mPure (.int 2)) (mCallB 0 2 fn__law_take (mCons (mPure (.int 20)) (mPure [])))))) (mStore 13))
  (mSeq (mDrop (mMut 2 appD (mCons (mTup (mCons (mVar 10) (mCons (mVar 11) (mCons (mVar 4) (mCons (mVar 13) (mCons (mCall1 tupleD (mVal (mRgN2 (mVar 3) (mBinL addD 3 (mPeek 12))))) (mPure []))))))) (mPure []))))
  (mParEE 3 4 (mBin addD (mBinL addD 3 (mPeek 12)) (mCallB 0 2 fn__law_take (mCons (mPure (.int 3)) (mPure [])))) (mBinL addD 13 (mCallB 0 2 fn__law_take (mCons (mPure (.int 30)) (mPure []))))))))))))))
def R__law_replies_0 : M Fl :=
  mFor (mRng1 (mCons (mCallB 0 2 fn__law_take (mCons (mBinL addD 1 (mPure (.int 1))) (mPure []))) (mPure []))) (mStore 6) L__law_replies_0
def m__law_replies : M Fl :=
  (mSeq (mParL 2 3 4 (mCallB 0 2 fn__law_take (mCons (mPure (.int 4)) (mPure []))) (mBin addD (mPure (.int 1)) (mCallB 0 2 fn__law_take (mCons (mPure (.int 9)) (mPure [])))))
  (mSeq (mAsgN (mLstN (mCons (mPure (.int 0)) (mCons (mPure (.int 127)) (mCons (mCallB 0 2 fn__law_take (mCons (mPure (.int 128)) (mPure []))) (mCons (mCallB 0 2 fn__law_take (mCons (mPure (.int 128)) (mPure []))) (mPure [])))))) 5)
  (mSeq (R__law_replies_0)
  (mSeq (mIf (mBol (mBin eqD (mCallB 0 2 fn__law_take (mCons (mPure (.int 4)) (mPure []))) (mPure (.int 0)))) (mSeq (mAsg (mBin addD (mPure (.int 1)) (mCallB 0 2 fn__law_take (mCons (mPure (.int 5)) (mPure [])))) (mStore 12))
  (mDrop (mMut 2 appD (mCons (mTup (mCons (mPure (.str "torn")) (mCons (mPure (.str "end")) (mCons (mVar 4) (mCons (mBinL addD 4 (mBinL mulD 12 (mPure (.int 12)))) (mCons (mCall1 tupleD (mVal (mRgN2 (mVar 3) (mBinL addD 3 (mPeek 12))))) (mPure []))))))) (mPure []))))) (mPure .nx))
  (mRet (mVar 2))))))
def fn__law_replies : List D → List D → Option (Rs D × List D) := runB m__law_replies 14
abbrev s__law_replies : Stmt := topS 12
abbrev N__law_replies : List Str := ["_law_box_here", "_law_bound", "_law_found", "_law_part", "_law_at", "_law_tags", "_law_turn", "_law_form", "_law_tag", "_law_more", "_law_kind", "_law_what", "_law_many", "_law_end"]
theorem sc__law_replies : FnScope N__law_replies ["_law_box_here", "_law_bound"] (defScope s__law_replies) := ⟨rfl, rfl, rfl, by decide +kernel, rfl, by decide +kernel, by decide +kernel⟩
def C__law_talks_0 : M (List D) :=
  (mComp [3, 10] (mEnum (mCons (mVar 0) (mPure []))) (gTupD 2 (gNamesD [3, 10])) (mAndT (mBol (mBin eqD (mBinL ixD 10 (mPure (.int 0))) (mPure (.str "packet")))) ((mBol (mBin neD (mBinL ixD 10 (mPure (.int 1))) (mTup (mPure [])))))) (mVar 3))
def C__law_talks_1 : M (List D) :=
  (mComp [11] (mItems (mVar 2)) (mStore 11) (mAndT (mBol (mBinL ltD 11 (mPeek 3))) ((mBol (mBin eqD (mBin modD (mCall1 intD (mBin ixD (mBin ixD (mBinL ixD 0 (mPeek 11)) (mPure (.int 1))) (mPure (.int 0)))) (mPure (.int 128))) (mBin modD (mCall1 intD (mPeek 4)) (mPure (.int 128))))))) (mVar 11))
def C__law_talks_2 : M (List D) :=
  (mComp [11] (mItems (mSlL 6 (mPart (mBin subD (mCall1 lenD (mPeek 6)) (mPure (.int 1)))) mNoPart)) (mStore 11) (mBol (mBin ltD (mBin ixD (mBin ixD (mBinL ixD 0 (mPeek 11)) (mPure (.int 1))) (mPure (.int 0))) (mPure (.int 128)))) (mVar 11))
def L__law_talks_0 : M Fl :=
  (mSeq (mAsg (mTup (mCons (mBin ixD (mBin ixD (mBinL ixD 0 (mPeek 3)) (mPure (.int 1))) (mPure (.int 0))) (mCons (mSl (mBin ixD (mBinL ixD 0 (mPeek 3)) (mPure (.int 1))) (mPart (mPure (.int 1))) mNoPart) (mPure [])))) (gTupD 2 (gCons2 (mStore 4) (gCons2 (mStore 5) gsNil))))
  (mSeq (mAsgN C__law_talks_1 6)
  (mSeq (mAsgN C__law_talks_2 7)
  (mIf (mAndT (mBol (mBinL ltD 4 (mPure (.int 128)))) ((mBol (mBinL neD 7 (mLst (mPure [])))))) (mSeq (mAsg (mBinL ixD 0 (mBinL ixD 7 (mPure (.int 0)))) (mStore 8))
  (mDrop (mMut 1 appD (mCons (mTup (mCons (mPure (.str "lost")) (mCons (mSl (mBinL ixD 8 (mPure (.int 1))) (mPart (mPure (.int 1))) mNoPart) (mCons (mBinL ixD 8 (mPure (.int 2))) (mCons (mBinL ixD 8 (mPure (.int 3))) (mCons (mTup (mCons (mBinL ixD 7 (mPure (.int 0))) (mPure []))) (mPure []))))))) (mPure []))))) (mIf (mAndT (mBol (mBinL gtD 4 (mPure (.int 127)))) ((mBol (mBinL neD 7 (mLst (mPure [])))))) (mSeq (mAsg (mBinL ixD 0 (mBinL ixD 7 (mPure (.int 0)))) (mStore 8))
  (mDrop (mMut 1 appD (mCons (mTup (mCons (mPure (.str "talk")) (mCons (mTup (mCons (mSl (mBinL ixD 8 (mPure (.int 1))) (mPart (mPure (.int 1))) mNoPart) (mCons (mVar 5) (mPure [])))) (mCons (mBinL ixD 8 (mPure (.int 2))) (mCons (mBin ixD (mBinL ixD 0 (mPeek 3)) (mPure (.int 3))) (mCons (mTup (mCons (mBinL ixD 7 (mPure (.int 0))) (mCons (mVar 3) (mPure [])))) (mPure []))))))) (mPure []))))) (mIf (mBol (mBinL gtD 4 (mPure (.int 127)))) (mDrop (mMut 1 appD (mCons (mTup (mCons (mPure (.str "stray")) (mCons (mVar 5) (mCons (mBin ixD (mBinL ixD 0 (mPeek 3)) (mPure (.int 2))) (mCons (mBin ixD (mBinL ixD 0 (mPeek 3)) (mPure (.int 3))) (mCons (mTup (mCons (mVar 3) (mPure []))) (mPure []))))))) (mPure [])))) (mPure .nx)))))))
def R__law_talks_0 : M Fl :=
  mFor (mItems (mVar 2)) (mStore 3) L__law_talks_0
def C__law_talks_3 : M (List D) :=
  (mComp [11] (mItems (mVar 2)) (mStore 11) (mAndT (mBol (mBinL gtD 11 (mPeek 3))) ((mBol (mBin eqD (mBin modD (mCall1 intD (mBin ixD (mBin ixD (mBinL ixD 0 (mPeek 11)) (mPure (.int 1))) (mPure (.int 0)))) (mPure (.int 128))) (mPeek 4))))) (mVar 11))
def L__law_talks_1 : M Fl :=
  (mSeq (mAsg (mBin ixD (mBin ixD (mBinL ixD 0 (mPeek 3)) (mPure (.int 1))) (mPure (.int 0))) (mStore 4))
  (mSeq (mAsgN C__law_talks_3 9)
  (mIf (mAndT (mBol (mBinL ltD 4 (mPure (.int 128)))) ((mBol (mBinL eqD 9 (mLst (mPure [])))))) (mDrop (mMut 1 appD (mCons (mTup (mCons (mPure (.str "open")) (mCons (mSl (mBin ixD (mBinL ixD 0 (mPeek 3)) (mPure (.int 1))) (mPart (mPure (.int 1))) mNoPart) (mCons (mBin ixD (mBinL ixD 0 (mPeek 3)) (mPure (.int 2))) (mCons (mBin ixD (mBinL ixD 0 (mPeek 3)) (mPure (.int 3))) (mCons (mTup (mCons (mVar 3) (mPure []))) (mPure []))))))) (mPure [])))) (mPure .nx))))
def R__law_talks_1 : M Fl :=
  mFor (mItems (mVar 2)) (mStore 3) L__law_talks_1
def m__law_talks : M Fl :=
  (mSeq (mAsgN (mLstN (mPure [])) 1)
  (mSeq (mAsgN C__law_talks_0 2)
  (mSeq (R__law_talks_0)
  (mSeq (R__law_talks_1)
  (mRet (mVar 1))))))
def fn__law_talks : List D → Option (Rs D) := runV m__law_talks 12
abbrev s__law_talks : Stmt := topS 13
abbrev N__law_talks : List Str := ["_law_items", "_law_found", "_law_rows", "_law_k", "_law_tag", "_law_said", "_law_alike_here", "_law_asked", "_law_elder", "_law_behind", "_law_item", "_law_j"]
theorem sc__law_talks : FnScope N__law_talks ["_law_items"] (defScope s__law_talks) := ⟨rfl, rfl, rfl, by decide +kernel, rfl, by decide +kernel, by decide +kernel⟩
def L_law_0 : M Fl :=
  (mSeq (mAsg (mCall1 reprG (mPeek 5)) (mStore 6))
  (mSeq (mAsg (mCall1 tupleD (mCallV 1 fn__law_talks (mCons (mVar 5) (mPure [])))) (mStore 7))
  (mSeq (mIf (mOrT (mNotT (mTru (mCallV 2 (fn__law_alike 6) (mCons (mCallV 1 fn_talks_in (mCons (mCall1 tupleD (mPeek 5)) (mPure []))) (mCons (mVar 7) (mPure [])))))) ((mNotT (mTru (mCallV 2 (fn__law_alike 6) (mCons (mCallV 1 fn_talks_in (mCons (mVar 5) (mPure []))) (mCons (mVar 7) (mPure [])))))))) (mRet (mPure (.bool false))) (mPure .nx))
  (mIf (mBol (mBin neD (mCall1 reprG (mPeek 5)) (mPeek 6))) (mRet (mPure (.bool false))) (mPure .nx)))))
def R_law_0 : M Fl :=
  mFor (mItems (mTup (mCons (mVar 3) (mCons (mVar 4) (mCons (mVar 3) (mCons (mSlL 3 mNoPart (mPart (mCallB 2 2 fn__law_take (mCons (mBin addD (mCall1 lenD (mPeek 3)) (mPure (.int 1))) (mPure []))))) (mPure []))))))) (mStore 5) L_law_0
def L_law_1 : M Fl :=
  (mSeq (mAsgS 2 0 2 fn__law_box (mCons (mVar 1) (mPure [])))
  (mSeq (mParEE 3 4 (mCallB 2 2 fn__law_replies (mCons (mPure (.int 40)) (mPure []))) (mCallB 2 2 fn__law_replies (mCons (mPure (.int 6)) (mPure []))))
  (R_law_0)))
def R_law_1 : M Fl :=
  mFor (mRng1 (mCons (mCallN max2D (mCons (mPure (.int 2)) (mCons (mCallN min2D (mCons (mPure (.int 6)) (mCons (mScrLen 0) (mPure [])))) (mPure [])))) (mPure []))) (mStore 1) L_law_1
def m_law : M Fl :=
  (mSeq (R_law_1)
  (mRet (mPure (.bool true))))
def fn_law : List Int → Option (Rs D) := runL m_law 8
abbrev s_law : Stmt := topS 14
abbrev N_law : List Str := ["_law_script", "_law_k", "_law_box_here", "_law_one", "_law_other", "_law_items", "_law_kept", "_law_due"]
theorem sc_law : FnScope N_law ["_law_script"] (defScope s_law) := ⟨rfl, rfl, rfl, by decide +kernel, rfl, by decide +kernel, by decide +kernel⟩
structure Tx (K : PySem.W.Frag) (mg : Str → Option Value) where
  a_item_of_parts : Addr
  fd_item_of_parts : FuncData
  F_item_of_parts : Fun K "item_of_parts" "item_of_parts" s_item_of_parts a_item_of_parts fd_item_of_parts
  g_item_of_parts : mg "item_of_parts" = some (.ref a_item_of_parts)
  b_item_of_parts : Binds K fd_item_of_parts ["items", "kind", "what", "parts"] []
  a__said : Addr
  fd__said : FuncData
  F__said : Fun K "_said" "_said" s__said a__said fd__said
  g__said : mg "_said" = some (.ref a__said)
  b__said : Binds K fd__said ["items", "at"] []
  a__alone : Addr
  fd__alone : FuncData
  F__alone : Fun K "_alone" "_alone" s__alone a__alone fd__alone
  g__alone : mg "_alone" = some (.ref a__alone)
  b__alone : Binds K fd__alone ["items", "kind", "at"] []
  a_talks_in : Addr
  fd_talks_in : FuncData
  F_talks_in : Fun K "talks_in" "talks_in" s_talks_in a_talks_in fd_talks_in
  g_talks_in : mg "talks_in" = some (.ref a_talks_in)
  b_talks_in : Binds K fd_talks_in ["items"] []
  a__law_box : Addr
  fd__law_box : FuncData
  F__law_box : Fun K "_law_box" "_law_box" s__law_box a__law_box fd__law_box
  g__law_box : mg "_law_box" = some (.ref a__law_box)
  b__law_box : Binds K fd__law_box ["_law_script", "_law_k"] []
  a__law_take : Addr
  fd__law_take : FuncData
  F__law_take : Fun K "_law_take" "_law_take" s__law_take a__law_take fd__law_take
  g__law_take : mg "_law_take" = some (.ref a__law_take)
  b__law_take : Binds K fd__law_take ["_law_box_here", "_law_many"] []
  a__law_alike : Addr
  fd__law_alike : FuncData
  F__law_alike : Fun K "_law_alike" "_law_alike" s__law_alike a__law_alike fd__law_alike
  g__law_alike : mg "_law_alike" = some (.ref a__law_alike)
  b__law_alike : Binds K fd__law_alike ["_law_found", "_law_due"] []
  a__law_numbers : Addr
  fd__law_numbers : FuncData
  F__law_numbers : Fun K "_law_numbers" "_law_numbers" s__law_numbers a__law_numbers fd__law_numbers
  g__law_numbers : mg "_law_numbers" = some (.ref a__law_numbers)
  b__law_numbers : Binds K fd__law_numbers ["_law_box_here", "_law_bound"] []
  a__law_replies : Addr
  fd__law_replies : FuncData
  F__law_replies : Fun K "_law_replies" "_law_replies" s__law_replies a__law_replies fd__law_replies
  g__law_replies : mg "_law_replies" = some (.ref a__law_replies)
  b__law_replies : Binds K fd__law_replies ["_law_box_here", "_law_bound"] []
  a__law_talks : Addr
  fd__law_talks : FuncData
  F__law_talks : Fun K "_law_talks" "_law_talks" s__law_talks a__law_talks fd__law_talks
  g__law_talks : mg "_law_talks" = some (.ref a__law_talks)
  b__law_talks : Binds K fd__law_talks ["_law_items"] []
  a_law : Addr
  fd_law : FuncData
  F_law : Fun K "law" "law" s_law a_law fd_law
  g_law : mg "law" = some (.ref a_law)
  b_law : Binds K fd_law ["_law_script"] []
  tg_ANSWERS : Tok
  g_ANSWERS : mg "ANSWERS" = some (.int 128 tg_ANSWERS)
  z_all : mg "all" = none
  z_bool : mg "bool" = none
  z_dict : mg "dict" = none
  z_enumerate : mg "enumerate" = none
  z_int : mg "int" = none
  z_isinstance : mg "isinstance" = none
  z_len : mg "len" = none
  z_list : mg "list" = none
  z_max : mg "max" = none
  z_min : mg "min" = none
  z_range : mg "range" = none
  z_repr : mg "repr" = none
  z_sorted : mg "sorted" = none
  z_str : mg "str" = none
  z_tuple : mg "tuple" = none
  z_zip : mg "zip" = none
section
variable {P : Program} {w : World} {K : PySem.W.Frag} {mg : Str → Option Value} {base : Heap}
theorem ok_item_of_parts (T : Tx K mg) : FnOk P w K mg base (L2.CX P w) 1 T.a_item_of_parts T.fd_item_of_parts ["items", "kind", "what", "parts"] (spV K 4 fn_item_of_parts) := by
  have e : spV K 4 fn_item_of_parts = spV K ["items", "kind", "what", "parts"].length (runV m_item_of_parts N_item_of_parts.length) := rfl
  rw [e]
  refine okV2 (sc := ?sc) (bd := ?bd) (m := m_item_of_parts) T.F_item_of_parts sc_item_of_parts ?h1 ?h2 ?hb
  case h1 => conv => lhs; whnf
  case h2 => conv => lhs; whnf
  case hb => exact fun cdv A outer s H E hr => (by exact
    (dsOne (dRet (dTup (dCons (dv 1) (dCons (dv 2) (dCons (dIx (dIxL (pv 0) (dP (dIxL (pv 3) (dP (dInt))))) (dP (dInt))) (dCons (dIx (dIxL (pv 0) (dP (dIxL (pv 3) (dP (dNeg (dInt)))))) (dP (dInt))) (dCons (dTy1 call_tuple_of cd_tuple (T.z_tuple) b_tuple (dpk 3)) dNil)))))))))
theorem ok__said (T : Tx K mg) : FnOk P w K mg base (L2.CX P w) 1 T.a__said T.fd__said ["items", "at"] (spV K 2 fn__said) := by
  have e : spV K 2 fn__said = spV K ["items", "at"].length (runV m__said N__said.length) := rfl
  rw [e]
  refine okV2 (sc := ?sc) (bd := ?bd) (m := m__said) T.F__said sc__said ?h1 ?h2 ?hb
  case h1 => conv => lhs; whnf
  case h2 => conv => lhs; whnf
  case hb => exact fun cdv A outer s H E hr => (by exact
    (dsOne (dRet (dSl (dIx (dIxL (pv 0) (dpk 1)) (dP (dInt))) (dPart (dInt)) dNoPart))))
theorem ok__alone (T : Tx K mg) : FnOk P w K mg base (L2.CX P w) 2 T.a__alone T.fd__alone ["items", "kind", "at"] (spV K 3 fn__alone) := by
  have e : spV K 3 fn__alone = spV K ["items", "kind", "at"].length (runV m__alone N__alone.length) := rfl
  rw [e]
  refine okV2 (sc := ?sc) (bd := ?bd) (m := m__alone) T.F__alone sc__alone ?h1 ?h2 ?hb
  case h1 => conv => lhs; whnf
  case h2 => conv => lhs; whnf
  case hb => exact fun cdv A outer s H E hr => (by exact
    (dsOne (dRet (dCallV (ok_item_of_parts T) (hr.mono (by decide)) T.g_item_of_parts T.F_item_of_parts.kp T.b_item_of_parts (takes_of rfl rfl rfl rfl) (dCons (dv 0) (dCons (dv 1) (dCons (dCallV (ok__said T) (hr.mono (by decide)) T.g__said T.F__said.kp T.b__said (takes_of rfl rfl rfl rfl) (dCons (dv 0) (dCons (dv 2) dNil))) (dCons (dTup (dCons (dv 2) dNil)) dNil))))))))
theorem ok_talks_in (T : Tx K mg) : FnOk P w K mg base (L2.CX P w) 3 T.a_talks_in T.fd_talks_in ["items"] (spV K 1 fn_talks_in) := by
  have e : spV K 1 fn_talks_in = spV K ["items"].length (runV m_talks_in N_talks_in.length) := rfl
  rw [e]
  refine okV2 (sc := ?sc) (bd := ?bd) (m := m_talks_in) T.F_talks_in sc_talks_in ?h1 ?h2 ?hb
  case h1 => conv => lhs; whnf
  case h2 => conv => lhs; whnf
  case hb => exact fun cdv A outer s H E hr => (by exact
    (dsCons (dsN (i := 1) sc_talks_in.nd (dLstN dNil))
      (dsCons (dNewDict (i := 2) sc_talks_in.nd)
      (dsCons (dFor (passes_of rfl) rfl (diEnumB (T.z_enumerate) (dCons (dv 0) dNil)) (dgTup rfl (dgsCons (dgName (i := 3) sc_talks_in.nd) (dgsCons (dgName (i := 4) sc_talks_in.nd) dgsNil2))) (mb := L_talks_in_0) (dsCons (dIfS ((dwOr (dtCmp (op_neD hr.units) opD_ne (nomark _) (dIxL (pv 4) (dP (dInt))) (dP (dStr))) (dwOr1 (dtCmp (op_eqD hr.units) opD_eq (nomark _) (dIxL (pv 4) (dP (dInt))) (dP (dTup dNil))))).pt) (dsOne (dCont)) dsNil)
      (dsCons (dSet (i := 5) sc_talks_in.nd (dIx (dIxL (pv 4) (dP (dInt))) (dP (dInt))))
      (dsOne (dIfS (dtCmpL op_lt opD_lt (nomark _) (pv 5) (dP (dGlobI T.g_ANSWERS))) (dsCons (dIfS (dtInDict (hu_of hr) (by rfl) (dv 5) (pv 2)) (dsOne (dExpr (PE.imp (pe_bm PySem.F.plainAttrs_list PySem.F.slot_list_append PySem.F.type_list_append mt_append (pv 1) (dCons (dCallV (ok__alone T) (hr.mono (by decide)) T.g__alone T.F__alone.kp T.b__alone (takes_of rfl rfl rfl rfl) (dCons (dv 0) (dCons (dStr) (dCons (dPopDict (pv 2) (dv 5)) dNil)))) dNil)) (fun _ _ _ => mut_of mut_app)))) dsNil)
      (dsOne (dSetDict (hu_of hr) (pv 2) (dv 5) (dv 3)))) (dsOne (dIfS (dtInDict (hu_of hr) (by rfl) (dOpL op_sub opD_sub (pv 5) (dP (dGlobI T.g_ANSWERS))) (pv 2)) (dsCons (dSet (i := 6) sc_talks_in.nd (dPopDict (pv 2) (dOpL op_sub opD_sub (pv 5) (dP (dGlobI T.g_ANSWERS)))))
      (dsOne (dExpr (PE.imp (pe_bm PySem.F.plainAttrs_list PySem.F.slot_list_append PySem.F.type_list_append mt_append (pv 1) (dCons (dCallV (ok_item_of_parts T) (hr.mono (by decide)) T.g_item_of_parts T.F_item_of_parts.kp T.b_item_of_parts (takes_of rfl rfl rfl rfl) (dCons (dv 0) (dCons (dStr) (dCons (dTup (dCons (dCallV (ok__said T) (hr.mono (by decide)) T.g__said T.F__said.kp T.b__said (takes_of rfl rfl rfl rfl) (dCons (dv 0) (dCons (dv 6) dNil))) (dCons (dCallV (ok__said T) (hr.mono (by decide)) T.g__said T.F__said.kp T.b__said (takes_of rfl rfl rfl rfl) (dCons (dv 0) (dCons (dv 3) dNil))) dNil))) (dCons (dTup (dCons (dv 6) (dCons (dv 3) dNil))) dNil))))) dNil)) (fun _ _ _ => mut_of mut_app))))) (dsOne (dExpr (PE.imp (pe_bm PySem.F.plainAttrs_list PySem.F.slot_list_append PySem.F.type_list_append mt_append (pv 1) (dCons (dCallV (ok__alone T) (hr.mono (by decide)) T.g__alone T.F__alone.kp T.b__alone (takes_of rfl rfl rfl rfl) (dCons (dv 0) (dCons (dStr) (dCons (dv 3) dNil)))) dNil)) (fun _ _ _ => mut_of mut_app)))))))))))
      (dsCons (dExpr (PE.imp (pe_bm PySem.F.plainAttrs_list PySem.F.slot_list_extend PySem.F.type_list_extend mt_extend (pv 1) (pa_cons (dCompVals (own := [("ask", 6)]) rfl sc_talks_in.nd (pv 2) (blkOk_by (N := N_talks_in) (sc := defScope s_talks_in) (by decide +kernel)) (fun _ _ _ _ _ => pg_name (i := 6) sc_talks_in.nd rfl (by first | exact Or.inl rfl | exact Or.inr rfl)) (fun _ _ _ _ _ => pts_nil) (fun _ _ _ _ _ => (dCallV (ok__alone T) (hr.mono (by decide)) T.g__alone T.F__alone.kp T.b__alone takes0 (dCons (dv 0) (dCons (dStr) (dCons (dv 6) dNil))))) (ctName (by decide)) (fun _ _ _ => tYes_of)) pa_nil)) (fun _ _ _ => ext_of)))
      (dsOne (dRet (dTy1 call_tuple_of cd_tuple (T.z_tuple) b_tuple (dpk 1)))))))))
theorem ok__law_box (T : Tx K mg) : FnOk P w K mg base (L2.CX P w) 1 T.a__law_box T.fd__law_box ["_law_script", "_law_k"] (spS K 2 fn__law_box) := by
  have e : spS K 2 fn__law_box = spS K ["_law_script", "_law_k"].length (runS m__law_box N__law_box.length) := rfl
  rw [e]
  refine okS2 (sc := ?sc) (bd := ?bd) (m := m__law_box) T.F__law_box sc__law_box ?h1 ?h2 ?hb
  case h1 => conv => lhs; whnf
  case h2 => conv => lhs; whnf
  case hb => exact fun cdv A outer s H E hr => (by exact
    (dsCons (dSet (i := 2) sc__law_box.nd (dOp or_addA opD_add (dOp or_mulA opD_mul (dInt) (dpk 1)) (dP (dInt))))
      (dsCons (dIfS (dtCmpL op_lt opD_lt (nomark _) (pv 1) (dP (dScrLen (T.z_len) (pv 0)))) (dsOne (dSet (i := 2) sc__law_box.nd (dScrIx (pv 0) (dv 1)))) (dsOne (dIfS (dtCmp op_gt opD_gt (nomark _) (dScrLen (T.z_len) (pv 0)) (dP (dInt))) (dsOne (dSet (i := 2) sc__law_box.nd (dOpL or_addA opD_add (pv 2) (dP (dOp or_mulA opD_mul (dOp op_mod opD_mod (dTy1 call_int1 cd_int (T.z_int) b_int (dP (dScrIx (pv 0) (dOp op_mod opD_mod (dTy1 call_int1 cd_int (T.z_int) b_int (dpk 1)) (dP (dScrLen (T.z_len) (pv 0))))))) (dP (dInt))) (dP (dInt))))))) dsNil)))
      (dsCons (dSet (i := 3) sc__law_box.nd (dOp or_addA opD_add (dOp op_mod opD_mod (dOp or_addA opD_add (dOp or_mulA opD_mul (dOp op_mod opD_mod (dTy1 call_int1 cd_int (T.z_int) b_int (dpk 2)) (dP (dInt))) (dP (dInt))) (dP (dOp or_mulA opD_mul (dInt) (dpk 1)))) (dP (dInt))) (dP (dInt))))
      (dsOne (dRetF (dCons (dIx (dLst (dCons (dInt) (dCons (dv 2) dNil))) (dP (dTy1 call_int1 cd_int (T.z_int) b_int (dP (dCmpL op_ge opD_ge (nomark _) (pv 2) (dP (dOp op_pow opD_pow (dInt) (dP (dInt))))))))) (dCons (dv 3) (dCons (dInt) dNil)))))))))
theorem ok__law_take (T : Tx K mg) : FnOk P w K mg base (L2.CX P w) 1 T.a__law_take T.fd__law_take ["_law_box_here", "_law_many"] (spB K 2 fn__law_take) := by
  have e : spB K 2 fn__law_take = spB K ["_law_box_here", "_law_many"].length (runB m__law_take N__law_take.length) := rfl
  rw [e]
  refine okB2 (sc := ?sc) (bd := ?bd) (m := m__law_take) T.F__law_take sc__law_take ?h1 ?h2 ?hb
  case h1 => conv => lhs; whnf
  case h2 => conv => lhs; whnf
  case hb => exact fun cdv A outer s H E hr => (by exact
    (dsCons (dIfS (dtCmp op_gt opD_gt (nomark _) (dIxL (pv 0) (dP (dInt))) (dP (dInt))) (dsCons (dSet (i := 2) sc__law_take.nd (dOp op_mod opD_mod (dTy1 call_int1 cd_int (T.z_int) b_int (dP (dIxL (pv 0) (dP (dInt))))) (dpk 1)))
      (dsCons (dAsg (dOp op_fdivW opD_div (dIxL (pv 0) (dP (dInt))) (dpk 1)) (dgSet (pv 0) (dInt)))
      (dsOne (dRet (dv 2))))) dsNil)
      (dsCons (dAsg (dOp or_addA opD_add (dIxL (pv 0) (dP (dInt))) (dP (dInt))) (dgSet (pv 0) (dInt)))
      (dsCons (dSet (i := 3) sc__law_take.nd (dOp op_mod opD_mod (dTy1 call_int1 cd_int (T.z_int) b_int (dP (dOp or_mulA opD_mul (dOp or_addA opD_add (dIxL (pv 0) (dP (dInt))) (dP (dOp or_mulA opD_mul (dInt) (dP (dIxL (pv 0) (dP (dInt))))))) (dP (dInt))))) (dP (dInt))))
      (dsCons (dAsg (dOp or_addA opD_add (dOp op_mod opD_mod (dOp or_addA opD_add (dOpL or_mulA opD_mul (pv 3) (dP (dInt))) (dP (dInt))) (dP (dInt))) (dP (dInt))) (dgSet (pv 0) (dInt)))
      (dsOne (dRet (dOp op_mod opD_mod (dOp op_fdivW opD_div (dOp or_addA opD_add (dOpL or_mulA opD_mul (pv 3) (dP (dInt))) (dP (dIxL (pv 0) (dP (dInt))))) (dP (dInt))) (dpk 1)))))))))
theorem ok__law_alike (T : Tx K mg) : ∀ n : Nat, FnOk P w K mg base (L2.CX P w) (n + 1) T.a__law_alike T.fd__law_alike ["_law_found", "_law_due"] (spV K 2 (fn__law_alike n))
  | 0 => okV0 fun _ => rfl
  | n + 1 => by
    have IH := ok__law_alike T n
    have e : spV K 2 (fn__law_alike (n + 1)) = spV K ["_law_found", "_law_due"].length (runV (m__law_alike (fn__law_alike n)) N__law_alike.length) := rfl
    rw [e]
    refine (okV2 (k := n + 1) (sc := ?sc) (bd := ?bd) (m := m__law_alike (fn__law_alike n)) T.F__law_alike sc__law_alike ?h1 ?h2 ?hb).mono (by omega)
    case h1 => conv => lhs; whnf
    case h2 => conv => lhs; whnf
    case hb => exact fun cdv A outer s H E hr => (by exact
    (dsCons (dIfS (dTru (dP (dIsiA (T.z_isinstance) (tys (T.z_tuple) i_tuple b_tuple (tys (T.z_list) i_list b_list .nil)) (dpk 1)))) (dsCons (dIfS ((dwOr (dtCmp (op_neD hr.units) opD_ne (nomark _) (dIsi (T.z_isinstance) (T.z_tuple) i_tuple (dpk 0) b_tuple) (dP (dIsi (T.z_isinstance) (T.z_tuple) i_tuple (dpk 1) b_tuple))) (dwOr1 (dtCmp (op_neD hr.units) opD_ne (nomark _) (dIsi (T.z_isinstance) (T.z_list) i_list (dpk 0) b_list) (dP (dIsi (T.z_isinstance) (T.z_list) i_list (dpk 1) b_list))))).pt) (dsOne (dRet (dBl))) dsNil)
      (dsOne (dRet (dAnd (dCmp (op_eqD hr.units) opD_eq (nomark _) (dB1 cr_len cd_len (T.z_len) b_len (dpk 0)) (dP (dB1 cr_len cd_len (T.z_len) b_len (dpk 1)))) (dOne (dB1 (cr_all rfl) cd_all (T.z_all) b_all (dP (dVal (m := (C__law_alike_0 (fn__law_alike n))) (dCompN (own := [("_law_one", 3), ("_law_other", 4)]) rfl sc__law_alike.nd (diZip (T.z_zip) (dCons (dv 0) (dCons (dv 1) dNil))) (blkOk_by (N := N__law_alike) (sc := defScope s__law_alike) (by decide +kernel)) (fun _ _ _ _ _ => pg_tup rfl (pgs_cons (pg_name (i := 3) sc__law_alike.nd rfl (by first | exact Or.inl rfl | exact Or.inr rfl)) (pgs_cons (pg_name (i := 4) sc__law_alike.nd rfl (by first | exact Or.inl rfl | exact Or.inr rfl)) pgs_nil))) (fun _ _ _ _ _ => pts_nil) (fun _ _ _ _ _ => (dCallV IH (hr.mono (by omega)) T.g__law_alike T.F__law_alike.kp T.b__law_alike takes0 (dCons (dv 3) (dCons (dv 4) dNil)))) (ctTup (is := [3, 4]) (by decide)) (fun _ _ _ => tYes_of)))))))))) dsNil)
      (dsCons (dIfS (dTru (dP (dIsi (T.z_isinstance) (T.z_dict) i_dict (dpk 1) b_dict))) (dsCons (dIfS ((dwOr (dtNot (dTru (dP (dIsi (T.z_isinstance) (T.z_dict) i_dict (dpk 0) b_dict)))) (dwOr1 (dtCmp (op_neD hr.units) opD_ne (nomark _) (dVal (dBN1 cr_sortDP cn_sort (T.z_sorted) b_sorted (dP (dVal (dTyN1 call_list_of cn_list (T.z_list) b_list (dpk 0)))))) (dP (dVal (dBN1 cr_sortDP cn_sort (T.z_sorted) b_sorted (dP (dVal (dTyN1 call_list_of cn_list (T.z_list) b_list (dpk 1)))))))))).pt) (dsOne (dRet (dBl))) dsNil)
      (dsOne (dRet (dB1 (cr_all rfl) cd_all (T.z_all) b_all (dP (dVal (m := (C__law_alike_1 (fn__law_alike n))) (dCompN (own := [("_law_key", 2)]) rfl sc__law_alike.nd (diSeq (dv 1)) (blkOk_by (N := N__law_alike) (sc := defScope s__law_alike) (by decide +kernel)) (fun _ _ _ _ _ => pg_name (i := 2) sc__law_alike.nd rfl (by first | exact Or.inl rfl | exact Or.inr rfl)) (fun _ _ _ _ _ => pts_nil) (fun _ _ _ _ _ => (dCallV IH (hr.mono (by omega)) T.g__law_alike T.F__law_alike.kp T.b__law_alike takes0 (dCons (dIxL (pv 0) (dpk 2)) (dCons (dIxL (pv 1) (dpk 2)) dNil)))) (ctName (by decide)) (fun _ _ _ => tYes_of)))))))) dsNil)
      (dsCons (dIfS ((dwOr (dtCmp (op_neD hr.units) opD_ne (nomark _) (dIsi (T.z_isinstance) (T.z_bool) i_bool (dpk 0) b_bool) (dP (dIsi (T.z_isinstance) (T.z_bool) i_bool (dpk 1) b_bool))) (dwOr1 (dtCmp (op_neD hr.units) opD_ne (nomark _) (dIsi (T.z_isinstance) (T.z_str) i_str (dpk 0) b_str) (dP (dIsi (T.z_isinstance) (T.z_str) i_str (dpk 1) b_str))))).pt) (dsOne (dRet (dBl))) dsNil)
      (dsOne (dRet (dAnd (dNot (dP (dIsiA (T.z_isinstance) (tys (T.z_tuple) i_tuple b_tuple (tys (T.z_list) i_list b_list (tys (T.z_dict) i_dict b_dict .nil))) (dpk 0)))) (dOne (dCmpL (op_eqD hr.units) opD_eq (nomark _) (pv 0) (dpk 1))))))))))
theorem ok__law_numbers (T : Tx K mg) : FnOk P w K mg base (L2.CX P w) 2 T.a__law_numbers T.fd__law_numbers ["_law_box_here", "_law_bound"] (spB K 2 fn__law_numbers) := by
  have e : spB K 2 fn__law_numbers = spB K ["_law_box_here", "_law_bound"].length (runB m__law_numbers N__law_numbers.length) := rfl
  rw [e]
  refine okB2 (sc := ?sc) (bd := ?bd) (m := m__law_numbers) T.F__law_numbers sc__law_numbers ?h1 ?h2 ?hb
  case h1 => conv => lhs; whnf
  case h2 => conv => lhs; whnf
  case hb => exact fun cdv A outer s H E hr => (by exact
    (dsCons (dSet (i := 2) sc__law_numbers.nd (dIx (dLst (dCons (dInt) (dCons (dInt) (dCons (dInt) (dCons (dInt) dNil))))) (dP (dCallB (ok__law_take T) (hr.mono (by decide)) T.g__law_take T.F__law_take.kp T.b__law_take (takes_of rfl rfl rfl rfl) (pv 0) (dCons (dInt) dNil)))))
      (dsCons (dSet (i := 3) sc__law_numbers.nd (dIx (dLst (dCons (dInt) (dCons (dOp op_sub opD_sub (dInt) (dpk 2)) dNil))) (dP (dCallB (ok__law_take T) (hr.mono (by decide)) T.g__law_take T.F__law_take.kp T.b__law_take (takes_of rfl rfl rfl rfl) (pv 0) (dCons (dInt) dNil)))))
      (dsOne (dRet (dVal (m := C__law_numbers_0) (dCompN (own := [("_law_k", 4)]) rfl sc__law_numbers.nd (diRng1 (T.z_range) (dCons (dCallB (ok__law_take T) (hr.mono (by decide)) T.g__law_take T.F__law_take.kp T.b__law_take (takes_of rfl rfl rfl rfl) (pv 0) (dCons (dOpL or_addA opD_add (pv 1) (dP (dInt))) dNil)) dNil)) (blkOk_by (N := N__law_numbers) (sc := defScope s__law_numbers) (by decide +kernel)) (fun _ _ _ _ _ => pg_name (i := 4) sc__law_numbers.nd rfl (by first | exact Or.inl rfl | exact Or.inr rfl)) (fun _ _ _ _ _ => pts_nil) (fun _ _ _ _ _ => (dOpL or_addA opD_add (pv 3) (dP (dCallB (ok__law_take T) (hr.mono (by decide)) T.g__law_take T.F__law_take.kp T.b__law_take takes0 (pv 0) (dCons (dv 2) dNil))))) (ctName (by decide)) (fun _ _ _ => tYes_of))))))))
theorem ok__law_replies (T : Tx K mg) : FnOk P w K mg base (L2.CX P w) 3 T.a__law_replies T.fd__law_replies ["_law_box_here", "_law_bound"] (spB K 2 fn__law_replies) := by
  have e : spB K 2 fn__law_replies = spB K ["_law_box_here", "_law_bound"].length (runB m__law_replies N__law_replies.length) := rfl
  rw [e]
  refine okB2 (sc := ?sc) (bd := ?bd) (m := m__law_replies) T.F__law_replies sc__law_replies ?h1 ?h2 ?hb
  case h1 => conv => lhs; whnf
  case h2 => conv => lhs; whnf
  case hb => exact fun cdv A outer s H E hr => (by exact
    (dsCons (dParL (i := 2) (j := 3) (l := 4) rfl sc__law_replies.nd (by decide) (by decide) (by decide) (dCallB (ok__law_take T) (hr.mono (by decide)) T.g__law_take T.F__law_take.kp T.b__law_take (takes_of rfl rfl rfl rfl) (pv 0) (dCons (dInt) dNil)) (dOp or_addA opD_add (dInt) (dP (dCallB (ok__law_take T) (hr.mono (by decide)) T.g__law_take T.F__law_take.kp T.b__law_take (takes_of rfl rfl rfl rfl) (pv 0) (dCons (dInt) dNil)))))
      (dsCons (dsN (i := 5) sc__law_replies.nd (dLstN (dCons (dInt) (dCons (dInt) (dCons (dCallB (ok__law_take T) (hr.mono (by decide)) T.g__law_take T.F__law_take.kp T.b__law_take (takes_of rfl rfl rfl rfl) (pv 0) (dCons (dInt) dNil)) (dCons (dCallB (ok__law_take T) (hr.mono (by decide)) T.g__law_take T.F__law_take.kp T.b__law_take (takes_of rfl rfl rfl rfl) (pv 0) (dCons (dInt) dNil)) dNil))))))
      (dsCons (dFor (passes_of rfl) rfl (diRng1 (T.z_range) (dCons (dCallB (ok__law_take T) (hr.mono (by decide)) T.g__law_take T.F__law_take.kp T.b__law_take (takes_of rfl rfl rfl rfl) (pv 0) (dCons (dOpL or_addA opD_add (pv 1) (dP (dInt))) dNil)) dNil)) (dgName (i := 6) sc__law_replies.nd) (mb := L__law_replies_0) (dsCons (dParEE (i := 7) (j := 8) rfl sc__law_replies.nd (by decide) (dCallB (ok__law_take T) (hr.mono (by decide)) T.g__law_take T.F__law_take.kp T.b__law_take (takes_of rfl rfl rfl rfl) (pv 0) (dCons (dInt) dNil)) (dIxL (pv 5) (dP (dCallB (ok__law_take T) (hr.mono (by decide)) T.g__law_take T.F__law_take.kp T.b__law_take (takes_of rfl rfl rfl rfl) (pv 0) (dCons (dInt) dNil)))))
      (dsCons (dSet (i := 9) sc__law_replies.nd (dCallB (ok__law_numbers T) (hr.mono (by decide)) T.g__law_numbers T.F__law_numbers.kp T.b__law_numbers (takes_of rfl rfl rfl rfl) (pv 0) (dCons (dIx (dLst (dCons (dInt) (dCons (dInt) (dCons (dInt) (dCons (dInt) dNil))))) (dP (dCallB (ok__law_take T) (hr.mono (by decide)) T.g__law_take T.F__law_take.kp T.b__law_take (takes_of rfl rfl rfl rfl) (pv 0) (dCons (dInt) dNil)))) dNil)))
      (dsCons (dParEE (i := 10) (j := 11) rfl sc__law_replies.nd (by decide) (dStr) (dOp or_addA opD_add (dTup (dCons (dOpL or_addA opD_add (pv 8) (dP (dOp or_mulA opD_mul (dInt) (dP (dCallB (ok__law_take T) (hr.mono (by decide)) T.g__law_take T.F__law_take.kp T.b__law_take (takes_of rfl rfl rfl rfl) (pv 0) (dCons (dInt) dNil)))))) dNil)) (dP (dTy1 call_tuple_of cd_tuple (T.z_tuple) b_tuple (dpk 9)))))
      (dsCons (dIfS (dtCmpL (op_eqD hr.units) opD_eq (nomark _) (pv 7) (dP (dInt))) (dsOne (dSet (i := 11) sc__law_replies.nd (dTup dNil))) dsNil)
      (dsCons (dIfS (dtCmpL (op_eqD hr.units) opD_eq (nomark _) (pv 7) (dP (dInt))) (dsOne (dSet (i := 11) sc__law_replies.nd (dTup (dCons (dCallB (ok__law_take T) (hr.mono (by decide)) T.g__law_take T.F__law_take.kp T.b__law_take (takes_of rfl rfl rfl rfl) (pv 0) (dCons (dInt) dNil)) dNil)))) dsNil)
      (dsCons (dSet (i := 12) sc__law_replies.nd (dOp or_addA opD_add (dInt) (dP (dB1 cr_len cd_len (T.z_len) b_len (dpk 11)))))
      (dsCons (dIfS (dtCmpL (op_eqD hr.units) opD_eq (nomark _) (pv 7) (dP (dInt))) (dsOne (dPar3 (i := 10) (j := 11) (l := 12) rfl sc__law_replies.nd (by decide) (by decide) (by decide) (dStr) (dIx (dLst (dCons (dStr) (dCons (dStr) (dCons (dStr) dNil)))) (dP (dCallB (ok__law_take T) (hr.mono (by decide)) T.g__law_take T.F__law_take.kp T.b__law_take (takes_of rfl rfl rfl rfl) (pv 0) (dCons (dInt) dNil)))) (dInt))) dsNil)
      (dsCons (dSet (i := 13) sc__law_replies.nd (dOpL or_addA opD_add (pv 4) (dP (dOpL or_mulA opD_mul (pv 12) (dP (dOp or_addA opD_add (dInt) (dP (dCallB (ok__law_take T) (hr.mono (by decide)) T.g__law_take T.F__law_take.kp T.b__law_take (takes_of rfl rfl rfl rfl) (pv 0) (dCons (dInt) dNil)))))))))
      (dsCons (dExpr (PE.imp (pe_bm PySem.F.plainAttrs_list PySem.F.slot_list_append PySem.F.type_list_append mt_append (pv 2) (dCons (dTup (dCons (dv 10) (dCons (dv 11) (dCons (dv 4) (dCons (dv 13) (dCons (dTy1 call_tuple_of cd_tuple (T.z_tuple) b_tuple (dP (dVal (dLstRg2 rfl (T.z_list) (T.z_range) (dv 3) (dOpL or_addA opD_add (pv 3) (dpk 12)))))) dNil)))))) dNil)) (fun _ _ _ => mut_of mut_app)))
      (dsOne (dParEE (i := 3) (j := 4) rfl sc__law_replies.nd (by decide) (dOp or_addA opD_add (dOpL or_addA opD_add (pv 3) (dpk 12)) (dP (dCallB (ok__law_take T) (hr.mono (by decide)) T.g__law_take T.F__law_take.kp T.b__law_take (takes_of rfl rfl rfl rfl) (pv 0) (dCons (dInt) dNil)))) (dOpL or_addA opD_add (pv 13) (dP (dCallB (ok__law_take T) (hr.mono (by decide)) T.g__law_take T.F__law_take.kp T.b__law_take (takes_of rfl rfl rfl rfl) (pv 0) (dCons (dInt) dNil))))))))))))))))
      (dsCons (dIfS (dtCmp (op_eqD hr.units) opD_eq (nomark _) (dCallB (ok__law_take T) (hr.mono (by decide)) T.g__law_take T.F__law_take.kp T.b__law_take (takes_of rfl rfl rfl rfl) (pv 0) (dCons (dInt) dNil)) (dP (dInt))) (dsCons (dSet (i := 12) sc__law_replies.nd (dOp or_addA opD_add (dInt) (dP (dCallB (ok__law_take T) (hr.mono (by decide)) T.g__law_take T.F__law_take.kp T.b__law_take (takes_of rfl rfl rfl rfl) (pv 0) (dCons (dInt) dNil)))))
      (dsOne (dExpr (PE.imp (pe_bm PySem.F.plainAttrs_list PySem.F.slot_list_append PySem.F.type_list_append mt_append (pv 2) (dCons (dTup (dCons (dStr) (dCons (dStr) (dCons (dv 4) (dCons (dOpL or_addA opD_add (pv 4) (dP (dOpL or_mulA opD_mul (pv 12) (dP (dInt))))) (dCons (dTy1 call_tuple_of cd_tuple (T.z_tuple) b_tuple (dP (dVal (dLstRg2 rfl (T.z_list) (T.z_range) (dv 3) (dOpL or_addA opD_add (pv 3) (dpk 12)))))) dNil)))))) dNil)) (fun _ _ _ => mut_of mut_app))))) dsNil)
      (dsOne (dRet (dv 2))))))))
theorem ok__law_talks (T : Tx K mg) : FnOk P w K mg base (L2.CX P w) 1 T.a__law_talks T.fd__law_talks ["_law_items"] (spV K 1 fn__law_talks) := by
  have e : spV K 1 fn__law_talks = spV K ["_law_items"].length (runV m__law_talks N__law_talks.length) := rfl
  rw [e]
  refine okV2 (sc := ?sc) (bd := ?bd) (m := m__law_talks) T.F__law_talks sc__law_talks ?h1 ?h2 ?hb
  case h1 => conv => lhs; whnf
  case h2 => conv => lhs; whnf
  case hb => exact fun cdv A outer s H E hr => (by exact
    (dsCons (dsN (i := 1) sc__law_talks.nd (dLstN dNil))
      (dsCons (dsCompN (i := 2) (own := [("_law_k", 3), ("_law_item", 10)]) rfl sc__law_talks.nd (sw_true rfl rfl rfl (by decide +kernel)) (diEnum (T.z_enumerate) (dCons (dv 0) dNil)) (blkOk_by (N := N__law_talks) (sc := defScope s__law_talks) (by decide +kernel)) (fun _ _ _ _ _ => pg_tup rfl (pgs_cons (pg_name (i := 3) sc__law_talks.nd rfl (by first | exact Or.inl rfl | exact Or.inr rfl)) (pgs_cons (pg_name (i := 10) sc__law_talks.nd rfl (by first | exact Or.inl rfl | exact Or.inr rfl)) pgs_nil))) (fun _ _ _ _ _ => pts_one ((dwAnd (dtCmp (op_eqD hr.units) opD_eq (nomark _) (dIxL (pv 10) (dP (dInt))) (dP (dStr))) (dwAnd1 (dtCmp (op_neD hr.units) opD_ne (nomark _) (dIxL (pv 10) (dP (dInt))) (dP (dTup dNil))))).pt)) (fun _ _ _ _ _ => (dv 3)) (ctTup (is := [3, 10]) (by decide)) (fun _ _ _ q => q))
      (dsCons (dFor (passes_of rfl) rfl (diSeq (dv 2)) (dgName (i := 3) sc__law_talks.nd) (mb := L__law_talks_0) (dsCons (dAsg (dTup (dCons (dIx (dIx (dIxL (pv 0) (dpk 3)) (dP (dInt))) (dP (dInt))) (dCons (dSl (dIx (dIxL (pv 0) (dpk 3)) (dP (dInt))) (dPart (dInt)) dNoPart) dNil))) (dgTup rfl (dgsCons (dgName (i := 4) sc__law_talks.nd) (dgsCons (dgName (i := 5) sc__law_talks.nd) dgsNil2))))
      (dsCons (dsCompN (i := 6) (own := [("_law_j", 11)]) rfl sc__law_talks.nd (sw_true rfl rfl rfl (by decide +kernel)) (diSeq (dv 2)) (blkOk_by (N := N__law_talks) (sc := defScope s__law_talks) (by decide +kernel)) (fun _ _ _ _ _ => pg_name (i := 11) sc__law_talks.nd rfl (by first | exact Or.inl rfl | exact Or.inr rfl)) (fun _ _ _ _ _ => pts_one ((dwAnd (dtCmpL op_lt opD_lt (nomark _) (pv 11) (dpk 3)) (dwAnd1 (dtCmp (op_eqD hr.units) opD_eq (nomark _) (dOp op_mod opD_mod (dTy1 call_int1 cd_int (T.z_int) b_int (dP (dIx (dIx (dIxL (pv 0) (dpk 11)) (dP (dInt))) (dP (dInt))))) (dP (dInt))) (dP (dOp op_mod opD_mod (dTy1 call_int1 cd_int (T.z_int) b_int (dpk 4)) (dP (dInt))))))).pt)) (fun _ _ _ _ _ => (dv 11)) (ctName (by decide)) (fun _ _ _ q => q))
      (dsCons (dsCompN (i := 7) (own := [("_law_j", 11)]) rfl sc__law_talks.nd (sw_true rfl rfl rfl (by decide +kernel)) (diSeq (dSlL (pv 6) (dPart (dOp op_sub opD_sub (dB1 cr_len cd_len (T.z_len) b_len (dpk 6)) (dP (dInt)))) dNoPart)) (blkOk_by (N := N__law_talks) (sc := defScope s__law_talks) (by decide +kernel)) (fun _ _ _ _ _ => pg_name (i := 11) sc__law_talks.nd rfl (by first | exact Or.inl rfl | exact Or.inr rfl)) (fun _ _ _ _ _ => pts_one (dtCmp op_lt opD_lt (nomark _) (dIx (dIx (dIxL (pv 0) (dpk 11)) (dP (dInt))) (dP (dInt))) (dP (dInt)))) (fun _ _ _ _ _ => (dv 11)) (ctName (by decide)) (fun _ _ _ q => q))
      (dsOne (dIfS ((dwAnd (dtCmpL op_lt opD_lt (nomark _) (pv 4) (dP (dInt))) (dwAnd1 (dtCmpL (op_neD hr.units) opD_ne (nomark _) (pv 7) (dP (dLst dNil))))).pt) (dsCons (dSet (i := 8) sc__law_talks.nd (dIxL (pv 0) (dP (dIxL (pv 7) (dP (dInt))))))
      (dsOne (dExpr (PE.imp (pe_bm PySem.F.plainAttrs_list PySem.F.slot_list_append PySem.F.type_list_append mt_append (pv 1) (dCons (dTup (dCons (dStr) (dCons (dSl (dIxL (pv 8) (dP (dInt))) (dPart (dInt)) dNoPart) (dCons (dIxL (pv 8) (dP (dInt))) (dCons (dIxL (pv 8) (dP (dInt))) (dCons (dTup (dCons (dIxL (pv 7) (dP (dInt))) dNil)) dNil)))))) dNil)) (fun _ _ _ => mut_of mut_app))))) (dsOne (dIfS ((dwAnd (dtCmpL op_gt opD_gt (nomark _) (pv 4) (dP (dInt))) (dwAnd1 (dtCmpL (op_neD hr.units) opD_ne (nomark _) (pv 7) (dP (dLst dNil))))).pt) (dsCons (dSet (i := 8) sc__law_talks.nd (dIxL (pv 0) (dP (dIxL (pv 7) (dP (dInt))))))
      (dsOne (dExpr (PE.imp (pe_bm PySem.F.plainAttrs_list PySem.F.slot_list_append PySem.F.type_list_append mt_append (pv 1) (dCons (dTup (dCons (dStr) (dCons (dTup (dCons (dSl (dIxL (pv 8) (dP (dInt))) (dPart (dInt)) dNoPart) (dCons (dv 5) dNil))) (dCons (dIxL (pv 8) (dP (dInt))) (dCons (dIx (dIxL (pv 0) (dpk 3)) (dP (dInt))) (dCons (dTup (dCons (dIxL (pv 7) (dP (dInt))) (dCons (dv 3) dNil))) dNil)))))) dNil)) (fun _ _ _ => mut_of mut_app))))) (dsOne (dIfS (dtCmpL op_gt opD_gt (nomark _) (pv 4) (dP (dInt))) (dsOne (dExpr (PE.imp (pe_bm PySem.F.plainAttrs_list PySem.F.slot_list_append PySem.F.type_list_append mt_append (pv 1) (dCons (dTup (dCons (dStr) (dCons (dv 5) (dCons (dIx (dIxL (pv 0) (dpk 3)) (dP (dInt))) (dCons (dIx (dIxL (pv 0) (dpk 3)) (dP (dInt))) (dCons (dTup (dCons (dv 3) dNil)) dNil)))))) dNil)) (fun _ _ _ => mut_of mut_app)))) dsNil))))))))))
      (dsCons (dFor (passes_of rfl) rfl (diSeq (dv 2)) (dgName (i := 3) sc__law_talks.nd) (mb := L__law_talks_1) (dsCons (dSet (i := 4) sc__law_talks.nd (dIx (dIx (dIxL (pv 0) (dpk 3)) (dP (dInt))) (dP (dInt))))
      (dsCons (dsCompN (i := 9) (own := [("_law_j", 11)]) rfl sc__law_talks.nd (sw_true rfl rfl rfl (by decide +kernel)) (diSeq (dv 2)) (blkOk_by (N := N__law_talks) (sc := defScope s__law_talks) (by decide +kernel)) (fun _ _ _ _ _ => pg_name (i := 11) sc__law_talks.nd rfl (by first | exact Or.inl rfl | exact Or.inr rfl)) (fun _ _ _ _ _ => pts_one ((dwAnd (dtCmpL op_gt opD_gt (nomark _) (pv 11) (dpk 3)) (dwAnd1 (dtCmp (op_eqD hr.units) opD_eq (nomark _) (dOp op_mod opD_mod (dTy1 call_int1 cd_int (T.z_int) b_int (dP (dIx (dIx (dIxL (pv 0) (dpk 11)) (dP (dInt))) (dP (dInt))))) (dP (dInt))) (dpk 4)))).pt)) (fun _ _ _ _ _ => (dv 11)) (ctName (by decide)) (fun _ _ _ q => q))
      (dsOne (dIfS ((dwAnd (dtCmpL op_lt opD_lt (nomark _) (pv 4) (dP (dInt))) (dwAnd1 (dtCmpL (op_eqD hr.units) opD_eq (nomark _) (pv 9) (dP (dLst dNil))))).pt) (dsOne (dExpr (PE.imp (pe_bm PySem.F.plainAttrs_list PySem.F.slot_list_append PySem.F.type_list_append mt_append (pv 1) (dCons (dTup (dCons (dStr) (dCons (dSl (dIx (dIxL (pv 0) (dpk 3)) (dP (dInt))) (dPart (dInt)) dNoPart) (dCons (dIx (dIxL (pv 0) (dpk 3)) (dP (dInt))) (dCons (dIx (dIxL (pv 0) (dpk 3)) (dP (dInt))) (dCons (dTup (dCons (dv 3) dNil)) dNil)))))) dNil)) (fun _ _ _ => mut_of mut_app)))) dsNil)))))
      (dsOne (dRet (dv 1))))))))
theorem ok_law (T : Tx K mg) : LawFn P w K mg base T.a_law T.fd_law "_law_script" 8 fn_law := by
  have e : fn_law = runL m_law N_law.length := rfl
  rw [e]
  refine lawFn_of (sc := ?sc) (bd := ?bd) (m := m_law) T.F_law sc_law ?h1 ?h2 ?hb
  case h1 => conv => lhs; whnf
  case h2 => conv => lhs; whnf
  case hb => exact fun cdv s H E hr => (by exact
    (dsCons (dFor (passes_of rfl) rfl (diRng1 (T.z_range) (dCons (dBn (call_max2 rfl) cd_max2 (T.z_max) b_max (dCons (dInt) (dCons (dBn (call_min2 rfl) cd_min2 (T.z_min) b_min (dCons (dInt) (dCons (dScrLen (T.z_len) (pv 0)) dNil))) dNil))) dNil)) (dgName (i := 1) sc_law.nd) (mb := L_law_1) (dsCons (dCallSt (i := 2) (ok__law_box T) (hr.mono (by decide)) T.g__law_box T.F__law_box.kp T.b__law_box (takes_of rfl rfl rfl rfl) sc_law.nd (pv 0) (dCons (dv 1) dNil))
      (dsCons (dParEE (i := 3) (j := 4) rfl sc_law.nd (by decide) (dCallB (ok__law_replies T) (hr.mono (by decide)) T.g__law_replies T.F__law_replies.kp T.b__law_replies (takes_of rfl rfl rfl rfl) (pv 2) (dCons (dInt) dNil)) (dCallB (ok__law_replies T) (hr.mono (by decide)) T.g__law_replies T.F__law_replies.kp T.b__law_replies (takes_of rfl rfl rfl rfl) (pv 2) (dCons (dInt) dNil)))
      (dsOne (dFor (passes_of rfl) rfl (diSeq (dTup (dCons (dv 3) (dCons (dv 4) (dCons (dv 3) (dCons (dSlL (pv 3) dNoPart (dPart (dCallB (ok__law_take T) (hr.mono (by decide)) T.g__law_take T.F__law_take.kp T.b__law_take (takes_of rfl rfl rfl rfl) (pv 2) (dCons (dOp or_addA opD_add (dB1 cr_len cd_len (T.z_len) b_len (dpk 3)) (dP (dInt))) dNil)))) dNil)))))) (dgName (i := 5) sc_law.nd) (mb := L_law_0) (dsCons (dSet (i := 6) sc_law.nd (dB1 (cr_reprG rfl hr.units) cd_reprG (T.z_repr) b_repr (dpk 5)))
      (dsCons (dSet (i := 7) sc_law.nd (dTy1 call_tuple_of cd_tuple (T.z_tuple) b_tuple (dP (dCallV (ok__law_talks T) (hr.mono (by decide)) T.g__law_talks T.F__law_talks.kp T.b__law_talks (takes_of rfl rfl rfl rfl) (dCons (dv 5) dNil)))))
      (dsCons (dIfS ((dwOr (dtNot (dTru (dP (dCallV (ok__law_alike T 6) (hr.mono (by decide)) T.g__law_alike T.F__law_alike.kp T.b__law_alike (takes_of rfl rfl rfl rfl) (dCons (dCallV (ok_talks_in T) (hr.mono (by decide)) T.g_talks_in T.F_talks_in.kp T.b_talks_in (takes_of rfl rfl rfl rfl) (dCons (dTy1 call_tuple_of cd_tuple (T.z_tuple) b_tuple (dpk 5)) dNil)) (dCons (dv 7) dNil)))))) (dwOr1 (dtNot (dTru (dP (dCallV (ok__law_alike T 6) (hr.mono (by decide)) T.g__law_alike T.F__law_alike.kp T.b__law_alike (takes_of rfl rfl rfl rfl) (dCons (dCallV (ok_talks_in T) (hr.mono (by decide)) T.g_talks_in T.F_talks_in.kp T.b_talks_in (takes_of rfl rfl rfl rfl) (dCons (dv 5) dNil)) (dCons (dv 7) dNil)))))))).pt) (dsOne (dRet (dBl))) dsNil)
      (dsOne (dIfS (dtCmp (op_neD hr.units) opD_ne (nomark _) (dB1 (cr_reprG rfl hr.units) cd_reprG (T.z_repr) b_repr (dpk 5)) (dpk 6)) (dsOne (dRet (dBl))) dsNil))))))))))
      (dsOne (dRet (dBl)))))
end
end Pf

namespace Pf
open PySem PySem.Spec L2 Dd
/-! ### spans -/
abbrev Pr := Int × Int
def Inn (ss : List Pr) (m : Int) : Prop := ∃ s ∈ ss, s.1 ≤ m ∧ m < s.2
def Can (ss : List Pr) : Prop := (∀ s ∈ ss, s.1 < s.2) ∧ ss.Pairwise (fun s t => s.2 < t.1)
theorem Inn.nil {m : Int} : ¬ Inn [] m := fun ⟨_, h, _⟩ => by cases h
theorem inn_cons {s : Pr} {ss : List Pr} {m : Int} : Inn (s :: ss) m ↔ (s.1 ≤ m ∧ m < s.2) ∨ Inn ss m := by
  constructor
  · rintro ⟨t, h, q⟩
    rcases List.mem_cons.mp h with rfl | h
    · exact .inl q
    · exact .inr ⟨t, h, q⟩
  · rintro (q | ⟨t, h, q⟩)
    · exact ⟨s, List.mem_cons_self, q⟩
    · exact ⟨t, List.mem_cons_of_mem _ h, q⟩
theorem inn_app {a b : List Pr} {m : Int} : Inn (a ++ b) m ↔ Inn a m ∨ Inn b m := by
  constructor
  · rintro ⟨t, h, q⟩
    rcases List.mem_append.mp h with h | h
    · exact .inl ⟨t, h, q⟩
    · exact .inr ⟨t, h, q⟩
  · rintro (⟨t, h, q⟩ | ⟨t, h, q⟩)
    · exact ⟨t, List.mem_append.mpr (.inl h), q⟩
    · exact ⟨t, List.mem_append.mpr (.inr h), q⟩
theorem inn_one {s : Pr} {m : Int} : Inn [s] m ↔ s.1 ≤ m ∧ m < s.2 := by
  rw [inn_cons]
  exact ⟨fun h => h.elim id fun h => absurd h Inn.nil, .inl⟩
theorem inn_perm {a b : List Pr} (h : a.Perm b) (m : Int) : Inn a m ↔ Inn b m :=
  ⟨fun ⟨t, k, q⟩ => ⟨t, h.mem_iff.mp k, q⟩, fun ⟨t, k, q⟩ => ⟨t, h.mem_iff.mpr k, q⟩⟩
theorem Can.tail {s : Pr} {ss : List Pr} (h : Can (s :: ss)) : Can ss := ⟨fun t ht => h.1 t (List.mem_cons_of_mem _ ht), (List.pairwise_cons.mp h.2).2⟩
theorem Can.lt {s : Pr} {ss : List Pr} {m : Int} (h : Can (s :: ss)) (q : Inn ss m) : s.2 < m := by
  obtain ⟨t, ht, a, b⟩ := q
  have := (List.pairwise_cons.mp h.2).1 t ht
  omega
theorem can_uniq : ∀ {a b : List Pr}, Can a → Can b → (∀ m, Inn a m ↔ Inn b m) → a = b
  | [], [], _, _, _ => rfl
  | [], t :: q, _, hb, h => absurd ((h t.1).mpr (inn_cons.mpr (.inl ⟨Int.le_refl _, hb.1 t List.mem_cons_self⟩))) Inn.nil
  | s :: r, [], ha, _, h => absurd ((h s.1).mp (inn_cons.mpr (.inl ⟨Int.le_refl _, ha.1 s List.mem_cons_self⟩))) Inn.nil
  | s :: r, t :: q, ha, hb, h => by
    have s0 := ha.1 s List.mem_cons_self
    have t0 := hb.1 t List.mem_cons_self
    have e1 : s.1 = t.1 := by
      have k1 := (h s.1).mp (inn_cons.mpr (.inl ⟨Int.le_refl _, s0⟩))
      have k2 := (h t.1).mpr (inn_cons.mpr (.inl ⟨Int.le_refl _, t0⟩))
      rcases inn_cons.mp k1 with k1 | k1 <;> rcases inn_cons.mp k2 with k2 | k2
      · omega
      · have := ha.lt k2; omega
      · have := hb.lt k1; omega
      · have := ha.lt k2; have := hb.lt k1; omega
    have e2 : s.2 = t.2 := by
      rcases Int.lt_trichotomy s.2 t.2 with k | k | k
      · have k1 := (h s.2).mpr (inn_cons.mpr (.inl ⟨by omega, k⟩))
        rcases inn_cons.mp k1 with k1 | k1
        · omega
        · have := ha.lt k1; omega
      · exact k
      · have k1 := (h t.2).mp (inn_cons.mpr (.inl ⟨by omega, k⟩))
        rcases inn_cons.mp k1 with k1 | k1
        · omega
        · have := hb.lt k1; omega
    have e : s = t := Prod.ext e1 e2
    subst e
    rw [can_uniq ha.tail hb.tail fun m => ?_]
    constructor
    · intro k
      have k1 := ha.lt k
      rcases inn_cons.mp ((h m).mp (inn_cons.mpr (.inr k))) with k2 | k2
      · omega
      · exact k2
    · intro k
      have k1 := hb.lt k
      rcases inn_cons.mp ((h m).mpr (inn_cons.mpr (.inr k))) with k2 | k2
      · omega
      · exact k2
/-! ### putting pairs together, in order -/
def stepS (found : List Pr) (p : Pr) : List Pr := match found.getLast? with
  | some l => if p.1 ≤ l.2 then found.dropLast ++ [(l.1, if p.2 > l.2 then p.2 else l.2)] else if p.1 < p.2 then found ++ [p] else found
  | none => if p.1 < p.2 then found ++ [p] else found
theorem can_snoc {a : List Pr} {p : Pr} (h : Can a) (hp : p.1 < p.2) (hl : ∀ s ∈ a, s.2 < p.1) : Can (a ++ [p]) := by
  refine ⟨fun s hs => ?_, List.pairwise_append.mpr ⟨h.2, List.pairwise_singleton _ _, fun s hs t ht => ?_⟩⟩
  · rcases List.mem_append.mp hs with hs | hs
    · exact h.1 s hs
    · rw [List.mem_singleton.mp hs]; exact hp
  · rw [List.mem_singleton.mp ht]; exact hl s hs
theorem can_init {a : List Pr} {l : Pr} (h : Can (a ++ [l])) : Can a ∧ l.1 < l.2 ∧ ∀ s ∈ a, s.2 < l.1 := by
  obtain ⟨h1, h2⟩ := h
  obtain ⟨p1, _, p3⟩ := List.pairwise_append.mp h2
  exact ⟨⟨fun s hs => h1 s (List.mem_append.mpr (.inl hs)), p1⟩, h1 l (List.mem_append.mpr (.inr List.mem_cons_self)), fun s hs => p3 s hs l List.mem_cons_self⟩
theorem step_snoc (a : List Pr) (l p : Pr) : stepS (a ++ [l]) p = if p.1 ≤ l.2 then a ++ [(l.1, if p.2 > l.2 then p.2 else l.2)] else if p.1 < p.2 then a ++ [l] ++ [p] else a ++ [l] := by
  unfold stepS
  rw [List.getLast?_append]
  simp
theorem nil_or_snoc : ∀ (a : List Pr), a = [] ∨ ∃ b l, a = b ++ [l]
  | [] => .inl rfl
  | x :: a => by
    rcases nil_or_snoc a with rfl | ⟨b, l, rfl⟩
    · exact .inr ⟨[], x, rfl⟩
    · exact .inr ⟨x :: b, l, rfl⟩
theorem step_ok {found : List Pr} {p : Pr} (h : Can found) (hb : ∀ s ∈ found, s.1 ≤ p.1) : Can (stepS found p) ∧ (∀ s ∈ stepS found p, s.1 ≤ p.1) ∧ ∀ m, Inn (stepS found p) m ↔ Inn found m ∨ (p.1 ≤ m ∧ m < p.2) := by
  rcases nil_or_snoc found with rfl | ⟨a, l, rfl⟩
  · have e : stepS [] p = if p.1 < p.2 then [p] else [] := rfl
    rw [e]
    split
    · rename_i hp
      refine ⟨⟨fun s hs => by rw [List.mem_singleton.mp hs]; exact hp, List.pairwise_singleton _ _⟩, fun s hs => by rw [List.mem_singleton.mp hs]; exact Int.le_refl _, fun m => ?_⟩
      rw [inn_one]
      exact ⟨.inr, fun k => k.elim (fun k => absurd k Inn.nil) id⟩
    · rename_i hp
      refine ⟨h, hb, fun m => ⟨.inl, fun k => k.elim id fun k => by omega⟩⟩
  · obtain ⟨ha, hl, hal⟩ := can_init h
    have hlp : l.1 ≤ p.1 := hb l (List.mem_append.mpr (.inr List.mem_cons_self))
    have hap : ∀ s ∈ a, s.1 ≤ p.1 := fun s hs => hb s (List.mem_append.mpr (.inl hs))
    rw [step_snoc]
    split
    · rename_i hp
      refine ⟨can_snoc ha (by show l.1 < _; split <;> omega) hal, fun s hs => ?_, fun m => ?_⟩
      · rcases List.mem_append.mp hs with hs | hs
        · exact hap s hs
        · rw [List.mem_singleton.mp hs]; exact hlp
      · rw [inn_app, inn_app, inn_one, inn_one]
        have : (l.1 ≤ m ∧ m < (if p.2 > l.2 then p.2 else l.2)) ↔ ((l.1 ≤ m ∧ m < l.2) ∨ (p.1 ≤ m ∧ m < p.2)) := by
          split <;> omega
        show _ ∨ (l.1 ≤ m ∧ m < (if p.2 > l.2 then p.2 else l.2)) ↔ _
        rw [this, or_assoc]
    · rename_i hp
      split
      · rename_i hq
        refine ⟨can_snoc h hq fun s hs => ?_, fun s hs => ?_, fun m => ?_⟩
        · rcases List.mem_append.mp hs with hs | hs
          · have := hal s hs; omega
          · rw [List.mem_singleton.mp hs]; omega
        · rcases List.mem_append.mp hs with hs | hs
          · exact hb s hs
          · rw [List.mem_singleton.mp hs]; exact Int.le_refl _
        · rw [inn_app (b := [p]), inn_one]
      · rename_i hq
        exact ⟨h, hb, fun m => ⟨.inl, fun k => k.elim id fun k => by omega⟩⟩
def spansP (ps : List Pr) : List Pr := (sortP ps).foldl stepS []
theorem fold_ok : ∀ (qs found : List Pr), Can found → qs.Pairwise (fun a b => leP a b = true) → (∀ s ∈ found, ∀ q ∈ qs, s.1 ≤ q.1) → Can (qs.foldl stepS found) ∧ ∀ m, Inn (qs.foldl stepS found) m ↔ Inn found m ∨ Inn qs m
  | [], found, h, _, _ => ⟨h, fun m => ⟨.inl, fun k => k.elim id fun k => absurd k Inn.nil⟩⟩
  | q :: qs, found, h, hp, hb => by
    obtain ⟨p1, p2⟩ := List.pairwise_cons.mp hp
    obtain ⟨a1, a2, a3⟩ := step_ok h (fun s hs => hb s hs q List.mem_cons_self)
    obtain ⟨b1, b2⟩ := fold_ok qs (stepS found q) a1 p2 fun s hs t ht => by
      have := a2 s hs
      have := leP_iff.mp (p1 t ht)
      omega
    refine ⟨b1, fun m => ?_⟩
    show Inn (qs.foldl stepS (stepS found q)) m ↔ _
    rw [b2 m, a3 m, inn_cons, or_assoc]
theorem spansP_can (ps : List Pr) : Can (spansP ps) := (fold_ok (sortP ps) [] ⟨fun s hs => (by cases hs), List.Pairwise.nil⟩ (sortP_pw ps) fun s hs => by cases hs).1
theorem spansP_inn (ps : List Pr) (m : Int) : Inn (spansP ps) m ↔ Inn ps m := by
  rw [spansP, (fold_ok (sortP ps) [] ⟨fun s hs => (by cases hs), List.Pairwise.nil⟩ (sortP_pw ps) fun s hs => by cases hs).2 m]
  rw [inn_perm (sortP_perm ps) m]
  exact ⟨fun k => k.elim (fun k => absurd k Inn.nil) id, .inr⟩
theorem spansP_eq {ps ss : List Pr} (h : Can ss) (hm : ∀ m, Inn ps m ↔ Inn ss m) : spansP ps = ss := can_uniq (spansP_can ps) h fun m => (spansP_inn ps m).trans (hm m)
theorem step_len (found : List Pr) (p : Pr) : (stepS found p).length ≤ found.length + 1 := by
  rcases nil_or_snoc found with rfl | ⟨a, l, rfl⟩
  · have e : stepS [] p = if p.1 < p.2 then [p] else [] := rfl
    rw [e]; split <;> simp
  · rw [step_snoc]; split
    · simp
    · split <;> simp
/-! ### times a number, and so much later -/
def scaleP (t c : Int) (p : Pr) : Pr := (p.1 * t + c, p.2 * t + c)
theorem scale_can {t c : Int} (ht : 0 < t) {ss : List Pr} (h : Can ss) : Can (ss.map (scaleP t c)) := by
  refine ⟨fun s hs => ?_, List.pairwise_map.mpr (h.2.imp fun {x y} k => ?_)⟩
  · obtain ⟨u, hu, rfl⟩ := List.mem_map.mp hs
    have := h.1 u hu
    show u.1 * t + c < u.2 * t + c
    have := Int.mul_lt_mul_of_pos_right this ht
    omega
  · show x.2 * t + c < y.1 * t + c
    have := Int.mul_lt_mul_of_pos_right k ht
    omega
theorem scale_inn {t c : Int} (ht : 0 < t) (ss : List Pr) (m : Int) : Inn (ss.map (scaleP t c)) m ↔ Inn ss ((m - c) / t) := by
  constructor
  · rintro ⟨s, hs, a, b⟩
    obtain ⟨u, hu, rfl⟩ := List.mem_map.mp hs
    refine ⟨u, hu, ?_, ?_⟩
    · exact (Int.le_ediv_iff_mul_le ht).mpr (by have : u.1 * t + c ≤ m := a; omega)
    · exact (Int.ediv_lt_iff_lt_mul ht).mpr (by have : m < u.2 * t + c := b; omega)
  · rintro ⟨u, hu, a, b⟩
    refine ⟨_, List.mem_map.mpr ⟨u, hu, rfl⟩, ?_, ?_⟩
    · have := (Int.le_ediv_iff_mul_le ht).mp a
      show u.1 * t + c ≤ m
      omega
    · have := (Int.ediv_lt_iff_lt_mul ht).mp b
      show m < u.2 * t + c
      omega
end Pf

namespace Pf
open PySem PySem.Spec L2 Dd
/-! ### sets of spans put together -/
theorem can_nil : Can [] := ⟨fun s hs => (by cases hs), List.Pairwise.nil⟩
theorem can_cons {s : Pr} {ss : List Pr} (h : Can ss) (h1 : s.1 < s.2) (h2 : ∀ t ∈ ss, s.2 < t.1) : Can (s :: ss) :=
  ⟨fun t ht => (List.mem_cons.mp ht).elim (fun e => by rw [e]; exact h1) (h.1 t), List.pairwise_cons.mpr ⟨h2, h.2⟩⟩
theorem Can.hd {s : Pr} {ss : List Pr} (h : Can (s :: ss)) : s.1 < s.2 := h.1 s List.mem_cons_self
theorem Can.gap {s : Pr} {ss : List Pr} (h : Can (s :: ss)) : ∀ t ∈ ss, s.2 < t.1 := (List.pairwise_cons.mp h.2).1
def mxI (x y : Int) : Int := if y > x then y else x
def mnI (x y : Int) : Int := if y < x then y else x
theorem mxI_p (x y : Int) : x ≤ mxI x y ∧ y ≤ mxI x y ∧ (mxI x y = x ∨ mxI x y = y) := by unfold mxI; split <;> omega
theorem mnI_p (x y : Int) : mnI x y ≤ x ∧ mnI x y ≤ y ∧ (mnI x y = x ∨ mnI x y = y) := by unfold mnI; split <;> omega
def bothP : List Pr → List Pr → List Pr
  | a :: as, b :: bs => (if (mxI a.1 b.1) < (mnI a.2 b.2) then [((mxI a.1 b.1), (mnI a.2 b.2))] else []) ++ if a.2 < b.2 then bothP as (b :: bs) else bothP (a :: as) bs
  | _, _ => []
termination_by a b => a.length + b.length
theorem both_nil (b : List Pr) : bothP [] b = [] := by unfold bothP; rfl
theorem both_nil2 (a : List Pr) : bothP a [] = [] := by cases a <;> (unfold bothP; rfl)
theorem both_low (x : Int) : ∀ (n : Nat) (a b : List Pr), a.length + b.length ≤ n → Can a → Can b → ((∀ t ∈ a, x < t.1) ∨ (∀ t ∈ b, x < t.1)) → ∀ s ∈ bothP a b, x < s.1
  | n, [], b, _, _, _, _, s, hs => by rw [both_nil] at hs; cases hs
  | n, a :: as, [], _, _, _, _, s, hs => by rw [both_nil2] at hs; cases hs
  | 0, a :: as, b :: bs, hn, _, _, _, _, _ => by simp at hn
  | n + 1, a :: as, b :: bs, hn, ha, hb, hx, s, hs => by
    simp only [List.length_cons] at hn
    unfold bothP at hs
    rcases List.mem_append.mp hs with hs | hs
    · split at hs
      · rw [List.mem_singleton.mp hs]
        show x < (mxI a.1 b.1)
        have A := mxI_p a.1 b.1
        rcases hx with hx | hx
        · have := hx a List.mem_cons_self
          omega
        · have := hx b List.mem_cons_self
          omega
      · cases hs
    · split at hs
      · refine both_low x n as (b :: bs) (by simp only [List.length_cons]; omega) ha.tail hb ?_ s hs
        exact hx.imp (fun h t ht => h t (List.mem_cons_of_mem _ ht)) id
      · refine both_low x n (a :: as) bs (by simp only [List.length_cons]; omega) ha hb.tail ?_ s hs
        exact hx.imp id (fun h t ht => h t (List.mem_cons_of_mem _ ht))
theorem both_ok : ∀ (n : Nat) (a b : List Pr), a.length + b.length ≤ n → Can a → Can b → Can (bothP a b) ∧ ∀ m, Inn (bothP a b) m ↔ Inn a m ∧ Inn b m
  | n, [], b, _, _, _ => by
    rw [both_nil]
    exact ⟨can_nil, fun m => ⟨fun k => absurd k Inn.nil, fun k => k.1⟩⟩
  | n, a :: as, [], _, _, _ => by
    rw [both_nil2]
    exact ⟨can_nil, fun m => ⟨fun k => absurd k Inn.nil, fun k => k.2⟩⟩
  | 0, a :: as, b :: bs, hn, _, _ => by simp at hn
  | n + 1, a :: as, b :: bs, hn, ha, hb => by
    simp only [List.length_cons] at hn
    have ga := ha.gap
    have gb := hb.gap
    have a0 := ha.hd
    have b0 := hb.hd
    unfold bothP
    by_cases q : a.2 < b.2
    · rw [if_pos q]
      obtain ⟨r1, r2⟩ := both_ok n as (b :: bs) (by simp only [List.length_cons]; omega) ha.tail hb
      have low := both_low a.2 n as (b :: bs) (by simp only [List.length_cons]; omega) ha.tail hb (.inl ga)
      have A := mxI_p a.1 b.1
      have hmin : (mnI a.2 b.2) = a.2 := by have := mnI_p a.2 b.2; omega
      rw [hmin]
      have key : ∀ m, (Inn (a :: as) m ∧ Inn (b :: bs) m) ↔ (((mxI a.1 b.1) ≤ m ∧ m < a.2) ∨ (Inn as m ∧ Inn (b :: bs) m)) := fun m => by
        constructor
        · rintro ⟨h1, h2⟩
          rcases inn_cons.mp h1 with h1 | h1
          · rcases inn_cons.mp h2 with h2 | h2
            · exact .inl ⟨by omega, h1.2⟩
            · have := hb.lt h2; omega
          · exact .inr ⟨h1, h2⟩
        · rintro (⟨h1, h2⟩ | ⟨h1, h2⟩)
          · have : a.1 ≤ m ∧ b.1 ≤ m := by omega
            exact ⟨inn_cons.mpr (.inl ⟨this.1, h2⟩), inn_cons.mpr (.inl ⟨this.2, by omega⟩)⟩
          · exact ⟨inn_cons.mpr (.inr h1), h2⟩
      split
      · rename_i h
        refine ⟨can_cons r1 h low, fun m => ?_⟩
        rw [key m, ← r2 m]
        exact inn_cons
      · rename_i h
        refine ⟨r1, fun m => ?_⟩
        rw [key m, ← r2 m]
        exact ⟨.inr, fun k => k.elim (fun k => by omega) id⟩
    · rw [if_neg q]
      obtain ⟨r1, r2⟩ := both_ok n (a :: as) bs (by simp only [List.length_cons]; omega) ha hb.tail
      have low := both_low b.2 n (a :: as) bs (by simp only [List.length_cons]; omega) ha hb.tail (.inr gb)
      have A := mxI_p a.1 b.1
      have hmin : (mnI a.2 b.2) = b.2 := by have := mnI_p a.2 b.2; omega
      rw [hmin]
      have key : ∀ m, (Inn (a :: as) m ∧ Inn (b :: bs) m) ↔ (((mxI a.1 b.1) ≤ m ∧ m < b.2) ∨ (Inn (a :: as) m ∧ Inn bs m)) := fun m => by
        constructor
        · rintro ⟨h1, h2⟩
          rcases inn_cons.mp h2 with h2 | h2
          · rcases inn_cons.mp h1 with h1 | h1
            · exact .inl ⟨by omega, h2.2⟩
            · have := ha.lt h1; omega
          · exact .inr ⟨h1, h2⟩
        · rintro (⟨h1, h2⟩ | ⟨h1, h2⟩)
          · have : a.1 ≤ m ∧ b.1 ≤ m := by omega
            exact ⟨inn_cons.mpr (.inl ⟨this.1, by omega⟩), inn_cons.mpr (.inl ⟨this.2, h2⟩)⟩
          · exact ⟨h1, inn_cons.mpr (.inr h2)⟩
      split
      · rename_i h
        refine ⟨can_cons r1 h low, fun m => ?_⟩
        rw [key m, ← r2 m]
        exact inn_cons
      · rename_i h
        refine ⟨r1, fun m => ?_⟩
        rw [key m, ← r2 m]
        exact ⟨.inr, fun k => k.elim (fun k => by omega) id⟩
theorem both_can {a b : List Pr} (ha : Can a) (hb : Can b) : Can (bothP a b) := (both_ok _ a b (Nat.le_refl _) ha hb).1
theorem both_inn {a b : List Pr} (ha : Can a) (hb : Can b) (m : Int) : Inn (bothP a b) m ↔ Inn a m ∧ Inn b m := (both_ok _ a b (Nat.le_refl _) ha hb).2 m
/-- what is not in them, from at on, below a number -/
def othersP (below : Int) : Int → List Pr → List Pr
  | at', [] => if at' < below then [(at', below)] else []
  | at', s :: ss => (if at' < (mnI s.1 below) then [(at', mnI s.1 below)] else []) ++ othersP below s.2 ss
theorem others_ok (below : Int) : ∀ (ss : List Pr) (at' : Int), Can ss → (∀ s ∈ ss, at' ≤ s.1) → Can (othersP below at' ss) ∧ (∀ t ∈ othersP below at' ss, at' ≤ t.1) ∧ ∀ m, Inn (othersP below at' ss) m ↔ at' ≤ m ∧ m < below ∧ ¬ Inn ss m
  | [], at', _, _ => by
    unfold othersP
    split
    · rename_i h
      refine ⟨can_cons can_nil h (fun t ht => (by cases ht)), fun t ht => by rw [List.mem_singleton.mp ht]; exact Int.le_refl _, fun m => ?_⟩
      rw [inn_one]
      exact ⟨fun k => ⟨k.1, k.2, Inn.nil⟩, fun k => ⟨k.1, k.2.1⟩⟩
    · rename_i h
      exact ⟨can_nil, fun t ht => (by cases ht), fun m => ⟨fun k => absurd k Inn.nil, fun k => by omega⟩⟩
  | s :: ss, at', hc, hl => by
    have s0 := hc.hd
    have g := hc.gap
    have l := hl s List.mem_cons_self
    have A := mnI_p s.1 below
    obtain ⟨r1, r2, r3⟩ := others_ok below ss s.2 hc.tail fun t ht => by have := g t ht; omega
    unfold othersP
    have key : ∀ m, (at' ≤ m ∧ m < below ∧ ¬ Inn (s :: ss) m) ↔ ((at' ≤ m ∧ m < (mnI s.1 below)) ∨ (s.2 ≤ m ∧ m < below ∧ ¬ Inn ss m)) := fun m => by
      rw [inn_cons]
      constructor
      · rintro ⟨h1, h2, h3⟩
        by_cases q : m < s.1
        · exact .inl ⟨h1, by omega⟩
        · exact .inr ⟨by by_cases z : s.2 ≤ m; exact z; exact absurd (.inl ⟨by omega, by omega⟩) h3, h2, fun k => h3 (.inr k)⟩
      · rintro (⟨h1, h2⟩ | ⟨h1, h2, h3⟩)
        · have : m < below ∧ m < s.1 := by omega
          exact ⟨h1, this.1, fun k => k.elim (fun k => by omega) fun k => by have := hc.lt k; omega⟩
        · exact ⟨by omega, h2, fun k => k.elim (fun k => by omega) h3⟩
    split
    · rename_i h
      refine ⟨can_cons r1 h fun t ht => ?_, fun t ht => ?_, fun m => ?_⟩
      · have := r2 t ht
        show (mnI s.1 below) < t.1
        omega
      · rcases List.mem_cons.mp ht with rfl | ht
        · exact Int.le_refl _
        · have := r2 t ht; omega
      · rw [key m, ← r3 m]
        exact inn_cons
    · rename_i h
      refine ⟨r1, fun t ht => ?_, fun m => ?_⟩
      · have := r2 t ht
        show at' ≤ t.1
        omega
      · rw [key m, ← r3 m]
        exact ⟨.inr, fun k => k.elim (fun k => by omega) id⟩
def laterP (n : Int) (ss : List Pr) : List Pr := ss.map fun s => (s.1 + n, s.2 + n)
theorem later_can {n : Int} {ss : List Pr} (h : Can ss) : Can (laterP n ss) := by
  refine ⟨fun s hs => ?_, List.pairwise_map.mpr (h.2.imp fun {x y} k => ?_)⟩
  · obtain ⟨u, hu, rfl⟩ := List.mem_map.mp hs
    have := h.1 u hu
    show u.1 + n < u.2 + n
    omega
  · show x.2 + n < y.1 + n
    omega
theorem later_inn (n : Int) (ss : List Pr) (m : Int) : Inn (laterP n ss) m ↔ Inn ss (m - n) := by
  constructor
  · rintro ⟨s, hs, a, b⟩
    obtain ⟨u, hu, rfl⟩ := List.mem_map.mp hs
    exact ⟨u, hu, by have : u.1 + n ≤ m := a; omega, by have : m < u.2 + n := b; omega⟩
  · rintro ⟨u, hu, a, b⟩
    exact ⟨_, List.mem_map.mpr ⟨u, hu, rfl⟩, by show u.1 + n ≤ m; omega, by show m < u.2 + n; omega⟩
def grownP (n : Int) (ss : List Pr) : List Pr := spansP (ss.map fun s => (s.1, s.2 + n))
theorem grown_inn {n : Int} (hn : 0 ≤ n) {ss : List Pr} (h : Can ss) (m : Int) : Inn (grownP n ss) m ↔ ∃ k, 0 ≤ k ∧ k ≤ n ∧ Inn ss (m - k) := by
  unfold grownP
  rw [spansP_inn]
  constructor
  · rintro ⟨s, hs, a, b⟩
    obtain ⟨u, hu, rfl⟩ := List.mem_map.mp hs
    have u0 := h.1 u hu
    have a : u.1 ≤ m := a
    have b : m < u.2 + n := b
    by_cases q : m < u.2
    · exact ⟨0, by omega, by omega, u, hu, by omega, by omega⟩
    · exact ⟨m - (u.2 - 1), by omega, by omega, u, hu, by omega, by omega⟩
  · rintro ⟨k, k0, k1, u, hu, a, b⟩
    exact ⟨_, List.mem_map.mpr ⟨u, hu, rfl⟩, by show u.1 ≤ m; omega, by show m < u.2 + n; omega⟩
def wornP (n : Int) (ss : List Pr) : List Pr := (ss.filter fun s => decide (s.1 + n < s.2)).map fun s => (s.1 + n, s.2)
theorem worn_can {n : Int} (hn : 0 ≤ n) {ss : List Pr} (h : Can ss) : Can (wornP n ss) := by
  refine ⟨fun s hs => ?_, List.pairwise_map.mpr ((h.2.filter _).imp fun {x y} k => ?_)⟩
  · obtain ⟨u, hu, rfl⟩ := List.mem_map.mp hs
    exact of_decide_eq_true (List.mem_filter.mp hu).2
  · show x.2 < y.1 + n
    omega
theorem can_out {ss : List Pr} (h : Can ss) {s : Pr} (hs : s ∈ ss) : ¬ Inn ss s.2 := by
  induction ss with
  | nil => cases hs
  | cons t r ih =>
    intro k
    rcases List.mem_cons.mp hs with rfl | hs
    · rcases inn_cons.mp k with k | k
      · omega
      · have := h.lt k; omega
    · rcases inn_cons.mp k with k | k
      · have := h.gap s hs
        have := h.1 s (List.mem_cons_of_mem _ hs)
        omega
      · exact ih h.tail hs k
theorem worn_inn {n : Int} (hn : 0 ≤ n) {ss : List Pr} (h : Can ss) (m : Int) : Inn (wornP n ss) m ↔ ∀ k, 0 ≤ k → k ≤ n → Inn ss (m - k) := by
  constructor
  · rintro ⟨s, hs, a, b⟩ k k0 k1
    obtain ⟨u, hu, rfl⟩ := List.mem_map.mp hs
    exact ⟨u, (List.mem_filter.mp hu).1, by have : u.1 + n ≤ m := a; omega, by have : m < u.2 := b; omega⟩
  · intro hk
    obtain ⟨u, hu, a, b⟩ := hk n hn (Int.le_refl _)
    have : m < u.2 := by
      by_cases q : m < u.2
      · exact q
      · have k := hk (m - u.2) (by omega) (by omega)
        have e : m - (m - u.2) = u.2 := by omega
        rw [e] at k
        exact absurd k (can_out h hu)
    exact ⟨_, List.mem_map.mpr ⟨u, List.mem_filter.mpr ⟨hu, decide_eq_true (by omega)⟩, rfl⟩, by show u.1 + n ≤ m; omega, this⟩
end Pf

namespace Pf
open PySem PySem.Spec L2 Dd
/-! ### how many moments -/
def lenQ (ss : List Pr) : Int := (ss.map fun s => s.2 - s.1).sum
/-- how many of the n moments from lo on -/
def cnQ (p : Int → Bool) (lo : Int) : Nat → Int
  | 0 => 0
  | n + 1 => (if p lo = true then 1 else 0) + cnQ p (lo + 1) n
theorem cnQ_add (p : Int → Bool) : ∀ (a b : Nat) (lo : Int), cnQ p lo (a + b) = cnQ p lo a + cnQ p (lo + a) b
  | 0, b, lo => by rw [Nat.zero_add]; simp [cnQ]
  | a + 1, b, lo => by
    have e : a + 1 + b = (a + b) + 1 := by omega
    have e2 : lo + ((a + 1 : Nat) : Int) = lo + 1 + (a : Nat) := by omega
    rw [e, e2]
    show _ + cnQ p (lo + 1) (a + b) = (_ + cnQ p (lo + 1) a) + _
    rw [cnQ_add p a b (lo + 1)]
    omega
theorem cnQ_all (p : Int → Bool) (v : Bool) : ∀ (n : Nat) (lo : Int), (∀ m, lo ≤ m → m < lo + n → p m = v) → cnQ p lo n = if v = true then (n : Int) else 0
  | 0, lo, _ => by cases v <;> simp [cnQ]
  | n + 1, lo, h => by
    have ih := cnQ_all p v n (lo + 1) fun m a b => h m (by omega) (by omega)
    show (if p lo = true then 1 else 0) + cnQ p (lo + 1) n = _
    rw [ih, h lo (Int.le_refl _) (by omega)]
    cases v
    · simp
    · simp; omega
theorem cnQ_congr {p q : Int → Bool} : ∀ (n : Nat) (lo : Int), (∀ m, lo ≤ m → m < lo + n → p m = q m) → cnQ p lo n = cnQ q lo n
  | 0, lo, _ => rfl
  | n + 1, lo, h => by
    show (if p lo = true then 1 else 0) + cnQ p (lo + 1) n = (if q lo = true then 1 else 0) + cnQ q (lo + 1) n
    rw [cnQ_congr n (lo + 1) fun m a b => h m (by omega) (by omega), h lo (Int.le_refl _) (by omega)]
theorem cnQ_both (p q : Int → Bool) : ∀ (n : Nat) (lo : Int), cnQ (fun m => p m && q m) lo n + cnQ (fun m => p m || q m) lo n = cnQ p lo n + cnQ q lo n
  | 0, lo => rfl
  | n + 1, lo => by
    have ih := cnQ_both p q n (lo + 1)
    show ((if (p lo && q lo) = true then 1 else 0) + _) + ((if (p lo || q lo) = true then 1 else 0) + _) = ((if p lo = true then 1 else 0) + _) + ((if q lo = true then 1 else 0) + _)
    cases p lo <;> cases q lo <;> simp <;> omega
def inB (ss : List Pr) (m : Int) : Bool := ss.any fun s => decide (s.1 ≤ m) && decide (m < s.2)
theorem inB_iff (ss : List Pr) (m : Int) : inB ss m = true ↔ Inn ss m := by
  unfold inB Inn
  rw [List.any_eq_true]
  simp
theorem len_cn : ∀ (ss : List Pr) (lo : Int) (n : Nat), Can ss → (∀ s ∈ ss, lo ≤ s.1 ∧ s.2 ≤ lo + n) → lenQ ss = cnQ (inB ss) lo n
  | [], lo, n, _, _ => by
    rw [cnQ_all (inB []) false n lo fun m _ _ => rfl]; rfl
  | s :: ss, lo, n, hc, hb => by
    obtain ⟨b1, b2⟩ := hb s List.mem_cons_self
    have s0 := hc.hd
    have g := hc.gap
    obtain ⟨a, ha⟩ : ∃ a : Nat, (a : Int) = s.1 - lo := ⟨(s.1 - lo).toNat, Int.toNat_of_nonneg (by omega)⟩
    obtain ⟨b, hbb⟩ : ∃ b : Nat, (b : Int) = s.2 - s.1 := ⟨(s.2 - s.1).toNat, Int.toNat_of_nonneg (by omega)⟩
    obtain ⟨c, hcc⟩ : ∃ c : Nat, (c : Int) = lo + n - s.2 := ⟨(lo + n - s.2).toNat, Int.toNat_of_nonneg (by omega)⟩
    have e : n = a + (b + c) := by omega
    rw [e, cnQ_add, cnQ_add]
    have ih := len_cn ss s.2 c hc.tail fun t ht => ⟨by have := g t ht; omega, by have := (hb t (List.mem_cons_of_mem _ ht)).2; omega⟩
    have c1 : cnQ (inB (s :: ss)) lo a = 0 := by
      rw [cnQ_all (inB (s :: ss)) false a lo fun m m0 m1 => Bool.eq_false_iff.mpr fun k => ?_]; rfl
      rcases inn_cons.mp ((inB_iff _ _).mp k) with k | k
      · omega
      · have := hc.lt k; omega
    have c2 : cnQ (inB (s :: ss)) (lo + a) b = b := by
      rw [cnQ_all (inB (s :: ss)) true b (lo + a) fun m m0 m1 => (inB_iff _ _).mpr (inn_cons.mpr (.inl ⟨by omega, by omega⟩))]; rfl
    have c3 : cnQ (inB (s :: ss)) (lo + a + b) c = cnQ (inB ss) s.2 c := by
      have e3 : lo + (a : Int) + (b : Int) = s.2 := by omega
      rw [e3]
      refine cnQ_congr c s.2 fun m m0 m1 => ?_
      rw [Bool.eq_iff_iff, inB_iff, inB_iff, inn_cons]
      exact ⟨fun k => k.elim (fun k => by omega) id, .inr⟩
    rw [c1, c2, c3, ← ih]
    show (s.2 - s.1) + lenQ ss = _
    omega
/-- those in both and those in either are as many as in each -/
theorem len_both {a b : List Pr} {N : Nat} (ha : Can a) (hb : Can b) (ga : ∀ s ∈ a, 0 ≤ s.1 ∧ s.2 ≤ (N : Int)) (gb : ∀ s ∈ b, 0 ≤ s.1 ∧ s.2 ≤ (N : Int)) : lenQ (bothP a b) + lenQ (spansP (a ++ b)) = lenQ a + lenQ b := by
  have bd : ∀ {ss : List Pr}, Can ss → (∀ m, Inn ss m → 0 ≤ m ∧ m < N) → ∀ s ∈ ss, (0 : Int) ≤ s.1 ∧ s.2 ≤ 0 + N := fun {ss} hc h s hs => by
    have s0 := hc.1 s hs
    have k1 := h s.1 ⟨s, hs, Int.le_refl _, s0⟩
    have k2 := h (s.2 - 1) ⟨s, hs, by omega, by omega⟩
    omega
  have ia : ∀ m, Inn a m → 0 ≤ m ∧ m < N := fun m ⟨s, hs, x, y⟩ => by have := ga s hs; omega
  have ib : ∀ m, Inn b m → 0 ≤ m ∧ m < N := fun m ⟨s, hs, x, y⟩ => by have := gb s hs; omega
  have h1 := len_cn (bothP a b) 0 N (both_can ha hb) (bd (both_can ha hb) fun m k => ia m ((both_inn ha hb m).mp k).1)
  have h2 := len_cn (spansP (a ++ b)) 0 N (spansP_can _) (bd (spansP_can _) fun m k => (inn_app.mp ((spansP_inn _ m).mp k)).elim (ia m) (ib m))
  have h3 := len_cn a 0 N ha (bd ha ia)
  have h4 := len_cn b 0 N hb (bd hb ib)
  rw [h1, h2, h3, h4, ← cnQ_both (inB a) (inB b) N 0]
  congr 1
  · refine cnQ_congr N 0 fun m _ _ => ?_
    rw [Bool.eq_iff_iff, inB_iff, both_inn ha hb, Bool.and_eq_true, inB_iff, inB_iff]
  · refine cnQ_congr N 0 fun m _ _ => ?_
    rw [Bool.eq_iff_iff, inB_iff, spansP_inn, inn_app, Bool.or_eq_true, inB_iff, inB_iff]
end Pf

namespace Pf
open PySem PySem.Spec L2 Dd
/-! ### bytes and their bits, the highest first -/
def bits8 (x : Int) : List Int := [x / 128 % 2, x / 64 % 2, x / 32 % 2, x / 16 % 2, x / 8 % 2, x / 4 % 2, x / 2 % 2, x % 2]
def apB (p : Bool) (b : Int) : Int := if p = true then 1 - b else b
def bB (x : Int) : List Bool := (bits8 x).map fun b => decide (b = 1)
def By (x : Int) : Prop := 0 ≤ x ∧ x < 256
theorem by_nat {x : Int} (h : By x) : ∃ n : Nat, x = (n : Int) ∧ n < 256 := ⟨x.toNat, by have := h.1; omega, by have := h.1; have := h.2; omega⟩
theorem and_xor_or : ∀ (n a b : Nat), a + b ≤ n → (a &&& b) + (a ^^^ b) = a ||| b
  | 0, a, b, h => by
    have ha : a = 0 := by omega
    have hb : b = 0 := by omega
    subst ha hb; rfl
  | n + 1, a, b, h => by
    by_cases z : a = 0 ∧ b = 0
    · obtain ⟨rfl, rfl⟩ := z; rfl
    · have ih := and_xor_or n (a / 2) (b / 2) (by omega)
      have h1 := @Nat.and_div_two a b
      have h2 := @Nat.or_div_two a b
      have h3 := @Nat.xor_div_two a b
      have m1 := @Nat.and_mod_two_eq_one a b
      have m2 := @Nat.or_mod_two_eq_one a b
      have m3 := @Nat.xor_mod_two_eq_one a b
      rw [← h1, ← h2, ← h3] at ih
      omega
theorem xor_nat (a b : Nat) : Builtin.bitXor (a : Int) (b : Int) = ((a ^^^ b : Nat) : Int) := by
  have e1 : ∀ n : Nat, Builtin.bitNot (n : Int) = -(n : Int) - 1 := fun n => by simp [Builtin.bitNot]; try omega
  have e3 : Builtin.bitOr (a : Int) (b : Int) = ((a ||| b : Nat) : Int) := by
    unfold Builtin.bitOr Builtin.bitAnd
    have n1 : decide (0 ≤ Builtin.bitNot (a : Int)) = false := by rw [e1]; exact decide_eq_false (by omega)
    have n2 : decide (0 ≤ Builtin.bitNot (b : Int)) = false := by rw [e1]; exact decide_eq_false (by omega)
    rw [n1, n2]
    have f : ∀ x : Int, Builtin.bitNot (Builtin.bitNot x) = x := fun x => by simp [Builtin.bitNot]; try omega
    rw [f, f, f]
    simp
  unfold Builtin.bitXor
  rw [e3, PySem.W.os_band]
  have := and_xor_or _ a b (Nat.le_refl _)
  omega
theorem xor_at (a b i : Nat) : (a ^^^ b) / 2 ^ i % 2 = if a / 2 ^ i % 2 = 1 then 1 - b / 2 ^ i % 2 else b / 2 ^ i % 2 := by
  have h := Nat.testBit_xor a b i
  rw [Nat.testBit_eq_decide_div_mod_eq, Nat.testBit_eq_decide_div_mod_eq, Nat.testBit_eq_decide_div_mod_eq] at h
  have h1 : ∀ n : Nat, n % 2 = 0 ∨ n % 2 = 1 := fun n => by omega
  rcases h1 ((a ^^^ b) / 2 ^ i) with p | p <;> rcases h1 (a / 2 ^ i) with q | q <;> rcases h1 (b / 2 ^ i) with r | r <;> rw [p, q, r] at h <;> simp at h <;> rw [p, q, r] <;> rfl
theorem xor_by {x y : Int} (hx : By x) (hy : By y) : By (Builtin.bitXor x y) ∧ bits8 (Builtin.bitXor x y) = List.zipWith apB (bB x) (bits8 y) := by
  obtain ⟨a, rfl, ha⟩ := by_nat hx
  obtain ⟨b, rfl, hb⟩ := by_nat hy
  rw [xor_nat]
  have lt : a ^^^ b < 256 := @Nat.xor_lt_two_pow a b 8 ha hb
  refine ⟨⟨by omega, by omega⟩, ?_⟩
  have key : ∀ i : Nat, (((a ^^^ b : Nat) : Int) / ((2 ^ i : Nat) : Int) % 2) = apB (decide ((a : Int) / ((2 ^ i : Nat) : Int) % 2 = 1)) ((b : Int) / ((2 ^ i : Nat) : Int) % 2) := fun i => by
    have h := xor_at a b i
    have c1 : ((a : Int) / ((2 ^ i : Nat) : Int) % 2) = ((a / 2 ^ i % 2 : Nat) : Int) := by push_cast; rfl
    have c2 : ((b : Int) / ((2 ^ i : Nat) : Int) % 2) = ((b / 2 ^ i % 2 : Nat) : Int) := by push_cast; rfl
    have c3 : (((a ^^^ b : Nat) : Int) / ((2 ^ i : Nat) : Int) % 2) = (((a ^^^ b) / 2 ^ i % 2 : Nat) : Int) := by push_cast; rfl
    rw [c1, c2, c3, h]
    have hB : b / 2 ^ i % 2 ≤ 1 := by omega
    have hA : a / 2 ^ i % 2 = 0 ∨ a / 2 ^ i % 2 = 1 := by omega
    generalize a / 2 ^ i % 2 = A at *
    generalize b / 2 ^ i % 2 = B at *
    unfold apB
    rcases hA with rfl | rfl
    · rfl
    · rw [if_pos rfl, if_pos (by rfl)]
      omega
  have k7 := key 7; have k6 := key 6; have k5 := key 5; have k4 := key 4; have k3 := key 3; have k2 := key 2; have k1 := key 1; have k0 := key 0
  simp only [show ((2 ^ 7 : Nat) : Int) = 128 from rfl, show ((2 ^ 6 : Nat) : Int) = 64 from rfl, show ((2 ^ 5 : Nat) : Int) = 32 from rfl, show ((2 ^ 4 : Nat) : Int) = 16 from rfl, show ((2 ^ 3 : Nat) : Int) = 8 from rfl, show ((2 ^ 2 : Nat) : Int) = 4 from rfl, show ((2 ^ 1 : Nat) : Int) = 2 from rfl, show ((2 ^ 0 : Nat) : Int) = 1 from rfl, Int.ediv_one] at k7 k6 k5 k4 k3 k2 k1 k0
  simp only [bits8, bB, List.map_cons, List.map_nil, List.zipWith_cons_cons, List.zipWith_nil_right, k7, k6, k5, k4, k3, k2, k1, k0]
theorem bits_val {x : Int} (h : By x) : ((List.zipWith (· * ·) (bits8 x) [128, 64, 32, 16, 8, 4, 2, 1]).sum) = x := by
  obtain ⟨h0, h1⟩ := h
  simp [bits8]
  omega
theorem bits_len (x : Int) : (bits8 x).length = 8 := rfl
theorem bits_01 (x : Int) : ∀ b ∈ bits8 x, b = 0 ∨ b = 1 := fun b hb => by
  simp only [bits8, List.mem_cons, List.not_mem_nil, or_false] at hb
  rcases hb with rfl | rfl | rfl | rfl | rfl | rfl | rfl | rfl <;> omega
/-! the rest: eight doublings -/
def rs1 (x : Int) : Int := if 256 ≤ x * 2 then Builtin.bitXor (x * 2 - 256) 7 else x * 2
def rsN : Nat → Int → Int
  | 0, x => x
  | n + 1, x => rsN n (rs1 x)
/-! the division, on which places are turned -/
def pst (P : List Bool) (k : Nat) : List Bool := if P.getD k false = true then (((P.set k (!P.getD k false)).set (k + 6) (!P.getD (k + 6) false)).set (k + 7) (!P.getD (k + 7) false)).set (k + 8) (!P.getD (k + 8) false) else P
def runP (a : List Bool) : List Bool := (List.range 8).foldl pst (a ++ List.replicate 8 false)
def okR (x : Int) : Bool := decide (0 ≤ rsN 8 x) && decide (rsN 8 x < 256) && decide (runP (bB x) = List.replicate 8 false ++ bB (rsN 8 x))
theorem okR_all : ∀ x : Fin 256, okR (x.val : Int) = true := by decide +kernel
theorem rest_by {x : Int} (hx : By x) : By (rsN 8 x) ∧ runP (bB x) = List.replicate 8 false ++ bB (rsN 8 x) := by
  obtain ⟨n, rfl, hn⟩ := by_nat hx
  have := okR_all ⟨n, hn⟩
  simp only [okR, Bool.and_eq_true, decide_eq_true_eq] at this
  exact ⟨⟨this.1.1, this.1.2⟩, this.2⟩
theorem rs1_by {x : Int} (hx : By x) : By (rs1 x) := by
  unfold rs1
  split
  · exact (xor_by ⟨by have := hx.1; have := hx.2; omega, by have := hx.2; omega⟩ ⟨by omega, by omega⟩).1
  · exact ⟨by have := hx.1; omega, by omega⟩
end Pf

namespace Pf
open PySem PySem.Spec L2 Dd
/-! ### spans_of -/
theorem ixN_last (n : Nat) : ixN (n + 1) (-1) = some n := by
  simp [ixN]; omega
theorem atI_last {α : Type} (a : List α) (x : α) : atI (a ++ [x]) (-1) = some x := by
  unfold atI
  rw [List.length_append, List.length_singleton, ixN_last]
  simp
theorem fit_of2 {n : Nat} (h : n ≤ 1000000) : fit n = true := decide_eq_true (by omega)
theorem set_last {α : Type} (a : List α) (x y : α) : (a ++ [x]).set a.length y = a ++ [y] := by
  rw [List.set_append_right _ _ (Nat.le_refl _), Nat.sub_self]; rfl
theorem at_pair {as : List Pr} {i : Nat} {a : Pr} (h : as[i]? = some a) : atI (as.map pairD) (i : Int) = some (.tuple [.int a.1, .int a.2]) := atI_nat' (by omega) (by
  rw [Int.toNat_natCast, List.getElem?_map, h]; rfl)
theorem both_len : ∀ (n : Nat) (a b : List Pr), a.length + b.length ≤ n → (bothP a b).length ≤ n
  | n, [], b, _ => by rw [both_nil]; exact Nat.zero_le _
  | n, a :: as, [], _ => by rw [both_nil2]; exact Nat.zero_le _
  | 0, a :: as, b :: bs, hn => by simp at hn
  | n + 1, a :: as, b :: bs, hn => by
    simp only [List.length_cons] at hn
    unfold bothP
    rw [List.length_append]
    have h1 : (if mxI a.1 b.1 < mnI a.2 b.2 then [(mxI a.1 b.1, mnI a.2 b.2)] else []).length ≤ 1 := by split <;> simp
    have h2 : (if a.2 < b.2 then bothP as (b :: bs) else bothP (a :: as) bs).length ≤ n := by
      split
      · exact both_len n as (b :: bs) (by simp only [List.length_cons]; omega)
      · exact both_len n (a :: as) bs (by simp only [List.length_cons]; omega)
    omega

def Bx (bs : List D) : Prop := ∃ a s c : Int, bs = [.int a, .int s, .int c]
theorem take_ok {bs : List D} {m : Int} (hb : Bx bs) (h0 : 0 < m) (h1 : m < 1152921504606846976) : ∃ r bs', fn__law_take bs [.int m] = some (.ok (.int r), bs') ∧ 0 ≤ r ∧ r < m ∧ Bx bs' := by
  obtain ⟨a, s, c, rfl⟩ := hb
  have hm : m.natAbs < 1152921504606846976 := by omega
  by_cases ha : 0 < a
  · refine ⟨a % m, [.int (a / m), .int s, .int c], ?_, Int.emod_nonneg _ (by omega), Int.emod_lt_of_pos _ h0, _, _, _, rfl⟩
    simp [fn__law_take, runB, m__law_take, env0B, mSeq, mIf, mBol, mBin, mBinL, mBind, mLift, mPure, mPeek, mVar, ixD, iI, bolD, mAsg, mCall1, mCallN, intD, modD, iIc, cMod, mStore, mStoreO, mDone, gSet, mOwn, mPut, setD, mRet, mDrop, mStuck, mTru, truD, mOrT, mAndT, mNotT, mAnd, mOr, mNot, mIsi, isiT_eq, typD, lenD, mCons, mTup, mLst, mLstN, mVal, oOr, addD, subD, mulD, mulI, iIc, cMul, ltD, leD, gtD, geD, gTupD, gCons2, gsNil, mCallV, mCallB, mRs, tupleD, mRetF, mChain, mScr, mScrLen, mScrIx, mMut, appD, max2D, min2D, mRng1, mRng2, rngD1, rngD2, rngOk, mItems, itemsD, mAsgN, mParEE, mParEN, mUn, negD, mCallN1, listD, unsE, powD, cPow, divD, cDiv, mFor, mSl, mSlL, slD, mNoPart, mPart, intO, mSlN, mSlNL, slN, mRevN, revO, mParNC, andD, orD, xorD, shrD, shlD, cShr, mStepN, mStepNL, stepO, mCatN, mCatNL, catN, atI, ixN, ha, h0, hm]
  · have hs : ∃ s' : Int, s' = ((s + 104729 * (c + 1)) * 69623) % 2147483647 * 48271 + 30103 := ⟨_, rfl⟩
    refine ⟨_, _, ?_, Int.emod_nonneg ((((s + 104729 * (c + 1)) * 69623) % 2147483647 * 2147483647 + ((((s + 104729 * (c + 1)) * 69623) % 2147483647 * 48271 + 30103) % 2147483629 + 1)) / 8191) (by omega : m ≠ 0), Int.emod_lt_of_pos _ h0, a, (((s + 104729 * (c + 1)) * 69623) % 2147483647 * 48271 + 30103) % 2147483629 + 1, c + 1, rfl⟩
    simp [fn__law_take, runB, m__law_take, env0B, mSeq, mIf, mBol, mBin, mBinL, mBind, mLift, mPure, mPeek, mVar, ixD, iI, bolD, mAsg, mCall1, mCallN, intD, modD, iIc, cMod, mStore, mStoreO, mDone, gSet, mOwn, mPut, setD, mRet, mDrop, mStuck, mTru, truD, mOrT, mAndT, mNotT, mAnd, mOr, mNot, mIsi, isiT_eq, typD, lenD, mCons, mTup, mLst, mLstN, mVal, oOr, addD, subD, mulD, mulI, iIc, cMul, ltD, leD, gtD, geD, gTupD, gCons2, gsNil, mCallV, mCallB, mRs, tupleD, mRetF, mChain, mScr, mScrLen, mScrIx, mMut, appD, max2D, min2D, mRng1, mRng2, rngD1, rngD2, rngOk, mItems, itemsD, mAsgN, mParEE, mParEN, mUn, negD, mCallN1, listD, unsE, powD, cPow, divD, cDiv, mFor, mSl, mSlL, slD, mNoPart, mPart, intO, mSlN, mSlNL, slN, mRevN, revO, mParNC, andD, orD, xorD, shrD, shlD, cShr, mStepN, mStepNL, stepO, mCatN, mCatNL, catN, atI, ixN, ha, h0, hm]
theorem ix_in {ds : List D} {r : Int} (h0 : 0 ≤ r) (h1 : r < ds.length) : ∃ d ∈ ds, atI ds r = some d := by
  have h : r.toNat < ds.length := by omega
  exact ⟨ds[r.toNat], List.getElem_mem h, atI_nat' h0 (List.getElem?_eq_getElem h)⟩
theorem atI_ints {ns : List Int} {k : Int} (h0 : 0 ≤ k) (h1 : k < ns.length) : ∃ v, atI ns k = some v := by
  have h : k.toNat < ns.length := by omega
  exact ⟨ns[k.toNat], atI_nat' h0 (List.getElem?_eq_getElem h)⟩
theorem box_ok (ns : List Int) (k : Int) (h0 : 0 ≤ k) (h1 : k < 1000) : ∃ bs, fn__law_box ns [.int k] = some (.ok bs) ∧ Bx bs := by
  have hk : (k.natAbs < 18446744073709551616) := by omega
  have z0 : ∀ v, atI [PyData.int 0, .int v] 0 = some (.int 0) := fun _ => rfl
  have z1 : ∀ v, atI [PyData.int 0, .int v] 1 = some (.int v) := fun _ => rfl
  by_cases h : k < ns.length
  · obtain ⟨v, e⟩ := atI_ints h0 h
    by_cases hv : 1000000000000000000 ≤ v <;> simp [fn__law_box, runS, m__law_box, env0S, mSeq, mIf, mBol, mBin, mBinL, mBind, mLift, mPure, mPeek, mVar, ixD, iI, bolD, mAsg, mCall1, mCallN, intD, modD, iIc, cMod, mStore, mStoreO, mDone, gSet, mOwn, mPut, setD, mRet, mDrop, mStuck, mTru, truD, mOrT, mAndT, mNotT, mAnd, mOr, mNot, mIsi, isiT_eq, typD, lenD, mCons, mTup, mLst, mLstN, mVal, oOr, addD, subD, mulD, mulI, iIc, cMul, ltD, leD, gtD, geD, gTupD, gCons2, gsNil, mCallV, mCallB, mRs, tupleD, mRetF, mChain, mScr, mScrLen, mScrIx, mMut, appD, max2D, min2D, mRng1, mRng2, rngD1, rngD2, rngOk, mItems, itemsD, mAsgN, mParEE, mParEN, mUn, negD, mCallN1, listD, unsE, powD, cPow, divD, cDiv, mFor, mSl, mSlL, slD, mNoPart, mPart, intO, mSlN, mSlNL, slN, mRevN, revO, mParNC, andD, orD, xorD, shrD, shlD, cShr, mStepN, mStepNL, stepO, mCatN, mCatNL, catN, hk, h, e, hv, fit, z0, z1] <;> exact ⟨_, _, _, rfl⟩
  · by_cases hn : 0 < ns.length
    · have q0 : 0 ≤ k % (ns.length : Int) := Int.emod_nonneg _ (by omega)
      have q1 : k % (ns.length : Int) < ns.length := Int.emod_lt_of_pos _ (by omega)
      obtain ⟨v, e⟩ := atI_ints q0 q1
      by_cases hv : 1000000000000000000 ≤ 5717 * k + 23 + v % 2147483629 * 69623 <;> simp [fn__law_box, runS, m__law_box, env0S, mSeq, mIf, mBol, mBin, mBinL, mBind, mLift, mPure, mPeek, mVar, ixD, iI, bolD, mAsg, mCall1, mCallN, intD, modD, iIc, cMod, mStore, mStoreO, mDone, gSet, mOwn, mPut, setD, mRet, mDrop, mStuck, mTru, truD, mOrT, mAndT, mNotT, mAnd, mOr, mNot, mIsi, isiT_eq, typD, lenD, mCons, mTup, mLst, mLstN, mVal, oOr, addD, subD, mulD, mulI, iIc, cMul, ltD, leD, gtD, geD, gTupD, gCons2, gsNil, mCallV, mCallB, mRs, tupleD, mRetF, mChain, mScr, mScrLen, mScrIx, mMut, appD, max2D, min2D, mRng1, mRng2, rngD1, rngD2, rngOk, mItems, itemsD, mAsgN, mParEE, mParEN, mUn, negD, mCallN1, listD, unsE, powD, cPow, divD, cDiv, mFor, mSl, mSlL, slD, mNoPart, mPart, intO, mSlN, mSlNL, slN, mRevN, revO, mParNC, andD, orD, xorD, shrD, shlD, cShr, mStepN, mStepNL, stepO, mCatN, mCatNL, catN, hk, h, hn, e, hv, fit, z0, z1] <;> exact ⟨_, _, _, rfl⟩
    · by_cases hv : 1000000000000000000 ≤ 5717 * k + 23 <;> simp [fn__law_box, runS, m__law_box, env0S, mSeq, mIf, mBol, mBin, mBinL, mBind, mLift, mPure, mPeek, mVar, ixD, iI, bolD, mAsg, mCall1, mCallN, intD, modD, iIc, cMod, mStore, mStoreO, mDone, gSet, mOwn, mPut, setD, mRet, mDrop, mStuck, mTru, truD, mOrT, mAndT, mNotT, mAnd, mOr, mNot, mIsi, isiT_eq, typD, lenD, mCons, mTup, mLst, mLstN, mVal, oOr, addD, subD, mulD, mulI, iIc, cMul, ltD, leD, gtD, geD, gTupD, gCons2, gsNil, mCallV, mCallB, mRs, tupleD, mRetF, mChain, mScr, mScrLen, mScrIx, mMut, appD, max2D, min2D, mRng1, mRng2, rngD1, rngD2, rngOk, mItems, itemsD, mAsgN, mParEE, mParEN, mUn, negD, mCallN1, listD, unsE, powD, cPow, divD, cDiv, mFor, mSl, mSlL, slD, mNoPart, mPart, intO, mSlN, mSlNL, slN, mRevN, revO, mParNC, andD, orD, xorD, shrD, shlD, cShr, mStepN, mStepNL, stepO, mCatN, mCatNL, catN, hk, h, hn, hv, fit, z0, z1] <;> exact ⟨_, _, _, rfl⟩

/-! ### alike -/
theorem eqv_int (a : Int) : PyData.eqv (.int a) (.int a) = true := by simp [PyData.eqv]
theorem strOk_of (s : String) : PyData.strOk (Str.ofString s) = true := by
  unfold PyData.strOk
  rw [PySem.Str.ofString_eq_toList, Array.all_eq_true_iff_forall_mem]
  intro c hc
  simp at hc
  obtain ⟨x, _, rfl⟩ := hc
  have := x.valid
  refine decide_eq_true ?_
  show x.val.toNat < 1114112
  rcases this with h | h <;> omega
theorem sh_str (s : String) : SeqAt.shaped (.str (Str.ofString s)) = true := by simp [SeqAt.shaped, PyData.canLay0, PyData.depth, strOk_of]
theorem ne_bool (a b : Bool) : neD (.bool a) (.bool b) = some (.bool (!decide (a = b))) := by
  have e : PyData.eqv (.bool a) (.bool b) = decide (a = b) := by cases a <;> cases b <;> decide +kernel
  simp [neD, sh_bool, e]
theorem eq_str (s : String) : eqD (.str (Str.ofString s)) (.str (Str.ofString s)) = some (.bool true) := by
  have e : PyData.eqv (.str (Str.ofString s)) (.str (Str.ofString s)) = true := by simp [PyData.eqv]
  simp [eqD, sh_str, e]
theorem alike_int (n : Nat) (a : Int) : fn__law_alike (n + 1) [.int a, .int a] = some (.ok (.bool true)) := by
  simp [fn__law_alike, runV, m__law_alike, env0, mSeq, mIf, mBol, mBin, mBinL, mBind, mLift, mPure, mPeek, mVar, ixD, iI, bolD, mAsg, mCall1, mCallN, intD, modD, iIc, cMod, mStore, mStoreO, mDone, gSet, mOwn, mPut, setD, mRet, mDrop, mStuck, mTru, truD, mOrT, mAndT, mNotT, mAnd, mOr, mNot, mIsi, isiT_eq, typD, lenD, mCons, mTup, mLst, mLstN, mVal, oOr, addD, subD, mulD, mulI, iIc, cMul, ltD, leD, gtD, geD, gTupD, gCons2, gsNil, mCallV, mCallB, mRs, tupleD, mRetF, mChain, mScr, mScrLen, mScrIx, mMut, appD, max2D, min2D, mRng1, mRng2, rngD1, rngD2, rngOk, mItems, itemsD, mAsgN, mParEE, mParEN, mUn, negD, mCallN1, listD, unsE, powD, cPow, divD, cDiv, mFor, mSl, mSlL, slD, mNoPart, mPart, intO, mSlN, mSlNL, slN, mRevN, revO, mParNC, andD, orD, xorD, shrD, shlD, cShr, mStepN, mStepNL, stepO, mCatN, mCatNL, catN, isi_int_NoneType, isi_int_bool, isi_int_int, isi_int_str, isi_int_list, isi_int_tuple, isi_int_dict, isi_bool_NoneType, isi_bool_bool, isi_bool_int, isi_bool_str, isi_bool_list, isi_bool_tuple, isi_bool_dict, isi_str_NoneType, isi_str_bool, isi_str_int, isi_str_str, isi_str_list, isi_str_tuple, isi_str_dict, isi_list_NoneType, isi_list_bool, isi_list_int, isi_list_str, isi_list_list, isi_list_tuple, isi_list_dict, isi_tuple_NoneType, isi_tuple_bool, isi_tuple_int, isi_tuple_str, isi_tuple_list, isi_tuple_tuple, isi_tuple_dict, isi_dict_NoneType, isi_dict_bool, isi_dict_int, isi_dict_str, isi_dict_list, isi_dict_tuple, isi_dict_dict, mIsiA, isiA, ne_bool, eq_int]
theorem zip_self_mem {xs : List D} {d : D} (h : d ∈ zipL xs xs) : ∃ x ∈ xs, d = .tuple [x, x] := by
  obtain ⟨i, hi⟩ := List.getElem?_of_mem h
  obtain ⟨y, z, h1, h2, rfl⟩ := zipL_get hi
  rw [h1] at h2
  cases h2
  exact ⟨y, List.mem_of_getElem? h1, rfl⟩
theorem alike_tup (rec : List D → Option (Rs D)) (xs : List D) (hl : xs.length ≤ 1000000) (h : ∀ x ∈ xs, rec [x, x] = some (.ok (.bool true))) : runV (m__law_alike rec) 5 [.tuple xs, .tuple xs] = some (.ok (.bool true)) := by
  have hzl : (zipL xs xs).length ≤ 1000000 := by unfold zipL; rw [List.length_zipWith, Nat.min_self]; exact hl
  have h1 : C__law_alike_0 rec [.val (.tuple xs), .val (.tuple xs), .un, .un, .un] = some (.ok ((zipL xs xs).map fun _ => .bool true) [.val (.tuple xs), .val (.tuple xs), .un, .un, .un]) := by
    refine comp_is (ds := zipL xs xs) (ρ1 := [.val (.tuple xs), .val (.tuple xs), .un, .un, .un]) (ρe := [.val (.tuple xs), .val (.tuple xs), .un, .un, .un]) (by simp [mZip, zipD, mSeq, mIf, mBol, mBin, mBinL, mBind, mLift, mPure, mPeek, mVar, ixD, iI, bolD, mAsg, mCall1, mCallN, intD, modD, iIc, cMod, mStore, mStoreO, mDone, gSet, mOwn, mPut, setD, mRet, mDrop, mStuck, mTru, truD, mOrT, mAndT, mNotT, mAnd, mOr, mNot, mIsi, isiT_eq, typD, lenD, mCons, mTup, mLst, mLstN, mVal, oOr, addD, subD, mulD, mulI, iIc, cMul, ltD, leD, gtD, geD, gTupD, gCons2, gsNil, mCallV, mCallB, mRs, tupleD, mRetF, mChain, mScr, mScrLen, mScrIx, mMut, appD, max2D, min2D, mRng1, mRng2, rngD1, rngD2, rngOk, mItems, itemsD, mAsgN, mParEE, mParEN, mUn, negD, mCallN1, listD, unsE, powD, cPow, divD, cDiv, mFor, mSl, mSlL, slD, mNoPart, mPart, intO, mSlN, mSlNL, slN, mRevN, revO, mParNC, andD, orD, xorD, shrD, shlD, cShr, mStepN, mStepNL, stepO, mCatN, mCatNL, catN]) (fit_of2 hzl) ?_
    refine go_map _ fun d hd => ?_
    obtain ⟨x, hx, rfl⟩ := zip_self_mem hd
    refine ⟨[.val (.tuple xs), .val (.tuple xs), .un, .val x, .val x], [.val (.tuple xs), .val (.tuple xs), .un, .val x, .val x], by simp [mSeq, mIf, mBol, mBin, mBinL, mBind, mLift, mPure, mPeek, mVar, ixD, iI, bolD, mAsg, mCall1, mCallN, intD, modD, iIc, cMod, mStore, mStoreO, mDone, gSet, mOwn, mPut, setD, mRet, mDrop, mStuck, mTru, truD, mOrT, mAndT, mNotT, mAnd, mOr, mNot, mIsi, isiT_eq, typD, lenD, mCons, mTup, mLst, mLstN, mVal, oOr, addD, subD, mulD, mulI, iIc, cMul, ltD, leD, gtD, geD, gTupD, gCons2, gsNil, mCallV, mCallB, mRs, tupleD, mRetF, mChain, mScr, mScrLen, mScrIx, mMut, appD, max2D, min2D, mRng1, mRng2, rngD1, rngD2, rngOk, mItems, itemsD, mAsgN, mParEE, mParEN, mUn, negD, mCallN1, listD, unsE, powD, cPow, divD, cDiv, mFor, mSl, mSlL, slD, mNoPart, mPart, intO, mSlN, mSlNL, slN, mRevN, revO, mParNC, andD, orD, xorD, shrD, shlD, cShr, mStepN, mStepNL, stepO, mCatN, mCatNL, catN, gNamesD], by simp [mSeq, mIf, mBol, mBin, mBinL, mBind, mLift, mPure, mPeek, mVar, ixD, iI, bolD, mAsg, mCall1, mCallN, intD, modD, iIc, cMod, mStore, mStoreO, mDone, gSet, mOwn, mPut, setD, mRet, mDrop, mStuck, mTru, truD, mOrT, mAndT, mNotT, mAnd, mOr, mNot, mIsi, isiT_eq, typD, lenD, mCons, mTup, mLst, mLstN, mVal, oOr, addD, subD, mulD, mulI, iIc, cMul, ltD, leD, gtD, geD, gTupD, gCons2, gsNil, mCallV, mCallB, mRs, tupleD, mRetF, mChain, mScr, mScrLen, mScrIx, mMut, appD, max2D, min2D, mRng1, mRng2, rngD1, rngD2, rngOk, mItems, itemsD, mAsgN, mParEE, mParEN, mUn, negD, mCallN1, listD, unsE, powD, cPow, divD, cDiv, mFor, mSl, mSlL, slD, mNoPart, mPart, intO, mSlN, mSlNL, slN, mRevN, revO, mParNC, andD, orD, xorD, shrD, shlD, cShr, mStepN, mStepNL, stepO, mCatN, mCatNL, catN, h x hx], by simp [unsE]⟩
  have h2 := allD_mapf (fun _ : D => true) (zipL xs xs)
  have h3 : (zipL xs xs).all (fun _ => true) = true := by simp
  rw [h3] at h2
  simp [runV, m__law_alike, env0, mSeq, mIf, mBol, mBin, mBinL, mBind, mLift, mPure, mPeek, mVar, ixD, iI, bolD, mAsg, mCall1, mCallN, intD, modD, iIc, cMod, mStore, mStoreO, mDone, gSet, mOwn, mPut, setD, mRet, mDrop, mStuck, mTru, truD, mOrT, mAndT, mNotT, mAnd, mOr, mNot, mIsi, isiT_eq, typD, lenD, mCons, mTup, mLst, mLstN, mVal, oOr, addD, subD, mulD, mulI, iIc, cMul, ltD, leD, gtD, geD, gTupD, gCons2, gsNil, mCallV, mCallB, mRs, tupleD, mRetF, mChain, mScr, mScrLen, mScrIx, mMut, appD, max2D, min2D, mRng1, mRng2, rngD1, rngD2, rngOk, mItems, itemsD, mAsgN, mParEE, mParEN, mUn, negD, mCallN1, listD, unsE, powD, cPow, divD, cDiv, mFor, mSl, mSlL, slD, mNoPart, mPart, intO, mSlN, mSlNL, slN, mRevN, revO, mParNC, andD, orD, xorD, shrD, shlD, cShr, mStepN, mStepNL, stepO, mCatN, mCatNL, catN, isi_int_NoneType, isi_int_bool, isi_int_int, isi_int_str, isi_int_list, isi_int_tuple, isi_int_dict, isi_bool_NoneType, isi_bool_bool, isi_bool_int, isi_bool_str, isi_bool_list, isi_bool_tuple, isi_bool_dict, isi_str_NoneType, isi_str_bool, isi_str_int, isi_str_str, isi_str_list, isi_str_tuple, isi_str_dict, isi_list_NoneType, isi_list_bool, isi_list_int, isi_list_str, isi_list_list, isi_list_tuple, isi_list_dict, isi_tuple_NoneType, isi_tuple_bool, isi_tuple_int, isi_tuple_str, isi_tuple_list, isi_tuple_tuple, isi_tuple_dict, isi_dict_NoneType, isi_dict_bool, isi_dict_int, isi_dict_str, isi_dict_list, isi_dict_tuple, isi_dict_dict, mIsiA, isiA, ne_bool, eq_int, h1, h2]
theorem alike_lst (rec : List D → Option (Rs D)) (xs : List D) (hl : xs.length ≤ 1000000) (h : ∀ x ∈ xs, rec [x, x] = some (.ok (.bool true))) : runV (m__law_alike rec) 5 [.list xs, .list xs] = some (.ok (.bool true)) := by
  have hzl : (zipL xs xs).length ≤ 1000000 := by unfold zipL; rw [List.length_zipWith, Nat.min_self]; exact hl
  have h1 : C__law_alike_0 rec [.val (.list xs), .val (.list xs), .un, .un, .un] = some (.ok ((zipL xs xs).map fun _ => .bool true) [.val (.list xs), .val (.list xs), .un, .un, .un]) := by
    refine comp_is (ds := zipL xs xs) (ρ1 := [.val (.list xs), .val (.list xs), .un, .un, .un]) (ρe := [.val (.list xs), .val (.list xs), .un, .un, .un]) (by simp [mZip, zipD, mSeq, mIf, mBol, mBin, mBinL, mBind, mLift, mPure, mPeek, mVar, ixD, iI, bolD, mAsg, mCall1, mCallN, intD, modD, iIc, cMod, mStore, mStoreO, mDone, gSet, mOwn, mPut, setD, mRet, mDrop, mStuck, mTru, truD, mOrT, mAndT, mNotT, mAnd, mOr, mNot, mIsi, isiT_eq, typD, lenD, mCons, mTup, mLst, mLstN, mVal, oOr, addD, subD, mulD, mulI, iIc, cMul, ltD, leD, gtD, geD, gTupD, gCons2, gsNil, mCallV, mCallB, mRs, tupleD, mRetF, mChain, mScr, mScrLen, mScrIx, mMut, appD, max2D, min2D, mRng1, mRng2, rngD1, rngD2, rngOk, mItems, itemsD, mAsgN, mParEE, mParEN, mUn, negD, mCallN1, listD, unsE, powD, cPow, divD, cDiv, mFor, mSl, mSlL, slD, mNoPart, mPart, intO, mSlN, mSlNL, slN, mRevN, revO, mParNC, andD, orD, xorD, shrD, shlD, cShr, mStepN, mStepNL, stepO, mCatN, mCatNL, catN]) (fit_of2 hzl) ?_
    refine go_map _ fun d hd => ?_
    obtain ⟨x, hx, rfl⟩ := zip_self_mem hd
    refine ⟨[.val (.list xs), .val (.list xs), .un, .val x, .val x], [.val (.list xs), .val (.list xs), .un, .val x, .val x], by simp [mSeq, mIf, mBol, mBin, mBinL, mBind, mLift, mPure, mPeek, mVar, ixD, iI, bolD, mAsg, mCall1, mCallN, intD, modD, iIc, cMod, mStore, mStoreO, mDone, gSet, mOwn, mPut, setD, mRet, mDrop, mStuck, mTru, truD, mOrT, mAndT, mNotT, mAnd, mOr, mNot, mIsi, isiT_eq, typD, lenD, mCons, mTup, mLst, mLstN, mVal, oOr, addD, subD, mulD, mulI, iIc, cMul, ltD, leD, gtD, geD, gTupD, gCons2, gsNil, mCallV, mCallB, mRs, tupleD, mRetF, mChain, mScr, mScrLen, mScrIx, mMut, appD, max2D, min2D, mRng1, mRng2, rngD1, rngD2, rngOk, mItems, itemsD, mAsgN, mParEE, mParEN, mUn, negD, mCallN1, listD, unsE, powD, cPow, divD, cDiv, mFor, mSl, mSlL, slD, mNoPart, mPart, intO, mSlN, mSlNL, slN, mRevN, revO, mParNC, andD, orD, xorD, shrD, shlD, cShr, mStepN, mStepNL, stepO, mCatN, mCatNL, catN, gNamesD], by simp [mSeq, mIf, mBol, mBin, mBinL, mBind, mLift, mPure, mPeek, mVar, ixD, iI, bolD, mAsg, mCall1, mCallN, intD, modD, iIc, cMod, mStore, mStoreO, mDone, gSet, mOwn, mPut, setD, mRet, mDrop, mStuck, mTru, truD, mOrT, mAndT, mNotT, mAnd, mOr, mNot, mIsi, isiT_eq, typD, lenD, mCons, mTup, mLst, mLstN, mVal, oOr, addD, subD, mulD, mulI, iIc, cMul, ltD, leD, gtD, geD, gTupD, gCons2, gsNil, mCallV, mCallB, mRs, tupleD, mRetF, mChain, mScr, mScrLen, mScrIx, mMut, appD, max2D, min2D, mRng1, mRng2, rngD1, rngD2, rngOk, mItems, itemsD, mAsgN, mParEE, mParEN, mUn, negD, mCallN1, listD, unsE, powD, cPow, divD, cDiv, mFor, mSl, mSlL, slD, mNoPart, mPart, intO, mSlN, mSlNL, slN, mRevN, revO, mParNC, andD, orD, xorD, shrD, shlD, cShr, mStepN, mStepNL, stepO, mCatN, mCatNL, catN, h x hx], by simp [unsE]⟩
  have h2 := allD_mapf (fun _ : D => true) (zipL xs xs)
  have h3 : (zipL xs xs).all (fun _ => true) = true := by simp
  rw [h3] at h2
  simp [runV, m__law_alike, env0, mSeq, mIf, mBol, mBin, mBinL, mBind, mLift, mPure, mPeek, mVar, ixD, iI, bolD, mAsg, mCall1, mCallN, intD, modD, iIc, cMod, mStore, mStoreO, mDone, gSet, mOwn, mPut, setD, mRet, mDrop, mStuck, mTru, truD, mOrT, mAndT, mNotT, mAnd, mOr, mNot, mIsi, isiT_eq, typD, lenD, mCons, mTup, mLst, mLstN, mVal, oOr, addD, subD, mulD, mulI, iIc, cMul, ltD, leD, gtD, geD, gTupD, gCons2, gsNil, mCallV, mCallB, mRs, tupleD, mRetF, mChain, mScr, mScrLen, mScrIx, mMut, appD, max2D, min2D, mRng1, mRng2, rngD1, rngD2, rngOk, mItems, itemsD, mAsgN, mParEE, mParEN, mUn, negD, mCallN1, listD, unsE, powD, cPow, divD, cDiv, mFor, mSl, mSlL, slD, mNoPart, mPart, intO, mSlN, mSlNL, slN, mRevN, revO, mParNC, andD, orD, xorD, shrD, shlD, cShr, mStepN, mStepNL, stepO, mCatN, mCatNL, catN, isi_int_NoneType, isi_int_bool, isi_int_int, isi_int_str, isi_int_list, isi_int_tuple, isi_int_dict, isi_bool_NoneType, isi_bool_bool, isi_bool_int, isi_bool_str, isi_bool_list, isi_bool_tuple, isi_bool_dict, isi_str_NoneType, isi_str_bool, isi_str_int, isi_str_str, isi_str_list, isi_str_tuple, isi_str_dict, isi_list_NoneType, isi_list_bool, isi_list_int, isi_list_str, isi_list_list, isi_list_tuple, isi_list_dict, isi_tuple_NoneType, isi_tuple_bool, isi_tuple_int, isi_tuple_str, isi_tuple_list, isi_tuple_tuple, isi_tuple_dict, isi_dict_NoneType, isi_dict_bool, isi_dict_int, isi_dict_str, isi_dict_list, isi_dict_tuple, isi_dict_dict, mIsiA, isiA, ne_bool, eq_int, h1, h2]
theorem alike_spans (n : Nat) (ss : List Pr) (hl : ss.length ≤ 1000000) : fn__law_alike (n + 3) [.tuple (ss.map pairD), .tuple (ss.map pairD)] = some (.ok (.bool true)) := by
  refine alike_tup (fn__law_alike (n + 2)) (ss.map pairD) (by rw [List.length_map]; exact hl) fun x hx => ?_
  obtain ⟨⟨a, b⟩, _, rfl⟩ := List.mem_map.mp hx
  refine alike_tup (fn__law_alike (n + 1)) [.int a, .int b] (by simp) fun x hx => ?_
  simp only [List.mem_cons, List.not_mem_nil, or_false] at hx
  rcases hx with rfl | rfl
  · exact alike_int n _
  · exact alike_int n _
/-! ### pairs as the law makes them -/

theorem pick3 {a b c r : Int} (h0 : 0 ≤ r) (h1 : r < 3) : ∃ m, atI [PyData.int a, .int b, .int c] r = some (.int m) ∧ (m = a ∨ m = b ∨ m = c) := by
  obtain ⟨d, hd, e⟩ := ix_in (ds := [PyData.int a, .int b, .int c]) h0 (by simpa using h1)
  simp at hd
  rcases hd with rfl | rfl | rfl
  · exact ⟨_, e, .inl rfl⟩
  · exact ⟨_, e, .inr (.inl rfl)⟩
  · exact ⟨_, e, .inr (.inr rfl)⟩
theorem pick4 {a b c d r : Int} (h0 : 0 ≤ r) (h1 : r < 4) : ∃ m, atI [PyData.int a, .int b, .int c, .int d] r = some (.int m) ∧ (m = a ∨ m = b ∨ m = c ∨ m = d) := by
  obtain ⟨x, hd, e⟩ := ix_in (ds := [PyData.int a, .int b, .int c, .int d]) h0 (by simpa using h1)
  simp only [List.mem_cons, List.not_mem_nil, or_false] at hd
  rcases hd with rfl | rfl | rfl | rfl
  · exact ⟨_, e, .inl rfl⟩
  · exact ⟨_, e, .inr (.inl rfl)⟩
  · exact ⟨_, e, .inr (.inr (.inl rfl))⟩
  · exact ⟨_, e, .inr (.inr (.inr rfl))⟩
theorem go_mapA {α : Type} {vs : List Nat} {g : D → M Unit} {te : M D} {ρ : En} (N O : α → D) : ∀ (as : List α), (∀ a ∈ as, ∃ ρ1 ρ3, g (N a) ρ = some (.ok () ρ1) ∧ te ρ1 = some (.ok (O a) ρ3) ∧ unsE ρ3 vs = ρ) → mGo vs g (mPure true) te (as.map N) ρ = some (.ok (as.map O) ρ)
  | [], _ => rfl
  | a :: as, h => by
    obtain ⟨ρ1, ρ3, e1, e2, e3⟩ := h a List.mem_cons_self
    have ih := go_mapA N O as fun x hx => h x (List.mem_cons_of_mem _ hx)
    have t1 : (mPure true : M Bool) ρ1 = some (.ok true ρ1) := rfl
    have e5 : (mBind te fun y => mPure [y]) ρ1 = some (.ok [O a] ρ3) := by rw [bind_is e2]; rfl
    have e6 : mUn_ vs ρ3 = some (.ok () ρ) := by unfold mUn_; rw [e3]
    rw [List.map_cons]
    unfold mGo
    rw [bind_is e1, bind_is t1, if_pos rfl, bind_is e5, bind_is e6, bind_is ih]; rfl
theorem fold_len : ∀ (qs F : List Pr), (qs.foldl stepS F).length ≤ F.length + qs.length
  | [], F => Nat.le_refl _
  | q :: qs, F => by
    have h := fold_len qs (stepS F q)
    have h2 := step_len F q
    show (qs.foldl stepS (stepS F q)).length ≤ _
    simp only [List.length_cons]
    omega
theorem spans_len (ps : List Pr) : (spansP ps).length ≤ ps.length := by
  have h := fold_len (sortP ps) []
  have := (sortP_perm ps).length_eq
  show ((sortP ps).foldl stepS []).length ≤ _
  simp only [List.length_nil] at h
  omega
theorem others_len (below : Int) : ∀ (ss : List Pr) (a : Int), (othersP below a ss).length ≤ ss.length + 1
  | [], a => by unfold othersP; split <;> simp
  | s :: ss, a => by
    have h := others_len below ss s.2
    unfold othersP
    rw [List.length_append, List.length_cons]
    have h1 : (if a < mnI s.1 below then [(a, mnI s.1 below)] else []).length ≤ 1 := by split <;> simp
    omega
theorem eqv_pairs (ps : List Pr) : PyData.eqvAll (ps.map pairD) (ps.map pairD) = true := eqvAll_refl _ fun d hd => by
  obtain ⟨p, _, rfl⟩ := List.mem_map.mp hd
  simp [pairD, PyData.eqv, PyData.eqvAll]
theorem sh_pair (p : Pr) : Sh 1 (pairD p) := Sh.tuple fun d hd => by
  simp only [List.mem_cons, List.not_mem_nil, or_false] at hd
  rcases hd with rfl | rfl <;> exact Sh.int _
theorem sh_pairs (ps : List Pr) : Sh 2 (.list (ps.map pairD)) := Sh.list fun d hd => by
  obtain ⟨p, _, rfl⟩ := List.mem_map.mp hd
  exact sh_pair p
theorem eq_tp (as : List Pr) : eqD (.tuple (as.map pairD)) (.tuple (as.map pairD)) = some (.bool true) := by
  have h : Sh 2 (.tuple (as.map pairD)) := Sh.tuple fun d hd => by
    obtain ⟨p, _, rfl⟩ := List.mem_map.mp hd
    exact sh_pair p
  rw [eq_sh h h (by omega) (by omega)]
  simp [PyData.eqv, eqv_pairs]
theorem ne_tp (as : List Pr) : neD (.tuple (as.map pairD)) (.tuple (as.map pairD)) = some (.bool false) := by
  have h : Sh 2 (.tuple (as.map pairD)) := Sh.tuple fun d hd => by
    obtain ⟨p, _, rfl⟩ := List.mem_map.mp hd
    exact sh_pair p
  rw [ne_sh h h (by omega) (by omega)]
  simp [PyData.eqv, eqv_pairs]
theorem both_len2 (a b : List Pr) : (bothP a b).length ≤ a.length + b.length := both_len _ a b (Nat.le_refl _)
theorem worn_len (n : Int) (ss : List Pr) : (wornP n ss).length ≤ ss.length := by
  unfold wornP; rw [List.length_map]; exact List.length_filter_le _ _
theorem later_len (n : Int) (ss : List Pr) : (laterP n ss).length = ss.length := by
  unfold laterP; rw [List.length_map]
theorem grown_len (n : Int) (ss : List Pr) : (grownP n ss).length ≤ ss.length := by
  have := spans_len (ss.map fun s : Pr => (s.1, s.2 + n))
  rw [List.length_map] at this
  exact this
/-- a comprehension whose turns change the box -/
theorem go_box {vs : List Nat} {g : D → M Unit} {te : M D} (E : List D → En) (P : D → Prop) : ∀ (xs : List D) (bs : List D), Bx bs →
    (∀ x ∈ xs, ∀ bs, Bx bs → ∃ y bs' ρ1 ρ3, P y ∧ Bx bs' ∧ g x (E bs) = some (.ok () ρ1) ∧ te ρ1 = some (.ok y ρ3) ∧ unsE ρ3 vs = E bs') →
    ∃ ys bs', Bx bs' ∧ (∀ y ∈ ys, P y) ∧ ys.length = xs.length ∧ mGo vs g (mPure true) te xs (E bs) = some (.ok ys (E bs'))
  | [], bs, hb, _ => ⟨[], bs, hb, fun _ h => (by cases h), rfl, rfl⟩
  | x :: xs, bs, hb, h => by
    obtain ⟨y, bs1, ρ1, ρ3, p, hb1, e1, e2, e3⟩ := h x List.mem_cons_self bs hb
    obtain ⟨ys, bs', hb', q, l, ih⟩ := go_box E P xs bs1 hb1 fun z hz => h z (List.mem_cons_of_mem _ hz)
    refine ⟨y :: ys, bs', hb', fun z hz => (List.mem_cons.mp hz).elim (fun e => e ▸ p) (q z), by rw [List.length_cons, List.length_cons, l], ?_⟩
    have t1 : (mPure true : M Bool) ρ1 = some (.ok true ρ1) := rfl
    have e5 : (mBind te fun y => mPure [y]) ρ1 = some (.ok [y] ρ3) := by rw [bind_is e2]; rfl
    have e6 : mUn_ vs ρ3 = some (.ok () (E bs')) ∨ mUn_ vs ρ3 = some (.ok () (E bs1)) := .inr (by unfold mUn_; rw [e3])
    have e6 : mUn_ vs ρ3 = some (.ok () (E bs1)) := by unfold mUn_; rw [e3]
    unfold mGo
    rw [bind_is e1, bind_is t1, if_pos rfl, bind_is e5, bind_is e6, bind_is ih]; rfl
theorem rngL_len (n : Nat) : (rngL 0 (n : Int)).length = n := by rw [rngL_length]; omega

/-! ### any plain value is alike to itself -/
inductive Alk : Nat → D → Prop
  | int (n : Nat) (i : Int) : Alk n (.int i)
  | bool (n : Nat) (b : Bool) : Alk n (.bool b)
  | str (n : Nat) (s : String) : Alk n (.str (Str.ofString s))
  | tup (n : Nat) (ds : List D) : ds.length ≤ 1000000 → (∀ d ∈ ds, Alk n d) → Alk (n + 1) (.tuple ds)
  | lst (n : Nat) (ds : List D) : ds.length ≤ 1000000 → (∀ d ∈ ds, Alk n d) → Alk (n + 1) (.list ds)
theorem eq_bool (a : Bool) : eqD (.bool a) (.bool a) = some (.bool true) := by
  have e : PyData.eqv (.bool a) (.bool a) = true := by cases a <;> decide +kernel
  simp [eqD, sh_bool, e]
theorem alike_boolv (n : Nat) (a : Bool) : fn__law_alike (n + 1) [.bool a, .bool a] = some (.ok (.bool true)) := by
  simp [fn__law_alike, runV, m__law_alike, env0, mSeq, mIf, mBol, mBin, mBinL, mBind, mLift, mPure, mPeek, mVar, ixD, iI, bolD, mAsg, mCall1, mCallN, intD, modD, iIc, cMod, mStore, mStoreO, mDone, gSet, mOwn, mPut, setD, mRet, mDrop, mStuck, mTru, truD, mOrT, mAndT, mNotT, mAnd, mOr, mNot, mIsi, isiT_eq, typD, lenD, mCons, mTup, mLst, mLstN, mVal, oOr, addD, subD, mulD, mulI, iIc, cMul, ltD, leD, gtD, geD, gTupD, gCons2, gsNil, mCallV, mCallB, mRs, tupleD, mRetF, mChain, mScr, mScrLen, mScrIx, mMut, appD, max2D, min2D, mRng1, mRng2, rngD1, rngD2, rngOk, mItems, itemsD, mAsgN, mParEE, mParEN, mUn, negD, mCallN1, listD, unsE, powD, cPow, divD, cDiv, mFor, mSl, mSlL, slD, mNoPart, mPart, intO, mSlN, mSlNL, slN, mRevN, revO, mParNC, andD, orD, xorD, shrD, shlD, cShr, mStepN, mStepNL, stepO, mCatN, mCatNL, catN, isi_int_NoneType, isi_int_bool, isi_int_int, isi_int_str, isi_int_list, isi_int_tuple, isi_int_dict, isi_bool_NoneType, isi_bool_bool, isi_bool_int, isi_bool_str, isi_bool_list, isi_bool_tuple, isi_bool_dict, isi_str_NoneType, isi_str_bool, isi_str_int, isi_str_str, isi_str_list, isi_str_tuple, isi_str_dict, isi_list_NoneType, isi_list_bool, isi_list_int, isi_list_str, isi_list_list, isi_list_tuple, isi_list_dict, isi_tuple_NoneType, isi_tuple_bool, isi_tuple_int, isi_tuple_str, isi_tuple_list, isi_tuple_tuple, isi_tuple_dict, isi_dict_NoneType, isi_dict_bool, isi_dict_int, isi_dict_str, isi_dict_list, isi_dict_tuple, isi_dict_dict, mIsiA, isiA, ne_bool, eq_bool]
theorem alike_strv (n : Nat) (s : String) : fn__law_alike (n + 1) [.str (Str.ofString s), .str (Str.ofString s)] = some (.ok (.bool true)) := by
  simp [fn__law_alike, runV, m__law_alike, env0, mSeq, mIf, mBol, mBin, mBinL, mBind, mLift, mPure, mPeek, mVar, ixD, iI, bolD, mAsg, mCall1, mCallN, intD, modD, iIc, cMod, mStore, mStoreO, mDone, gSet, mOwn, mPut, setD, mRet, mDrop, mStuck, mTru, truD, mOrT, mAndT, mNotT, mAnd, mOr, mNot, mIsi, isiT_eq, typD, lenD, mCons, mTup, mLst, mLstN, mVal, oOr, addD, subD, mulD, mulI, iIc, cMul, ltD, leD, gtD, geD, gTupD, gCons2, gsNil, mCallV, mCallB, mRs, tupleD, mRetF, mChain, mScr, mScrLen, mScrIx, mMut, appD, max2D, min2D, mRng1, mRng2, rngD1, rngD2, rngOk, mItems, itemsD, mAsgN, mParEE, mParEN, mUn, negD, mCallN1, listD, unsE, powD, cPow, divD, cDiv, mFor, mSl, mSlL, slD, mNoPart, mPart, intO, mSlN, mSlNL, slN, mRevN, revO, mParNC, andD, orD, xorD, shrD, shlD, cShr, mStepN, mStepNL, stepO, mCatN, mCatNL, catN, isi_int_NoneType, isi_int_bool, isi_int_int, isi_int_str, isi_int_list, isi_int_tuple, isi_int_dict, isi_bool_NoneType, isi_bool_bool, isi_bool_int, isi_bool_str, isi_bool_list, isi_bool_tuple, isi_bool_dict, isi_str_NoneType, isi_str_bool, isi_str_int, isi_str_str, isi_str_list, isi_str_tuple, isi_str_dict, isi_list_NoneType, isi_list_bool, isi_list_int, isi_list_str, isi_list_list, isi_list_tuple, isi_list_dict, isi_tuple_NoneType, isi_tuple_bool, isi_tuple_int, isi_tuple_str, isi_tuple_list, isi_tuple_tuple, isi_tuple_dict, isi_dict_NoneType, isi_dict_bool, isi_dict_int, isi_dict_str, isi_dict_list, isi_dict_tuple, isi_dict_dict, mIsiA, isiA, ne_bool, eq_str]
theorem alike_self : ∀ (n k : Nat) (d : D), Alk n d → fn__law_alike (n + 1 + k) [d, d] = some (.ok (.bool true)) := by
  intro n k d h
  induction h with
  | int n i => rw [show n + 1 + k = n + k + 1 by omega]; exact alike_int _ i
  | bool n b => rw [show n + 1 + k = n + k + 1 by omega]; exact alike_boolv _ b
  | str n s => rw [show n + 1 + k = n + k + 1 by omega]; exact alike_strv _ s
  | tup n ds hl _ ih =>
    rw [show n + 1 + 1 + k = (n + 1 + k) + 1 by omega]
    exact alike_tup (fn__law_alike (n + 1 + k)) ds hl ih
  | lst n ds hl _ ih =>
    rw [show n + 1 + 1 + k = (n + 1 + k) + 1 by omega]
    exact alike_lst (fn__law_alike (n + 1 + k)) ds hl ih

theorem eqS (a b : Str) (ha : PyData.strOk a = true) (hb : PyData.strOk b = true) : eqD (.str a) (.str b) = some (.bool (a == b)) := by
  have e : PyData.eqv (.str a) (.str b) = (a == b) := by simp [PyData.eqv]
  simp [eqD, SeqAt.shaped, PyData.canLay0, PyData.depth, ha, hb, e]
theorem eqF {a b : String} (h : (Str.ofString a == Str.ofString b) = false) : eqD (.str (Str.ofString a)) (.str (Str.ofString b)) = some (.bool false) := by rw [eqS _ _ (strOk_of _) (strOk_of _), h]

theorem neT {a b : String} (h : (Str.ofString a == Str.ofString b) = false) : neD (.str (Str.ofString a)) (.str (Str.ofString b)) = some (.bool true) := by
  have e : PyData.eqv (.str (Str.ofString a)) (.str (Str.ofString b)) = (Str.ofString a == Str.ofString b) := by simp [PyData.eqv]
  simp [neD, SeqAt.shaped, PyData.canLay0, PyData.depth, strOk_of, e, h]
theorem ne_same (s : String) : neD (.str (Str.ofString s)) (.str (Str.ofString s)) = some (.bool false) := by
  have e : PyData.eqv (.str (Str.ofString s)) (.str (Str.ofString s)) = true := by simp [PyData.eqv]
  simp [neD, SeqAt.shaped, PyData.canLay0, PyData.depth, strOk_of, e]

/-! ### loops and comprehensions once more -/
/-- a comprehension over other things than data, with an if -/
theorem go_fm {α : Type} {vs : List Nat} {g : D → M Unit} {tt : M Bool} {te : M D} {ρ : En} (N : α → D) (O : α → List D) : ∀ (as : List α),
    (∀ a ∈ as, ∃ ρ1 ρ2 k, g (N a) ρ = some (.ok () ρ1) ∧ tt ρ1 = some (.ok k ρ2) ∧ (k = true → ∃ y ρ3, te ρ2 = some (.ok y ρ3) ∧ unsE ρ3 vs = ρ ∧ O a = [y]) ∧ (k = false → unsE ρ2 vs = ρ ∧ O a = [])) →
    mGo vs g tt te (as.map N) ρ = some (.ok (as.flatMap O) ρ)
  | [], _ => rfl
  | a :: as, h => by
    obtain ⟨ρ1, ρ2, k, e1, e2, h3, h4⟩ := h a List.mem_cons_self
    have ih := go_fm (vs := vs) (g := g) (tt := tt) (te := te) N O as fun x hx => h x (List.mem_cons_of_mem _ hx)
    rw [List.map_cons, List.flatMap_cons]
    unfold mGo
    rw [bind_is e1, bind_is e2]
    cases k with
    | true =>
      obtain ⟨y, ρ3, e3, e4, e5⟩ := h3 rfl
      have e6 : (mBind te fun y => mPure [y]) ρ2 = some (.ok [y] ρ3) := by rw [bind_is e3]; rfl
      have e7 : mUn_ vs ρ3 = some (.ok () ρ) := by unfold mUn_; rw [e4]
      rw [if_pos rfl, bind_is e6, bind_is e7, bind_is ih, e5]; rfl
    | false =>
      obtain ⟨e4, e5⟩ := h4 rfl
      have e6 : (mPure [] : M (List D)) ρ2 = some (.ok [] ρ2) := rfl
      have e7 : mUn_ vs ρ2 = some (.ok () ρ) := by unfold mUn_; rw [e4]
      rw [if_neg (by simp), bind_is e6, bind_is e7, bind_is ih, e5]; rfl
/-- enumerate -/
theorem enum_map {α : Type} (f : α → D) (as : List α) : enumL (as.map f) = as.zipIdx.map fun p => .tuple [.int (p.2 : Nat), f p.1] := by
  unfold enumL
  apply List.ext_getElem?
  intro i
  rw [List.getElem?_map, List.getElem?_map, List.length_map, List.getElem?_zipIdx]
  rcases Nat.lt_or_ge i as.length with h | h
  · rw [List.getElem?_range h, List.getElem?_eq_getElem h]
    simp [List.getD_eq_getElem?_getD, List.getElem?_eq_getElem h]
  · rw [List.getElem?_eq_none (by simpa using h), List.getElem?_eq_none h]; rfl
theorem rngL_nat (n : Nat) : rngL 0 (n : Int) = (List.range n).map fun i => PyData.int (i : Nat) := by
  unfold rngL
  rw [show ((n : Int) - 0).toNat = n by omega]
  apply List.map_congr_left
  intro i _
  rw [Int.zero_add]
theorem zipWith_zip {α β γ : Type} (f : α → β → γ) : ∀ (xs : List α) (ys : List β), List.zipWith f xs ys = (xs.zip ys).map fun p => f p.1 p.2
  | [], _ => rfl
  | _ :: _, [] => rfl
  | x :: xs, y :: ys => by
    rw [List.zipWith_cons_cons, List.zip_cons_cons, List.map_cons, zipWith_zip f xs ys]
theorem cut_mid (M : List D) {a b : Nat} (h : a ≤ b) : cutL M (some (a : Nat)) (some (b : Nat)) = (M.drop a).take (b - a) := by
  unfold cutL HT.sIx
  dsimp only
  rw [if_neg (by omega), if_neg (by omega), Int.toNat_natCast, Int.toNat_natCast]
  rcases Nat.lt_or_ge M.length a with q | q
  · rw [Nat.min_eq_right (Nat.le_of_lt q), List.drop_of_length_le (Nat.le_refl _), List.drop_of_length_le (Nat.le_of_lt q), List.take_nil, List.take_nil]
  · rw [Nat.min_eq_left q]
    rcases Nat.lt_or_ge M.length b with z | z
    · rw [Nat.min_eq_right (Nat.le_of_lt z), List.take_of_length_le (by rw [List.length_drop]; exact Nat.le_refl _), List.take_of_length_le (by rw [List.length_drop]; omega)]
    · rw [Nat.min_eq_left z]
theorem cut_take (M : List D) (b : Nat) : cutL M none (some (b : Nat)) = M.take b := by
  unfold cutL HT.sIx
  dsimp only
  rw [if_neg (by omega), Int.toNat_natCast, List.drop_zero]
  rcases Nat.lt_or_ge M.length b with z | z
  · rw [Nat.min_eq_right (Nat.le_of_lt z), List.take_of_length_le (by simp), List.take_of_length_le (Nat.le_of_lt z)]
  · rw [Nat.min_eq_left z, Nat.sub_zero]
theorem cut_drop (M : List D) (a : Nat) : cutL M (some (a : Nat)) none = M.drop a := by
  unfold cutL HT.sIx
  dsimp only
  rw [if_neg (by omega), Int.toNat_natCast]
  rcases Nat.lt_or_ge M.length a with q | q
  · rw [Nat.min_eq_right (Nat.le_of_lt q), List.drop_of_length_le (Nat.le_refl _), List.drop_of_length_le (Nat.le_of_lt q), List.take_nil]
  · rw [Nat.min_eq_left q, List.take_of_length_le (by rw [List.length_drop]; exact Nat.le_refl _)]
theorem seq2 {A B C : M Fl} {ρ ρ' : En} (h : mSeq A B ρ = some (.ok .nx ρ')) : mSeq A (mSeq B C) ρ = C ρ' := by
  unfold mSeq mBind at h ⊢
  cases e : A ρ with
  | none => rw [e] at h; cases h
  | some r =>
    rw [e] at h
    cases r with
    | ex x ρ1 => cases h
    | ok f ρ1 =>
      dsimp only at h ⊢
      cases f with
      | nx => dsimp only at h ⊢; rw [h]
      | bk => cases h
      | ct => cases h
      | rt d => cases h
      | rf d => cases h
theorem mul_ok {i j : Int} (h : i.natAbs < 1000000) : mulD (.int i) (.int j) = some (.int (i * j)) := by
  have hc : cMul i j = true := by
    unfold cMul
    rw [Bool.or_eq_true]
    exact .inl (decide_eq_true (by omega))
  show oOr mulI repT _ _ = _
  unfold oOr mulI iIc
  simp only [hc, if_true]

/-! ### repr of lists of lists of numbers: how long, and that it may be compared -/
theorem strOk_app {x y : Str} (hx : PyData.strOk x = true) (hy : PyData.strOk y = true) : PyData.strOk (x ++ y) = true := by
  unfold PyData.strOk at *
  show Array.all (x.cps ++ y.cps) _ = true
  rw [Array.all_append, hx, hy]; rfl
theorem textFrom_le {B : Nat} : ∀ (ts : List Str) (k : Nat) (acc : Str), (∀ t ∈ ts, t.length ≤ B) → (textFrom k acc ts).length ≤ acc.length + (B + 2) * ts.length
  | [], _, acc, _ => Nat.le_add_right _ _
  | t :: ts, k, acc, h => by
    have ih := textFrom_le ts (k + 1) (acc ++ (if k > 0 then ", " else "" : String) ++ t) fun u hu => h u (List.mem_cons_of_mem _ hu)
    have e : (acc ++ (if k > 0 then ", " else "" : String) ++ t).length = acc.length + (if k > 0 then 2 else 0) + t.length := by
      rw [strLen_append, strLen_append]
      split <;> rfl
    have ht := h t List.mem_cons_self
    rw [e] at ih
    rw [List.length_cons, Nat.mul_add]
    show (textFrom (k + 1) _ ts).length ≤ _
    have : (if k > 0 then 2 else 0) ≤ 2 := by split <;> omega
    omega
theorem textFrom_strOk : ∀ (ts : List Str) (k : Nat) (acc : Str), PyData.strOk acc = true → (∀ t ∈ ts, PyData.strOk t = true) → PyData.strOk (textFrom k acc ts) = true
  | [], _, acc, ha, _ => ha
  | t :: ts, k, acc, ha, h => textFrom_strOk ts (k + 1) _ (strOk_app (strOk_app ha (strOk_of _)) (h t List.mem_cons_self)) fun u hu => h u (List.mem_cons_of_mem _ hu)
theorem listText_le {B : Nat} {ts : List Str} (h : ∀ t ∈ ts, t.length ≤ B) : (listText ts).length ≤ 2 + (B + 2) * ts.length := by
  unfold listText
  rw [strLen_append]
  have := textFrom_le ts 0 ("[" : String) h
  have e1 : ((("[" : String) : Str)).length = 1 := rfl
  have e2 : ((("]" : String) : Str)).length = 1 := rfl
  rw [e1] at this
  rw [e2]
  omega
theorem listText_strOk {ts : List Str} (h : ∀ t ∈ ts, PyData.strOk t = true) : PyData.strOk (listText ts) = true :=
  strOk_app (textFrom_strOk ts 0 _ (strOk_of _) h) (strOk_of _)
theorem shownAll_map : ∀ ds : List D, PyData.shownAll ds = ds.map PyData.shown
  | [] => rfl
  | d :: ds => by
    show PyData.shown d :: PyData.shownAll ds = _
    rw [shownAll_map ds]; rfl
/-- a showable value of bounded depth whose text has at most B signs -/
structure Shw (B n : Nat) (d : D) : Prop where
  sh : d.showable = true
  nd : d.hasDict = false
  dp : d.depth ≤ n
  ln : d.shown.length ≤ B
  ok : PyData.strOk d.shown = true
theorem shw_list {B n : Nat} {ds : List D} (h : ∀ d ∈ ds, Shw B n d) : Shw (2 + (B + 2) * ds.length) (n + 1) (.list ds) := by
  have h1 : ∀ xs : List D, (∀ d ∈ xs, Shw B n d) → PyData.showableAll xs = true ∧ PyData.hasDictAll xs = false ∧ PyData.depthAll xs ≤ n := by
    intro xs
    induction xs with
    | nil => exact fun _ => ⟨rfl, rfl, Nat.zero_le _⟩
    | cons x xs ih =>
      intro hx
      obtain ⟨a, b, c⟩ := ih fun d hd => hx d (List.mem_cons_of_mem _ hd)
      have := hx x List.mem_cons_self
      refine ⟨?_, ?_, ?_⟩
      · show (x.showable && PyData.showableAll xs) = true
        rw [this.sh, a]; rfl
      · show (x.hasDict || PyData.hasDictAll xs) = false
        rw [this.nd, b]; rfl
      · show max x.depth (PyData.depthAll xs) ≤ n
        have := this.dp
        omega
  obtain ⟨a, b, c⟩ := h1 ds h
  have hs : ∀ t ∈ PyData.shownAll ds, t.length ≤ B ∧ PyData.strOk t = true := fun t ht => by
    rw [shownAll_map] at ht
    obtain ⟨d, hd, rfl⟩ := List.mem_map.mp ht
    exact ⟨(h d hd).ln, (h d hd).ok⟩
  refine ⟨a, b, Nat.succ_le_succ c, ?_, listText_strOk fun t ht => (hs t ht).2⟩
  have := listText_le (B := B) fun t ht => (hs t ht).1
  rw [shownAll_map, List.length_map] at this
  show (listText (PyData.shownAll ds)).length ≤ _
  rw [shownAll_map]
  exact this
theorem shw_mono {B B' n n' : Nat} {d : D} (h : Shw B n d) (hB : B ≤ B') (hn : n ≤ n') : Shw B' n' d := ⟨h.sh, h.nd, Nat.le_trans h.dp hn, Nat.le_trans h.ln hB, h.ok⟩
theorem byte_len : ∀ n : Fin 256, (Str.ofString (toString (n.val : Int))).length ≤ 3 := by decide +kernel
theorem shw_byte {i : Int} (h0 : 0 ≤ i) (h1 : i < 256) : Shw 3 0 (.int i) := by
  obtain ⟨n, rfl⟩ : ∃ n : Nat, i = (n : Int) := ⟨i.toNat, by omega⟩
  have hn : n < 256 := by omega
  refine ⟨?_, rfl, Nat.le_refl _, ?_, strOk_of _⟩
  · have : ∀ n : Fin 256, decide ((n.val : Int).natAbs.log2 < 1920) = true := by decide +kernel
    exact this ⟨n, hn⟩
  · exact byte_len ⟨n, hn⟩
theorem repr_shw {B n : Nat} {ds : List D} (h : Shw B n (.list ds)) (hB : B ≤ 16000000) (hn : n ≤ 60) : reprG [.list ds] = some (.str (PyData.list ds).shown) := by
  have hs : showOk (.list ds) = true := by
    show ((PyData.list ds).showable && !(PyData.list ds).hasDict && decide ((PyData.list ds).depth ≤ 60) && fit (PyData.list ds).shown.length) = true
    have e1 : decide ((PyData.list ds).depth ≤ 60) = true := decide_eq_true (Nat.le_trans h.dp hn)
    have e2 : fit (PyData.list ds).shown.length = true := decide_eq_true (Nat.le_trans h.ln hB)
    rw [h.sh, h.nd, e1, e2]; rfl
  show (if showOk (.list ds) = true then some (PyData.str (PyData.list ds).shown) else none) = _
  rw [if_pos hs]
theorem ne_shw {a : Str} (h : PyData.strOk a = true) : neD (.str a) (.str a) = some (.bool false) := by
  have s : SeqAt.shaped (.str a) = true := by simp [SeqAt.shaped, PyData.canLay0, PyData.depth, h]
  unfold neD
  rw [s]
  simp [PyData.eqv]

/-! ### repr of tuples, texts and numbers: how long, and that it may be compared -/
theorem join_strOk : ∀ ts : List Str, (∀ t ∈ ts, PyData.strOk t = true) → PyData.strOk (Str.join ", " ts) = true
  | [], _ => strOk_of ""
  | [x], h => h x List.mem_cons_self
  | x :: y :: r, h => by
    show PyData.strOk (x ++ (", " : String) ++ Str.join ", " (y :: r)) = true
    exact strOk_app (strOk_app (h x List.mem_cons_self) (strOk_of _)) (join_strOk (y :: r) fun t ht => h t (List.mem_cons_of_mem _ ht))
theorem join_le {B : Nat} : ∀ ts : List Str, (∀ t ∈ ts, t.length ≤ B) → (Str.join ", " ts).length ≤ (B + 2) * ts.length
  | [], _ => by show 0 ≤ _; omega
  | [x], h => by
    have := h x List.mem_cons_self
    show x.length ≤ _
    simp only [List.length_cons, List.length_nil]
    omega
  | x :: y :: r, h => by
    have ih := join_le (y :: r) fun t ht => h t (List.mem_cons_of_mem _ ht)
    have hx := h x List.mem_cons_self
    have e2 : ((", " : String) : Str).length = 2 := rfl
    show (x ++ (", " : String) ++ Str.join ", " (y :: r)).length ≤ _
    rw [strLen_append, strLen_append, e2, List.length_cons, Nat.mul_add]
    omega
theorem tupleText_le {B : Nat} {ts : List Str} (h : ∀ t ∈ ts, t.length ≤ B) : (tupleText ts).length ≤ 3 + (B + 2) * ts.length := by
  unfold tupleText
  have := join_le ts h
  rw [strLen_append, strLen_append]
  have e1 : ((("(" : String) : Str)).length = 1 := rfl
  have e2 : ((if ts.length == 1 then ",)" else ")" : String) : Str).length ≤ 2 := by
    split <;> decide
  rw [e1]
  omega
theorem tupleText_strOk {ts : List Str} (h : ∀ t ∈ ts, PyData.strOk t = true) : PyData.strOk (tupleText ts) = true :=
  strOk_app (strOk_app (strOk_of _) (join_strOk _ h)) (strOk_of _)
theorem shw_all {B n : Nat} : ∀ xs : List D, (∀ d ∈ xs, Shw B n d) → PyData.showableAll xs = true ∧ PyData.hasDictAll xs = false ∧ PyData.depthAll xs ≤ n
  | [], _ => ⟨rfl, rfl, Nat.zero_le _⟩
  | x :: xs, hx => by
    obtain ⟨a, b, c⟩ := shw_all xs fun d hd => hx d (List.mem_cons_of_mem _ hd)
    have := hx x List.mem_cons_self
    refine ⟨?_, ?_, ?_⟩
    · show (x.showable && PyData.showableAll xs) = true
      rw [this.sh, a]; rfl
    · show (x.hasDict || PyData.hasDictAll xs) = false
      rw [this.nd, b]; rfl
    · show max x.depth (PyData.depthAll xs) ≤ n
      have := this.dp
      omega
theorem shw_tuple {B n : Nat} {ds : List D} (h : ∀ d ∈ ds, Shw B n d) : Shw (3 + (B + 2) * ds.length) (n + 1) (.tuple ds) := by
  obtain ⟨a, b, c⟩ := shw_all ds h
  have hs : ∀ t ∈ PyData.shownAll ds, t.length ≤ B ∧ PyData.strOk t = true := fun t ht => by
    rw [shownAll_map] at ht
    obtain ⟨d, hd, rfl⟩ := List.mem_map.mp ht
    exact ⟨(h d hd).ln, (h d hd).ok⟩
  refine ⟨a, b, Nat.succ_le_succ c, ?_, tupleText_strOk fun t ht => (hs t ht).2⟩
  have := tupleText_le (B := B) fun t ht => (hs t ht).1
  rw [shownAll_map, List.length_map] at this
  show (tupleText (PyData.shownAll ds)).length ≤ _
  rw [shownAll_map]
  exact this
theorem shw_int {i : Int} (h : i.natAbs < 1000000000) : Shw 10 0 (.int i) := by
  have hlog : i.natAbs.log2 < 1920 := by
    by_cases h0 : i.natAbs = 0
    · rw [h0]; decide
    · have : i.natAbs.log2 < 30 := (Nat.log2_lt h0).mpr (Nat.lt_of_lt_of_le h (by decide))
      omega
  refine ⟨decide_eq_true hlog, rfl, Nat.le_refl _, ?_, strOk_of _⟩
  show (Str.ofString (toString i)).length ≤ 10
  rw [PySem.ofString_length]
  exact PySem.int_text_length_le10 (k := 9) (by decide) h
theorem shw_str {s : Str} (h1 : (reprText s).length ≤ 40) (h2 : PyData.strOk (reprText s) = true) : Shw 40 0 (.str s) := ⟨rfl, rfl, Nat.le_refl _, h1, h2⟩

theorem numbers_ok {bs : List D} {m : Int} (hb : Bx bs) (m0 : 0 ≤ m) (m1 : m ≤ 100) : ∃ (ns : List Int) (bs' : List D), fn__law_numbers bs [.int m] = some (.ok (.list (ns.map PyData.int)), bs') ∧ Bx bs' ∧ (∀ n ∈ ns, By n) ∧ (ns.length : Int) ≤ m := by
  obtain ⟨r, bs1, e1, r0, r1, hb1⟩ := take_ok (m := 4) hb (by omega) (by omega)
  obtain ⟨w, e2, hw⟩ := pick4 (a := 2) (b := 5) (c := 256) (d := 256) r0 r1
  obtain ⟨q, bs2, e3, q0, q1, hb2⟩ := take_ok (m := 2) hb1 (by omega) (by omega)
  obtain ⟨l, e4, hl⟩ : ∃ l, atI [PyData.int 0, .int (256 - w)] q = some (.int l) ∧ (l = 0 ∨ l = 256 - w) := by
    rcases (show q = 0 ∨ q = 1 by omega) with rfl | rfl
    · exact ⟨_, rfl, .inl rfl⟩
    · exact ⟨_, rfl, .inr rfl⟩
  obtain ⟨k, bs3, e5, k0, k1, hb3⟩ := take_ok (m := m + 1) hb2 (by omega) (by omega)
  have hw0 : 0 < w ∧ w ≤ 256 := by rcases hw with rfl | rfl | rfl | rfl <;> omega
  have hr : mRng1 (mCons (mCallB 0 2 fn__law_take (mCons (mBinL addD 1 (mPure (.int 1))) (mPure []))) (mPure [])) [.io bs2, .val (.int m), .val (.int w), .val (.int l), .un] = some (.ok (rngL 0 k) [.io bs3, .val (.int m), .val (.int w), .val (.int l), .un]) := by
    refine rng1_is ?_ (rngOk_le (by omega) (by omega))
    simp [mSeq, mIf, mBol, mBin, mBinL, mBind, mLift, mPure, mPeek, mVar, ixD, iI, bolD, mAsg, mCall1, mCallN, intD, modD, iIc, cMod, mStore, mStoreO, mDone, gSet, mOwn, mPut, setD, mRet, mDrop, mStuck, mTru, truD, mOrT, mAndT, mNotT, mAnd, mOr, mNot, mIsi, isiT_eq, typD, lenD, mCons, mTup, mLst, mLstN, mVal, oOr, addD, subD, mulD, mulI, iIc, cMul, ltD, leD, gtD, geD, gTupD, gCons2, gsNil, mCallV, mCallB, mRs, tupleD, mRetF, mChain, mScr, mScrLen, mScrIx, mMut, appD, max2D, min2D, mRng1, mRng2, rngD1, rngD2, rngOk, mItems, itemsD, mAsgN, mParEE, mParEN, mUn, negD, mCallN1, listD, unsE, powD, cPow, divD, cDiv, mFor, mSl, mSlL, slD, mNoPart, mPart, intO, mSlN, mSlNL, slN, mRevN, revO, mParNC, andD, orD, xorD, shrD, shlD, cShr, mStepN, mStepNL, stepO, mCatN, mCatNL, catN, e5]
  obtain ⟨ys, bs4, hb4, gy, ly, e6⟩ := go_box (vs := [4]) (g := mStore 4) (te := mBinL addD 3 (mCallB 0 2 fn__law_take (mCons (mVar 2) (mPure [])))) (fun bs => [.io bs, .val (.int m), .val (.int w), .val (.int l), .un]) (fun d => ∃ i : Int, d = .int i ∧ By i) (rngL 0 k) bs3 hb3 (by
    intro x hx bs hb
    obtain ⟨t, bs', e, t0, t1, hb'⟩ := take_ok (m := w) hb hw0.1 (by omega)
    refine ⟨.int (l + t), bs', [.io bs, .val (.int m), .val (.int w), .val (.int l), .val x], [.io bs', .val (.int m), .val (.int w), .val (.int l), .val x], ⟨_, rfl, ?_⟩, hb', by simp [mStore], ?_, by simp [unsE]⟩
    · rcases hl with rfl | rfl <;> exact ⟨by omega, by omega⟩
    · simp [mSeq, mIf, mBol, mBin, mBinL, mBind, mLift, mPure, mPeek, mVar, ixD, iI, bolD, mAsg, mCall1, mCallN, intD, modD, iIc, cMod, mStore, mStoreO, mDone, gSet, mOwn, mPut, setD, mRet, mDrop, mStuck, mTru, truD, mOrT, mAndT, mNotT, mAnd, mOr, mNot, mIsi, isiT_eq, typD, lenD, mCons, mTup, mLst, mLstN, mVal, oOr, addD, subD, mulD, mulI, iIc, cMul, ltD, leD, gtD, geD, gTupD, gCons2, gsNil, mCallV, mCallB, mRs, tupleD, mRetF, mChain, mScr, mScrLen, mScrIx, mMut, appD, max2D, min2D, mRng1, mRng2, rngD1, rngD2, rngOk, mItems, itemsD, mAsgN, mParEE, mParEN, mUn, negD, mCallN1, listD, unsE, powD, cPow, divD, cDiv, mFor, mSl, mSlL, slD, mNoPart, mPart, intO, mSlN, mSlNL, slN, mRevN, revO, mParNC, andD, orD, xorD, shrD, shlD, cShr, mStepN, mStepNL, stepO, mCatN, mCatNL, catN, e])
  obtain ⟨ns, rfl, hns⟩ : ∃ ns : List Int, ys = ns.map PyData.int ∧ ∀ n ∈ ns, By n := by
    clear e6 ly
    induction ys with
    | nil => exact ⟨[], rfl, fun _ h => (by cases h)⟩
    | cons y ys ih =>
      obtain ⟨i, rfl, hi⟩ := gy y List.mem_cons_self
      obtain ⟨ns, rfl, h⟩ := ih fun z hz => gy z (List.mem_cons_of_mem _ hz)
      exact ⟨i :: ns, rfl, fun z hz => (List.mem_cons.mp hz).elim (fun e => e ▸ hi) (h z)⟩
  have hln : ns.length = k.toNat := by rw [List.length_map, rngL_length] at ly; omega
  have e7 : C__law_numbers_0 [.io bs2, .val (.int m), .val (.int w), .val (.int l), .un] = some (.ok (ns.map PyData.int) [.io bs4, .val (.int m), .val (.int w), .val (.int l), .un]) := comp_is hr (fit_of2 (by rw [rngL_length]; omega)) e6
  refine ⟨ns, bs4, ?_, hb4, hns, by omega⟩
  generalize ns.map PyData.int = M at *
  simp [fn__law_numbers, runB, m__law_numbers, env0B, mSeq, mIf, mBol, mBin, mBinL, mBind, mLift, mPure, mPeek, mVar, ixD, iI, bolD, mAsg, mCall1, mCallN, intD, modD, iIc, cMod, mStore, mStoreO, mDone, gSet, mOwn, mPut, setD, mRet, mDrop, mStuck, mTru, truD, mOrT, mAndT, mNotT, mAnd, mOr, mNot, mIsi, isiT_eq, typD, lenD, mCons, mTup, mLst, mLstN, mVal, oOr, addD, subD, mulD, mulI, iIc, cMul, ltD, leD, gtD, geD, gTupD, gCons2, gsNil, mCallV, mCallB, mRs, tupleD, mRetF, mChain, mScr, mScrLen, mScrIx, mMut, appD, max2D, min2D, mRng1, mRng2, rngD1, rngD2, rngOk, mItems, itemsD, mAsgN, mParEE, mParEN, mUn, negD, mCallN1, listD, unsE, powD, cPow, divD, cDiv, mFor, mSl, mSlL, slD, mNoPart, mPart, intO, mSlN, mSlNL, slN, mRevN, revO, mParNC, andD, orD, xorD, shrD, shlD, cShr, mStepN, mStepNL, stepO, mCatN, mCatNL, catN, e1, e2, e3, e4, e7, fit]

/-! ### the item of its parts -/
theorem parts_ok {I : D} {ds ps : List D} {P kd wd p q r s p' q' r' s' : D} {a b bg en : Int} (hI : I = .list ds ∨ I = .tuple ds) (hP : P = .list ps ∨ P = .tuple ps) (h0 : atI ps 0 = some (.int a)) (h1 : atI ps (-1) = some (.int b))
    (e0 : atI ds a = some (.tuple [p, q, .int bg, r, s])) (e1 : atI ds b = some (.tuple [p', q', r', .int en, s'])) : fn_item_of_parts [I, kd, wd, P] = some (.ok (.tuple [kd, wd, .int bg, .int en, .tuple ps])) := by
  have z2 : ∀ p q r s t : D, atI [p, q, r, s, t] 2 = some r := fun _ _ _ _ _ => rfl
  have z3 : ∀ p q r s t : D, atI [p, q, r, s, t] 3 = some s := fun _ _ _ _ _ => rfl
  have t1 : tupleD [.list ps] = some (.tuple ps) := rfl
  have t2 : tupleD [.tuple ps] = some (.tuple ps) := rfl
  rcases hI with rfl | rfl <;> rcases hP with rfl | rfl <;> simp [fn_item_of_parts, runV, m_item_of_parts, env0, mSeq, mIf, mBol, mBin, mBinL, mBind, mLift, mPure, mPeek, mVar, ixD, iI, bolD, mAsg, mCall1, mCallN, intD, modD, iIc, cMod, mStore, mStoreO, mDone, gSet, mOwn, mPut, setD, mRet, mDrop, mStuck, mTru, truD, mOrT, mAndT, mNotT, mAnd, mOr, mNot, mIsi, isiT_eq, typD, lenD, mCons, mTup, mLst, mLstN, mVal, oOr, addD, subD, mulD, mulI, iIc, cMul, ltD, leD, gtD, geD, gTupD, gCons2, gsNil, mCallV, mCallB, mRs, tupleD, mRetF, mChain, mScr, mScrLen, mScrIx, mMut, appD, max2D, min2D, mRng1, mRng2, rngD1, rngD2, rngOk, mItems, itemsD, mAsgN, mParEE, mParEN, mUn, negD, mCallN1, listD, unsE, powD, cPow, divD, cDiv, mFor, mSl, mSlL, slD, mNoPart, mPart, intO, mSlN, mSlNL, slN, mRevN, revO, mParNC, andD, orD, xorD, shrD, shlD, cShr, mStepN, mStepNL, stepO, mCatN, mCatNL, catN, h0, h1, e0, e1, z2, z3, t1, t2, fit]
theorem rng_first {a b : Nat} (h : a < b) : atI (rngL (a : Int) (b : Int)) 0 = some (.int ((a : Nat) : Int)) := by
  refine atI_nat' (by omega) ?_
  unfold rngL
  have : 0 < ((b : Int) - (a : Int)).toNat := by omega
  rw [List.getElem?_map, show ((0 : Int).toNat) = 0 from rfl, List.getElem?_range this]
  simp
theorem rng_last {a b : Nat} (h : a < b) : atI (rngL (a : Int) (b : Int)) (-1) = some (.int ((b - 1 : Nat) : Int)) := by
  have e : rngL (a : Int) (b : Int) = rngL (a : Int) ((b - 1 : Nat) : Int) ++ [.int ((b - 1 : Nat) : Int)] := by
    unfold rngL
    rw [show ((b : Int) - (a : Int)).toNat = (((b - 1 : Nat) : Int) - (a : Int)).toNat + 1 by omega, List.range_succ, List.map_append]
    congr 1
    show [PyData.int ((a : Int) + ((((b - 1 : Nat) : Int) - (a : Int)).toNat : Nat))] = _
    congr 2
    omega
  rw [e]
  exact atI_last _ _

/-! ### the walk over rows: no machine, no data -/
def Rw (p : Nat → Bool) (n : Nat) : List Nat := (List.range n).filter p
theorem rw_succ (p : Nat → Bool) (n : Nat) : Rw p (n + 1) = Rw p n ++ (if p n = true then [n] else []) := by
  unfold Rw
  rw [List.range_succ, List.filter_append]
  congr 1
  by_cases h : p n = true
  · rw [if_pos h]; simp [h]
  · rw [if_neg h]; simp [h]
theorem rw_mem {p : Nat → Bool} {n j : Nat} (h : j ∈ Rw p n) : j < n ∧ p j = true := by
  unfold Rw at h
  obtain ⟨a, b⟩ := List.mem_filter.mp h
  exact ⟨List.mem_range.mp a, b⟩
theorem rw_len (p : Nat → Bool) (n : Nat) : (Rw p n).length ≤ n := by
  unfold Rw
  have := List.length_filter_le p (List.range n)
  rw [List.length_range] at this
  exact this
def dkQ (p : Nat → Bool) (T : Nat → Int) : Nat → List Nat
  | 0 => []
  | i + 1 => if p i = true then (dkQ p T i).filter (fun j => decide (T j ≠ T i % 128)) ++ (if T i < 128 then [i] else []) else dkQ p T i
def askL (T : Nat → Int) (P : List Nat) (c : Int) : List Nat :=
  ((P.filter fun j => decide (T j % 128 = c)).drop ((P.filter fun j => decide (T j % 128 = c)).length - 1)).filter fun j => decide (T j < 128)
theorem ask_len (T : Nat → Int) (P : List Nat) (c : Int) : (askL T P c).length ≤ 1 := by
  unfold askL
  have := List.length_filter_le (fun j => decide (T j < 128)) ((P.filter fun j => decide (T j % 128 = c)).drop ((P.filter fun j => decide (T j % 128 = c)).length - 1))
  rw [List.length_drop] at this
  omega
theorem ask_mem {T : Nat → Int} {P : List Nat} {c : Int} {j : Nat} (h : j ∈ askL T P c) : j ∈ P := by
  unfold askL at h
  exact (List.mem_filter.mp (List.mem_of_mem_drop (List.mem_filter.mp h).1)).1
theorem find_dk {p : Nat → Bool} {T : Nat → Int} (hT : ∀ i, p i = true → 0 ≤ T i ∧ T i < 256) : ∀ (i : Nat) (c : Int), (dkQ p T i).filter (fun j => decide (T j = c)) = askL T (Rw p i) c
  | 0, c => rfl
  | i + 1, c => by
    have ih := find_dk hT i
    rw [rw_succ]
    unfold dkQ
    by_cases hp : p i = true
    · rw [if_pos hp, if_pos hp, List.filter_append]
      obtain ⟨t0, t1⟩ := hT i hp
      by_cases hc : T i % 128 = c
      · have e1 : ((dkQ p T i).filter (fun j => decide (T j ≠ T i % 128))).filter (fun j => decide (T j = c)) = [] := by
          rw [List.filter_filter, List.filter_eq_nil_iff]
          intro j _
          simp only [Bool.and_eq_true, decide_eq_true_eq, not_and]
          intro a b
          exact b (a.trans hc.symm)
        rw [e1, List.nil_append]
        have e2 : ((Rw p i ++ [i]).filter fun j => decide (T j % 128 = c)) = ((Rw p i).filter fun j => decide (T j % 128 = c)) ++ [i] := by
          rw [List.filter_append]; simp [hc]
        unfold askL
        rw [e2, List.length_append, List.length_singleton, Nat.add_sub_cancel, List.drop_left]
        by_cases h8 : T i < 128
        · have : T i = c := by omega
          have h9 : c < 128 := this ▸ h8
          simp [h9, this]
        · simp [h8]
      · have e1 : ((dkQ p T i).filter (fun j => decide (T j ≠ T i % 128))).filter (fun j => decide (T j = c)) = (dkQ p T i).filter (fun j => decide (T j = c)) := by
          rw [List.filter_filter]
          apply List.filter_congr
          intro j _
          by_cases a : T j = c
          · have : T j ≠ T i % 128 := fun z => hc (z.symm.trans a)
            simp [a]; omega
          · simp [a]
        have e2 : (if T i < 128 then [i] else []).filter (fun j => decide (T j = c)) = [] := by
          by_cases h8 : T i < 128
          · have : T i ≠ c := by omega
            simp [h8, this]
          · simp [h8]
        have e3 : ((Rw p i ++ [i]).filter fun j => decide (T j % 128 = c)) = (Rw p i).filter fun j => decide (T j % 128 = c) := by
          rw [List.filter_append]; simp [hc]
        rw [e1, e2, List.append_nil, ih c]
        unfold askL
        rw [e3]
    · rw [if_neg hp, if_neg hp, List.append_nil, ih c]
def opB (T : Nat → Int) (R : List Nat) (k : Nat) : Bool := decide (T k < 128) && (R.filter fun j => decide (k < j) && decide (T j % 128 = T k)).isEmpty
theorem open_dk {p : Nat → Bool} {T : Nat → Int} : ∀ i : Nat, dkQ p T i = (Rw p i).filter (opB T (Rw p i))
  | 0 => rfl
  | i + 1 => by
    have ih := open_dk (p := p) (T := T) i
    rw [rw_succ]
    unfold dkQ
    by_cases hp : p i = true
    · rw [if_pos hp, if_pos hp, List.filter_append, ih, List.filter_filter]
      congr 1
      · apply List.filter_congr
        intro k hk
        obtain ⟨k1, _⟩ := rw_mem hk
        unfold opB
        rw [List.filter_append]
        by_cases z : T i % 128 = T k
        · have : ¬ T k ≠ T i % 128 := fun h => h z.symm
          simp [k1, z]
        · have : T k ≠ T i % 128 := fun h => z h.symm
          simp [k1, z, this]
      · have e : ((Rw p i ++ [i]).filter fun j => decide (i < j) && decide (T j % 128 = T i)) = [] := by
          rw [List.filter_eq_nil_iff]
          intro j hj
          have : ¬ i < j := by
            rcases List.mem_append.mp hj with h | h
            · have := (rw_mem h).1; omega
            · rw [List.mem_singleton.mp h]; omega
          simp [this]
        by_cases h8 : T i < 128
        · rw [if_pos h8]
          have : opB T (Rw p i ++ [i]) i = true := by unfold opB; rw [e]; simp [h8]
          simp [this]
        · rw [if_neg h8]
          have : opB T (Rw p i ++ [i]) i = false := by unfold opB; simp [h8]
          simp [this]
    · rw [if_neg hp, if_neg hp, List.append_nil, ih]
theorem range_lt {n k : Nat} (h : k ≤ n) : (List.range n).filter (fun j => decide (j < k)) = List.range k := by
  induction n with
  | zero => have : k = 0 := by omega
            subst this; rfl
  | succ n ih =>
    rw [List.range_succ, List.filter_append]
    by_cases z : k ≤ n
    · rw [ih z]
      have : ¬ n < k := by omega
      simp [this]
    · have : k = n + 1 := by omega
      subst this
      rw [List.range_succ]
      congr 1
      · rw [List.filter_eq_self]
        intro j hj
        have := List.mem_range.mp hj
        exact decide_eq_true (by omega)
      · simp
theorem rw_before {p : Nat → Bool} {n k : Nat} (h : k ≤ n) (q : Nat → Bool) : (Rw p n).filter (fun j => decide (j < k) && q j) = (Rw p k).filter q := by
  unfold Rw
  have e : (fun j => decide (j < k) && q j) = fun j => (q j && decide (j < k)) := by funext j; rw [Bool.and_comm]
  rw [e, ← List.filter_filter, List.filter_filter (p := fun j => decide (j < k)) (q := p)]
  have e2 : (List.range n).filter (fun a => decide (a < k) && p a) = (List.range k).filter p := by
    rw [show (fun a => decide (a < k) && p a) = fun a => (p a && decide (a < k)) by funext a; rw [Bool.and_comm]]
    rw [← List.filter_filter, range_lt h]
  rw [e2]
/-! ### items -/
structure Iq where
  pk : Option (List Int)
  why : Str
  b : Int
  e : Int
  pl : List D
def headQ (x : Iq) : D := match x.pk with
  | some _ => .str "packet"
  | none => .str "torn"
def whatQ (x : Iq) : D := match x.pk with
  | some ns => .tuple (ns.map PyData.int)
  | none => .str x.why
def itemQ (x : Iq) : D := .tuple [headQ x, whatQ x, .int x.b, .int x.e, .tuple x.pl]
def rowI (x : Iq) : Bool := match x.pk with
  | some (_ :: _) => true
  | _ => false
def bodyI (x : Iq) : List Int := match x.pk with
  | some ns => ns
  | none => []
def rowQ (xs : List Iq) (i : Nat) : Bool := match xs[i]? with
  | some x => rowI x
  | none => false
def bodyQ (xs : List Iq) (i : Nat) : List Int := match xs[i]? with
  | some x => bodyI x
  | none => []
def bgQ (xs : List Iq) (i : Nat) : Int := match xs[i]? with
  | some x => x.b
  | none => 0
def enQ (xs : List Iq) (i : Nat) : Int := match xs[i]? with
  | some x => x.e
  | none => 0
def tgQ (xs : List Iq) (i : Nat) : Int := (bodyQ xs i).headD 0
def sdQ (xs : List Iq) (i : Nat) : D := .tuple (((bodyQ xs i).drop 1).map PyData.int)
theorem row_at {xs : List Iq} {i : Nat} (h : rowQ xs i = true) : ∃ x t ns, xs[i]? = some x ∧ x.pk = some (t :: ns) ∧ tgQ xs i = t ∧ sdQ xs i = .tuple (ns.map PyData.int) ∧ bgQ xs i = x.b ∧ enQ xs i = x.e ∧ itemQ x = .tuple [.str "packet", .tuple (.int t :: ns.map PyData.int), .int x.b, .int x.e, .tuple x.pl] := by
  unfold rowQ at h
  cases hx : xs[i]? with
  | none => rw [hx] at h; cases h
  | some x =>
    rw [hx] at h
    have h : rowI x = true := h
    obtain ⟨pk, why, b, e, pl⟩ := x
    unfold rowI at h
    cases pk with
    | none => cases h
    | some l =>
      cases l with
      | nil => cases h
      | cons t ns =>
        refine ⟨_, t, ns, rfl, rfl, ?_, ?_, ?_, ?_, rfl⟩
        · unfold tgQ bodyQ; rw [hx]; rfl
        · unfold sdQ bodyQ; rw [hx]; rfl
        · unfold bgQ; rw [hx]
        · unfold enQ; rw [hx]
def ItsQ (xs : List Iq) (I : D) : Prop := I = .list (xs.map itemQ) ∨ I = .tuple (xs.map itemQ)
theorem item_at {xs : List Iq} {i : Nat} {x : Iq} (h : xs[i]? = some x) : atI (xs.map itemQ) (i : Nat) = some (itemQ x) := atI_nat' (by omega) (by rw [List.getElem?_map, show ((i : Int)).toNat = i by omega, h]; rfl)
theorem said_ok {I : D} {xs : List Iq} {i : Nat} (hI : ItsQ xs I) (h : rowQ xs i = true) : fn__said [I, .int (i : Nat)] = some (.ok (sdQ xs i)) := by
  obtain ⟨x, t, ns, h1, _, _, h4, _, _, h7⟩ := row_at h
  have a := item_at h1
  rw [h7] at a
  rw [h4]
  have hc : cutL (.int t :: ns.map PyData.int) (some 1) none = ns.map PyData.int := cut_drop _ 1
  have z1 : ∀ p q r s t : D, atI [p, q, r, s, t] 1 = some q := fun _ _ _ _ _ => rfl
  unfold ItsQ at hI
  generalize xs.map itemQ = X at *
  generalize ns.map PyData.int = N at *
  rcases hI with rfl | rfl <;> simp [fn__said, runV, m__said, env0, mSeq, mIf, mBol, mBin, mBinL, mBind, mLift, mPure, mPeek, mVar, ixD, iI, bolD, mAsg, mCall1, mCallN, intD, modD, iIc, cMod, mStore, mStoreO, mDone, gSet, mOwn, mPut, setD, mRet, mDrop, mStuck, mTru, truD, mOrT, mAndT, mNotT, mAnd, mOr, mNot, mIsi, isiT_eq, typD, lenD, mCons, mTup, mLst, mLstN, mVal, oOr, addD, subD, mulD, mulI, iIc, cMul, ltD, leD, gtD, geD, gTupD, gCons2, gsNil, mCallV, mCallB, mRs, tupleD, mRetF, mChain, mScr, mScrLen, mScrIx, mMut, appD, max2D, min2D, mRng1, mRng2, rngD1, rngD2, rngOk, mItems, itemsD, mAsgN, mParEE, mParEN, mUn, negD, mCallN1, listD, unsE, powD, cPow, divD, cDiv, mFor, mSl, mSlL, slD, mNoPart, mPart, intO, mSlN, mSlNL, slN, mRevN, revO, mParNC, andD, orD, xorD, shrD, shlD, cShr, mStepN, mStepNL, stepO, mCatN, mCatNL, catN, mSl, mPart, mNoPart, slD, intO, a, z1, hc]
def aloneD (xs : List Iq) (kind : String) (i : Nat) : D := .tuple [.str kind, sdQ xs i, .int (bgQ xs i), .int (enQ xs i), .tuple [.int (i : Nat)]]
def talkD (xs : List Iq) (a i : Nat) : D := .tuple [.str "talk", .tuple [sdQ xs a, sdQ xs i], .int (bgQ xs a), .int (enQ xs i), .tuple [.int (a : Nat), .int (i : Nat)]]
theorem parts1 {I : D} {xs : List Iq} {kd wd : D} {a b : Nat} {ps : List D} (hI : ItsQ xs I) (ha : rowQ xs a = true) (hb : rowQ xs b = true) (h0 : atI ps 0 = some (.int (a : Nat))) (h1 : atI ps (-1) = some (.int (b : Nat))) : fn_item_of_parts [I, kd, wd, .tuple ps] = some (.ok (.tuple [kd, wd, .int (bgQ xs a), .int (enQ xs b), .tuple ps])) := by
  obtain ⟨x, t, ns, a1, _, _, _, a5, _, a7⟩ := row_at ha
  obtain ⟨y, u, ms, b1, _, _, _, _, b6, b7⟩ := row_at hb
  have e0 := item_at a1
  have e1 := item_at b1
  rw [a7] at e0
  rw [b7] at e1
  rw [a5, b6]
  exact parts_ok hI (.inr rfl) h0 h1 e0 e1
theorem alone_ok {I : D} {xs : List Iq} {i : Nat} {kind : String} (hI : ItsQ xs I) (h : rowQ xs i = true) : fn__alone [I, .str kind, .int (i : Nat)] = some (.ok (aloneD xs kind i)) := by
  have e1 := said_ok hI h
  have e2 := parts1 (kd := .str kind) (wd := sdQ xs i) (ps := [.int (i : Nat)]) hI h h rfl rfl
  unfold aloneD
  simp [fn__alone, runV, m__alone, env0, mSeq, mIf, mBol, mBin, mBinL, mBind, mLift, mPure, mPeek, mVar, ixD, iI, bolD, mAsg, mCall1, mCallN, intD, modD, iIc, cMod, mStore, mStoreO, mDone, gSet, mOwn, mPut, setD, mRet, mDrop, mStuck, mTru, truD, mOrT, mAndT, mNotT, mAnd, mOr, mNot, mIsi, isiT_eq, typD, lenD, mCons, mTup, mLst, mLstN, mVal, oOr, addD, subD, mulD, mulI, iIc, cMul, ltD, leD, gtD, geD, gTupD, gCons2, gsNil, mCallV, mCallB, mRs, tupleD, mRetF, mChain, mScr, mScrLen, mScrIx, mMut, appD, max2D, min2D, mRng1, mRng2, rngD1, rngD2, rngOk, mItems, itemsD, mAsgN, mParEE, mParEN, mUn, negD, mCallN1, listD, unsE, powD, cPow, divD, cDiv, mFor, mSl, mSlL, slD, mNoPart, mPart, intO, mSlN, mSlNL, slN, mRevN, revO, mParNC, andD, orD, xorD, shrD, shlD, cShr, mStepN, mStepNL, stepO, mCatN, mCatNL, catN, e1, e2, fit]

def entK (T : Nat → Int) (d : List Nat) : List (Key × D) := d.map fun j => (Sum.inl (T j), PyData.int (j : Nat))
theorem valD_ent (T : Nat → Int) (c : Int) : ∀ d : List Nat, valD (entK T d) (.inl c) = ((d.filter fun j => decide (T j = c)).head?).map fun j => PyData.int (j : Nat)
  | [] => rfl
  | j :: d => by
    have ih := valD_ent T c d
    show valD ((Sum.inl (T j), PyData.int (j : Nat)) :: entK T d) (.inl c) = _
    by_cases h : T j = c
    · simp [valD, h]
    · have : (Sum.inl (T j) : Key) ≠ .inl c := fun z => h (Sum.inl.inj z)
      simp [valD, h, ih]
theorem dropD_ent (T : Nat → Int) (c : Int) : ∀ d : List Nat, dropD (entK T d) (.inl c) = entK T (d.filter fun j => decide (T j ≠ c))
  | [] => rfl
  | j :: d => by
    have ih := dropD_ent T c d
    show dropD ((Sum.inl (T j), PyData.int (j : Nat)) :: entK T d) (.inl c) = _
    by_cases h : T j = c
    · simp [dropD, h, ih]
    · simp only [dropD]
      rw [if_neg (fun z => h (Sum.inl.inj z)), ih, List.filter_cons_of_pos (by simpa using h)]
      rfl
theorem set_ent (T : Nat → Int) (c : Int) (k : D) (d : List Nat) (h : (d.filter fun j => decide (T j = c)) = []) : setKD (entK T d) (.inl c) k = entK T d ++ [(.inl c, k)] := by
  unfold setKD
  have : ((entK T d).any fun kv => decide (kv.1 = (Sum.inl c : Key))) = false := by
    rw [List.any_eq_false]
    intro kv hkv
    obtain ⟨j, hj, rfl⟩ := List.mem_map.mp hkv
    have := List.filter_eq_nil_iff.mp h j hj
    simp only [decide_eq_true_eq] at this ⊢
    exact fun z => this (Sum.inl.inj z)
  rw [this, if_neg (by simp)]
theorem ent_snoc (T : Nat → Int) (d : List Nat) (k : Nat) : entK T (d ++ [k]) = entK T d ++ [(.inl (T k), .int (k : Nat))] := by
  unfold entK; rw [List.map_append]; rfl
def toldQ (xs : List Iq) (a : List Nat) (k : Nat) : List D := match a with
  | j :: _ => if tgQ xs k < 128 then [aloneD xs "lost" j] else [talkD xs j k]
  | [] => if tgQ xs k < 128 then [] else [aloneD xs "stray" k]
theorem told_len (xs : List Iq) (a : List Nat) (k : Nat) : (toldQ xs a k).length ≤ 1 := by
  unfold toldQ
  split <;> split <;> simp
theorem eq_nilT (b : D) (ns : List Int) : eqD (.tuple (.int 0 :: [])) (.tuple []) = eqD (.tuple (.int 0 :: [])) (.tuple []) := rfl
theorem sh_body (ns : List Int) : Sh 1 (.tuple (ns.map PyData.int)) := Sh.tuple fun d hd => by
  obtain ⟨n, _, rfl⟩ := List.mem_map.mp hd
  exact Sh.int _
theorem eq_body (ns : List Int) : eqD (.tuple (ns.map PyData.int)) (.tuple []) = some (.bool ns.isEmpty) := by
  have h1 := (sh_body ns).shaped (by omega)
  have h2 := (sh_body []).shaped (by omega)
  have e : PyData.eqv (.tuple (ns.map PyData.int)) (.tuple []) = ns.isEmpty := by
    cases ns with
    | nil => decide +kernel
    | cons n r => rfl
  unfold eqD
  rw [h1]
  rw [show SeqAt.shaped (.tuple []) = true from h2, e]
  rfl
theorem ne_body (ns : List Int) : neD (.tuple (ns.map PyData.int)) (.tuple []) = some (.bool (!ns.isEmpty)) := by
  have h1 := (sh_body ns).shaped (by omega)
  have h2 := (sh_body []).shaped (by omega)
  have e : PyData.eqv (.tuple (ns.map PyData.int)) (.tuple []) = ns.isEmpty := by
    cases ns with
    | nil => decide +kernel
    | cons n r => rfl
  unfold neD
  rw [h1]
  rw [show SeqAt.shaped (.tuple []) = true from h2, e]
  rfl
theorem ne_tp_pk : neD (.str "torn") (.str "packet") = some (.bool true) := neT (by decide +kernel)
theorem ne_pk_pk : neD (.str "packet") (.str "packet") = some (.bool false) := ne_same _

def nxtQ (xs : List Iq) (d : List Nat) (i : Nat) : List Nat := if rowQ xs i = true then (d.filter fun j => decide (tgQ xs j ≠ tgQ xs i % 128)) ++ (if tgQ xs i < 128 then [i] else []) else d
theorem talk_skip {I : D} {xs : List Iq} {i : Nat} {x : Iq} {F : List D} {E : List (Key × D)} {s5 s6 : Sl} (hi : xs[i]? = some x) (hr : ¬ rowQ xs i = true) :
    L_talks_in_0 [.val I, .own F, .dct E, .val (.int (i : Nat)), .val (itemQ x), s5, s6] = some (.ok .ct [.val I, .own F, .dct E, .val (.int (i : Nat)), .val (itemQ x), s5, s6]) := by
  have z0 : ∀ p q r s t : D, atI [p, q, r, s, t] 0 = some p := fun _ _ _ _ _ => rfl
  have z1 : ∀ p q r s t : D, atI [p, q, r, s, t] 1 = some q := fun _ _ _ _ _ => rfl
  have e0 := eq_body []
  obtain ⟨pk, why, b, e, pl⟩ := x
  cases pk with
  | none =>
    have : itemQ ⟨none, why, b, e, pl⟩ = .tuple [.str "torn", .str why, .int b, .int e, .tuple pl] := rfl
    rw [this]
    simp [L_talks_in_0, mSeq, mIf, mBol, mBin, mBinL, mBind, mLift, mPure, mPeek, mVar, ixD, iI, bolD, mAsg, mCall1, mCallN, intD, modD, iIc, cMod, mStore, mStoreO, mDone, gSet, mOwn, mPut, setD, mRet, mDrop, mStuck, mTru, truD, mOrT, mAndT, mNotT, mAnd, mOr, mNot, mIsi, isiT_eq, typD, lenD, mCons, mTup, mLst, mLstN, mVal, oOr, addD, subD, mulD, mulI, iIc, cMul, ltD, leD, gtD, geD, gTupD, gCons2, gsNil, mCallV, mCallB, mRs, tupleD, mRetF, mChain, mScr, mScrLen, mScrIx, mMut, appD, max2D, min2D, mRng1, mRng2, rngD1, rngD2, rngOk, mItems, itemsD, mAsgN, mParEE, mParEN, mUn, negD, mCallN1, listD, unsE, powD, cPow, divD, cDiv, mFor, mSl, mSlL, slD, mNoPart, mPart, intO, mSlN, mSlNL, slN, mRevN, revO, mParNC, andD, orD, xorD, shrD, shlD, cShr, mStepN, mStepNL, stepO, mCatN, mCatNL, catN, z0, z1, ne_tp_pk]
  | some l =>
    cases l with
    | nil =>
      have : itemQ ⟨some [], why, b, e, pl⟩ = .tuple [.str "packet", .tuple [], .int b, .int e, .tuple pl] := rfl
      rw [this]
      have e0 : eqD (.tuple []) (.tuple []) = some (.bool true) := e0
      simp [L_talks_in_0, mSeq, mIf, mBol, mBin, mBinL, mBind, mLift, mPure, mPeek, mVar, ixD, iI, bolD, mAsg, mCall1, mCallN, intD, modD, iIc, cMod, mStore, mStoreO, mDone, gSet, mOwn, mPut, setD, mRet, mDrop, mStuck, mTru, truD, mOrT, mAndT, mNotT, mAnd, mOr, mNot, mIsi, isiT_eq, typD, lenD, mCons, mTup, mLst, mLstN, mVal, oOr, addD, subD, mulD, mulI, iIc, cMul, ltD, leD, gtD, geD, gTupD, gCons2, gsNil, mCallV, mCallB, mRs, tupleD, mRetF, mChain, mScr, mScrLen, mScrIx, mMut, appD, max2D, min2D, mRng1, mRng2, rngD1, rngD2, rngOk, mItems, itemsD, mAsgN, mParEE, mParEN, mUn, negD, mCallN1, listD, unsE, powD, cPow, divD, cDiv, mFor, mSl, mSlL, slD, mNoPart, mPart, intO, mSlN, mSlNL, slN, mRevN, revO, mParNC, andD, orD, xorD, shrD, shlD, cShr, mStepN, mStepNL, stepO, mCatN, mCatNL, catN, z0, z1, ne_pk_pk, e0, fit]
    | cons t ns =>
      refine absurd ?_ hr
      unfold rowQ
      rw [hi]
      rfl
theorem talk_turn {I : D} {xs : List Iq} {i : Nat} {x : Iq} {F : List D} {d : List Nat} {s5 s6 : Sl} (hI : ItsQ xs I) (hi : xs[i]? = some x) (hr : rowQ xs i = true) (hF : F.length ≤ 900) (hd : d.length ≤ 900) (hT : 0 ≤ tgQ xs i ∧ tgQ xs i < 256) (hrow : ∀ j ∈ d, rowQ xs j = true) :
    ∃ s5' s6', L_talks_in_0 [.val I, .own F, .dct (entK (tgQ xs) d), .val (.int (i : Nat)), .val (itemQ x), s5, s6] =
      some (.ok .nx [.val I, .own (F ++ toldQ xs (d.filter fun j => decide (tgQ xs j = tgQ xs i % 128)) i), .dct (entK (tgQ xs) (nxtQ xs d i)), .val (.int (i : Nat)), .val (itemQ x), s5', s6']) := by
  have z0 : ∀ p q r s t : D, atI [p, q, r, s, t] 0 = some p := fun _ _ _ _ _ => rfl
  have z1 : ∀ p q r s t : D, atI [p, q, r, s, t] 1 = some q := fun _ _ _ _ _ => rfl
  have hnx : nxtQ xs d i = (d.filter fun j => decide (tgQ xs j ≠ tgQ xs i % 128)) ++ (if tgQ xs i < 128 then [i] else []) := by unfold nxtQ; rw [if_pos hr]
  obtain ⟨x', t, ns, h1, _, h3, h4, h5, h6, h7⟩ := row_at hr
  have hx : x' = x := by rw [hi] at h1; cases h1; rfl
  subst hx
  have f1 : F.length ≤ 16000000 := by omega
  have fE : (entK (tgQ xs) d).length ≤ 16000000 := by unfold entK; rw [List.length_map]; omega
  have fE2 : ∀ c : Int, (entK (tgQ xs) (d.filter fun j => decide (tgQ xs j ≠ c))).length ≤ 16000000 := fun c => by
    unfold entK; rw [List.length_map]
    have := List.length_filter_le (fun j => decide (tgQ xs j ≠ c)) d
    omega
  have e1 : eqD (.tuple (.int t :: ns.map PyData.int)) (.tuple []) = some (.bool false) := eq_body (t :: ns)
  have za : atI (.int t :: ns.map PyData.int) 0 = some (.int t) := atI_nat' (by omega) rfl
  have eS : subD (.int t) (.int 128) = some (.int (t - 128)) := rfl
  have hst := alone_ok (kind := "stray") hI hr
  have hsi := said_ok hI hr
  rw [h3] at hnx hT ⊢
  rw [h7]
  have none_all : ∀ c : Int, (d.filter fun j => decide (tgQ xs j = c)) = [] → (d.filter fun j => decide (tgQ xs j ≠ c)) = d := fun c h => by
    rw [List.filter_eq_self]
    intro j hj
    have := List.filter_eq_nil_iff.mp h j hj
    simp only [decide_eq_true_eq] at this
    exact decide_eq_true this
  have none_after : ∀ c : Int, ((d.filter fun j => decide (tgQ xs j ≠ c)).filter fun j => decide (tgQ xs j = c)) = [] := fun c => by
    rw [List.filter_filter, List.filter_eq_nil_iff]
    intro j _
    simp only [Bool.and_eq_true, decide_eq_true_eq, not_and]
    exact fun a b => b a
  by_cases c8 : t < 128
  · have tm : t % 128 = t := by omega
    rw [tm] at hnx ⊢
    rw [if_pos c8] at hnx
    have hv := valD_ent (tgQ xs) t d
    cases hA : d.filter (fun j => decide (tgQ xs j = t)) with
    | nil =>
      rw [hA] at hv
      have hv : valD (entK (tgQ xs) d) (.inl t) = none := hv
      have hs := set_ent (tgQ xs) t (.int (i : Nat)) d hA
      have hn : entK (tgQ xs) (nxtQ xs d i) = entK (tgQ xs) d ++ [(.inl t, .int (i : Nat))] := by rw [hnx, none_all t hA, ent_snoc, h3]
      have ht : toldQ xs [] i = [] := by unfold toldQ; rw [h3]; simp [c8]
      rw [ht, hn, List.append_nil]
      generalize entK (tgQ xs) d = E at *
      refine ⟨.val (.int t), s6, ?_⟩
      generalize ns.map PyData.int = N at *
      simp [L_talks_in_0, mSeq, mIf, mBol, mBin, mBinL, mBind, mLift, mPure, mPeek, mVar, ixD, iI, bolD, mAsg, mCall1, mCallN, intD, modD, iIc, cMod, mStore, mStoreO, mDone, gSet, mOwn, mPut, setD, mRet, mDrop, mStuck, mTru, truD, mOrT, mAndT, mNotT, mAnd, mOr, mNot, mIsi, isiT_eq, typD, lenD, mCons, mTup, mLst, mLstN, mVal, oOr, addD, subD, mulD, mulI, iIc, cMul, ltD, leD, gtD, geD, gTupD, gCons2, gsNil, mCallV, mCallB, mRs, tupleD, mRetF, mChain, mScr, mScrLen, mScrIx, mMut, appD, max2D, min2D, mRng1, mRng2, rngD1, rngD2, rngOk, mItems, itemsD, mAsgN, mParEE, mParEN, mUn, negD, mCallN1, listD, unsE, powD, cPow, divD, cDiv, mFor, mSl, mSlL, slD, mNoPart, mPart, intO, mSlN, mSlNL, slN, mRevN, revO, mParNC, andD, orD, xorD, shrD, shlD, cShr, mStepN, mStepNL, stepO, mCatN, mCatNL, catN, z0, z1, za, ne_pk_pk, e1, fit, c8, mInDict, mDct, keyD, hv, mSetDict, fE, hs, mPutD]
    | cons j r =>
      rw [hA] at hv
      have hv : valD (entK (tgQ xs) d) (.inl t) = some (.int (j : Nat)) := hv
      have hj : rowQ xs j = true := hrow j (by
        have : j ∈ d.filter (fun j => decide (tgQ xs j = t)) := by rw [hA]; exact List.mem_cons_self
        exact (List.mem_filter.mp this).1)
      have hdr := dropD_ent (tgQ xs) t d
      have hs := set_ent (tgQ xs) t (.int (i : Nat)) _ (none_after t)
      have hn : entK (tgQ xs) (nxtQ xs d i) = entK (tgQ xs) (d.filter fun j => decide (tgQ xs j ≠ t)) ++ [(.inl t, .int (i : Nat))] := by rw [hnx, ent_snoc, h3]
      have hlo := alone_ok (kind := "lost") hI hj
      have ht : toldQ xs (j :: r) i = [aloneD xs "lost" j] := by unfold toldQ; rw [h3]; simp [c8]
      have fE3 := fE2 t
      rw [ht, hn]
      generalize entK (tgQ xs) (d.filter fun j => decide (tgQ xs j ≠ t)) = E2 at *
      generalize entK (tgQ xs) d = E at *
      refine ⟨.val (.int t), s6, ?_⟩
      generalize ns.map PyData.int = N at *
      generalize aloneD xs "lost" j = A at *
      simp [L_talks_in_0, mSeq, mIf, mBol, mBin, mBinL, mBind, mLift, mPure, mPeek, mVar, ixD, iI, bolD, mAsg, mCall1, mCallN, intD, modD, iIc, cMod, mStore, mStoreO, mDone, gSet, mOwn, mPut, setD, mRet, mDrop, mStuck, mTru, truD, mOrT, mAndT, mNotT, mAnd, mOr, mNot, mIsi, isiT_eq, typD, lenD, mCons, mTup, mLst, mLstN, mVal, oOr, addD, subD, mulD, mulI, iIc, cMul, ltD, leD, gtD, geD, gTupD, gCons2, gsNil, mCallV, mCallB, mRs, tupleD, mRetF, mChain, mScr, mScrLen, mScrIx, mMut, appD, max2D, min2D, mRng1, mRng2, rngD1, rngD2, rngOk, mItems, itemsD, mAsgN, mParEE, mParEN, mUn, negD, mCallN1, listD, unsE, powD, cPow, divD, cDiv, mFor, mSl, mSlL, slD, mNoPart, mPart, intO, mSlN, mSlNL, slN, mRevN, revO, mParNC, andD, orD, xorD, shrD, shlD, cShr, mStepN, mStepNL, stepO, mCatN, mCatNL, catN, z0, z1, za, ne_pk_pk, e1, fit, c8, mInDict, mPopDict, mDct, keyD, hv, hdr, mSetDict, fE3, hs, mPutD, hlo, f1, appD]
  · have tm : t % 128 = t - 128 := by omega
    rw [tm] at hnx ⊢
    rw [if_neg c8, List.append_nil] at hnx
    have hv := valD_ent (tgQ xs) (t - 128) d
    cases hA : d.filter (fun j => decide (tgQ xs j = t - 128)) with
    | nil =>
      rw [hA] at hv
      have hv : valD (entK (tgQ xs) d) (.inl (t - 128)) = none := hv
      have hn : entK (tgQ xs) (nxtQ xs d i) = entK (tgQ xs) d := by rw [hnx, none_all _ hA]
      have ht : toldQ xs [] i = [aloneD xs "stray" i] := by unfold toldQ; rw [h3]; simp [c8]
      rw [ht, hn]
      generalize entK (tgQ xs) d = E at *
      refine ⟨.val (.int t), s6, ?_⟩
      generalize ns.map PyData.int = N at *
      generalize aloneD xs "stray" i = A at *
      simp [L_talks_in_0, mSeq, mIf, mBol, mBin, mBinL, mBind, mLift, mPure, mPeek, mVar, ixD, iI, bolD, mAsg, mCall1, mCallN, intD, modD, iIc, cMod, mStore, mStoreO, mDone, gSet, mOwn, mPut, setD, mRet, mDrop, mStuck, mTru, truD, mOrT, mAndT, mNotT, mAnd, mOr, mNot, mIsi, isiT_eq, typD, lenD, mCons, mTup, mLst, mLstN, mVal, oOr, addD, subD, mulD, mulI, iIc, cMul, ltD, leD, gtD, geD, gTupD, gCons2, gsNil, mCallV, mCallB, mRs, tupleD, mRetF, mChain, mScr, mScrLen, mScrIx, mMut, appD, max2D, min2D, mRng1, mRng2, rngD1, rngD2, rngOk, mItems, itemsD, mAsgN, mParEE, mParEN, mUn, negD, mCallN1, listD, unsE, powD, cPow, divD, cDiv, mFor, mSl, mSlL, slD, mNoPart, mPart, intO, mSlN, mSlNL, slN, mRevN, revO, mParNC, andD, orD, xorD, shrD, shlD, cShr, mStepN, mStepNL, stepO, mCatN, mCatNL, catN, z0, z1, za, ne_pk_pk, e1, fit, c8, mInDict, mDct, keyD, hv, hst, f1, appD]
    | cons j r =>
      rw [hA] at hv
      have hv : valD (entK (tgQ xs) d) (.inl (t - 128)) = some (.int (j : Nat)) := hv
      have hj : rowQ xs j = true := hrow j (by
        have : j ∈ d.filter (fun j => decide (tgQ xs j = t - 128)) := by rw [hA]; exact List.mem_cons_self
        exact (List.mem_filter.mp this).1)
      have hdr := dropD_ent (tgQ xs) (t - 128) d
      have hn : entK (tgQ xs) (nxtQ xs d i) = entK (tgQ xs) (d.filter fun j => decide (tgQ xs j ≠ t - 128)) := by rw [hnx]
      have hsj := said_ok hI hj
      have hp := parts1 (kd := .str "talk") (wd := .tuple [sdQ xs j, sdQ xs i]) (ps := [.int (j : Nat), .int (i : Nat)]) hI hj hr rfl rfl
      have ht : toldQ xs (j :: r) i = [talkD xs j i] := by unfold toldQ; rw [h3]; simp [c8]
      rw [ht, hn]
      unfold talkD
      generalize entK (tgQ xs) (d.filter fun j => decide (tgQ xs j ≠ t - 128)) = E2 at *
      generalize entK (tgQ xs) d = E at *
      refine ⟨.val (.int t), .val (.int (j : Nat)), ?_⟩
      generalize ns.map PyData.int = N at *
      simp [L_talks_in_0, mSeq, mIf, mBol, mBin, mBinL, mBind, mLift, mPure, mPeek, mVar, ixD, iI, bolD, mAsg, mCall1, mCallN, intD, modD, iIc, cMod, mStore, mStoreO, mDone, gSet, mOwn, mPut, setD, mRet, mDrop, mStuck, mTru, truD, mOrT, mAndT, mNotT, mAnd, mOr, mNot, mIsi, isiT_eq, typD, lenD, mCons, mTup, mLst, mLstN, mVal, oOr, addD, subD, mulD, mulI, iIc, cMul, ltD, leD, gtD, geD, gTupD, gCons2, gsNil, mCallV, mCallB, mRs, tupleD, mRetF, mChain, mScr, mScrLen, mScrIx, mMut, appD, max2D, min2D, mRng1, mRng2, rngD1, rngD2, rngOk, mItems, itemsD, mAsgN, mParEE, mParEN, mUn, negD, mCallN1, listD, unsE, powD, cPow, divD, cDiv, mFor, mSl, mSlL, slD, mNoPart, mPart, intO, mSlN, mSlNL, slN, mRevN, revO, mParNC, andD, orD, xorD, shrD, shlD, cShr, mStepN, mStepNL, stepO, mCatN, mCatNL, catN, z0, z1, za, ne_pk_pk, e1, fit, c8, mInDict, mPopDict, mDct, keyD, hv, hdr, mPutD, hsj, hsi, hp, f1, appD]

def fdQ (xs : List Iq) : Nat → List D
  | 0 => []
  | i + 1 => if rowQ xs i = true then fdQ xs i ++ toldQ xs (askL (tgQ xs) (Rw (rowQ xs) i) (tgQ xs i % 128)) i else fdQ xs i
theorem fd_len (xs : List Iq) : ∀ i, (fdQ xs i).length ≤ i
  | 0 => Nat.le_refl _
  | i + 1 => by
    have ih := fd_len xs i
    unfold fdQ
    split
    · rw [List.length_append]
      have := told_len xs (askL (tgQ xs) (Rw (rowQ xs) i) (tgQ xs i % 128)) i
      omega
    · omega
theorem dk_len (p : Nat → Bool) (T : Nat → Int) (i : Nat) : (dkQ p T i).length ≤ i := by
  rw [open_dk]
  have h1 := List.length_filter_le (opB T (Rw p i)) (Rw p i)
  have h2 := rw_len p i
  omega
theorem dk_mem {p : Nat → Bool} {T : Nat → Int} {i j : Nat} (h : j ∈ dkQ p T i) : p j = true := by
  rw [open_dk] at h
  exact (rw_mem (List.mem_filter.mp h).1).2
def TagOk (xs : List Iq) : Prop := ∀ i, rowQ xs i = true → 0 ≤ tgQ xs i ∧ tgQ xs i < 256
theorem talks_loop {I : D} {xs : List Iq} (hI : ItsQ xs I) (hl : xs.length ≤ 900) (hT : TagOk xs) : ∃ s3 s4 s5 s6, R_talks_in_0 [.val I, .own [], .dct [], .un, .un, .un, .un] = some (.ok .nx [.val I, .own (fdQ xs xs.length), .dct (entK (tgQ xs) (dkQ (rowQ xs) (tgQ xs) xs.length)), s3, s4, s5, s6]) := by
  have hi : mEnumB (mCons (mVar 0) (mPure [])) [.val I, .own [], .dct [], .un, .un, .un, .un] = some (.ok ((xs.zipIdx 0).map fun p => .tuple [.int (p.2 : Nat), itemQ p.1]) [.val I, .own [], .dct [], .un, .un, .un, .un]) := by
    rw [← enum_map]
    unfold ItsQ at hI
    generalize xs.map itemQ = X at *
    rcases hI with rfl | rfl <;> simp [mSeq, mIf, mBol, mBin, mBinL, mBind, mLift, mPure, mPeek, mVar, ixD, iI, bolD, mAsg, mCall1, mCallN, intD, modD, iIc, cMod, mStore, mStoreO, mDone, gSet, mOwn, mPut, setD, mRet, mDrop, mStuck, mTru, truD, mOrT, mAndT, mNotT, mAnd, mOr, mNot, mIsi, isiT_eq, typD, lenD, mCons, mTup, mLst, mLstN, mVal, oOr, addD, subD, mulD, mulI, iIc, cMul, ltD, leD, gtD, geD, gTupD, gCons2, gsNil, mCallV, mCallB, mRs, tupleD, mRetF, mChain, mScr, mScrLen, mScrIx, mMut, appD, max2D, min2D, mRng1, mRng2, rngD1, rngD2, rngOk, mItems, itemsD, mAsgN, mParEE, mParEN, mUn, negD, mCallN1, listD, unsE, powD, cPow, divD, cDiv, mFor, mSl, mSlL, slD, mNoPart, mPart, intO, mSlN, mSlNL, slN, mRevN, revO, mParNC, andD, orD, xorD, shrD, shlD, cShr, mStepN, mStepNL, stepO, mCatN, mCatNL, catN, mEnumB, enumBD]
  obtain ⟨ρ', h2, s3, s4, s5, s6, rfl⟩ := forL_ix (g := gTupD 2 (gCons2 (mStore 3) (gCons2 (mStore 4) gsNil))) (body := L_talks_in_0) (fun i ρ => ∃ s3 s4 s5 s6, ρ = [.val I, .own (fdQ xs i), .dct (entK (tgQ xs) (dkQ (rowQ xs) (tgQ xs) i)), s3, s4, s5, s6]) ((xs.zipIdx 0).map fun p => .tuple [.int (p.2 : Nat), itemQ p.1]) 0 [.val I, .own [], .dct [], .un, .un, .un, .un] ⟨_, _, _, _, rfl⟩ (by
    rintro j d ρ hd ⟨s3, s4, s5, s6, rfl⟩
    rw [Nat.zero_add]
    rw [List.getElem?_map, List.getElem?_zipIdx] at hd
    cases hx : xs[j]? with
    | none => rw [hx] at hd; cases hd
    | some x =>
      rw [hx] at hd
      have hd' : PyData.tuple [.int ((0 + j : Nat) : Nat), itemQ x] = d := Option.some.inj hd
      rw [Nat.zero_add] at hd'
      subst hd'
      have hj : j < xs.length := (List.getElem?_eq_some_iff.mp hx).1
      have hf := fd_len xs j
      have hdl := dk_len (rowQ xs) (tgQ xs) j
      by_cases hr : rowQ xs j = true
      · have hfind := find_dk (p := rowQ xs) (T := tgQ xs) hT j (tgQ xs j % 128)
        obtain ⟨s5', s6', q⟩ := talk_turn (I := I) (F := fdQ xs j) (d := dkQ (rowQ xs) (tgQ xs) j) (s5 := s5) (s6 := s6) hI hx hr (by omega) (by omega) (hT j hr) (fun k hk => dk_mem hk)
        rw [hfind] at q
        have ef : fdQ xs (j + 1) = fdQ xs j ++ toldQ xs (askL (tgQ xs) (Rw (rowQ xs) j) (tgQ xs j % 128)) j := by
          show (if rowQ xs j = true then _ else _) = _
          rw [if_pos hr]
        have ed : dkQ (rowQ xs) (tgQ xs) (j + 1) = nxtQ xs (dkQ (rowQ xs) (tgQ xs) j) j := rfl
        rw [ef, ed]
        exact ⟨_, _, by simp [gTupD, gCons2, gsNil, mBind, mStore, mPure], Or.inl q, _, _, _, _, rfl⟩
      · have q := talk_skip (I := I) (F := fdQ xs j) (E := entK (tgQ xs) (dkQ (rowQ xs) (tgQ xs) j)) (s5 := s5) (s6 := s6) hx hr
        have ef : fdQ xs (j + 1) = fdQ xs j := by
          show (if rowQ xs j = true then _ else _) = _
          rw [if_neg hr]
        have ed : dkQ (rowQ xs) (tgQ xs) (j + 1) = dkQ (rowQ xs) (tgQ xs) j := by
          show (if rowQ xs j = true then _ else _) = _
          rw [if_neg hr]
        rw [ef, ed]
        exact ⟨_, _, by simp [gTupD, gCons2, gsNil, mBind, mStore, mPure], Or.inr q, _, _, _, _, rfl⟩)
  rw [List.length_map, List.length_zipIdx, Nat.zero_add] at h2
  refine ⟨s3, s4, s5, s6, ?_⟩
  unfold R_talks_in_0 mFor
  rw [bind_is hi]
  exact h2
theorem ent_items (T : Nat → Int) (d : List Nat) : (entK T d).map (·.2) = d.map fun j => PyData.int (j : Nat) := by
  unfold entK
  rw [List.map_map]
  rfl
theorem vals_comp {I : D} {xs : List Iq} {F : List D} {d : List Nat} {s3 s4 s5 s6 : Sl} (hI : ItsQ xs I) (hd : d.length ≤ 900) (hrow : ∀ j ∈ d, rowQ xs j = true) :
    C_talks_in_0 [.val I, .own F, .dct (entK (tgQ xs) d), s3, s4, s5, s6] = some (.ok (d.map fun j => aloneD xs "open" j) [.val I, .own F, .un, s3, s4, s5, .un]) := by
  have hi : mVals 2 [.val I, .own F, .dct (entK (tgQ xs) d), s3, s4, s5, s6] = some (.ok (d.map fun j => PyData.int (j : Nat)) [.val I, .own F, .un, s3, s4, s5, s6]) := by
    rw [← ent_items (tgQ xs) d]
    simp [mVals]
  refine comp_is (vs := [6]) (ρe := [.val I, .own F, .un, s3, s4, s5, .un]) hi (fit_of2 (by rw [List.length_map]; omega)) ?_
  refine go_mapA (ρ := [.val I, .own F, .un, s3, s4, s5, .un]) (fun j => PyData.int (j : Nat)) (fun j => aloneD xs "open" j) d fun j hj => ?_
  have e := alone_ok (kind := "open") hI (hrow j hj)
  generalize aloneD xs "open" j = A at *
  exact ⟨[.val I, .own F, .un, s3, s4, s5, .val (.int (j : Nat))], [.val I, .own F, .un, s3, s4, s5, .val (.int (j : Nat))], by simp [mStore], by simp [mSeq, mIf, mBol, mBin, mBinL, mBind, mLift, mPure, mPeek, mVar, ixD, iI, bolD, mAsg, mCall1, mCallN, intD, modD, iIc, cMod, mStore, mStoreO, mDone, gSet, mOwn, mPut, setD, mRet, mDrop, mStuck, mTru, truD, mOrT, mAndT, mNotT, mAnd, mOr, mNot, mIsi, isiT_eq, typD, lenD, mCons, mTup, mLst, mLstN, mVal, oOr, addD, subD, mulD, mulI, iIc, cMul, ltD, leD, gtD, geD, gTupD, gCons2, gsNil, mCallV, mCallB, mRs, tupleD, mRetF, mChain, mScr, mScrLen, mScrIx, mMut, appD, max2D, min2D, mRng1, mRng2, rngD1, rngD2, rngOk, mItems, itemsD, mAsgN, mParEE, mParEN, mUn, negD, mCallN1, listD, unsE, powD, cPow, divD, cDiv, mFor, mSl, mSlL, slD, mNoPart, mPart, intO, mSlN, mSlNL, slN, mRevN, revO, mParNC, andD, orD, xorD, shrD, shlD, cShr, mStepN, mStepNL, stepO, mCatN, mCatNL, catN, e], by simp [unsE]⟩
theorem talks_in_ok {I : D} {xs : List Iq} (hI : ItsQ xs I) (hl : xs.length ≤ 900) (hT : TagOk xs) : fn_talks_in [I] = some (.ok (.tuple (fdQ xs xs.length ++ (dkQ (rowQ xs) (tgQ xs) xs.length).map fun j => aloneD xs "open" j))) := by
  obtain ⟨s3, s4, s5, s6, h1⟩ := talks_loop hI hl hT
  have hf := fd_len xs xs.length
  have hd := dk_len (rowQ xs) (tgQ xs) xs.length
  have h2 := vals_comp (I := I) (xs := xs) (F := fdQ xs xs.length) (d := dkQ (rowQ xs) (tgQ xs) xs.length) (s3 := s3) (s4 := s4) (s5 := s5) (s6 := s6) hI (by omega) (fun j hj => dk_mem hj)
  have hdm : ((dkQ (rowQ xs) (tgQ xs) xs.length).map fun j => aloneD xs "open" j).length ≤ xs.length := by rw [List.length_map]; exact hd
  have t1 : ∀ o : List D, tupleD [.list o] = some (.tuple o) := fun _ => rfl
  generalize (dkQ (rowQ xs) (tgQ xs) xs.length).map (fun j => aloneD xs "open" j) = O at *
  generalize entK (tgQ xs) (dkQ (rowQ xs) (tgQ xs) xs.length) = E at *
  generalize fdQ xs xs.length = F at *
  have f1 : F.length + O.length ≤ 16000000 := by omega
  simp [fn_talks_in, runV, m_talks_in, env0, mSeq, mIf, mBol, mBin, mBinL, mBind, mLift, mPure, mPeek, mVar, ixD, iI, bolD, mAsg, mCall1, mCallN, intD, modD, iIc, cMod, mStore, mStoreO, mDone, gSet, mOwn, mPut, setD, mRet, mDrop, mStuck, mTru, truD, mOrT, mAndT, mNotT, mAnd, mOr, mNot, mIsi, isiT_eq, typD, lenD, mCons, mTup, mLst, mLstN, mVal, oOr, addD, subD, mulD, mulI, iIc, cMul, ltD, leD, gtD, geD, gTupD, gCons2, gsNil, mCallV, mCallB, mRs, tupleD, mRetF, mChain, mScr, mScrLen, mScrIx, mMut, appD, max2D, min2D, mRng1, mRng2, rngD1, rngD2, rngOk, mItems, itemsD, mAsgN, mParEE, mParEN, mUn, negD, mCallN1, listD, unsE, powD, cPow, divD, cDiv, mFor, mSl, mSlL, slD, mNoPart, mPart, intO, mSlN, mSlNL, slN, mRevN, revO, mParNC, andD, orD, xorD, shrD, shlD, cShr, mStepN, mStepNL, stepO, mCatN, mCatNL, catN, mNewDict, h1, mExt, h2, f1, fit, t1]

theorem fm_filter {α β : Type} (p : α → Bool) (f : α → β) (l : List α) : (l.flatMap fun a => if p a = true then [f a] else []) = (l.filter p).map f := by
  induction l with
  | nil => rfl
  | cons a l ih =>
    rw [List.flatMap_cons, ih, List.filter_cons]
    by_cases h : p a = true
    · simp [h]
    · simp [h]
theorem ints_nil (ns : List Nat) : neD (.list (ns.map fun i => .int (i : Nat))) (.list []) = some (.bool (!ns.isEmpty)) ∧ eqD (.list (ns.map fun i => .int (i : Nat))) (.list []) = some (.bool ns.isEmpty) := by
  have h0 : Sh 1 (.list ([] : List D)) := Sh.list fun d hd => by cases hd
  have h1 : Sh 1 (.list (ns.map fun i => PyData.int (i : Nat))) := Sh.list fun d hd => by
    obtain ⟨i, _, rfl⟩ := List.mem_map.mp hd
    exact Sh.int _
  have s0 := h0.shaped (by omega)
  have s1 := h1.shaped (by omega)
  have e : PyData.eqv (.list (ns.map fun i => PyData.int (i : Nat))) (.list []) = ns.isEmpty := by
    cases ns with
    | nil => decide +kernel
    | cons n r => rfl
  constructor
  · unfold neD; rw [s0, s1, e]; rfl
  · unfold eqD; rw [s0, s1, e]; rfl
abbrev nI (ns : List Nat) : List D := ns.map fun i => PyData.int (i : Nat)
theorem nI_len (ns : List Nat) : (nI ns).length = ns.length := List.length_map _
theorem tag_at {xs : List Iq} {i : Nat} (h : rowQ xs i = true) : ∃ ns pl, atI (xs.map itemQ) (i : Nat) = some (.tuple [.str "packet", .tuple (.int (tgQ xs i) :: ns), .int (bgQ xs i), .int (enQ xs i), pl]) ∧ sdQ xs i = .tuple ns := by
  obtain ⟨x, t, ns, h1, _, h3, h4, h5, h6, h7⟩ := row_at h
  have a := item_at h1
  rw [h7] at a
  rw [h3, h5, h6, h4]
  exact ⟨_, _, a, rfl⟩
theorem hd0 (t : Int) (N : List D) : atI (.int t :: N) 0 = some (.int t) := atI_nat' (by omega) rfl
theorem tl1 (t : Int) (N : List D) : cutL (.int t :: N) (some 1) none = N := cut_drop _ 1
theorem z50 : ∀ p q r s t : D, atI [p, q, r, s, t] 0 = some p := fun _ _ _ _ _ => rfl
theorem z51 : ∀ p q r s t : D, atI [p, q, r, s, t] 1 = some q := fun _ _ _ _ _ => rfl
theorem z52 : ∀ p q r s t : D, atI [p, q, r, s, t] 2 = some r := fun _ _ _ _ _ => rfl
theorem z53 : ∀ p q r s t : D, atI [p, q, r, s, t] 3 = some s := fun _ _ _ _ _ => rfl
theorem md8 (i : Int) : modD (.int i) (.int 128) = some (.int (i % 128)) := rfl
/-- the rows -/
theorem rows_comp {xs : List Iq} {s1 s2 s4 s5 s6 s7 s8 s9 s3 s10 : Sl} (hl : xs.length ≤ 900) :
    C__law_talks_0 [.val (.list (xs.map itemQ)), s1, s2, s3, s4, s5, s6, s7, s8, s9, s10, .un] = some (.ok (nI (Rw (rowQ xs) xs.length)) [.val (.list (xs.map itemQ)), s1, s2, .un, s4, s5, s6, s7, s8, s9, .un, .un]) := by
  have hi : mEnum (mCons (mVar 0) (mPure [])) [.val (.list (xs.map itemQ)), s1, s2, s3, s4, s5, s6, s7, s8, s9, s10, .un] = some (.ok ((List.range xs.length).map fun i => .tuple [.int (i : Nat), (xs.map itemQ).getD i .none]) [.val (.list (xs.map itemQ)), s1, s2, s3, s4, s5, s6, s7, s8, s9, s10, .un]) := by
    have : enumL (xs.map itemQ) = (List.range xs.length).map fun i => .tuple [.int (i : Nat), (xs.map itemQ).getD i .none] := by
      unfold enumL
      rw [List.length_map]
    rw [← this]
    generalize xs.map itemQ = X at *
    simp [mSeq, mIf, mBol, mBin, mBinL, mBind, mLift, mPure, mPeek, mVar, ixD, iI, bolD, mAsg, mCall1, mCallN, intD, modD, iIc, cMod, mStore, mStoreO, mDone, gSet, mOwn, mPut, setD, mRet, mDrop, mStuck, mTru, truD, mOrT, mAndT, mNotT, mAnd, mOr, mNot, mIsi, isiT_eq, typD, lenD, mCons, mTup, mLst, mLstN, mVal, oOr, addD, subD, mulD, mulI, iIc, cMul, ltD, leD, gtD, geD, gTupD, gCons2, gsNil, mCallV, mCallB, mRs, tupleD, mRetF, mChain, mScr, mScrLen, mScrIx, mMut, appD, max2D, min2D, mRng1, mRng2, rngD1, rngD2, rngOk, mItems, itemsD, mAsgN, mParEE, mParEN, mUn, negD, mCallN1, listD, unsE, powD, cPow, divD, cDiv, mFor, mSl, mSlL, slD, mNoPart, mPart, intO, mSlN, mSlNL, slN, mRevN, revO, mParNC, andD, orD, xorD, shrD, shlD, cShr, mStepN, mStepNL, stepO, mCatN, mCatNL, catN, mEnum, enumD]
  refine comp_is (vs := [3, 10]) (ρe := [.val (.list (xs.map itemQ)), s1, s2, .un, s4, s5, s6, s7, s8, s9, .un, .un]) hi (fit_of2 (by rw [List.length_map, List.length_range]; omega)) ?_
  have ef : nI (Rw (rowQ xs) xs.length) = (List.range xs.length).flatMap fun i => if rowQ xs i = true then [PyData.int (i : Nat)] else [] := (fm_filter (rowQ xs) (fun i => PyData.int (i : Nat)) _).symm
  rw [ef]
  refine go_fm (ρ := [.val (.list (xs.map itemQ)), s1, s2, .un, s4, s5, s6, s7, s8, s9, .un, .un]) (fun i => .tuple [.int (i : Nat), (xs.map itemQ).getD i .none]) (fun i => if rowQ xs i = true then [PyData.int (i : Nat)] else []) (List.range xs.length) fun i hi => ?_
  have hlt := List.mem_range.mp hi
  have hx : xs[i]? = some xs[i] := List.getElem?_eq_getElem hlt
  have hg : (xs.map itemQ).getD i .none = itemQ xs[i] := by
    rw [List.getD_eq_getElem?_getD, List.getElem?_map, hx]; rfl
  rw [hg]
  have hrow : rowQ xs i = rowI xs[i] := by unfold rowQ; rw [hx]
  rw [hrow]
  generalize xs[i] = x at *
  generalize xs.map itemQ = X at *
  have pk_eq : eqD (.str "packet") (.str "packet") = some (.bool true) := eq_str _
  have tn_eq : eqD (.str "torn") (.str "packet") = some (.bool false) := eqF (by decide +kernel)
  have n0 : neD (.tuple []) (.tuple []) = some (.bool false) := ne_body []
  obtain ⟨pk, why, b, e, pl⟩ := x
  refine ⟨[.val (.list X), s1, s2, .val (.int (i : Nat)), s4, s5, s6, s7, s8, s9, .val (itemQ ⟨pk, why, b, e, pl⟩), .un], [.val (.list X), s1, s2, .val (.int (i : Nat)), s4, s5, s6, s7, s8, s9, .val (itemQ ⟨pk, why, b, e, pl⟩), .un], rowI ⟨pk, why, b, e, pl⟩, by simp [gTupD, gNamesD, mBind, mStore, mPure], ?_, fun hk => ⟨.int (i : Nat), [.val (.list X), s1, s2, .val (.int (i : Nat)), s4, s5, s6, s7, s8, s9, .val (itemQ ⟨pk, why, b, e, pl⟩), .un], by simp [mSeq, mIf, mBol, mBin, mBinL, mBind, mLift, mPure, mPeek, mVar, ixD, iI, bolD, mAsg, mCall1, mCallN, intD, modD, iIc, cMod, mStore, mStoreO, mDone, gSet, mOwn, mPut, setD, mRet, mDrop, mStuck, mTru, truD, mOrT, mAndT, mNotT, mAnd, mOr, mNot, mIsi, isiT_eq, typD, lenD, mCons, mTup, mLst, mLstN, mVal, oOr, addD, subD, mulD, mulI, iIc, cMul, ltD, leD, gtD, geD, gTupD, gCons2, gsNil, mCallV, mCallB, mRs, tupleD, mRetF, mChain, mScr, mScrLen, mScrIx, mMut, appD, max2D, min2D, mRng1, mRng2, rngD1, rngD2, rngOk, mItems, itemsD, mAsgN, mParEE, mParEN, mUn, negD, mCallN1, listD, unsE, powD, cPow, divD, cDiv, mFor, mSl, mSlL, slD, mNoPart, mPart, intO, mSlN, mSlNL, slN, mRevN, revO, mParNC, andD, orD, xorD, shrD, shlD, cShr, mStepN, mStepNL, stepO, mCatN, mCatNL, catN], by simp [unsE], by rw [hk]; rfl⟩, fun hk => ⟨by simp [unsE], by rw [hk]; rfl⟩⟩
  cases pk with
  | none =>
    have : itemQ ⟨none, why, b, e, pl⟩ = .tuple [.str "torn", .str why, .int b, .int e, .tuple pl] := rfl
    rw [this]
    have : rowI ⟨none, why, b, e, pl⟩ = false := rfl
    rw [this]
    simp [mSeq, mIf, mBol, mBin, mBinL, mBind, mLift, mPure, mPeek, mVar, ixD, iI, bolD, mAsg, mCall1, mCallN, intD, modD, iIc, cMod, mStore, mStoreO, mDone, gSet, mOwn, mPut, setD, mRet, mDrop, mStuck, mTru, truD, mOrT, mAndT, mNotT, mAnd, mOr, mNot, mIsi, isiT_eq, typD, lenD, mCons, mTup, mLst, mLstN, mVal, oOr, addD, subD, mulD, mulI, iIc, cMul, ltD, leD, gtD, geD, gTupD, gCons2, gsNil, mCallV, mCallB, mRs, tupleD, mRetF, mChain, mScr, mScrLen, mScrIx, mMut, appD, max2D, min2D, mRng1, mRng2, rngD1, rngD2, rngOk, mItems, itemsD, mAsgN, mParEE, mParEN, mUn, negD, mCallN1, listD, unsE, powD, cPow, divD, cDiv, mFor, mSl, mSlL, slD, mNoPart, mPart, intO, mSlN, mSlNL, slN, mRevN, revO, mParNC, andD, orD, xorD, shrD, shlD, cShr, mStepN, mStepNL, stepO, mCatN, mCatNL, catN, z50, tn_eq]
  | some l =>
    cases l with
    | nil =>
      have : itemQ ⟨some [], why, b, e, pl⟩ = .tuple [.str "packet", .tuple [], .int b, .int e, .tuple pl] := rfl
      rw [this]
      have : rowI ⟨some [], why, b, e, pl⟩ = false := rfl
      rw [this]
      simp [mSeq, mIf, mBol, mBin, mBinL, mBind, mLift, mPure, mPeek, mVar, ixD, iI, bolD, mAsg, mCall1, mCallN, intD, modD, iIc, cMod, mStore, mStoreO, mDone, gSet, mOwn, mPut, setD, mRet, mDrop, mStuck, mTru, truD, mOrT, mAndT, mNotT, mAnd, mOr, mNot, mIsi, isiT_eq, typD, lenD, mCons, mTup, mLst, mLstN, mVal, oOr, addD, subD, mulD, mulI, iIc, cMul, ltD, leD, gtD, geD, gTupD, gCons2, gsNil, mCallV, mCallB, mRs, tupleD, mRetF, mChain, mScr, mScrLen, mScrIx, mMut, appD, max2D, min2D, mRng1, mRng2, rngD1, rngD2, rngOk, mItems, itemsD, mAsgN, mParEE, mParEN, mUn, negD, mCallN1, listD, unsE, powD, cPow, divD, cDiv, mFor, mSl, mSlL, slD, mNoPart, mPart, intO, mSlN, mSlNL, slN, mRevN, revO, mParNC, andD, orD, xorD, shrD, shlD, cShr, mStepN, mStepNL, stepO, mCatN, mCatNL, catN, z50, z51, pk_eq, n0, fit]
    | cons t ns =>
      have : itemQ ⟨some (t :: ns), why, b, e, pl⟩ = .tuple [.str "packet", .tuple (.int t :: ns.map PyData.int), .int b, .int e, .tuple pl] := rfl
      rw [this]
      have : rowI ⟨some (t :: ns), why, b, e, pl⟩ = true := rfl
      rw [this]
      have n1 : neD (.tuple (.int t :: ns.map PyData.int)) (.tuple []) = some (.bool true) := ne_body (t :: ns)
      generalize ns.map PyData.int = N at *
      simp [mSeq, mIf, mBol, mBin, mBinL, mBind, mLift, mPure, mPeek, mVar, ixD, iI, bolD, mAsg, mCall1, mCallN, intD, modD, iIc, cMod, mStore, mStoreO, mDone, gSet, mOwn, mPut, setD, mRet, mDrop, mStuck, mTru, truD, mOrT, mAndT, mNotT, mAnd, mOr, mNot, mIsi, isiT_eq, typD, lenD, mCons, mTup, mLst, mLstN, mVal, oOr, addD, subD, mulD, mulI, iIc, cMul, ltD, leD, gtD, geD, gTupD, gCons2, gsNil, mCallV, mCallB, mRs, tupleD, mRetF, mChain, mScr, mScrLen, mScrIx, mMut, appD, max2D, min2D, mRng1, mRng2, rngD1, rngD2, rngOk, mItems, itemsD, mAsgN, mParEE, mParEN, mUn, negD, mCallN1, listD, unsE, powD, cPow, divD, cDiv, mFor, mSl, mSlL, slD, mNoPart, mPart, intO, mSlN, mSlNL, slN, mRevN, revO, mParNC, andD, orD, xorD, shrD, shlD, cShr, mStepN, mStepNL, stepO, mCatN, mCatNL, catN, z50, z51, pk_eq, n1, fit]

theorem alike_comp {xs : List Iq} {R : List Nat} {k : Nat} {t : Int} {s1 s5 s6 s7 s8 s9 s10 : Sl} (hR : ∀ j ∈ R, rowQ xs j = true) (hl : R.length ≤ 900) :
    C__law_talks_1 [.val (.list (xs.map itemQ)), s1, .val (.list (nI R)), .val (.int (k : Nat)), .val (.int t), s5, s6, s7, s8, s9, s10, .un] =
      some (.ok (nI (R.filter fun j => decide (j < k) && decide (tgQ xs j % 128 = t % 128))) [.val (.list (xs.map itemQ)), s1, .val (.list (nI R)), .val (.int (k : Nat)), .val (.int t), s5, s6, s7, s8, s9, s10, .un]) := by
  have hi : mItems (mVar 2) [.val (.list (xs.map itemQ)), s1, .val (.list (nI R)), .val (.int (k : Nat)), .val (.int t), s5, s6, s7, s8, s9, s10, .un] = some (.ok (nI R) [.val (.list (xs.map itemQ)), s1, .val (.list (nI R)), .val (.int (k : Nat)), .val (.int t), s5, s6, s7, s8, s9, s10, .un]) := by
    generalize nI R = N
    generalize xs.map itemQ = X
    simp [mSeq, mIf, mBol, mBin, mBinL, mBind, mLift, mPure, mPeek, mVar, ixD, iI, bolD, mAsg, mCall1, mCallN, intD, modD, iIc, cMod, mStore, mStoreO, mDone, gSet, mOwn, mPut, setD, mRet, mDrop, mStuck, mTru, truD, mOrT, mAndT, mNotT, mAnd, mOr, mNot, mIsi, isiT_eq, typD, lenD, mCons, mTup, mLst, mLstN, mVal, oOr, addD, subD, mulD, mulI, iIc, cMul, ltD, leD, gtD, geD, gTupD, gCons2, gsNil, mCallV, mCallB, mRs, tupleD, mRetF, mChain, mScr, mScrLen, mScrIx, mMut, appD, max2D, min2D, mRng1, mRng2, rngD1, rngD2, rngOk, mItems, itemsD, mAsgN, mParEE, mParEN, mUn, negD, mCallN1, listD, unsE, powD, cPow, divD, cDiv, mFor, mSl, mSlL, slD, mNoPart, mPart, intO, mSlN, mSlNL, slN, mRevN, revO, mParNC, andD, orD, xorD, shrD, shlD, cShr, mStepN, mStepNL, stepO, mCatN, mCatNL, catN]
  refine comp_is (vs := [11]) (ρe := [.val (.list (xs.map itemQ)), s1, .val (.list (nI R)), .val (.int (k : Nat)), .val (.int t), s5, s6, s7, s8, s9, s10, .un]) hi (fit_of2 (by rw [nI_len]; omega)) ?_
  have ef : nI (R.filter fun j => decide (j < k) && decide (tgQ xs j % 128 = t % 128)) = R.flatMap fun j => if (decide (j < k) && decide (tgQ xs j % 128 = t % 128)) = true then [PyData.int (j : Nat)] else [] := (fm_filter (fun j => decide (j < k) && decide (tgQ xs j % 128 = t % 128)) (fun i => PyData.int (i : Nat)) _).symm
  rw [ef]
  refine go_fm (ρ := [.val (.list (xs.map itemQ)), s1, .val (.list (nI R)), .val (.int (k : Nat)), .val (.int t), s5, s6, s7, s8, s9, s10, .un]) (fun j => PyData.int (j : Nat)) (fun j => if (decide (j < k) && decide (tgQ xs j % 128 = t % 128)) = true then [PyData.int (j : Nat)] else []) R fun j hj => ?_
  obtain ⟨ns, pl, a, _⟩ := tag_at (hR j hj)
  generalize tgQ xs j = u at *
  generalize nI R = NN at *
  generalize xs.map itemQ = X at *
  refine ⟨[.val (.list X), s1, .val (.list NN), .val (.int (k : Nat)), .val (.int t), s5, s6, s7, s8, s9, s10, .val (.int (j : Nat))], [.val (.list X), s1, .val (.list NN), .val (.int (k : Nat)), .val (.int t), s5, s6, s7, s8, s9, s10, .val (.int (j : Nat))], decide (j < k) && decide (u % 128 = t % 128), by simp [mStore], ?_, fun hk => ⟨.int (j : Nat), [.val (.list X), s1, .val (.list NN), .val (.int (k : Nat)), .val (.int t), s5, s6, s7, s8, s9, s10, .val (.int (j : Nat))], by simp [mSeq, mIf, mBol, mBin, mBinL, mBind, mLift, mPure, mPeek, mVar, ixD, iI, bolD, mAsg, mCall1, mCallN, intD, modD, iIc, cMod, mStore, mStoreO, mDone, gSet, mOwn, mPut, setD, mRet, mDrop, mStuck, mTru, truD, mOrT, mAndT, mNotT, mAnd, mOr, mNot, mIsi, isiT_eq, typD, lenD, mCons, mTup, mLst, mLstN, mVal, oOr, addD, subD, mulD, mulI, iIc, cMul, ltD, leD, gtD, geD, gTupD, gCons2, gsNil, mCallV, mCallB, mRs, tupleD, mRetF, mChain, mScr, mScrLen, mScrIx, mMut, appD, max2D, min2D, mRng1, mRng2, rngD1, rngD2, rngOk, mItems, itemsD, mAsgN, mParEE, mParEN, mUn, negD, mCallN1, listD, unsE, powD, cPow, divD, cDiv, mFor, mSl, mSlL, slD, mNoPart, mPart, intO, mSlN, mSlNL, slN, mRevN, revO, mParNC, andD, orD, xorD, shrD, shlD, cShr, mStepN, mStepNL, stepO, mCatN, mCatNL, catN], by simp [unsE], by rw [if_pos hk]⟩, fun hk => ⟨by simp [unsE], by rw [if_neg (by rw [hk]; simp)]⟩⟩
  by_cases c : j < k
  · have c' : ((j : Nat) : Int) < (k : Nat) := by omega
    simp [mSeq, mIf, mBol, mBin, mBinL, mBind, mLift, mPure, mPeek, mVar, ixD, iI, bolD, mAsg, mCall1, mCallN, intD, modD, iIc, cMod, mStore, mStoreO, mDone, gSet, mOwn, mPut, setD, mRet, mDrop, mStuck, mTru, truD, mOrT, mAndT, mNotT, mAnd, mOr, mNot, mIsi, isiT_eq, typD, lenD, mCons, mTup, mLst, mLstN, mVal, oOr, addD, subD, mulD, mulI, iIc, cMul, ltD, leD, gtD, geD, gTupD, gCons2, gsNil, mCallV, mCallB, mRs, tupleD, mRetF, mChain, mScr, mScrLen, mScrIx, mMut, appD, max2D, min2D, mRng1, mRng2, rngD1, rngD2, rngOk, mItems, itemsD, mAsgN, mParEE, mParEN, mUn, negD, mCallN1, listD, unsE, powD, cPow, divD, cDiv, mFor, mSl, mSlL, slD, mNoPart, mPart, intO, mSlN, mSlNL, slN, mRevN, revO, mParNC, andD, orD, xorD, shrD, shlD, cShr, mStepN, mStepNL, stepO, mCatN, mCatNL, catN, c, c', a, z51, hd0, eq_int]
  · have c' : ¬ ((j : Nat) : Int) < (k : Nat) := by omega
    simp [mSeq, mIf, mBol, mBin, mBinL, mBind, mLift, mPure, mPeek, mVar, ixD, iI, bolD, mAsg, mCall1, mCallN, intD, modD, iIc, cMod, mStore, mStoreO, mDone, gSet, mOwn, mPut, setD, mRet, mDrop, mStuck, mTru, truD, mOrT, mAndT, mNotT, mAnd, mOr, mNot, mIsi, isiT_eq, typD, lenD, mCons, mTup, mLst, mLstN, mVal, oOr, addD, subD, mulD, mulI, iIc, cMul, ltD, leD, gtD, geD, gTupD, gCons2, gsNil, mCallV, mCallB, mRs, tupleD, mRetF, mChain, mScr, mScrLen, mScrIx, mMut, appD, max2D, min2D, mRng1, mRng2, rngD1, rngD2, rngOk, mItems, itemsD, mAsgN, mParEE, mParEN, mUn, negD, mCallN1, listD, unsE, powD, cPow, divD, cDiv, mFor, mSl, mSlL, slD, mNoPart, mPart, intO, mSlN, mSlNL, slN, mRevN, revO, mParNC, andD, orD, xorD, shrD, shlD, cShr, mStepN, mStepNL, stepO, mCatN, mCatNL, catN, c, c', a, z51, hd0]
theorem behind_comp {xs : List Iq} {R : List Nat} {k : Nat} {t : Int} {s1 s5 s6 s7 s8 s9 s10 : Sl} (hR : ∀ j ∈ R, rowQ xs j = true) (hl : R.length ≤ 900) :
    C__law_talks_3 [.val (.list (xs.map itemQ)), s1, .val (.list (nI R)), .val (.int (k : Nat)), .val (.int t), s5, s6, s7, s8, s9, s10, .un] =
      some (.ok (nI (R.filter fun j => decide (k < j) && decide (tgQ xs j % 128 = t))) [.val (.list (xs.map itemQ)), s1, .val (.list (nI R)), .val (.int (k : Nat)), .val (.int t), s5, s6, s7, s8, s9, s10, .un]) := by
  have hi : mItems (mVar 2) [.val (.list (xs.map itemQ)), s1, .val (.list (nI R)), .val (.int (k : Nat)), .val (.int t), s5, s6, s7, s8, s9, s10, .un] = some (.ok (nI R) [.val (.list (xs.map itemQ)), s1, .val (.list (nI R)), .val (.int (k : Nat)), .val (.int t), s5, s6, s7, s8, s9, s10, .un]) := by
    generalize nI R = N
    generalize xs.map itemQ = X
    simp [mSeq, mIf, mBol, mBin, mBinL, mBind, mLift, mPure, mPeek, mVar, ixD, iI, bolD, mAsg, mCall1, mCallN, intD, modD, iIc, cMod, mStore, mStoreO, mDone, gSet, mOwn, mPut, setD, mRet, mDrop, mStuck, mTru, truD, mOrT, mAndT, mNotT, mAnd, mOr, mNot, mIsi, isiT_eq, typD, lenD, mCons, mTup, mLst, mLstN, mVal, oOr, addD, subD, mulD, mulI, iIc, cMul, ltD, leD, gtD, geD, gTupD, gCons2, gsNil, mCallV, mCallB, mRs, tupleD, mRetF, mChain, mScr, mScrLen, mScrIx, mMut, appD, max2D, min2D, mRng1, mRng2, rngD1, rngD2, rngOk, mItems, itemsD, mAsgN, mParEE, mParEN, mUn, negD, mCallN1, listD, unsE, powD, cPow, divD, cDiv, mFor, mSl, mSlL, slD, mNoPart, mPart, intO, mSlN, mSlNL, slN, mRevN, revO, mParNC, andD, orD, xorD, shrD, shlD, cShr, mStepN, mStepNL, stepO, mCatN, mCatNL, catN]
  refine comp_is (vs := [11]) (ρe := [.val (.list (xs.map itemQ)), s1, .val (.list (nI R)), .val (.int (k : Nat)), .val (.int t), s5, s6, s7, s8, s9, s10, .un]) hi (fit_of2 (by rw [nI_len]; omega)) ?_
  have ef : nI (R.filter fun j => decide (k < j) && decide (tgQ xs j % 128 = t)) = R.flatMap fun j => if (decide (k < j) && decide (tgQ xs j % 128 = t)) = true then [PyData.int (j : Nat)] else [] := (fm_filter (fun j => decide (k < j) && decide (tgQ xs j % 128 = t)) (fun i => PyData.int (i : Nat)) _).symm
  rw [ef]
  refine go_fm (ρ := [.val (.list (xs.map itemQ)), s1, .val (.list (nI R)), .val (.int (k : Nat)), .val (.int t), s5, s6, s7, s8, s9, s10, .un]) (fun j => PyData.int (j : Nat)) (fun j => if (decide (k < j) && decide (tgQ xs j % 128 = t)) = true then [PyData.int (j : Nat)] else []) R fun j hj => ?_
  obtain ⟨ns, pl, a, _⟩ := tag_at (hR j hj)
  generalize tgQ xs j = u at *
  generalize nI R = NN at *
  generalize xs.map itemQ = X at *
  refine ⟨[.val (.list X), s1, .val (.list NN), .val (.int (k : Nat)), .val (.int t), s5, s6, s7, s8, s9, s10, .val (.int (j : Nat))], [.val (.list X), s1, .val (.list NN), .val (.int (k : Nat)), .val (.int t), s5, s6, s7, s8, s9, s10, .val (.int (j : Nat))], decide (k < j) && decide (u % 128 = t), by simp [mStore], ?_, fun hk => ⟨.int (j : Nat), [.val (.list X), s1, .val (.list NN), .val (.int (k : Nat)), .val (.int t), s5, s6, s7, s8, s9, s10, .val (.int (j : Nat))], by simp [mSeq, mIf, mBol, mBin, mBinL, mBind, mLift, mPure, mPeek, mVar, ixD, iI, bolD, mAsg, mCall1, mCallN, intD, modD, iIc, cMod, mStore, mStoreO, mDone, gSet, mOwn, mPut, setD, mRet, mDrop, mStuck, mTru, truD, mOrT, mAndT, mNotT, mAnd, mOr, mNot, mIsi, isiT_eq, typD, lenD, mCons, mTup, mLst, mLstN, mVal, oOr, addD, subD, mulD, mulI, iIc, cMul, ltD, leD, gtD, geD, gTupD, gCons2, gsNil, mCallV, mCallB, mRs, tupleD, mRetF, mChain, mScr, mScrLen, mScrIx, mMut, appD, max2D, min2D, mRng1, mRng2, rngD1, rngD2, rngOk, mItems, itemsD, mAsgN, mParEE, mParEN, mUn, negD, mCallN1, listD, unsE, powD, cPow, divD, cDiv, mFor, mSl, mSlL, slD, mNoPart, mPart, intO, mSlN, mSlNL, slN, mRevN, revO, mParNC, andD, orD, xorD, shrD, shlD, cShr, mStepN, mStepNL, stepO, mCatN, mCatNL, catN], by simp [unsE], by rw [if_pos hk]⟩, fun hk => ⟨by simp [unsE], by rw [if_neg (by rw [hk]; simp)]⟩⟩
  by_cases c : k < j
  · have c' : ((k : Nat) : Int) < (j : Nat) := by omega
    simp [mSeq, mIf, mBol, mBin, mBinL, mBind, mLift, mPure, mPeek, mVar, ixD, iI, bolD, mAsg, mCall1, mCallN, intD, modD, iIc, cMod, mStore, mStoreO, mDone, gSet, mOwn, mPut, setD, mRet, mDrop, mStuck, mTru, truD, mOrT, mAndT, mNotT, mAnd, mOr, mNot, mIsi, isiT_eq, typD, lenD, mCons, mTup, mLst, mLstN, mVal, oOr, addD, subD, mulD, mulI, iIc, cMul, ltD, leD, gtD, geD, gTupD, gCons2, gsNil, mCallV, mCallB, mRs, tupleD, mRetF, mChain, mScr, mScrLen, mScrIx, mMut, appD, max2D, min2D, mRng1, mRng2, rngD1, rngD2, rngOk, mItems, itemsD, mAsgN, mParEE, mParEN, mUn, negD, mCallN1, listD, unsE, powD, cPow, divD, cDiv, mFor, mSl, mSlL, slD, mNoPart, mPart, intO, mSlN, mSlNL, slN, mRevN, revO, mParNC, andD, orD, xorD, shrD, shlD, cShr, mStepN, mStepNL, stepO, mCatN, mCatNL, catN, c, c', a, z51, hd0, eq_int]
  · have c' : ¬ ((k : Nat) : Int) < (j : Nat) := by omega
    simp [mSeq, mIf, mBol, mBin, mBinL, mBind, mLift, mPure, mPeek, mVar, ixD, iI, bolD, mAsg, mCall1, mCallN, intD, modD, iIc, cMod, mStore, mStoreO, mDone, gSet, mOwn, mPut, setD, mRet, mDrop, mStuck, mTru, truD, mOrT, mAndT, mNotT, mAnd, mOr, mNot, mIsi, isiT_eq, typD, lenD, mCons, mTup, mLst, mLstN, mVal, oOr, addD, subD, mulD, mulI, iIc, cMul, ltD, leD, gtD, geD, gTupD, gCons2, gsNil, mCallV, mCallB, mRs, tupleD, mRetF, mChain, mScr, mScrLen, mScrIx, mMut, appD, max2D, min2D, mRng1, mRng2, rngD1, rngD2, rngOk, mItems, itemsD, mAsgN, mParEE, mParEN, mUn, negD, mCallN1, listD, unsE, powD, cPow, divD, cDiv, mFor, mSl, mSlL, slD, mNoPart, mPart, intO, mSlN, mSlNL, slN, mRevN, revO, mParNC, andD, orD, xorD, shrD, shlD, cShr, mStepN, mStepNL, stepO, mCatN, mCatNL, catN, c, c', a, z51, hd0]
theorem cut_last (A : List Nat) : cutL (nI A) (some ((A.length : Int) - 1)) none = nI (A.drop (A.length - 1)) := by
  cases A with
  | nil => simp [nI, cutL]
  | cons a r =>
    have e : (((a :: r).length : Nat) : Int) - 1 = (((a :: r).length - 1 : Nat) : Int) := by simp
    rw [e, cut_drop]
    unfold nI
    rw [List.map_drop]
theorem asked_comp {xs : List Iq} {A : List Nat} {s1 s2 s3 s4 s5 s7 s8 s9 s10 : Sl} (hA : ∀ j ∈ A, rowQ xs j = true) (hl : A.length ≤ 900) :
    C__law_talks_2 [.val (.list (xs.map itemQ)), s1, s2, s3, s4, s5, .own (nI A), s7, s8, s9, s10, .un] =
      some (.ok (nI ((A.drop (A.length - 1)).filter fun j => decide (tgQ xs j < 128))) [.val (.list (xs.map itemQ)), s1, s2, s3, s4, s5, .own (nI A), s7, s8, s9, s10, .un]) := by
  have hc := cut_last A
  have hnl := nI_len A
  have hi : mItems (mSlL 6 (mPart (mBin subD (mCall1 lenD (mPeek 6)) (mPure (.int 1)))) mNoPart) [.val (.list (xs.map itemQ)), s1, s2, s3, s4, s5, .own (nI A), s7, s8, s9, s10, .un] = some (.ok (nI (A.drop (A.length - 1))) [.val (.list (xs.map itemQ)), s1, s2, s3, s4, s5, .own (nI A), s7, s8, s9, s10, .un]) := by
    generalize nI (A.drop (A.length - 1)) = B at *
    generalize nI A = N at *
    generalize xs.map itemQ = X
    simp [mSeq, mIf, mBol, mBin, mBinL, mBind, mLift, mPure, mPeek, mVar, ixD, iI, bolD, mAsg, mCall1, mCallN, intD, modD, iIc, cMod, mStore, mStoreO, mDone, gSet, mOwn, mPut, setD, mRet, mDrop, mStuck, mTru, truD, mOrT, mAndT, mNotT, mAnd, mOr, mNot, mIsi, isiT_eq, typD, lenD, mCons, mTup, mLst, mLstN, mVal, oOr, addD, subD, mulD, mulI, iIc, cMul, ltD, leD, gtD, geD, gTupD, gCons2, gsNil, mCallV, mCallB, mRs, tupleD, mRetF, mChain, mScr, mScrLen, mScrIx, mMut, appD, max2D, min2D, mRng1, mRng2, rngD1, rngD2, rngOk, mItems, itemsD, mAsgN, mParEE, mParEN, mUn, negD, mCallN1, listD, unsE, powD, cPow, divD, cDiv, mFor, mSl, mSlL, slD, mNoPart, mPart, intO, mSlN, mSlNL, slN, mRevN, revO, mParNC, andD, orD, xorD, shrD, shlD, cShr, mStepN, mStepNL, stepO, mCatN, mCatNL, catN, mSlL, mPart, mNoPart, slD, intO, hnl, hc, fit]
  refine comp_is (vs := [11]) (ρe := [.val (.list (xs.map itemQ)), s1, s2, s3, s4, s5, .own (nI A), s7, s8, s9, s10, .un]) hi (fit_of2 (by rw [nI_len, List.length_drop]; omega)) ?_
  have hB : ∀ j ∈ A.drop (A.length - 1), rowQ xs j = true := fun j hj => hA j (List.mem_of_mem_drop hj)
  generalize A.drop (A.length - 1) = B at *
  have ef : nI (B.filter fun j => decide (tgQ xs j < 128)) = B.flatMap fun j => if (decide (tgQ xs j < 128)) = true then [PyData.int (j : Nat)] else [] := (fm_filter (fun j => decide (tgQ xs j < 128)) (fun i => PyData.int (i : Nat)) _).symm
  rw [ef]
  refine go_fm (ρ := [.val (.list (xs.map itemQ)), s1, s2, s3, s4, s5, .own (nI A), s7, s8, s9, s10, .un]) (fun j => PyData.int (j : Nat)) (fun j => if (decide (tgQ xs j < 128)) = true then [PyData.int (j : Nat)] else []) B fun j hj => ?_
  obtain ⟨ns, pl, a, _⟩ := tag_at (hB j hj)
  generalize tgQ xs j = u at *
  generalize nI A = N at *
  generalize xs.map itemQ = X at *
  refine ⟨[.val (.list X), s1, s2, s3, s4, s5, .own N, s7, s8, s9, s10, .val (.int (j : Nat))], [.val (.list X), s1, s2, s3, s4, s5, .own N, s7, s8, s9, s10, .val (.int (j : Nat))], decide (u < 128), by simp [mStore], ?_, fun hk => ⟨.int (j : Nat), [.val (.list X), s1, s2, s3, s4, s5, .own N, s7, s8, s9, s10, .val (.int (j : Nat))], by simp [mSeq, mIf, mBol, mBin, mBinL, mBind, mLift, mPure, mPeek, mVar, ixD, iI, bolD, mAsg, mCall1, mCallN, intD, modD, iIc, cMod, mStore, mStoreO, mDone, gSet, mOwn, mPut, setD, mRet, mDrop, mStuck, mTru, truD, mOrT, mAndT, mNotT, mAnd, mOr, mNot, mIsi, isiT_eq, typD, lenD, mCons, mTup, mLst, mLstN, mVal, oOr, addD, subD, mulD, mulI, iIc, cMul, ltD, leD, gtD, geD, gTupD, gCons2, gsNil, mCallV, mCallB, mRs, tupleD, mRetF, mChain, mScr, mScrLen, mScrIx, mMut, appD, max2D, min2D, mRng1, mRng2, rngD1, rngD2, rngOk, mItems, itemsD, mAsgN, mParEE, mParEN, mUn, negD, mCallN1, listD, unsE, powD, cPow, divD, cDiv, mFor, mSl, mSlL, slD, mNoPart, mPart, intO, mSlN, mSlNL, slN, mRevN, revO, mParNC, andD, orD, xorD, shrD, shlD, cShr, mStepN, mStepNL, stepO, mCatN, mCatNL, catN], by simp [unsE], by rw [if_pos hk]⟩, fun hk => ⟨by simp [unsE], by rw [if_neg (by rw [hk]; simp)]⟩⟩
  simp [mSeq, mIf, mBol, mBin, mBinL, mBind, mLift, mPure, mPeek, mVar, ixD, iI, bolD, mAsg, mCall1, mCallN, intD, modD, iIc, cMod, mStore, mStoreO, mDone, gSet, mOwn, mPut, setD, mRet, mDrop, mStuck, mTru, truD, mOrT, mAndT, mNotT, mAnd, mOr, mNot, mIsi, isiT_eq, typD, lenD, mCons, mTup, mLst, mLstN, mVal, oOr, addD, subD, mulD, mulI, iIc, cMul, ltD, leD, gtD, geD, gTupD, gCons2, gsNil, mCallV, mCallB, mRs, tupleD, mRetF, mChain, mScr, mScrLen, mScrIx, mMut, appD, max2D, min2D, mRng1, mRng2, rngD1, rngD2, rngOk, mItems, itemsD, mAsgN, mParEE, mParEN, mUn, negD, mCallN1, listD, unsE, powD, cPow, divD, cDiv, mFor, mSl, mSlL, slD, mNoPart, mPart, intO, mSlN, mSlNL, slN, mRevN, revO, mParNC, andD, orD, xorD, shrD, shlD, cShr, mStepN, mStepNL, stepO, mCatN, mCatNL, catN, a, z51, hd0]

theorem lt_turn {xs : List Iq} {R : List Nat} {k : Nat} {F : List D} {s4 s5 s6 s7 s8 s9 s10 : Sl} (hk : rowQ xs k = true) (hR : ∀ j ∈ R, rowQ xs j = true) (hl : R.length ≤ 900) (hF : F.length ≤ 900) :
    ∃ t4 t5 t6 t7 t8, L__law_talks_0 [.val (.list (xs.map itemQ)), .own F, .val (.list (nI R)), .val (.int (k : Nat)), s4, s5, s6, s7, s8, s9, s10, .un] =
      some (.ok .nx [.val (.list (xs.map itemQ)), .own (F ++ toldQ xs (((R.filter fun j => decide (j < k) && decide (tgQ xs j % 128 = tgQ xs k % 128)).drop ((R.filter fun j => decide (j < k) && decide (tgQ xs j % 128 = tgQ xs k % 128)).length - 1)).filter fun j => decide (tgQ xs j < 128)) k), .val (.list (nI R)), .val (.int (k : Nat)), t4, t5, t6, t7, t8, s9, s10, .un]) := by
  obtain ⟨ns, pl, a, hsd⟩ := tag_at hk
  have c1 := alike_comp (k := k) (t := tgQ xs k) (s1 := .own F) (s5 := .val (sdQ xs k)) (s6 := s6) (s7 := s7) (s8 := s8) (s9 := s9) (s10 := s10) hR hl
  have hAr : ∀ j ∈ (R.filter fun j => decide (j < k) && decide (tgQ xs j % 128 = tgQ xs k % 128)), rowQ xs j = true := fun j hj => hR j (List.mem_filter.mp hj).1
  have hAl : (R.filter fun j => decide (j < k) && decide (tgQ xs j % 128 = tgQ xs k % 128)).length ≤ 900 := by
    have := List.length_filter_le (fun j => decide (j < k) && decide (tgQ xs j % 128 = tgQ xs k % 128)) R
    omega
  generalize (R.filter fun j => decide (j < k) && decide (tgQ xs j % 128 = tgQ xs k % 128)) = A at *
  have c2 := asked_comp (A := A) (s1 := .own F) (s2 := .val (.list (nI R))) (s3 := .val (.int (k : Nat))) (s4 := .val (.int (tgQ xs k))) (s5 := .val (sdQ xs k)) (s7 := s7) (s8 := s8) (s9 := s9) (s10 := s10) hAr hAl
  have hBr : ∀ j ∈ ((A.drop (A.length - 1)).filter fun j => decide (tgQ xs j < 128)), rowQ xs j = true := fun j hj => hAr j (List.mem_of_mem_drop (List.mem_filter.mp hj).1)
  have hBl : ((A.drop (A.length - 1)).filter fun j => decide (tgQ xs j < 128)).length ≤ 900 := by
    have := List.length_filter_le (fun j => decide (tgQ xs j < 128)) (A.drop (A.length - 1))
    rw [List.length_drop] at this
    omega
  generalize ((A.drop (A.length - 1)).filter fun j => decide (tgQ xs j < 128)) = B at *
  have fA : (nI A).length ≤ 16000000 := by rw [nI_len]; omega
  have fB : (nI B).length ≤ 16000000 := by rw [nI_len]; omega
  have f1 : F.length ≤ 16000000 := by omega
  have s1 : L__law_talks_0 [.val (.list (xs.map itemQ)), .own F, .val (.list (nI R)), .val (.int (k : Nat)), s4, s5, s6, s7, s8, s9, s10, .un] = (mIf (mAndT (mBol (mBinL ltD 4 (mPure (.int 128)))) ((mBol (mBinL neD 7 (mLst (mPure [])))))) (mSeq (mAsg (mBinL ixD 0 (mBinL ixD 7 (mPure (.int 0)))) (mStore 8))
  (mDrop (mMut 1 appD (mCons (mTup (mCons (mPure (.str "lost")) (mCons (mSl (mBinL ixD 8 (mPure (.int 1))) (mPart (mPure (.int 1))) mNoPart) (mCons (mBinL ixD 8 (mPure (.int 2))) (mCons (mBinL ixD 8 (mPure (.int 3))) (mCons (mTup (mCons (mBinL ixD 7 (mPure (.int 0))) (mPure []))) (mPure []))))))) (mPure []))))) (mIf (mAndT (mBol (mBinL gtD 4 (mPure (.int 127)))) ((mBol (mBinL neD 7 (mLst (mPure [])))))) (mSeq (mAsg (mBinL ixD 0 (mBinL ixD 7 (mPure (.int 0)))) (mStore 8))
  (mDrop (mMut 1 appD (mCons (mTup (mCons (mPure (.str "talk")) (mCons (mTup (mCons (mSl (mBinL ixD 8 (mPure (.int 1))) (mPart (mPure (.int 1))) mNoPart) (mCons (mVar 5) (mPure [])))) (mCons (mBinL ixD 8 (mPure (.int 2))) (mCons (mBin ixD (mBinL ixD 0 (mPeek 3)) (mPure (.int 3))) (mCons (mTup (mCons (mBinL ixD 7 (mPure (.int 0))) (mCons (mVar 3) (mPure [])))) (mPure []))))))) (mPure []))))) (mIf (mBol (mBinL gtD 4 (mPure (.int 127)))) (mDrop (mMut 1 appD (mCons (mTup (mCons (mPure (.str "stray")) (mCons (mVar 5) (mCons (mBin ixD (mBinL ixD 0 (mPeek 3)) (mPure (.int 2))) (mCons (mBin ixD (mBinL ixD 0 (mPeek 3)) (mPure (.int 3))) (mCons (mTup (mCons (mVar 3) (mPure []))) (mPure []))))))) (mPure [])))) (mPure .nx)))) [.val (.list (xs.map itemQ)), .own F, .val (.list (nI R)), .val (.int (k : Nat)), .val (.int (tgQ xs k)), .val (sdQ xs k), .own (nI A), .own (nI B), s8, s9, s10, .un] := by
    unfold L__law_talks_0
    refine (seq_nx (ρ' := [.val (.list (xs.map itemQ)), .own F, .val (.list (nI R)), .val (.int (k : Nat)), .val (.int (tgQ xs k)), .val (sdQ xs k), s6, s7, s8, s9, s10, .un]) ?_).trans ?_
    · clear c1 c2
      rw [hsd]
      generalize tgQ xs k = t at *
      generalize nI R = RR at *
      generalize xs.map itemQ = X at *
      simp [mSeq, mIf, mBol, mBin, mBinL, mBind, mLift, mPure, mPeek, mVar, ixD, iI, bolD, mAsg, mCall1, mCallN, intD, modD, iIc, cMod, mStore, mStoreO, mDone, gSet, mOwn, mPut, setD, mRet, mDrop, mStuck, mTru, truD, mOrT, mAndT, mNotT, mAnd, mOr, mNot, mIsi, isiT_eq, typD, lenD, mCons, mTup, mLst, mLstN, mVal, oOr, addD, subD, mulD, mulI, iIc, cMul, ltD, leD, gtD, geD, gTupD, gCons2, gsNil, mCallV, mCallB, mRs, tupleD, mRetF, mChain, mScr, mScrLen, mScrIx, mMut, appD, max2D, min2D, mRng1, mRng2, rngD1, rngD2, rngOk, mItems, itemsD, mAsgN, mParEE, mParEN, mUn, negD, mCallN1, listD, unsE, powD, cPow, divD, cDiv, mFor, mSl, mSlL, slD, mNoPart, mPart, intO, mSlN, mSlNL, slN, mRevN, revO, mParNC, andD, orD, xorD, shrD, shlD, cShr, mStepN, mStepNL, stepO, mCatN, mCatNL, catN, a, z51, hd0, mSl, mPart, mNoPart, slD, intO, tl1, fit, gTupD, gCons2, gsNil]
    refine (seq_nx (ρ' := [.val (.list (xs.map itemQ)), .own F, .val (.list (nI R)), .val (.int (k : Nat)), .val (.int (tgQ xs k)), .val (sdQ xs k), .own (nI A), s7, s8, s9, s10, .un]) ?_).trans ?_
    · generalize nI A = NA at *
      generalize nI R = RR at *
      generalize xs.map itemQ = X at *
      simp [mSeq, mIf, mBol, mBin, mBinL, mBind, mLift, mPure, mPeek, mVar, ixD, iI, bolD, mAsg, mCall1, mCallN, intD, modD, iIc, cMod, mStore, mStoreO, mDone, gSet, mOwn, mPut, setD, mRet, mDrop, mStuck, mTru, truD, mOrT, mAndT, mNotT, mAnd, mOr, mNot, mIsi, isiT_eq, typD, lenD, mCons, mTup, mLst, mLstN, mVal, oOr, addD, subD, mulD, mulI, iIc, cMul, ltD, leD, gtD, geD, gTupD, gCons2, gsNil, mCallV, mCallB, mRs, tupleD, mRetF, mChain, mScr, mScrLen, mScrIx, mMut, appD, max2D, min2D, mRng1, mRng2, rngD1, rngD2, rngOk, mItems, itemsD, mAsgN, mParEE, mParEN, mUn, negD, mCallN1, listD, unsE, powD, cPow, divD, cDiv, mFor, mSl, mSlL, slD, mNoPart, mPart, intO, mSlN, mSlNL, slN, mRevN, revO, mParNC, andD, orD, xorD, shrD, shlD, cShr, mStepN, mStepNL, stepO, mCatN, mCatNL, catN, c1, fit]
    refine (seq_nx (ρ' := [.val (.list (xs.map itemQ)), .own F, .val (.list (nI R)), .val (.int (k : Nat)), .val (.int (tgQ xs k)), .val (sdQ xs k), .own (nI A), .own (nI B), s8, s9, s10, .un]) ?_)
    generalize nI B = NB at *
    generalize nI A = NA at *
    generalize nI R = RR at *
    generalize xs.map itemQ = X at *
    simp [mSeq, mIf, mBol, mBin, mBinL, mBind, mLift, mPure, mPeek, mVar, ixD, iI, bolD, mAsg, mCall1, mCallN, intD, modD, iIc, cMod, mStore, mStoreO, mDone, gSet, mOwn, mPut, setD, mRet, mDrop, mStuck, mTru, truD, mOrT, mAndT, mNotT, mAnd, mOr, mNot, mIsi, isiT_eq, typD, lenD, mCons, mTup, mLst, mLstN, mVal, oOr, addD, subD, mulD, mulI, iIc, cMul, ltD, leD, gtD, geD, gTupD, gCons2, gsNil, mCallV, mCallB, mRs, tupleD, mRetF, mChain, mScr, mScrLen, mScrIx, mMut, appD, max2D, min2D, mRng1, mRng2, rngD1, rngD2, rngOk, mItems, itemsD, mAsgN, mParEE, mParEN, mUn, negD, mCallN1, listD, unsE, powD, cPow, divD, cDiv, mFor, mSl, mSlL, slD, mNoPart, mPart, intO, mSlN, mSlNL, slN, mRevN, revO, mParNC, andD, orD, xorD, shrD, shlD, cShr, mStepN, mStepNL, stepO, mCatN, mCatNL, catN, c2, fit]
  rw [s1]
  clear s1 c1 c2
  have hne := (ints_nil B).1
  cases B with
  | nil =>
    have hne : neD (.list []) (.list []) = some (.bool false) := hne
    have hB : nI [] = [] := rfl
    rw [hB]
    unfold toldQ
    by_cases c8 : tgQ xs k < 128
    · have c9 : ¬ 127 < tgQ xs k := by omega
      rw [if_pos c8]
      refine ⟨.val (.int (tgQ xs k)), .val (sdQ xs k), .own (nI A), .own [], s8, ?_⟩
      generalize tgQ xs k = t at *
      generalize nI A = NA at *
      generalize nI R = RR at *
      generalize xs.map itemQ = X at *
      simp [mSeq, mIf, mBol, mBin, mBinL, mBind, mLift, mPure, mPeek, mVar, ixD, iI, bolD, mAsg, mCall1, mCallN, intD, modD, iIc, cMod, mStore, mStoreO, mDone, gSet, mOwn, mPut, setD, mRet, mDrop, mStuck, mTru, truD, mOrT, mAndT, mNotT, mAnd, mOr, mNot, mIsi, isiT_eq, typD, lenD, mCons, mTup, mLst, mLstN, mVal, oOr, addD, subD, mulD, mulI, iIc, cMul, ltD, leD, gtD, geD, gTupD, gCons2, gsNil, mCallV, mCallB, mRs, tupleD, mRetF, mChain, mScr, mScrLen, mScrIx, mMut, appD, max2D, min2D, mRng1, mRng2, rngD1, rngD2, rngOk, mItems, itemsD, mAsgN, mParEE, mParEN, mUn, negD, mCallN1, listD, unsE, powD, cPow, divD, cDiv, mFor, mSl, mSlL, slD, mNoPart, mPart, intO, mSlN, mSlNL, slN, mRevN, revO, mParNC, andD, orD, xorD, shrD, shlD, cShr, mStepN, mStepNL, stepO, mCatN, mCatNL, catN, c8, c9, hne, fit]
    · have c9 : 127 < tgQ xs k := by omega
      rw [if_neg c8]
      unfold aloneD
      refine ⟨.val (.int (tgQ xs k)), .val (sdQ xs k), .own (nI A), .own [], s8, ?_⟩
      generalize tgQ xs k = t at *
      generalize nI A = NA at *
      generalize nI R = RR at *
      generalize xs.map itemQ = X at *
      generalize sdQ xs k = S at *
      simp [mSeq, mIf, mBol, mBin, mBinL, mBind, mLift, mPure, mPeek, mVar, ixD, iI, bolD, mAsg, mCall1, mCallN, intD, modD, iIc, cMod, mStore, mStoreO, mDone, gSet, mOwn, mPut, setD, mRet, mDrop, mStuck, mTru, truD, mOrT, mAndT, mNotT, mAnd, mOr, mNot, mIsi, isiT_eq, typD, lenD, mCons, mTup, mLst, mLstN, mVal, oOr, addD, subD, mulD, mulI, iIc, cMul, ltD, leD, gtD, geD, gTupD, gCons2, gsNil, mCallV, mCallB, mRs, tupleD, mRetF, mChain, mScr, mScrLen, mScrIx, mMut, appD, max2D, min2D, mRng1, mRng2, rngD1, rngD2, rngOk, mItems, itemsD, mAsgN, mParEE, mParEN, mUn, negD, mCallN1, listD, unsE, powD, cPow, divD, cDiv, mFor, mSl, mSlL, slD, mNoPart, mPart, intO, mSlN, mSlNL, slN, mRevN, revO, mParNC, andD, orD, xorD, shrD, shlD, cShr, mStepN, mStepNL, stepO, mCatN, mCatNL, catN, c8, c9, hne, fit, a, z52, z53, f1, appD]
  | cons j r =>
    have hne : neD (.list (.int (j : Nat) :: nI r)) (.list []) = some (.bool true) := hne
    have hB : nI (j :: r) = .int (j : Nat) :: nI r := rfl
    rw [hB]
    have hj := hBr j List.mem_cons_self
    obtain ⟨ms, pl2, b, hsj⟩ := tag_at hj
    by_cases c8 : tgQ xs k < 128
    · have c9 : ¬ 127 < tgQ xs k := by omega
      have ht : toldQ xs (j :: r) k = [aloneD xs "lost" j] := by unfold toldQ; simp [c8]
      rw [ht]
      unfold aloneD
      rw [hsj]
      refine ⟨.val (.int (tgQ xs k)), .val (sdQ xs k), .own (nI A), .own (.int (j : Nat) :: nI r), .val (.tuple [.str "packet", .tuple (.int (tgQ xs j) :: ms), .int (bgQ xs j), .int (enQ xs j), pl2]), ?_⟩
      generalize tgQ xs k = t at *
      generalize tgQ xs j = u at *
      generalize nI r = Nr at *
      generalize nI A = NA at *
      generalize nI R = RR at *
      generalize xs.map itemQ = X at *
      generalize sdQ xs k = S at *
      simp [mSeq, mIf, mBol, mBin, mBinL, mBind, mLift, mPure, mPeek, mVar, ixD, iI, bolD, mAsg, mCall1, mCallN, intD, modD, iIc, cMod, mStore, mStoreO, mDone, gSet, mOwn, mPut, setD, mRet, mDrop, mStuck, mTru, truD, mOrT, mAndT, mNotT, mAnd, mOr, mNot, mIsi, isiT_eq, typD, lenD, mCons, mTup, mLst, mLstN, mVal, oOr, addD, subD, mulD, mulI, iIc, cMul, ltD, leD, gtD, geD, gTupD, gCons2, gsNil, mCallV, mCallB, mRs, tupleD, mRetF, mChain, mScr, mScrLen, mScrIx, mMut, appD, max2D, min2D, mRng1, mRng2, rngD1, rngD2, rngOk, mItems, itemsD, mAsgN, mParEE, mParEN, mUn, negD, mCallN1, listD, unsE, powD, cPow, divD, cDiv, mFor, mSl, mSlL, slD, mNoPart, mPart, intO, mSlN, mSlNL, slN, mRevN, revO, mParNC, andD, orD, xorD, shrD, shlD, cShr, mStepN, mStepNL, stepO, mCatN, mCatNL, catN, c8, hne, fit, b, hd0, z51, z52, z53, f1, appD, mSl, mPart, mNoPart, slD, intO, tl1]
    · have c9 : 127 < tgQ xs k := by omega
      have ht : toldQ xs (j :: r) k = [talkD xs j k] := by unfold toldQ; simp [c8]
      rw [ht]
      unfold talkD
      rw [hsj]
      refine ⟨.val (.int (tgQ xs k)), .val (sdQ xs k), .own (nI A), .own (.int (j : Nat) :: nI r), .val (.tuple [.str "packet", .tuple (.int (tgQ xs j) :: ms), .int (bgQ xs j), .int (enQ xs j), pl2]), ?_⟩
      generalize tgQ xs k = t at *
      generalize tgQ xs j = u at *
      generalize nI r = Nr at *
      generalize nI A = NA at *
      generalize nI R = RR at *
      generalize xs.map itemQ = X at *
      generalize sdQ xs k = S at *
      simp [mSeq, mIf, mBol, mBin, mBinL, mBind, mLift, mPure, mPeek, mVar, ixD, iI, bolD, mAsg, mCall1, mCallN, intD, modD, iIc, cMod, mStore, mStoreO, mDone, gSet, mOwn, mPut, setD, mRet, mDrop, mStuck, mTru, truD, mOrT, mAndT, mNotT, mAnd, mOr, mNot, mIsi, isiT_eq, typD, lenD, mCons, mTup, mLst, mLstN, mVal, oOr, addD, subD, mulD, mulI, iIc, cMul, ltD, leD, gtD, geD, gTupD, gCons2, gsNil, mCallV, mCallB, mRs, tupleD, mRetF, mChain, mScr, mScrLen, mScrIx, mMut, appD, max2D, min2D, mRng1, mRng2, rngD1, rngD2, rngOk, mItems, itemsD, mAsgN, mParEE, mParEN, mUn, negD, mCallN1, listD, unsE, powD, cPow, divD, cDiv, mFor, mSl, mSlL, slD, mNoPart, mPart, intO, mSlN, mSlNL, slN, mRevN, revO, mParNC, andD, orD, xorD, shrD, shlD, cShr, mStepN, mStepNL, stepO, mCatN, mCatNL, catN, c8, c9, hne, fit, a, b, hd0, z51, z52, z53, f1, appD, mSl, mPart, mNoPart, slD, intO, tl1]
theorem op_turn {xs : List Iq} {R : List Nat} {k : Nat} {F : List D} {s4 s5 s6 s7 s8 s9 s10 : Sl} (hk : rowQ xs k = true) (hR : ∀ j ∈ R, rowQ xs j = true) (hl : R.length ≤ 900) (hF : F.length ≤ 1900) :
    ∃ t4 t9, L__law_talks_1 [.val (.list (xs.map itemQ)), .own F, .val (.list (nI R)), .val (.int (k : Nat)), s4, s5, s6, s7, s8, s9, s10, .un] =
      some (.ok .nx [.val (.list (xs.map itemQ)), .own (F ++ if opB (tgQ xs) R k = true then [aloneD xs "open" k] else []), .val (.list (nI R)), .val (.int (k : Nat)), t4, s5, s6, s7, s8, t9, s10, .un]) := by
  obtain ⟨ns, pl, a, hsd⟩ := tag_at hk
  have c1 := behind_comp (k := k) (t := tgQ xs k) (s1 := .own F) (s5 := s5) (s6 := s6) (s7 := s7) (s8 := s8) (s9 := s9) (s10 := s10) hR hl
  have hBl : (R.filter fun j => decide (k < j) && decide (tgQ xs j % 128 = tgQ xs k)).length ≤ 900 := by
    have := List.length_filter_le (fun j => decide (k < j) && decide (tgQ xs j % 128 = tgQ xs k)) R
    omega
  unfold opB
  generalize (R.filter fun j => decide (k < j) && decide (tgQ xs j % 128 = tgQ xs k)) = B at *
  have fB : (nI B).length ≤ 16000000 := by rw [nI_len]; omega
  have f1 : F.length ≤ 16000000 := by omega
  have heq := (ints_nil B).2
  have heq : eqD (.list (nI B)) (.list []) = some (.bool B.isEmpty) := heq
  refine ⟨.val (.int (tgQ xs k)), .own (nI B), ?_⟩
  unfold aloneD
  rw [hsd]
  generalize B.isEmpty = e at *
  generalize nI B = NB at *
  generalize nI R = RR at *
  generalize tgQ xs k = t at *
  generalize xs.map itemQ = X at *
  by_cases c8 : t < 128
  · cases e with
    | true => simp [L__law_talks_1, mSeq, mIf, mBol, mBin, mBinL, mBind, mLift, mPure, mPeek, mVar, ixD, iI, bolD, mAsg, mCall1, mCallN, intD, modD, iIc, cMod, mStore, mStoreO, mDone, gSet, mOwn, mPut, setD, mRet, mDrop, mStuck, mTru, truD, mOrT, mAndT, mNotT, mAnd, mOr, mNot, mIsi, isiT_eq, typD, lenD, mCons, mTup, mLst, mLstN, mVal, oOr, addD, subD, mulD, mulI, iIc, cMul, ltD, leD, gtD, geD, gTupD, gCons2, gsNil, mCallV, mCallB, mRs, tupleD, mRetF, mChain, mScr, mScrLen, mScrIx, mMut, appD, max2D, min2D, mRng1, mRng2, rngD1, rngD2, rngOk, mItems, itemsD, mAsgN, mParEE, mParEN, mUn, negD, mCallN1, listD, unsE, powD, cPow, divD, cDiv, mFor, mSl, mSlL, slD, mNoPart, mPart, intO, mSlN, mSlNL, slN, mRevN, revO, mParNC, andD, orD, xorD, shrD, shlD, cShr, mStepN, mStepNL, stepO, mCatN, mCatNL, catN, a, z51, z52, z53, hd0, c1, c8, heq, fit, fB, f1, appD, mSl, mPart, mNoPart, slD, intO, tl1]
    | false => simp [L__law_talks_1, mSeq, mIf, mBol, mBin, mBinL, mBind, mLift, mPure, mPeek, mVar, ixD, iI, bolD, mAsg, mCall1, mCallN, intD, modD, iIc, cMod, mStore, mStoreO, mDone, gSet, mOwn, mPut, setD, mRet, mDrop, mStuck, mTru, truD, mOrT, mAndT, mNotT, mAnd, mOr, mNot, mIsi, isiT_eq, typD, lenD, mCons, mTup, mLst, mLstN, mVal, oOr, addD, subD, mulD, mulI, iIc, cMul, ltD, leD, gtD, geD, gTupD, gCons2, gsNil, mCallV, mCallB, mRs, tupleD, mRetF, mChain, mScr, mScrLen, mScrIx, mMut, appD, max2D, min2D, mRng1, mRng2, rngD1, rngD2, rngOk, mItems, itemsD, mAsgN, mParEE, mParEN, mUn, negD, mCallN1, listD, unsE, powD, cPow, divD, cDiv, mFor, mSl, mSlL, slD, mNoPart, mPart, intO, mSlN, mSlNL, slN, mRevN, revO, mParNC, andD, orD, xorD, shrD, shlD, cShr, mStepN, mStepNL, stepO, mCatN, mCatNL, catN, a, z51, z52, z53, hd0, c1, c8, heq, fit, fB]
  · simp [L__law_talks_1, mSeq, mIf, mBol, mBin, mBinL, mBind, mLift, mPure, mPeek, mVar, ixD, iI, bolD, mAsg, mCall1, mCallN, intD, modD, iIc, cMod, mStore, mStoreO, mDone, gSet, mOwn, mPut, setD, mRet, mDrop, mStuck, mTru, truD, mOrT, mAndT, mNotT, mAnd, mOr, mNot, mIsi, isiT_eq, typD, lenD, mCons, mTup, mLst, mLstN, mVal, oOr, addD, subD, mulD, mulI, iIc, cMul, ltD, leD, gtD, geD, gTupD, gCons2, gsNil, mCallV, mCallB, mRs, tupleD, mRetF, mChain, mScr, mScrLen, mScrIx, mMut, appD, max2D, min2D, mRng1, mRng2, rngD1, rngD2, rngOk, mItems, itemsD, mAsgN, mParEE, mParEN, mUn, negD, mCallN1, listD, unsE, powD, cPow, divD, cDiv, mFor, mSl, mSlL, slD, mNoPart, mPart, intO, mSlN, mSlNL, slN, mRevN, revO, mParNC, andD, orD, xorD, shrD, shlD, cShr, mStepN, mStepNL, stepO, mCatN, mCatNL, catN, a, z51, z52, z53, hd0, c1, c8, fit, fB]

def stepQ (xs : List Iq) (k : Nat) : List D := toldQ xs (askL (tgQ xs) (Rw (rowQ xs) k) (tgQ xs k % 128)) k
theorem fd_flat (xs : List Iq) : ∀ i, fdQ xs i = (Rw (rowQ xs) i).flatMap (stepQ xs)
  | 0 => rfl
  | i + 1 => by
    rw [rw_succ, List.flatMap_append, ← fd_flat xs i]
    show (if rowQ xs i = true then _ else _) = _
    by_cases h : rowQ xs i = true
    · rw [if_pos h, if_pos h, List.flatMap_singleton]; rfl
    · rw [if_neg h, if_neg h]; simp
theorem flat_le {α : Type} (f : Nat → List α) (h : ∀ k, (f k).length ≤ 1) : ∀ L : List Nat, (L.flatMap f).length ≤ L.length
  | [] => Nat.le_refl _
  | k :: L => by
    rw [List.flatMap_cons, List.length_append, List.length_cons]
    have := h k
    have := flat_le f h L
    omega
theorem take_snoc {α : Type} {l : List α} {q : Nat} {a : α} (h : l[q]? = some a) : l.take (q + 1) = l.take q ++ [a] := by
  rw [List.take_succ, h]; rfl
theorem lt_loop {xs : List Iq} {s3 s4 s5 s6 s7 s8 s9 s10 : Sl} (hl : xs.length ≤ 900) : ∃ t3 t4 t5 t6 t7 t8, R__law_talks_0 [.val (.list (xs.map itemQ)), .own [], .own (nI (Rw (rowQ xs) xs.length)), s3, s4, s5, s6, s7, s8, s9, s10, .un] =
    some (.ok .nx [.val (.list (xs.map itemQ)), .own (fdQ xs xs.length), .val (.list (nI (Rw (rowQ xs) xs.length))), t3, t4, t5, t6, t7, t8, s9, s10, .un]) := by
  have hRr : ∀ j ∈ Rw (rowQ xs) xs.length, rowQ xs j = true := fun j hj => (rw_mem hj).2
  have hRn : ∀ j ∈ Rw (rowQ xs) xs.length, j < xs.length := fun j hj => (rw_mem hj).1
  have hRl := rw_len (rowQ xs) xs.length
  have hbf : ∀ k, k < xs.length → ∀ q : Nat → Bool, (Rw (rowQ xs) xs.length).filter (fun j => decide (j < k) && q j) = (Rw (rowQ xs) k).filter q := fun k hk q => rw_before (by omega) q
  rw [fd_flat]
  generalize Rw (rowQ xs) xs.length = R at *
  have hi : mItems (mVar 2) [.val (.list (xs.map itemQ)), .own [], .own (nI R), s3, s4, s5, s6, s7, s8, s9, s10, .un] = some (.ok (nI R) [.val (.list (xs.map itemQ)), .own [], .val (.list (nI R)), s3, s4, s5, s6, s7, s8, s9, s10, .un]) := by
    generalize nI R = N
    generalize xs.map itemQ = X
    simp [mSeq, mIf, mBol, mBin, mBinL, mBind, mLift, mPure, mPeek, mVar, ixD, iI, bolD, mAsg, mCall1, mCallN, intD, modD, iIc, cMod, mStore, mStoreO, mDone, gSet, mOwn, mPut, setD, mRet, mDrop, mStuck, mTru, truD, mOrT, mAndT, mNotT, mAnd, mOr, mNot, mIsi, isiT_eq, typD, lenD, mCons, mTup, mLst, mLstN, mVal, oOr, addD, subD, mulD, mulI, iIc, cMul, ltD, leD, gtD, geD, gTupD, gCons2, gsNil, mCallV, mCallB, mRs, tupleD, mRetF, mChain, mScr, mScrLen, mScrIx, mMut, appD, max2D, min2D, mRng1, mRng2, rngD1, rngD2, rngOk, mItems, itemsD, mAsgN, mParEE, mParEN, mUn, negD, mCallN1, listD, unsE, powD, cPow, divD, cDiv, mFor, mSl, mSlL, slD, mNoPart, mPart, intO, mSlN, mSlNL, slN, mRevN, revO, mParNC, andD, orD, xorD, shrD, shlD, cShr, mStepN, mStepNL, stepO, mCatN, mCatNL, catN]
  obtain ⟨ρ', h2, t3, t4, t5, t6, t7, t8, rfl⟩ := forL_ix (g := mStore 3) (body := L__law_talks_0) (fun q ρ => ∃ t3 t4 t5 t6 t7 t8, ρ = [.val (.list (xs.map itemQ)), .own ((R.take q).flatMap (stepQ xs)), .val (.list (nI R)), t3, t4, t5, t6, t7, t8, s9, s10, .un]) (nI R) 0 [.val (.list (xs.map itemQ)), .own [], .val (.list (nI R)), s3, s4, s5, s6, s7, s8, s9, s10, .un] ⟨_, _, _, _, _, _, rfl⟩ (by
    rintro q d ρ hd ⟨t3, t4, t5, t6, t7, t8, rfl⟩
    rw [Nat.zero_add]
    rw [List.getElem?_map] at hd
    cases hq : R[q]? with
    | none => rw [hq] at hd; cases hd
    | some k =>
      rw [hq] at hd
      have hd' : PyData.int (k : Nat) = d := Option.some.inj hd
      subst hd'
      have hkR : k ∈ R := List.mem_of_getElem? hq
      have hfl := flat_le (stepQ xs) (fun k => told_len _ _ _) (R.take q)
      rw [List.length_take] at hfl
      obtain ⟨a4, a5, a6, a7, a8, e⟩ := lt_turn (R := R) (F := (R.take q).flatMap (stepQ xs)) (s4 := t4) (s5 := t5) (s6 := t6) (s7 := t7) (s8 := t8) (s9 := s9) (s10 := s10) (hRr k hkR) hRr (by omega) (by omega)
      rw [hbf k (hRn k hkR)] at e
      rw [take_snoc hq, List.flatMap_append, List.flatMap_singleton]
      exact ⟨[.val (.list (xs.map itemQ)), .own ((R.take q).flatMap (stepQ xs)), .val (.list (nI R)), .val (.int (k : Nat)), t4, t5, t6, t7, t8, s9, s10, .un], _, by simp [mStore], Or.inl e, _, _, _, _, _, _, rfl⟩)
  rw [nI_len, Nat.zero_add, List.take_length] at h2
  refine ⟨t3, t4, t5, t6, t7, t8, ?_⟩
  unfold R__law_talks_0 mFor
  rw [bind_is hi]
  exact h2
theorem op_loop {xs : List Iq} {R : List Nat} {F : List D} {s3 s4 s5 s6 s7 s8 s9 s10 : Sl} (hRr : ∀ j ∈ R, rowQ xs j = true) (hRl : R.length ≤ 900) (hF : F.length ≤ 900) : ∃ t3 t4 t9, R__law_talks_1 [.val (.list (xs.map itemQ)), .own F, .val (.list (nI R)), s3, s4, s5, s6, s7, s8, s9, s10, .un] =
    some (.ok .nx [.val (.list (xs.map itemQ)), .own (F ++ (R.filter (opB (tgQ xs) R)).map fun k => aloneD xs "open" k), .val (.list (nI R)), t3, t4, s5, s6, s7, s8, t9, s10, .un]) := by
  rw [← fm_filter (opB (tgQ xs) R) (fun k => aloneD xs "open" k) R]
  have hi : mItems (mVar 2) [.val (.list (xs.map itemQ)), .own F, .val (.list (nI R)), s3, s4, s5, s6, s7, s8, s9, s10, .un] = some (.ok (nI R) [.val (.list (xs.map itemQ)), .own F, .val (.list (nI R)), s3, s4, s5, s6, s7, s8, s9, s10, .un]) := by
    generalize nI R = N
    generalize xs.map itemQ = X
    simp [mSeq, mIf, mBol, mBin, mBinL, mBind, mLift, mPure, mPeek, mVar, ixD, iI, bolD, mAsg, mCall1, mCallN, intD, modD, iIc, cMod, mStore, mStoreO, mDone, gSet, mOwn, mPut, setD, mRet, mDrop, mStuck, mTru, truD, mOrT, mAndT, mNotT, mAnd, mOr, mNot, mIsi, isiT_eq, typD, lenD, mCons, mTup, mLst, mLstN, mVal, oOr, addD, subD, mulD, mulI, iIc, cMul, ltD, leD, gtD, geD, gTupD, gCons2, gsNil, mCallV, mCallB, mRs, tupleD, mRetF, mChain, mScr, mScrLen, mScrIx, mMut, appD, max2D, min2D, mRng1, mRng2, rngD1, rngD2, rngOk, mItems, itemsD, mAsgN, mParEE, mParEN, mUn, negD, mCallN1, listD, unsE, powD, cPow, divD, cDiv, mFor, mSl, mSlL, slD, mNoPart, mPart, intO, mSlN, mSlNL, slN, mRevN, revO, mParNC, andD, orD, xorD, shrD, shlD, cShr, mStepN, mStepNL, stepO, mCatN, mCatNL, catN]
  obtain ⟨ρ', h2, t3, t4, t9, rfl⟩ := forL_ix (g := mStore 3) (body := L__law_talks_1) (fun q ρ => ∃ t3 t4 t9, ρ = [.val (.list (xs.map itemQ)), .own (F ++ (R.take q).flatMap fun k => if opB (tgQ xs) R k = true then [aloneD xs "open" k] else []), .val (.list (nI R)), t3, t4, s5, s6, s7, s8, t9, s10, .un]) (nI R) 0 [.val (.list (xs.map itemQ)), .own F, .val (.list (nI R)), s3, s4, s5, s6, s7, s8, s9, s10, .un] ⟨_, _, _, by rw [List.take_zero, List.flatMap_nil, List.append_nil]⟩ (by
    rintro q d ρ hd ⟨t3, t4, t9, rfl⟩
    rw [Nat.zero_add]
    rw [List.getElem?_map] at hd
    cases hq : R[q]? with
    | none => rw [hq] at hd; cases hd
    | some k =>
      rw [hq] at hd
      have hd' : PyData.int (k : Nat) = d := Option.some.inj hd
      subst hd'
      have hkR : k ∈ R := List.mem_of_getElem? hq
      have hfl := flat_le (fun k => if opB (tgQ xs) R k = true then [aloneD xs "open" k] else []) (fun k => by split <;> simp) (R.take q)
      rw [List.length_take] at hfl
      obtain ⟨a4, a9, e⟩ := op_turn (R := R) (F := F ++ (R.take q).flatMap fun k => if opB (tgQ xs) R k = true then [aloneD xs "open" k] else []) (s4 := t4) (s5 := s5) (s6 := s6) (s7 := s7) (s8 := s8) (s9 := t9) (s10 := s10) (hRr k hkR) hRr (by omega) (by rw [List.length_append]; omega)
      rw [take_snoc hq, List.flatMap_append, List.flatMap_singleton, ← List.append_assoc]
      exact ⟨[.val (.list (xs.map itemQ)), .own (F ++ (R.take q).flatMap fun k => if opB (tgQ xs) R k = true then [aloneD xs "open" k] else []), .val (.list (nI R)), .val (.int (k : Nat)), t4, s5, s6, s7, s8, t9, s10, .un], _, by simp [mStore], Or.inl e, _, _, _, rfl⟩)
  rw [nI_len, Nat.zero_add, List.take_length] at h2
  refine ⟨t3, t4, t9, ?_⟩
  unfold R__law_talks_1 mFor
  rw [bind_is hi]
  exact h2
theorem law_talks_ok {xs : List Iq} (hl : xs.length ≤ 900) : fn__law_talks [.list (xs.map itemQ)] = some (.ok (.list (fdQ xs xs.length ++ (dkQ (rowQ xs) (tgQ xs) xs.length).map fun j => aloneD xs "open" j))) := by
  have h1 := rows_comp (xs := xs) (s1 := .own []) (s2 := .un) (s3 := .un) (s4 := .un) (s5 := .un) (s6 := .un) (s7 := .un) (s8 := .un) (s9 := .un) (s10 := .un) hl
  obtain ⟨t3, t4, t5, t6, t7, t8, h2⟩ := lt_loop (xs := xs) (s3 := .un) (s4 := .un) (s5 := .un) (s6 := .un) (s7 := .un) (s8 := .un) (s9 := .un) (s10 := .un) hl
  have hRl := rw_len (rowQ xs) xs.length
  have hf := fd_len xs xs.length
  obtain ⟨u3, u4, u9, h3⟩ := op_loop (xs := xs) (R := Rw (rowQ xs) xs.length) (F := fdQ xs xs.length) (s3 := t3) (s4 := t4) (s5 := t5) (s6 := t6) (s7 := t7) (s8 := t8) (s9 := .un) (s10 := .un) (fun j hj => (rw_mem hj).2) (by omega) (by omega)
  rw [← open_dk] at h3
  have fR : (nI (Rw (rowQ xs) xs.length)).length ≤ 16000000 := by rw [nI_len]; omega
  generalize fdQ xs xs.length ++ (dkQ (rowQ xs) (tgQ xs) xs.length).map (fun j => aloneD xs "open" j) = O at *
  generalize fdQ xs xs.length = F at *
  generalize nI (Rw (rowQ xs) xs.length) = N at *
  generalize xs.map itemQ = X at *
  simp [fn__law_talks, runV, m__law_talks, env0, mSeq, mIf, mBol, mBin, mBinL, mBind, mLift, mPure, mPeek, mVar, ixD, iI, bolD, mAsg, mCall1, mCallN, intD, modD, iIc, cMod, mStore, mStoreO, mDone, gSet, mOwn, mPut, setD, mRet, mDrop, mStuck, mTru, truD, mOrT, mAndT, mNotT, mAnd, mOr, mNot, mIsi, isiT_eq, typD, lenD, mCons, mTup, mLst, mLstN, mVal, oOr, addD, subD, mulD, mulI, iIc, cMul, ltD, leD, gtD, geD, gTupD, gCons2, gsNil, mCallV, mCallB, mRs, tupleD, mRetF, mChain, mScr, mScrLen, mScrIx, mMut, appD, max2D, min2D, mRng1, mRng2, rngD1, rngD2, rngOk, mItems, itemsD, mAsgN, mParEE, mParEN, mUn, negD, mCallN1, listD, unsE, powD, cPow, divD, cDiv, mFor, mSl, mSlL, slD, mNoPart, mPart, intO, mSlN, mSlNL, slN, mRevN, revO, mParNC, andD, orD, xorD, shrD, shlD, cShr, mStepN, mStepNL, stepO, mCatN, mCatNL, catN, h1, h2, h3, fit, fR]

/-! ### items as the law draws them -/
structure Gt (x : Iq) : Prop where
  pk : ∀ ns, x.pk = some ns → ns.length ≤ 45 ∧ ∀ n ∈ ns, By n
  w : x.pk = none → x.why = "word" ∨ x.why = "long" ∨ x.why = "check" ∨ x.why = "end"
  b : 0 ≤ x.b ∧ x.b < 10000000
  e : 0 ≤ x.e ∧ x.e < 10000000
  pl : ∃ a c : Int, x.pl = rngL a c ∧ 0 ≤ a ∧ a ≤ c ∧ c ≤ a + 60 ∧ c < 10000000
def hdP (pk : Option (List Int)) : D := match pk with
  | some _ => .str "packet"
  | none => .str "torn"
def whP (pk : Option (List Int)) (why : Str) : D := match pk with
  | some ns => .tuple (ns.map PyData.int)
  | none => .str why
def WhOk (pk : Option (List Int)) (why : Str) : Prop := (∀ ns, pk = some ns → ns.length ≤ 45 ∧ ∀ n ∈ ns, By n) ∧ (pk = none → why = "word" ∨ why = "long" ∨ why = "check" ∨ why = "end")
theorem form_ok {Rst : M Fl} {bs F TG : List D} {bd p t form tag : Int} {ns : List Int} {s6 s9 s12 s13 : Sl} (hb : Bx bs) (h45 : ns.length ≤ 45) (hby : ∀ n ∈ ns, By n) :
    ∃ (pk : Option (List Int)) (why : Str) (many : Int) (bs' : List D), mSeq (mIf (mBol (mBinL eqD 7 (mPure (.int 0)))) (mAsg (mTup (mPure [])) (mStore 11)) (mPure .nx))
  (mSeq (mIf (mBol (mBinL eqD 7 (mPure (.int 1)))) (mAsg (mTup (mCons (mCallB 0 2 fn__law_take (mCons (mPure (.int 256)) (mPure []))) (mPure []))) (mStore 11)) (mPure .nx))
  (mSeq (mAsg (mBin addD (mPure (.int 3)) (mCall1 lenD (mPeek 11))) (mStore 12))
  (mSeq (mIf (mBol (mBinL eqD 7 (mPure (.int 2)))) (mPar3 10 11 12 (mPure (.str "torn")) (mBin ixD (mLst (mCons (mPure (.str "word")) (mCons (mPure (.str "long")) (mCons (mPure (.str "check")) (mPure []))))) (mCallB 0 2 fn__law_take (mCons (mPure (.int 3)) (mPure [])))) (mPure (.int 1))) (mPure .nx)) Rst)))
      [.io bs, .val (.int bd), .own F, .val (.int p), .val (.int t), .own TG, s6, .val (.int form), .val (.int tag), s9, .val (.str "packet"), .val (.tuple (ns.map PyData.int)), s12, s13] =
    Rst [.io bs', .val (.int bd), .own F, .val (.int p), .val (.int t), .own TG, s6, .val (.int form), .val (.int tag), s9, .val (hdP pk), .val (whP pk why), .val (.int many), s13] ∧ Bx bs' ∧ WhOk pk why ∧ 1 ≤ many ∧ many ≤ 48 := by
  by_cases c0 : form = 0
  · subst c0
    refine ⟨some [], "", 3, bs, ?_, hb, ⟨fun ns h => by cases h; exact ⟨Nat.zero_le _, fun n h => by cases h⟩, fun h => by cases h⟩, by omega, by omega⟩
    refine (seq_nx (ρ' := [.io bs, .val (.int bd), .own F, .val (.int p), .val (.int t), .own TG, s6, .val (.int 0), .val (.int tag), s9, .val (.str "packet"), .val (.tuple []), s12, s13]) ?_).trans ?_
    · simp [mSeq, mIf, mBol, mBin, mBinL, mBind, mLift, mPure, mPeek, mVar, ixD, iI, bolD, mAsg, mCall1, mCallN, intD, modD, iIc, cMod, mStore, mStoreO, mDone, gSet, mOwn, mPut, setD, mRet, mDrop, mStuck, mTru, truD, mOrT, mAndT, mNotT, mAnd, mOr, mNot, mIsi, isiT_eq, typD, lenD, mCons, mTup, mLst, mLstN, mVal, oOr, addD, subD, mulD, mulI, iIc, cMul, ltD, leD, gtD, geD, gTupD, gCons2, gsNil, mCallV, mCallB, mRs, tupleD, mRetF, mChain, mScr, mScrLen, mScrIx, mMut, appD, max2D, min2D, mRng1, mRng2, rngD1, rngD2, rngOk, mItems, itemsD, mAsgN, mParEE, mParEN, mUn, negD, mCallN1, listD, unsE, powD, cPow, divD, cDiv, mFor, mSl, mSlL, slD, mNoPart, mPart, intO, mSlN, mSlNL, slN, mRevN, revO, mParNC, andD, orD, xorD, shrD, shlD, cShr, mStepN, mStepNL, stepO, mCatN, mCatNL, catN, eq_int, fit]
    refine (seq_nx (ρ' := [.io bs, .val (.int bd), .own F, .val (.int p), .val (.int t), .own TG, s6, .val (.int 0), .val (.int tag), s9, .val (.str "packet"), .val (.tuple []), s12, s13]) ?_).trans ?_
    · simp [mSeq, mIf, mBol, mBin, mBinL, mBind, mLift, mPure, mPeek, mVar, ixD, iI, bolD, mAsg, mCall1, mCallN, intD, modD, iIc, cMod, mStore, mStoreO, mDone, gSet, mOwn, mPut, setD, mRet, mDrop, mStuck, mTru, truD, mOrT, mAndT, mNotT, mAnd, mOr, mNot, mIsi, isiT_eq, typD, lenD, mCons, mTup, mLst, mLstN, mVal, oOr, addD, subD, mulD, mulI, iIc, cMul, ltD, leD, gtD, geD, gTupD, gCons2, gsNil, mCallV, mCallB, mRs, tupleD, mRetF, mChain, mScr, mScrLen, mScrIx, mMut, appD, max2D, min2D, mRng1, mRng2, rngD1, rngD2, rngOk, mItems, itemsD, mAsgN, mParEE, mParEN, mUn, negD, mCallN1, listD, unsE, powD, cPow, divD, cDiv, mFor, mSl, mSlL, slD, mNoPart, mPart, intO, mSlN, mSlNL, slN, mRevN, revO, mParNC, andD, orD, xorD, shrD, shlD, cShr, mStepN, mStepNL, stepO, mCatN, mCatNL, catN, eq_int]
    refine (seq_nx (ρ' := [.io bs, .val (.int bd), .own F, .val (.int p), .val (.int t), .own TG, s6, .val (.int 0), .val (.int tag), s9, .val (.str "packet"), .val (.tuple []), .val (.int 3), s13]) ?_).trans ?_
    · simp [mSeq, mIf, mBol, mBin, mBinL, mBind, mLift, mPure, mPeek, mVar, ixD, iI, bolD, mAsg, mCall1, mCallN, intD, modD, iIc, cMod, mStore, mStoreO, mDone, gSet, mOwn, mPut, setD, mRet, mDrop, mStuck, mTru, truD, mOrT, mAndT, mNotT, mAnd, mOr, mNot, mIsi, isiT_eq, typD, lenD, mCons, mTup, mLst, mLstN, mVal, oOr, addD, subD, mulD, mulI, iIc, cMul, ltD, leD, gtD, geD, gTupD, gCons2, gsNil, mCallV, mCallB, mRs, tupleD, mRetF, mChain, mScr, mScrLen, mScrIx, mMut, appD, max2D, min2D, mRng1, mRng2, rngD1, rngD2, rngOk, mItems, itemsD, mAsgN, mParEE, mParEN, mUn, negD, mCallN1, listD, unsE, powD, cPow, divD, cDiv, mFor, mSl, mSlL, slD, mNoPart, mPart, intO, mSlN, mSlNL, slN, mRevN, revO, mParNC, andD, orD, xorD, shrD, shlD, cShr, mStepN, mStepNL, stepO, mCatN, mCatNL, catN, fit]
    refine (seq_nx (ρ' := [.io bs, .val (.int bd), .own F, .val (.int p), .val (.int t), .own TG, s6, .val (.int 0), .val (.int tag), s9, .val (.str "packet"), .val (.tuple []), .val (.int 3), s13]) ?_)
    simp [mSeq, mIf, mBol, mBin, mBinL, mBind, mLift, mPure, mPeek, mVar, ixD, iI, bolD, mAsg, mCall1, mCallN, intD, modD, iIc, cMod, mStore, mStoreO, mDone, gSet, mOwn, mPut, setD, mRet, mDrop, mStuck, mTru, truD, mOrT, mAndT, mNotT, mAnd, mOr, mNot, mIsi, isiT_eq, typD, lenD, mCons, mTup, mLst, mLstN, mVal, oOr, addD, subD, mulD, mulI, iIc, cMul, ltD, leD, gtD, geD, gTupD, gCons2, gsNil, mCallV, mCallB, mRs, tupleD, mRetF, mChain, mScr, mScrLen, mScrIx, mMut, appD, max2D, min2D, mRng1, mRng2, rngD1, rngD2, rngOk, mItems, itemsD, mAsgN, mParEE, mParEN, mUn, negD, mCallN1, listD, unsE, powD, cPow, divD, cDiv, mFor, mSl, mSlL, slD, mNoPart, mPart, intO, mSlN, mSlNL, slN, mRevN, revO, mParNC, andD, orD, xorD, shrD, shlD, cShr, mStepN, mStepNL, stepO, mCatN, mCatNL, catN, eq_int]
  by_cases c1 : form = 1
  · subst c1
    obtain ⟨v, b1, e1, v0, v1, hb1⟩ := take_ok (m := 256) hb (by omega) (by omega)
    refine ⟨some [v], "", 4, b1, ?_, hb1, ⟨fun ns h => by cases h; exact ⟨by simp, fun n h => by rw [List.mem_singleton.mp h]; exact ⟨v0, v1⟩⟩, fun h => by cases h⟩, by omega, by omega⟩
    refine (seq_nx (ρ' := [.io bs, .val (.int bd), .own F, .val (.int p), .val (.int t), .own TG, s6, .val (.int 1), .val (.int tag), s9, .val (.str "packet"), .val (.tuple (ns.map PyData.int)), s12, s13]) ?_).trans ?_
    · generalize ns.map PyData.int = N
      simp [mSeq, mIf, mBol, mBin, mBinL, mBind, mLift, mPure, mPeek, mVar, ixD, iI, bolD, mAsg, mCall1, mCallN, intD, modD, iIc, cMod, mStore, mStoreO, mDone, gSet, mOwn, mPut, setD, mRet, mDrop, mStuck, mTru, truD, mOrT, mAndT, mNotT, mAnd, mOr, mNot, mIsi, isiT_eq, typD, lenD, mCons, mTup, mLst, mLstN, mVal, oOr, addD, subD, mulD, mulI, iIc, cMul, ltD, leD, gtD, geD, gTupD, gCons2, gsNil, mCallV, mCallB, mRs, tupleD, mRetF, mChain, mScr, mScrLen, mScrIx, mMut, appD, max2D, min2D, mRng1, mRng2, rngD1, rngD2, rngOk, mItems, itemsD, mAsgN, mParEE, mParEN, mUn, negD, mCallN1, listD, unsE, powD, cPow, divD, cDiv, mFor, mSl, mSlL, slD, mNoPart, mPart, intO, mSlN, mSlNL, slN, mRevN, revO, mParNC, andD, orD, xorD, shrD, shlD, cShr, mStepN, mStepNL, stepO, mCatN, mCatNL, catN, eq_int]
    refine (seq_nx (ρ' := [.io b1, .val (.int bd), .own F, .val (.int p), .val (.int t), .own TG, s6, .val (.int 1), .val (.int tag), s9, .val (.str "packet"), .val (.tuple [.int v]), s12, s13]) ?_).trans ?_
    · generalize ns.map PyData.int = N
      simp [mSeq, mIf, mBol, mBin, mBinL, mBind, mLift, mPure, mPeek, mVar, ixD, iI, bolD, mAsg, mCall1, mCallN, intD, modD, iIc, cMod, mStore, mStoreO, mDone, gSet, mOwn, mPut, setD, mRet, mDrop, mStuck, mTru, truD, mOrT, mAndT, mNotT, mAnd, mOr, mNot, mIsi, isiT_eq, typD, lenD, mCons, mTup, mLst, mLstN, mVal, oOr, addD, subD, mulD, mulI, iIc, cMul, ltD, leD, gtD, geD, gTupD, gCons2, gsNil, mCallV, mCallB, mRs, tupleD, mRetF, mChain, mScr, mScrLen, mScrIx, mMut, appD, max2D, min2D, mRng1, mRng2, rngD1, rngD2, rngOk, mItems, itemsD, mAsgN, mParEE, mParEN, mUn, negD, mCallN1, listD, unsE, powD, cPow, divD, cDiv, mFor, mSl, mSlL, slD, mNoPart, mPart, intO, mSlN, mSlNL, slN, mRevN, revO, mParNC, andD, orD, xorD, shrD, shlD, cShr, mStepN, mStepNL, stepO, mCatN, mCatNL, catN, eq_int, e1, fit]
    refine (seq_nx (ρ' := [.io b1, .val (.int bd), .own F, .val (.int p), .val (.int t), .own TG, s6, .val (.int 1), .val (.int tag), s9, .val (.str "packet"), .val (.tuple [.int v]), .val (.int 4), s13]) ?_).trans ?_
    · simp [mSeq, mIf, mBol, mBin, mBinL, mBind, mLift, mPure, mPeek, mVar, ixD, iI, bolD, mAsg, mCall1, mCallN, intD, modD, iIc, cMod, mStore, mStoreO, mDone, gSet, mOwn, mPut, setD, mRet, mDrop, mStuck, mTru, truD, mOrT, mAndT, mNotT, mAnd, mOr, mNot, mIsi, isiT_eq, typD, lenD, mCons, mTup, mLst, mLstN, mVal, oOr, addD, subD, mulD, mulI, iIc, cMul, ltD, leD, gtD, geD, gTupD, gCons2, gsNil, mCallV, mCallB, mRs, tupleD, mRetF, mChain, mScr, mScrLen, mScrIx, mMut, appD, max2D, min2D, mRng1, mRng2, rngD1, rngD2, rngOk, mItems, itemsD, mAsgN, mParEE, mParEN, mUn, negD, mCallN1, listD, unsE, powD, cPow, divD, cDiv, mFor, mSl, mSlL, slD, mNoPart, mPart, intO, mSlN, mSlNL, slN, mRevN, revO, mParNC, andD, orD, xorD, shrD, shlD, cShr, mStepN, mStepNL, stepO, mCatN, mCatNL, catN, fit]
    refine (seq_nx (ρ' := [.io b1, .val (.int bd), .own F, .val (.int p), .val (.int t), .own TG, s6, .val (.int 1), .val (.int tag), s9, .val (.str "packet"), .val (.tuple [.int v]), .val (.int 4), s13]) ?_)
    simp [mSeq, mIf, mBol, mBin, mBinL, mBind, mLift, mPure, mPeek, mVar, ixD, iI, bolD, mAsg, mCall1, mCallN, intD, modD, iIc, cMod, mStore, mStoreO, mDone, gSet, mOwn, mPut, setD, mRet, mDrop, mStuck, mTru, truD, mOrT, mAndT, mNotT, mAnd, mOr, mNot, mIsi, isiT_eq, typD, lenD, mCons, mTup, mLst, mLstN, mVal, oOr, addD, subD, mulD, mulI, iIc, cMul, ltD, leD, gtD, geD, gTupD, gCons2, gsNil, mCallV, mCallB, mRs, tupleD, mRetF, mChain, mScr, mScrLen, mScrIx, mMut, appD, max2D, min2D, mRng1, mRng2, rngD1, rngD2, rngOk, mItems, itemsD, mAsgN, mParEE, mParEN, mUn, negD, mCallN1, listD, unsE, powD, cPow, divD, cDiv, mFor, mSl, mSlL, slD, mNoPart, mPart, intO, mSlN, mSlNL, slN, mRevN, revO, mParNC, andD, orD, xorD, shrD, shlD, cShr, mStepN, mStepNL, stepO, mCatN, mCatNL, catN, eq_int]
  have hl : (ns.map PyData.int).length = ns.length := List.length_map _
  by_cases c2 : form = 2
  · subst c2
    obtain ⟨v, b1, e1, v0, v1, hb1⟩ := take_ok (m := 3) hb (by omega) (by omega)
    obtain ⟨w, ew, hw⟩ : ∃ w : String, atI [PyData.str "word", .str "long", .str "check"] v = some (.str w) ∧ (w = "word" ∨ w = "long" ∨ w = "check") := by
      rcases (show v = 0 ∨ v = 1 ∨ v = 2 by omega) with rfl | rfl | rfl
      · exact ⟨_, rfl, .inl rfl⟩
      · exact ⟨_, rfl, .inr (.inl rfl)⟩
      · exact ⟨_, rfl, .inr (.inr rfl)⟩
    refine ⟨none, w, 1, b1, ?_, hb1, ⟨fun ns h => (by cases h), fun _ => by rcases hw with rfl | rfl | rfl <;> simp⟩, by omega, by omega⟩
    refine (seq_nx (ρ' := [.io bs, .val (.int bd), .own F, .val (.int p), .val (.int t), .own TG, s6, .val (.int 2), .val (.int tag), s9, .val (.str "packet"), .val (.tuple (ns.map PyData.int)), s12, s13]) ?_).trans ?_
    · generalize ns.map PyData.int = N
      simp [mSeq, mIf, mBol, mBin, mBinL, mBind, mLift, mPure, mPeek, mVar, ixD, iI, bolD, mAsg, mCall1, mCallN, intD, modD, iIc, cMod, mStore, mStoreO, mDone, gSet, mOwn, mPut, setD, mRet, mDrop, mStuck, mTru, truD, mOrT, mAndT, mNotT, mAnd, mOr, mNot, mIsi, isiT_eq, typD, lenD, mCons, mTup, mLst, mLstN, mVal, oOr, addD, subD, mulD, mulI, iIc, cMul, ltD, leD, gtD, geD, gTupD, gCons2, gsNil, mCallV, mCallB, mRs, tupleD, mRetF, mChain, mScr, mScrLen, mScrIx, mMut, appD, max2D, min2D, mRng1, mRng2, rngD1, rngD2, rngOk, mItems, itemsD, mAsgN, mParEE, mParEN, mUn, negD, mCallN1, listD, unsE, powD, cPow, divD, cDiv, mFor, mSl, mSlL, slD, mNoPart, mPart, intO, mSlN, mSlNL, slN, mRevN, revO, mParNC, andD, orD, xorD, shrD, shlD, cShr, mStepN, mStepNL, stepO, mCatN, mCatNL, catN, eq_int]
    refine (seq_nx (ρ' := [.io bs, .val (.int bd), .own F, .val (.int p), .val (.int t), .own TG, s6, .val (.int 2), .val (.int tag), s9, .val (.str "packet"), .val (.tuple (ns.map PyData.int)), s12, s13]) ?_).trans ?_
    · generalize ns.map PyData.int = N
      simp [mSeq, mIf, mBol, mBin, mBinL, mBind, mLift, mPure, mPeek, mVar, ixD, iI, bolD, mAsg, mCall1, mCallN, intD, modD, iIc, cMod, mStore, mStoreO, mDone, gSet, mOwn, mPut, setD, mRet, mDrop, mStuck, mTru, truD, mOrT, mAndT, mNotT, mAnd, mOr, mNot, mIsi, isiT_eq, typD, lenD, mCons, mTup, mLst, mLstN, mVal, oOr, addD, subD, mulD, mulI, iIc, cMul, ltD, leD, gtD, geD, gTupD, gCons2, gsNil, mCallV, mCallB, mRs, tupleD, mRetF, mChain, mScr, mScrLen, mScrIx, mMut, appD, max2D, min2D, mRng1, mRng2, rngD1, rngD2, rngOk, mItems, itemsD, mAsgN, mParEE, mParEN, mUn, negD, mCallN1, listD, unsE, powD, cPow, divD, cDiv, mFor, mSl, mSlL, slD, mNoPart, mPart, intO, mSlN, mSlNL, slN, mRevN, revO, mParNC, andD, orD, xorD, shrD, shlD, cShr, mStepN, mStepNL, stepO, mCatN, mCatNL, catN, eq_int]
    refine (seq_nx (ρ' := [.io bs, .val (.int bd), .own F, .val (.int p), .val (.int t), .own TG, s6, .val (.int 2), .val (.int tag), s9, .val (.str "packet"), .val (.tuple (ns.map PyData.int)), .val (.int (3 + (ns.length : Nat))), s13]) ?_).trans ?_
    · generalize ns.map PyData.int = N at *
      simp [mSeq, mIf, mBol, mBin, mBinL, mBind, mLift, mPure, mPeek, mVar, ixD, iI, bolD, mAsg, mCall1, mCallN, intD, modD, iIc, cMod, mStore, mStoreO, mDone, gSet, mOwn, mPut, setD, mRet, mDrop, mStuck, mTru, truD, mOrT, mAndT, mNotT, mAnd, mOr, mNot, mIsi, isiT_eq, typD, lenD, mCons, mTup, mLst, mLstN, mVal, oOr, addD, subD, mulD, mulI, iIc, cMul, ltD, leD, gtD, geD, gTupD, gCons2, gsNil, mCallV, mCallB, mRs, tupleD, mRetF, mChain, mScr, mScrLen, mScrIx, mMut, appD, max2D, min2D, mRng1, mRng2, rngD1, rngD2, rngOk, mItems, itemsD, mAsgN, mParEE, mParEN, mUn, negD, mCallN1, listD, unsE, powD, cPow, divD, cDiv, mFor, mSl, mSlL, slD, mNoPart, mPart, intO, mSlN, mSlNL, slN, mRevN, revO, mParNC, andD, orD, xorD, shrD, shlD, cShr, mStepN, mStepNL, stepO, mCatN, mCatNL, catN, hl, fit]
    refine (seq_nx (ρ' := [.io b1, .val (.int bd), .own F, .val (.int p), .val (.int t), .own TG, s6, .val (.int 2), .val (.int tag), s9, .val (.str "torn"), .val (.str w), .val (.int 1), s13]) ?_)
    generalize ns.map PyData.int = N at *
    simp [mSeq, mIf, mBol, mBin, mBinL, mBind, mLift, mPure, mPeek, mVar, ixD, iI, bolD, mAsg, mCall1, mCallN, intD, modD, iIc, cMod, mStore, mStoreO, mDone, gSet, mOwn, mPut, setD, mRet, mDrop, mStuck, mTru, truD, mOrT, mAndT, mNotT, mAnd, mOr, mNot, mIsi, isiT_eq, typD, lenD, mCons, mTup, mLst, mLstN, mVal, oOr, addD, subD, mulD, mulI, iIc, cMul, ltD, leD, gtD, geD, gTupD, gCons2, gsNil, mCallV, mCallB, mRs, tupleD, mRetF, mChain, mScr, mScrLen, mScrIx, mMut, appD, max2D, min2D, mRng1, mRng2, rngD1, rngD2, rngOk, mItems, itemsD, mAsgN, mParEE, mParEN, mUn, negD, mCallN1, listD, unsE, powD, cPow, divD, cDiv, mFor, mSl, mSlL, slD, mNoPart, mPart, intO, mSlN, mSlNL, slN, mRevN, revO, mParNC, andD, orD, xorD, shrD, shlD, cShr, mStepN, mStepNL, stepO, mCatN, mCatNL, catN, eq_int, mPar3, e1, ew, fit]
  · refine ⟨some ns, "", 3 + (ns.length : Nat), bs, ?_, hb, ⟨fun ms h => by cases h; exact ⟨h45, hby⟩, fun h => by cases h⟩, by omega, by omega⟩
    have hw : whP (some ns) "" = .tuple (ns.map PyData.int) := rfl
    have hh : hdP (some ns) = .str "packet" := rfl
    rw [hw, hh]
    refine (seq_nx (ρ' := [.io bs, .val (.int bd), .own F, .val (.int p), .val (.int t), .own TG, s6, .val (.int form), .val (.int tag), s9, .val (.str "packet"), .val (.tuple (ns.map PyData.int)), s12, s13]) ?_).trans ?_
    · generalize ns.map PyData.int = N
      simp [mSeq, mIf, mBol, mBin, mBinL, mBind, mLift, mPure, mPeek, mVar, ixD, iI, bolD, mAsg, mCall1, mCallN, intD, modD, iIc, cMod, mStore, mStoreO, mDone, gSet, mOwn, mPut, setD, mRet, mDrop, mStuck, mTru, truD, mOrT, mAndT, mNotT, mAnd, mOr, mNot, mIsi, isiT_eq, typD, lenD, mCons, mTup, mLst, mLstN, mVal, oOr, addD, subD, mulD, mulI, iIc, cMul, ltD, leD, gtD, geD, gTupD, gCons2, gsNil, mCallV, mCallB, mRs, tupleD, mRetF, mChain, mScr, mScrLen, mScrIx, mMut, appD, max2D, min2D, mRng1, mRng2, rngD1, rngD2, rngOk, mItems, itemsD, mAsgN, mParEE, mParEN, mUn, negD, mCallN1, listD, unsE, powD, cPow, divD, cDiv, mFor, mSl, mSlL, slD, mNoPart, mPart, intO, mSlN, mSlNL, slN, mRevN, revO, mParNC, andD, orD, xorD, shrD, shlD, cShr, mStepN, mStepNL, stepO, mCatN, mCatNL, catN, eq_int, c0]
    refine (seq_nx (ρ' := [.io bs, .val (.int bd), .own F, .val (.int p), .val (.int t), .own TG, s6, .val (.int form), .val (.int tag), s9, .val (.str "packet"), .val (.tuple (ns.map PyData.int)), s12, s13]) ?_).trans ?_
    · generalize ns.map PyData.int = N
      simp [mSeq, mIf, mBol, mBin, mBinL, mBind, mLift, mPure, mPeek, mVar, ixD, iI, bolD, mAsg, mCall1, mCallN, intD, modD, iIc, cMod, mStore, mStoreO, mDone, gSet, mOwn, mPut, setD, mRet, mDrop, mStuck, mTru, truD, mOrT, mAndT, mNotT, mAnd, mOr, mNot, mIsi, isiT_eq, typD, lenD, mCons, mTup, mLst, mLstN, mVal, oOr, addD, subD, mulD, mulI, iIc, cMul, ltD, leD, gtD, geD, gTupD, gCons2, gsNil, mCallV, mCallB, mRs, tupleD, mRetF, mChain, mScr, mScrLen, mScrIx, mMut, appD, max2D, min2D, mRng1, mRng2, rngD1, rngD2, rngOk, mItems, itemsD, mAsgN, mParEE, mParEN, mUn, negD, mCallN1, listD, unsE, powD, cPow, divD, cDiv, mFor, mSl, mSlL, slD, mNoPart, mPart, intO, mSlN, mSlNL, slN, mRevN, revO, mParNC, andD, orD, xorD, shrD, shlD, cShr, mStepN, mStepNL, stepO, mCatN, mCatNL, catN, eq_int, c1]
    refine (seq_nx (ρ' := [.io bs, .val (.int bd), .own F, .val (.int p), .val (.int t), .own TG, s6, .val (.int form), .val (.int tag), s9, .val (.str "packet"), .val (.tuple (ns.map PyData.int)), .val (.int (3 + (ns.length : Nat))), s13]) ?_).trans ?_
    · generalize ns.map PyData.int = N at *
      simp [mSeq, mIf, mBol, mBin, mBinL, mBind, mLift, mPure, mPeek, mVar, ixD, iI, bolD, mAsg, mCall1, mCallN, intD, modD, iIc, cMod, mStore, mStoreO, mDone, gSet, mOwn, mPut, setD, mRet, mDrop, mStuck, mTru, truD, mOrT, mAndT, mNotT, mAnd, mOr, mNot, mIsi, isiT_eq, typD, lenD, mCons, mTup, mLst, mLstN, mVal, oOr, addD, subD, mulD, mulI, iIc, cMul, ltD, leD, gtD, geD, gTupD, gCons2, gsNil, mCallV, mCallB, mRs, tupleD, mRetF, mChain, mScr, mScrLen, mScrIx, mMut, appD, max2D, min2D, mRng1, mRng2, rngD1, rngD2, rngOk, mItems, itemsD, mAsgN, mParEE, mParEN, mUn, negD, mCallN1, listD, unsE, powD, cPow, divD, cDiv, mFor, mSl, mSlL, slD, mNoPart, mPart, intO, mSlN, mSlNL, slN, mRevN, revO, mParNC, andD, orD, xorD, shrD, shlD, cShr, mStepN, mStepNL, stepO, mCatN, mCatNL, catN, hl, fit]
    refine (seq_nx (ρ' := [.io bs, .val (.int bd), .own F, .val (.int p), .val (.int t), .own TG, s6, .val (.int form), .val (.int tag), s9, .val (.str "packet"), .val (.tuple (ns.map PyData.int)), .val (.int (3 + (ns.length : Nat))), s13]) ?_)
    generalize ns.map PyData.int = N at *
    simp [mSeq, mIf, mBol, mBin, mBinL, mBind, mLift, mPure, mPeek, mVar, ixD, iI, bolD, mAsg, mCall1, mCallN, intD, modD, iIc, cMod, mStore, mStoreO, mDone, gSet, mOwn, mPut, setD, mRet, mDrop, mStuck, mTru, truD, mOrT, mAndT, mNotT, mAnd, mOr, mNot, mIsi, isiT_eq, typD, lenD, mCons, mTup, mLst, mLstN, mVal, oOr, addD, subD, mulD, mulI, iIc, cMul, ltD, leD, gtD, geD, gTupD, gCons2, gsNil, mCallV, mCallB, mRs, tupleD, mRetF, mChain, mScr, mScrLen, mScrIx, mMut, appD, max2D, min2D, mRng1, mRng2, rngD1, rngD2, rngOk, mItems, itemsD, mAsgN, mParEE, mParEN, mUn, negD, mCallN1, listD, unsE, powD, cPow, divD, cDiv, mFor, mSl, mSlL, slD, mNoPart, mPart, intO, mSlN, mSlNL, slN, mRevN, revO, mParNC, andD, orD, xorD, shrD, shlD, cShr, mStepN, mStepNL, stepO, mCatN, mCatNL, catN, eq_int, c2]

theorem item_mk (pk : Option (List Int)) (why : Str) (b e : Int) (pl : List D) : itemQ ⟨pk, why, b, e, pl⟩ = .tuple [hdP pk, whP pk why, .int b, .int e, .tuple pl] := by cases pk <;> rfl
theorem reply_turn {bs : List D} {xs : List Iq} {bd p t a b : Int} {s6 s7 s8 s9 s10 s11 s12 s13 : Sl} (hb : Bx bs) (hx : ∀ x ∈ xs, Gt x) (hl : xs.length ≤ 900) (p0 : 0 ≤ p) (p1 : p ≤ 100000) (t0 : 0 ≤ t) (t1 : t ≤ 1000000) (ha : 0 ≤ a ∧ a < 128) (hb2 : 0 ≤ b ∧ b < 128) :
    ∃ (x : Iq) (p' t' : Int) (bs' : List D) (u7 u8 u9 u10 u11 u12 u13 : Sl), L__law_replies_0 [.io bs, .val (.int bd), .own (xs.map itemQ), .val (.int p), .val (.int t), .own [.int 0, .int 127, .int a, .int b], s6, s7, s8, s9, s10, s11, s12, s13] =
      some (.ok .nx [.io bs', .val (.int bd), .own ((xs ++ [x]).map itemQ), .val (.int p'), .val (.int t'), .own [.int 0, .int 127, .int a, .int b], s6, u7, u8, u9, u10, u11, u12, u13]) ∧ Bx bs' ∧ Gt x ∧ p ≤ p' ∧ p' ≤ p + 60 ∧ t ≤ t' ∧ t' ≤ t + 1100 := by
  obtain ⟨form, b1, e1, f0, f1, hb1⟩ := take_ok (m := 9) hb (by omega) (by omega)
  obtain ⟨q, b2, e2, q0, q1, hb2'⟩ := take_ok (m := 4) hb1 (by omega) (by omega)
  obtain ⟨tag, e3, htag⟩ := pick4 (a := 0) (b := 127) (c := a) (d := b) q0 q1
  have htg : 0 ≤ tag ∧ tag < 128 := by rcases htag with rfl | rfl | rfl | rfl <;> omega
  obtain ⟨r, b3, e4, r0, r1, hb3⟩ := take_ok (m := 4) hb2' (by omega) (by omega)
  obtain ⟨m, e5, hm⟩ := pick4 (a := 3) (b := 3) (c := 3) (d := 40) r0 r1
  have hm' : 0 ≤ m ∧ m ≤ 40 := by rcases hm with rfl | rfl | rfl | rfl <;> omega
  obtain ⟨ns, b4, e6, hb4, hns, hnl⟩ := numbers_ok (m := m) hb3 hm'.1 (by omega)
  obtain ⟨v, b5, e7, v0, v1, hb5⟩ := take_ok (m := 2) hb4 (by omega) (by omega)
  have m1 : mulD (.int 128) (.int v) = some (.int (128 * v)) := mul_ok (by omega)
  have hbd : By (tag + 128 * v) := ⟨by omega, by omega⟩
  have hbody : ∀ n ∈ (tag + 128 * v) :: ns, By n := fun n hn => by
    rcases List.mem_cons.mp hn with rfl | h
    · exact hbd
    · exact hns n h
  have hXl : (xs.map itemQ).length ≤ 16000000 := by rw [List.length_map]; omega
  have hNl : (ns.map PyData.int).length ≤ 16000000 := by rw [List.length_map]; omega
  have eadd : catT (.tuple [.int (tag + 128 * v)]) (.tuple (ns.map PyData.int)) = some (.tuple (((tag + 128 * v) :: ns).map PyData.int)) := by
    have : fit ([PyData.int (tag + 128 * v)].length + (ns.map PyData.int).length) = true := fit_of2 (by rw [List.length_map]; simp; omega)
    simp only [catT, this]
    rfl
  have t3 : ∀ o : List D, tupleD [.list o] = some (.tuple o) := fun _ => rfl
  obtain ⟨pk, why, many, b6, e8, hb6, hw, y0, y1⟩ := form_ok (Rst := (mSeq (mAsg (mBinL addD 4 (mBinL mulD 12 (mBin addD (mPure (.int 2)) (mCallB 0 2 fn__law_take (mCons (mPure (.int 20)) (mPure [])))))) (mStore 13))
  (mSeq (mDrop (mMut 2 appD (mCons (mTup (mCons (mVar 10) (mCons (mVar 11) (mCons (mVar 4) (mCons (mVar 13) (mCons (mCall1 tupleD (mVal (mRgN2 (mVar 3) (mBinL addD 3 (mPeek 12))))) (mPure []))))))) (mPure []))))
  (mParEE 3 4 (mBin addD (mBinL addD 3 (mPeek 12)) (mCallB 0 2 fn__law_take (mCons (mPure (.int 3)) (mPure [])))) (mBinL addD 13 (mCallB 0 2 fn__law_take (mCons (mPure (.int 30)) (mPure [])))))))) (bs := b5) (F := xs.map itemQ) (TG := [.int 0, .int 127, .int a, .int b]) (bd := bd) (p := p) (t := t) (form := form) (tag := tag) (ns := (tag + 128 * v) :: ns) (s6 := s6) (s9 := .val (.list (ns.map PyData.int))) (s12 := s12) (s13 := s13) hb5 (by rw [List.length_cons]; omega) hbody
  obtain ⟨w, b7, e9, w0, w1, hb7⟩ := take_ok (m := 20) hb6 (by omega) (by omega)
  obtain ⟨g, b8, e10, g0, g1, hb8⟩ := take_ok (m := 3) hb7 (by omega) (by omega)
  obtain ⟨h, b9, e11, h0, h1, hb9⟩ := take_ok (m := 30) hb8 (by omega) (by omega)
  have m2 : mulD (.int many) (.int (2 + w)) = some (.int (many * (2 + w))) := mul_ok (by omega)
  have k0 : 0 ≤ many * (2 + w) := Int.mul_nonneg (by omega) (by omega)
  have k1 : many * (2 + w) ≤ 48 * 21 := Int.mul_le_mul (by omega) (by omega) (by omega) (by omega)
  generalize many * (2 + w) = z at *
  have hrg : rgOf p (.int (p + many)) = some (rngL p (p + many)) := by
    unfold rgOf
    have r1 : rngOk p = true := rngOk_le (by omega) (by omega)
    have r2 : rngOk (p + many) = true := rngOk_le (by omega) (by omega)
    have r3 : fit ((p + many) - p).toNat = true := decide_eq_true (by omega)
    simp only [r1, r2, r3, Bool.and_self, if_true]
  have hit := item_mk pk why t (t + z) (rngL p (p + many))
  refine ⟨⟨pk, why, t, t + z, rngL p (p + many)⟩, p + many + g, t + z + h, b9, .val (.int form), .val (.int tag), .val (.list (ns.map PyData.int)), .val (hdP pk), .val (whP pk why), .val (.int many), .val (.int (t + z)), ?_, hb9, ⟨hw.1, hw.2, ⟨by show (0 : Int) ≤ t; omega, by show t < 10000000; omega⟩, ⟨by show (0 : Int) ≤ t + z; omega, by show t + z < 10000000; omega⟩, p, p + many, rfl, p0, by omega, by omega, by omega⟩, by omega, by omega, by omega, by omega⟩
  rw [List.map_append, List.map_singleton, hit]
  unfold L__law_replies_0
  refine (seq_nx (ρ' := [.io b2, .val (.int bd), .own (xs.map itemQ), .val (.int p), .val (.int t), .own [.int 0, .int 127, .int a, .int b], s6, .val (.int form), .val (.int tag), s9, s10, s11, s12, s13]) ?_).trans ?_
  · generalize xs.map itemQ = X at *
    simp [mSeq, mIf, mBol, mBin, mBinL, mBind, mLift, mPure, mPeek, mVar, ixD, iI, bolD, mAsg, mCall1, mCallN, intD, modD, iIc, cMod, mStore, mStoreO, mDone, gSet, mOwn, mPut, setD, mRet, mDrop, mStuck, mTru, truD, mOrT, mAndT, mNotT, mAnd, mOr, mNot, mIsi, isiT_eq, typD, lenD, mCons, mTup, mLst, mLstN, mVal, oOr, addD, subD, mulD, mulI, iIc, cMul, ltD, leD, gtD, geD, gTupD, gCons2, gsNil, mCallV, mCallB, mRs, tupleD, mRetF, mChain, mScr, mScrLen, mScrIx, mMut, appD, max2D, min2D, mRng1, mRng2, rngD1, rngD2, rngOk, mItems, itemsD, mAsgN, mParEE, mParEN, mUn, negD, mCallN1, listD, unsE, powD, cPow, divD, cDiv, mFor, mSl, mSlL, slD, mNoPart, mPart, intO, mSlN, mSlNL, slN, mRevN, revO, mParNC, andD, orD, xorD, shrD, shlD, cShr, mStepN, mStepNL, stepO, mCatN, mCatNL, catN, mParEE, e1, e2, e3]
  refine (seq_nx (ρ' := [.io b4, .val (.int bd), .own (xs.map itemQ), .val (.int p), .val (.int t), .own [.int 0, .int 127, .int a, .int b], s6, .val (.int form), .val (.int tag), .val (.list (ns.map PyData.int)), s10, s11, s12, s13]) ?_).trans ?_
  · generalize ns.map PyData.int = N at *
    generalize xs.map itemQ = X at *
    simp [mSeq, mIf, mBol, mBin, mBinL, mBind, mLift, mPure, mPeek, mVar, ixD, iI, bolD, mAsg, mCall1, mCallN, intD, modD, iIc, cMod, mStore, mStoreO, mDone, gSet, mOwn, mPut, setD, mRet, mDrop, mStuck, mTru, truD, mOrT, mAndT, mNotT, mAnd, mOr, mNot, mIsi, isiT_eq, typD, lenD, mCons, mTup, mLst, mLstN, mVal, oOr, addD, subD, mulD, mulI, iIc, cMul, ltD, leD, gtD, geD, gTupD, gCons2, gsNil, mCallV, mCallB, mRs, tupleD, mRetF, mChain, mScr, mScrLen, mScrIx, mMut, appD, max2D, min2D, mRng1, mRng2, rngD1, rngD2, rngOk, mItems, itemsD, mAsgN, mParEE, mParEN, mUn, negD, mCallN1, listD, unsE, powD, cPow, divD, cDiv, mFor, mSl, mSlL, slD, mNoPart, mPart, intO, mSlN, mSlNL, slN, mRevN, revO, mParNC, andD, orD, xorD, shrD, shlD, cShr, mStepN, mStepNL, stepO, mCatN, mCatNL, catN, e4, e5, e6, fit]
  refine (seq_nx (ρ' := [.io b5, .val (.int bd), .own (xs.map itemQ), .val (.int p), .val (.int t), .own [.int 0, .int 127, .int a, .int b], s6, .val (.int form), .val (.int tag), .val (.list (ns.map PyData.int)), .val (.str "packet"), .val (.tuple (((tag + 128 * v) :: ns).map PyData.int)), s12, s13]) ?_).trans ?_
  · generalize ((tag + 128 * v) :: ns).map PyData.int = B at *
    generalize ns.map PyData.int = N at *
    generalize xs.map itemQ = X at *
    have c1 : catL (.tuple [.int (tag + 128 * v)]) (.tuple N) = none := rfl
    simp [mSeq, mIf, mBol, mBin, mBinL, mBind, mLift, mPure, mPeek, mVar, ixD, iI, bolD, mAsg, mCall1, mCallN, intD, modD, iIc, cMod, mStore, mStoreO, mDone, gSet, mOwn, mPut, setD, mRet, mDrop, mStuck, mTru, truD, mOrT, mAndT, mNotT, mAnd, mOr, mNot, mIsi, isiT_eq, typD, lenD, mCons, mTup, mLst, mLstN, mVal, oOr, addD, subD, mulI, iIc, cMul, ltD, leD, gtD, geD, gTupD, gCons2, gsNil, mCallV, mCallB, mRs, tupleD, mRetF, mChain, mScr, mScrLen, mScrIx, mMut, appD, max2D, min2D, mRng1, mRng2, rngD1, rngD2, rngOk, mItems, itemsD, mAsgN, mParEE, mParEN, mUn, negD, mCallN1, listD, unsE, powD, cPow, divD, cDiv, mFor, mSl, mSlL, slD, mNoPart, mPart, intO, mSlN, mSlNL, slN, mRevN, revO, mParNC, andD, orD, xorD, shrD, shlD, cShr, mStepN, mStepNL, stepO, mCatN, mCatNL, catN, mParEE, e7, m1, t3, eadd, c1, fit]
  refine e8.trans ?_
  clear e8 eadd hit
  generalize hdP pk = HD at *
  generalize whP pk why = WH at *
  generalize rngL p (p + many) = RG at *
  generalize ns.map PyData.int = N at *
  generalize xs.map itemQ = X at *
  refine (seq_nx (ρ' := [.io b7, .val (.int bd), .own X, .val (.int p), .val (.int t), .own [.int 0, .int 127, .int a, .int b], s6, .val (.int form), .val (.int tag), .val (.list N), .val HD, .val WH, .val (.int many), .val (.int (t + z))]) ?_).trans ?_
  · simp [mSeq, mIf, mBol, mBin, mBinL, mBind, mLift, mPure, mPeek, mVar, ixD, iI, bolD, mAsg, mCall1, mCallN, intD, modD, iIc, cMod, mStore, mStoreO, mDone, gSet, mOwn, mPut, setD, mRet, mDrop, mStuck, mTru, truD, mOrT, mAndT, mNotT, mAnd, mOr, mNot, mIsi, isiT_eq, typD, lenD, mCons, mTup, mLst, mLstN, mVal, oOr, addD, subD, mulI, iIc, cMul, ltD, leD, gtD, geD, gTupD, gCons2, gsNil, mCallV, mCallB, mRs, tupleD, mRetF, mChain, mScr, mScrLen, mScrIx, mMut, appD, max2D, min2D, mRng1, mRng2, rngD1, rngD2, rngOk, mItems, itemsD, mAsgN, mParEE, mParEN, mUn, negD, mCallN1, listD, unsE, powD, cPow, divD, cDiv, mFor, mSl, mSlL, slD, mNoPart, mPart, intO, mSlN, mSlNL, slN, mRevN, revO, mParNC, andD, orD, xorD, shrD, shlD, cShr, mStepN, mStepNL, stepO, mCatN, mCatNL, catN, e9, m2]
  refine (seq_nx (ρ' := [.io b7, .val (.int bd), .own (X ++ [.tuple [HD, WH, .int t, .int (t + z), .tuple RG]]), .val (.int p), .val (.int t), .own [.int 0, .int 127, .int a, .int b], s6, .val (.int form), .val (.int tag), .val (.list N), .val HD, .val WH, .val (.int many), .val (.int (t + z))]) ?_).trans ?_
  · simp [mSeq, mIf, mBol, mBin, mBinL, mBind, mLift, mPure, mPeek, mVar, ixD, iI, bolD, mAsg, mCall1, mCallN, intD, modD, iIc, cMod, mStore, mStoreO, mDone, gSet, mOwn, mPut, setD, mRet, mDrop, mStuck, mTru, truD, mOrT, mAndT, mNotT, mAnd, mOr, mNot, mIsi, isiT_eq, typD, lenD, mCons, mTup, mLst, mLstN, mVal, oOr, addD, subD, mulD, mulI, iIc, cMul, ltD, leD, gtD, geD, gTupD, gCons2, gsNil, mCallV, mCallB, mRs, tupleD, mRetF, mChain, mScr, mScrLen, mScrIx, mMut, appD, max2D, min2D, mRng1, mRng2, rngD1, rngD2, rngOk, mItems, itemsD, mAsgN, mParEE, mParEN, mUn, negD, mCallN1, listD, unsE, powD, cPow, divD, cDiv, mFor, mSl, mSlL, slD, mNoPart, mPart, intO, mSlN, mSlNL, slN, mRevN, revO, mParNC, andD, orD, xorD, shrD, shlD, cShr, mStepN, mStepNL, stepO, mCatN, mCatNL, catN, mRgN2, hrg, t3, fit, appD, hXl]
  simp [mSeq, mIf, mBol, mBin, mBinL, mBind, mLift, mPure, mPeek, mVar, ixD, iI, bolD, mAsg, mCall1, mCallN, intD, modD, iIc, cMod, mStore, mStoreO, mDone, gSet, mOwn, mPut, setD, mRet, mDrop, mStuck, mTru, truD, mOrT, mAndT, mNotT, mAnd, mOr, mNot, mIsi, isiT_eq, typD, lenD, mCons, mTup, mLst, mLstN, mVal, oOr, addD, subD, mulD, mulI, iIc, cMul, ltD, leD, gtD, geD, gTupD, gCons2, gsNil, mCallV, mCallB, mRs, tupleD, mRetF, mChain, mScr, mScrLen, mScrIx, mMut, appD, max2D, min2D, mRng1, mRng2, rngD1, rngD2, rngOk, mItems, itemsD, mAsgN, mParEE, mParEN, mUn, negD, mCallN1, listD, unsE, powD, cPow, divD, cDiv, mFor, mSl, mSlL, slD, mNoPart, mPart, intO, mSlN, mSlNL, slN, mRevN, revO, mParNC, andD, orD, xorD, shrD, shlD, cShr, mStepN, mStepNL, stepO, mCatN, mCatNL, catN, mParEE, e10, e11]

theorem replies_ok {bs : List D} {bd : Int} (hb : Bx bs) (d0 : 0 ≤ bd) (d1 : bd ≤ 100) : ∃ (xs : List Iq) (bs' : List D), fn__law_replies bs [.int bd] = some (.ok (.list (xs.map itemQ)), bs') ∧ Bx bs' ∧ (∀ x ∈ xs, Gt x) ∧ (xs.length : Int) ≤ bd + 1 := by
  obtain ⟨p, b1, e1, p0, p1, hb1⟩ := take_ok (m := 4) hb (by omega) (by omega)
  obtain ⟨t, b2, e2, t0, t1, hb2⟩ := take_ok (m := 9) hb1 (by omega) (by omega)
  obtain ⟨a, b3, e3, a0, a1, hb3⟩ := take_ok (m := 128) hb2 (by omega) (by omega)
  obtain ⟨b, b4, e4, c0, c1, hb4⟩ := take_ok (m := 128) hb3 (by omega) (by omega)
  obtain ⟨m, b5, e5, m0, m1, hb5⟩ := take_ok (m := bd + 1) hb4 (by omega) (by omega)
  have hr : mRng1 (mCons (mCallB 0 2 fn__law_take (mCons (mBinL addD 1 (mPure (.int 1))) (mPure []))) (mPure [])) [.io b4, .val (.int bd), .own [], .val (.int p), .val (.int (1 + t)), .own [.int 0, .int 127, .int a, .int b], .un, .un, .un, .un, .un, .un, .un, .un] = some (.ok (rngL 0 m) [.io b5, .val (.int bd), .own [], .val (.int p), .val (.int (1 + t)), .own [.int 0, .int 127, .int a, .int b], .un, .un, .un, .un, .un, .un, .un, .un]) := rng1_is (by simp [mSeq, mIf, mBol, mBin, mBinL, mBind, mLift, mPure, mPeek, mVar, ixD, iI, bolD, mAsg, mCall1, mCallN, intD, modD, iIc, cMod, mStore, mStoreO, mDone, gSet, mOwn, mPut, setD, mRet, mDrop, mStuck, mTru, truD, mOrT, mAndT, mNotT, mAnd, mOr, mNot, mIsi, isiT_eq, typD, lenD, mCons, mTup, mLst, mLstN, mVal, oOr, addD, subD, mulD, mulI, iIc, cMul, ltD, leD, gtD, geD, gTupD, gCons2, gsNil, mCallV, mCallB, mRs, tupleD, mRetF, mChain, mScr, mScrLen, mScrIx, mMut, appD, max2D, min2D, mRng1, mRng2, rngD1, rngD2, rngOk, mItems, itemsD, mAsgN, mParEE, mParEN, mUn, negD, mCallN1, listD, unsE, powD, cPow, divD, cDiv, mFor, mSl, mSlL, slD, mNoPart, mPart, intO, mSlN, mSlNL, slN, mRevN, revO, mParNC, andD, orD, xorD, shrD, shlD, cShr, mStepN, mStepNL, stepO, mCatN, mCatNL, catN, e5]) (rngOk_le (by omega) (by omega))
  obtain ⟨ρ', h2, b6, xs, q, u, s6, s7, s8, s9, s10, s11, s12, s13, rfl, hb6, hx, hxl, q0, q1, u0, u1⟩ := forL_ix (g := mStore 6) (body := L__law_replies_0)
    (fun i ρ => ∃ (b6 : List D) (xs : List Iq) (q u : Int) (s6 s7 s8 s9 s10 s11 s12 s13 : Sl), ρ = [.io b6, .val (.int bd), .own (xs.map itemQ), .val (.int q), .val (.int u), .own [.int 0, .int 127, .int a, .int b], s6, s7, s8, s9, s10, s11, s12, s13] ∧ Bx b6 ∧ (∀ x ∈ xs, Gt x) ∧ xs.length = i ∧ 0 ≤ q ∧ q ≤ 3 + 60 * i ∧ 0 ≤ u ∧ u ≤ 10 + 1100 * i)
    (rngL 0 m) 0 [.io b5, .val (.int bd), .own [], .val (.int p), .val (.int (1 + t)), .own [.int 0, .int 127, .int a, .int b], .un, .un, .un, .un, .un, .un, .un, .un] ⟨b5, [], p, 1 + t, _, _, _, _, _, _, _, _, rfl, hb5, fun x hx => (by cases hx), rfl, p0, by omega, by omega, by omega⟩ (by
    rintro j d ρ hd ⟨b6, xs, q, u, s6, s7, s8, s9, s10, s11, s12, s13, rfl, hb6, hx, hxl, q0, q1, u0, u1⟩
    rw [Nat.zero_add] at hxl q1 u1 ⊢
    have hj : j < m.toNat := by
      have := (List.getElem?_eq_some_iff.mp hd).1
      rw [rngL_length] at this
      omega
    obtain ⟨x, q', u', b7, u7, u8, u9, u10, u11, u12, u13, e, hb7, hgx, k1, k2, k3, k4⟩ := reply_turn (bs := b6) (xs := xs) (bd := bd) (p := q) (t := u) (a := a) (b := b) (s6 := .val d) (s7 := s7) (s8 := s8) (s9 := s9) (s10 := s10) (s11 := s11) (s12 := s12) (s13 := s13) hb6 hx (by omega) q0 (by omega) u0 (by omega) ⟨a0, a1⟩ ⟨c0, c1⟩
    refine ⟨[.io b6, .val (.int bd), .own (xs.map itemQ), .val (.int q), .val (.int u), .own [.int 0, .int 127, .int a, .int b], .val d, s7, s8, s9, s10, s11, s12, s13], _, by simp [mStore], Or.inl e, b7, xs ++ [x], q', u', _, _, _, _, _, _, _, _, rfl, hb7, fun y hy => ?_, by rw [List.length_append, hxl]; rfl, by omega, by omega, by omega, by omega⟩
    rcases List.mem_append.mp hy with h | h
    · exact hx y h
    · rw [List.mem_singleton.mp h]; exact hgx)
  rw [rngL_length, Nat.zero_add] at hxl q1 u1
  have hR : R__law_replies_0 [.io b4, .val (.int bd), .own [], .val (.int p), .val (.int (1 + t)), .own [.int 0, .int 127, .int a, .int b], .un, .un, .un, .un, .un, .un, .un, .un] = some (.ok .nx [.io b6, .val (.int bd), .own (xs.map itemQ), .val (.int q), .val (.int u), .own [.int 0, .int 127, .int a, .int b], s6, s7, s8, s9, s10, s11, s12, s13]) := by
    unfold R__law_replies_0 mFor
    rw [bind_is hr]
    exact h2
  clear h2 hr
  obtain ⟨g, b7, e7, g0, g1, hb7⟩ := take_ok (m := 4) hb6 (by omega) (by omega)
  have hXl : (xs.map itemQ).length ≤ 16000000 := by rw [List.length_map]; omega
  by_cases c : g = 0
  · subst c
    obtain ⟨h, b8, e8, h0, h1, hb8⟩ := take_ok (m := 5) hb7 (by omega) (by omega)
    have m2 : mulD (.int (1 + h)) (.int 12) = some (.int ((1 + h) * 12)) := mul_ok (by omega)
    have hrg : rgOf q (.int (q + (1 + h))) = some (rngL q (q + (1 + h))) := by
      unfold rgOf
      have r1 : rngOk q = true := rngOk_le (by omega) (by omega)
      have r2 : rngOk (q + (1 + h)) = true := rngOk_le (by omega) (by omega)
      have r3 : fit ((q + (1 + h)) - q).toNat = true := decide_eq_true (by omega)
      simp only [r1, r2, r3, Bool.and_self, if_true]
    have t3 : ∀ o : List D, tupleD [.list o] = some (.tuple o) := fun _ => rfl
    refine ⟨xs ++ [⟨none, "end", u, u + (1 + h) * 12, rngL q (q + (1 + h))⟩], b8, ?_, hb8, fun y hy => ?_, by rw [List.length_append, hxl]; simp only [List.length_singleton]; omega⟩
    · rw [List.map_append, List.map_singleton]
      have hit : itemQ ⟨none, "end", u, u + (1 + h) * 12, rngL q (q + (1 + h))⟩ = .tuple [.str "torn", .str "end", .int u, .int (u + (1 + h) * 12), .tuple (rngL q (q + (1 + h)))] := rfl
      rw [hit]
      generalize rngL q (q + (1 + h)) = RG at *
      generalize xs.map itemQ = X at *
      simp [fn__law_replies, runB, m__law_replies, env0B, mSeq, mIf, mBol, mBin, mBinL, mBind, mLift, mPure, mPeek, mVar, ixD, iI, bolD, mAsg, mCall1, mCallN, intD, modD, iIc, cMod, mStore, mStoreO, mDone, gSet, mOwn, mPut, setD, mRet, mDrop, mStuck, mTru, truD, mOrT, mAndT, mNotT, mAnd, mOr, mNot, mIsi, isiT_eq, typD, lenD, mCons, mTup, mLst, mLstN, mVal, oOr, addD, subD, mulI, iIc, cMul, ltD, leD, gtD, geD, gTupD, gCons2, gsNil, mCallV, mCallB, mRs, tupleD, mRetF, mChain, mScr, mScrLen, mScrIx, mMut, appD, max2D, min2D, mRng1, mRng2, rngD1, rngD2, rngOk, mItems, itemsD, mAsgN, mParEE, mParEN, mUn, negD, mCallN1, listD, unsE, powD, cPow, divD, cDiv, mFor, mSl, mSlL, slD, mNoPart, mPart, intO, mSlN, mSlNL, slN, mRevN, revO, mParNC, andD, orD, xorD, shrD, shlD, cShr, mStepN, mStepNL, stepO, mCatN, mCatNL, catN, mParL, e1, e2, e3, e4, mLstN, hR, fit, e7, e8, eq_int, m2, mRgN2, hrg, t3, appD, hXl]
    · rcases List.mem_append.mp hy with hh | hh
      · exact hx y hh
      · rw [List.mem_singleton.mp hh]
        exact ⟨fun ns hn => (by cases hn), fun _ => .inr (.inr (.inr rfl)), ⟨by show (0 : Int) ≤ u; omega, by show u < 10000000; omega⟩, ⟨by show (0 : Int) ≤ u + (1 + h) * 12; omega, by show u + (1 + h) * 12 < 10000000; omega⟩, q, q + (1 + h), rfl, q0, by omega, by omega, by omega⟩
  · refine ⟨xs, b7, ?_, hb7, hx, by omega⟩
    generalize xs.map itemQ = X at *
    simp [fn__law_replies, runB, m__law_replies, env0B, mSeq, mIf, mBol, mBin, mBinL, mBind, mLift, mPure, mPeek, mVar, ixD, iI, bolD, mAsg, mCall1, mCallN, intD, modD, iIc, cMod, mStore, mStoreO, mDone, gSet, mOwn, mPut, setD, mRet, mDrop, mStuck, mTru, truD, mOrT, mAndT, mNotT, mAnd, mOr, mNot, mIsi, isiT_eq, typD, lenD, mCons, mTup, mLst, mLstN, mVal, oOr, addD, subD, mulI, iIc, cMul, ltD, leD, gtD, geD, gTupD, gCons2, gsNil, mCallV, mCallB, mRs, tupleD, mRetF, mChain, mScr, mScrLen, mScrIx, mMut, appD, max2D, min2D, mRng1, mRng2, rngD1, rngD2, rngOk, mItems, itemsD, mAsgN, mParEE, mParEN, mUn, negD, mCallN1, listD, unsE, powD, cPow, divD, cDiv, mFor, mSl, mSlL, slD, mNoPart, mPart, intO, mSlN, mSlNL, slN, mRevN, revO, mParNC, andD, orD, xorD, shrD, shlD, cShr, mStepN, mStepNL, stepO, mCatN, mCatNL, catN, mParL, e1, e2, e3, e4, mLstN, hR, fit, e7, eq_int, c]
/-! ### the items can be shown -/
theorem shw_w {s : String} (h : s = "packet" ∨ s = "torn" ∨ s = "word" ∨ s = "long" ∨ s = "check" ∨ s = "end") : Shw 40 0 (.str s) := by
  rcases h with rfl | rfl | rfl | rfl | rfl | rfl <;> exact shw_str (by decide +kernel) (by decide +kernel)
theorem shw_num {i : Int} (h : 0 ≤ i ∧ i < 10000000) : Shw 40 0 (.int i) := shw_mono (shw_int (by have := h.1; have := h.2; omega)) (by omega) (by omega)
theorem gt_shw {x : Iq} (h : Gt x) : Shw 6000 2 (itemQ x) := by
  obtain ⟨pk, why, b, e, pl⟩ := x
  obtain ⟨hpk, hw, hb, he, a, c, rfl, a0, ac, c60, cl⟩ := h
  have hpl : Shw 1000 1 (.tuple (rngL a c)) := by
    have := shw_tuple (B := 10) (n := 0) (ds := rngL a c) fun d hd => by
      obtain ⟨i, rfl, i0, i1⟩ := rngL_mem hd
      exact shw_int (by omega)
    rw [rngL_length] at this
    refine shw_mono this ?_ (by omega)
    have : (10 + 2) * (c - a).toNat ≤ (10 + 2) * 60 := Nat.mul_le_mul_left _ (by omega)
    omega
  have five : ∀ p q : D, Shw 40 0 p → Shw 1000 1 q → Shw 6000 2 (.tuple [p, q, .int b, .int e, .tuple (rngL a c)]) := fun p q hp hq => by
    have := shw_tuple (B := 1000) (n := 1) (ds := [p, q, .int b, .int e, .tuple (rngL a c)]) fun d hd => by
      simp only [List.mem_cons, List.not_mem_nil, or_false] at hd
      rcases hd with rfl | rfl | rfl | rfl | rfl
      · exact shw_mono hp (by omega) (by omega)
      · exact hq
      · exact shw_mono (shw_num hb) (by omega) (by omega)
      · exact shw_mono (shw_num he) (by omega) (by omega)
      · exact hpl
    exact shw_mono this (by simp) (by omega)
  cases pk with
  | none =>
    refine five (.str "torn") (.str why) (shw_w (by simp)) ?_
    have hw : why = "word" ∨ why = "long" ∨ why = "check" ∨ why = "end" := hw rfl
    refine shw_mono (B := 40) (n := 0) ?_ (by omega) (by omega)
    rcases hw with e | e | e | e <;> rw [e] <;> exact shw_w (by simp)
  | some ns =>
    refine five (.str "packet") (.tuple (ns.map PyData.int)) (shw_w (by simp)) ?_
    obtain ⟨hl, hn⟩ := hpk ns rfl
    have := shw_tuple (B := 10) (n := 0) (ds := ns.map PyData.int) fun d hd => by
      obtain ⟨i, hi, rfl⟩ := List.mem_map.mp hd
      obtain ⟨i0, i1⟩ := hn i hi
      exact shw_int (by omega)
    rw [List.length_map] at this
    refine shw_mono this ?_ (by omega)
    have : (10 + 2) * ns.length ≤ (10 + 2) * 45 := Nat.mul_le_mul_left _ hl
    omega
theorem gt_repr {xs : List Iq} (h : ∀ x ∈ xs, Gt x) (hl : xs.length ≤ 100) : ∃ z, PyData.strOk z = true ∧ reprG [.list (xs.map itemQ)] = some (.str z) := by
  have hs : Shw (2 + (6000 + 2) * (xs.map itemQ).length) 3 (.list (xs.map itemQ)) := shw_list (B := 6000) (n := 2) fun d hd => by
    obtain ⟨x, hx, rfl⟩ := List.mem_map.mp hd
    exact gt_shw (h x hx)
  exact ⟨_, hs.ok, repr_shw hs (by rw [List.length_map]; omega) (by omega)⟩
theorem gt_tag {xs : List Iq} (h : ∀ x ∈ xs, Gt x) : TagOk xs := fun i hi => by
  obtain ⟨x, t, ns, h1, h2, h3, _⟩ := row_at hi
  have := ((h x (List.mem_of_getElem? h1)).pk _ h2).2 t List.mem_cons_self
  rw [h3]
  exact ⟨this.1, this.2⟩
theorem gt_body {xs : List Iq} (h : ∀ x ∈ xs, Gt x) (j : Nat) : (bodyQ xs j).length ≤ 45 := by
  unfold bodyQ
  cases hx : xs[j]? with
  | none => exact Nat.zero_le _
  | some x =>
    show (bodyI x).length ≤ 45
    unfold bodyI
    cases hp : x.pk with
    | none => exact Nat.zero_le _
    | some ns => exact ((h x (List.mem_of_getElem? hx)).pk ns hp).1

theorem alk_mono {n : Nat} {d : D} (h : Alk n d) : Alk (n + 1) d := by
  induction h with
  | int n i => exact .int _ i
  | bool n b => exact .bool _ b
  | str n s => exact .str _ s
  | tup n ds hl _ ih => exact .tup _ ds hl ih
  | lst n ds hl _ ih => exact .lst _ ds hl ih
theorem alk_said {xs : List Iq} (h : ∀ x ∈ xs, Gt x) (j : Nat) : Alk 1 (sdQ xs j) := by
  unfold sdQ
  refine .tup 0 _ (by rw [List.length_map, List.length_drop]; have := gt_body h j; omega) fun d hd => ?_
  obtain ⟨i, _, rfl⟩ := List.mem_map.mp hd
  exact .int _ _
theorem alk_alone {xs : List Iq} (h : ∀ x ∈ xs, Gt x) (kind : String) (j : Nat) : Alk 3 (aloneD xs kind j) := by
  refine .tup 2 _ (by simp) fun d hd => ?_
  simp only [List.mem_cons, List.not_mem_nil, or_false] at hd
  rcases hd with rfl | rfl | rfl | rfl | rfl
  · exact .str _ _
  · exact alk_mono (alk_said h j)
  · exact .int _ _
  · exact .int _ _
  · refine .tup 1 _ (by simp) fun d hd => ?_
    rw [List.mem_singleton.mp hd]
    exact .int _ _
theorem alk_talk {xs : List Iq} (h : ∀ x ∈ xs, Gt x) (a i : Nat) : Alk 3 (talkD xs a i) := by
  refine .tup 2 _ (by simp) fun d hd => ?_
  simp only [List.mem_cons, List.not_mem_nil, or_false] at hd
  rcases hd with rfl | rfl | rfl | rfl | rfl
  · exact .str _ _
  · refine .tup 1 _ (by simp) fun d hd => ?_
    simp only [List.mem_cons, List.not_mem_nil, or_false] at hd
    rcases hd with rfl | rfl <;> exact alk_said h _
  · exact .int _ _
  · exact .int _ _
  · refine .tup 1 _ (by simp) fun d hd => ?_
    simp only [List.mem_cons, List.not_mem_nil, or_false] at hd
    rcases hd with rfl | rfl <;> exact .int _ _
theorem alk_told {xs : List Iq} (h : ∀ x ∈ xs, Gt x) (a : List Nat) (k : Nat) : ∀ d ∈ toldQ xs a k, Alk 3 d := by
  intro d hd
  unfold toldQ at hd
  split at hd
  · split at hd
    · rw [List.mem_singleton.mp hd]; exact alk_alone h _ _
    · rw [List.mem_singleton.mp hd]; exact alk_talk h _ _
  · split at hd
    · cases hd
    · rw [List.mem_singleton.mp hd]; exact alk_alone h _ _
theorem alk_fd {xs : List Iq} (h : ∀ x ∈ xs, Gt x) : ∀ i, ∀ d ∈ fdQ xs i, Alk 3 d
  | 0, d, hd => by cases hd
  | i + 1, d, hd => by
    unfold fdQ at hd
    split at hd
    · rcases List.mem_append.mp hd with q | q
      · exact alk_fd h i d q
      · exact alk_told h _ _ d q
    · exact alk_fd h i d hd
theorem items_turn {xs : List Iq} {s0 s1 s2 s3 s4 s6 s7 : Sl} (hx : ∀ x ∈ xs, Gt x) (hl : xs.length ≤ 100) : ∃ s6' s7', L_law_0 [s0, s1, s2, s3, s4, .val (.list (xs.map itemQ)), s6, s7] = some (.ok .nx [s0, s1, s2, s3, s4, .val (.list (xs.map itemQ)), s6', s7']) := by
  have hT := gt_tag hx
  have e1 := law_talks_ok (xs := xs) (by omega)
  have e2 := talks_in_ok (I := .list (xs.map itemQ)) (xs := xs) (.inl rfl) (by omega) hT
  have e3 := talks_in_ok (I := .tuple (xs.map itemQ)) (xs := xs) (.inr rfl) (by omega) hT
  obtain ⟨z, hz, e4⟩ := gt_repr hx hl
  have e5 := ne_shw hz
  have ha : ∀ d ∈ fdQ xs xs.length ++ (dkQ (rowQ xs) (tgQ xs) xs.length).map fun j => aloneD xs "open" j, Alk 3 d := fun d hd => by
    rcases List.mem_append.mp hd with q | q
    · exact alk_fd hx _ d q
    · obtain ⟨j, _, rfl⟩ := List.mem_map.mp q
      exact alk_alone hx _ _
  have hal : (fdQ xs xs.length ++ (dkQ (rowQ xs) (tgQ xs) xs.length).map fun j => aloneD xs "open" j).length ≤ 1000000 := by
    rw [List.length_append, List.length_map]
    have := fd_len xs xs.length
    have := dk_len (rowQ xs) (tgQ xs) xs.length
    omega
  generalize fdQ xs xs.length ++ (dkQ (rowQ xs) (tgQ xs) xs.length).map (fun j => aloneD xs "open" j) = O at *
  have e6 : fn__law_alike 6 [.tuple O, .tuple O] = some (.ok (.bool true)) := alike_self 4 1 _ (.tup 3 _ hal ha)
  have t1 : ∀ o : List D, tupleD [.list o] = some (.tuple o) := fun _ => rfl
  refine ⟨.val (.str z), .val (.tuple O), ?_⟩
  generalize xs.map itemQ = X at *
  simp [L_law_0, mSeq, mIf, mBol, mBin, mBinL, mBind, mLift, mPure, mPeek, mVar, ixD, iI, bolD, mAsg, mCall1, mCallN, intD, modD, iIc, cMod, mStore, mStoreO, mDone, gSet, mOwn, mPut, setD, mRet, mDrop, mStuck, mTru, truD, mOrT, mAndT, mNotT, mAnd, mOr, mNot, mIsi, isiT_eq, typD, lenD, mCons, mTup, mLst, mLstN, mVal, oOr, addD, subD, mulD, mulI, iIc, cMul, ltD, leD, gtD, geD, gTupD, gCons2, gsNil, mCallV, mCallB, mRs, tupleD, mRetF, mChain, mScr, mScrLen, mScrIx, mMut, appD, max2D, min2D, mRng1, mRng2, rngD1, rngD2, rngOk, mItems, itemsD, mAsgN, mParEE, mParEN, mUn, negD, mCallN1, listD, unsE, powD, cPow, divD, cDiv, mFor, mSl, mSlL, slD, mNoPart, mPart, intO, mSlN, mSlNL, slN, mRevN, revO, mParNC, andD, orD, xorD, shrD, shlD, cShr, mStepN, mStepNL, stepO, mCatN, mCatNL, catN, e1, e2, e3, e4, e5, e6, t1]
theorem cell_turn {ns : List Int} {k : Int} (s2 s3 s4 s5 s6 s7 : Sl) (h0 : 0 ≤ k) (h1 : k < 1000) :
    ∃ a b c d e f, L_law_1 [.scr ns, .val (.int k), s2, s3, s4, s5, s6, s7] = some (.ok .nx [.scr ns, .val (.int k), a, b, c, d, e, f]) := by
  obtain ⟨bs, e1, hb⟩ := box_ok ns k h0 h1
  obtain ⟨xs, b1, e2, hb1, hx, hxl⟩ := replies_ok (bd := 40) hb (by omega) (by omega)
  obtain ⟨ys, b2, e3, hb2, hy, hyl⟩ := replies_ok (bd := 6) hb1 (by omega) (by omega)
  obtain ⟨t, b3, e4, t0, t1, hb3⟩ := take_ok (m := (xs.length : Int) + 1) hb2 (by omega) (by omega)
  obtain ⟨q, rfl⟩ : ∃ q : Nat, t = (q : Int) := ⟨t.toNat, by omega⟩
  have hct := cut_take (xs.map itemQ) q
  rw [← List.map_take] at hct
  obtain ⟨ρ', h5, c5, c6, c7, rfl⟩ := forL_inv (g := mStore 5) (body := L_law_0) (fun ρ => ∃ s5 s6 s7, ρ = [.scr ns, .val (.int k), .own b3, .val (.list (xs.map itemQ)), .val (.list (ys.map itemQ)), s5, s6, s7]) [.list (xs.map itemQ), .list (ys.map itemQ), .list (xs.map itemQ), .list ((xs.take q).map itemQ)] [.scr ns, .val (.int k), .own b3, .val (.list (xs.map itemQ)), .val (.list (ys.map itemQ)), s5, s6, s7] ⟨_, _, _, rfl⟩ (by
    rintro d ρ hd ⟨s5, s6, s7, rfl⟩
    obtain ⟨zs, rfl, hz, hzl⟩ : ∃ zs : List Iq, d = .list (zs.map itemQ) ∧ (∀ x ∈ zs, Gt x) ∧ zs.length ≤ 100 := by
      simp only [List.mem_cons, List.not_mem_nil, or_false] at hd
      rcases hd with rfl | rfl | rfl | rfl
      · exact ⟨xs, rfl, hx, by omega⟩
      · exact ⟨ys, rfl, hy, by omega⟩
      · exact ⟨xs, rfl, hx, by omega⟩
      · exact ⟨xs.take q, rfl, fun x h => hx x (List.mem_of_mem_take h), by rw [List.length_take]; omega⟩
    obtain ⟨a, b, q⟩ := items_turn (xs := zs) (s0 := .scr ns) (s1 := .val (.int k)) (s2 := .own b3) (s3 := .val (.list (xs.map itemQ))) (s4 := .val (.list (ys.map itemQ))) (s6 := s6) (s7 := s7) hz hzl
    exact ⟨_, _, by simp [mStore], Or.inl q, _, _, _, rfl⟩)
  have hi : mItems (mTup (mCons (mVar 3) (mCons (mVar 4) (mCons (mVar 3) (mCons (mSlL 3 mNoPart (mPart (mCallB 2 2 fn__law_take (mCons (mBin addD (mCall1 lenD (mPeek 3)) (mPure (.int 1))) (mPure []))))) (mPure [])))))) [.scr ns, .val (.int k), .own b2, .val (.list (xs.map itemQ)), .val (.list (ys.map itemQ)), s5, s6, s7] = some (.ok [.list (xs.map itemQ), .list (ys.map itemQ), .list (xs.map itemQ), .list ((xs.take q).map itemQ)] [.scr ns, .val (.int k), .own b3, .val (.list (xs.map itemQ)), .val (.list (ys.map itemQ)), s5, s6, s7]) := by
    have hL : (xs.map itemQ).length = xs.length := List.length_map _
    generalize (xs.take q).map itemQ = T at *
    generalize ys.map itemQ = Y at *
    generalize xs.map itemQ = X at *
    simp [mSeq, mIf, mBol, mBin, mBinL, mBind, mLift, mPure, mPeek, mVar, ixD, iI, bolD, mAsg, mCall1, mCallN, intD, modD, iIc, cMod, mStore, mStoreO, mDone, gSet, mOwn, mPut, setD, mRet, mDrop, mStuck, mTru, truD, mOrT, mAndT, mNotT, mAnd, mOr, mNot, mIsi, isiT_eq, typD, lenD, mCons, mTup, mLst, mLstN, mVal, oOr, addD, subD, mulD, mulI, iIc, cMul, ltD, leD, gtD, geD, gTupD, gCons2, gsNil, mCallV, mCallB, mRs, tupleD, mRetF, mChain, mScr, mScrLen, mScrIx, mMut, appD, max2D, min2D, mRng1, mRng2, rngD1, rngD2, rngOk, mItems, itemsD, mAsgN, mParEE, mParEN, mUn, negD, mCallN1, listD, unsE, powD, cPow, divD, cDiv, mFor, mSl, mSlL, slD, mNoPart, mPart, intO, mSlN, mSlNL, slN, mRevN, revO, mParNC, andD, orD, xorD, shrD, shlD, cShr, mStepN, mStepNL, stepO, mCatN, mCatNL, catN, hL, e4, mSlL, mPart, mNoPart, slD, intO, hct, fit]
  have hR : R_law_0 [.scr ns, .val (.int k), .own b2, .val (.list (xs.map itemQ)), .val (.list (ys.map itemQ)), s5, s6, s7] = some (.ok .nx [.scr ns, .val (.int k), .own b3, .val (.list (xs.map itemQ)), .val (.list (ys.map itemQ)), c5, c6, c7]) := by
    unfold R_law_0 mFor
    rw [bind_is hi]
    exact h5
  refine ⟨.own b3, .val (.list (xs.map itemQ)), .val (.list (ys.map itemQ)), c5, c6, c7, ?_⟩
  refine (seq_nx (ρ' := [.scr ns, .val (.int k), .own bs, s3, s4, s5, s6, s7]) (by simp [mAsgS, mSeq, mIf, mBol, mBin, mBinL, mBind, mLift, mPure, mPeek, mVar, ixD, iI, bolD, mAsg, mCall1, mCallN, intD, modD, iIc, cMod, mStore, mStoreO, mDone, gSet, mOwn, mPut, setD, mRet, mDrop, mStuck, mTru, truD, mOrT, mAndT, mNotT, mAnd, mOr, mNot, mIsi, isiT_eq, typD, lenD, mCons, mTup, mLst, mLstN, mVal, oOr, addD, subD, mulD, mulI, iIc, cMul, ltD, leD, gtD, geD, gTupD, gCons2, gsNil, mCallV, mCallB, mRs, tupleD, mRetF, mChain, mScr, mScrLen, mScrIx, mMut, appD, max2D, min2D, mRng1, mRng2, rngD1, rngD2, rngOk, mItems, itemsD, mAsgN, mParEE, mParEN, mUn, negD, mCallN1, listD, unsE, powD, cPow, divD, cDiv, mFor, mSl, mSlL, slD, mNoPart, mPart, intO, mSlN, mSlNL, slN, mRevN, revO, mParNC, andD, orD, xorD, shrD, shlD, cShr, mStepN, mStepNL, stepO, mCatN, mCatNL, catN, e1])).trans ?_
  refine (seq_nx (ρ' := [.scr ns, .val (.int k), .own b2, .val (.list (xs.map itemQ)), .val (.list (ys.map itemQ)), s5, s6, s7]) ?_).trans hR
  generalize ys.map itemQ = Y at *
  generalize xs.map itemQ = X at *
  simp [mSeq, mIf, mBol, mBin, mBinL, mBind, mLift, mPure, mPeek, mVar, ixD, iI, bolD, mAsg, mCall1, mCallN, intD, modD, iIc, cMod, mStore, mStoreO, mDone, gSet, mOwn, mPut, setD, mRet, mDrop, mStuck, mTru, truD, mOrT, mAndT, mNotT, mAnd, mOr, mNot, mIsi, isiT_eq, typD, lenD, mCons, mTup, mLst, mLstN, mVal, oOr, addD, subD, mulD, mulI, iIc, cMul, ltD, leD, gtD, geD, gTupD, gCons2, gsNil, mCallV, mCallB, mRs, tupleD, mRetF, mChain, mScr, mScrLen, mScrIx, mMut, appD, max2D, min2D, mRng1, mRng2, rngD1, rngD2, rngOk, mItems, itemsD, mAsgN, mParEE, mParEN, mUn, negD, mCallN1, listD, unsE, powD, cPow, divD, cDiv, mFor, mSl, mSlL, slD, mNoPart, mPart, intO, mSlN, mSlNL, slN, mRevN, revO, mParNC, andD, orD, xorD, shrD, shlD, cShr, mStepN, mStepNL, stepO, mCatN, mCatNL, catN, mParEE, e2, e3]
theorem law_true (ns : List Int) (hn : ns.length ≤ 63) : fn_law ns = some (.ok (.bool true)) := by
  have hM : ∃ M : Int, 0 ≤ M ∧ M ≤ 6 ∧ mRng1 (mCons (mCallN max2D (mCons (mPure (.int 2)) (mCons (mCallN min2D (mCons (mPure (.int 6)) (mCons (mScrLen 0) (mPure [])))) (mPure [])))) (mPure [])) [.scr ns, .un, .un, .un, .un, .un, .un, .un] = some (.ok (rngL 0 M) [.scr ns, .un, .un, .un, .un, .un, .un, .un]) := by
    have h0 : ∃ M : Int, 0 ≤ M ∧ M ≤ 6 ∧ max2D [.int 2, .int (if (ns.length : Int) < 6 then (ns.length : Int) else 6)] = some (.int M) :=
      ⟨_, by split <;> split <;> omega, by split <;> split <;> omega, rfl⟩
    obtain ⟨M, h1, h2, h3⟩ := h0
    refine ⟨M, h1, h2, rng1_is ?_ (rngOk_le (by omega) (by omega))⟩
    simp [mCons, mCallN, min2D, mBind, mPure, mLift, mScrLen, mScr, h3]
  obtain ⟨M, h1, h2, hr⟩ := hM
  obtain ⟨ρ', h, _⟩ := forL_inv (g := mStore 1) (body := L_law_1) (fun ρ => ∃ z a b c d e f, ρ = [.scr ns, z, a, b, c, d, e, f]) (rngL 0 M) [.scr ns, .un, .un, .un, .un, .un, .un, .un] ⟨_, _, _, _, _, _, _, rfl⟩ (by
    rintro x ρ hd ⟨z, a, b, c, d, e, f, rfl⟩
    obtain ⟨t, rfl, t0, t1⟩ := rngL_mem hd
    obtain ⟨a', b', c', d', e', f', q⟩ := cell_turn (ns := ns) (k := t) a b c d e f t0 (by omega)
    exact ⟨_, _, by simp [mStore], Or.inl q, _, _, _, _, _, _, _, rfl⟩)
  have hR : R_law_1 [.scr ns, .un, .un, .un, .un, .un, .un, .un] = some (.ok .nx ρ') := by
    unfold R_law_1 mFor
    rw [bind_is hr]
    exact h
  simp [fn_law, runL, m_law, env0S, mSeq, mIf, mBol, mBin, mBinL, mBind, mLift, mPure, mPeek, mVar, ixD, iI, bolD, mAsg, mCall1, mCallN, intD, modD, iIc, cMod, mStore, mStoreO, mDone, gSet, mOwn, mPut, setD, mRet, mDrop, mStuck, mTru, truD, mOrT, mAndT, mNotT, mAnd, mOr, mNot, mIsi, isiT_eq, typD, lenD, mCons, mTup, mLst, mLstN, mVal, oOr, addD, subD, mulD, mulI, iIc, cMul, ltD, leD, gtD, geD, gTupD, gCons2, gsNil, mCallV, mCallB, mRs, tupleD, mRetF, mChain, mScr, mScrLen, mScrIx, mMut, appD, max2D, min2D, mRng1, mRng2, rngD1, rngD2, rngOk, mItems, itemsD, mAsgN, mParEE, mParEN, mUn, negD, mCallN1, listD, unsE, powD, cPow, divD, cDiv, mFor, mSl, mSlL, slD, mNoPart, mPart, intO, mSlN, mSlNL, slN, mRevN, revO, mParNC, andD, orD, xorD, shrD, shlD, cShr, mStepN, mStepNL, stepO, mCatN, mCatNL, catN, hR]

end Pf
namespace Pf
open PySem PySem.Spec L2 Dd
theorem all_mk {l : PySem.W.OpenLaw} {w : World} {K : PySem.W.Frag} {h : Heap} {mg : Str → Option Value} {fa f1 f2 f3 f4 f5 f6 f7 f8 f9 f10 f11 : Addr} (X : K.In h) (G : h.Ns mainGlobals mg) (hfa : mg "law" = some (.ref fa))
    {od1 an1 od2 an2 od3 an3 od4 an4 od5 an5 od6 an6 od7 an7 od8 an8 od9 an9 od10 an10 od11 an11 : Option Addr} {sl1 sl2 sl3 sl4 sl5 sl6 sl7 sl8 sl9 sl10 sl11 : Array (Option Value)} {oc1 kV1 dc1 pm1 cd1 ct1 oc2 kV2 dc2 pm2 cd2 ct2 oc3 kV3 dc3 pm3 cd3 ct3 oc4 kV4 dc4 pm4 cd4 ct4 oc5 kV5 dc5 pm5 cd5 ct5 oc6 kV6 dc6 pm6 cd6 ct6 oc7 kV7 dc7 pm7 cd7 ct7 oc8 kV8 dc8 pm8 cd8 ct8 oc9 kV9 dc9 pm9 cd9 ct9 oc10 kV10 dc10 pm10 cd10 ct10 oc11 kV11 dc11 pm11 cd11 ct11 : Value} {tg_ANSWERS : Tok}
    (a1 : PySem.W.nsIn K mainGlobals "item_of_parts" = some (some (.ref f1))) (l1 : K.lookup f1 = some ⟨oc1, od1, .func (PySem.W.fnOf "item_of_parts" "item_of_parts" (defArgs s_item_of_parts) (defBody s_item_of_parts) (defScope s_item_of_parts) .none kV1 dc1 pm1 an1 cd1 ct1), sl1⟩) (c1 : PySem.W.codeIn K cd1 "item_of_parts" = true) (k1 : PySem.W.keepIn K (.ref f1) = true)
    (a2 : PySem.W.nsIn K mainGlobals "_said" = some (some (.ref f2))) (l2 : K.lookup f2 = some ⟨oc2, od2, .func (PySem.W.fnOf "_said" "_said" (defArgs s__said) (defBody s__said) (defScope s__said) .none kV2 dc2 pm2 an2 cd2 ct2), sl2⟩) (c2 : PySem.W.codeIn K cd2 "_said" = true) (k2 : PySem.W.keepIn K (.ref f2) = true)
    (a3 : PySem.W.nsIn K mainGlobals "_alone" = some (some (.ref f3))) (l3 : K.lookup f3 = some ⟨oc3, od3, .func (PySem.W.fnOf "_alone" "_alone" (defArgs s__alone) (defBody s__alone) (defScope s__alone) .none kV3 dc3 pm3 an3 cd3 ct3), sl3⟩) (c3 : PySem.W.codeIn K cd3 "_alone" = true) (k3 : PySem.W.keepIn K (.ref f3) = true)
    (a4 : PySem.W.nsIn K mainGlobals "talks_in" = some (some (.ref f4))) (l4 : K.lookup f4 = some ⟨oc4, od4, .func (PySem.W.fnOf "talks_in" "talks_in" (defArgs s_talks_in) (defBody s_talks_in) (defScope s_talks_in) .none kV4 dc4 pm4 an4 cd4 ct4), sl4⟩) (c4 : PySem.W.codeIn K cd4 "talks_in" = true) (k4 : PySem.W.keepIn K (.ref f4) = true)
    (a5 : PySem.W.nsIn K mainGlobals "_law_box" = some (some (.ref f5))) (l5 : K.lookup f5 = some ⟨oc5, od5, .func (PySem.W.fnOf "_law_box" "_law_box" (defArgs s__law_box) (defBody s__law_box) (defScope s__law_box) .none kV5 dc5 pm5 an5 cd5 ct5), sl5⟩) (c5 : PySem.W.codeIn K cd5 "_law_box" = true) (k5 : PySem.W.keepIn K (.ref f5) = true)
    (a6 : PySem.W.nsIn K mainGlobals "_law_take" = some (some (.ref f6))) (l6 : K.lookup f6 = some ⟨oc6, od6, .func (PySem.W.fnOf "_law_take" "_law_take" (defArgs s__law_take) (defBody s__law_take) (defScope s__law_take) .none kV6 dc6 pm6 an6 cd6 ct6), sl6⟩) (c6 : PySem.W.codeIn K cd6 "_law_take" = true) (k6 : PySem.W.keepIn K (.ref f6) = true)
    (a7 : PySem.W.nsIn K mainGlobals "_law_alike" = some (some (.ref f7))) (l7 : K.lookup f7 = some ⟨oc7, od7, .func (PySem.W.fnOf "_law_alike" "_law_alike" (defArgs s__law_alike) (defBody s__law_alike) (defScope s__law_alike) .none kV7 dc7 pm7 an7 cd7 ct7), sl7⟩) (c7 : PySem.W.codeIn K cd7 "_law_alike" = true) (k7 : PySem.W.keepIn K (.ref f7) = true)
    (a8 : PySem.W.nsIn K mainGlobals "_law_numbers" = some (some (.ref f8))) (l8 : K.lookup f8 = some ⟨oc8, od8, .func (PySem.W.fnOf "_law_numbers" "_law_numbers" (defArgs s__law_numbers) (defBody s__law_numbers) (defScope s__law_numbers) .none kV8 dc8 pm8 an8 cd8 ct8), sl8⟩) (c8 : PySem.W.codeIn K cd8 "_law_numbers" = true) (k8 : PySem.W.keepIn K (.ref f8) = true)
    (a9 : PySem.W.nsIn K mainGlobals "_law_replies" = some (some (.ref f9))) (l9 : K.lookup f9 = some ⟨oc9, od9, .func (PySem.W.fnOf "_law_replies" "_law_replies" (defArgs s__law_replies) (defBody s__law_replies) (defScope s__law_replies) .none kV9 dc9 pm9 an9 cd9 ct9), sl9⟩) (c9 : PySem.W.codeIn K cd9 "_law_replies" = true) (k9 : PySem.W.keepIn K (.ref f9) = true)
    (a10 : PySem.W.nsIn K mainGlobals "_law_talks" = some (some (.ref f10))) (l10 : K.lookup f10 = some ⟨oc10, od10, .func (PySem.W.fnOf "_law_talks" "_law_talks" (defArgs s__law_talks) (defBody s__law_talks) (defScope s__law_talks) .none kV10 dc10 pm10 an10 cd10 ct10), sl10⟩) (c10 : PySem.W.codeIn K cd10 "_law_talks" = true) (k10 : PySem.W.keepIn K (.ref f10) = true)
    (a11 : PySem.W.nsIn K mainGlobals "law" = some (some (.ref f11))) (l11 : K.lookup f11 = some ⟨oc11, od11, .func (PySem.W.fnOf "law" "law" (defArgs s_law) (defBody s_law) (defScope s_law) .none kV11 dc11 pm11 an11 cd11 ct11), sl11⟩) (c11 : PySem.W.codeIn K cd11 "law" = true) (k11 : PySem.W.keepIn K (.ref f11) = true)
    (z1 : PySem.W.nsIn K mainGlobals "all" = some none)
    (z2 : PySem.W.nsIn K mainGlobals "bool" = some none)
    (z3 : PySem.W.nsIn K mainGlobals "dict" = some none)
    (z4 : PySem.W.nsIn K mainGlobals "enumerate" = some none)
    (z5 : PySem.W.nsIn K mainGlobals "int" = some none)
    (z6 : PySem.W.nsIn K mainGlobals "isinstance" = some none)
    (z7 : PySem.W.nsIn K mainGlobals "len" = some none)
    (z8 : PySem.W.nsIn K mainGlobals "list" = some none)
    (z9 : PySem.W.nsIn K mainGlobals "max" = some none)
    (z10 : PySem.W.nsIn K mainGlobals "min" = some none)
    (z11 : PySem.W.nsIn K mainGlobals "range" = some none)
    (z12 : PySem.W.nsIn K mainGlobals "repr" = some none)
    (z13 : PySem.W.nsIn K mainGlobals "sorted" = some none)
    (z14 : PySem.W.nsIn K mainGlobals "str" = some none)
    (z15 : PySem.W.nsIn K mainGlobals "tuple" = some none)
    (z16 : PySem.W.nsIn K mainGlobals "zip" = some none)
    (ng_ANSWERS : PySem.W.nsIn K mainGlobals "ANSWERS" = some (some (.int 128 tg_ANSWERS))) :
    ∃ fd : FuncData, (∀ (s : Shared) (v : Value), BindsTo s fd ⟨[v], []⟩ [("_law_script", v)]) ∧ ∀ base : Heap, K.In base → base.Ns mainGlobals mg → LawFn l.prog w K mg base fa fd "_law_script" 8 fn_law := by
  have e := hfa.symm.trans (PySem.W.mg_of X G a11)
  cases e
  have F1 := fun_mk (st := s_item_of_parts) l1 c1 k1
  have b1 := F1.binds (ps := ["items", "kind", "what", "parts"]) fun _ _ _ _ _ _ us hl => match us, hl with | [_, _, _, _], _ => rfl
  have F2 := fun_mk (st := s__said) l2 c2 k2
  have b2 := F2.binds (ps := ["items", "at"]) fun _ _ _ _ _ _ us hl => match us, hl with | [_, _], _ => rfl
  have F3 := fun_mk (st := s__alone) l3 c3 k3
  have b3 := F3.binds (ps := ["items", "kind", "at"]) fun _ _ _ _ _ _ us hl => match us, hl with | [_, _, _], _ => rfl
  have F4 := fun_mk (st := s_talks_in) l4 c4 k4
  have b4 := F4.binds (ps := ["items"]) fun _ _ _ _ _ _ us hl => match us, hl with | [_], _ => rfl
  have F5 := fun_mk (st := s__law_box) l5 c5 k5
  have b5 := F5.binds (ps := ["_law_script", "_law_k"]) fun _ _ _ _ _ _ us hl => match us, hl with | [_, _], _ => rfl
  have F6 := fun_mk (st := s__law_take) l6 c6 k6
  have b6 := F6.binds (ps := ["_law_box_here", "_law_many"]) fun _ _ _ _ _ _ us hl => match us, hl with | [_, _], _ => rfl
  have F7 := fun_mk (st := s__law_alike) l7 c7 k7
  have b7 := F7.binds (ps := ["_law_found", "_law_due"]) fun _ _ _ _ _ _ us hl => match us, hl with | [_, _], _ => rfl
  have F8 := fun_mk (st := s__law_numbers) l8 c8 k8
  have b8 := F8.binds (ps := ["_law_box_here", "_law_bound"]) fun _ _ _ _ _ _ us hl => match us, hl with | [_, _], _ => rfl
  have F9 := fun_mk (st := s__law_replies) l9 c9 k9
  have b9 := F9.binds (ps := ["_law_box_here", "_law_bound"]) fun _ _ _ _ _ _ us hl => match us, hl with | [_, _], _ => rfl
  have F10 := fun_mk (st := s__law_talks) l10 c10 k10
  have b10 := F10.binds (ps := ["_law_items"]) fun _ _ _ _ _ _ us hl => match us, hl with | [_], _ => rfl
  have F11 := fun_mk (st := s_law) l11 c11 k11
  have b11 := F11.binds (ps := ["_law_script"]) fun _ _ _ _ _ _ us hl => match us, hl with | [_], _ => rfl
  let T : Tx K mg := ⟨_, _, F1, PySem.W.mg_of X G a1, b1, _, _, F2, PySem.W.mg_of X G a2, b2, _, _, F3, PySem.W.mg_of X G a3, b3, _, _, F4, PySem.W.mg_of X G a4, b4, _, _, F5, PySem.W.mg_of X G a5, b5, _, _, F6, PySem.W.mg_of X G a6, b6, _, _, F7, PySem.W.mg_of X G a7, b7, _, _, F8, PySem.W.mg_of X G a8, b8, _, _, F9, PySem.W.mg_of X G a9, b9, _, _, F10, PySem.W.mg_of X G a10, b10, _, _, F11, PySem.W.mg_of X G a11, b11, _, PySem.W.mg_of X G ng_ANSWERS, PySem.W.mg_none_of X G z1, PySem.W.mg_none_of X G z2, PySem.W.mg_none_of X G z3, PySem.W.mg_none_of X G z4, PySem.W.mg_none_of X G z5, PySem.W.mg_none_of X G z6, PySem.W.mg_none_of X G z7, PySem.W.mg_none_of X G z8, PySem.W.mg_none_of X G z9, PySem.W.mg_none_of X G z10, PySem.W.mg_none_of X G z11, PySem.W.mg_none_of X G z12, PySem.W.mg_none_of X G z13, PySem.W.mg_none_of X G z14, PySem.W.mg_none_of X G z15, PySem.W.mg_none_of X G z16⟩
  exact ⟨_, fun s v => .of_eq rfl, fun base _ _ => ok_law T⟩
end Pf
open PySem PySem.W PyProof.Rows
set_option maxRecDepth 100000 in
set_option maxHeartbeats 0 in
theorem PySem.Challenge.cw_wirelooker_k52_talks_read_holds : PySem.Challenge.rw_wirelooker_k52_talks_read.Holds := by
  w_on; o_law; k_head; (case hw => w_witness2)
  k_fill
  refine Dd.walk_ofG (l := PySem.Challenge.rw_wirelooker_k52_talks_read) (n := 63) (k := 8) (p := "_law_script") (g := Pf.fn_law) rfl (by decide) rfl ⟨rfl, by decide, by decide⟩ (fun w h Y => PySem.W.kIn_of Y) ?F (fun ns hl => Pf.law_true ns hl)
  case F =>
    intro w mg fa h KX G hmg
    refine' Pf.all_mk KX G hmg ?a1 ?l1 ?c1 ?k1 ?a2 ?l2 ?c2 ?k2 ?a3 ?l3 ?c3 ?k3 ?a4 ?l4 ?c4 ?k4 ?a5 ?l5 ?c5 ?k5 ?a6 ?l6 ?c6 ?k6 ?a7 ?l7 ?c7 ?k7 ?a8 ?l8 ?c8 ?k8 ?a9 ?l9 ?c9 ?k9 ?a10 ?l10 ?c10 ?k10 ?a11 ?l11 ?c11 ?k11 ?z1 ?z2 ?z3 ?z4 ?z5 ?z6 ?z7 ?z8 ?z9 ?z10 ?z11 ?z12 ?z13 ?z14 ?z15 ?z16 ?ng_ANSWERS
    (case a1 => k_is); (case l1 => k_is); (case c1 => k_is); (case k1 => k_is); (case a2 => k_is); (case l2 => k_is); (case c2 => k_is); (case k2 => k_is); (case a3 => k_is); (case l3 => k_is); (case c3 => k_is); (case k3 => k_is); (case a4 => k_is); (case l4 => k_is); (case c4 => k_is); (case k4 => k_is); (case a5 => k_is); (case l5 => k_is); (case c5 => k_is); (case k5 => k_is); (case a6 => k_is); (case l6 => k_is); (case c6 => k_is); (case k6 => k_is); (case a7 => k_is); (case l7 => k_is); (case c7 => k_is); (case k7 => k_is); (case a8 => k_is); (case l8 => k_is); (case c8 => k_is); (case k8 => k_is); (case a9 => k_is); (case l9 => k_is); (case c9 => k_is); (case k9 => k_is); (case a10 => k_is); (case l10 => k_is); (case c10 => k_is); (case k10 => k_is); (case a11 => k_is); (case l11 => k_is); (case c11 => k_is); (case k11 => k_is); (case z1 => k_is); (case z2 => k_is); (case z3 => k_is); (case z4 => k_is); (case z5 => k_is); (case z6 => k_is); (case z7 => k_is); (case z8 => k_is); (case z9 => k_is); (case z10 => k_is); (case z11 => k_is); (case z12 => k_is); (case z13 => k_is); (case z14 => k_is); (case z15 => k_is); (case z16 => k_is); (case ng_ANSWERS => first | k_is | rfl | decide +kernel)
