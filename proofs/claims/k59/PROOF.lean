import PyProof.Rows.All
import PySem.Challenge.RW_wirelooker_k59_held_spoilt
import Wide.All
import OpenK.AllK
import Wide.FinOn
import PyProof.EqAt
import PyProof.EqKinds
import PyProof.TupleCall
import HandS.Base
import HandS.Call
import HandS.List
import HandS.Comp
import HandS.Iter
import HandS.Text
import HandS.Words
import HandS.Exc
import HandS.Dict
import HandS.IsInst
import HandS.Flow
import HandS.Wide
import HandS.RaiseMore
import HandS.Zip
import HandS.CallSlots
import HandS.WordsExc
import HandS.ExcOwn
import HandS.SortInts
import HandS.TupMul
import HandS.Star
import HandS.Conv
import HandS.More
import HandS.SortRule
import HandS.TryOnly
import HandS.SortKw
import KE.DataMinMax
import ObjForm.LawKit
import HandS.TupAny
import HandS.Style
import PyProof.ReprRoads
import HandS.Ends
import PyProof.WalksMore
import PyProof.Rows.SumAny
import KE.GoesMore
import KE.GoesZip
import HandS.ExcField
import KE.KExcInit
import KE.KExcIs
import KE.KIsAll
import PyProof.ExcBaseAll.IndexError
import PyProof.ExcBaseAll.LookupError
import HandS.Defaults
import KE.KRevSl
import KE.GoesEnum
import HandS.ExcInit
import PyProof.ExcBaseAll.ValueError
import HandS.Steps
import HandS.StrSplit
import KE.KDictZip
import HandS.OwnIter
import HandS.Rev
import HandS.SetFor
import HandS.Strs
import KE.KExcPX
import KE.GoesRaise
import KE.KDictCopyH
import PyProof.StrOps2
import HandS.Deep
import HandS.Flt
set_option Elab.async false
set_option linter.all false
set_option maxRecDepth 100000
set_option maxHeartbeats 4000000
namespace Dd
open PySem PySem.Spec L2
abbrev D := PyData
inductive Sl where
  | un
  | val (d : D)
  | own (ds : List D)
  | io (ds : List D)
  | scr (ns : List Int)
  | dct (kvs : Option (Str × Addr) × List (Key × D))
  | nst (dss : List (List D))
abbrev En := List Sl
/-- a dict's entries (none) or an object's fields (its class and where it stands) -/
abbrev DK := Option (Str × Addr) × List (Key × D)
/-- isinstance of an object by the built-in types -/
structure InsOk (K : PySem.W.Frag) (C : Addr) : Prop where
  cl : Cls K C
  ha : PySem.W.findIn K (.ref C) "__class__" = some (some (.builtin "object.__class__"))
  hn : PySem.W.specialIn K (.builtin "object.__class__") "__get__" = some (some (.builtin "getset_descriptor.__get__"))
  htk : PySem.W.takesIn K (.builtin "object.__class__") = some true
  hm : PySem.W.mroIn K C (.type "object") = some true
  ki : ∀ T ∈ (["bool", "int", "str", "list", "tuple", "dict"] : List String), PySem.W.kitOne K (.ref C) (.type T) = some false
/-- fields by keys -/
def fldK (fs : List (Str × V)) : List (Key × V) := fs.map fun p => (.inr p.1, p.2)
/-- a key as data -/
def keyPD : Key → D
  | .inl n => .int n
  | .inr s => .str s
mutual
inductive Dp (K : PySem.W.Frag) (H : Hp) : V → D → Prop
  | non : Dp K H .non .none
  | bl (b : Bool) : Dp K H (.bl b) (.bool b)
  | int (i : Int) : Dp K H (.int i) (.int i)
  | str (x : Str) : Dp K H (.str x) (.str x)
  | lst {a : Addr} {xs : List V} {ds : List D} : Rd H a (.lst xs) → DpAll K H xs ds → Dp K H (.ref a) (.list ds)
  | tup {a : Addr} {xs : List V} {ds : List D} : SqT K H a xs → DpAll K H xs ds → Dp K H (.ref a) (.tuple ds)
  | dct {a : Addr} {ws : List (Key × V)} {kvs : List (D × D)} : Rd H a (.dK ws) → DpKV K H ws kvs → Dp K H (.ref a) (.dict kvs)
  | ins {a C dx : Addr} {fs : List (Str × V)} {cn : Str} {kvs : List (D × D)} : H a = some (.ins C dx fs) → PySem.W.nsIn K mainGlobals cn = some (some (.ref C)) → InsOk K C → DpKV K H (fldK fs) kvs → Dp K H (.ref a) (.dict ((.none, .str cn) :: kvs))
inductive DpAll (K : PySem.W.Frag) (H : Hp) : List V → List D → Prop
  | nil : DpAll K H [] []
  | cons {v : V} {vs : List V} {d : D} {ds : List D} : Dp K H v d → DpAll K H vs ds → DpAll K H (v :: vs) (d :: ds)
inductive DpKV (K : PySem.W.Frag) (H : Hp) : List (Key × V) → List (D × D) → Prop
  | nil : DpKV K H [] []
  | cons {k : Key} {v : V} {d : D} {ws : List (Key × V)} {kvs : List (D × D)} : Dp K H v d → DpKV K H ws kvs → DpKV K H ((k, v) :: ws) ((keyPD k, d) :: kvs)
end
mutual
theorem Dp.l2 {K : PySem.W.Frag} {F : Hp} : ∀ {v : V} {d : D}, Dp K F v d → d.hasDict = false → L2.Dp K F v d
  | _, _, .non, _ => .non
  | _, _, .bl b, _ => .bl b
  | _, _, .int i, _ => .int i
  | _, _, .str x, _ => .str x
  | _, _, .lst h t, n => .lst (.inl h) (DpAll.l2 t n)
  | _, _, .tup h t, n => .tup h (DpAll.l2 t n)
  | _, _, .dct h t, n => by cases n
  | _, _, .ins _ _ _ _, n => by cases n
theorem DpAll.l2 {K : PySem.W.Frag} {F : Hp} : ∀ {vs : List V} {ds : List D}, DpAll K F vs ds → PyData.hasDictAll ds = false → L2.DpAll K F vs ds
  | _, _, .nil, _ => .nil
  | _, _, .cons (d := d) (ds := ds) h t, n => by
    have n : (d.hasDict || PyData.hasDictAll ds) = false := n
    rw [Bool.or_eq_false_iff] at n
    exact .cons (Dp.l2 h n.1) (DpAll.l2 t n.2)
end
structure Ct where
  F0 : Hp
  H0 : Hp
  io : Option Addr
  pr : Hp
/-- a dict's entries -/
inductive KVs (K : PySem.W.Frag) (F : Hp) : List (Key × V) → List (Key × D) → Prop
  | nil : KVs K F [] []
  | cons {k : Key} {v : V} {d : D} {ws : List (Key × V)} {kvs : List (Key × D)} : Dp K F v d → KVs K F ws kvs → KVs K F ((k, v) :: ws) ((k, d) :: kvs)
/-- what a slot's dict or object is in the heap -/
def HK (K : PySem.W.Frag) (F : Hp) (p : Addr) (o : HO) (l : DK) : Prop := match l.1 with
  | none => ∃ ws, o = .dK ws ∧ KVs K F ws l.2
  | some (cn, q) => p = q ∧ ∃ C dx fs, o = .ins C dx fs ∧ PySem.W.nsIn K mainGlobals cn = some (some (.ref C)) ∧ InsOk K C ∧ KVs K F (fldK fs) l.2
theorem HK.dct {K : PySem.W.Frag} {F : Hp} {p : Addr} {ws : List (Key × V)} {kvs : List (Key × D)} (h : KVs K F ws kvs) : HK K F p (.dK ws) (none, kvs) := ⟨ws, rfl, h⟩
theorem HK.noLst {K : PySem.W.Frag} {F : Hp} {p : Addr} {l : DK} {vs : List V} (h : HK K F p (.lst vs) l) : False := by
  obtain ⟨t, kvs⟩ := l
  cases t with
  | none => obtain ⟨_, e, _⟩ := h; cases e
  | some cn => obtain ⟨_, _, _, _, e, _⟩ := h; cases e
/-- what this def alone holds -/
def Mine (F H0 pr : Hp) (q : Addr) : Prop := F q = none ∧ H0 q = none ∧ pr q = none
/-- the lists of an own list of lists -/
inductive Inn (K : PySem.W.Frag) (F H H0 pr : Hp) : List Addr → List (List D) → Prop
  | nil : Inn K F H H0 pr [] []
  | cons {q : Addr} {vs : List V} {ds : List D} {qs : List Addr} {dss : List (List D)} : H q = some (.lst vs) → DpAll K F vs ds → Mine F H0 pr q → Inn K F H H0 pr qs dss → Inn K F H H0 pr (q :: qs) (ds :: dss)
/-- q is one of the lists of the list of lists at v -/
def Cells (H : Hp) (v : Option (Option V)) (q : Addr) : Prop := ∃ (p : Addr) (ps : List Addr), v = some (some (.ref p)) ∧ H p = some (.lst (ps.map V.ref)) ∧ (q = p ∨ q ∈ ps)
/-- a slot's own dicts, own lists of lists -/
structure Dcs (K : PySem.W.Frag) (F H H0 pr : Hp) (σ : St) (ρ : En) : Prop where
  at' : ∀ (i : Nat) (kvs : DK), ρ[i]? = some (.dct kvs) → ∃ p o, σ[i]? = some (some (.ref p)) ∧ H p = some o ∧ HK K F p o kvs ∧ F p = none ∧ H0 p = none ∧ pr p = none
  sep : ∀ (i j : Nat) (k l : DK) (p : Addr), ρ[i]? = some (.dct k) → ρ[j]? = some (.dct l) → σ[i]? = some (some (.ref p)) → σ[j]? = some (some (.ref p)) → i = j
  nat : ∀ (i : Nat) (dss : List (List D)), ρ[i]? = some (.nst dss) → ∃ (p : Addr) (ps : List Addr), σ[i]? = some (some (.ref p)) ∧ H p = some (.lst (ps.map V.ref)) ∧ Mine F H0 pr p ∧ Inn K F H H0 pr ps dss ∧ p ∉ ps ∧ ps.Nodup
  nown : ∀ (i j : Nat) (dss : List (List D)) (es : List D) (q : Addr), ρ[i]? = some (.nst dss) → ρ[j]? = some (.own es) → σ[j]? = some (some (.ref q)) → Cells H σ[i]? q → False
  nsep : ∀ (i j : Nat) (dss ess : List (List D)) (q : Addr), ρ[i]? = some (.nst dss) → ρ[j]? = some (.nst ess) → Cells H σ[i]? q → Cells H σ[j]? q → i = j
  down : ∀ (i j : Nat) (kvs : DK) (es : List D) (q : Addr), ρ[i]? = some (.dct kvs) → ρ[j]? = some (.own es) → σ[i]? = some (some (.ref q)) → σ[j]? = some (some (.ref q)) → False
structure Ok (K : PySem.W.Frag) (c : Ct) (σ : St) (H F : Hp) (ρ : En) : Prop where
  len : σ.length = ρ.length
  sub : Same F H
  ge : Same c.F0 F
  fe : ∀ b o, F b = some o → c.F0 b = some o ∨ c.H0 b = none
  keep : ∀ b o, c.H0 b = some o → c.io ≠ some b → H b = some o
  iod : ∀ p, c.io = some p → F p = none ∧ c.H0 p ≠ none ∧ c.pr p = none ∧ ∃ xs, H p = some (.lst xs)
  prt : ∀ b o, c.pr b = some o → H b = some o ∧ F b = none ∧ c.H0 b = none
  val : ∀ (i : Nat) (d : D), ρ[i]? = some (.val d) → ∃ v, σ[i]? = some (some v) ∧ Dp K F v d
  own : ∀ (i : Nat) (ds : List D), ρ[i]? = some (.own ds) → ∃ p vs, σ[i]? = some (some (.ref p)) ∧ H p = some (.lst vs) ∧ DpAll K F vs ds ∧ F p = none ∧ c.H0 p = none ∧ c.pr p = none
  ios : ∀ (i : Nat) (ds : List D), ρ[i]? = some (.io ds) → i = 0 ∧ ∃ p vs, c.io = some p ∧ σ[i]? = some (some (.ref p)) ∧ H p = some (.lst vs) ∧ DpAll K F vs ds
  scr : ∀ (i : Nat) (ns : List Int), ρ[i]? = some (.scr ns) → c.io = none ∧ ∃ a, σ[i]? = some (some (.ref a)) ∧ SqL K c.H0 a (ns.map V.int)
  sep : ∀ (i j : Nat) (ds es : List D) (p : Addr), ρ[i]? = some (.own ds) → ρ[j]? = some (.own es) → σ[i]? = some (some (.ref p)) → σ[j]? = some (some (.ref p)) → i = j
  dcs : Dcs K F H c.H0 c.pr σ ρ

section
variable {K : PySem.W.Frag} {F F' : Hp}
theorem Rd.mono {a : Addr} {u : HO} (s : Same F F') (h : Rd F a u) : Rd F' a u := by
  rcases h with h | ⟨o, h⟩
  · exact .inl (s _ _ h)
  · exact .inr ⟨o, s _ _ h⟩
theorem SqL.mono {a : Addr} {xs : List V} (s : Same F F') (h : SqL K F a xs) : SqL K F' a xs := h.imp (Rd.mono s) id
theorem SqT.mono {a : Addr} {xs : List V} (s : Same F F') (h : SqT K F a xs) : SqT K F' a xs := h.imp (Rd.mono s) id
mutual
theorem Dp.mono (s : Same F F') : ∀ {v : V} {d : D}, Dp K F v d → Dp K F' v d
  | _, _, .non => .non
  | _, _, .bl b => .bl b
  | _, _, .int i => .int i
  | _, _, .str x => .str x
  | _, _, .lst h t => .lst (Rd.mono s h) (DpAll.mono s t)
  | _, _, .tup h t => .tup (SqT.mono s h) (DpAll.mono s t)
  | _, _, .dct h t => .dct (Rd.mono s h) (DpKV.mono s t)
  | _, _, .ins h c i t => .ins (s _ _ h) c i (DpKV.mono s t)
theorem DpAll.mono (s : Same F F') : ∀ {vs : List V} {ds : List D}, DpAll K F vs ds → DpAll K F' vs ds
  | _, _, .nil => .nil
  | _, _, .cons h t => .cons (Dp.mono s h) (DpAll.mono s t)
theorem DpKV.mono (s : Same F F') : ∀ {ws : List (Key × V)} {kvs : List (D × D)}, DpKV K F ws kvs → DpKV K F' ws kvs
  | _, _, .nil => .nil
  | _, _, .cons h t => .cons (Dp.mono s h) (DpKV.mono s t)
end
theorem DpAll.length : ∀ {vs : List V} {ds : List D}, DpAll K F vs ds → vs.length = ds.length
  | _, _, .nil => rfl
  | _, _, .cons _ t => by simp [DpAll.length t]
theorem DpAll.get : ∀ {vs : List V} {ds : List D} {i : Nat} {v : V}, DpAll K F vs ds → vs[i]? = some v → ∃ d, ds[i]? = some d ∧ Dp K F v d
  | _, _, _, _, .nil, e => by simp at e
  | _, _, 0, v, .cons h t, e => by
    simp at e; subst e
    exact ⟨_, rfl, h⟩
  | _, _, i + 1, v, .cons h t, e => by
    obtain ⟨d, q, r⟩ := DpAll.get (i := i) (v := v) t (by simpa using e)
    exact ⟨d, by simpa using q, r⟩
theorem DpAll.getd : ∀ {vs : List V} {ds : List D} {i : Nat} {d : D}, DpAll K F vs ds → ds[i]? = some d → ∃ v, vs[i]? = some v ∧ Dp K F v d
  | _, _, _, _, .nil, e => by simp at e
  | _, _, 0, v, .cons h t, e => by
    simp at e; subst e
    exact ⟨_, rfl, h⟩
  | _, _, i + 1, v, .cons h t, e => by
    obtain ⟨d, q, r⟩ := DpAll.getd (i := i) (d := v) t (by simpa using e)
    exact ⟨d, by simpa using q, r⟩
theorem DpAll.append : ∀ {vs ws : List V} {ds es : List D}, DpAll K F vs ds → DpAll K F ws es → DpAll K F (vs ++ ws) (ds ++ es)
  | _, _, _, _, .nil, s => s
  | _, _, _, _, .cons h t, s => .cons h (DpAll.append t s)
theorem DpAll.set {v : V} {d : D} (r : Dp K F v d) : ∀ {vs : List V} {ds : List D} (i : Nat), DpAll K F vs ds → DpAll K F (vs.set i v) (ds.set i d)
  | _, _, _, .nil => .nil
  | _, _, 0, .cons _ t => .cons r t
  | _, _, i + 1, .cons h t => .cons h (DpAll.set r i t)
theorem DpAll.take : ∀ {vs : List V} {ds : List D} (n : Nat), DpAll K F vs ds → DpAll K F (vs.take n) (ds.take n)
  | _, _, 0, _ => .nil
  | _, _, _ + 1, .nil => .nil
  | _, _, n + 1, .cons h t => .cons h (DpAll.take n t)
theorem DpAll.drop : ∀ {vs : List V} {ds : List D} (n : Nat), DpAll K F vs ds → DpAll K F (vs.drop n) (ds.drop n)
  | _, _, 0, h => h
  | _, _, _ + 1, .nil => .nil
  | _, _, n + 1, .cons _ t => DpAll.drop n t
theorem DpAll.one {v : V} {d : D} (h : Dp K F v d) : DpAll K F [v] [d] := .cons h .nil
theorem DpAll.reverse : ∀ {vs : List V} {ds : List D}, DpAll K F vs ds → DpAll K F vs.reverse ds.reverse
  | _, _, .nil => .nil
  | _, _, .cons h t => by
    rw [List.reverse_cons, List.reverse_cons]
    exact DpAll.append (DpAll.reverse t) (DpAll.one h)
theorem DpAll.ints : ∀ {vs : List V} {ns : List Int}, DpAll K F vs (ns.map PyData.int) → vs = ns.map V.int
  | _, [], .nil => rfl
  | _, n :: ns, .cons h t => by
    cases h
    rw [DpAll.ints t]; rfl
theorem DpAll.bls : ∀ {vs : List V} {ns : List Bool}, DpAll K F vs (ns.map PyData.bool) → vs = ns.map V.bl
  | _, [], .nil => rfl
  | _, n :: ns, .cons h t => by
    cases h
    rw [DpAll.bls t]; rfl
theorem Same.updN {p : Addr} {o : HO} (h : F p = none) : Same F (upd F p o) := fun b u e => by
  rw [upd_ne (ne_of_none e h)]; exact e
theorem Same.upd2 {H : Hp} {p : Addr} {o : HO} (h : Same F H) : Same (upd F p o) (upd H p o) := fun b u e => by
  by_cases hb : b = p
  · subst hb; rw [upd_same] at e ⊢; exact e
  · rw [upd_ne hb] at e ⊢; exact h _ _ e
end

/-! ### own dicts -/
section
variable {K : PySem.W.Frag} {F F' H H' H0 pr pr' : Hp} {σ : St} {ρ : En}
theorem KVs.mono (s : Same F F') : ∀ {ws : List (Key × V)} {kvs : List (Key × D)}, KVs K F ws kvs → KVs K F' ws kvs
  | _, _, .nil => .nil
  | _, _, .cons h t => .cons (Dp.mono s h) (KVs.mono s t)
theorem HK.mono (s : Same F F') {p : Addr} {o : HO} {l : DK} (h : HK K F p o l) : HK K F' p o l := by
  obtain ⟨t, kvs⟩ := l
  cases t with
  | none => obtain ⟨ws, e, k⟩ := h; exact ⟨ws, e, KVs.mono s k⟩
  | some cn => obtain ⟨q, C, dx, fs, e, n, i, k⟩ := h; exact ⟨q, C, dx, fs, e, n, i, KVs.mono s k⟩
theorem refs_inj : ∀ {ps qs : List Addr}, ps.map V.ref = qs.map V.ref → ps = qs
  | [], [], _ => rfl
  | [], _ :: _, h => by cases h
  | _ :: _, [], h => by cases h
  | p :: ps, q :: qs, h => by
    rw [List.map_cons, List.map_cons] at h
    injection h with h1 h2
    injection h1 with h1
    rw [h1, refs_inj h2]
theorem Inn.cell : ∀ {qs : List Addr} {dss : List (List D)} {q : Addr}, Inn K F H H0 pr qs dss → q ∈ qs → (∃ vs, H q = some (.lst vs)) ∧ Mine F H0 pr q
  | _, _, _, .cons h _ m t, hq => by
    rcases List.mem_cons.mp hq with rfl | hq
    · exact ⟨⟨_, h⟩, m⟩
    · exact Inn.cell t hq
theorem Inn.tr (s : Same F F') : ∀ {qs : List Addr} {dss : List (List D)}, Inn K F H H0 pr qs dss → (∀ q ∈ qs, ∀ o, H q = some o → Mine F H0 pr q → H' q = some o ∧ F' q = none ∧ pr' q = none) → Inn K F' H' H0 pr' qs dss
  | _, _, .nil, _ => .nil
  | _, _, .cons h d m t, k => by
    obtain ⟨a, b, c⟩ := k _ List.mem_cons_self _ h m
    exact .cons a (DpAll.mono s d) ⟨b, m.2.1, c⟩ (Inn.tr s t fun q hq => k q (List.mem_cons_of_mem _ hq))
/-- q is held by a slot's dict or list of lists -/
def XC (H : Hp) (σ : St) (ρ : En) (q : Addr) : Prop := (∃ (j : Nat) (kvs : DK), ρ[j]? = some (.dct kvs) ∧ σ[j]? = some (some (.ref q))) ∨ (∃ (j : Nat) (dss : List (List D)), ρ[j]? = some (.nst dss) ∧ Cells H σ[j]? q)
theorem Dcs.cell {i : Nat} {dss : List (List D)} {q : Addr} (h : Dcs K F H H0 pr σ ρ) (e : ρ[i]? = some (.nst dss)) (c : Cells H σ[i]? q) : (∃ vs, H q = some (.lst vs)) ∧ Mine F H0 pr q := by
  obtain ⟨p, ps, a1, a2, a3, a4, _⟩ := h.nat i dss e
  obtain ⟨p', ps', b1, b2, b3⟩ := c
  rw [a1] at b1
  cases b1
  rw [a2] at b2
  have z := refs_inj (HO.lst.inj (Option.some.inj b2))
  subst z
  rcases b3 with rfl | hq
  · exact ⟨⟨_, a2⟩, a3⟩
  · exact Inn.cell a4 hq
theorem Dcs.tr (h : Dcs K F H H0 pr σ ρ) (s : Same F F') (k : ∀ q o, H q = some o → F q = none → H0 q = none → pr q = none → (∀ (j : Nat) (es : List D), ρ[j]? = some (.own es) → σ[j]? = some (some (.ref q)) → False) → XC H σ ρ q → H' q = some o ∧ F' q = none ∧ pr' q = none) : Dcs K F' H' H0 pr' σ ρ := by
  have kn : ∀ {i : Nat} {dss : List (List D)}, ρ[i]? = some (.nst dss) → ∀ {q : Addr} {o : HO}, Cells H σ[i]? q → H q = some o → H' q = some o ∧ F' q = none ∧ pr' q = none := fun {i dss} e {q o} c hq => by
    obtain ⟨_, m⟩ := h.cell e c
    exact k q o hq m.1 m.2.1 m.2.2 (fun j es x y => h.nown i j dss es q e x y c) (.inr ⟨i, dss, e, c⟩)
  have back : ∀ {i : Nat} {dss : List (List D)}, ρ[i]? = some (.nst dss) → ∀ {q : Addr}, Cells H' σ[i]? q → Cells H σ[i]? q := fun {i dss} e {q} c => by
    obtain ⟨p, ps, a1, a2, _⟩ := h.nat i dss e
    obtain ⟨c1, _, _⟩ := kn e ⟨p, ps, a1, a2, .inl rfl⟩ a2
    obtain ⟨p', ps', b1, b2, b3⟩ := c
    have ep : p' = p := by rw [a1] at b1; cases b1; rfl
    subst ep
    rw [c1] at b2
    have z := refs_inj (HO.lst.inj (Option.some.inj b2))
    subst z
    exact ⟨p', ps, a1, a2, b3⟩
  refine ⟨fun i kvs e => ?_, h.sep, fun i dss e => ?_, fun i j dss es q e f y c => h.nown i j dss es q e f y (back e c), fun i j dss ess q e f c d => h.nsep i j dss ess q e f (back e c) (back f d), h.down⟩
  · obtain ⟨p, ws, a1, a2, a3, a4, a5, a6⟩ := h.at' i kvs e
    obtain ⟨b1, b2, b3⟩ := k p _ a2 a4 a5 a6 (fun j es x y => h.down i j kvs es p e x a1 y) (.inl ⟨i, kvs, e, a1⟩)
    exact ⟨p, ws, a1, b1, HK.mono s a3, b2, a5, b3⟩
  · obtain ⟨p, ps, a1, a2, a3, a4, a5, a6⟩ := h.nat i dss e
    obtain ⟨b1, b2, b3⟩ := kn e ⟨p, ps, a1, a2, .inl rfl⟩ a2
    exact ⟨p, ps, a1, b1, ⟨b2, a3.2.1, b3⟩, Inn.tr s a4 (fun q hq o ho _ => kn e ⟨p, ps, a1, a2, .inr hq⟩ ho), a5, a6⟩
theorem Dcs.xmine (h : Dcs K F H H0 pr σ ρ) {q : Addr} (x : XC H σ ρ q) : Mine F H0 pr q ∧ ∃ o, H q = some o := by
  rcases x with ⟨j, kvs, a, b⟩ | ⟨j, dss, a, b⟩
  · obtain ⟨p, ws, a1, a2, a3, a4, a5, a6⟩ := h.at' j kvs a
    rw [b] at a1
    cases a1
    exact ⟨⟨a4, a5, a6⟩, _, a2⟩
  · obtain ⟨⟨vs, e⟩, m⟩ := h.cell a b
    exact ⟨m, _, e⟩
theorem Dcs.xback (h : Dcs K F H H0 pr σ ρ) (k : ∀ q o, H q = some o → H' q = some o) {q : Addr} (x : XC H' σ ρ q) : XC H σ ρ q := by
  rcases x with ⟨j, kvs, a, b⟩ | ⟨j, dss, a, p, ps, b1, b2, b3⟩
  · exact .inl ⟨j, kvs, a, b⟩
  · obtain ⟨p0, ps0, a1, a2, _⟩ := h.nat j dss a
    have ep : p0 = p := by rw [b1] at a1; cases a1; rfl
    subst ep
    have q2 := k _ _ a2
    rw [b2] at q2
    have z := refs_inj (HO.lst.inj (Option.some.inj q2))
    subst z
    exact .inr ⟨j, dss, a, p0, ps, b1, a2, b3⟩
theorem Dcs.sub {σ' : St} {ρ' : En} (h : Dcs K F H H0 pr σ ρ) (kd : ∀ (i : Nat) (kvs : DK), ρ'[i]? = some (.dct kvs) → ρ[i]? = some (.dct kvs) ∧ σ'[i]? = σ[i]?)
    (kn : ∀ (i : Nat) (dss : List (List D)), ρ'[i]? = some (.nst dss) → ρ[i]? = some (.nst dss) ∧ σ'[i]? = σ[i]?)
    (ko : ∀ (j : Nat) (es : List D) (q : Addr), ρ'[j]? = some (.own es) → σ'[j]? = some (some (.ref q)) → XC H σ ρ q → False) : Dcs K F H H0 pr σ' ρ' :=
  ⟨fun i kvs e => by
    obtain ⟨e1, e2⟩ := kd i kvs e
    rw [e2]; exact h.at' i kvs e1, fun i j a b p e f x y => by
    obtain ⟨e1, e2⟩ := kd i a e
    obtain ⟨f1, f2⟩ := kd j b f
    rw [e2] at x; rw [f2] at y
    exact h.sep i j a b p e1 f1 x y, fun i dss e => by
    obtain ⟨e1, e2⟩ := kn i dss e
    rw [e2]; exact h.nat i dss e1, fun i j dss es q e f y c => by
    obtain ⟨e1, e2⟩ := kn i dss e
    rw [e2] at c
    exact ko j es q f y (.inr ⟨i, dss, e1, c⟩), fun i j a b q e f x y => by
    obtain ⟨e1, e2⟩ := kn i a e
    obtain ⟨f1, f2⟩ := kn j b f
    rw [e2] at x; rw [f2] at y
    exact h.nsep i j a b q e1 f1 x y, fun i j kvs es q e f x y => by
    obtain ⟨e1, e2⟩ := kd i kvs e
    rw [e2] at x
    exact ko j es q f y (.inl ⟨i, kvs, e1, x⟩)⟩
theorem Dcs.no (k : ∀ (i : Nat) (kvs : DK), ρ[i]? = some (.dct kvs) → False) (kn : ∀ (i : Nat) (dss : List (List D)), ρ[i]? = some (.nst dss) → False) : Dcs K F H H0 pr σ ρ :=
  ⟨fun i kvs e => (k i kvs e).elim, fun i _ a _ _ e _ _ _ => (k i a e).elim, fun i dss e => (kn i dss e).elim, fun i _ dss _ _ e _ _ _ => (kn i dss e).elim, fun i _ dss _ _ e _ _ _ => (kn i dss e).elim, fun i _ a _ _ e _ _ _ => (k i a e).elim⟩
theorem Dcs.xown (h : Dcs K F H H0 pr σ ρ) {j : Nat} {es : List D} {q : Addr} (e : ρ[j]? = some (.own es)) (y : σ[j]? = some (some (.ref q))) (x : XC H σ ρ q) : False := by
  rcases x with ⟨i, kvs, a, b⟩ | ⟨i, dss, a, b⟩
  · exact h.down i j kvs es q a e b y
  · exact h.nown i j dss es q a e y b
theorem Dcs.set {u : Sl} {v : Option V} {i : Nat} (h : Dcs K F H H0 pr σ ρ) (hi : i < ρ.length) (hs : i < σ.length) (hu : ∀ kvs : DK, u ≠ .dct kvs) (hn : ∀ dss : List (List D), u ≠ .nst dss) (ho : ∀ (es : List D) (q : Addr), u = .own es → v = some (.ref q) → XC H σ ρ q → False) : Dcs K F H H0 pr (σ.set i v) (ρ.set i u) := by
  refine h.sub (fun j kvs e => ?_) (fun j kvs e => ?_) fun j es q e y x => ?_
  · by_cases q : i = j
    · subst q
      rw [List.getElem?_set_self hi] at e
      exact absurd (Option.some.inj e) (hu kvs)
    · rw [List.getElem?_set_ne q] at e ⊢
      exact ⟨e, rfl⟩
  · by_cases q : i = j
    · subst q
      rw [List.getElem?_set_self hi] at e
      exact absurd (Option.some.inj e) (hn kvs)
    · rw [List.getElem?_set_ne q] at e ⊢
      exact ⟨e, rfl⟩
  · by_cases z : i = j
    · subst z
      rw [List.getElem?_set_self hi] at e
      rw [List.getElem?_set_self hs] at y
      exact ho es q (Option.some.inj e) (Option.some.inj y) x
    · rw [List.getElem?_set_ne z] at e y
      exact h.xown e y x
theorem Dcs.setE {u : Sl} {i : Nat} (h : Dcs K F H H0 pr σ ρ) (hi : i < ρ.length) (hu : ∀ kvs : DK, u ≠ .dct kvs := by intro _ z; cases z) (hn : ∀ dss : List (List D), u ≠ .nst dss := by intro _ z; cases z) (ho : ∀ es : List D, u = .own es → ∃ es' : List D, ρ[i]? = some (.own es') := by intro _ z; cases z) : Dcs K F H H0 pr σ (ρ.set i u) := by
  refine h.sub (fun j kvs e => ?_) (fun j kvs e => ?_) fun j es q e y x => ?_
  · by_cases q : i = j
    · subst q
      rw [List.getElem?_set_self hi] at e
      exact absurd (Option.some.inj e) (hu kvs)
    · rw [List.getElem?_set_ne q] at e
      exact ⟨e, rfl⟩
  · by_cases q : i = j
    · subst q
      rw [List.getElem?_set_self hi] at e
      exact absurd (Option.some.inj e) (hn kvs)
    · rw [List.getElem?_set_ne q] at e
      exact ⟨e, rfl⟩
  · by_cases z : i = j
    · subst z
      rw [List.getElem?_set_self hi] at e
      obtain ⟨es', e'⟩ := ho es (Option.some.inj e)
      exact h.xown e' y x
    · rw [List.getElem?_set_ne z] at e
      exact h.xown e y x
end

/-! ### the heap grows -/
section
variable {K : PySem.W.Frag} {c : Ct} {σ : St} {H F : Hp} {ρ : En} {p : Addr} {o : HO}
theorem Ok.new (ok : Ok K c σ H F ρ) (h : H p = none) : F p = none ∧ c.H0 p = none ∧ c.pr p = none ∧ c.F0 p = none ∧ c.io ≠ some p := by
  have hF : F p = none := ok.sub.free h
  have hio : c.io ≠ some p := fun e => by
    obtain ⟨_, _, _, xs, q⟩ := ok.iod p e
    rw [h] at q; cases q
  refine ⟨hF, ?_, ?_, ok.ge.free hF, hio⟩
  · cases q : c.H0 p with
    | none => rfl
    | some u => rw [ok.keep p u q hio] at h; cases h
  · cases q : c.pr p with
    | none => rfl
    | some u => rw [(ok.prt p u q).1] at h; cases h
/-- a new object, seen by all -/
theorem Ok.alloc (ok : Ok K c σ H F ρ) (h : H p = none) : Ok K c σ (upd H p o) (upd F p o) ρ := by
  obtain ⟨hF, h0, hp, hF0, hio⟩ := ok.new h
  have s : Same F (upd F p o) := Same.updN hF
  have k : ∀ b u, H b = some u → upd H p o b = some u := Same.updN h
  refine ⟨ok.len, Same.upd2 ok.sub, ok.ge.trans s, fun b u e => ?_, fun b u e n => k _ _ (ok.keep b u e n), fun q e => ?_, fun b u e => ?_, fun i d e => ?_, fun i ds e => ?_, fun i ds e => ?_, ok.scr, ok.sep, ok.dcs.tr s fun q ws a1 a2 a3 a4 _ _ => ⟨k _ _ a1, by rw [upd_ne (ne_of_none a1 h)]; exact a2, a4⟩⟩
  · by_cases hb : b = p
    · subst hb; exact .inr h0
    · rw [upd_ne hb] at e; exact ok.fe b u e
  · obtain ⟨a1, a2, a3, xs, a4⟩ := ok.iod q e
    refine ⟨?_, a2, a3, xs, k _ _ a4⟩
    rw [upd_ne (ne_of_none a4 h)]; exact a1
  · obtain ⟨a1, a2, a3⟩ := ok.prt b u e
    refine ⟨k _ _ a1, ?_, a3⟩
    rw [upd_ne (ne_of_none a1 h)]; exact a2
  · obtain ⟨v, a1, a2⟩ := ok.val i d e
    exact ⟨v, a1, Dp.mono s a2⟩
  · obtain ⟨q, vs, a1, a2, a3, a4, a5, a6⟩ := ok.own i ds e
    refine ⟨q, vs, a1, k _ _ a2, DpAll.mono s a3, ?_, a5, a6⟩
    rw [upd_ne (ne_of_none a2 h)]; exact a4
  · obtain ⟨z, q, vs, a1, a2, a3, a4⟩ := ok.ios i ds e
    exact ⟨z, q, vs, a1, a2, k _ _ a3, DpAll.mono s a4⟩
abbrev Ct.put (c : Ct) (p : Addr) (o : HO) : Ct := { c with pr := upd c.pr p o }
/-- a new object, kept apart -/
theorem Ok.allocP (ok : Ok K c σ H F ρ) (h : H p = none) : Ok K (c.put p o) σ (upd H p o) F ρ := by
  obtain ⟨hF, h0, hp, hF0, hio⟩ := ok.new h
  have k : ∀ b u, H b = some u → upd H p o b = some u := Same.updN h
  refine ⟨ok.len, fun b u e => k _ _ (ok.sub b u e), ok.ge, ok.fe, fun b u e n => k _ _ (ok.keep b u e n), fun q e => ?_, fun b u e => ?_, ok.val, fun i ds e => ?_, fun i ds e => ?_, ok.scr, ok.sep, ok.dcs.tr (Same.refl F) fun q ws a1 a2 a3 a4 _ _ => ⟨k _ _ a1, a2, (upd_ne (ne_of_none a1 h)).trans a4⟩⟩
  · obtain ⟨a1, a2, a3, xs, a4⟩ := ok.iod q e
    refine ⟨a1, a2, ?_, xs, k _ _ a4⟩
    show upd c.pr p o q = none
    rw [upd_ne (ne_of_none a4 h)]; exact a3
  · by_cases hb : b = p
    · subst hb
      refine ⟨?_, hF, h0⟩
      rw [upd_same]; exact (upd_same (H := c.pr)).symm.trans e
    · have e' : c.pr b = some u := by rw [← e]; exact (upd_ne hb).symm
      obtain ⟨a1, a2, a3⟩ := ok.prt b u e'
      exact ⟨k _ _ a1, a2, a3⟩
  · obtain ⟨q, vs, a1, a2, a3, a4, a5, a6⟩ := ok.own i ds e
    refine ⟨q, vs, a1, k _ _ a2, a3, a4, a5, ?_⟩
    show upd c.pr p o q = none
    rw [upd_ne (ne_of_none a2 h)]; exact a6
  · obtain ⟨z, q, vs, a1, a2, a3, a4⟩ := ok.ios i ds e
    exact ⟨z, q, vs, a1, a2, k _ _ a3, a4⟩
/-- what is kept apart is changed -/
theorem Ok.putP {o' : HO} (ok : Ok K (c.put p o) σ H F ρ) : Ok K (c.put p o') σ (upd H p o') F ρ := by
  obtain ⟨hH, hF, h0⟩ := ok.prt p o upd_same
  have hio : c.io ≠ some p := fun e => by
    obtain ⟨_, a2, _⟩ := ok.iod p e
    exact a2 h0
  refine ⟨ok.len, fun b u e => ?_, ok.ge, ok.fe, fun b u e n => ?_, fun q e => ?_, fun b u e => ?_, ok.val, fun i ds e => ?_, fun i ds e => ?_, ok.scr, ok.sep, ok.dcs.tr (Same.refl F) fun q ws a1 a2 a3 a4 _ _ => by
    have ne : q ≠ p := fun z => by
      subst z
      have a4' : upd c.pr q o q = none := a4
      rw [upd_same] at a4'; cases a4'
    exact ⟨by rw [upd_ne ne]; exact a1, a2, (upd_ne ne).trans ((upd_ne ne).symm.trans a4)⟩⟩
  · rw [upd_ne (ne_of_none e hF)]; exact ok.sub b u e
  · rw [upd_ne (ne_of_none e h0)]; exact ok.keep b u e n
  · obtain ⟨a1, a2, a3, xs, a4⟩ := ok.iod q e
    have ne : q ≠ p := fun z => by subst z; exact a2 h0
    refine ⟨a1, a2, ?_, xs, by rw [upd_ne ne]; exact a4⟩
    show upd c.pr p o' q = none
    rw [upd_ne ne]; exact (upd_ne ne).symm.trans a3
  · by_cases hb : b = p
    · subst hb
      refine ⟨?_, hF, h0⟩
      rw [upd_same]; exact (upd_same (H := c.pr)).symm.trans e
    · have e' : (c.put p o).pr b = some u := (upd_ne hb).trans ((upd_ne hb).symm.trans e)
      obtain ⟨a1, a2, a3⟩ := ok.prt b u e'
      exact ⟨by rw [upd_ne hb]; exact a1, a2, a3⟩
  · obtain ⟨q, vs, a1, a2, a3, a4, a5, a6⟩ := ok.own i ds e
    have ne : q ≠ p := fun z => by
      subst z
      have a6' : upd c.pr q o q = none := a6
      rw [upd_same] at a6'; cases a6'
    refine ⟨q, vs, a1, by rw [upd_ne ne]; exact a2, a3, a4, a5, ?_⟩
    show upd c.pr p o' q = none
    rw [upd_ne ne]; exact (upd_ne ne).symm.trans a6
  · obtain ⟨z, q, vs, a1, a2, a3, a4⟩ := ok.ios i ds e
    have ne : q ≠ p := fun z => by subst z; exact hio a1
    exact ⟨z, q, vs, a1, a2, by rw [upd_ne ne]; exact a3, a4⟩
/-- what was kept apart is seen by all -/
theorem Ok.freeP (ok : Ok K (c.put p o) σ H F ρ) (hp : c.pr p = none) : Ok K c σ H (upd F p o) ρ := by
  obtain ⟨hH, hF, h0⟩ := ok.prt p o upd_same
  have s : Same F (upd F p o) := Same.updN hF
  refine ⟨ok.len, fun b u e => ?_, ok.ge.trans s, fun b u e => ?_, ok.keep, fun q e => ?_, fun b u e => ?_, fun i d e => ?_, fun i ds e => ?_, fun i ds e => ?_, ok.scr, ok.sep, ok.dcs.tr s fun q ws a1 a2 a3 a4 _ _ => by
    have ne : q ≠ p := fun z => by
      subst z
      have a4' : upd c.pr q o q = none := a4
      rw [upd_same] at a4'; cases a4'
    exact ⟨a1, by rw [upd_ne ne]; exact a2, (upd_ne ne).symm.trans a4⟩⟩
  · by_cases hb : b = p
    · subst hb; rw [upd_same] at e; cases e; exact hH
    · rw [upd_ne hb] at e; exact ok.sub b u e
  · by_cases hb : b = p
    · subst hb; exact .inr h0
    · rw [upd_ne hb] at e; exact ok.fe b u e
  · obtain ⟨a1, a2, a3, xs, a4⟩ := ok.iod q e
    have ne : q ≠ p := fun z => by subst z; exact a2 h0
    exact ⟨by rw [upd_ne ne]; exact a1, a2, (upd_ne ne).symm.trans a3, xs, a4⟩
  · have ne : b ≠ p := fun z => by subst z; rw [hp] at e; cases e
    obtain ⟨a1, a2, a3⟩ := ok.prt b u ((upd_ne ne).trans e)
    exact ⟨a1, by rw [upd_ne ne]; exact a2, a3⟩
  · obtain ⟨v, a1, a2⟩ := ok.val i d e
    exact ⟨v, a1, Dp.mono s a2⟩
  · obtain ⟨q, vs, a1, a2, a3, a4, a5, a6⟩ := ok.own i ds e
    have ne : q ≠ p := fun z => by
      subst z
      have a6' : upd c.pr q o q = none := a6
      rw [upd_same] at a6'; cases a6'
    exact ⟨q, vs, a1, a2, DpAll.mono s a3, by rw [upd_ne ne]; exact a4, a5, (upd_ne ne).symm.trans a6⟩
  · obtain ⟨z, q, vs, a1, a2, a3, a4⟩ := ok.ios i ds e
    exact ⟨z, q, vs, a1, a2, a3, DpAll.mono s a4⟩

theorem get_set {α : Type} {l : List α} {i j : Nat} {a : α} (h : i < l.length) : (l.set i a)[j]? = if i = j then some a else l[j]? := by
  by_cases e : i = j
  · subst e; simp [h]
  · rw [List.getElem?_set_ne e, if_neg e]
/-- slot i gets any value; u says what is known of it -/
theorem Ok.set {v : Option V} {u : Sl} {i : Nat} (ok : Ok K c σ H F ρ) (hi : i < ρ.length)
    (hv : ∀ d, u = .val d → ∃ w, v = some w ∧ Dp K F w d)
    (ho : ∀ ds, u = .own ds → ∃ p vs, v = some (.ref p) ∧ H p = some (.lst vs) ∧ DpAll K F vs ds ∧ F p = none ∧ c.H0 p = none ∧ c.pr p = none ∧ ∀ (j : Nat) (es : List D), ρ[j]? = some (.own es) → σ[j]? = some (some (.ref p)) → j = i)
    (hio : ∀ ds, u ≠ .io ds) (hsc : ∀ ns, u ≠ .scr ns) (hdc : ∀ kvs : DK, u ≠ .dct kvs := by intro _ z; cases z) (hns : ∀ dss : List (List D), u ≠ .nst dss := by intro _ z; cases z) (hxo : ∀ (es : List D) (q : Addr), u = .own es → v = some (.ref q) → XC H σ ρ q → False := by intro _ _ z; cases z) : Ok K c (σ.set i v) H F (ρ.set i u) := by
  have hs : i < σ.length := by rw [ok.len]; exact hi
  refine ⟨by rw [List.length_set, List.length_set]; exact ok.len, ok.sub, ok.ge, ok.fe, ok.keep, ok.iod, ok.prt, fun j d e => ?_, fun j ds e => ?_, fun j ds e => ?_, fun j ns e => ?_, fun j k ds es p a b x y => ?_, ok.dcs.set hi hs hdc hns hxo⟩
  · rw [get_set hi] at e
    rw [get_set hs]
    by_cases q : i = j
    · rw [if_pos q] at e ⊢
      obtain ⟨w, e1, e2⟩ := hv d (Option.some.inj e)
      exact ⟨w, by rw [e1], e2⟩
    · rw [if_neg q] at e ⊢
      exact ok.val j d e
  · rw [get_set hi] at e
    rw [get_set hs]
    by_cases q : i = j
    · rw [if_pos q] at e ⊢
      obtain ⟨p, vs, e1, e2, e3, e4, e5, e6, _⟩ := ho ds (Option.some.inj e)
      exact ⟨p, vs, by rw [e1], e2, e3, e4, e5, e6⟩
    · rw [if_neg q] at e ⊢
      exact ok.own j ds e
  · rw [get_set hi] at e
    rw [get_set hs]
    by_cases q : i = j
    · rw [if_pos q] at e
      exact absurd (Option.some.inj e) (hio ds)
    · rw [if_neg q] at e ⊢
      exact ok.ios j ds e
  · rw [get_set hi] at e
    rw [get_set hs]
    by_cases q : i = j
    · rw [if_pos q] at e
      exact absurd (Option.some.inj e) (hsc ns)
    · rw [if_neg q] at e ⊢
      exact ok.scr j ns e
  · rw [get_set hi] at a b
    rw [get_set hs] at x y
    by_cases q : i = j
    · rw [if_pos q] at a x
      obtain ⟨p', vs, e1, _, _, _, _, _, e7⟩ := ho ds (Option.some.inj a)
      have ep : p' = p := by
        have z := Option.some.inj x
        rw [e1] at z
        cases z; rfl
      subst ep
      by_cases q2 : i = k
      · rw [← q, q2]
      · rw [if_neg q2] at b y
        rw [e7 k es b y]; exact q.symm
    · rw [if_neg q] at a x
      by_cases q2 : i = k
      · rw [if_pos q2] at b y
        obtain ⟨p', vs, e1, _, _, _, _, _, e7⟩ := ho es (Option.some.inj b)
        have ep : p' = p := by
          have z := Option.some.inj y
          rw [e1] at z
          cases z; rfl
        subst ep
        rw [e7 j ds a x]; exact q2
      · rw [if_neg q2] at b y
        exact ok.sep j k ds es p a b x y
theorem Ok.setV {v : V} {d : D} {i : Nat} (ok : Ok K c σ H F ρ) (hi : i < ρ.length) (h : Dp K F v d) : Ok K c (σ.set i (some v)) H F (ρ.set i (.val d)) :=
  ok.set hi (fun d' e => ⟨v, rfl, by cases e; exact h⟩) (fun _ e => by cases e) (fun _ e => by cases e) (fun _ e => by cases e)
theorem Ok.setU {v : Option V} {i : Nat} (ok : Ok K c σ H F ρ) (hi : i < ρ.length) : Ok K c (σ.set i v) H F (ρ.set i .un) :=
  ok.set hi (fun d' e => by cases e) (fun _ e => by cases e) (fun _ e => by cases e) (fun _ e => by cases e)
/-- what was kept apart becomes a slot's own -/
theorem Ok.ownP {xs : List V} {ds : List D} {i : Nat} (ok : Ok K (c.put p (.lst xs)) σ H F ρ) (hp : c.pr p = none) (hd : DpAll K F xs ds) (hi : i < ρ.length) : Ok K c (σ.set i (some (.ref p))) H F (ρ.set i (.own ds)) := by
  obtain ⟨hH, hF, h0⟩ := ok.prt p _ upd_same
  have nown : ∀ {q : Addr}, (c.put p (.lst xs)).pr q = none → q ≠ p := fun {q} a z => by
    subst z
    have a' : upd c.pr q (.lst xs) q = none := a
    rw [upd_same] at a'; cases a'
  have ok' : Ok K c σ H F ρ := by
    refine ⟨ok.len, ok.sub, ok.ge, ok.fe, ok.keep, fun q e => ?_, fun b u e => ?_, ok.val, fun j es e => ?_, ok.ios, ok.scr, ok.sep, ok.dcs.tr (Same.refl F) fun q ws a1 a2 a3 a4 _ _ => ⟨a1, a2, (upd_ne (nown a4)).symm.trans a4⟩⟩
    · obtain ⟨a1, a2, a3, a4⟩ := ok.iod q e
      exact ⟨a1, a2, (upd_ne (nown a3)).symm.trans a3, a4⟩
    · have ne : b ≠ p := fun z => by subst z; rw [hp] at e; cases e
      exact ok.prt b u ((upd_ne ne).trans e)
    · obtain ⟨q, vs, a1, a2, a3, a4, a5, a6⟩ := ok.own j es e
      exact ⟨q, vs, a1, a2, a3, a4, a5, (upd_ne (nown a6)).symm.trans a6⟩
  refine ok'.set hi (fun d' e => by cases e) (fun es e => ?_) (fun _ e => by cases e) (fun _ e => by cases e) (hxo := fun _ q _ y x => by cases y; exact nown (ok.dcs.xmine x).1.2.2 rfl)
  cases e
  refine ⟨p, xs, rfl, hH, hd, hF, h0, hp, fun j es a b => ?_⟩
  obtain ⟨q, vs, a1, _, _, _, _, a6⟩ := ok.own j es a
  rw [b] at a1
  have z : p = q := by cases a1; rfl
  exact absurd z.symm (nown a6)
/-- a slot's own list is from now on seen by all -/
theorem Ok.frz {i : Nat} {ds : List D} (ok : Ok K c σ H F ρ) (e : ρ[i]? = some (.own ds)) : ∃ (F' : Hp) (p : Addr), Same F F' ∧ σ[i]? = some (some (.ref p)) ∧ Dp K F' (.ref p) (.list ds) ∧ Ok K c σ H F' (ρ.set i (.val (.list ds))) := by
  obtain ⟨p, vs, a1, a2, a3, a4, a5, a6⟩ := ok.own i ds e
  have hi : i < ρ.length := by
    rcases Nat.lt_or_ge i ρ.length with h | h
    · exact h
    · rw [List.getElem?_eq_none h] at e; cases e
  have s : Same F (upd F p (.lst vs)) := Same.updN a4
  have dp : Dp K (upd F p (.lst vs)) (.ref p) (.list ds) := .lst (.inl upd_same) (DpAll.mono s a3)
  refine ⟨upd F p (.lst vs), p, s, a1, dp, ?_⟩
  refine ⟨by rw [List.length_set]; exact ok.len, fun b u q => ?_, ok.ge.trans s, fun b u q => ?_, ok.keep, fun q z => ?_, fun b u q => ?_, fun j d q => ?_, fun j es q => ?_, fun j es q => ?_, fun j ns q => ?_, fun j k es fs q x y u w => ?_, (ok.dcs.tr s fun q ws b1 b2 b3 b4 b5 _ => ⟨b1, by
    have ne : q ≠ p := fun z => by subst z; exact b5 i ds e a1
    rw [upd_ne ne]; exact b2, b4⟩).setE hi⟩
  · by_cases hb : b = p
    · subst hb; rw [upd_same] at q; cases q; exact a2
    · rw [upd_ne hb] at q; exact ok.sub b u q
  · by_cases hb : b = p
    · subst hb; exact .inr a5
    · rw [upd_ne hb] at q; exact ok.fe b u q
  · obtain ⟨b1, b2, b3, b4⟩ := ok.iod q z
    have ne : q ≠ p := fun z => by subst z; exact b2 a5
    exact ⟨by rw [upd_ne ne]; exact b1, b2, b3, b4⟩
  · have ne : b ≠ p := fun z => by subst z; rw [a6] at q; cases q
    obtain ⟨b1, b2, b3⟩ := ok.prt b u q
    exact ⟨b1, by rw [upd_ne ne]; exact b2, b3⟩
  · rw [get_set hi] at q
    by_cases z : i = j
    · rw [if_pos z] at q
      subst z
      cases q
      exact ⟨_, a1, dp⟩
    · rw [if_neg z] at q
      obtain ⟨v, b1, b2⟩ := ok.val j d q
      exact ⟨v, b1, Dp.mono s b2⟩
  · rw [get_set hi] at q
    by_cases z : i = j
    · rw [if_pos z] at q; cases q
    · rw [if_neg z] at q
      obtain ⟨r, ws, b1, b2, b3, b4, b5, b6⟩ := ok.own j es q
      have ne : r ≠ p := fun y => by
        subst y
        exact z (ok.sep i j ds es r e q a1 b1)
      exact ⟨r, ws, b1, b2, DpAll.mono s b3, by rw [upd_ne ne]; exact b4, b5, b6⟩
  · rw [get_set hi] at q
    by_cases z : i = j
    · rw [if_pos z] at q; cases q
    · rw [if_neg z] at q
      obtain ⟨y, r, ws, b1, b2, b3, b4⟩ := ok.ios j es q
      exact ⟨y, r, ws, b1, b2, b3, DpAll.mono s b4⟩
  · rw [get_set hi] at q
    by_cases z : i = j
    · rw [if_pos z] at q; cases q
    · rw [if_neg z] at q
      exact ok.scr j ns q
  · rw [get_set hi] at x y
    by_cases z : i = j
    · rw [if_pos z] at x; cases x
    · rw [if_neg z] at x
      by_cases z2 : i = k
      · rw [if_pos z2] at y; cases y
      · rw [if_neg z2] at y
        exact ok.sep j k es fs q x y u w
/-- a slot's own list is changed -/
theorem Ok.change {i : Nat} {ds ds' : List D} {vs' : List V} (ok : Ok K c σ H F ρ) (e : ρ[i]? = some (.own ds)) (p : Addr) (hp : σ[i]? = some (some (.ref p))) (hd : DpAll K F vs' ds') : Ok K c σ (upd H p (.lst vs')) F (ρ.set i (.own ds')) := by
  obtain ⟨p', vs, a1, a2, a3, a4, a5, a6⟩ := ok.own i ds e
  have hpp : p' = p := by rw [hp] at a1; cases a1; rfl
  subst hpp
  have hi : i < ρ.length := by
    rcases Nat.lt_or_ge i ρ.length with h | h
    · exact h
    · rw [List.getElem?_eq_none h] at e; cases e
  refine ⟨by rw [List.length_set]; exact ok.len, fun b u q => ?_, ok.ge, ok.fe, fun b u q n => ?_, fun q z => ?_, fun b u q => ?_, fun j d q => ?_, fun j es q => ?_, fun j es q => ?_, fun j ns q => ?_, fun j k es fs q x y u w => ?_, (ok.dcs.tr (Same.refl F) fun q ws b1 b2 b3 b4 b5 _ => ⟨by
    have ne : q ≠ p' := fun z => by subst z; exact b5 i ds e a1
    rw [upd_ne ne]; exact b1, b2, b4⟩).setE hi (ho := fun _ _ => ⟨ds, e⟩)⟩
  · rw [upd_ne (ne_of_none q a4)]; exact ok.sub b u q
  · rw [upd_ne (ne_of_none q a5)]; exact ok.keep b u q n
  · obtain ⟨b1, b2, b3, xs, b4⟩ := ok.iod q z
    have ne : q ≠ p' := fun z => by subst z; exact b2 a5
    exact ⟨b1, b2, b3, xs, by rw [upd_ne ne]; exact b4⟩
  · have ne : b ≠ p' := fun z => by subst z; rw [a6] at q; cases q
    obtain ⟨b1, b2, b3⟩ := ok.prt b u q
    exact ⟨by rw [upd_ne ne]; exact b1, b2, b3⟩
  · rw [get_set hi] at q
    by_cases z : i = j
    · rw [if_pos z] at q; cases q
    · rw [if_neg z] at q
      exact ok.val j d q
  · rw [get_set hi] at q
    by_cases z : i = j
    · rw [if_pos z] at q
      subst z
      cases q
      exact ⟨p', vs', a1, upd_same, hd, a4, a5, a6⟩
    · rw [if_neg z] at q
      obtain ⟨r, ws, b1, b2, b3, b4, b5, b6⟩ := ok.own j es q
      have ne : r ≠ p' := fun y => by
        subst y
        exact z (ok.sep i j ds es r e q a1 b1)
      exact ⟨r, ws, b1, by rw [upd_ne ne]; exact b2, b3, b4, b5, b6⟩
  · rw [get_set hi] at q
    by_cases z : i = j
    · rw [if_pos z] at q; cases q
    · rw [if_neg z] at q
      obtain ⟨y, r, ws, b1, b2, b3, b4⟩ := ok.ios j es q
      have ne : r ≠ p' := fun y => by
        subst y
        obtain ⟨_, c2, _⟩ := ok.iod r b1
        exact c2 a5
      exact ⟨y, r, ws, b1, b2, by rw [upd_ne ne]; exact b3, b4⟩
  · rw [get_set hi] at q
    by_cases z : i = j
    · rw [if_pos z] at q; cases q
    · rw [if_neg z] at q
      exact ok.scr j ns q
  · rw [get_set hi] at x y
    by_cases z : i = j
    · subst z
      by_cases z2 : i = k
      · exact z2
      · rw [if_neg z2] at y
        exact ok.sep i k ds fs q e y u w
    · rw [if_neg z] at x
      by_cases z2 : i = k
      · subst z2
        exact ok.sep j i es ds q x e u w
      · rw [if_neg z2] at y
        exact ok.sep j k es fs q x y u w
/-- the caller's list is changed -/
theorem Ok.changeI {i : Nat} {ds ds' : List D} {vs' : List V} (ok : Ok K c σ H F ρ) (e : ρ[i]? = some (.io ds)) (p : Addr) (hp : σ[i]? = some (some (.ref p))) (hd : DpAll K F vs' ds') : Ok K c σ (upd H p (.lst vs')) F (ρ.set i (.io ds')) := by
  obtain ⟨i0, p', vs, a1, a2, a3, a4⟩ := ok.ios i ds e
  have hpp : p' = p := by rw [hp] at a2; cases a2; rfl
  subst hpp
  obtain ⟨b1, b2, b3, xs, b4⟩ := ok.iod p' a1
  have hi : i < ρ.length := by
    rcases Nat.lt_or_ge i ρ.length with h | h
    · exact h
    · rw [List.getElem?_eq_none h] at e; cases e
  have noi : ∀ {q : Addr}, c.io = some q → q = p' := fun {q} z => by rw [a1] at z; cases z; rfl
  refine ⟨by rw [List.length_set]; exact ok.len, fun b u q => ?_, ok.ge, ok.fe, fun b u q n => ?_, fun q z => ?_, fun b u q => ?_, fun j d q => ?_, fun j es q => ?_, fun j es q => ?_, fun j ns q => ?_, fun j k es fs q x y u w => ?_, (ok.dcs.tr (Same.refl F) fun q ws e1 e2 e3 e4 _ _ => ⟨by
    have ne : q ≠ p' := fun z => by subst z; exact b2 e3
    rw [upd_ne ne]; exact e1, e2, e4⟩).setE hi⟩
  · rw [upd_ne (ne_of_none q b1)]; exact ok.sub b u q
  · have ne : b ≠ p' := fun z => by subst z; exact n a1
    rw [upd_ne ne]; exact ok.keep b u q n
  · have := noi z
    subst this
    exact ⟨b1, b2, b3, vs', upd_same⟩
  · have ne : b ≠ p' := fun z => by subst z; rw [b3] at q; cases q
    obtain ⟨c1, c2, c3⟩ := ok.prt b u q
    exact ⟨by rw [upd_ne ne]; exact c1, c2, c3⟩
  · rw [get_set hi] at q
    by_cases z : i = j
    · rw [if_pos z] at q; cases q
    · rw [if_neg z] at q
      exact ok.val j d q
  · rw [get_set hi] at q
    by_cases z : i = j
    · rw [if_pos z] at q; cases q
    · rw [if_neg z] at q
      obtain ⟨r, ws, c1, c2, c3, c4, c5, c6⟩ := ok.own j es q
      have ne : r ≠ p' := fun y => by
        subst y
        exact b2 c5
      exact ⟨r, ws, c1, by rw [upd_ne ne]; exact c2, c3, c4, c5, c6⟩
  · rw [get_set hi] at q
    by_cases z : i = j
    · rw [if_pos z] at q
      subst z
      cases q
      exact ⟨i0, p', vs', a1, a2, upd_same, hd⟩
    · rw [if_neg z] at q
      obtain ⟨y, _⟩ := ok.ios j es q
      exact absurd (i0.trans y.symm) z
  · rw [get_set hi] at q
    by_cases z : i = j
    · rw [if_pos z] at q; cases q
    · rw [if_neg z] at q
      exact ok.scr j ns q
  · rw [get_set hi] at x y
    by_cases z : i = j
    · rw [if_pos z] at x; cases x
    · rw [if_neg z] at x
      by_cases z2 : i = k
      · rw [if_pos z2] at y; cases y
      · rw [if_neg z2] at y
        exact ok.sep j k es fs q x y u w
end
end Dd

namespace Dd
open PySem PySem.Spec L2
/-- an error: its class, its fields -/
structure Ex where
  C : Str
  fs : List (Str × D)
inductive R (α : Type) where
  | ok (a : α) (ρ : En)
  | ex (e : Ex) (ρ : En)
abbrev M (α : Type) := En → Option (R α)
def mPure {α : Type} (a : α) : M α := fun ρ => some (.ok a ρ)
def mBind {α β : Type} (m : M α) (f : α → M β) : M β := fun ρ => match m ρ with
  | none => none
  | some (.ok a ρ') => f a ρ'
  | some (.ex e ρ') => some (.ex e ρ')
def mLift {α : Type} (o : Option α) : M α := fun ρ => match o with
  | none => none
  | some a => some (.ok a ρ)
def mStuck {α : Type} : M α := fun _ => none

def ExR (K : PySem.W.Frag) (e : Ex) (cls : Value) (x : Option Addr) (F' H' : Hp) : Prop :=
  ∃ Ca : Addr, PySem.W.nsIn K mainGlobals e.C = some (some (.ref Ca)) ∧ cls = .ref Ca ∧ ∃ (dd : Addr) (vs : List (Str × V)), x = some dd ∧ F' dd = some (.xd vs) ∧ vs.map (·.1) = e.fs.map (·.1) ∧ DpAll K F' (vs.map (·.2)) (e.fs.map (·.2))

def post {α : Type} (K : PySem.W.Frag) (W : WX) (c : Ct) (σ : St) (F : Hp) (G : α → Hp → Hp → Prop) : Option (R α) → Prop
  | none => False
  | some (.ok a ρ') => ∀ H' F', Ok K c σ H' F' ρ' → Same F F' → G a H' F'
  | some (.ex e ρ') => ∀ cls x H' F', Ok K c σ H' F' ρ' → Same F F' → ExR K e cls x F' H' → W cls x σ H'
section
variable {α β : Type} {K : PySem.W.Frag} {W : WX} {c : Ct} {σ : St} {F H : Hp} {ρ : En}
theorem post_weak {G : α → Hp → Hp → Prop} {F1 : Hp} (s : Same F F1) : ∀ {r : Option (R α)}, post K W c σ F G r → post K W c σ F1 G r
  | some (.ok a ρ'), h => fun H' F' ok s' => h H' F' ok (s.trans s')
  | some (.ex e ρ'), h => fun cls x H' F' ok s' => h cls x H' F' ok (s.trans s')
theorem post_mono {G G' : α → Hp → Hp → Prop} (k : ∀ a H' F', Same F F' → G a H' F' → G' a H' F') : ∀ {r : Option (R α)}, post K W c σ F G r → post K W c σ F G' r
  | some (.ok a ρ'), h => fun H' F' ok s => k a H' F' s (h H' F' ok s)
  | some (.ex e ρ'), h => h
theorem post_bind {G : β → Hp → Hp → Prop} {m : M α} {f : α → M β} (h : post K W c σ F G (mBind m f ρ)) :
    post K W c σ F (fun a H1 F1 => ∃ ρ1, Ok K c σ H1 F1 ρ1 ∧ Same F F1 ∧ post K W c σ F1 G (f a ρ1)) (m ρ) := by
  unfold mBind at h
  cases e : m ρ with
  | none => rw [e] at h; exact h
  | some r =>
    rw [e] at h
    cases r with
    | ok a ρ' => exact fun H' F' ok s => ⟨ρ', ok, s, post_weak s h⟩
    | ex x ρ' => exact h
theorem post_ok {G : α → Hp → Hp → Prop} {a : α} (h : post K W c σ F G (some (.ok a ρ))) (ok : Ok K c σ H F ρ) : G a H F := h H F ok (Same.refl F)
theorem post_lift {G : α → Hp → Hp → Prop} {o : Option α} (h : post K W c σ F G (mLift o ρ)) : ∃ a, o = some a ∧ post K W c σ F G (some (.ok a ρ)) := by
  unfold mLift at h
  cases o with
  | none => exact h.elim
  | some a => exact ⟨a, rfl, h⟩
end
/-! ### the judgements -/
abbrev qE (K : PySem.W.Frag) (Q : VK) : D → Hp → Hp → Prop := fun d H' F' => ∀ v, Dp K F' v d → Q v H'
abbrev qT (Q : Bool → Hp → Prop) : Bool → Hp → Hp → Prop := fun b H' _ => Q b H'
abbrev qA (K : PySem.W.Frag) (Q : List V → Hp → Prop) : List D → Hp → Hp → Prop := fun ds H' F' => ∀ vs, DpAll K F' vs ds → Q vs H'
def Pk (K : PySem.W.Frag) (H F : Hp) (x : V) (a : D) : Prop := Dp K F x a ∨ ∃ (p : Addr) (vs : List V) (ds : List D), x = .ref p ∧ a = .list ds ∧ H p = some (.lst vs) ∧ DpAll K F vs ds
abbrev qP (K : PySem.W.Frag) (Q : VK) : D → Hp → Hp → Prop := fun d H' F' => ∀ v, Pk K H' F' v d → Q v H'
def tE (K : PySem.W.Frag) (W : WX) (m : M D) : TE := fun σ H Q => ∃ c F ρ, Ok K c σ H F ρ ∧ post K W c σ F (qE K Q) (m ρ)
/-- a value that may be a slot's own list: looked at, then gone -/
def tP (K : PySem.W.Frag) (W : WX) (m : M D) : TE := fun σ H Q => ∃ c F ρ, Ok K c σ H F ρ ∧ post K W c σ F (qP K Q) (m ρ)
def tT (K : PySem.W.Frag) (W : WX) (m : M Bool) : TT := fun σ H Q => ∃ c F ρ, Ok K c σ H F ρ ∧ post K W c σ F (qT Q) (m ρ)
def tA (K : PySem.W.Frag) (W : WX) (m : M (List D)) : TA := fun σ H Q => ∃ c F ρ, Ok K c σ H F ρ ∧ post K W c σ F (qA K Q) (m ρ)
inductive Fl where
  | nx | bk | ct
  | rt (d : D)
  | rf (ds : List D)
def postS (K : PySem.W.Frag) (W : WX) (c : Ct) (F : Hp) (Dn : Ends) : Option (R Fl) → Prop
  | none => False
  | some (.ok .nx ρ') => ∀ σ' H' F', Ok K c σ' H' F' ρ' → Same F F' → Dn.nx σ' H'
  | some (.ok .bk ρ') => ∀ σ' H' F', Ok K c σ' H' F' ρ' → Same F F' → Dn.bk σ' H'
  | some (.ok .ct ρ') => ∀ σ' H' F', Ok K c σ' H' F' ρ' → Same F F' → Dn.ct σ' H'
  | some (.ok (.rt d) ρ') => ∀ σ' v H' F', Ok K c σ' H' F' ρ' → Same F F' → Dp K F' v d → Dn.rt v H'
  | some (.ok (.rf ds) ρ') => ∀ σ' p vs H' F', Ok K c σ' H' F' ρ' → Same F F' → H' p = some (.lst vs) → DpAll K F' vs ds → F' p = none → c.H0 p = none → Dn.rt (.ref p) H'
  | some (.ex e ρ') => ∀ σ' cls x H' F', Ok K c σ' H' F' ρ' → Same F F' → ExR K e cls x F' H' → W cls x σ' H'
def tS (K : PySem.W.Frag) (W : WX) (m : M Fl) : TS := fun Dn σ H => ∃ c F ρ, Ok K c σ H F ρ ∧ postS K W c F Dn (m ρ)
/-- a store: of a value, by a target -/
def postG (K : PySem.W.Frag) (W : WX) (c : Ct) (F : Hp) (Q : St → Hp → Prop) : Option (R Unit) → Prop
  | none => False
  | some (.ok _ ρ') => ∀ σ' H' F', Ok K c σ' H' F' ρ' → Same F F' → Q σ' H'
  | some (.ex e ρ') => ∀ σ' cls x H' F', Ok K c σ' H' F' ρ' → Same F F' → ExR K e cls x F' H' → W cls x σ' H'
def tG (K : PySem.W.Frag) (W : WX) (g : D → M Unit) : TG := fun v σ H Q => ∃ c F ρ d, Ok K c σ H F ρ ∧ Dp K F v d ∧ postG K W c F Q (g d ρ)
def tGs (K : PySem.W.Frag) (W : WX) (g : List D → M Unit) : TGs := fun vs σ H Q => ∃ c F ρ ds, Ok K c σ H F ρ ∧ DpAll K F vs ds ∧ postG K W c F Q (g ds ρ)
section
variable {X : Cx} {e : Expr} {es : List Expr} {st : Stmt} {sts : List Stmt}
theorem PE.imp {t t' : TE} (h : PE X e t) (k : ∀ σ H Q, t' σ H Q → t σ H Q) : PE X e t' := ⟨fun pins s σ H Q I q => h.run pins s σ H Q I (k σ H Q q)⟩
theorem PT.imp {t t' : TT} (h : PT X e t) (k : ∀ σ H Q, t' σ H Q → t σ H Q) : PT X e t' := ⟨fun pins s σ H Q I q => h.run pins s σ H Q I (k σ H Q q)⟩
theorem PA.imp {t t' : TA} (h : PA X es t) (k : ∀ σ H Q, t' σ H Q → t σ H Q) : PA X es t' := ⟨fun pos pins s σ H Q I q => h.run pos pins s σ H Q I (k σ H Q q)⟩
theorem PS.imp {t t' : TS} (h : PS X st t) (k : ∀ Dn σ H, t' Dn σ H → t Dn σ H) : PS X st t' := ⟨fun pins s σ H Dn I q => h.run pins s σ H Dn I (k Dn σ H q)⟩
theorem PSs.imp {t t' : TS} (h : PSs X sts t) (k : ∀ Dn σ H, t' Dn σ H → t Dn σ H) : PSs X sts t' := ⟨fun pins s σ H Dn I q => h.run pins s σ H Dn I (k Dn σ H q)⟩
theorem PG.imp {t t' : TG} (h : PG X e t) (k : ∀ v σ H Q, t' v σ H Q → t v σ H Q) : PG X e t' := ⟨fun pins s σ H v u Q I r q => h.run pins s σ H v u Q I r (k v σ H Q q)⟩
theorem PGs.imp {t t' : TGs} (h : PGs X es t) (k : ∀ v σ H Q, t' v σ H Q → t v σ H Q) : PGs X es t' := ⟨fun pins s σ H v u Q I r q => h.run pins s σ H v u Q I r (k v σ H Q q)⟩
theorem PI.imp {tg : Expr} {t t' : TI} (h : PI X tg e t) (k : ∀ σ H Q, t' σ H Q → t σ H Q) : PI X tg e t' := ⟨fun pins s σ H Q I q => h.run pins s σ H Q I (k σ H Q q)⟩
end
section
variable {K : PySem.W.Frag} {W : WX} {c : Ct} {σ : St} {F H : Hp} {ρ : En}
theorem postS_weak {Dn : Ends} {F1 : Hp} (s : Same F F1) : ∀ {r : Option (R Fl)}, postS K W c F Dn r → postS K W c F1 Dn r
  | some (.ok .nx ρ'), h => fun σ' H' F' ok s' => h σ' H' F' ok (s.trans s')
  | some (.ok .bk ρ'), h => fun σ' H' F' ok s' => h σ' H' F' ok (s.trans s')
  | some (.ok .ct ρ'), h => fun σ' H' F' ok s' => h σ' H' F' ok (s.trans s')
  | some (.ok (.rt d) ρ'), h => fun σ' v H' F' ok s' => h σ' v H' F' ok (s.trans s')
  | some (.ok (.rf d) ρ'), h => fun σ' p v H' F' ok s' => h σ' p v H' F' ok (s.trans s')
  | some (.ex e ρ'), h => fun σ' cls x H' F' ok s' => h σ' cls x H' F' ok (s.trans s')
theorem postG_weak {Q : St → Hp → Prop} {F1 : Hp} (s : Same F F1) : ∀ {r : Option (R Unit)}, postG K W c F Q r → postG K W c F1 Q r
  | some (.ok _ ρ'), h => fun σ' H' F' ok s' => h σ' H' F' ok (s.trans s')
  | some (.ex e ρ'), h => fun σ' cls x H' F' ok s' => h σ' cls x H' F' ok (s.trans s')
/-- an expression ahead of what is stated of a statement -/
theorem postS_bind {α : Type} {Dn : Ends} {m : M α} {f : α → M Fl} (h : postS K W c F Dn (mBind m f ρ)) :
    post K W c σ F (fun a H1 F1 => ∃ ρ1, Ok K c σ H1 F1 ρ1 ∧ Same F F1 ∧ postS K W c F1 Dn (f a ρ1)) (m ρ) := by
  unfold mBind at h
  cases e : m ρ with
  | none => rw [e] at h; exact h.elim
  | some r =>
    rw [e] at h
    cases r with
    | ok a ρ' => exact fun H' F' ok s => ⟨ρ', ok, s, postS_weak s h⟩
    | ex x ρ' => exact fun cls y H' F' ok s q => h σ cls y H' F' ok s q
theorem postG_bind {α : Type} {Q : St → Hp → Prop} {m : M α} {f : α → M Unit} (h : postG K W c F Q (mBind m f ρ)) :
    post K W c σ F (fun a H1 F1 => ∃ ρ1, Ok K c σ H1 F1 ρ1 ∧ Same F F1 ∧ postG K W c F1 Q (f a ρ1)) (m ρ) := by
  unfold mBind at h
  cases e : m ρ with
  | none => rw [e] at h; exact h.elim
  | some r =>
    rw [e] at h
    cases r with
    | ok a ρ' => exact fun H' F' ok s => ⟨ρ', ok, s, postG_weak s h⟩
    | ex x ρ' => exact fun cls y H' F' ok s q => h σ cls y H' F' ok s q
/-- a store ahead of what is stated of a statement, of a store -/
theorem postG_mono {Q Q' : St → Hp → Prop} (k : ∀ σ' H', Q σ' H' → Q' σ' H') : ∀ {r : Option (R Unit)}, postG K W c F Q r → postG K W c F Q' r
  | some (.ok _ ρ'), h => fun σ' H' F' ok s' => k _ _ (h σ' H' F' ok s')
  | some (.ex e ρ'), h => h
theorem postS_bindG {Dn : Ends} {m : M Unit} {f : Unit → M Fl} (h : postS K W c F Dn (mBind m f ρ)) :
    postG K W c F (fun σ1 H1 => ∃ F1 ρ1, Ok K c σ1 H1 F1 ρ1 ∧ Same F F1 ∧ postS K W c F1 Dn (f () ρ1)) (m ρ) := by
  unfold mBind at h
  cases e : m ρ with
  | none => rw [e] at h; exact h.elim
  | some r =>
    rw [e] at h
    cases r with
    | ok a ρ' => exact fun σ' H' F' ok s => ⟨F', ρ', ok, s, postS_weak s h⟩
    | ex x ρ' => exact h
theorem postG_bindG {Q : St → Hp → Prop} {m : M Unit} {f : Unit → M Unit} (h : postG K W c F Q (mBind m f ρ)) :
    postG K W c F (fun σ1 H1 => ∃ F1 ρ1, Ok K c σ1 H1 F1 ρ1 ∧ Same F F1 ∧ postG K W c F1 Q (f () ρ1)) (m ρ) := by
  unfold mBind at h
  cases e : m ρ with
  | none => rw [e] at h; exact h.elim
  | some r =>
    rw [e] at h
    cases r with
    | ok a ρ' => exact fun σ' H' F' ok s => ⟨F', ρ', ok, s, postG_weak s h⟩
    | ex x ρ' => exact h
end

/-! ### what a looked-at value is -/
section
variable {K : PySem.W.Frag} {c : Ct} {σ : St} {F H : Hp} {ρ : En} {x : V}
theorem Pk.of {a : D} (h : Dp K F x a) : Pk K H F x a := .inl h
theorem Pk.dp {a : D} (s : Same F H) (h : Pk K H F x a) (hd : a.hasDict = false) : L2.Dp K H x a := by
  rcases h with h | ⟨p, vs, ds, rfl, rfl, h, r⟩
  · exact Dp.l2 (Dp.mono s h) hd
  · exact .lst (SqL.of h) (DpAll.l2 (DpAll.mono s r) hd)
theorem Pk.rd {ds : List D} (s : Same F H) (h : Pk K H F x (.list ds)) : ∃ p vs, x = .ref p ∧ Rd H p (.lst vs) ∧ DpAll K F vs ds := by
  rcases h with h | ⟨p, vs, es, rfl, e, h, r⟩
  · cases h with
    | lst h r => exact ⟨_, _, rfl, Rd.mono s h, r⟩
  · cases e
    exact ⟨p, vs, rfl, .inl h, r⟩
theorem Pk.lst {ds : List D} (s : Same F H) (h : Pk K H F x (.list ds)) : ∃ p vs, x = .ref p ∧ SqL K H p vs ∧ DpAll K F vs ds := by
  rcases h with h | ⟨p, vs, es, rfl, e, h, r⟩
  · cases h with
    | lst h r => exact ⟨_, _, rfl, .inl (Rd.mono s h), r⟩
  · cases e
    exact ⟨p, vs, rfl, SqL.of h, r⟩
theorem Pk.tup {ds : List D} (s : Same F H) (h : Pk K H F x (.tuple ds)) : ∃ p vs, x = .ref p ∧ SqT K H p vs ∧ DpAll K F vs ds := by
  rcases h with h | ⟨p, vs, es, rfl, e, h, r⟩
  · cases h with
    | tup h r => exact ⟨_, _, rfl, SqT.mono s h, r⟩
  · cases e
theorem Pk.int {i : Int} (h : Pk K H F x (.int i)) : x = .int i := by
  rcases h with h | ⟨p, vs, es, rfl, e, h, r⟩
  · cases h; rfl
  · cases e
theorem Pk.bool {i : Bool} (h : Pk K H F x (.bool i)) : x = .bl i := by
  rcases h with h | ⟨p, vs, es, rfl, e, h, r⟩
  · cases h; rfl
  · cases e
theorem Pk.str {i : Str} (h : Pk K H F x (.str i)) : x = .str i := by
  rcases h with h | ⟨p, vs, es, rfl, e, h, r⟩
  · cases h; rfl
  · cases e
theorem Pk.none (h : Pk K H F x .none) : x = .non := by
  rcases h with h | ⟨p, vs, es, rfl, e, h, r⟩
  · cases h; rfl
  · cases e
end

/-! ### names -/
def mVar (i : Nat) : M D := fun ρ => match ρ[i]? with
  | some (.val d) => some (.ok d ρ)
  | some (.own ds) => some (.ok (.list ds) (ρ.set i (.val (.list ds))))
  | _ => none
def mPeek (i : Nat) : M D := fun ρ => match ρ[i]? with
  | some (.val d) => some (.ok d ρ)
  | some (.own ds) => some (.ok (.list ds) ρ)
  | some (.io ds) => some (.ok (.list ds) ρ)
  | _ => none
section
variable {X : Cx} {K : PySem.W.Frag} {W : WX} {c : Ct} {σ : St} {F H : Hp} {ρ : En}
theorem peek_at {i : Nat} {Q : VK} (ok : Ok K c σ H F ρ) (h : post K W c σ F (qP K Q) (mPeek i ρ)) : ∃ v d, σ[i]? = some (some v) ∧ Pk K H F v d ∧ mPeek i ρ = some (.ok d ρ) ∧ Q v H := by
  unfold mPeek at h ⊢
  split at h
  · rename_i d e
    obtain ⟨v, a1, a2⟩ := ok.val i d e
    exact ⟨v, d, a1, .inl a2, rfl, h H F ok (Same.refl F) v (.inl a2)⟩
  · rename_i ds e
    obtain ⟨p, vs, a1, a2, a3, _⟩ := ok.own i ds e
    have q : Pk K H F (.ref p) (.list ds) := .inr ⟨p, vs, ds, rfl, rfl, a2, a3⟩
    exact ⟨.ref p, _, a1, q, rfl, h H F ok (Same.refl F) _ q⟩
  · rename_i ds e
    obtain ⟨_, p, vs, _, a1, a2, a3⟩ := ok.ios i ds e
    have q : Pk K H F (.ref p) (.list ds) := .inr ⟨p, vs, ds, rfl, rfl, a2, a3⟩
    exact ⟨.ref p, _, a1, q, rfl, h H F ok (Same.refl F) _ q⟩
  · exact h.elim
theorem tVar_of {i : Nat} {Q : VK} (h : tE K W (mVar i) σ H Q) : tVar i σ H Q := by
  obtain ⟨c, F, ρ, ok, h⟩ := h
  unfold mVar at h
  split at h
  · rename_i d e
    obtain ⟨v, a1, a2⟩ := ok.val i d e
    exact ⟨v, a1, h H F ok (Same.refl F) v a2⟩
  · rename_i ds e
    obtain ⟨F', p, s, a1, a2, ok'⟩ := ok.frz e
    exact ⟨.ref p, a1, h H F' ok' s _ a2⟩
  · exact h.elim
theorem tVar_ofP {i : Nat} {Q : VK} (h : tP K W (mPeek i) σ H Q) : tVar i σ H Q := by
  obtain ⟨c, F, ρ, ok, h⟩ := h
  obtain ⟨v, d, a1, _, _, q⟩ := peek_at ok h
  exact ⟨v, a1, q⟩
theorem tP_of {m : M D} {Q : VK} (h : tP K W m σ H Q) : tE K W m σ H Q := by
  obtain ⟨c, F, ρ, ok, h⟩ := h
  exact ⟨c, F, ρ, ok, post_mono (fun a H' F' _ q v r => q v (.inl r)) h⟩
theorem dv (i : Nat) {x : Str} {pos : Pos} (hN : X.N[i]? = some x := by rfl) (hv : Vis X.env.scope x := by first | exact Or.inl rfl | exact Or.inr (Or.inl rfl) | exact Or.inr (Or.inr rfl)) (hd : (x == ("__debug__" : Str)) = false := by decide)
    (hcd : (x == ("__classdict__" : Str)) = false := by decide) : PE X (.Name x pos) (tE K W (mVar i)) := PE.imp (pe_var hN hv hd hcd) fun _ _ _ => tVar_of
theorem dpk (i : Nat) {x : Str} {pos : Pos} (hN : X.N[i]? = some x := by rfl) (hv : Vis X.env.scope x := by first | exact Or.inl rfl | exact Or.inr (Or.inl rfl) | exact Or.inr (Or.inr rfl)) (hd : (x == ("__debug__" : Str)) = false := by decide)
    (hcd : (x == ("__classdict__" : Str)) = false := by decide) : PE X (.Name x pos) (tP K W (mPeek i)) := PE.imp (pe_var hN hv hd hcd) fun _ _ _ => tVar_ofP
/-- any value may be looked at -/
theorem dP {e : Expr} {m : M D} (h : PE X e (tE K W m)) : PE X e (tP K W m) := PE.imp h fun _ _ _ => tP_of
/-! constants -/
theorem tC_of {v : V} {d : D} {Q : VK} (r : ∀ F, Dp K F v d) (h : tE K W (mPure d) σ H Q) : tC v σ H Q := by
  obtain ⟨c, F, ρ, ok, h⟩ := h
  exact h H F ok (Same.refl F) v (r F)
theorem dInt {i : Int} {j pos} : PE X (.Constant (.int i) j pos) (tE K W (mPure (.int i))) := PE.imp pe_int fun _ _ _ => tC_of fun _ => .int i
theorem dBl {b : Bool} {j pos} : PE X (.Constant (.bool b) j pos) (tE K W (mPure (.bool b))) := PE.imp pe_bl fun _ _ _ => tC_of fun _ => .bl b
theorem dNon {j pos} : PE X (.Constant .none j pos) (tE K W (mPure .none)) := PE.imp pe_non fun _ _ _ => tC_of fun _ => .non
theorem dStr {x : Str} {j pos} : PE X (.Constant (.str x) j pos) (tE K W (mPure (.str x))) := PE.imp pe_str fun _ _ _ => tC_of fun _ => .str x
/-! ### two values, and what comes of them -/
/-- a rule of the layer serves g -/
def OpD (K : PySem.W.Frag) (r : R2) (g : D → D → Option D) : Prop :=
  ∀ {W : WX} {c : Ct} {σ : St} {H F : Hp} {ρ : En} {x y : V} {a b d : D} {Q : VK}, Ok K c σ H F ρ → Pk K H F x a → Pk K H F y b → g a b = some d → post K W c σ F (qE K Q) (some (.ok d ρ)) → r x y H Q
def mBin (g : D → D → Option D) (ma mb : M D) : M D := mBind ma fun a => mBind mb fun b => mLift (g a b)
theorem post_peek {α : Type} {i : Nat} {G : α → Hp → Hp → Prop} {f : D → M α} (ok : Ok K c σ H F ρ) (h : post K W c σ F G (mBind (mPeek i) f ρ)) : ∃ v d, σ[i]? = some (some v) ∧ Pk K H F v d ∧ post K W c σ F G (f d ρ) := by
  unfold mBind mPeek at h
  cases e : ρ[i]? with
  | none => rw [e] at h; exact h.elim
  | some u =>
    rw [e] at h
    cases u with
    | un => exact h.elim
    | val d =>
      obtain ⟨v, a1, a2⟩ := ok.val i d e
      exact ⟨v, d, a1, .inl a2, h⟩
    | own ds =>
      obtain ⟨p, vs, a1, a2, a3, _⟩ := ok.own i ds e
      exact ⟨.ref p, _, a1, .inr ⟨p, vs, ds, rfl, rfl, a2, a3⟩, h⟩
    | io ds =>
      obtain ⟨_, p, vs, _, a1, a2, a3⟩ := ok.ios i ds e
      exact ⟨.ref p, _, a1, .inr ⟨p, vs, ds, rfl, rfl, a2, a3⟩, h⟩
    | scr ns => exact h.elim
    | dct _ => exact h.elim
    | nst _ => exact h.elim
/-- the left one is a slot, read behind the right one -/
def mBinL (g : D → D → Option D) (i : Nat) (mb : M D) : M D := mBind (mPeek i) fun _ => mBind mb fun b => mBind (mPeek i) fun a => mLift (g a b)
theorem tOp_of {r : R2} {g : D → D → Option D} (ho : OpD K r g) {ma mb : M D} {Q : VK} (h : tE K W (mBin g ma mb) σ H Q) : tOp r (tE K W ma) (tP K W mb) σ H Q := by
  obtain ⟨c, F, ρ, ok, h⟩ := h
  refine ⟨c, F, ρ, ok, post_mono ?_ (post_bind h)⟩
  rintro a H1 F1 _ ⟨ρ1, ok1, s1, h1⟩ x rx
  refine ⟨c, F1, ρ1, ok1, post_mono ?_ (post_bind h1)⟩
  rintro b H2 F2 s2' ⟨ρ2, ok2, s2, h2⟩ y ry
  obtain ⟨d, e, h3⟩ := post_lift h2
  exact ho ok2 (.inl (Dp.mono s2 rx)) ry e h3
theorem tOp_ofL {r : R2} {g : D → D → Option D} (ho : OpD K r g) {i : Nat} {mb : M D} {Q : VK} (h : tE K W (mBinL g i mb) σ H Q) : tOp r (tVar i) (tP K W mb) σ H Q := by
  obtain ⟨c, F, ρ, ok, h⟩ := h
  obtain ⟨v, _, ev, _, h⟩ := post_peek ok h
  refine ⟨v, ev, c, F, ρ, ok, post_mono ?_ (post_bind h)⟩
  rintro b H2 F2 _ ⟨ρ2, ok2, s2, h2⟩ y ry
  obtain ⟨v', a, ev', pk, h3⟩ := post_peek ok2 h2
  obtain ⟨d, e, h4⟩ := post_lift h3
  have ee : v' = v := by rw [ev] at ev'; cases ev'; rfl
  subst ee
  exact ho ok2 pk ry e h4
end
end Dd

namespace Dd
open PySem PySem.Spec L2
section
variable {K : PySem.W.Frag}
/-! ### operators -/
def fit (n : Nat) : Bool := decide (n ≤ 16000000)
theorem fit_le {n : Nat} (h : fit n = true) : n ≤ sizeLine := by
  have := of_decide_eq_true h
  rw [sizeLine_eq]; omega
theorem fit_lt {n : Nat} (h : fit n = true) : n < sizeLine := by
  have := of_decide_eq_true h
  rw [sizeLine_eq]; omega
/-- ints -/
def iI (f : Int → Int → D) : D → D → Option D
  | .int i, .int j => some (f i j)
  | _, _ => none
def iIc (C : Int → Int → Bool) (f : Int → Int → D) : D → D → Option D
  | .int i, .int j => if C i j = true then some (f i j) else none
  | _, _ => none
theorem opD_I {g : Int → Int → V} {f : Int → Int → D} (h : ∀ F i j, Dp K F (g i j) (f i j)) : OpD K (rI0 g) (iI f) := by
  intro W c σ H F ρ x y a b d Q ok rx ry e q
  unfold iI at e
  split at e
  · rename_i i j
    cases e
    exact ⟨i, j, rx.int, ry.int, post_ok q ok _ (h F i j)⟩
  · cases e
theorem opD_Ic {Cp : Int → Int → Prop} {C : Int → Int → Bool} {g : Int → Int → V} {f : Int → Int → D} (hC : ∀ i j, C i j = true → Cp i j) (h : ∀ F i j, Dp K F (g i j) (f i j)) : OpD K (rI Cp g) (iIc C f) := by
  intro W c σ H F ρ x y a b d Q ok rx ry e q
  unfold iIc at e
  split at e
  · rename_i i j
    split at e
    · rename_i hc
      cases e
      exact ⟨i, j, rx.int, ry.int, hC i j hc, post_ok q ok _ (h F i j)⟩
    · cases e
  · cases e
/-- one rule or another -/
def oOr (g g' : D → D → Option D) : D → D → Option D := fun a b => match g a b with
  | some d => some d
  | none => g' a b
theorem opD_or {r r' : R2} {g g' : D → D → Option D} (h : OpD K r g) (h' : OpD K r' g') : OpD K (fun x y H Q => r x y H Q ∨ r' x y H Q) (oOr g g') := by
  intro W c σ H F ρ x y a b d Q ok rx ry e q
  unfold oOr at e
  split at e
  · rename_i d' e'
    cases e
    exact .inl (h ok rx ry e' q)
  · exact .inr (h' ok rx ry e q)
/-- a new list, a new tuple -/
theorem new_lst {W : WX} {c : Ct} {σ : St} {H F : Hp} {ρ : En} {Q : VK} {vs : List V} {ds : List D} (ok : Ok K c σ H F ρ) (hd : DpAll K F vs ds) (q : post K W c σ F (qE K Q) (some (.ok (.list ds) ρ))) (p : Addr) (hp : H p = none) :
    Q (.ref p) (upd H p (.lst vs)) :=
  q _ _ (ok.alloc hp) (Same.updN (ok.new hp).1) _ (.lst (.inl upd_same) (DpAll.mono (Same.updN (ok.new hp).1) hd))
theorem new_tup {W : WX} {c : Ct} {σ : St} {H F : Hp} {ρ : En} {Q : VK} {vs : List V} {ds : List D} (ok : Ok K c σ H F ρ) (hd : DpAll K F vs ds) (q : post K W c σ F (qE K Q) (some (.ok (.tuple ds) ρ))) (p : Addr) (hp : H p = none) :
    Q (.ref p) (upd H p (.tup vs)) :=
  q _ _ (ok.alloc hp) (Same.updN (ok.new hp).1) _ (.tup (SqT.of upd_same) (DpAll.mono (Same.updN (ok.new hp).1) hd))

theorem sq_raw {X : Cx} {pins : List (Addr × Obj)} {σ : St} {H : Hp} {s : Shared} {a : Addr} {xs : List V} (I : Inv X pins σ H s) (h : Rd H a (.lst xs)) :
    xs.length ≤ sizeLine ∧ ∃ (its : List Value) (n : Nat), Vals xs its ∧ xs.length = its.length ∧ s.heap.get? a = some { cls := .type "list", data := .seq its.toArray n } := by
  have q : ObjOk X.prog X.w H s.heap a (.lst xs) := h.ok I.hok
  obtain ⟨z, its, n, r, e⟩ := q
  exact ⟨z, its, n, r, r.length, e⟩
/-- list + list, any -/
def rCatS : R2 := fun x y H Q => ∃ l b xs zs, x = .ref l ∧ y = .ref b ∧ Rd H l (.lst xs) ∧ Rd H b (.lst zs) ∧ xs.length + zs.length ≤ sizeLine ∧ ∀ p, H p = none → Q (.ref p) (upd H p (.lst (xs ++ zs)))
theorem op_catS {X : Cx} : OpR X (binaryOp .Add) rCatS := by
  intro pins s σ H x y v u Q I rx ry h
  obtain ⟨l, b, xs, zs, rfl, rfl, hH, hB, hz, q⟩ := h
  cases rx
  cases ry
  obtain ⟨z, its, n, r, hl, e⟩ := sq_raw I hH
  obtain ⟨z2, its2, n2, r2, hl2, e2⟩ := sq_raw I hB
  refine PySem.P.add_list e e2 ?_ (by rw [List.size_toArray, List.size_toArray]; omega)
  have ea : its.toArray ++ its2.toArray = (its ++ its2).toArray := by simp
  rw [ea]
  exact ⟨.ref _, _, I.lnew (t' := s.toks) (r.append r2) (by rw [List.length_append]; omega), rfl, q _ I.fresh⟩
def catL : D → D → Option D
  | .list xs, .list ys => if fit (xs.length + ys.length) = true then some (.list (xs ++ ys)) else none
  | _, _ => none
def catT : D → D → Option D
  | .tuple xs, .tuple ys => if (!xs.isEmpty && fit (xs.length + ys.length)) = true then some (.tuple (xs ++ ys)) else none
  | _, _ => none
def catS : D → D → Option D
  | .str x, .str y => if fit (x.length + y.length) = true then some (.str (x ++ y)) else none
  | _, _ => none
theorem opD_catL : OpD K rCatS catL := by
  intro W c σ H F ρ x y a b d Q ok rx ry e q
  unfold catL at e
  split at e
  · rename_i xs ys
    split at e
    · rename_i hc
      cases e
      obtain ⟨p, vs, rfl, hp, dp⟩ := Pk.rd ok.sub rx
      obtain ⟨p2, vs2, rfl, hp2, dp2⟩ := Pk.rd ok.sub ry
      exact ⟨p, p2, vs, vs2, rfl, rfl, hp, hp2, by rw [DpAll.length dp, DpAll.length dp2]; exact fit_le hc, fun p hp => new_lst ok (DpAll.append dp dp2) q p hp⟩
    · cases e
  · cases e
theorem opD_catT : OpD K (rCatT K) catT := by
  intro W c σ H F ρ x y a b d Q ok rx ry e q
  unfold catT at e
  split at e
  · rename_i xs ys
    split at e
    · rename_i hc
      cases e
      obtain ⟨p, vs, rfl, hp, dp⟩ := Pk.tup ok.sub rx
      obtain ⟨p2, vs2, rfl, hp2, dp2⟩ := Pk.tup ok.sub ry
      rw [Bool.and_eq_true] at hc
      refine ⟨p, p2, vs, vs2, rfl, rfl, hp, hp2, fun z => ?_, by rw [DpAll.length dp, DpAll.length dp2]; exact fit_le hc.2, fun z => ?_, fun z p hp => new_tup ok (DpAll.append dp dp2) q p hp⟩
      · subst z
        cases dp
        simp at hc
      · subst z
        cases dp2
        rw [List.append_nil] at q
        rcases rx with rx | ⟨_, _, _, _, e, _⟩
        · exact post_ok q ok _ rx
        · cases e
    · cases e
  · cases e
def rAddStr : R2 := fun x y H Q => ∃ i j, x = .str i ∧ y = .str j ∧ i.length + j.length ≤ sizeLine ∧ Q (.str (i ++ j)) H
theorem opD_catS : OpD K rAddStr catS := by
  intro W c σ H F ρ x y a b d Q ok rx ry e q
  unfold catS at e
  split at e
  · rename_i i j
    split at e
    · rename_i hc
      cases e
      exact ⟨i, j, rx.str, ry.str, fit_le hc, post_ok q ok _ (.str _)⟩
    · cases e
  · cases e
def addD : D → D → Option D := oOr (iI fun i j => .int (i + j)) (oOr catL (oOr catT catS))
def rAddA (K : PySem.W.Frag) : R2 := fun x y H Q => rI0 (fun i j => .int (i + j)) x y H Q ∨ (rCatS x y H Q ∨ (rCatT K x y H Q ∨ rAddStr x y H Q))
theorem opD_add : OpD K (rAddA K) addD := opD_or (opD_I fun _ _ _ => .int _) (opD_or opD_catL (opD_or opD_catT opD_catS))
theorem or_addA {X : Cx} : OpR X (binaryOp .Add) (rAddA X.K) := OpR.or op_add (OpR.or op_catS (OpR.or op_catT op_add_str))
def subD : D → D → Option D := iI fun i j => .int (i - j)
theorem opD_sub : OpD K (rI0 fun i j => .int (i - j)) subD := opD_I fun _ _ _ => .int _
/-- * of ints, one of them small; of a list by an int -/
def cMul (i j : Int) : Bool := decide (i.natAbs < 18446744073709551616) || decide (j.natAbs < 18446744073709551616)
theorem cMul_ok (i j : Int) (h : cMul i j = true) : CMul i j := by
  unfold cMul at h
  simp only [Bool.or_eq_true, decide_eq_true_eq] at h
  exact h.imp (fun q => by omega) (fun q => by omega)
def mulI : D → D → Option D := iIc cMul fun i j => .int (i * j)
def cDiv (_ j : Int) : Bool := decide (0 < j) && decide (j.natAbs < 1152921504606846976)
theorem cDiv_ok (i j : Int) (h : cDiv i j = true) : CDivW i j := by
  unfold cDiv at h
  simp only [Bool.and_eq_true, decide_eq_true_eq] at h
  exact wide_div (b := 60) h.1 h.2 (by decide) (by decide)
def divD : D → D → Option D := iIc cDiv fun i j => .int (i / j)
theorem opD_div : OpD K (rI CDivW fun i j => .int (i / j)) divD := opD_Ic cDiv_ok fun _ _ _ => .int _
def cMod (_ j : Int) : Bool := decide (0 < j)
def modD : D → D → Option D := iIc cMod fun i j => .int (i % j)
theorem opD_mod : OpD K (rI (fun _ j => 0 < j) fun i j => .int (i % j)) modD := opD_Ic (fun _ _ h => of_decide_eq_true h) fun _ _ _ => .int _
def cPow (i j : Int) : Bool := decide (0 ≤ j) && decide (j ≤ 1000000) && decide (i.natAbs < 2 ^ 64)
def powD : D → D → Option D := iIc cPow fun i j => .int (i ^ j.toNat)
theorem opD_pow : OpD K (rI CPow fun i j => .int (i ^ j.toNat)) powD := opD_Ic (fun i j h => by
  unfold cPow at h
  simp only [Bool.and_eq_true, decide_eq_true_eq] at h
  exact ⟨h.1.1, h.1.2, h.2⟩) fun _ _ _ => .int _
/-- comparing -/
def ltD : D → D → Option D := iI fun i j => .bool (decide (i < j))
def leD : D → D → Option D := iI fun i j => .bool (decide (i ≤ j))
def gtD : D → D → Option D := iI fun i j => .bool (decide (j < i))
def geD : D → D → Option D := iI fun i j => .bool (decide (j ≤ i))
theorem opD_lt : OpD K (rI0 fun i j => .bl (decide (i < j))) ltD := opD_I fun _ _ _ => .bl _
theorem opD_le : OpD K (rI0 fun i j => .bl (decide (i ≤ j))) leD := opD_I fun _ _ _ => .bl _
theorem opD_gt : OpD K (rI0 fun i j => .bl (decide (j < i))) gtD := opD_I fun _ _ _ => .bl _
theorem opD_ge : OpD K (rI0 fun i j => .bl (decide (j ≤ i))) geD := opD_I fun _ _ _ => .bl _
def eqD (a b : D) : Option D := if (SeqAt.shaped a && SeqAt.shaped b) = true then some (.bool (PyData.eqv a b)) else none
def neD (a b : D) : Option D := if (SeqAt.shaped a && SeqAt.shaped b) = true then some (.bool (!PyData.eqv a b)) else none
mutual
theorem lay_nd : ∀ d : D, d.canLay0 = true → d.hasDict = false
  | .none, _ => rfl
  | .bool _, _ => rfl
  | .int _, _ => rfl
  | .str _, _ => rfl
  | .list xs, h => lays_nd xs h
  | .tuple xs, h => lays_nd xs h
  | .dict _, h => by cases h
theorem lays_nd : ∀ xs : List D, PyData.canLayAll0 xs = true → PyData.hasDictAll xs = false
  | [], _ => rfl
  | x :: xs, h => by
    have h : (x.canLay0 && PyData.canLayAll0 xs) = true := h
    rw [Bool.and_eq_true] at h
    show (x.hasDict || PyData.hasDictAll xs) = false
    rw [lay_nd x h.1, lays_nd xs h.2]; rfl
end
theorem shaped_nd {d : D} (h : SeqAt.shaped d = true) : d.hasDict = false := lay_nd d (Bool.and_eq_true_iff.mp h).1
theorem opD_eq : OpD K (rEqD K) eqD := by
  intro W c σ H F ρ x y a b d Q ok rx ry e q
  unfold eqD at e
  split at e
  · rename_i hc
    cases e
    rw [Bool.and_eq_true] at hc
    exact ⟨a, b, Pk.dp ok.sub rx (shaped_nd hc.1), Pk.dp ok.sub ry (shaped_nd hc.2), hc.1, hc.2, post_ok q ok _ (.bl _)⟩
  · cases e
theorem opD_ne : OpD K (rNeD K) neD := by
  intro W c σ H F ρ x y a b d Q ok rx ry e q
  unfold neD at e
  split at e
  · rename_i hc
    cases e
    rw [Bool.and_eq_true] at hc
    exact ⟨a, b, Pk.dp ok.sub rx (shaped_nd hc.1), Pk.dp ok.sub ry (shaped_nd hc.2), hc.1, hc.2, post_ok q ok _ (.bl _)⟩
  · cases e
/-- an item by its place -/
def ixD : D → D → Option D
  | .list ds, .int i => atI ds i
  | .tuple ds, .int i => atI ds i
  | .str z, .int i => if fit z.length = true then (atI z.cps.toList i).map fun c => .str ⟨#[c]⟩ else none
  | _, _ => none
theorem atI_D {F : Hp} {vs : List V} {ds : List D} {i : Int} {d : D} (h : DpAll K F vs ds) (e : atI ds i = some d) : ∃ v, atI vs i = some v ∧ Dp K F v d := by
  unfold atI at e ⊢
  rw [DpAll.length h]
  cases q : ixN ds.length i with
  | none => rw [q] at e; cases e
  | some j =>
    rw [q] at e
    exact DpAll.getd h e
theorem opD_ix : OpD K (rIx K) ixD := by
  intro W c σ H F ρ x y a b d Q ok rx ry e q
  unfold ixD at e
  split at e
  · rename_i ds i
    obtain ⟨p, vs, rfl, hp, dp⟩ := Pk.lst ok.sub rx
    obtain ⟨v, e1, e2⟩ := atI_D dp e
    exact .inl ⟨p, vs, i, v, rfl, ry.int, hp, e1, post_ok q ok _ e2⟩
  · rename_i ds i
    obtain ⟨p, vs, rfl, hp, dp⟩ := Pk.tup ok.sub rx
    obtain ⟨v, e1, e2⟩ := atI_D dp e
    exact .inr (.inl ⟨p, vs, i, v, rfl, ry.int, hp, e1, post_ok q ok _ e2⟩)
  · rename_i z i
    split at e
    · rename_i hf
      cases q' : atI z.cps.toList i with
      | none => rw [q'] at e; cases e
      | some c' =>
        rw [q'] at e
        cases e
        exact .inr (.inr ⟨z, i, c', rx.str, ry.int, fit_le hf, q', post_ok q ok _ (.str _)⟩)
    · cases e
  · cases e
end
end Dd

namespace Dd
open PySem PySem.Spec L2
section
variable {X : Cx} {W : WX} {a b c' : Expr} {ma mb mc : M D} {pos : Pos} {σ : St} {H : Hp} {K : PySem.W.Frag}
/-! ### operators in an expression -/
theorem dOp {op : Operator} {r : R2} {g : D → D → Option D} (ho : OpR X (binaryOp op) r) (hd : OpD X.K r g) (ha : PE X a (tE X.K W ma)) (hb : PE X b (tP X.K W mb)) : PE X (.BinOp a op b pos) (tE X.K W (mBin g ma mb)) :=
  PE.imp (pe_op ho ha hb) fun _ _ _ => tOp_of hd
theorem dOpL {op : Operator} {r : R2} {g : D → D → Option D} {i : Nat} (ho : OpR X (binaryOp op) r) (hd : OpD X.K r g) (ha : PE X a (tVar i)) (hb : PE X b (tP X.K W mb)) : PE X (.BinOp a op b pos) (tE X.K W (mBinL g i mb)) :=
  PE.imp (pe_op ho ha hb) fun _ _ _ => tOp_ofL hd
theorem dCmp {op : CmpOp} {r : R2} {g : D → D → Option D} (ho : OpR X (compareOp op) r) (hd : OpD X.K r g) (hm : behindInMarks op b = false) (ha : PE X a (tE X.K W ma)) (hb : PE X b (tP X.K W mb)) : PE X (.Compare a [op] [b] pos) (tE X.K W (mBin g ma mb)) :=
  PE.imp (pe_cmpR ho ha hb hm) fun _ _ _ => tOp_of hd
theorem dCmpL {op : CmpOp} {r : R2} {g : D → D → Option D} {i : Nat} (ho : OpR X (compareOp op) r) (hd : OpD X.K r g) (hm : behindInMarks op b = false) (ha : PE X a (tVar i)) (hb : PE X b (tP X.K W mb)) : PE X (.Compare a [op] [b] pos) (tE X.K W (mBinL g i mb)) :=
  PE.imp (pe_cmpR ho ha hb hm) fun _ _ _ => tOp_ofL hd
theorem dIx (ha : PE X a (tE X.K W ma)) (hb : PE X b (tP X.K W mb)) (hs : PlainIx b := by exact fun _ _ => rfl) : PE X (.Subscript a b pos) (tE X.K W (mBin ixD ma mb)) := PE.imp (pe_ix ix_seq ha hb hs) fun _ _ _ => tOp_of opD_ix
theorem dIxL {i : Nat} (ha : PE X a (tVar i)) (hb : PE X b (tP X.K W mb)) (hs : PlainIx b := by exact fun _ _ => rfl) : PE X (.Subscript a b pos) (tE X.K W (mBinL ixD i mb)) := PE.imp (pe_ix ix_seq ha hb hs) fun _ _ _ => tOp_ofL opD_ix
/-- one value -/
def mUn (g : D → Option D) (ma : M D) : M D := mBind ma fun a => mLift (g a)
def negD : D → Option D
  | .int i => some (.int (-i))
  | _ => none
theorem dNeg (ha : PE X a (tE X.K W ma)) : PE X (.UnaryOp .USub a pos) (tE X.K W (mUn negD ma)) := by
  refine PE.imp (pe_un un_neg ha) ?_
  rintro σ H Q ⟨c, F, ρ, ok, h⟩
  refine ⟨c, F, ρ, ok, post_mono ?_ (post_bind h)⟩
  rintro d H1 F1 _ ⟨ρ1, ok1, s1, h1⟩ x rx
  obtain ⟨d', e, h2⟩ := post_lift h1
  unfold negD at e
  split at e
  · cases e
    cases rx
    exact ⟨_, rfl, post_ok (W := W) h2 ok1 _ (.int _)⟩
  · cases e
/-! ### truth -/
def truD : D → Option Bool
  | .none => some false
  | .bool b => some b
  | .int i => some (i != 0)
  | .str x => if fit x.length = true then some ((x.length : Int) != 0) else none
  | .list ds => some (!ds.isEmpty)
  | .tuple ds => some (!ds.isEmpty)
  | .dict _ => none
theorem isEmpty_dp {F : Hp} {vs : List V} {ds : List D} (h : DpAll K F vs ds) : vs.isEmpty = ds.isEmpty := by cases h <;> rfl
theorem tru_of {c : Ct} {F : Hp} {ρ : En} (ok : Ok K c σ H F ρ) {x : V} {d : D} {k : Bool} (r : Pk K H F x d) (e : truD d = some k) : TruV K x H k := by
  cases d with
  | none => cases r.none; cases e; rfl
  | bool b => cases r.bool; cases e; rfl
  | int i => cases r.int; cases e; rfl
  | str z =>
    cases r.str
    have e : (if fit z.length = true then some ((z.length : Int) != 0) else none) = some k := e
    split at e
    · rename_i hf
      cases e
      exact ⟨fit_le hf, rfl⟩
    · cases e
  | list ds =>
    obtain ⟨p, vs, rfl, hp, dp⟩ := Pk.lst ok.sub r
    cases e
    exact .inl ⟨vs, hp, by rw [isEmpty_dp dp]⟩
  | tuple ds =>
    obtain ⟨p, vs, rfl, hp, dp⟩ := Pk.tup ok.sub r
    cases e
    exact .inr (.inl ⟨vs, hp, by rw [isEmpty_dp dp]⟩)
  | dict _ => cases e
def mTru (m : M D) : M Bool := mBind m fun d => mLift (truD d)
/-- any expression but comparisons, and, or, not: by its value's truth -/
theorem dTru (ha : PE X a (tP X.K W ma)) (he : ∀ whole, isTrue a X.env whole = (do let v ← whole; standAt a.pos; holding [v] (truthy v)) := by exact fun _ => rfl) : PT X a (tT X.K W (mTru ma)) := by
  refine PT.imp (pt_truth ha he) ?_
  rintro σ H Q ⟨c, F, ρ, ok, h⟩
  refine ⟨c, F, ρ, ok, post_mono ?_ (post_bind h)⟩
  rintro d H1 F1 _ ⟨ρ1, ok1, s1, h1⟩ x rx
  obtain ⟨k, e, h2⟩ := post_lift h1
  exact ⟨k, tru_of ok1 rx e, post_ok (W := W) h2 ok1⟩
def bolD : D → Option Bool
  | .bool b => some b
  | _ => none
def mBol (m : M D) : M Bool := mBind m fun d => mLift (bolD d)
theorem tTest_of {t : TE} {m : M D} (ht : ∀ σ H Q, tE K W m σ H Q → t σ H Q) {Q : Bool → Hp → Prop} (h : tT K W (mBol m) σ H Q) : tTest t σ H Q := by
  obtain ⟨c, F, ρ, ok, h⟩ := h
  refine ht _ _ _ ⟨c, F, ρ, ok, post_mono ?_ (post_bind h)⟩
  rintro d H1 F1 _ ⟨ρ1, ok1, s1, h1⟩ x rx
  obtain ⟨k, e, h2⟩ := post_lift h1
  unfold bolD at e
  split at e
  · cases e
    cases rx
    exact ⟨_, rfl, post_ok (W := W) h2 ok1⟩
  · cases e
theorem dtCmp {op : CmpOp} {r : R2} {g : D → D → Option D} (ho : OpR X (compareOp op) r) (hd : OpD X.K r g) (hm : behindInMarks op b = false) (ha : PE X a (tE X.K W ma)) (hb : PE X b (tP X.K W mb)) : PT X (.Compare a [op] [b] pos) (tT X.K W (mBol (mBin g ma mb))) :=
  PT.imp (pt_cmpR ho ha hb hm) fun _ _ _ => tTest_of fun _ _ _ => tOp_of hd
theorem dtCmpL {op : CmpOp} {r : R2} {g : D → D → Option D} {i : Nat} (ho : OpR X (compareOp op) r) (hd : OpD X.K r g) (hm : behindInMarks op b = false) (ha : PE X a (tVar i)) (hb : PE X b (tP X.K W mb)) : PT X (.Compare a [op] [b] pos) (tT X.K W (mBol (mBinL g i mb))) :=
  PT.imp (pt_cmpR ho ha hb hm) fun _ _ _ => tTest_of fun _ _ _ => tOp_ofL hd
/-- a < b < c -/
def mChain (g g' : D → D → Option D) (ma mb mc : M D) : M D := mBind ma fun a => mBind mb fun b => mBind (mLift (g a b)) fun r => mBind (mLift (bolD r)) fun k => if k = true then mBind mc fun c => mLift (g' b c) else mPure (.bool false)
/-! ### and, or, not -/
def mIf {α : Type} (mc : M Bool) (ma mb : M α) : M α := mBind mc fun k => if k = true then ma else mb
def mAndT (ma mb : M Bool) : M Bool := mBind ma fun k => if k = true then mb else mPure false
def mOrT (ma mb : M Bool) : M Bool := mBind ma fun k => if k = true then mPure true else mb
def mNotT (ma : M Bool) : M Bool := mBind ma fun k => mPure (!k)
variable {ta tb : M Bool} {rest : List Expr}
theorem dtNot (ha : PT X a (tT X.K W ta)) : PT X (.UnaryOp .Not a pos) (tT X.K W (mNotT ta)) := by
  refine PT.imp (pt_not ha) ?_
  rintro σ H Q ⟨c, F, ρ, ok, h⟩
  refine ⟨c, F, ρ, ok, post_mono ?_ (post_bind h)⟩
  rintro k H1 F1 _ ⟨ρ1, ok1, s1, h1⟩
  exact post_ok (W := W) h1 ok1
theorem PW.imp {e : Expr} {t t' : TT} (h : PW X e t) (k : ∀ σ H Q, t' σ H Q → t σ H Q) : PW X e t' := ⟨fun wh pins s σ H Q I q => h.run wh pins s σ H Q I (k σ H Q q)⟩
theorem dwAnd1 (ha : PT X a (tT X.K W ta)) : PW X (.BoolOp .And [a] pos) (tT X.K W ta) := pw_and1 ha
theorem dwOr1 (ha : PT X a (tT X.K W ta)) : PW X (.BoolOp .Or [a] pos) (tT X.K W ta) := pw_or1 ha
theorem dwAnd (ha : PT X a (tT X.K W ta)) (hb : PW X (.BoolOp .And (b :: rest) pos) (tT X.K W tb)) : PW X (.BoolOp .And (a :: b :: rest) pos) (tT X.K W (mAndT ta tb)) := by
  refine PW.imp (pw_and ha hb) ?_
  rintro σ H Q ⟨c, F, ρ, ok, h⟩
  refine ⟨c, F, ρ, ok, post_mono ?_ (post_bind h)⟩
  rintro k H1 F1 _ ⟨ρ1, ok1, s1, h1⟩
  cases k with
  | true => exact ⟨c, F1, ρ1, ok1, h1⟩
  | false => exact post_ok (W := W) h1 ok1
theorem dwOr (ha : PT X a (tT X.K W ta)) (hb : PW X (.BoolOp .Or (b :: rest) pos) (tT X.K W tb)) : PW X (.BoolOp .Or (a :: b :: rest) pos) (tT X.K W (mOrT ta tb)) := by
  refine PW.imp (pw_or ha hb) ?_
  rintro σ H Q ⟨c, F, ρ, ok, h⟩
  refine ⟨c, F, ρ, ok, post_mono ?_ (post_bind h)⟩
  rintro k H1 F1 _ ⟨ρ1, ok1, s1, h1⟩
  cases k with
  | true => exact post_ok (W := W) h1 ok1
  | false => exact ⟨c, F1, ρ1, ok1, h1⟩
/-- .. as values -/
def mAnd (ma mb : M D) : M D := mBind ma fun a => mBind (mLift (truD a)) fun k => if k = true then mb else mPure a
def mOr (ma mb : M D) : M D := mBind ma fun a => mBind (mLift (truD a)) fun k => if k = true then mPure a else mb
def mNot (ma : M D) : M D := mBind ma fun a => mBind (mLift (truD a)) fun k => mPure (.bool (!k))
theorem dOne {op : BoolOp} (ha : PE X a (tE X.K W ma)) : PE X (.BoolOp op [a] pos) (tE X.K W ma) := pe_one ha
theorem dAnd (ha : PE X a (tE X.K W ma)) (hb : PE X (.BoolOp .And (b :: rest) pos) (tE X.K W mb)) : PE X (.BoolOp .And (a :: b :: rest) pos) (tE X.K W (mAnd ma mb)) := by
  refine PE.imp (pe_andT ha hb) ?_
  rintro σ H Q ⟨c, F, ρ, ok, h⟩
  refine ⟨c, F, ρ, ok, post_mono ?_ (post_bind h)⟩
  rintro a H1 F1 _ ⟨ρ1, ok1, s1, h1⟩ x rx
  obtain ⟨k, e, h2⟩ := post_lift (o := truD a) (by exact post_mono (fun _ _ _ _ q => q) (post_bind h1))
  obtain ⟨ρ2, ok2, s2, h3⟩ := post_ok (W := W) h2 ok1
  refine ⟨k, tru_of ok1 (.inl rx) e, ?_⟩
  cases k with
  | true => exact ⟨c, F1, ρ2, ok2, h3⟩
  | false => exact post_ok (W := W) h3 ok2 _ rx
theorem dNot (ha : PE X a (tP X.K W ma)) : PE X (.UnaryOp .Not a pos) (tE X.K W (mNot ma)) := by
  refine PE.imp (pe_notT ha) ?_
  rintro σ H Q ⟨c, F, ρ, ok, h⟩
  refine ⟨c, F, ρ, ok, post_mono ?_ (post_bind h)⟩
  rintro a H1 F1 _ ⟨ρ1, ok1, s1, h1⟩ x rx
  obtain ⟨k, e, h2⟩ := post_lift (o := truD a) (by exact post_mono (fun _ _ _ _ q => q) (post_bind h1))
  obtain ⟨ρ2, ok2, s2, h3⟩ := post_ok (W := W) h2 ok1
  exact ⟨k, tru_of ok1 rx e, post_ok (W := W) h3 ok2 _ (.bl _)⟩
theorem dIf {cnd : Expr} {mc : M Bool} (hc : PT X cnd (tT X.K W mc)) (ha : PE X a (tE X.K W ma)) (hb : PE X b (tE X.K W mb)) : PE X (.IfExp cnd a b pos) (tE X.K W (mIf mc ma mb)) := by
  refine PE.imp (pe_ifExp hc ha hb) ?_
  rintro σ H Q ⟨c, F, ρ, ok, h⟩
  refine ⟨c, F, ρ, ok, post_mono ?_ (post_bind h)⟩
  rintro k H1 F1 _ ⟨ρ1, ok1, s1, h1⟩
  cases k with
  | true => exact ⟨c, F1, ρ1, ok1, h1⟩
  | false => exact ⟨c, F1, ρ1, ok1, h1⟩
/-! ### argument lists, displays -/
variable {es : List Expr} {ms : M (List D)}
def mCons (m : M D) (ms : M (List D)) : M (List D) := mBind m fun d => mBind ms fun ds => mPure (d :: ds)
theorem dNil : PA X [] (tA X.K W (mPure [])) := PA.imp pa_nil (by
  rintro σ H Q ⟨c, F, ρ, ok, h⟩
  exact post_ok (W := W) h ok _ .nil)
theorem dCons (ha : PE X a (tE X.K W ma)) (hr : PA X es (tA X.K W ms)) (hs : starEach (a :: es) X.env = (false, eval a X.env) :: starEach es X.env := by rfl) : PA X (a :: es) (tA X.K W (mCons ma ms)) := by
  refine PA.imp (pa_cons ha hr hs) ?_
  rintro σ H Q ⟨c, F, ρ, ok, h⟩
  refine ⟨c, F, ρ, ok, post_mono ?_ (post_bind h)⟩
  rintro d H1 F1 _ ⟨ρ1, ok1, s1, h1⟩ x rx
  refine ⟨c, F1, ρ1, ok1, post_mono ?_ (post_bind h1)⟩
  rintro ds H2 F2 _ ⟨ρ2, ok2, s2, h2⟩ xs rxs
  exact post_ok (W := W) h2 ok2 _ (.cons (Dp.mono s2 rx) rxs)
def mTup (ms : M (List D)) : M D := mBind ms fun ds => mLift (if fit ds.length = true then some (.tuple ds) else none)
def mLst (ms : M (List D)) : M D := mBind ms fun ds => mLift (if fit ds.length = true then some (.list ds) else none)
theorem dTup {x1} (h : PA X es (tA X.K W ms)) : PE X (.Tuple es x1 pos) (tE X.K W (mTup ms)) := by
  refine PE.imp (pe_tup h) ?_
  rintro σ H Q ⟨c, F, ρ, ok, h⟩
  refine ⟨c, F, ρ, ok, post_mono ?_ (post_bind h)⟩
  rintro ds H1 F1 _ ⟨ρ1, ok1, s1, h1⟩ xs rx
  obtain ⟨d, e, h2⟩ := post_lift h1
  split at e
  · rename_i hf
    cases e
    exact ⟨by rw [DpAll.length rx]; exact fit_le hf, fun p hp => new_tup ok1 rx h2 p hp⟩
  · cases e
theorem dLst (h : PA X es (tA X.K W ms)) : PE X (.List es pos) (tE X.K W (mLst ms)) := by
  refine PE.imp (pe_lst h) ?_
  rintro σ H Q ⟨c, F, ρ, ok, h⟩
  refine ⟨c, F, ρ, ok, post_mono ?_ (post_bind h)⟩
  rintro ds H1 F1 _ ⟨ρ1, ok1, s1, h1⟩ xs rx
  obtain ⟨d, e, h2⟩ := post_lift h1
  split at e
  · rename_i hf
    cases e
    exact ⟨by rw [DpAll.length rx]; exact fit_le hf, fun p hp => new_lst ok1 rx h2 p hp⟩
  · cases e
/-! ### built-ins by name -/
inductive PkAll (K : PySem.W.Frag) (H F : Hp) : List V → List D → Prop
  | nil : PkAll K H F [] []
  | cons {v : V} {vs : List V} {d : D} {ds : List D} : Pk K H F v d → PkAll K H F vs ds → PkAll K H F (v :: vs) (d :: ds)
theorem PkAll.of {F : Hp} : ∀ {vs : List V} {ds : List D}, DpAll K F vs ds → PkAll K H F vs ds
  | _, _, .nil => .nil
  | _, _, .cons h t => .cons (.inl h) (PkAll.of t)
def CallD (K : PySem.W.Frag) (r : List V → Hp → VK → Prop) (g : List D → Option D) : Prop :=
  ∀ {W : WX} {c : Ct} {σ : St} {H F : Hp} {ρ : En} {xs : List V} {ds : List D} {d : D} {Q : VK}, Ok K c σ H F ρ → PkAll K H F xs ds → g ds = some d → post K W c σ F (qE K Q) (some (.ok d ρ)) → r xs H Q
def mCall1 (g : List D → Option D) (m : M D) : M D := mBind m fun d => mLift (g [d])
def mCallN (g : List D → Option D) (ms : M (List D)) : M D := mBind ms fun ds => mLift (g ds)
variable {x : Str} {p : Pos} {id T : String} {r : List V → Hp → VK → Prop} {g : List D → Option D}
theorem tCB1 (hd : CallD K r g) {Q : VK} (h : tE K W (mCall1 g ma) σ H Q) : tCB r (tCons (tP K W ma) tNil) σ H Q := by
  obtain ⟨c, F, ρ, ok, h⟩ := h
  refine ⟨c, F, ρ, ok, post_mono ?_ (post_bind h)⟩
  rintro d H1 F1 _ ⟨ρ1, ok1, s1, h1⟩ x rx
  obtain ⟨d', e, h2⟩ := post_lift h1
  exact hd ok1 (.cons rx .nil) e h2
theorem tCBn (hd : CallD K r g) {Q : VK} (h : tE K W (mCallN g ms) σ H Q) : tCB r (tA K W ms) σ H Q := by
  obtain ⟨c, F, ρ, ok, h⟩ := h
  refine ⟨c, F, ρ, ok, post_mono ?_ (post_bind h)⟩
  rintro ds H1 F1 _ ⟨ρ1, ok1, s1, h1⟩ xs rx
  obtain ⟨d', e, h2⟩ := post_lift h1
  exact hd ok1 (.of rx) e h2
theorem dB1 (hc : CallR X (.builtin id) r) (hd : CallD X.K r g) (hm : X.mg x = none) (hv : bootBuiltins x = some (.builtin id)) (ha : PE X a (tP X.K W ma)) (hg : Gl X x := by rfl) (hs : starEach (a :: []) X.env = (false, eval a X.env) :: starEach [] X.env := by rfl) (hn : x ≠ "__name__" := by decide) (hdb : (x == ("__debug__" : Str)) = false := by decide)
    (hpl : (backTo pos (starEach [] X.env)).any (·.1) = false := by rfl) : PE X (.Call (.Name x p) [a] [] pos) (tE X.K W (mCall1 g ma)) :=
  PE.imp (pe_callB hc hg hm hv (pa_cons ha pa_nil hs) hn hdb hs hpl) fun _ _ _ => tCB1 hd
theorem dTy1 (hc : CallR X (.type T) r) (hd : CallD X.K r g) (hm : X.mg x = none) (hv : bootBuiltins x = some (.type T)) (ha : PE X a (tP X.K W ma)) (hg : Gl X x := by rfl) (hs : starEach (a :: []) X.env = (false, eval a X.env) :: starEach [] X.env := by rfl) (hn : x ≠ "__name__" := by decide) (hdb : (x == ("__debug__" : Str)) = false := by decide)
    (hpl : (backTo pos (starEach [] X.env)).any (·.1) = false := by rfl) : PE X (.Call (.Name x p) [a] [] pos) (tE X.K W (mCall1 g ma)) :=
  PE.imp (pe_callTy hc hg hm hv (pa_cons ha pa_nil hs) hn hdb hs hpl) fun _ _ _ => tCB1 hd
theorem dBn (hc : CallR X (.builtin id) r) (hd : CallD X.K r g) (hm : X.mg x = none) (hv : bootBuiltins x = some (.builtin id)) (ha : PA X (a :: es) (tA X.K W ms)) (hg : Gl X x := by rfl) (hs : starEach (a :: es) X.env = (false, eval a X.env) :: starEach es X.env := by rfl) (hn : x ≠ "__name__" := by decide) (hdb : (x == ("__debug__" : Str)) = false := by decide)
    (hpl : (backTo pos (starEach es X.env)).any (·.1) = false := by rfl) : PE X (.Call (.Name x p) (a :: es) [] pos) (tE X.K W (mCallN g ms)) :=
  PE.imp (pe_callB hc hg hm hv ha hn hdb hs hpl) fun _ _ _ => tCBn hd
end
end Dd

namespace Dd
open PySem PySem.Spec L2
section
variable {X : Cx} {W : WX} {K : PySem.W.Frag} {e tg : Expr} {st : Stmt} {sts : List Stmt} {m : M D} {pos : Pos} {m1 m2 : M Fl}
/-! ### statements -/
def mSeq (m1 m2 : M Fl) : M Fl := mBind m1 fun f => match f with
  | .nx => m2
  | o => mPure o
theorem bind_ok {α β : Type} {m : M α} {f : α → M β} {ρ ρ' : En} {b : β} (h : mBind m f ρ = some (.ok b ρ')) : ∃ a ρ1, m ρ = some (.ok a ρ1) ∧ f a ρ1 = some (.ok b ρ') := by
  unfold mBind at h
  cases e : m ρ with
  | none => rw [e] at h; cases h
  | some r =>
    rw [e] at h
    cases r with
    | ok a ρ1 => exact ⟨a, ρ1, rfl, h⟩
    | ex x ρ1 => cases h
theorem seq_post {c : Ct} {F : Hp} {Dn : Ends} {ρ : En} (h : postS K W c F Dn (mSeq m1 m2 ρ)) : postS K W c F { Dn with nx := tS K W m2 Dn } (m1 ρ) := by
  unfold mSeq mBind at h
  cases e : m1 ρ with
  | none => rw [e] at h; exact h
  | some r =>
    rw [e] at h
    cases r with
    | ex x ρ1 => exact h
    | ok f ρ1 =>
      cases f with
      | nx => exact fun σ' H' F' ok s => ⟨c, F', ρ1, ok, postS_weak s h⟩
      | bk => exact h
      | ct => exact h
      | rt d => exact h
      | rf ds => exact h
theorem dsCons (h1 : PS X st (tS X.K W m1)) (h2 : PSs X sts (tS X.K W m2)) : PSs X (st :: sts) (tS X.K W (mSeq m1 m2)) :=
  PSs.imp (pss_cons h1 h2) fun Dn σ H ⟨c, F, ρ, ok, h⟩ => ⟨c, F, ρ, ok, seq_post h⟩
theorem dsOne (h1 : PS X st (tS X.K W m1)) : PSs X [st] (tS X.K W m1) := pss_one h1
theorem dsNil : PSs X [] (tS X.K W (mPure .nx)) := PSs.imp pss_nil fun Dn σ H ⟨c, F, ρ, ok, h⟩ => h σ H F ok (Same.refl F)
def mRet (m : M D) : M Fl := mBind m fun d => mPure (.rt d)
theorem dRet (he : PE X e (tE X.K W m)) : PS X (.Return (some e) pos) (tS X.K W (mRet m)) := PS.imp (ps_ret he) (by
  rintro Dn σ H ⟨c, F, ρ, ok, h⟩
  refine ⟨c, F, ρ, ok, post_mono ?_ (postS_bind h)⟩
  rintro d H1 F1 _ ⟨ρ1, ok1, s1, h1⟩ v rv
  exact h1 σ v H1 F1 ok1 (Same.refl F1) rv)
/-- a new list is handed back, the caller's own -/
def mRetF (ms : M (List D)) : M Fl := mBind ms fun ds => mBind (mLift (if fit ds.length = true then some ds else none)) fun ds => mPure (.rf ds)
theorem dRetF {es : List Expr} {lp : Pos} {ms : M (List D)} (h : PA X es (tA X.K W ms)) : PS X (.Return (some (.List es lp)) pos) (tS X.K W (mRetF ms)) := PS.imp (ps_ret (pe_lst h)) (by
  rintro Dn σ H ⟨c, F, ρ, ok, h⟩
  refine ⟨c, F, ρ, ok, post_mono ?_ (postS_bind h)⟩
  rintro ds H1 F1 _ ⟨ρ1, ok1, s1, h1⟩ xs rx
  have h2 := postS_bind (σ := σ) h1
  obtain ⟨d, e, h3⟩ := post_lift h2
  split at e
  · rename_i hf
    cases e
    refine ⟨by rw [DpAll.length rx]; exact fit_le hf, fun p hp => ?_⟩
    obtain ⟨a1, a2, a3, a4, a5⟩ := ok1.new hp
    have k : Same H1 (upd H1 p (.lst xs)) := Same.updN hp
    have ok2 : Ok X.K c σ (upd H1 p (.lst xs)) F1 ρ1 := by
      obtain ok' := ok1.allocP (o := .lst xs) hp
      refine ⟨ok'.len, ok'.sub, ok'.ge, ok'.fe, ok'.keep, fun q z => ?_, fun b u z => ?_, ok'.val, fun i es z => ?_, ok'.ios, ok'.scr, ok'.sep, ok1.dcs.tr (Same.refl F1) fun q ws b1 b2 b3 b4 _ _ => ⟨k _ _ b1, b2, b4⟩⟩
      · obtain ⟨b1, b2, b3, xs', b4⟩ := ok1.iod q z
        exact ⟨b1, b2, b3, xs', k _ _ b4⟩
      · obtain ⟨b1, b2, b3⟩ := ok1.prt b u z
        exact ⟨k _ _ b1, b2, b3⟩
      · obtain ⟨q, vs, b1, b2, b3, b4, b5, b6⟩ := ok1.own i es z
        exact ⟨q, vs, b1, k _ _ b2, b3, b4, b5, b6⟩
    obtain ⟨ρ2, ok3, s3, h4⟩ := h3 _ _ ok2 (Same.refl F1)
    exact h4 σ p xs _ _ ok3 (Same.refl F1) upd_same rx a1 a2
  · cases e)
def mDrop (m : M D) : M Fl := mBind m fun _ => mPure .nx
theorem dExpr (he : PE X e (tE X.K W m)) (hs : swapsWith e none pos.line X.env = pure false := by rfl) : PS X (.Expr e pos) (tS X.K W (mDrop m)) := PS.imp (ps_expr he hs) (by
  rintro Dn σ H ⟨c, F, ρ, ok, h⟩
  refine ⟨c, F, ρ, ok, post_mono ?_ (postS_bind h)⟩
  rintro d H1 F1 _ ⟨ρ1, ok1, s1, h1⟩ v rv
  exact h1 σ H1 F1 ok1 (Same.refl F1))
theorem dIfS {cnd : Expr} {a b : List Stmt} {mc : M Bool} (hc : PT X cnd (tT X.K W mc)) (ha : PSs X a (tS X.K W m1)) (hb : PSs X b (tS X.K W m2)) : PS X (.If cnd a b pos) (tS X.K W (mIf mc m1 m2)) := PS.imp (ps_if hc ha hb) (by
  rintro Dn σ H ⟨c, F, ρ, ok, h⟩
  refine ⟨c, F, ρ, ok, post_mono ?_ (postS_bind h)⟩
  rintro k H1 F1 _ ⟨ρ1, ok1, s1, h1⟩
  cases k with
  | true => exact ⟨c, F1, ρ1, ok1, h1⟩
  | false => exact ⟨c, F1, ρ1, ok1, h1⟩)
/-! ### stores -/
def mStore (i : Nat) (d : D) : M Unit := fun ρ => if i < ρ.length then some (.ok () (ρ.set i (.val d))) else none
def mDone : M Fl := mPure .nx
theorem dgName {i : Nat} {x : Str} {p : Pos} (hN : X.N.Nodup) (hi : X.N[i]? = some x := by rfl) (hx : Loc X.env.scope x := by first | exact Or.inl rfl | exact Or.inr rfl) (hf : X.fn x = true ∨ X.env.scope.names.lookup x = some .local := by first | exact .inl rfl | exact .inr rfl) : PG X (.Name x p) (tG X.K W (mStore i)) := PG.imp (pg_name hN hi hx hf) (by
  rintro v σ H Q ⟨c, F, ρ, d, ok, r, h⟩
  unfold mStore at h
  split at h
  · rename_i hl
    exact h _ H F (ok.setV hl r) (Same.refl F)
  · exact h.elim)
def gCons2 (g : D → M Unit) (gs : List D → M Unit) : List D → M Unit
  | [] => mStuck
  | d :: ds => mBind (g d) fun _ => gs ds
theorem dgsCons {es : List Expr} {g : D → M Unit} {gs : List D → M Unit} (h1 : PG X e (tG X.K W g)) (h2 : PGs X es (tGs X.K W gs)) (hs : (assignEach (e :: es) X.env).map (·.2) = assign e X.env :: (assignEach es X.env).map (·.2) := by rfl) : PGs X (e :: es) (tGs X.K W (gCons2 g gs)) :=
  PGs.imp (pgs_cons h1 h2 hs) (by
  rintro vs σ H Q ⟨c, F, ρ, ds, ok, r, h⟩
  cases r with
  | nil => exact h.elim
  | cons r rr =>
    refine ⟨_, _, rfl, c, F, ρ, _, ok, r, postG_mono ?_ (postG_bindG h)⟩
    rintro σ1 H1 ⟨F1, ρ1, ok1, s1, h1⟩
    exact ⟨c, F1, ρ1, _, ok1, DpAll.mono s1 rr, h1⟩)
def gTupD (n : Nat) (gs : List D → M Unit) : D → M Unit
  | .tuple ds => if ds.length = n then gs ds else mStuck
  | _ => mStuck
theorem dgTup {es : List Expr} {k : Nat} {gs : List D → M Unit} {n : Nat} (hc : X.calm = true) (h : PGs X es (tGs X.K W gs)) (hn : (assignEach es X.env).length = n := by rfl) (hst : (assignEach es X.env).findIdx? (·.1) = none := by rfl) : PG X (.Tuple es k pos) (tG X.K W (gTupD n gs)) :=
  PG.imp (pg_tup hc h hn hst) (by
  rintro v σ H Q ⟨c, F, ρ, d, ok, r, h⟩
  unfold gTupD at h
  split at h
  · split at h
    · rename_i hl
      obtain ⟨p, vs, rfl, hp, dp⟩ := Pk.tup ok.sub (.inl r)
      exact ⟨p, vs, rfl, hp, by rw [DpAll.length dp]; exact hl, c, F, ρ, _, ok, dp, h⟩
    · exact h.elim
  · exact h.elim)
/-- a slot's own list (or the caller's): what it holds; it is changed -/
def mOwn (i : Nat) : M (List D) := fun ρ => match ρ[i]? with
  | some (.own ds) => some (.ok ds ρ)
  | some (.io ds) => some (.ok ds ρ)
  | _ => none
def mPut (i : Nat) (ds : List D) : M Unit := fun ρ => match ρ[i]? with
  | some (.own _) => some (.ok () (ρ.set i (.own ds)))
  | some (.io _) => some (.ok () (ρ.set i (.io ds)))
  | _ => none
theorem own_at {c : Ct} {σ : St} {H F : Hp} {ρ : En} {i : Nat} {α : Type} {G : α → Hp → Hp → Prop} {f : List D → M α} (ok : Ok K c σ H F ρ) (h : post K W c σ F G (mBind (mOwn i) f ρ)) :
    ∃ p vs ds, σ[i]? = some (some (.ref p)) ∧ H p = some (.lst vs) ∧ DpAll K F vs ds ∧ F p = none ∧ post K W c σ F G (f ds ρ) := by
  unfold mBind mOwn at h
  cases e : ρ[i]? with
  | none => rw [e] at h; exact h.elim
  | some u =>
    rw [e] at h
    cases u with
    | own ds =>
      obtain ⟨p, vs, a1, a2, a3, a4, _⟩ := ok.own i ds e
      exact ⟨p, vs, ds, a1, a2, a3, a4, h⟩
    | io ds =>
      obtain ⟨_, p, vs, a0, a1, a2, a3⟩ := ok.ios i ds e
      exact ⟨p, vs, ds, a1, a2, a3, (ok.iod p a0).1, h⟩
    | un => exact h.elim
    | val _ => exact h.elim
    | scr _ => exact h.elim
    | dct _ => exact h.elim
    | nst _ => exact h.elim
theorem own_atG {c : Ct} {σ : St} {H F : Hp} {ρ : En} {i : Nat} {Q : St → Hp → Prop} {f : List D → M Unit} (ok : Ok K c σ H F ρ) (h : postG K W c F Q (mBind (mOwn i) f ρ)) :
    ∃ p vs ds, σ[i]? = some (some (.ref p)) ∧ H p = some (.lst vs) ∧ DpAll K F vs ds ∧ F p = none ∧ postG K W c F Q (f ds ρ) := by
  unfold mBind mOwn at h
  cases e : ρ[i]? with
  | none => rw [e] at h; exact h.elim
  | some u =>
    rw [e] at h
    cases u with
    | own ds =>
      obtain ⟨p, vs, a1, a2, a3, a4, _⟩ := ok.own i ds e
      exact ⟨p, vs, ds, a1, a2, a3, a4, h⟩
    | io ds =>
      obtain ⟨_, p, vs, a0, a1, a2, a3⟩ := ok.ios i ds e
      exact ⟨p, vs, ds, a1, a2, a3, (ok.iod p a0).1, h⟩
    | un => exact h.elim
    | val _ => exact h.elim
    | scr _ => exact h.elim
    | dct _ => exact h.elim
    | nst _ => exact h.elim
theorem put_ok {c : Ct} {σ : St} {H F : Hp} {ρ : En} {i : Nat} {ds : List D} {vs' : List V} {p : Addr} {α : Type} {G : α → Hp → Hp → Prop} {f : Unit → M α} (ok : Ok K c σ H F ρ) (hp : σ[i]? = some (some (.ref p))) (hd : DpAll K F vs' ds)
    (h : post K W c σ F G (mBind (mPut i ds) f ρ)) : ∃ ρ', Ok K c σ (upd H p (.lst vs')) F ρ' ∧ post K W c σ F G (f () ρ') := by
  unfold mBind mPut at h
  cases e : ρ[i]? with
  | none => rw [e] at h; exact h.elim
  | some u =>
    rw [e] at h
    cases u with
    | own es => exact ⟨_, ok.change e p hp hd, h⟩
    | io es => exact ⟨_, ok.changeI e p hp hd, h⟩
    | un => exact h.elim
    | val _ => exact h.elim
    | scr _ => exact h.elim
    | dct _ => exact h.elim
    | nst _ => exact h.elim
theorem put_okG {c : Ct} {σ : St} {H F : Hp} {ρ : En} {i : Nat} {ds : List D} {vs' : List V} {p : Addr} {Q : St → Hp → Prop} (ok : Ok K c σ H F ρ) (hp : σ[i]? = some (some (.ref p))) (hd : DpAll K F vs' ds)
    (h : postG K W c F Q (mPut i ds ρ)) : Q σ (upd H p (.lst vs')) := by
  unfold mPut at h
  cases e : ρ[i]? with
  | none => rw [e] at h; exact h.elim
  | some u =>
    rw [e] at h
    cases u with
    | own es => exact h _ _ _ (ok.change e p hp hd) (Same.refl F)
    | io es => exact h _ _ _ (ok.changeI e p hp hd) (Same.refl F)
    | un => exact h.elim
    | val _ => exact h.elim
    | scr _ => exact h.elim
    | dct _ => exact h.elim
    | nst _ => exact h.elim
/-- x[k] = value, x a slot's own list -/
def setD : List D → D → D → Option (List D)
  | ds, .int k, d => (ixN ds.length k).map fun j => ds.set j d
  | _, _, _ => none
def gSet (i : Nat) (mk : M D) (d : D) : M Unit := mBind (mOwn i) fun _ => mBind mk fun k => mBind (mOwn i) fun ds => mBind (mLift (setD ds k d)) fun es => mPut i es
theorem dgSet {i : Nat} {o k : Expr} {mk : M D} (ho : PE X o (tVar i)) (hk : PE X k (tE X.K W mk))
    (ha : ∀ v, assign (.Subscript o k pos) X.env v = (do
      let ov ← holding [v] (eval o X.env)
      let iv ← holding [v, ov] (eval k X.env)
      standAt pos
      holding [v, ov, iv] (setItem ov iv v)
      release [v, ov, iv] []) := by exact fun _ => rfl) : PG X (.Subscript o k pos) (tG X.K W (gSet i mk)) := PG.imp (pg_sub ho hk set_list ha) (by
  rintro v σ H Q ⟨c, F, ρ, d, ok, r, h⟩
  obtain ⟨p, vs, ds, a1, a2, a3, a4, h⟩ := own_atG ok h
  refine ⟨.ref p, a1, c, F, ρ, ok, post_mono ?_ (postG_bind h)⟩
  rintro kd H1 F1 _ ⟨ρ1, ok1, s1, h1⟩ kv rk
  obtain ⟨p', vs1, ds1, b1, b2, b3, b4, h1⟩ := own_atG ok1 h1
  have ep : p' = p := by rw [a1] at b1; cases b1; rfl
  subst ep
  have h2 := postG_bind (σ := σ) h1
  obtain ⟨es, e, h3⟩ := post_lift h2
  obtain ⟨ρ2, ok2, s2, h4⟩ := h3 H1 F1 ok1 (Same.refl F1)
  cases kd with
  | int z =>
    cases rk
    have e : (ixN ds1.length z).map (fun j => ds1.set j d) = some es := e
    cases q : ixN ds1.length z with
    | none => rw [q] at e; cases e
    | some j =>
      rw [q] at e
      cases e
      refine ⟨p', vs1, z, j, rfl, rfl, b2, by rw [DpAll.length b3]; exact q, ?_⟩
      exact put_okG ok2 b1 (DpAll.set (Dp.mono s1 r) j b3) h4
  | none => cases e
  | bool _ => cases e
  | str _ => cases e
  | list _ => cases e
  | tuple _ => cases e
  | dict _ => cases e)
def mAsg (m : M D) (g : D → M Unit) : M Fl := mBind m fun d => mBind (g d) fun _ => mDone
theorem asg_of {Dn : Ends} {σ : St} {H : Hp} {g : D → M Unit} (h : tS K W (mAsg m g) Dn σ H) : tAsg (tE K W m) (tG K W g) Dn σ H := by
  obtain ⟨c, F, ρ, ok, h⟩ := h
  refine ⟨c, F, ρ, ok, post_mono ?_ (postS_bind h)⟩
  rintro d H1 F1 _ ⟨ρ1, ok1, s1, h1⟩ v rv
  refine ⟨c, F1, ρ1, d, ok1, rv, postG_mono ?_ (postS_bindG h1)⟩
  rintro σ2 H2 ⟨F2, ρ2, ok2, s2, h2⟩
  exact h2 σ2 H2 F2 ok2 (Same.refl F2)
theorem dAsg {g : D → M Unit} (he : PE X e (tE X.K W m)) (hg : PG X tg (tG X.K W g)) (hs : swapsWithSole [tg] e pos.line X.env = pure false := by rfl) (hw : swappedStores [tg] e X.env = pure none := by rfl)
    (h1 : (assignEach [tg] X.env).map (·.2) = [assign tg X.env] := by rfl) : PS X (.Assign [tg] e pos) (tS X.K W (mAsg m g)) := PS.imp (ps_asg he hg hs hw h1) fun _ _ _ => asg_of
/-- name = value -/
theorem dSet {i : Nat} {x : Str} {pos' : Pos} (hN : X.N.Nodup) (he : PE X e (tE X.K W m)) (hi : X.N[i]? = some x := by rfl) (hx : Loc X.env.scope x := by first | exact Or.inl rfl | exact Or.inr rfl) (hs : swapsWith e (some (.Name x pos')) pos.line X.env = pure false := by rfl)
    (hf : X.fn x = true ∨ X.env.scope.names.lookup x = some .local := by first | exact .inl rfl | exact .inr rfl) : PS X (.Assign [.Name x pos'] e pos) (tS X.K W (mAsg m (mStore i))) := PS.imp (ps_set hN hi hx he hs hf) (by
  rintro Dn σ H h
  obtain ⟨c, F, ρ, ok, h⟩ := h
  refine ⟨c, F, ρ, ok, post_mono ?_ (postS_bind h)⟩
  rintro d H1 F1 _ ⟨ρ1, ok1, s1, h1⟩ v rv
  have h2 := postS_bindG h1
  unfold mStore at h2
  split at h2
  · rename_i hl
    obtain ⟨F2, ρ2, ok2, s2, h3⟩ := h2 _ H1 F1 (ok1.setV hl rv) (Same.refl F1)
    exact h3 _ _ _ ok2 (Same.refl F2)
  · exact h2.elim)
/-- name = [..], its own -/
def mStoreO (i : Nat) (ds : List D) : M Unit := fun ρ => if i < ρ.length then some (.ok () (ρ.set i (.own ds))) else none
/-- name op= value -/
def mAug (i : Nat) (g : D → D → Option D) (m : M D) : M Fl := mBind (mPeek i) fun _ => mBind m fun b => mBind (mPeek i) fun a => mBind (mLift (g a b)) fun d => mBind (mStore i d) fun _ => mDone
theorem peekS {c : Ct} {σ : St} {H F : Hp} {ρ : En} {i : Nat} {Dn : Ends} {f : D → M Fl} (ok : Ok K c σ H F ρ) (h : postS K W c F Dn (mBind (mPeek i) f ρ)) : ∃ v d, σ[i]? = some (some v) ∧ Pk K H F v d ∧ postS K W c F Dn (f d ρ) := by
  unfold mBind mPeek at h
  cases e : ρ[i]? with
  | none => rw [e] at h; exact h.elim
  | some u =>
    rw [e] at h
    cases u with
    | un => exact h.elim
    | val d =>
      obtain ⟨v, a1, a2⟩ := ok.val i d e
      exact ⟨v, d, a1, .inl a2, h⟩
    | own ds =>
      obtain ⟨p, vs, a1, a2, a3, _⟩ := ok.own i ds e
      exact ⟨.ref p, _, a1, .inr ⟨p, vs, ds, rfl, rfl, a2, a3⟩, h⟩
    | io ds =>
      obtain ⟨_, p, vs, _, a1, a2, a3⟩ := ok.ios i ds e
      exact ⟨.ref p, _, a1, .inr ⟨p, vs, ds, rfl, rfl, a2, a3⟩, h⟩
    | scr ns => exact h.elim
    | dct _ => exact h.elim
    | nst _ => exact h.elim
theorem dAug {i : Nat} {x : Str} {op : Operator} {r : R2} {g : D → D → Option D} {pos' : Pos} (hN : X.N.Nodup) (ho : OpR X (inplaceOp op) r) (hd : OpD X.K r g) (he : PE X e (tE X.K W m)) (hi : X.N[i]? = some x := by rfl) (hx : Loc X.env.scope x := by first | exact Or.inl rfl | exact Or.inr rfl)
    (hf : X.fn x = true ∨ X.env.scope.names.lookup x = some .local := by first | exact .inl rfl | exact .inr rfl) : PS X (.AugAssign (.Name x pos') op e pos) (tS X.K W (mAug i g m)) := PS.imp (ps_aug hN hi hx he (ti := r) ho hf) (by
  rintro Dn σ H ⟨c, F, ρ, ok, h⟩
  obtain ⟨v, _, ev, _, h⟩ := peekS ok h
  refine ⟨v, ev, c, F, ρ, ok, post_mono ?_ (postS_bind h)⟩
  rintro b H1 F1 _ ⟨ρ1, ok1, s1, h1⟩ y ry
  obtain ⟨v', a, ev', pk, h2⟩ := peekS ok1 h1
  have ee : v' = v := by rw [ev] at ev'; cases ev'; rfl
  subst ee
  obtain ⟨d, e, h3⟩ := post_lift (postS_bind (σ := σ) h2)
  refine hd (W := W) ok1 pk (.inl ry) e ?_
  intro H2 F2 ok2' s2' z rz
  obtain ⟨ρ2, ok2, s2, h4⟩ := h3 H2 F2 ok2' s2'
  have h5 := postS_bindG h4
  unfold mStore at h5
  split at h5
  · rename_i hl
    obtain ⟨F3, ρ3, ok3, s3, h6⟩ := h5 _ H2 F2 (ok2.setV hl rz) (Same.refl F2)
    exact h6 _ _ _ ok3 (Same.refl F3)
  · exact h5.elim)
/-! ### methods that change a slot's own list -/
def MutD (K : PySem.W.Frag) (r : V → List V → Hp → VK → Prop) (g : List D → List D → Option (List D × D)) : Prop :=
  ∀ {H F : Hp} {l : Addr} {xs vs : List V} {ds as ds' : List D} {d : D} {Q : VK}, Same F H → F l = none → H l = some (.lst xs) → DpAll K F xs ds → DpAll K F vs as → g ds as = some (ds', d) →
    (∀ xs' v, DpAll K F xs' ds' → Dp K F v d → Q v (upd H l (.lst xs'))) → r (.ref l) vs H Q
def mMut (i : Nat) (g : List D → List D → Option (List D × D)) (ms : M (List D)) : M D := mBind (mOwn i) fun _ => mBind ms fun as => mBind (mOwn i) fun ds => mBind (mLift (g ds as)) fun q => mBind (mPut i q.1) fun _ => mPure q.2
theorem mut_of {i : Nat} {r : V → List V → Hp → VK → Prop} {g : List D → List D → Option (List D × D)} (hd : MutD K r g) {ms : M (List D)} {σ : St} {H : Hp} {Q : VK} (h : tE K W (mMut i g ms) σ H Q) : tBM K "list" r (tVar i) (tA K W ms) σ H Q := by
  obtain ⟨c, F, ρ, ok, h⟩ := h
  obtain ⟨p, vs, ds, a1, a2, a3, a4, h⟩ := own_at ok h
  refine ⟨.ref p, a1, .inl ⟨rfl, vs, SqL.of a2⟩, c, F, ρ, ok, post_mono ?_ (post_bind h)⟩
  rintro as H1 F1 _ ⟨ρ1, ok1, s1, h1⟩ ws rw'
  obtain ⟨p', vs1, ds1, b1, b2, b3, b4, h1⟩ := own_at ok1 h1
  have ep : p' = p := by rw [a1] at b1; cases b1; rfl
  subst ep
  obtain ⟨⟨ds', d⟩, e, h2⟩ := post_lift (post_bind h1)
  obtain ⟨ρ2, ok2, s2, h3⟩ := h2 H1 F1 ok1 (Same.refl F1)
  refine hd ok1.sub b4 b2 b3 rw' e fun xs' v dx dv => ?_
  obtain ⟨ρ3, ok3, h4⟩ := put_ok ok2 b1 dx h3
  exact h4 _ _ ok3 (Same.refl F1) v dv
def appD : List D → List D → Option (List D × D)
  | ds, [d] => if fit ds.length = true then some (ds ++ [d], .none) else none
  | _, _ => none
theorem mut_app : MutD K rAppend appD := by
  intro H F l xs vs ds as ds' d Q s hF hl hx hv e k
  cases hv with
  | nil => cases e
  | cons h t =>
    cases t with
    | cons _ _ => cases e
    | nil =>
      rename_i v0 d0
      have e : (if fit ds.length = true then some (ds ++ [d0], PyData.none) else none) = some (ds', d) := e
      by_cases hf : fit ds.length = true
      · rw [if_pos hf] at e
        cases e
        exact ⟨l, xs, _, rfl, rfl, hl, by rw [DpAll.length hx]; exact fit_lt hf, k _ _ (DpAll.append hx (.one h)) .non⟩
      · rw [if_neg hf] at e
        cases e
end
end Dd

namespace Dd
open PySem PySem.Spec L2
section
variable {X : Cx} {W : WX} {K : PySem.W.Frag} {e tg : Expr} {m : M D} {pos : Pos}
/-! ### what is walked -/
structure ItD (K : PySem.W.Frag) (F : Hp) (J : It) (ds : List D) : Prop where
  go : ∀ H i, Same F H → i < ds.length → J.go i H
  stop : ∀ H i, Same F H → ds.length ≤ i → J.stop i H
  yld : ∀ H i x H' d, Same F H → ds[i]? = some d → J.yld i H x H' → (H' = H ∧ Dp K F x d) ∨ (∃ T xs es, d = .tuple es ∧ x = .ref T ∧ H T = none ∧ H' = upd H T (.tup xs) ∧ DpAll K F xs es)
def tI (K : PySem.W.Frag) (W : WX) (m : M (List D)) : TI := fun σ H R => ∃ c F ρ, Ok K c σ H F ρ ∧ post K W c σ F (fun ds H1 F1 => ∀ J, ItD K F1 J ds → R J H1) (m ρ)
/-- a list or a tuple -/
def iSeq (K : PySem.W.Frag) (tl : TE) : TI := fun σ H R => tl σ H fun x H1 => ∃ a, x = .ref a ∧ (((∃ xs, SqL K H1 a xs) ∧ R (Itl K a) H1) ∨ ((∃ xs, SqT K H1 a xs) ∧ R (Itt K a) H1))
theorem pi_seq {l : Expr} {tl : TE} (hl : PE X l tl) : PI X tg l (iSeq X.K tl) := by
  refine ⟨fun pins s σ H R I h => ?_⟩
  refine thn (hl.run pins s σ H _ I h) fun v s1 ⟨x, H1, I1, r1, q1⟩ => ?_
  obtain ⟨a, e, ⟨⟨xs, hq⟩, q⟩ | ⟨⟨xs, hq⟩, q⟩⟩ := q1
  · subst e
    cases r1
    obtain ⟨its, rv, p, hz⟩ := I1.list hq
    refine wpAny_pyIter_list p.isList ?_
    refine ⟨s1.heap.objs.size, [s1.heap.objs.size], _, _, H1, rfl, I1.kept (t' := s1.toks) fun b o e => Heap.get?_push_of_some _ e, turn_list a _, ⟨_, Heap.get?_push_size _ rfl, rfl, rfl⟩, fun b hb => ?_, q⟩
    have e : b = s1.heap.objs.size := by simpa using hb
    subst e
    exact I1.fpOk (Nat.le_refl _) (I1.hok.fresh (Nat.le_refl _))
  · subst e
    cases r1
    obtain ⟨its, rv, p, hz⟩ := I1.tuple hq
    refine wpAny_pyIter_tuple (show s1.heap.IsTuple a its.toArray from p) ?_
    refine ⟨s1.heap.objs.size, [s1.heap.objs.size], _, _, H1, rfl, I1.kept (t' := s1.toks) fun b o e => Heap.get?_push_of_some _ e, turn_tuple a _, ⟨_, Heap.get?_push_size _ rfl, rfl, rfl⟩, fun b hb => ?_, q⟩
    have e : b = s1.heap.objs.size := by simpa using hb
    subst e
    exact I1.fpOk (Nat.le_refl _) (I1.hok.fresh (Nat.le_refl _))
/-- a value that is walked: a list's, a tuple's items -/
def itemsD : D → Option (List D)
  | .list ds => some ds
  | .tuple ds => some ds
  | _ => none
def mItems (m : M D) : M (List D) := mBind m fun d => mLift (itemsD d)
end
section
variable {X : Cx} {W : WX} {K : PySem.W.Frag} {e tg : Expr} {m : M D} {pos : Pos}
/-- two readings of one sequence agree: by the machine's own heap -/
theorem itl_D {F : Hp} {a : Addr} {xs : List V} {ds : List D} (h : Rd F a (.lst xs)) (hd : DpAll K F xs ds) : ItD K F (Itl K a) ds where
  go := fun H i s hi => by
    obtain ⟨x, q⟩ : ∃ x, xs[i]? = some x := ⟨xs[i]'(by rw [DpAll.length hd]; exact hi), by simp⟩
    exact ⟨xs, x, .inl (Rd.mono s h), q⟩
  stop := fun H i s hi => ⟨xs, .inl (Rd.mono s h), by rw [DpAll.length hd]; exact hi⟩
  yld := fun H i x H' d s q y => by
    obtain ⟨e, y⟩ := y
    obtain ⟨v, q1, q2⟩ := DpAll.getd hd q
    have q3 := y xs (.inl (Rd.mono s h))
    rw [q3] at q1
    cases q1
    exact .inl ⟨e, q2⟩
theorem itt_D {F : Hp} {a : Addr} {xs : List V} {ds : List D} (h : SqT K F a xs) (hd : DpAll K F xs ds) : ItD K F (Itt K a) ds where
  go := fun H i s hi => by
    obtain ⟨x, q⟩ : ∃ x, xs[i]? = some x := ⟨xs[i]'(by rw [DpAll.length hd]; exact hi), by simp⟩
    exact ⟨xs, x, SqT.mono s h, q⟩
  stop := fun H i s hi => ⟨xs, SqT.mono s h, by rw [DpAll.length hd]; exact hi⟩
  yld := fun H i x H' d s q y => by
    obtain ⟨e, y⟩ := y
    obtain ⟨v, q1, q2⟩ := DpAll.getd hd q
    have q3 := y xs (SqT.mono s h)
    rw [q3] at q1
    cases q1
    exact .inl ⟨e, q2⟩
theorem diSeq (he : PE X e (tE X.K W m)) : PI X tg e (tI X.K W (mItems m)) := PI.imp (pi_seq he) (by
  rintro σ H R ⟨c, F, ρ, ok, h⟩
  refine ⟨c, F, ρ, ok, post_mono ?_ (post_bind h)⟩
  rintro d H1 F1 _ ⟨ρ1, ok1, s1, h1⟩ v rv
  obtain ⟨ds, e, h2⟩ := post_lift h1
  unfold itemsD at e
  split at e
  · cases e
    cases rv with
    | lst hr hd => exact ⟨_, rfl, .inl ⟨⟨_, .inl (Rd.mono ok1.sub hr)⟩, h2 H1 F1 ok1 (Same.refl F1) _ (itl_D hr hd)⟩⟩
  · cases e
    cases rv with
    | tup hr hd => exact ⟨_, rfl, .inr ⟨⟨_, SqT.mono ok1.sub hr⟩, h2 H1 F1 ok1 (Same.refl F1) _ (itt_D hr hd)⟩⟩
  · cases e)
/-- range -/
def rngL (lo hi : Int) : List D := (List.range (hi - lo).toNat).map fun i => .int (lo + (i : Nat))
def rngOk (i : Int) : Bool := decide (i.natAbs < 4611686018427387904)
def rngD1 : List D → Option (List D)
  | [.int j] => if rngOk j = true then some (rngL 0 j) else none
  | _ => none
def rngD2 : List D → Option (List D)
  | [.int i, .int j] => if (rngOk i && rngOk j) = true then some (rngL i j) else none
  | _ => none
theorem rngL_get {lo hi : Int} {i : Nat} {d : D} (h : (rngL lo hi)[i]? = some d) : d = .int (lo + (i : Nat)) ∧ i < (hi - lo).toNat := by
  unfold rngL at h
  rw [List.getElem?_map] at h
  by_cases q : i < (hi - lo).toNat
  · rw [List.getElem?_range q] at h
    cases h
    exact ⟨rfl, q⟩
  · rw [List.getElem?_eq_none (by simpa using q)] at h
    cases h
theorem rngL_length (lo hi : Int) : (rngL lo hi).length = (hi - lo).toNat := by simp [rngL]
theorem itr_D {F : Hp} {lo hi : Int} : ItD K F (Itr lo (hi - lo).toNat) (rngL lo hi) where
  go := fun H i s hi => by rw [rngL_length] at hi; exact hi
  stop := fun H i s hi => by rw [rngL_length] at hi; exact hi
  yld := fun H i x H' d s q y => by
    obtain ⟨e1, e2⟩ := y
    obtain ⟨e3, _⟩ := rngL_get q
    subst e1 e2 e3
    exact .inl ⟨rfl, .int _⟩
def mRng1 (ms : M (List D)) : M (List D) := mBind ms fun ds => mLift (rngD1 ds)
def mRng2 (ms : M (List D)) : M (List D) := mBind ms fun ds => mLift (rngD2 ds)
variable {a b : Expr} {ms : M (List D)} {p : Pos}
theorem rngOk_of {i : Int} (h : rngOk i = true) : -(2 ^ 62) ≤ i ∧ i < 2 ^ 62 := by
  unfold rngOk at h
  have h := of_decide_eq_true h
  exact ⟨by omega, by omega⟩
theorem diRng1 (hm : X.mg "range" = none) (ha : PA X [a] (tA X.K W ms)) (hg : Gl X "range" := by rfl) (hs : starEach [a] X.env = [(false, eval a X.env)] := by rfl) : PI X tg (.Call (.Name "range" p) [a] [] pos) (tI X.K W (mRng1 ms)) := PI.imp (pi_range1 hg hm ha hs) (by
  rintro σ H R ⟨c, F, ρ, ok, h⟩
  refine ⟨c, F, ρ, ok, post_mono ?_ (post_bind h)⟩
  rintro ds H1 F1 _ ⟨ρ1, ok1, s1, h1⟩ vs rv
  obtain ⟨out, e, h2⟩ := post_lift h1
  unfold rngD1 at e
  split at e
  · rename_i j
    split at e
    · rename_i hb
      cases e
      cases rv with
      | cons r t =>
        cases t
        cases r
        obtain ⟨b1, b2⟩ := rngOk_of hb
        refine ⟨j, rfl, b1, b2, h2 H1 F1 ok1 (Same.refl F1) _ ?_⟩
        have q := itr_D (K := X.K) (F := F1) (lo := 0) (hi := j)
        rw [Int.sub_zero] at q
        exact q
    · cases e
  · cases e)
variable {elts : List Expr} {kk : Nat} {tpos : Pos}
end
/-! ### for, while -/
def mForL (g : D → M Unit) (body : M Fl) : List D → M Fl
  | [] => mPure .nx
  | d :: ds => mBind (g d) fun _ => mBind body fun f => match f with
    | .nx => mForL g body ds
    | .ct => mForL g body ds
    | .bk => mPure .nx
    | o => mPure o
def mFor (mi : M (List D)) (g : D → M Unit) (body : M Fl) : M Fl := mBind mi fun ds => mForL g body ds
section
variable {X : Cx} {W : WX} {K : PySem.W.Frag} {e tg : Expr} {pos : Pos}
theorem yld_ok {c : Ct} {σ : St} {H F : Hp} {ρ : En} {J : It} {ds : List D} {i : Nat} {x : V} {H' : Hp} {d : D} (ok : Ok K c σ H F ρ) (hJ : ∀ H x H' d, Same F H → ds[i]? = some d → J.yld i H x H' → (H' = H ∧ Dp K F x d) ∨ (∃ T xs es, d = .tuple es ∧ x = .ref T ∧ H T = none ∧ H' = upd H T (.tup xs) ∧ DpAll K F xs es)) (e : ds[i]? = some d) (y : J.yld i H x H') :
    ∃ F', Ok K c σ H' F' ρ ∧ Same F F' ∧ Dp K F' x d := by
  rcases hJ H x H' d ok.sub e y with ⟨rfl, r⟩ | ⟨T, xs, es, rfl, rfl, hT, rfl, r⟩
  · exact ⟨F, ok, Same.refl F, r⟩
  · have s : Same F (upd F T (.tup xs)) := Same.updN (ok.new hT).1
    exact ⟨_, ok.alloc hT, s, .tup (SqT.of upd_same) (DpAll.mono s r)⟩
theorem ItD.mono {F F' : Hp} {J : It} {ds : List D} (s : Same F F') (h : ItD K F J ds) : ∀ (i : Nat) H x H' d, Same F' H → ds[i]? = some d → J.yld i H x H' → (H' = H ∧ Dp K F' x d) ∨ (∃ T xs es, d = .tuple es ∧ x = .ref T ∧ H T = none ∧ H' = upd H T (.tup xs) ∧ DpAll K F' xs es) := fun i H x H' d s' e y => by
  rcases h.yld H i x H' d (s.trans s') e y with ⟨a1, a2⟩ | ⟨T, xs, es, a1, a2, a3, a4, a5⟩
  · exact .inl ⟨a1, Dp.mono s a2⟩
  · exact .inr ⟨T, xs, es, a1, a2, a3, a4, DpAll.mono s a5⟩
theorem for_post {c : Ct} {F : Hp} {Dn : Ends} {ρ : En} {mb rest : M Fl} {N : St → Hp → Prop} (h : postS K W c F Dn (mBind mb (fun f => match f with
    | .nx => rest
    | .ct => rest
    | .bk => mPure .nx
    | o => mPure o) ρ)) (hN : ∀ σ' H' F' ρ', Ok K c σ' H' F' ρ' → Same F F' → postS K W c F' Dn (rest ρ') → N σ' H') : postS K W c F { Dn with nx := N, ct := N, bk := Dn.nx } (mb ρ) := by
  unfold mBind at h
  cases e : mb ρ with
  | none => rw [e] at h; exact h
  | some r =>
    rw [e] at h
    cases r with
    | ex x ρ1 => exact h
    | ok f ρ1 =>
      cases f with
      | nx => exact fun σ' H' F' ok s => hN σ' H' F' ρ1 ok s (postS_weak s h)
      | ct => exact fun σ' H' F' ok s => hN σ' H' F' ρ1 ok s (postS_weak s h)
      | bk => exact h
      | rt d => exact h
      | rf ds => exact h
theorem dFor {iter : Expr} {body : List Stmt} {mi : M (List D)} {g : D → M Unit} {mb : M Fl} (hp : PassesOwn (model X.prog X.w) X.A X.env X.xe) (hc : X.calm = true) (hi : PI X tg iter (tI X.K W mi)) (hg : PG X tg (tG X.K W g)) (hb : PSs X body (tS X.K W mb))
    (hs : ∀ x, foldedSetIterable iter X.env x = pure x := by exact fun _ => rfl) : PS X (.For tg iter body [] pos) (tS X.K W (mFor mi g mb)) := PS.imp (ps_for hp hc hi hg hb hs) (by
  rintro Dn σ H ⟨c, F, ρ, ok, h⟩
  refine ⟨c, F, ρ, ok, post_mono ?_ (postS_bind h)⟩
  rintro ds H1 F1 _ ⟨ρ1, ok1, s1, h1⟩ J hJ
  refine ⟨fun i n σ' H' => i + n = ds.length ∧ ∃ F' ρ', Ok X.K c σ' H' F' ρ' ∧ Same F1 F' ∧ postS X.K W c F' Dn (mForL g mb (ds.drop i) ρ'), ⟨ds.length, by omega, F1, ρ1, ok1, Same.refl F1, h1⟩, ?_⟩
  rintro i n σ' H' ⟨en, F', ρ', ok', s', h'⟩
  by_cases hi : i < ds.length
  · obtain ⟨d, ed⟩ : ∃ d, ds[i]? = some d := ⟨ds[i], List.getElem?_eq_getElem hi⟩
    have edr : ds.drop i = d :: ds.drop (i + 1) := by
      rw [List.drop_eq_getElem_cons hi]
      have := List.getElem?_eq_getElem hi
      rw [ed] at this
      rw [Option.some.inj this]
    rw [edr] at h'
    refine .inr ⟨hJ.go H' i (s'.trans ok'.sub) hi, fun σ3 H3 => ∃ F3 ρ3, Ok X.K c σ3 H3 F3 ρ3 ∧ Same F1 F3 ∧ postS X.K W c F3 Dn (mForL g mb (ds.drop (i + 1)) ρ3), fun σ3 H3 w => ⟨n - 1, by omega, by omega, w⟩, fun x H2 y => ?_⟩
    obtain ⟨F2, ok2, s2, r2⟩ := yld_ok ok' (hJ.mono s' i) ed y
    refine ⟨c, F2, ρ', d, ok2, r2, postG_mono ?_ (postG_weak s2 (postS_bindG h'))⟩
    rintro σ4 H4 ⟨F4, ρ4, ok4, s4, h4⟩
    exact ⟨c, F4, ρ4, ok4, for_post h4 fun σ5 H5 F5 ρ5 ok5 s5 h5 => ⟨F5, ρ5, ok5, (s'.trans s4).trans s5, h5⟩⟩
  · have ei : ds.drop i = [] := List.drop_eq_nil_of_le (by omega)
    rw [ei] at h'
    exact .inl ⟨hJ.stop H' i (s'.trans ok'.sub) (by omega), h' σ' H' F' ok' (Same.refl F')⟩)
end
end Dd

namespace Dd
open PySem PySem.Spec L2
/-! ### while -/
def mWhileN (c : M Bool) (body : M Fl) : Nat → M Fl
  | 0 => mStuck
  | n + 1 => mBind c fun k => if k = true then mBind body fun f => match f with
    | .nx => mWhileN c body n
    | .ct => mWhileN c body n
    | .bk => mPure .nx
    | o => mPure o
    else mPure .nx
def mWhile (fuel : En → Nat) (c : M Bool) (body : M Fl) : M Fl := fun ρ => mWhileN c body (fuel ρ) ρ
section
variable {X : Cx} {W : WX} {K : PySem.W.Frag} {e tg : Expr} {pos : Pos}
theorem dWhile {cnd : Expr} {body : List Stmt} {mc : M Bool} {mb : M Fl} {fuel : En → Nat} (hp : PassesOwn (model X.prog X.w) X.A X.env X.xe) (hc : PT X cnd (tT X.K W mc)) (hb : PSs X body (tS X.K W mb)) : PS X (.While cnd body [] pos) (tS X.K W (mWhile fuel mc mb)) := PS.imp (ps_while hp hc hb) (by
  rintro Dn σ H ⟨c, F, ρ, ok, h⟩
  refine ⟨fun n σ' H' => ∃ F' ρ', Ok X.K c σ' H' F' ρ' ∧ Same F F' ∧ postS X.K W c F' Dn (mWhileN mc mb n ρ'), ⟨fuel ρ, F, ρ, ok, Same.refl F, h⟩, ?_⟩
  rintro n σ' H' ⟨F', ρ', ok', s', h'⟩
  cases n with
  | zero => exact h'.elim
  | succ n =>
    refine ⟨c, F', ρ', ok', post_mono ?_ (postS_bind h')⟩
    rintro k H1 F1 _ ⟨ρ1, ok1, s1, h1⟩
    cases k with
    | false => exact h1 σ' H1 F1 ok1 (Same.refl F1)
    | true =>
      refine ⟨fun σ3 H3 => ∃ F3 ρ3, Ok X.K c σ3 H3 F3 ρ3 ∧ Same F F3 ∧ postS X.K W c F3 Dn (mWhileN mc mb n ρ3), fun σ3 H3 w => ⟨n, Nat.lt_succ_self n, w⟩, ?_⟩
      exact ⟨c, F1, ρ1, ok1, for_post h1 fun σ5 H5 F5 ρ5 ok5 s5 h5 => ⟨F5, ρ5, ok5, (s'.trans s1).trans s5, h5⟩⟩)
/-! ### comprehensions -/
def WF : WX := fun _ _ _ _ => False
/-- the stores of a comprehension's target: one name, or a tuple of names -/
def unsE (ρ : En) : List Nat → En
  | [] => ρ
  | i :: is => (unsE ρ is).set i .un
def mUn_ (vs : List Nat) : M Unit := fun ρ => some (.ok () (unsE ρ vs))
theorem unsE_length (ρ : En) : ∀ vs, (unsE ρ vs).length = ρ.length
  | [] => rfl
  | v :: vs => by unfold unsE; rw [List.length_set, unsE_length ρ vs]
theorem ok_wipe {c : Ct} {σ : St} {H F : Hp} {ρ : En} (ok : Ok K c σ H F ρ) : ∀ vs : List Nat, Ok K c (wipe σ vs) H F (unsE ρ vs)
  | [] => ok
  | v :: vs => by
    have ok' := ok_wipe ok vs
    unfold wipe unsE
    by_cases h : v < (unsE ρ vs).length
    · exact ok'.setU h
    · have h1 : (unsE ρ vs).set v .un = unsE ρ vs := List.set_eq_of_length_le (by omega)
      have h2 : (wipe σ vs).set v none = wipe σ vs := List.set_eq_of_length_le (by rw [ok'.len]; omega)
      rw [h1, h2]; exact ok'
theorem unsE_at {ρ : En} {i : Nat} : ∀ {vs : List Nat}, i ∈ vs → (unsE ρ vs)[i]? = some .un ∨ (unsE ρ vs)[i]? = none
  | v :: vs, h => by
    unfold unsE
    by_cases e : v = i
    · subst e
      by_cases hl : v < (unsE ρ vs).length
      · left; simp [hl]
      · right; simp only [List.getElem?_eq_none_iff, List.length_set]; omega
    · rw [List.getElem?_set_ne e]
      exact unsE_at (by cases h with
        | head => exact absurd rfl e
        | tail _ h => exact h)
/-- nothing is known of the wiped slots: they may be what they were -/
theorem ok_unwipe {c : Ct} {σ : St} {H F : Hp} {ρ : En} {vs : List Nat} (ok : Ok K c (wipe σ vs) H F (unsE ρ vs)) : Ok K c σ H F (unsE ρ vs) := by
  have out : ∀ {i : Nat} {u : Sl}, (unsE ρ vs)[i]? = some u → u ≠ .un → (wipe σ vs)[i]? = σ[i]? := fun {i u} e n => by
    by_cases h : i ∈ vs
    · rcases unsE_at (ρ := ρ) h with q | q
      · rw [q] at e; exact absurd (Option.some.inj e).symm n
      · rw [q] at e; cases e
    · exact wipe_out h
  refine ⟨by rw [← ok.len, wipe_length], ok.sub, ok.ge, ok.fe, ok.keep, ok.iod, ok.prt, fun i d e => ?_, fun i ds e => ?_, fun i ds e => ?_, fun i ns e => ?_, fun i j ds es p a b x y => ?_, ok.dcs.sub (fun i kvs e => ⟨e, (out e (by intro z; cases z)).symm⟩) (fun i kvs e => ⟨e, (out e (by intro z; cases z)).symm⟩) fun j es q e y x => ok.dcs.xown e (by rw [out e (by intro z; cases z)]; exact y) x⟩
  · obtain ⟨v, a1, a2⟩ := ok.val i d e
    exact ⟨v, by rw [← out e (by intro z; cases z)]; exact a1, a2⟩
  · obtain ⟨p, w, a1, a2⟩ := ok.own i ds e
    exact ⟨p, w, by rw [← out e (by intro z; cases z)]; exact a1, a2⟩
  · obtain ⟨z, p, w, a0, a1, a2⟩ := ok.ios i ds e
    exact ⟨z, p, w, a0, by rw [← out e (by intro z; cases z)]; exact a1, a2⟩
  · obtain ⟨z, p, a1, a2⟩ := ok.scr i ns e
    exact ⟨z, p, by rw [← out e (by intro z; cases z)]; exact a1, a2⟩
  · exact ok.sep i j ds es p a b (by rw [out a (by intro z; cases z)]; exact x) (by rw [out b (by intro z; cases z)]; exact y)
theorem unsE_self {ρ : En} : ∀ {vs : List Nat}, unsE (unsE ρ vs) vs = unsE ρ vs := fun {vs} => by
  apply List.ext_getElem?
  intro i
  by_cases h : i ∈ vs
  · rcases unsE_at (ρ := unsE ρ vs) h with q | q <;> rcases unsE_at (ρ := ρ) h with q' | q' <;> rw [q, q']
    · have := List.getElem?_eq_none_iff.mp q'
      have h2 : i < (unsE (unsE ρ vs) vs).length := by
        rcases Nat.lt_or_ge i (unsE (unsE ρ vs) vs).length with z | z
        · exact z
        · rw [List.getElem?_eq_none z] at q; cases q
      rw [unsE_length] at h2
      omega
    · have := List.getElem?_eq_none_iff.mp q
      rw [unsE_length] at this
      have h2 : i < (unsE ρ vs).length := by
        rcases Nat.lt_or_ge i (unsE ρ vs).length with z | z
        · exact z
        · rw [List.getElem?_eq_none z] at q'; cases q'
      omega
  · have o : ∀ (ρ : En) (vs : List Nat), i ∉ vs → (unsE ρ vs)[i]? = ρ[i]? := fun ρ vs => by
      induction vs with
      | nil => intro _; rfl
      | cons v vs ih =>
        intro h
        unfold unsE
        rw [List.getElem?_set_ne (fun z => h (by rw [z]; exact List.mem_cons_self)), ih fun z => h (List.mem_cons_of_mem _ z)]
    rw [o _ _ h]
/-- the target of a comprehension's for: where it stores, and that it stores nowhere else -/
structure CTg (K : PySem.W.Frag) (vs : List Nat) (g : TG) (gD : D → M Unit) : Prop where
  run : ∀ {c : Ct} {σ : St} {H F : Hp} {ρ : En} {v : V} {d : D} {u : Unit} {ρ' : En} {Q : St → Hp → Prop}, Ok K c σ H F ρ → Dp K F v d → gD d ρ = some (.ok u ρ') →
    (∀ σ', Ok K c σ' H F ρ' → wipe σ' vs = wipe σ vs → Q σ' H) → g v σ H Q
theorem wipe_set {σ : St} {i : Nat} {v : Option V} : ∀ {vs : List Nat}, i ∈ vs → wipe (σ.set i v) vs = wipe σ vs := fun {vs} h => by
  have o : ∀ (vs : List Nat) (σ : St), (wipe (σ.set i v) vs) = (wipe σ vs).set i v ∨ i ∈ vs := fun vs => by
    induction vs with
    | nil => intro σ; exact .inl rfl
    | cons w vs ih =>
      intro σ
      by_cases e : i = w
      · exact .inr (e ▸ List.mem_cons_self)
      · rcases ih σ with q | q
        · left; unfold wipe; rw [q, List.set_comm _ _ e]
        · exact .inr (List.mem_cons_of_mem _ q)
  induction vs with
  | nil => cases h
  | cons w vs ih =>
    unfold wipe
    by_cases e : i = w
    · subst e
      by_cases h' : i ∈ vs
      · rw [ih h']
      · rcases o vs σ with q | q
        · rw [q, List.set_set]
        · exact absurd q h'
    · have h' : i ∈ vs := by cases h with
        | head => exact absurd rfl e
        | tail _ h => exact h
      rw [ih h']
theorem ctName {vs : List Nat} {i : Nat} (h : i ∈ vs) : CTg K vs (gName i) (mStore i) := ⟨fun {c σ H F ρ v d u ρ' Q} ok r e k => by
  unfold mStore at e
  split at e
  · rename_i hl
    cases e
    exact k _ (ok.setV hl r) (wipe_set h)
  · cases e⟩
def mGo (vs : List Nat) (g : D → M Unit) (tt : M Bool) (te : M D) : List D → M (List D)
  | [] => mPure []
  | d :: ds => mBind (g d) fun _ => mBind tt fun k => mBind (if k = true then mBind te fun y => mPure [y] else mPure []) fun es => mBind (mUn_ vs) fun _ => mBind (mGo vs g tt te ds) fun rest => mPure (es ++ rest)
/-- nothing is raised out of a comprehension -/
def mRest (vs : List Nat) (g : D → M Unit) (tt : M Bool) (te : M D) (ds : List D) : M (List D) := fun ρ => match mGo vs g tt te ds (unsE ρ vs) with
  | some (.ok out ρe) => if fit ds.length = true then some (.ok out (unsE ρe vs)) else none
  | _ => none
def mComp (vs : List Nat) (mi : M (List D)) (g : D → M Unit) (tt : M Bool) (te : M D) : M (List D) := mBind mi (mRest vs g tt te)
theorem wipe_wipe {σ : St} {vs : List Nat} : wipe (wipe σ vs) vs = wipe σ vs := by
  have o : ∀ (ws : List Nat), (∀ i ∈ ws, i ∈ vs) → wipe (wipe σ ws) vs = wipe σ vs := fun ws => by
    induction ws with
    | nil => intro _; rfl
    | cons w ws ih =>
      intro h
      show wipe ((wipe σ ws).set w none) vs = _
      rw [wipe_set (h w List.mem_cons_self), ih fun i hi => h i (List.mem_cons_of_mem _ hi)]
  exact o vs fun _ h => h
/-- the heart: the loop of a comprehension, the new list kept apart -/
theorem comp_core {mi : M (List D)} {vs : List Nat} {g : TG} {gD : D → M Unit} {mt : M Bool} {me : M D} (hg : CTg K vs g gD) {σ : St} {H : Hp} {Q : VK}
    {tt : TT} (ht : ∀ σ H Q, tT K WF mt σ H Q → tt σ H Q) {c : Ct} {F : Hp} {ρ : En} (ok : Ok K c σ H F ρ)
    (h : post K W c σ F (fun ds H1 F1 => ∃ ρ1, Ok K c σ H1 F1 ρ1 ∧ fit ds.length = true ∧ ∃ out ρe, mGo vs gD mt me ds (unsE ρ1 vs) = some (.ok out ρe) ∧
      ∀ p acc H2 F2, c.pr p = none → Ok K (c.put p (.lst acc)) σ H2 F2 (unsE ρe vs) → Same F1 F2 → DpAll K F2 acc out → Q (.ref p) H2) (mi ρ)) : tLc (tI K W mi) g tt (tE K WF me) vs σ H Q := by
  refine ⟨c, F, ρ, ok, post_mono ?_ h⟩
  rintro ds H1 F1 _ ⟨ρ1, ok1, hf, out, ρe, hgo, k⟩ J hJ p hp
  have hpr : c.pr p = none := (ok1.new hp).2.2.1
  refine ⟨fun i n H => i + n = ds.length ∧ ∃ acc o1 F2 ρ2 rest, Ok K (c.put p (.lst acc)) (wipe σ vs) H F2 (unsE ρ2 vs) ∧ Same F1 F2 ∧ DpAll K F2 acc o1 ∧ o1.length ≤ i ∧ mGo vs gD mt me (ds.drop i) (unsE ρ2 vs) = some (.ok rest ρe) ∧ out = o1 ++ rest,
    ⟨ds.length, by omega, [], [], F1, ρ1, out, ok_wipe (ok1.allocP hp) vs, Same.refl F1, .nil, Nat.le_refl _, hgo, rfl⟩, ?_⟩
  rintro i n H2 ⟨en, acc, o1, F2, ρ2, rest, ok2, s2, da, hl, hgo2, eo⟩
  by_cases hi : i < ds.length
  · obtain ⟨d, ed⟩ : ∃ d, ds[i]? = some d := ⟨ds[i], List.getElem?_eq_getElem hi⟩
    have edr : ds.drop i = d :: ds.drop (i + 1) := by
      rw [List.drop_eq_getElem_cons hi]
      have := List.getElem?_eq_getElem hi
      rw [ed] at this
      rw [Option.some.inj this]
    rw [edr] at hgo2
    obtain ⟨_, ρa, e1, g1⟩ := bind_ok hgo2
    obtain ⟨b, ρb, e2, g2⟩ := bind_ok g1
    obtain ⟨es, ρc, e3, g3⟩ := bind_ok g2
    obtain ⟨_, ρd, e4, g4⟩ := bind_ok g3
    obtain ⟨rest', ρf, e5, g5⟩ := bind_ok g4
    cases e4
    cases g5
    have hz : acc.length < sizeLine := by
      rw [DpAll.length da]
      have := of_decide_eq_true hf
      rw [sizeLine_eq]; omega
    refine .inr ⟨hJ.go H2 i (s2.trans ok2.sub) hi, fun H' => ∃ acc o1 F2 ρ2 rest, Ok K (c.put p (.lst acc)) (wipe σ vs) H' F2 (unsE ρ2 vs) ∧ Same F1 F2 ∧ DpAll K F2 acc o1 ∧ o1.length ≤ i + 1 ∧ mGo vs gD mt me (ds.drop (i + 1)) (unsE ρ2 vs) = some (.ok rest ρe) ∧ out = o1 ++ rest,
      fun H' w => ⟨n - 1, by omega, by omega, w⟩, fun x H' y => ?_⟩
    obtain ⟨F3, ok3, s3, r3⟩ := yld_ok ok2 (hJ.mono s2 i) ed y
    refine hg.run ok3 r3 e1 fun σ' ok4 hw => ?_
    rw [wipe_wipe] at hw
    refine ⟨hw, ht _ _ _ ⟨_, F3, ρa, ok4, ?_⟩⟩
    rw [e2]
    intro H5 F5 ok5 s5
    cases b with
    | false =>
      rw [if_neg (by decide)] at e3
      cases e3
      refine iteF ?_
      refine ⟨acc, o1, F5, ρb, rest', ?_, (s2.trans s3).trans s5, DpAll.mono (s3.trans s5) da, by omega, e5, by rw [eo]; rfl⟩
      have q := ok_wipe ok5 vs
      rw [hw] at q
      exact q
    | true =>
      rw [if_pos rfl] at e3
      obtain ⟨yd, ρy, e6, e7⟩ := bind_ok e3
      cases e7
      refine iteT ?_
      refine ⟨_, F5, ρb, ok5, ?_⟩
      rw [e6]
      intro H6 F6 ok6 s6 v rv
      refine ⟨acc, (ok6.prt p _ upd_same).1, hz, acc ++ [v], o1 ++ [yd], F6, _, rest', ?_, ((s2.trans s3).trans s5).trans s6, DpAll.append (DpAll.mono ((s3.trans s5).trans s6) da) (.one rv), by rw [List.length_append]; exact Nat.succ_le_succ hl, e5, by rw [eo]; simp⟩
      have q := ok_wipe (ok6.putP (o' := .lst (acc ++ [v]))) vs
      rw [hw] at q
      exact q
  · have ei : ds.drop i = [] := List.drop_eq_nil_of_le (by omega)
    rw [ei] at hgo2
    cases hgo2
    refine .inl ⟨hJ.stop H2 i (s2.trans ok2.sub) (by omega), ?_⟩
    rw [List.append_nil] at eo
    subst eo
    refine k p acc H2 F2 hpr ?_ s2 da
    rw [unsE_self]
    exact ok_unwipe ok2
theorem tYes_of {σ : St} {H : Hp} {Q : Bool → Hp → Prop} (h : tT K WF (mPure true) σ H Q) : tYes σ H Q := by
  obtain ⟨c, F, ρ, ok, h⟩ := h
  exact h H F ok (Same.refl F)
end
end Dd

namespace Dd
open PySem PySem.Spec L2
/-! ### what a def promises -/
structure Ext (F H F' H' : Hp) : Prop where
  ff : Same F F'
  fh : Same F' H'
  fe : ∀ b o, F' b = some o → F b = some o ∨ H b = none
  hh : Same H H'
structure ExtB (p : Addr) (F H F' H' : Hp) : Prop where
  ff : Same F F'
  fh : Same F' H'
  fe : ∀ b o, F' b = some o → F b = some o ∨ H b = none
  hh : ∀ b o, b ≠ p → H b = some o → H' b = some o
  fp : F' p = none
abbrev Rs (α : Type) := Except Ex α
def spV (K : PySem.W.Frag) (n : Nat) (f : List D → Option (Rs D)) : Sp := fun vs H Q E => ∃ F ds, Same F H ∧ DpAll K F vs ds ∧ ds.length = n ∧ match f ds with
  | none => False
  | some (.ok d) => ∀ v F' H', Ext F H F' H' → Dp K F' v d → Q v H'
  | some (.error e) => ∀ cls x F' H', Ext F H F' H' → ExR K e cls x F' H' → E cls x H'
def spB (K : PySem.W.Frag) (n : Nat) (f : List D → List D → Option (Rs D × List D)) : Sp := fun vs H Q E => ∃ F p bs0 bs rest ds, vs = .ref p :: rest ∧ Same F H ∧ F p = none ∧ H p = some (.lst bs0) ∧ DpAll K F bs0 bs ∧ DpAll K F rest ds ∧ ds.length + 1 = n ∧ match f bs ds with
  | none => False
  | some (.ok d, bs') => ∀ v bs1 F' H', ExtB p F H F' H' → H' p = some (.lst bs1) → DpAll K F' bs1 bs' → Dp K F' v d → Q v H'
  | some (.error e, bs') => ∀ cls x bs1 F' H', ExtB p F H F' H' → H' p = some (.lst bs1) → DpAll K F' bs1 bs' → ExR K e cls x F' H' → E cls x H'
def spS (K : PySem.W.Frag) (n : Nat) (f : List Int → List D → Option (Rs (List D))) : Sp := fun vs H Q E => ∃ F a ns rest ds, vs = .ref a :: rest ∧ Same F H ∧ SqL K H a (ns.map V.int) ∧ DpAll K F rest ds ∧ ds.length + 1 = n ∧ match f ns ds with
  | none => False
  | some (.ok es) => ∀ p xs F' H', Ext F H F' H' → H p = none → F' p = none → H' p = some (.lst xs) → DpAll K F' xs es → Q (.ref p) H'
  | some (.error e) => ∀ cls x F' H', Ext F H F' H' → ExR K e cls x F' H' → E cls x H'
def env0 (n : Nat) (ds : List D) : En := ds.map .val ++ List.replicate (n - ds.length) .un
def runV (m : M Fl) (n : Nat) (ds : List D) : Option (Rs D) := match m (env0 n ds) with
  | some (.ok (.rt d) _) => some (.ok d)
  | some (.ok .nx _) => some (.ok .none)
  | some (.ex e _) => some (.error e)
  | _ => none
def env0B (n : Nat) (bs : List D) (ds : List D) : En := .io bs :: (ds.map .val ++ List.replicate (n - (ds.length + 1)) .un)
def runB (m : M Fl) (n : Nat) (bs : List D) (ds : List D) : Option (Rs D × List D) := match m (env0B n bs ds) with
  | some (.ok (.rt d) (.io bs' :: _)) => some (.ok d, bs')
  | some (.ok .nx (.io bs' :: _)) => some (.ok .none, bs')
  | some (.ex e (.io bs' :: _)) => some (.error e, bs')
  | _ => none
def env0S (n : Nat) (ns : List Int) (ds : List D) : En := .scr ns :: (ds.map .val ++ List.replicate (n - (ds.length + 1)) .un)
def runS (m : M Fl) (n : Nat) (ns : List Int) (ds : List D) : Option (Rs (List D)) := match m (env0S n ns ds) with
  | some (.ok (.rf d) _) => some (.ok d)
  | some (.ex e _) => some (.error e)
  | _ => none
def runL (m : M Fl) (n : Nat) (ns : List Int) : Option (Rs D) := match m (env0S n ns []) with
  | some (.ok (.rt d) _) => some (.ok d)
  | some (.ex e _) => some (.error e)
  | _ => none
section
variable {K : PySem.W.Frag} {F H : Hp}
abbrev noPr : Hp := fun _ => none
theorem start_get {N : List Str} {vs : List V} {i : Nat} {v : V} (h : vs[i]? = some v) : (L2.start N vs)[i]? = some (some v) := by
  unfold L2.start
  have hl : i < vs.length := by
    rcases Nat.lt_or_ge i vs.length with z | z
    · exact z
    · rw [List.getElem?_eq_none z] at h; cases h
  rw [List.getElem?_append_left (by simpa using hl), List.getElem?_map, h]; rfl
theorem start_len {N : List Str} {vs : List V} (h : vs.length ≤ N.length) : (L2.start N vs).length = N.length := by
  unfold L2.start
  rw [List.length_append, List.length_map, List.length_replicate]; omega
theorem env0_get {n : Nat} {ds : List D} {i : Nat} {u : Sl} (h : (env0 n ds)[i]? = some u) : (∃ d, ds[i]? = some d ∧ u = .val d) ∨ u = .un := by
  unfold env0 at h
  rcases Nat.lt_or_ge i ds.length with z | z
  · rw [List.getElem?_append_left (by simpa using z), List.getElem?_map] at h
    obtain ⟨d, e⟩ : ∃ d, ds[i]? = some d := ⟨ds[i], List.getElem?_eq_getElem z⟩
    rw [e] at h
    cases h
    exact .inl ⟨d, e, rfl⟩
  · rw [List.getElem?_append_right (by simpa using z)] at h
    rw [List.getElem?_replicate] at h
    split at h
    · cases h; exact .inr rfl
    · cases h
theorem start_ok {N : List Str} {vs : List V} {ds : List D} (s : Same F H) (r : DpAll K F vs ds) (h : ds.length ≤ N.length) : Ok K ⟨F, H, none, noPr⟩ (L2.start N vs) H F (env0 N.length ds) := by
  have hl := DpAll.length r
  refine ⟨?_, s, Same.refl F, fun b o e => .inl e, fun b o e _ => e, fun p e => (by cases e), fun b o e => (by cases e), fun i d e => ?_, fun i es e => ?_, fun i es e => ?_, fun i es e => ?_, fun i j es fs p e _ _ _ => ?_, .no (fun i es e => ?_) (fun i es e => ?_)⟩
  · rw [start_len (by omega)]
    unfold env0
    rw [List.length_append, List.length_map, List.length_replicate]; omega
  · rcases env0_get e with ⟨d', e1, e2⟩ | e2
    · cases e2
      obtain ⟨v, q1, q2⟩ := DpAll.getd r e1
      exact ⟨v, start_get q1, q2⟩
    · cases e2
  all_goals
    rcases env0_get e with ⟨d', e1, e2⟩ | e2 <;> cases e2
theorem env0B_get {n : Nat} {u0 : Sl} {ds : List D} {i : Nat} {u : Sl} (h : (u0 :: (ds.map Sl.val ++ List.replicate (n - (ds.length + 1)) Sl.un))[i]? = some u) : (i = 0 ∧ u = u0) ∨ (∃ j d, i = j + 1 ∧ ds[j]? = some d ∧ u = .val d) ∨ u = .un := by
  cases i with
  | zero =>
    have h' : u0 = u := by simpa using h
    exact .inl ⟨rfl, h'.symm⟩
  | succ j =>
    have h' : (env0 (n - 1) ds)[j]? = some u := by
      unfold env0
      have e : n - 1 - ds.length = n - (ds.length + 1) := by omega
      rw [e]
      simpa using h
    rcases env0_get h' with ⟨d, e1, e2⟩ | e2
    · exact .inr (.inl ⟨j, d, rfl, e1, e2⟩)
    · exact .inr (.inr e2)
theorem startB_ok {N : List Str} {p : Addr} {bs0 rest : List V} {bs ds : List D} (s : Same F H) (hF : F p = none) (hp : H p = some (.lst bs0)) (rb : DpAll K F bs0 bs) (r : DpAll K F rest ds) (h : ds.length + 1 ≤ N.length) :
    Ok K ⟨F, H, some p, noPr⟩ (L2.start N (.ref p :: rest)) H F (env0B N.length bs ds) := by
  have hl := DpAll.length r
  refine ⟨?_, s, Same.refl F, fun b o e => .inl e, fun b o e _ => e, fun q e => ?_, fun b o e => (by cases e), fun i d e => ?_, fun i es e => ?_, fun i es e => ?_, fun i es e => ?_, fun i j es fs q e _ _ _ => ?_, .no (fun i es e => ?_) (fun i es e => ?_)⟩
  · rw [start_len (by simp only [List.length_cons]; omega)]
    unfold env0B
    rw [List.length_cons, List.length_append, List.length_map, List.length_replicate]; omega
  · have e' : some p = some q := e
    cases e'
    exact ⟨hF, by show H p ≠ none; rw [hp]; exact Option.some_ne_none _, rfl, bs0, hp⟩
  · rcases env0B_get e with ⟨_, e2⟩ | ⟨j, d', rfl, e1, e2⟩ | e2 <;> cases e2
    obtain ⟨v, q1, q2⟩ := DpAll.getd r e1
    exact ⟨v, start_get (by simpa using q1), q2⟩
  · rcases env0B_get e with ⟨_, e2⟩ | ⟨j, d', rfl, e1, e2⟩ | e2 <;> cases e2
  · rcases env0B_get e with ⟨rfl, e2⟩ | ⟨j, d', rfl, e1, e2⟩ | e2 <;> cases e2
    exact ⟨rfl, p, bs0, rfl, start_get rfl, hp, rb⟩
  · rcases env0B_get e with ⟨_, e2⟩ | ⟨j, d', rfl, e1, e2⟩ | e2 <;> cases e2
  · rcases env0B_get e with ⟨_, e2⟩ | ⟨j, d', rfl, e1, e2⟩ | e2 <;> cases e2
  · rcases env0B_get e with ⟨_, e2⟩ | ⟨j, d', rfl, e1, e2⟩ | e2 <;> cases e2
  · rcases env0B_get e with ⟨_, e2⟩ | ⟨j, d', rfl, e1, e2⟩ | e2 <;> cases e2
theorem startS_ok {N : List Str} {a : Addr} {ns : List Int} {rest : List V} {ds : List D} (s : Same F H) (hp : SqL K H a (ns.map V.int)) (r : DpAll K F rest ds) (h : ds.length + 1 ≤ N.length) :
    Ok K ⟨F, H, none, noPr⟩ (L2.start N (.ref a :: rest)) H F (env0S N.length ns ds) := by
  have hl := DpAll.length r
  refine ⟨?_, s, Same.refl F, fun b o e => .inl e, fun b o e _ => e, fun q e => (by cases e), fun b o e => (by cases e), fun i d e => ?_, fun i es e => ?_, fun i es e => ?_, fun i es e => ?_, fun i j es fs q e _ _ _ => ?_, .no (fun i es e => ?_) (fun i es e => ?_)⟩
  · rw [start_len (by simp only [List.length_cons]; omega)]
    unfold env0S
    rw [List.length_cons, List.length_append, List.length_map, List.length_replicate]; omega
  · rcases env0B_get e with ⟨_, e2⟩ | ⟨j, d', rfl, e1, e2⟩ | e2 <;> cases e2
    obtain ⟨v, q1, q2⟩ := DpAll.getd r e1
    exact ⟨v, start_get (by simpa using q1), q2⟩
  · rcases env0B_get e with ⟨_, e2⟩ | ⟨j, d', rfl, e1, e2⟩ | e2 <;> cases e2
  · rcases env0B_get e with ⟨_, e2⟩ | ⟨j, d', rfl, e1, e2⟩ | e2 <;> cases e2
  · rcases env0B_get e with ⟨rfl, e2⟩ | ⟨j, d', rfl, e1, e2⟩ | e2 <;> cases e2
    exact ⟨rfl, a, start_get rfl, hp⟩
  · rcases env0B_get e with ⟨_, e2⟩ | ⟨j, d', rfl, e1, e2⟩ | e2 <;> cases e2
  · rcases env0B_get e with ⟨_, e2⟩ | ⟨j, d', rfl, e1, e2⟩ | e2 <;> cases e2
  · rcases env0B_get e with ⟨_, e2⟩ | ⟨j, d', rfl, e1, e2⟩ | e2 <;> cases e2
theorem Ok.ext {σ : St} {F' H' : Hp} {ρ : En} {pr : Hp} (ok : Ok K ⟨F, H, none, pr⟩ σ H' F' ρ) : Ext F H F' H' := ⟨ok.ge, ok.sub, ok.fe, fun b o e => ok.keep b o e (by simp)⟩
theorem Ok.extB {σ : St} {F' H' : Hp} {ρ : En} {pr : Hp} {p : Addr} (ok : Ok K ⟨F, H, some p, pr⟩ σ H' F' ρ) : ExtB p F H F' H' :=
  ⟨ok.ge, ok.sub, ok.fe, fun b o n e => ok.keep b o e (by intro z; cases z; exact n rfl), (ok.iod p rfl).1⟩
/-! ### behind a call -/
theorem Ok.call {c : Ct} {σ : St} {F' H' : Hp} {ρ : En} (ok : Ok K c σ H F ρ) (x : Ext F H F' H') : Ok K c σ H' F' ρ := by
  have nf : ∀ {b o}, H b = some o → F b = none → F' b = none := fun {b o} h n => by
    cases q : F' b with
    | none => rfl
    | some u =>
      rcases x.fe b u q with z | z
      · rw [n] at z; cases z
      · rw [h] at z; cases z
  refine ⟨ok.len, x.fh, ok.ge.trans x.ff, fun b o e => ?_, fun b o e n => x.hh _ _ (ok.keep b o e n), fun p e => ?_, fun b o e => ?_, fun i d e => ?_, fun i ds e => ?_, fun i ds e => ?_, ok.scr, ok.sep, ok.dcs.tr x.ff fun p ws a1 a2 a3 a4 _ _ => ⟨x.hh _ _ a1, nf a1 a2, a4⟩⟩
  · rcases x.fe b o e with z | z
    · exact ok.fe b o z
    · exact .inr (ok.new z).2.1
  · obtain ⟨a1, a2, a3, xs, a4⟩ := ok.iod p e
    exact ⟨nf a4 a1, a2, a3, xs, x.hh _ _ a4⟩
  · obtain ⟨a1, a2, a3⟩ := ok.prt b o e
    exact ⟨x.hh _ _ a1, nf a1 a2, a3⟩
  · obtain ⟨v, a1, a2⟩ := ok.val i d e
    exact ⟨v, a1, Dp.mono x.ff a2⟩
  · obtain ⟨p, vs, a1, a2, a3, a4, a5, a6⟩ := ok.own i ds e
    exact ⟨p, vs, a1, x.hh _ _ a2, DpAll.mono x.ff a3, nf a2 a4, a5, a6⟩
  · obtain ⟨z, p, vs, a0, a1, a2, a3⟩ := ok.ios i ds e
    exact ⟨z, p, vs, a0, a1, x.hh _ _ a2, DpAll.mono x.ff a3⟩
/-- the list at p, a slot's own or the caller's, was changed by a call -/
theorem Ok.callB {c : Ct} {σ : St} {F' H' : Hp} {ρ : En} {i : Nat} {p : Addr} {bs0 bs1 : List V} {bs bs' : List D} (ok : Ok K c σ H F ρ) (hi : ρ[i]? = some (.own bs) ∨ ρ[i]? = some (.io bs)) (hp : σ[i]? = some (some (.ref p))) (x : ExtB p F H F' H') (hb : H' p = some (.lst bs1)) (rb : DpAll K F' bs1 bs') :
    ∃ ρ', mPut i bs' ρ = some (.ok () ρ') ∧ Ok K c σ H' F' ρ' := by
  -- the heap with p as it was ahead of the call
  have nf : ∀ {b o}, H b = some o → F b = none → F' b = none := fun {b o} h n => by
    cases q : F' b with
    | none => rfl
    | some u =>
      rcases x.fe b u q with z | z
      · rw [n] at z; cases z
      · rw [h] at z; cases z
  have hpH : ∃ vs, H p = some (.lst vs) ∧ DpAll K F vs bs := by
    rcases hi with hi | hi
    · obtain ⟨q, vs, a1, a2, a3, _⟩ := ok.own i bs hi
      rw [hp] at a1; cases a1; exact ⟨vs, a2, a3⟩
    · obtain ⟨_, q, vs, _, a1, a2, a3⟩ := ok.ios i bs hi
      rw [hp] at a1; cases a1; exact ⟨vs, a2, a3⟩
  obtain ⟨vs0, hpH, r0⟩ := hpH
  have x0 : Ext F H F' (upd H' p (.lst vs0)) := ⟨x.ff, fun b o e => by rw [upd_ne (ne_of_none e x.fp)]; exact x.fh b o e, x.fe, fun b o e => by
    by_cases hb' : b = p
    · subst hb'; rw [upd_same]; rw [hpH] at e; exact e
    · rw [upd_ne hb']; exact x.hh b o hb' e⟩
  have ok1 := ok.call x0
  have back : upd (upd H' p (.lst vs0)) p (.lst bs1) = H' := by
    rw [upd_upd]
    funext b
    unfold upd
    split
    · rename_i h; rw [h, hb]
    · rfl
  rcases hi with hi | hi
  · have q := ok1.change hi p hp rb
    rw [back] at q
    exact ⟨_, by unfold mPut; rw [hi], q⟩
  · have q := ok1.changeI hi p hp rb
    rw [back] at q
    exact ⟨_, by unfold mPut; rw [hi], q⟩
end
/-! ### calls of defs -/
section
variable {X : Cx} {W : WX} {K : PySem.W.Frag} {ms : M (List D)} {n : Nat} {σ : St} {H : Hp}
def mRs (o : Option (Rs D)) : M D := fun ρ => match o with
  | none => none
  | some (.ok d) => some (.ok d ρ)
  | some (.error e) => some (.ex e ρ)
def mCallV (n : Nat) (f : List D → Option (Rs D)) (ms : M (List D)) : M D := mBind ms fun ds => if ds.length = n then mRs (f ds) else mStuck
theorem callV_of {f : List D → Option (Rs D)} {Q : VK} (h : tE K W (mCallV n f ms) σ H Q) : tCallS (spV K n f) (WE W) (tA K W ms) σ H Q := by
  obtain ⟨c, F, ρ, ok, h⟩ := h
  refine ⟨c, F, ρ, ok, post_mono ?_ (post_bind h)⟩
  rintro ds H1 F1 _ ⟨ρ1, ok1, s1, h1⟩ vs rv
  split at h1
  · rename_i hl
    refine ⟨F1, ds, ok1.sub, rv, hl, ?_⟩
    unfold mRs at h1
    cases e : f ds with
    | none => rw [e] at h1; exact h1
    | some r =>
      rw [e] at h1
      cases r with
      | ok d => exact fun v F' H' x r => h1 H' F' (ok1.call x) x.ff v r
      | error e => exact fun cls y F' H' x r => h1 cls y H' F' (ok1.call x) x.ff r
  · exact h1.elim
/-- a call that changes a slot's own list -/
def mCallB (i n : Nat) (f : List D → List D → Option (Rs D × List D)) (ms : M (List D)) : M D := mBind (mOwn i) fun _ => mBind ms fun ds => mBind (mOwn i) fun bs => if ds.length + 1 = n then (match f bs ds with
  | none => mStuck
  | some (r, bs') => mBind (mPut i bs') fun _ => mRs (some r)) else mStuck
theorem own_is {α : Type} {ρ : En} {i : Nat} {r : R (List D)} (h : mOwn i ρ = some r) : ∃ ds, r = .ok ds ρ ∧ (ρ[i]? = some (.own ds) ∨ ρ[i]? = some (.io ds)) := by
  unfold mOwn at h
  split at h
  · rename_i ds e; cases h; exact ⟨ds, rfl, .inl e⟩
  · rename_i ds e; cases h; exact ⟨ds, rfl, .inr e⟩
  · cases h
theorem callB_of {i : Nat} {f : List D → List D → Option (Rs D × List D)} {Q : VK} (h : tE K W (mCallB i n f ms) σ H Q) : tCallS (spB K n f) (WE W) (tCons (tVar i) (tA K W ms)) σ H Q := by
  obtain ⟨c, F, ρ, ok, h⟩ := h
  obtain ⟨p, vs, ds0, a1, a2, a3, a4, h⟩ := own_at ok h
  refine ⟨.ref p, a1, c, F, ρ, ok, post_mono ?_ (post_bind h)⟩
  rintro ds H1 F1 _ ⟨ρ1, ok1, s1, h1⟩ ws rw'
  have hw : ∃ bs, (ρ1[i]? = some (.own bs) ∨ ρ1[i]? = some (.io bs)) ∧ post K W c σ F1 (qE K Q) ((if ds.length + 1 = n then (match f bs ds with
      | none => mStuck
      | some (r, bs') => mBind (mPut i bs') fun _ => mRs (some r)) else mStuck) ρ1) := by
    unfold mBind at h1
    cases e : mOwn i ρ1 with
    | none => rw [e] at h1; exact h1.elim
    | some r =>
      obtain ⟨bs, rfl, e2⟩ := own_is (α := D) e
      rw [e] at h1
      exact ⟨bs, e2, h1⟩
  obtain ⟨bs, hi, h2⟩ := hw
  obtain ⟨p', vs1, b1, b2, b3, b4⟩ : ∃ p vs, σ[i]? = some (some (.ref p)) ∧ H1 p = some (.lst vs) ∧ DpAll K F1 vs bs ∧ F1 p = none := by
    rcases hi with hi | hi
    · obtain ⟨q, vs, c1, c2, c3, c4, _⟩ := ok1.own i bs hi
      exact ⟨q, vs, c1, c2, c3, c4⟩
    · obtain ⟨_, q, vs, c0, c1, c2, c3⟩ := ok1.ios i bs hi
      exact ⟨q, vs, c1, c2, c3, (ok1.iod q c0).1⟩
  have ep : p' = p := by rw [a1] at b1; cases b1; rfl
  subst ep
  split at h2
  · rename_i hl
    refine ⟨F1, p', vs1, bs, ws, ds, rfl, ok1.sub, b4, b2, b3, rw', hl, ?_⟩
    cases e : f bs ds with
    | none => rw [e] at h2; exact h2
    | some q =>
      rw [e] at h2
      obtain ⟨r, bs'⟩ := q
      cases r with
      | ok d =>
        intro v bs1 F' H' x hb rb rv
        obtain ⟨ρ2, e2, ok2⟩ := ok1.callB (bs0 := vs1) hi b1 x hb rb
        have h3 := post_bind h2
        rw [e2] at h3
        obtain ⟨ρ3, ok3, s3, h4⟩ := h3 H' F' ok2 x.ff
        exact h4 H' F' ok3 (Same.refl F') v rv
      | error ex =>
        intro cls y bs1 F' H' x hb rb rv
        obtain ⟨ρ2, e2, ok2⟩ := ok1.callB (bs0 := vs1) hi b1 x hb rb
        have h3 := post_bind h2
        rw [e2] at h3
        obtain ⟨ρ3, ok3, s3, h4⟩ := h3 H' F' ok2 x.ff
        exact h4 cls y H' F' ok3 (Same.refl F') rv
  · exact h2.elim
theorem ok_fresh {c : Ct} {F F' H' : Hp} {ρ : En} {p : Addr} {xs : List V} {es : List D} {i : Nat} (ok : Ok K c σ H F ρ) (x : Ext F H F' H') (hp : H p = none) (hf : F' p = none) (hl : H' p = some (.lst xs)) (r : DpAll K F' xs es) (hi : i < ρ.length) :
    Ok K c (σ.set i (some (.ref p))) H' F' (ρ.set i (.own es)) := by
  have ok1 := ok.call x
  obtain ⟨b1, b2, b3, b4, b5⟩ := ok.new hp
  refine ok1.set hi (fun d' e => by cases e) (fun fs e => ?_) (fun _ e => by cases e) (fun _ e => by cases e) (hxo := fun _ q _ y x' => by
    cases y
    exact absurd hp (by
      obtain ⟨o, ho⟩ := (ok.dcs.xmine (ok.dcs.xback (fun _ _ => x.hh _ _) x')).2
      rw [ho]; exact Option.some_ne_none _))
  cases e
  refine ⟨p, xs, rfl, hl, r, hf, b2, b3, fun j fs a b => ?_⟩
  obtain ⟨q, vs, a1, a2, _⟩ := ok.own j fs a
  rw [b] at a1
  have z : p = q := by cases a1; rfl
  subst z
  rw [hp] at a2; cases a2
/-- name = _law_box(script, ..) -/
def mScr (j : Nat) : M (List Int) := fun ρ => match ρ[j]? with
  | some (.scr ns) => some (.ok ns ρ)
  | _ => none
def mAsgS (i j n : Nat) (f : List Int → List D → Option (Rs (List D))) (ms : M (List D)) : M Fl := mBind (mScr j) fun ns => mBind ms fun ds => if ds.length + 1 = n then (match f ns ds with
  | none => mStuck
  | some (.ok es) => mBind (mStoreO i es) fun _ => mDone
  | some (.error e) => fun ρ => some (.ex e ρ)) else mStuck
theorem Ok.scrH {c : Ct} {F : Hp} {ρ : En} {j : Nat} {ns : List Int} (ok : Ok K c σ H F ρ) (e : ρ[j]? = some (.scr ns)) : c.io = none ∧ ∃ a, σ[j]? = some (some (.ref a)) ∧ SqL K c.H0 a (ns.map V.int) ∧ SqL K H a (ns.map V.int) := by
  obtain ⟨a0, a, a1, a2⟩ := ok.scr j ns e
  exact ⟨a0, a, a1, a2, SqL.mono (fun b o q => ok.keep b o q (by rw [a0]; simp)) a2⟩
theorem asgS_of {i j : Nat} {f : List Int → List D → Option (Rs (List D))} {Dn : Ends} (h : tS K W (mAsgS i j n f ms) Dn σ H) : tAsg (tCallS (spS K n f) (WE W) (tCons (tVar j) (tA K W ms))) (gName i) Dn σ H := by
  obtain ⟨c, F, ρ, ok, h⟩ := h
  have hj : ∃ ns, ρ[j]? = some (.scr ns) ∧ postS K W c F Dn (mBind ms (fun ds => if ds.length + 1 = n then (match f ns ds with
      | none => mStuck
      | some (.ok es) => mBind (mStoreO i es) fun _ => mDone
      | some (.error e) => fun ρ => some (.ex e ρ)) else mStuck) ρ) := by
    unfold mAsgS mBind mScr at h
    cases e : ρ[j]? with
    | none => rw [e] at h; exact h.elim
    | some u =>
      rw [e] at h
      cases u with
      | scr ns => exact ⟨ns, rfl, h⟩
      | un => exact h.elim
      | val _ => exact h.elim
      | own _ => exact h.elim
      | io _ => exact h.elim
      | dct _ => exact h.elim
      | nst _ => exact h.elim
  obtain ⟨ns, ej, h⟩ := hj
  obtain ⟨a0, a, a1, a2, a3⟩ := ok.scrH ej
  refine ⟨.ref a, a1, c, F, ρ, ok, post_mono ?_ (postS_bind h)⟩
  rintro ds H1 F1 _ ⟨ρ1, ok1, s1, h1⟩ vs rv
  have a4 : SqL K H1 a (ns.map V.int) := SqL.mono (fun b o q => ok1.keep b o q (by rw [a0]; simp)) a2
  split at h1
  · rename_i hl
    refine ⟨F1, a, ns, vs, ds, rfl, ok1.sub, a4, rv, hl, ?_⟩
    cases e : f ns ds with
    | none => rw [e] at h1; exact h1
    | some r =>
      rw [e] at h1
      cases r with
      | error e => exact fun cls y F' H' x r => h1 σ cls y H' F' (ok1.call x) x.ff r
      | ok es =>
        intro p xs F' H' x hp hf hl' rx
        have h2 := postS_bindG h1
        unfold mStoreO at h2
        split at h2
        · rename_i hi
          obtain ⟨F3, ρ3, ok3, s3, h6⟩ := h2 _ H' F' (ok_fresh ok1 x hp hf hl' rx hi) x.ff
          exact h6 _ _ _ ok3 (Same.refl F3)
        · exact h2.elim
  · exact h1.elim
/-- len(script), script[..] -/
def mScrLen (j : Nat) : M D := mBind (mScr j) fun ns => mPure (.int (ns.length : Nat))
def mScrIx (j : Nat) (m : M D) : M D := mBind (mScr j) fun ns => mBind m fun d => mLift (match d with
  | .int i => (atI ns i).map PyData.int
  | _ => none)
theorem scr_at {α : Type} {c : Ct} {F : Hp} {ρ : En} {j : Nat} {G : α → Hp → Hp → Prop} {f : List Int → M α} (h : post K W c σ F G (mBind (mScr j) f ρ)) : ∃ ns, ρ[j]? = some (.scr ns) ∧ post K W c σ F G (f ns ρ) := by
  unfold mBind mScr at h
  cases e : ρ[j]? with
  | none => rw [e] at h; exact h.elim
  | some u =>
    rw [e] at h
    cases u with
    | scr ns => exact ⟨ns, rfl, h⟩
    | un => exact h.elim
    | val _ => exact h.elim
    | own _ => exact h.elim
    | io _ => exact h.elim
    | dct _ => exact h.elim
    | nst _ => exact h.elim
variable {pos p : Pos} {a : Expr} {m : M D}
theorem dScrLen {j : Nat} (hm : X.mg "len" = none) (ha : PE X a (tVar j)) (hg : Gl X "len" := by rfl) (hs : starEach (a :: []) X.env = (false, eval a X.env) :: starEach [] X.env := by rfl) (hpl : (backTo pos (starEach [] X.env)).any (·.1) = false := by rfl) : PE X (.Call (.Name "len" p) [a] [] pos) (tE X.K W (mScrLen j)) :=
  PE.imp (pe_callB call_len_seq hg hm PySem.boot_len (pa_cons ha pa_nil hs) (by decide) (by decide) hs hpl) (by
  rintro σ H Q ⟨c, F, ρ, ok, h⟩
  obtain ⟨ns, ej, h⟩ := scr_at h
  obtain ⟨a0, a, a1, a2, a3⟩ := ok.scrH ej
  refine ⟨.ref a, a1, a, _, rfl, .inl a3, ?_⟩
  rw [List.length_map]
  exact h H F ok (Same.refl F) _ (.int _))
theorem dScrIx {j : Nat} {b : Expr} (ha : PE X a (tVar j)) (hb : PE X b (tE X.K W m)) (hs : PlainIx b := by exact fun _ _ => rfl) : PE X (.Subscript a b pos) (tE X.K W (mScrIx j m)) := PE.imp (pe_ix ix_list ha hb hs) (by
  rintro σ H Q ⟨c, F, ρ, ok, h⟩
  obtain ⟨ns, ej, h⟩ := scr_at h
  obtain ⟨a0, a, a1, a2, a3⟩ := ok.scrH ej
  refine ⟨.ref a, a1, c, F, ρ, ok, post_mono ?_ (post_bind h)⟩
  rintro d H1 F1 _ ⟨ρ1, ok1, s1, h1⟩ v rv
  obtain ⟨d', e, h2⟩ := post_lift h1
  split at e
  · rename_i i
    cases rv
    cases q : atI ns i with
    | none => rw [q] at e; cases e
    | some z =>
      rw [q] at e
      cases e
      refine ⟨a, _, i, .int z, rfl, rfl, SqL.mono (fun b o q => ok1.keep b o q (by rw [a0]; simp)) a2, ?_, h2 H1 F1 ok1 (Same.refl F1) _ (.int z)⟩
      unfold atI at q ⊢
      rw [List.length_map]
      cases q2 : ixN ns.length i with
      | none => rw [q2] at q; cases q
      | some k =>
        rw [q2] at q
        show (ns.map V.int)[k]? = _
        rw [List.getElem?_map, show ns[k]? = some z from q]; rfl
  · cases e)
end
/-! ### a def by its body -/
section
variable {P : Program} {w : World} {K : PySem.W.Frag} {mg : Str → Option Value} {base : Heap} {x qual : Str} {st : Stmt} {f : Addr} {fd : FuncData} {N ps : List Str} {k : Nat} {m : M Fl}
theorem FnScope.le {sc : Scope} (S : FnScope N ps sc) : ps.length ≤ N.length := by
  have := congrArg List.length S.pre
  rw [List.length_take] at this
  omega
end
end Dd

namespace Dd
open PySem PySem.Spec L2
section
variable {X : Cx} {W : WX} {K : PySem.W.Frag}
/-! ### built-ins -/
def rOr (r r' : List V → Hp → VK → Prop) : List V → Hp → VK → Prop := fun xs H Q => r xs H Q ∨ r' xs H Q
def cOr (g g' : List D → Option D) : List D → Option D := fun ds => match g ds with
  | some d => some d
  | none => g' ds
theorem callD_or {r r' : List V → Hp → VK → Prop} {g g' : List D → Option D} (h : CallD K r g) (h' : CallD K r' g') : CallD K (rOr r r') (cOr g g') := by
  intro W c σ H F ρ xs ds d Q ok rx e q
  unfold cOr at e
  split at e
  · rename_i d' e'
    cases e
    exact .inl (h ok rx e' q)
  · exact .inr (h' ok rx e q)
theorem pk1 {H F : Hp} {xs : List V} {d : D} (h : PkAll K H F xs [d]) : ∃ x, xs = [x] ∧ Pk K H F x d := by
  cases h with
  | cons r t => cases t; exact ⟨_, rfl, r⟩
theorem pk2 {H F : Hp} {xs : List V} {d e : D} (h : PkAll K H F xs [d, e]) : ∃ x y, xs = [x, y] ∧ Pk K H F x d ∧ Pk K H F y e := by
  cases h with
  | cons r t =>
    obtain ⟨y, rfl, r'⟩ := pk1 t
    exact ⟨_, y, rfl, r, r'⟩
def lenD : List D → Option D
  | [.list ds] => some (.int (ds.length : Nat))
  | [.tuple ds] => some (.int (ds.length : Nat))
  | [.str z] => if fit z.length = true then some (.int (z.length : Nat)) else none
  | _ => none
def rLen (K : PySem.W.Frag) : List V → Hp → VK → Prop := rOr (fun xs H Q => ∃ p ys, xs = [.ref p] ∧ (SqL K H p ys ∨ SqT K H p ys) ∧ Q (.int ys.length) H) (fun xs H Q => ∃ z, xs = [.str z] ∧ z.length ≤ sizeLine ∧ Q (.int z.length) H)
theorem cr_len : CallR X (.builtin "len") (rLen X.K) := CallR.or call_len_seq call_len_str
theorem cd_len : CallD K (rLen K) lenD := by
  intro W c σ H F ρ xs ds d Q ok rx e q
  unfold lenD at e
  split at e
  · cases e
    obtain ⟨x, rfl, r⟩ := pk1 rx
    obtain ⟨p, vs, rfl, hp, dp⟩ := Pk.lst ok.sub r
    exact .inl ⟨p, vs, rfl, .inl hp, by rw [DpAll.length dp]; exact post_ok q ok _ (.int _)⟩
  · cases e
    obtain ⟨x, rfl, r⟩ := pk1 rx
    obtain ⟨p, vs, rfl, hp, dp⟩ := Pk.tup ok.sub r
    exact .inl ⟨p, vs, rfl, .inr hp, by rw [DpAll.length dp]; exact post_ok q ok _ (.int _)⟩
  · split at e
    · rename_i hf
      cases e
      obtain ⟨x, rfl, r⟩ := pk1 rx
      cases r.str
      exact .inr ⟨_, rfl, fit_le hf, post_ok q ok _ (.int _)⟩
    · cases e
  · cases e
def intD : List D → Option D
  | [.int i] => some (.int i)
  | [.bool k] => some (.int (if k then 1 else 0))
  | _ => none
theorem cd_int : CallD K (fun xs H Q => (∃ i, xs = [.int i] ∧ Q (.int i) H) ∨ ∃ k, xs = [.bl k] ∧ Q (.int (if k then 1 else 0)) H) intD := by
  intro W c σ H F ρ xs ds d Q ok rx e q
  unfold intD at e
  split at e
  · cases e
    obtain ⟨x, rfl, r⟩ := pk1 rx
    cases r.int
    exact .inl ⟨_, rfl, post_ok q ok _ (.int _)⟩
  · cases e
    obtain ⟨x, rfl, r⟩ := pk1 rx
    cases r.bool
    exact .inr ⟨_, rfl, post_ok q ok _ (.int _)⟩
  · cases e
def max2D : List D → Option D
  | [.int i, .int j] => some (.int (if j > i then j else i))
  | _ => none
def min2D : List D → Option D
  | [.int i, .int j] => some (.int (if j < i then j else i))
  | _ => none
theorem cd_max2 : CallD K (fun xs H Q => ∃ i j, xs = [.int i, .int j] ∧ Q (.int (if j > i then j else i)) H) max2D := by
  intro W c σ H F ρ xs ds d Q ok rx e q
  unfold max2D at e
  split at e
  · cases e
    obtain ⟨x, y, rfl, r, r'⟩ := pk2 rx
    cases r.int
    cases r'.int
    exact ⟨_, _, rfl, post_ok q ok _ (.int _)⟩
  · cases e
theorem cd_min2 : CallD K (fun xs H Q => ∃ i j, xs = [.int i, .int j] ∧ Q (.int (if j < i then j else i)) H) min2D := by
  intro W c σ H F ρ xs ds d Q ok rx e q
  unfold min2D at e
  split at e
  · cases e
    obtain ⟨x, y, rfl, r, r'⟩ := pk2 rx
    cases r.int
    cases r'.int
    exact ⟨_, _, rfl, post_ok q ok _ (.int _)⟩
  · cases e
def tupleD : List D → Option D
  | [.list ds] => some (.tuple ds)
  | [.tuple ds] => some (.tuple ds)
  | _ => none
theorem cd_tuple : CallD K (fun xs H Q => ∃ p ys, xs = [.ref p] ∧ ((SqL K H p ys ∧ ∀ l, H l = none → Q (.ref l) (upd H l (.tup ys))) ∨ (SqT K H p ys ∧ Q (.ref p) H))) tupleD := by
  intro W c σ H F ρ xs ds d Q ok rx e q
  unfold tupleD at e
  split at e
  · cases e
    obtain ⟨x, rfl, r⟩ := pk1 rx
    obtain ⟨p, vs, rfl, hp, dp⟩ := Pk.lst ok.sub r
    exact ⟨p, vs, rfl, .inl ⟨hp, fun l hl => new_tup ok dp q l hl⟩⟩
  · cases e
    obtain ⟨x, rfl, r⟩ := pk1 rx
    obtain ⟨p, vs, rfl, hp, dp⟩ := Pk.tup ok.sub r
    refine ⟨p, vs, rfl, .inr ⟨hp, ?_⟩⟩
    rcases r with r | ⟨_, _, _, _, e, _⟩
    · exact post_ok q ok _ r
    · cases e
  · cases e
/-- ints, bools of a list -/
def toInts : List D → Option (List Int)
  | [] => some []
  | .int i :: ds => (toInts ds).map (i :: ·)
  | _ => none
theorem toInts_eq : ∀ {ds : List D} {ns : List Int}, toInts ds = some ns → ds = ns.map PyData.int
  | [], ns, h => by cases h; rfl
  | d :: ds, ns, h => by
    cases d with
    | int i =>
      have h : (toInts ds).map (i :: ·) = some ns := h
      cases q : toInts ds with
      | none => rw [q] at h; cases h
      | some ms =>
        rw [q] at h
        cases h
        rw [toInts_eq q]; rfl
    | none => cases h
    | bool _ => cases h
    | str _ => cases h
    | list _ => cases h
    | tuple _ => cases h
    | dict _ => cases h
theorem toInts_map : ∀ (ns : List Int), toInts (ns.map PyData.int) = some ns
  | [] => rfl
  | n :: ns => by
    show (toInts (ns.map PyData.int)).map (n :: ·) = _
    rw [toInts_map ns]; rfl
def toBools : List D → Option (List Bool)
  | [] => some []
  | .bool i :: ds => (toBools ds).map (i :: ·)
  | _ => none
theorem toBools_eq : ∀ {ds : List D} {ns : List Bool}, toBools ds = some ns → ds = ns.map PyData.bool
  | [], ns, h => by cases h; rfl
  | d :: ds, ns, h => by
    cases d with
    | bool i =>
      have h : (toBools ds).map (i :: ·) = some ns := h
      cases q : toBools ds with
      | none => rw [q] at h; cases h
      | some ms =>
        rw [q] at h
        cases h
        rw [toBools_eq q]; rfl
    | none => cases h
    | int _ => cases h
    | str _ => cases h
    | list _ => cases h
    | tuple _ => cases h
    | dict _ => cases h
def sumD : List D → Option D
  | [.list ds] => (toInts ds).map fun ns => .int ns.sum
  | _ => none
def allD : List D → Option D
  | [.list ds] => (toBools ds).map fun bs => .bool (bs.all id)
  | _ => none
theorem cd_sum : CallD K (rSum K) sumD := by
  intro W c σ H F ρ xs ds d Q ok rx e q
  unfold sumD at e
  split at e
  · rename_i es
    cases q2 : toInts es with
    | none => rw [q2] at e; cases e
    | some ns =>
      rw [q2] at e
      cases e
      obtain ⟨x, rfl, r⟩ := pk1 rx
      obtain ⟨p, vs, rfl, hp, dp⟩ := Pk.lst ok.sub r
      rw [toInts_eq q2] at dp
      rw [DpAll.ints dp] at hp
      exact ⟨p, ns, rfl, hp, post_ok q ok _ (.int _)⟩
  · cases e
theorem cd_all : CallD K (rAll K) allD := by
  intro W c σ H F ρ xs ds d Q ok rx e q
  unfold allD at e
  split at e
  · rename_i es
    cases q2 : toBools es with
    | none => rw [q2] at e; cases e
    | some ns =>
      rw [q2] at e
      cases e
      obtain ⟨x, rfl, r⟩ := pk1 rx
      obtain ⟨p, vs, rfl, hp, dp⟩ := Pk.lst ok.sub r
      rw [toBools_eq q2] at dp
      rw [DpAll.bls dp] at hp
      exact ⟨p, ns, rfl, hp, post_ok q ok _ (.bl _)⟩
  · cases e
/-- repr of what is plain -/
def reprD : List D → Option D
  | [.none] => some (.str "None")
  | [.bool b] => some (.str (if b then "True" else "False"))
  | [.int i] => if i.natAbs.log2 < 1920 then some (.str (toString i)) else none
  | [.str x] => if fit (reprText x).length = true then some (.str (reprText x)) else none
  | _ => none
def rRepr : List V → Hp → VK → Prop := fun xs H Q => (xs = [.non] ∧ Q (.str "None") H) ∨ (∃ b : Bool, xs = [.bl b] ∧ Q (.str (if b then "True" else "False")) H) ∨ (∃ i : Int, xs = [.int i] ∧ i.natAbs.log2 < 1920 ∧ Q (.str (toString i)) H) ∨ ∃ x, xs = [.str x] ∧ (reprText x).length ≤ sizeLine ∧ Q (.str (reprText x)) H
theorem cr_repr : CallR X (.builtin "repr") rRepr := by
  intro pins s σ H xs us Q I r h
  rcases h with ⟨rfl, q⟩ | ⟨b, rfl, q⟩ | ⟨i, rfl, hi, q⟩ | ⟨x, rfl, hx, q⟩
  · obtain ⟨u, rfl, ru⟩ := vals1 r
    cases ru
    exact PySem.P.repr_of_none ⟨.str "None", H, I.tok _, ⟨_, rfl⟩, q⟩
  · obtain ⟨u, rfl, ru⟩ := vals1 r
    cases ru
    exact PySem.P.repr_of_bool ⟨.str _, H, I.tok _, ⟨_, rfl⟩, q⟩
  · obtain ⟨u, rfl, ru⟩ := vals1 r
    obtain ⟨t, rfl⟩ := ru
    exact PySem.P.repr_of_int hi ⟨.str _, H, I.tok _, ⟨_, rfl⟩, q⟩
  · obtain ⟨u, rfl, ru⟩ := vals1 r
    obtain ⟨t, rfl⟩ := ru
    exact PySem.P.repr_of_str ⟨.str _, H, I.tok _, ⟨_, rfl⟩, q⟩ hx
theorem cd_repr : CallD K rRepr reprD := by
  intro W c σ H F ρ xs ds d Q ok rx e q
  unfold reprD at e
  split at e
  · cases e
    obtain ⟨x, rfl, r⟩ := pk1 rx
    cases r.none
    exact .inl ⟨rfl, post_ok q ok _ (.str _)⟩
  · cases e
    obtain ⟨x, rfl, r⟩ := pk1 rx
    cases r.bool
    exact .inr (.inl ⟨_, rfl, post_ok q ok _ (.str _)⟩)
  · split at e
    · rename_i hf
      cases e
      obtain ⟨x, rfl, r⟩ := pk1 rx
      cases r.int
      exact .inr (.inr (.inl ⟨_, rfl, hf, post_ok q ok _ (.str _)⟩))
    · cases e
  · split at e
    · rename_i hf
      cases e
      obtain ⟨x, rfl, r⟩ := pk1 rx
      cases r.str
      exact .inr (.inr (.inr ⟨_, rfl, fit_le hf, post_ok q ok _ (.str _)⟩))
    · cases e
  · cases e
/-! ### isinstance -/
/-- an object stands as a dict whose first key is None -/
def objD : D → Bool
  | .dict ((.none, _) :: _) => true
  | _ => false
def dictT (kvs : List (D × D)) : String := if objD (.dict kvs) = true then "object" else "dict"
def typD : D → String
  | .none => "NoneType"
  | .bool _ => "bool"
  | .int _ => "int"
  | .str _ => "str"
  | .list _ => "list"
  | .tuple _ => "tuple"
  | .dict kvs => dictT kvs
def TyD (K : PySem.W.Frag) (d : D) (ty : Value) : Prop := (objD d = false ∧ ty = .type (typD d)) ∨ (objD d = true ∧ ∃ C, ty = .ref C ∧ InsOk K C)
theorem objD_kv {K : PySem.W.Frag} {H : Hp} {ws : List (Key × V)} {kvs : List (D × D)} (h : DpKV K H ws kvs) : objD (.dict kvs) = false := by
  cases h with
  | nil => rfl
  | cons r t => rename_i k _ _ _ _; cases k <;> rfl
theorem objD_key {K : PySem.W.Frag} {H : Hp} {ws : List (Key × V)} {kvs : List (D × D)} (h : DpKV K H ws kvs) : dictT kvs = "dict" := by
  unfold dictT; rw [objD_kv h]; rfl
theorem typ_of {c : Ct} {σ : St} {H F : Hp} {ρ : En} (ok : Ok K c σ H F ρ) {x : V} {d : D} (r : Pk K H F x d) : ∃ ty, TyX K H x ty ∧ TyD K d ty := by
  cases d with
  | none => cases r.none; exact ⟨_, .base .non, .inl ⟨rfl, rfl⟩⟩
  | bool b => cases r.bool; exact ⟨_, .base (.bl b), .inl ⟨rfl, rfl⟩⟩
  | int i => cases r.int; exact ⟨_, .base (.int i), .inl ⟨rfl, rfl⟩⟩
  | str z => cases r.str; exact ⟨_, .base (.str z), .inl ⟨rfl, rfl⟩⟩
  | list ds =>
    obtain ⟨p, vs, rfl, hp, dp⟩ := Pk.rd ok.sub r
    rcases hp with hp | ⟨o, hp⟩
    · exact ⟨_, .base (.lst hp), .inl ⟨rfl, rfl⟩⟩
    · exact ⟨_, .base (.frz hp), .inl ⟨rfl, rfl⟩⟩
  | tuple ds =>
    obtain ⟨p, vs, rfl, hp, dp⟩ := Pk.tup ok.sub r
    rcases hp with (hp | ⟨o, hp⟩) | ⟨o, its, n, h1, h2, _⟩
    · exact ⟨_, .base (.tup hp), .inl ⟨rfl, rfl⟩⟩
    · exact ⟨_, .fTuple hp, .inl ⟨rfl, rfl⟩⟩
    · exact ⟨_, .kTuple h1 h2, .inl ⟨rfl, rfl⟩⟩
  | dict _ =>
    rcases r with r | ⟨_, _, _, _, e, _⟩
    · cases r with
      | dct hr hk =>
        have e := objD_key hk
        have ty : TyD K (.dict _) (.type "dict") := .inl ⟨objD_kv hk, by show Value.type "dict" = Value.type (dictT _); rw [e]⟩
        rcases Rd.mono ok.sub hr with hp | ⟨o, hp⟩
        · exact ⟨_, .base (.dK hp), ty⟩
        · exact ⟨_, .fDict hp, ty⟩
      | ins hp _ hi _ => exact ⟨_, .base (.ins (ok.sub _ _ hp) hi.cl hi.ha hi.hn hi.htk hi.hm), .inr ⟨rfl, _, rfl, hi⟩⟩
    · cases e
def isiT (T : String) (d : D) : Bool := match kitB (typD d) T with
  | some b => b
  | none => false
def isiOk (T : String) : Bool := (["bool", "int", "str", "list", "tuple", "dict"] : List String).contains T && ((kitB "NoneType" T).isSome && (kitB "bool" T).isSome && (kitB "int" T).isSome && (kitB "str" T).isSome && (kitB "list" T).isSome && (kitB "tuple" T).isSome && (kitB "dict" T).isSome)
theorem isi_kit {T : String} (h : isiOk T = true) (d : D) {ty : Value} (hy : TyD K d ty) : PySem.W.kitOne K ty (.type T) = some (isiT T d) := by
  unfold isiOk at h
  rw [Bool.and_eq_true] at h
  obtain ⟨h0, h⟩ := h
  have h0 := List.contains_iff_mem.mp h0
  simp only [Bool.and_eq_true] at h
  obtain ⟨⟨⟨⟨⟨⟨h1, h2⟩, h3⟩, h4⟩, h5⟩, h6⟩, h7⟩ := h
  rcases hy with ⟨hi, rfl⟩ | ⟨hi, C, rfl, hk⟩
  · refine kit_ty ?_
    unfold isiT
    cases d with
    | dict kvs =>
      have e : typD (.dict kvs) = "dict" := by
        show dictT kvs = "dict"
        unfold dictT; rw [hi]; rfl
      rw [e]
      obtain ⟨b, e⟩ := Option.isSome_iff_exists.mp h7; rw [e]
    | _ => unfold typD; first
        | (obtain ⟨b, e⟩ := Option.isSome_iff_exists.mp h1; rw [e])
        | (obtain ⟨b, e⟩ := Option.isSome_iff_exists.mp h2; rw [e])
        | (obtain ⟨b, e⟩ := Option.isSome_iff_exists.mp h3; rw [e])
        | (obtain ⟨b, e⟩ := Option.isSome_iff_exists.mp h4; rw [e])
        | (obtain ⟨b, e⟩ := Option.isSome_iff_exists.mp h5; rw [e])
        | (obtain ⟨b, e⟩ := Option.isSome_iff_exists.mp h6; rw [e])
  · rw [hk.ki T h0]
    have e : isiT T d = false := by
      have ed : typD d = "object" := by
        cases d with
        | dict kvs => show dictT kvs = "object"; unfold dictT; rw [hi]; rfl
        | _ => cases hi
      unfold isiT
      rw [ed]
      simp only [List.mem_cons, List.not_mem_nil, or_false] at h0
      rcases h0 with rfl | rfl | rfl | rfl | rfl | rfl <;> decide +kernel
    rw [e]
def mIsi (T : String) (m : M D) : M D := mBind m fun d => mPure (.bool (isiT T d))
variable {a : Expr} {m : M D} {p q pos : Pos} {tn : Str} {T : String}
theorem dIsi (hm : X.mg "isinstance" = none) (hmT : X.mg tn = none) (hT : isiOk T = true) (ha : PE X a (tP X.K W m)) (hv : bootBuiltins tn = some (.type T)) (hg : Gl X "isinstance" := by rfl) (hgT : Gl X tn := by rfl)
    (hn : tn ≠ "__name__" := by decide) (hdb : (tn == ("__debug__" : Str)) = false := by decide) (hs : starEach [a, .Name tn q] X.env = (false, eval a X.env) :: starEach [.Name tn q] X.env := by rfl) (hs2 : starEach [.Name tn q] X.env = (false, eval (.Name tn q) X.env) :: starEach [] X.env := by rfl) (hpl : (backTo pos (starEach [.Name tn q] X.env)).any (·.1) = false := by rfl)
    (hbi : bootBuiltins "isinstance" = some (.builtin "isinstance") := by decide +kernel) : PE X (.Call (.Name "isinstance" p) [a, .Name tn q] [] pos) (tE X.K W (mIsi T m)) :=
  PE.imp (pe_callB call_isi hg hm hbi (pa_cons ha (pa_cons (pe_bltn hgT hmT hv (hn := hn) (hd := hdb) (r := (show RelV (V.ty T) (Value.type T) from rfl))) pa_nil hs2) hs) (by decide) (by decide) hs hpl) (by
  rintro σ H Q ⟨c, F, ρ, ok, h⟩
  refine ⟨c, F, ρ, ok, post_mono ?_ (post_bind h)⟩
  rintro d H1 F1 _ ⟨ρ1, ok1, s1, h1⟩ v rv
  obtain ⟨ty, t1, t2⟩ := typ_of ok1 rv
  exact ⟨v, _, _, _, _, rfl, .ty T, t1, isi_kit hT d t2, h1 H1 F1 ok1 (Same.refl F1) _ (.bl _)⟩)
end
/-! ### a new list, not yet anyone's -/
def postN (K : PySem.W.Frag) (W : WX) (c : Ct) (σ : St) (F : Hp) (Q : VK) : Option (R (List D)) → Prop
  | none => False
  | some (.ok out ρ') => ∀ p xs H' F', Ok K (c.put p (.lst xs)) σ H' F' ρ' → c.pr p = none → Same F F' → DpAll K F' xs out → Q (.ref p) H'
  | some (.ex e ρ') => ∀ cls x H' F', Ok K c σ H' F' ρ' → Same F F' → ExR K e cls x F' H' → W cls x σ H'
def tN (K : PySem.W.Frag) (W : WX) (m : M (List D)) : TE := fun σ H Q => ∃ c F ρ, Ok K c σ H F ρ ∧ postN K W c σ F Q (m ρ)
section
variable {X : Cx} {W : WX} {K : PySem.W.Frag} {σ : St} {H F : Hp} {ρ : En} {c : Ct}
theorem postN_weak {Q : VK} {F1 : Hp} (s : Same F F1) : ∀ {r : Option (R (List D))}, postN K W c σ F Q r → postN K W c σ F1 Q r
  | some (.ok a ρ'), h => fun p xs H' F' ok hp s' => h p xs H' F' ok hp (s.trans s')
  | some (.ex e ρ'), h => fun cls x H' F' ok s' => h cls x H' F' ok (s.trans s')
theorem postN_bind {α : Type} {Q : VK} {m : M α} {f : α → M (List D)} (h : postN K W c σ F Q (mBind m f ρ)) :
    post K W c σ F (fun a H1 F1 => ∃ ρ1, Ok K c σ H1 F1 ρ1 ∧ Same F F1 ∧ postN K W c σ F1 Q (f a ρ1)) (m ρ) := by
  unfold mBind at h
  cases e : m ρ with
  | none => rw [e] at h; exact h
  | some r =>
    rw [e] at h
    cases r with
    | ok a ρ' => exact fun H' F' ok s => ⟨ρ', ok, s, postN_weak s h⟩
    | ex x ρ' => exact h
theorem new_N {Q : VK} {vs : List V} {ds : List D} (ok : Ok K c σ H F ρ) (hd : DpAll K F vs ds) (q : postN K W c σ F Q (some (.ok ds ρ))) (p : Addr) (hp : H p = none) : Q (.ref p) (upd H p (.lst vs)) :=
  q p vs _ F (ok.allocP hp) (ok.new hp).2.2.1 (Same.refl F) hd
theorem postN_lift {Q : VK} {o : Option (List D)} (h : postN K W c σ F Q (mLift o ρ)) : ∃ a, o = some a ∧ postN K W c σ F Q (some (.ok a ρ)) := by
  unfold mLift at h
  cases o with
  | none => exact h.elim
  | some a => exact ⟨a, rfl, h⟩
def mVal (m : M (List D)) : M D := mBind m fun ds => mPure (.list ds)
theorem tE_N {m : M (List D)} {Q : VK} (h : tE K W (mVal m) σ H Q) : tN K W m σ H Q := by
  obtain ⟨c, F, ρ, ok, h⟩ := h
  refine ⟨c, F, ρ, ok, ?_⟩
  unfold mVal mBind at h
  cases e : m ρ with
  | none => rw [e] at h; exact h
  | some r =>
    rw [e] at h
    cases r with
    | ex x ρ' => exact h
    | ok out ρ' =>
      intro p xs H' F' ok' hp s' r
      obtain ⟨hH, hF, h0⟩ := ok'.prt p _ upd_same
      have s : Same F' (upd F' p (.lst xs)) := Same.updN hF
      exact h H' _ (ok'.freeP hp) (s'.trans s) _ (.lst (.inl upd_same) (DpAll.mono s r))
theorem dVal {e : Expr} {m : M (List D)} (h : PE X e (tN X.K W m)) : PE X e (tE X.K W (mVal m)) := PE.imp h fun _ _ _ => tE_N
def mAsgN (m : M (List D)) (i : Nat) : M Fl := mBind m fun ds => mBind (mStoreO i ds) fun _ => mDone
theorem asgN_of {m : M (List D)} {i : Nat} {Dn : Ends} (h : tS K W (mAsgN m i) Dn σ H) : tAsg (tN K W m) (gName i) Dn σ H := by
  obtain ⟨c, F, ρ, ok, h⟩ := h
  refine ⟨c, F, ρ, ok, ?_⟩
  unfold mAsgN mBind at h
  cases e : m ρ with
  | none => rw [e] at h; exact h.elim
  | some r =>
    rw [e] at h
    cases r with
    | ex x ρ' => exact fun cls y H' F' ok s r => h σ cls y H' F' ok s r
    | ok out ρ' =>
      intro p xs H' F' ok' hp s' r
      have h5 : postS K W c F Dn (mBind (mStoreO i out) (fun _ => mDone) ρ') := h
      have h6 := postS_bindG h5
      unfold mStoreO at h6
      split at h6
      · rename_i hl
        obtain ⟨F3, ρ3, ok3, s3, h7⟩ := h6 _ H' F' (ok'.ownP hp r hl) s'
        exact h7 _ _ _ ok3 (Same.refl F3)
      · exact h6.elim
theorem dsN {i : Nat} {x : Str} {pos pos' : Pos} {e : Expr} {m : M (List D)} (hN : X.N.Nodup) (he : PE X e (tN X.K W m)) (hi : X.N[i]? = some x := by rfl) (hx : Loc X.env.scope x := by first | exact Or.inl rfl | exact Or.inr rfl)
    (hs : swapsWith e (some (.Name x pos')) pos.line X.env = pure false := by rfl)
    (hf : X.fn x = true ∨ X.env.scope.names.lookup x = some .local := by first | exact .inl rfl | exact .inr rfl) : PS X (.Assign [.Name x pos'] e pos) (tS X.K W (mAsgN m i)) := PS.imp (ps_set hN hi hx he hs hf) fun _ _ _ => asgN_of
/-- a comprehension, as a new list; on one line with its name -/
theorem comp_N {mi : M (List D)} {vs : List Nat} {g : TG} {gD : D → M Unit} {mt : M Bool} {me : M D} (hg : CTg K vs g gD) {Q : VK}
    {tt : TT} (ht : ∀ σ H Q, tT K WF mt σ H Q → tt σ H Q) (h : tN K W (mComp vs mi gD mt me) σ H Q) : tLc (tI K W mi) g tt (tE K WF me) vs σ H Q := by
  obtain ⟨c, F, ρ, ok, h⟩ := h
  refine comp_core hg ht ok ?_
  unfold mComp at h
  refine post_mono ?_ (postN_bind h)
  rintro ds H1 F1 _ ⟨ρ1, ok1, s1, h1⟩
  unfold mRest at h1
  cases q : mGo vs gD mt me ds (unsE ρ1 vs) with
  | none => rw [q] at h1; exact h1.elim
  | some r =>
    rw [q] at h1
    cases r with
    | ex x ρ' => exact h1.elim
    | ok out ρe =>
      by_cases hf : fit ds.length = true
      · simp only [if_pos hf] at h1
        exact ⟨ρ1, ok1, hf, out, ρe, q, fun p acc H2 F2 hpr ok2 s2 da => h1 p acc H2 F2 ok2 hpr s2 da⟩
      · simp only [if_neg hf] at h1
        exact h1.elim
theorem dCompN {elt iter tg : Expr} {ifs : List Expr} {scope : Scope} {own : List (Str × Nat)} {pos : Pos} {mi : M (List D)} {g : TG} {gD : D → M Unit} {mt : M Bool} {me : M D} {tt : TT} (hc : X.calm = true) (hN : X.N.Nodup) (hi : PI X tg iter (tI X.K W mi)) (ok : BlkOk X.N X.env.scope scope own)
    (hg : ∀ (s : Shared) (H : Hp) (C : Addr) (cl : List (Str × Addr)) (fp : List Addr), PG (X.blk s H scope (compEnvC scope cl C X.env) fp) tg g) (ht : ∀ (s : Shared) (H : Hp) (C : Addr) (cl : List (Str × Addr)) (fp : List Addr), PTs (X.blk s H scope (compEnvC scope cl C X.env) fp) ifs tt)
    (he : ∀ (s : Shared) (H : Hp) (C : Addr) (cl : List (Str × Addr)) (fp : List Addr), PE (X.blk s H scope (compEnvC scope cl C X.env) fp) elt (tE X.K WF me)) (hG : CTg X.K (own.map (·.2)) g gD) (hT : ∀ σ H Q, tT X.K WF mt σ H Q → tt σ H Q)
    (hs : ∀ x, foldedSetIterable iter X.env x = pure x := by exact fun _ => rfl) : PE X (.ListComp elt [⟨tg, iter, ifs, 0⟩] scope pos) (tN X.K W (mComp (own.map (·.2)) mi gD mt me)) :=
  PE.imp (pe_lc hc hN hi ok hg ht he hs) fun _ _ _ => comp_N hG hT
theorem dsCompN {i : Nat} {y : Str} {py spos : Pos} {elt iter tg : Expr} {ifs : List Expr} {scope : Scope} {own : List (Str × Nat)} {pos : Pos} {mi : M (List D)} {g : TG} {gD : D → M Unit} {mt : M Bool} {me : M D} {tt : TT} (hc : X.calm = true) (hN : X.N.Nodup)
    (hsw : swapsWith (.ListComp elt [⟨tg, iter, ifs, 0⟩] scope pos) (some (.Name y py)) spos.line X.env = pure true) (hi : PI X tg iter (tI X.K W mi)) (ok : BlkOk X.N X.env.scope scope own)
    (hg : ∀ (s : Shared) (H : Hp) (C : Addr) (cl : List (Str × Addr)) (fp : List Addr), PG (X.blk s H scope (compEnvC scope cl C X.env) fp) tg g) (ht : ∀ (s : Shared) (H : Hp) (C : Addr) (cl : List (Str × Addr)) (fp : List Addr), PTs (X.blk s H scope (compEnvC scope cl C X.env) fp) ifs tt)
    (he : ∀ (s : Shared) (H : Hp) (C : Addr) (cl : List (Str × Addr)) (fp : List Addr), PE (X.blk s H scope (compEnvC scope cl C X.env) fp) elt (tE X.K WF me)) (hG : CTg X.K (own.map (·.2)) g gD) (hT : ∀ σ H Q, tT X.K WF mt σ H Q → tt σ H Q)
    (hy : X.N[i]? = some y := by rfl) (hyl : X.env.scope.names.lookup y = some .local := by rfl)
    (hs : ∀ x, foldedSetIterable iter X.env x = pure x := by exact fun _ => rfl) : PS X (.Assign [.Name y py] (.ListComp elt [⟨tg, iter, ifs, 0⟩] scope pos) spos) (tS X.K W (mAsgN (mComp (own.map (·.2)) mi gD mt me) i)) :=
  PS.imp (ps_setLc hc hN hy hyl hsw hi ok hg ht he hs) fun Dn σ H h => by
    have q := asgN_of h
    exact comp_N hG hT q
/-- list(..), sorted(..), .. -/
def CallN (K : PySem.W.Frag) (r : List V → Hp → VK → Prop) (g : List D → Option (List D)) : Prop :=
  ∀ {W : WX} {c : Ct} {σ : St} {H F : Hp} {ρ : En} {xs : List V} {ds : List D} {out : List D} {Q : VK}, Ok K c σ H F ρ → PkAll K H F xs ds → g ds = some out → postN K W c σ F Q (some (.ok out ρ)) → r xs H Q
def mCallN1 (g : List D → Option (List D)) (m : M D) : M (List D) := mBind m fun d => mLift (g [d])
variable {a : Expr} {ma mb : M D} {x : Str} {p pos : Pos} {id T : String} {r : List V → Hp → VK → Prop} {g : List D → Option (List D)}
theorem tCBN1 (hd : CallN K r g) {Q : VK} (h : tN K W (mCallN1 g ma) σ H Q) : tCB r (tCons (tP K W ma) tNil) σ H Q := by
  obtain ⟨c, F, ρ, ok, h⟩ := h
  refine ⟨c, F, ρ, ok, post_mono ?_ (postN_bind h)⟩
  rintro d H1 F1 _ ⟨ρ1, ok1, s1, h1⟩ x rx
  obtain ⟨d', e, h2⟩ := postN_lift h1
  exact hd ok1 (.cons rx .nil) e h2
theorem dTyN1 (hc : CallR X (.type T) r) (hd : CallN X.K r g) (hm : X.mg x = none) (hv : bootBuiltins x = some (.type T)) (ha : PE X a (tP X.K W ma)) (hg : Gl X x := by rfl) (hs : starEach (a :: []) X.env = (false, eval a X.env) :: starEach [] X.env := by rfl) (hn : x ≠ "__name__" := by decide) (hdb : (x == ("__debug__" : Str)) = false := by decide)
    (hpl : (backTo pos (starEach [] X.env)).any (·.1) = false := by rfl) : PE X (.Call (.Name x p) [a] [] pos) (tN X.K W (mCallN1 g ma)) :=
  PE.imp (pe_callTy hc hg hm hv (pa_cons ha pa_nil hs) hn hdb hs hpl) fun _ _ _ => tCBN1 hd
def listD : List D → Option (List D)
  | [.list ds] => some ds
  | [.tuple ds] => some ds
  | _ => none
theorem cn_list : CallN K (fun xs H Q => ∃ p ys, xs = [.ref p] ∧ (SqL K H p ys ∨ SqT K H p ys) ∧ ∀ l, H l = none → Q (.ref l) (upd H l (.lst ys))) listD := by
  intro W c σ H F ρ xs ds d Q ok rx e q
  unfold listD at e
  split at e
  · cases e
    obtain ⟨x, rfl, r⟩ := pk1 rx
    obtain ⟨p, vs, rfl, hp, dp⟩ := Pk.lst ok.sub r
    exact ⟨p, vs, rfl, .inl hp, fun l hl => new_N ok dp q l hl⟩
  · cases e
    obtain ⟨x, rfl, r⟩ := pk1 rx
    obtain ⟨p, vs, rfl, hp, dp⟩ := Pk.tup ok.sub r
    exact ⟨p, vs, rfl, .inr hp, fun l hl => new_N ok dp q l hl⟩
  · cases e
end
end Dd

namespace Dd
open PySem PySem.Spec L2
section
variable {X : Cx} {W : WX} {K : PySem.W.Frag} {σ : St} {H F : Hp} {ρ : En} {c : Ct}
/-! ### a tuple by 0, by 1 -/
theorem tuple_mul0 (l : Addr) (items : Array Value) (n : Nat) (dd : Option Addr) (sl : Array (Option Value)) (u : Tok) (c1 : items.isEmpty = false) :
    Meets (Builtin.«tuple.__mul__» ⟨[.ref l, .int 0 u], []⟩) (fun _ R s => s.heap.get? l = some { cls := .type "tuple", dict := dd, data := .seq items n, slots := sl } ∧
      R (.ok (.ret (Value.ref s.heap.objs.size))) { s with heap := s.heap.push { cls := Value.type "tuple", data := Data.seq #[] }, toks := s.toks }) :=
  .of_wp fun prog w A R s h => by
    obtain ⟨hp, g, d, tk, os⟩ := s
    obtain ⟨hl, h⟩ := h
    have f1 := AutoSeq1.idx_int
    have c1' : (items.isEmpty || (0 : Int) == 1) = false := by rw [c1]; rfl
    wp_walk using wpAny_loadPart' hl
    repeat (first
      | (refine wpAny_ite_false (decide_eq_false (by rw [c1']; exact Bool.false_ne_true)) ?_; wp_walk using wpAny_loadPart' hl))
    exact ⟨_, rfl, h⟩
theorem tuple_mul1 (l : Addr) (items : Array Value) (n : Nat) (dd : Option Addr) (sl : Array (Option Value)) (u : Tok) :
    Meets (Builtin.«tuple.__mul__» ⟨[.ref l, .int 1 u], []⟩) (fun _ R s => s.heap.get? l = some { cls := .type "tuple", dict := dd, data := .seq items n, slots := sl } ∧
      R (.ok (.ret (Value.ref l))) s) :=
  .of_wp fun prog w A R s h => by
    obtain ⟨hp, g, d, tk, os⟩ := s
    obtain ⟨hl, h⟩ := h
    have f1 := AutoSeq1.idx_int
    have c1' : (items.isEmpty || (1 : Int) == 1) = true := by simp
    wp_walk using wpAny_loadPart' hl
    repeat (first
      | (refine wpAny_ite_true (decide_eq_true (by rw [c1'])) ?_; wp_walk using wpAny_loadPart' hl))
    exact ⟨_, rfl, h⟩

def rRep01 (K : PySem.W.Frag) : R2 := fun x y H Q => ∃ l xs, x = .ref l ∧ SqT K H l xs ∧ xs ≠ [] ∧ ((y = .int 0 ∧ ∀ p, H p = none → Q (.ref p) (upd H p (.tup []))) ∨ (y = .int 1 ∧ Q (.ref l) H))
theorem op_rep01 : OpR X (binaryOp .Mult) (rRep01 X.K) := by
  intro pins s σ H vx vy v u Q I rx ry hh
  obtain ⟨l, xs, rfl, hT, hne, hh⟩ := hh
  cases rx
  obtain ⟨its, rr, ⟨⟨cls, dd, data, sl⟩, hob, hcl, n, hdt⟩, hsz⟩ := I.tuple hT
  simp only at hcl hdt
  subst hcl hdt
  have hemp : its.toArray.isEmpty = false := by
    cases its with
    | nil => exact absurd (List.eq_nil_of_length_eq_zero (by rw [rr.length]; rfl)) hne
    | cons _ _ => rfl
  rcases hh with ⟨rfl, q⟩ | ⟨rfl, q⟩
  · obtain ⟨t, rfl⟩ := ry
    refine wpAny_binaryOp_repeat_ref (T := "tuple") (U := "int") (by decide) ⟨_, hob, rfl⟩ (fun s' => typeIs_int s' 0 t) noFill_tuple_mul F.fills_int_mul F.slot_int_rmul repeat_tuple F.slot_int_index.lookup
      (call_meets F.slot_int_rmul (typeIs_int s 0 t) F.entry_int_rmul (F.args_int_rmul_2 _ _) (int_rmul_tuple 0 t l its.toArray n dd sl)
        ⟨hob, rfl, ⟨_, hob, rfl⟩, call_meets F.slot_tuple_mul ⟨_, hob, rfl⟩ F.entry_tuple_mul (F.args_tuple_mul_2 _ _) (tuple_mul0 l its.toArray n dd sl t hemp) ⟨hob, ?_⟩⟩)
    refine ⟨.ref s.heap.objs.size, _, I.laid (t' := s.toks) (o := .tup []) (fun b ob qq => Heap.get?_push_of_some _ qq) (Nat.le_refl _) ?_, rfl, q _ (I.hok.fresh (Nat.le_refl _))⟩
    exact ⟨Nat.zero_le _, [], .nil, PyProof.Rows.IsTup.new _ _⟩
  · obtain ⟨t, rfl⟩ := ry
    refine wpAny_binaryOp_repeat_ref (T := "tuple") (U := "int") (by decide) ⟨_, hob, rfl⟩ (fun s' => typeIs_int s' 1 t) noFill_tuple_mul F.fills_int_mul F.slot_int_rmul repeat_tuple F.slot_int_index.lookup
      (call_meets F.slot_int_rmul (typeIs_int s 1 t) F.entry_int_rmul (F.args_int_rmul_2 _ _) (int_rmul_tuple 1 t l its.toArray n dd sl)
        ⟨hob, rfl, ⟨_, hob, rfl⟩, call_meets F.slot_tuple_mul ⟨_, hob, rfl⟩ F.entry_tuple_mul (F.args_tuple_mul_2 _ _) (tuple_mul1 l its.toArray n dd sl t) ⟨hob, ?_⟩⟩)
    exact ⟨.ref l, H, I.tok _, rfl, q⟩
def repT : D → D → Option D
  | .tuple ds, .int k => if ds.isEmpty = true then none else if k = 0 then some (.tuple []) else if k = 1 then some (.tuple ds) else none
  | _, _ => none
theorem opD_repT : OpD K (rRep01 K) repT := by
  intro W c σ H F ρ x y a b d Q ok rx ry e q
  unfold repT at e
  split at e
  · rename_i ds k
    obtain ⟨p, vs, rfl, hp, dp⟩ := Pk.tup ok.sub rx
    by_cases he : ds.isEmpty = true
    · rw [if_pos he] at e; cases e
    · rw [if_neg he] at e
      have hne : vs ≠ [] := fun z => by
        subst z
        cases dp
        exact he rfl
      by_cases h0 : k = 0
      · rw [if_pos h0] at e
        cases e
        subst h0
        exact ⟨p, vs, rfl, hp, hne, .inl ⟨ry.int, fun l hl => new_tup ok .nil q l hl⟩⟩
      · rw [if_neg h0] at e
        by_cases h1 : k = 1
        · rw [if_pos h1] at e
          cases e
          subst h1
          refine ⟨p, vs, rfl, hp, hne, .inr ⟨ry.int, ?_⟩⟩
          rcases rx with rx | ⟨_, _, _, _, e, _⟩
          · exact post_ok q ok _ rx
          · cases e
        · rw [if_neg h1] at e
          cases e
  · cases e
/-- a list by an int -/
theorem DpAll.rep {vs : List V} {ds : List D} (h : DpAll K F vs ds) : ∀ k : Nat, DpAll K F (List.replicate k vs).flatten (List.replicate k ds).flatten
  | 0 => .nil
  | k + 1 => by
    rw [List.replicate_succ, List.replicate_succ, List.flatten_cons, List.flatten_cons]
    exact DpAll.append h (DpAll.rep h k)
def repLD : D → D → Option (List D)
  | .list ds, .int k => if (decide (k.natAbs < 9223372036854775808) && fit (ds.length * k.toNat)) = true then some (List.replicate k.toNat ds).flatten else none
  | _, _ => none
/-- [..] * k: the list is a display -/
def mRepN (ms : M (List D)) (mk : M D) : M (List D) := mBind ms fun ds => mBind (mLift (if fit ds.length = true then some ds else none)) fun ds => mBind mk fun k => mLift (repLD (.list ds) k)
theorem ok_unput {p : Addr} {o : HO} (ok : Ok K (c.put p o) σ H F ρ) (hp : c.pr p = none) : Ok K c σ H F ρ := by
  have nown : ∀ {q : Addr}, (c.put p o).pr q = none → q ≠ p := fun {q} a z => by
    subst z
    have a' : upd c.pr q o q = none := a
    rw [upd_same] at a'; cases a'
  refine ⟨ok.len, ok.sub, ok.ge, ok.fe, ok.keep, fun q e => ?_, fun b u e => ?_, ok.val, fun j es e => ?_, ok.ios, ok.scr, ok.sep, ok.dcs.tr (Same.refl F) fun q ws a1 a2 a3 a4 _ _ => ⟨a1, a2, (upd_ne (nown a4)).symm.trans a4⟩⟩
  · obtain ⟨a1, a2, a3, a4⟩ := ok.iod q e
    exact ⟨a1, a2, (upd_ne (nown a3)).symm.trans a3, a4⟩
  · have ne : b ≠ p := fun z => by subst z; rw [hp] at e; cases e
    exact ok.prt b u ((upd_ne ne).trans e)
  · obtain ⟨q, vs, a1, a2, a3, a4, a5, a6⟩ := ok.own j es e
    exact ⟨q, vs, a1, a2, a3, a4, a5, (upd_ne (nown a6)).symm.trans a6⟩
theorem rep_of {ms : M (List D)} {mk : M D} {Q : VK} (h : tN K W (mRepN ms mk) σ H Q) : tOp rRep (tLst (tA K W ms)) (tE K W mk) σ H Q := by
  obtain ⟨c, F, ρ, ok, h⟩ := h
  refine ⟨c, F, ρ, ok, post_mono ?_ (postN_bind h)⟩
  rintro ds H1 F1 _ ⟨ρ1, ok1, s1, h1⟩ xs rx
  obtain ⟨ds', e, h2⟩ := post_lift (postN_bind h1)
  split at e
  · rename_i hf
    cases e
    refine ⟨by rw [DpAll.length rx]; exact fit_le hf, fun p hp => ?_⟩
    obtain ⟨ρ2, ok2, s2, h3⟩ := h2 H1 F1 ok1 (Same.refl F1)
    have hpr := (ok2.new hp).2.2.1
    refine ⟨c.put p (.lst xs), F1, ρ2, ok2.allocP hp, ?_⟩
    have h4 := postN_bind h3
    cases e2 : mk ρ2 with
    | none => rw [e2] at h4; exact h4.elim
    | some r =>
      rw [e2] at h4
      cases r with
      | ex y ρ3 => exact fun cls z H' F' ok' s' r => h4 cls z H' F' (ok_unput ok' hpr) s' r
      | ok kd ρ3 =>
        intro H' F' ok' s' kv rk
        obtain ⟨ρ4, ok4, s4, h5⟩ := h4 H' F' (ok_unput ok' hpr) s'
        obtain ⟨out, e3, h6⟩ := postN_lift h5
        cases kd with
        | int k =>
          cases rk
          unfold repLD at e3
          simp only at e3
          split at e3
          · rename_i hb
            cases e3
            simp only [Bool.and_eq_true] at hb
            refine ⟨p, k, xs, rfl, rfl, (ok'.prt p _ upd_same).1, by have := of_decide_eq_true hb.1; omega, by have := of_decide_eq_true hb.1; omega, by rw [DpAll.length rx]; exact fit_le hb.2, fun l hl => ?_⟩
            exact new_N ok4 (DpAll.rep (DpAll.mono s' rx) k.toNat) h6 l hl
          · cases e3
        | none => cases e3
        | bool _ => cases e3
        | str _ => cases e3
        | list _ => cases e3
        | tuple _ => cases e3
        | dict _ => cases e3
  · cases e
theorem dRepN {es : List Expr} {lp pos : Pos} {b : Expr} {ms : M (List D)} {mk : M D} (ha : PA X es (tA X.K W ms)) (hb : PE X b (tE X.K W mk)) : PE X (.BinOp (.List es lp) .Mult b pos) (tN X.K W (mRepN ms mk)) := PE.imp (pe_op op_rep (pe_lst ha) hb) fun _ _ _ => rep_of
def mulD : D → D → Option D := oOr mulI repT
def rMulA (K : PySem.W.Frag) : R2 := fun x y H Q => rI CMul (fun i j => .int (i * j)) x y H Q ∨ rRep01 K x y H Q
theorem opD_mul : OpD K (rMulA K) mulD := opD_or (opD_Ic cMul_ok fun _ _ _ => .int _) opD_repT
theorem or_mulA : OpR X (binaryOp .Mult) (rMulA X.K) := OpR.or op_mul op_rep01
/-! ### a, b = x, y -/
variable {i j : Nat} {x y : Str} {a b : Expr} {ma mb : M D} {px py pt pos : Pos} {kt k2 : Nat} {pt2 : Pos}
def mParEE (i j : Nat) (ma mb : M D) : M Fl := mBind ma fun a => mBind mb fun b => mBind (mStore i a) fun _ => mBind (mStore j b) fun _ => mDone
theorem parEE_of {Dn : Ends} (h : tS K W (mParEE i j ma mb) Dn σ H) : tPar i j (tCons (tE K W ma) (tCons (tE K W mb) tNil)) Dn σ H := by
  obtain ⟨c, F, ρ, ok, h⟩ := h
  refine ⟨c, F, ρ, ok, post_mono ?_ (postS_bind h)⟩
  rintro d1 H1 F1 _ ⟨ρ1, ok1, s1, h1⟩ v1 r1
  refine ⟨c, F1, ρ1, ok1, post_mono ?_ (postS_bind h1)⟩
  rintro d2 H2 F2 _ ⟨ρ2, ok2, s2, h2⟩ v2 r2
  refine ⟨v1, v2, rfl, ?_⟩
  have h3 := postS_bindG h2
  unfold mStore at h3
  split at h3
  · rename_i hl
    obtain ⟨F3, ρ3, ok3, s3, h4⟩ := h3 _ H2 F2 (ok2.setV hl (Dp.mono s2 r1)) (Same.refl F2)
    have h5 := postS_bindG h4
    unfold mStore at h5
    split at h5
    · rename_i hl2
      obtain ⟨F4, ρ4, ok4, s4, h6⟩ := h5 _ H2 F3 (ok3.setV hl2 (Dp.mono s3 r2)) (Same.refl F3)
      exact h6 _ _ _ ok4 (Same.refl F4)
    · exact h5.elim
  · exact h3.elim
theorem dParEE (hc : X.calm = true) (hN : X.N.Nodup) (hij : i ≠ j) (ha : PE X a (tE X.K W ma)) (hb : PE X b (tE X.K W mb)) (hi : X.N[i]? = some x := by rfl) (hj : X.N[j]? = some y := by rfl)
    (hx : X.env.scope.names.lookup x = some .local := by rfl) (hy : X.env.scope.names.lookup y = some .local := by rfl)
    (hw : swappedStores [.Tuple [.Name x px, .Name y py] kt pt] (.Tuple [a, b] k2 pt2) X.env = pure (some [x, y]) := by rfl)
    (hs : swapsWithSole [.Tuple [.Name x px, .Name y py] kt pt] (.Tuple [a, b] k2 pt2) pos.line X.env = pure false := by rfl)
    (hs1 : starEach [a, b] X.env = (false, eval a X.env) :: starEach [b] X.env := by rfl) (hs2 : starEach [b] X.env = (false, eval b X.env) :: starEach [] X.env := by rfl) :
    PS X (.Assign [.Tuple [.Name x px, .Name y py] kt pt] (.Tuple [a, b] k2 pt2) pos) (tS X.K W (mParEE i j ma mb)) :=
  PS.imp (ps_par hc hN hi hj hij hx hy (pa_cons ha (pa_cons hb pa_nil hs2) hs1) hw hs) fun _ _ _ => parEE_of
/-- .. the second a new list -/
def mParEN (i j : Nat) (ma : M D) (mb : M (List D)) : M Fl := mBind ma fun a => mBind mb fun b => mBind (mStore i a) fun _ => mBind (mStoreO j b) fun _ => mDone
/-- a new list, written -/
theorem dLstN {es : List Expr} {ms : M (List D)} {pos : Pos} (h : PA X es (tA X.K W ms)) : PE X (.List es pos) (tN X.K W (mBind ms fun ds => mLift (if fit ds.length = true then some ds else none))) := PE.imp (pe_lst h) (by
  rintro σ H Q ⟨c, F, ρ, ok, h⟩
  refine ⟨c, F, ρ, ok, post_mono ?_ (postN_bind h)⟩
  rintro ds H1 F1 _ ⟨ρ1, ok1, s1, h1⟩ xs rx
  obtain ⟨d, e, h2⟩ := postN_lift h1
  split at e
  · rename_i hf
    cases e
    exact ⟨by rw [DpAll.length rx]; exact fit_le hf, fun p hp => new_N ok1 rx h2 p hp⟩
  · cases e)
end
/-! ### calls, in short -/
section
variable {X : Cx} {W : WX} {k n : Nat} {f : Addr} {fd : FuncData} {ps : List Str} {x : Str} {p pos : Pos} {e : Expr} {es : List Expr} {ms : M (List D)}
end
theorem hCX0 {P : Program} {w : World} {H : Hp} {s : Shared} {e : Value} {s' : Shared} (h : L2.CX P w [] H s (fun _ _ _ => False) e s') : False := by
  obtain ⟨_, _, _, _, _, _, _, _, _, _, _, _, z⟩ := h
  exact z
theorem b_len : bootBuiltins "len" = some (.builtin "len") := by decide +kernel
theorem b_int : bootBuiltins "int" = some (.type "int") := by decide +kernel
theorem b_bool : bootBuiltins "bool" = some (.type "bool") := by decide +kernel
theorem b_str : bootBuiltins "str" = some (.type "str") := by decide +kernel
theorem b_tuple : bootBuiltins "tuple" = some (.type "tuple") := by decide +kernel
theorem b_list : bootBuiltins "list" = some (.type "list") := by decide +kernel
theorem b_sum : bootBuiltins "sum" = some (.builtin "sum") := by decide +kernel
theorem b_all : bootBuiltins "all" = some (.builtin "all") := by decide +kernel
theorem b_min : bootBuiltins "min" = some (.builtin "min") := by decide +kernel
theorem b_max : bootBuiltins "max" = some (.builtin "max") := by decide +kernel
theorem b_repr : bootBuiltins "repr" = some (.builtin "repr") := by decide +kernel
theorem i_int : isiOk "int" = true := by decide +kernel
theorem i_bool : isiOk "bool" = true := by decide +kernel
theorem i_str : isiOk "str" = true := by decide +kernel
theorem i_tuple : isiOk "tuple" = true := by decide +kernel
end Dd

namespace Dd
open PySem PySem.Spec L2
def gsNil : List D → M Unit
  | [] => mPure ()
  | _ => mStuck
def mLstN (ms : M (List D)) : M (List D) := mBind ms fun ds => mLift (if fit ds.length = true then some ds else none)
section
variable {X : Cx} {W : WX} {K : PySem.W.Frag}
theorem dgsNil2 : PGs X [] (tGs X.K W gsNil) := PGs.imp pgs_nil (by
  rintro vs σ H Q ⟨c, F, ρ, ds, ok, r, h⟩
  cases r with
  | nil => exact ⟨rfl, h σ H F ok (Same.refl F)⟩
  | cons _ _ => exact h.elim)
theorem opD_addI : OpD K (rI0 fun i j => .int (i + j)) (iI fun i j => .int (i + j)) := opD_I fun _ _ _ => .int _
end
end Dd

namespace Dd
open PySem PySem.Spec L2
/-! ### a def by its body, its scope and its statements spelled out -/
section
variable {P : Program} {w : World} {K : PySem.W.Frag} {mg : Str → Option Value} {base : Heap} {x qual : Str} {st : Stmt} {f : Addr} {fd : FuncData} {N ps : List Str} {k : Nat} {m : M Fl} {sc : Scope} {bd : List Stmt}
end
end Dd

namespace Dd
open PySem PySem.Spec L2
/-! ### reasoning about runs -/
theorem bind_is {α β : Type} {m : M α} {f : α → M β} {ρ ρ' : En} {a : α} (h : m ρ = some (.ok a ρ')) : mBind m f ρ = f a ρ' := by
  unfold mBind; rw [h]
theorem seq_nx {m1 m2 : M Fl} {ρ ρ' : En} (h : m1 ρ = some (.ok .nx ρ')) : mSeq m1 m2 ρ = m2 ρ' := bind_is h
/-- a loop by an invariant over its turns; no turn leaves it -/
theorem forL_ix {g : D → M Unit} {body : M Fl} (P : Nat → En → Prop) : ∀ (ds : List D) (i : Nat) (ρ : En), P i ρ →
    (∀ j d ρ, ds[j]? = some d → P (i + j) ρ → ∃ ρ1 ρ2, g d ρ = some (.ok () ρ1) ∧ (body ρ1 = some (.ok .nx ρ2) ∨ body ρ1 = some (.ok .ct ρ2)) ∧ P (i + j + 1) ρ2) →
    ∃ ρ', mForL g body ds ρ = some (.ok .nx ρ') ∧ P (i + ds.length) ρ'
  | [], i, ρ, p, _ => ⟨ρ, rfl, p⟩
  | d :: ds, i, ρ, p, h => by
    obtain ⟨ρ1, ρ2, e1, e2, p2⟩ := h 0 d ρ rfl p
    obtain ⟨ρ', e3, p3⟩ := forL_ix P ds (i + 1) ρ2 p2 fun j d' ρ' e q => by
      obtain ⟨a, b, c1, c2, c3⟩ := h (j + 1) d' ρ' (by simpa using e) (by rw [show i + (j + 1) = i + 1 + j from by omega]; exact q)
      exact ⟨a, b, c1, c2, by rw [show i + 1 + j + 1 = i + (j + 1) + 1 from by omega]; exact c3⟩
    refine ⟨ρ', ?_, by rw [List.length_cons, show i + (ds.length + 1) = i + 1 + ds.length from by omega]; exact p3⟩
    unfold mForL
    rw [bind_is e1]
    rcases e2 with e2 | e2 <;> (rw [bind_is e2]; exact e3)
theorem forL_inv {g : D → M Unit} {body : M Fl} (P : En → Prop) (ds : List D) (ρ : En) (p : P ρ)
    (h : ∀ d ρ, d ∈ ds → P ρ → ∃ ρ1 ρ2, g d ρ = some (.ok () ρ1) ∧ (body ρ1 = some (.ok .nx ρ2) ∨ body ρ1 = some (.ok .ct ρ2)) ∧ P ρ2) :
    ∃ ρ', mForL g body ds ρ = some (.ok .nx ρ') ∧ P ρ' := by
  obtain ⟨ρ', e, q⟩ := forL_ix (fun _ => P) ds 0 ρ p fun j d ρ e q => h d ρ (List.mem_of_getElem? e) q
  exact ⟨ρ', e, q⟩
theorem comp_is {vs : List Nat} {mi : M (List D)} {g : D → M Unit} {tt : M Bool} {te : M D} {ρ ρ1 ρe : En} {ds out : List D} (h1 : mi ρ = some (.ok ds ρ1)) (h2 : fit ds.length = true) (h3 : mGo vs g tt te ds (unsE ρ1 vs) = some (.ok out ρe)) :
    mComp vs mi g tt te ρ = some (.ok out (unsE ρe vs)) := by
  unfold mComp
  rw [bind_is h1]
  unfold mRest
  rw [h3]
  simp only [if_pos h2]
theorem atI_nat' {α : Type} {xs : List α} {i : Int} {v : α} (h0 : 0 ≤ i) (h : xs[i.toNat]? = some v) : atI xs i = some v := by
  have := atI_nat h
  rwa [Int.toNat_of_nonneg h0] at this
theorem rngL_mem {lo hi : Int} {d : D} (h : d ∈ rngL lo hi) : ∃ i : Int, d = .int i ∧ lo ≤ i ∧ i < hi := by
  obtain ⟨i, e⟩ := List.getElem?_of_mem h
  obtain ⟨e1, e2⟩ := rngL_get e
  exact ⟨_, e1, by omega, by omega⟩
def isiS (T t : String) : Bool := match kitB t T with
  | some b => b
  | none => false
theorem isiT_eq {T : String} {d : D} : isiT T d = isiS T (typD d) := rfl
theorem isi_int_NoneType : isiS "int" "NoneType" = false := by decide +kernel
theorem isi_int_bool : isiS "int" "bool" = true := by decide +kernel
theorem isi_int_int : isiS "int" "int" = true := by decide +kernel
theorem isi_int_str : isiS "int" "str" = false := by decide +kernel
theorem isi_int_list : isiS "int" "list" = false := by decide +kernel
theorem isi_int_tuple : isiS "int" "tuple" = false := by decide +kernel
theorem isi_int_dict : isiS "int" "dict" = false := by decide +kernel
theorem isi_int_dictT {kvs : List (D × D)} : isiS "int" (dictT kvs) = false := by
  unfold dictT
  split <;> decide +kernel
theorem isi_bool_NoneType : isiS "bool" "NoneType" = false := by decide +kernel
theorem isi_bool_bool : isiS "bool" "bool" = true := by decide +kernel
theorem isi_bool_int : isiS "bool" "int" = false := by decide +kernel
theorem isi_bool_str : isiS "bool" "str" = false := by decide +kernel
theorem isi_bool_list : isiS "bool" "list" = false := by decide +kernel
theorem isi_bool_tuple : isiS "bool" "tuple" = false := by decide +kernel
theorem isi_bool_dict : isiS "bool" "dict" = false := by decide +kernel
theorem isi_bool_dictT {kvs : List (D × D)} : isiS "bool" (dictT kvs) = false := by
  unfold dictT
  split <;> decide +kernel
theorem isi_str_NoneType : isiS "str" "NoneType" = false := by decide +kernel
theorem isi_str_bool : isiS "str" "bool" = false := by decide +kernel
theorem isi_str_int : isiS "str" "int" = false := by decide +kernel
theorem isi_str_str : isiS "str" "str" = true := by decide +kernel
theorem isi_str_list : isiS "str" "list" = false := by decide +kernel
theorem isi_str_tuple : isiS "str" "tuple" = false := by decide +kernel
theorem isi_str_dict : isiS "str" "dict" = false := by decide +kernel
theorem isi_str_dictT {kvs : List (D × D)} : isiS "str" (dictT kvs) = false := by
  unfold dictT
  split <;> decide +kernel
theorem isi_list_NoneType : isiS "list" "NoneType" = false := by decide +kernel
theorem isi_list_bool : isiS "list" "bool" = false := by decide +kernel
theorem isi_list_int : isiS "list" "int" = false := by decide +kernel
theorem isi_list_str : isiS "list" "str" = false := by decide +kernel
theorem isi_list_list : isiS "list" "list" = true := by decide +kernel
theorem isi_list_tuple : isiS "list" "tuple" = false := by decide +kernel
theorem isi_list_dict : isiS "list" "dict" = false := by decide +kernel
theorem isi_list_dictT {kvs : List (D × D)} : isiS "list" (dictT kvs) = false := by
  unfold dictT
  split <;> decide +kernel
theorem isi_tuple_NoneType : isiS "tuple" "NoneType" = false := by decide +kernel
theorem isi_tuple_bool : isiS "tuple" "bool" = false := by decide +kernel
theorem isi_tuple_int : isiS "tuple" "int" = false := by decide +kernel
theorem isi_tuple_str : isiS "tuple" "str" = false := by decide +kernel
theorem isi_tuple_list : isiS "tuple" "list" = false := by decide +kernel
theorem isi_tuple_tuple : isiS "tuple" "tuple" = true := by decide +kernel
theorem isi_tuple_dict : isiS "tuple" "dict" = false := by decide +kernel
theorem isi_tuple_dictT {kvs : List (D × D)} : isiS "tuple" (dictT kvs) = false := by
  unfold dictT
  split <;> decide +kernel
theorem isi_dict_NoneType : isiS "dict" "NoneType" = false := by decide +kernel
theorem isi_dict_bool : isiS "dict" "bool" = false := by decide +kernel
theorem isi_dict_int : isiS "dict" "int" = false := by decide +kernel
theorem isi_dict_str : isiS "dict" "str" = false := by decide +kernel
theorem isi_dict_list : isiS "dict" "list" = false := by decide +kernel
theorem isi_dict_tuple : isiS "dict" "tuple" = false := by decide +kernel
theorem isi_dict_dict : isiS "dict" "dict" = true := by decide +kernel
theorem toBools_mapf {α : Type} (p : α → Bool) : ∀ (ds : List α), toBools (ds.map fun x => PyData.bool (p x)) = some (ds.map p)
  | [] => rfl
  | d :: ds => by
    show (toBools (ds.map fun x => PyData.bool (p x))).map (p d :: ·) = _
    rw [toBools_mapf p ds]; rfl
theorem sh_int (i : Int) : SeqAt.shaped (.int i) = true := by simp [SeqAt.shaped, PyData.canLay0, PyData.depth]
theorem eq_int (i j : Int) : eqD (.int i) (.int j) = some (.bool (decide (i = j))) := by
  have e : PyData.eqv (.int i) (.int j) = decide (i = j) := by
    simp only [PyData.eqv]
    by_cases h : i = j <;> simp [h]
  simp [eqD, sh_int, e]
/-- data whose lists go at most n deep, all texts laid -/
def Sh (n : Nat) (d : D) : Prop := d.canLay0 = true ∧ d.depth ≤ n
theorem Sh.shaped {n : Nat} {d : D} (h : Sh n d) (hn : n ≤ 64) : SeqAt.shaped d = true := by
  simp only [SeqAt.shaped, Bool.and_eq_true, decide_eq_true_eq]
  exact ⟨h.1, by have := h.2; omega⟩
theorem Sh.mono {n m : Nat} {d : D} (h : Sh n d) (hn : n ≤ m) : Sh m d := ⟨h.1, Nat.le_trans h.2 hn⟩
theorem Sh.int (i : Int) : Sh 0 (.int i) := ⟨by simp [PyData.canLay0], by simp [PyData.depth]⟩
theorem Sh.bool (i : Bool) : Sh 0 (.bool i) := ⟨by simp [PyData.canLay0], by simp [PyData.depth]⟩
theorem Sh.none : Sh 0 .none := ⟨by simp [PyData.canLay0], by simp [PyData.depth]⟩
theorem sh_all {n : Nat} : ∀ {ds : List D}, (∀ d ∈ ds, Sh n d) → PyData.canLayAll0 ds = true ∧ PyData.depthAll ds ≤ n
  | [], _ => ⟨by simp [PyData.canLayAll0], by simp [PyData.depthAll]⟩
  | d :: ds, h => by
    obtain ⟨a, b⟩ := h d List.mem_cons_self
    obtain ⟨a', b'⟩ := sh_all (ds := ds) fun x hx => h x (List.mem_cons_of_mem _ hx)
    refine ⟨by simp only [PyData.canLayAll0, a, a', Bool.and_self], ?_⟩
    simp only [PyData.depthAll]
    omega
theorem Sh.list {n : Nat} {ds : List D} (h : ∀ d ∈ ds, Sh n d) : Sh (n + 1) (.list ds) := by
  obtain ⟨a, b⟩ := sh_all h
  exact ⟨by simp only [PyData.canLay0, a], by simp only [PyData.depth]; omega⟩
theorem Sh.tuple {n : Nat} {ds : List D} (h : ∀ d ∈ ds, Sh n d) : Sh (n + 1) (.tuple ds) := by
  obtain ⟨a, b⟩ := sh_all h
  exact ⟨by simp only [PyData.canLay0, a], by simp only [PyData.depth]; omega⟩
theorem Sh.ints (ns : List Int) : Sh 1 (.list (ns.map PyData.int)) := Sh.list fun d hd => by
  obtain ⟨i, _, rfl⟩ := List.mem_map.mp hd
  exact Sh.int i
theorem eq_sh {n m : Nat} {a b : D} (ha : Sh n a) (hb : Sh m b) (hn : n ≤ 64) (hm : m ≤ 64) : eqD a b = some (.bool (PyData.eqv a b)) := by
  simp [eqD, ha.shaped hn, hb.shaped hm]
theorem ne_sh {n m : Nat} {a b : D} (ha : Sh n a) (hb : Sh m b) (hn : n ≤ 64) (hm : m ≤ 64) : neD a b = some (.bool (!PyData.eqv a b)) := by
  simp [neD, ha.shaped hn, hb.shaped hm]
theorem rng1_is {ms : M (List D)} {ρ ρ1 : En} {j : Int} (h : ms ρ = some (.ok [.int j] ρ1)) (hj : rngOk j = true) : mRng1 ms ρ = some (.ok (rngL 0 j) ρ1) := by
  unfold mRng1
  rw [bind_is h]
  have e : rngD1 [.int j] = some (rngL 0 j) := by
    show (if rngOk j = true then some (rngL 0 j) else none) = _
    rw [hj]; rfl
  rw [e]; rfl
theorem rngOk_le {i : Int} (h0 : -1000000000000 ≤ i) (h1 : i ≤ 1000000000000) : rngOk i = true := by
  unfold rngOk
  exact decide_eq_true (by omega)
end Dd

namespace Dd
open PySem PySem.Spec L2
section
variable {X : Cx} {W : WX} {K : PySem.W.Frag}
variable {a : Expr} {m : M D} {p pos tpos : Pos} {es : List Expr} {Ts : List String} {k : Nat}
end
/-! ### a def that calls itself -/
section
variable {P : Program} {w : World} {K : PySem.W.Frag} {mg : Str → Option Value} {base : Heap} {j n : Nat} {f : Addr} {fd : FuncData} {ps : List Str}
end
end Dd

namespace Dd
open PySem PySem.Spec L2
open Classical in
section
variable {X : Cx} {K : PySem.W.Frag}
end
def pairD (p : Int × Int) : D := .tuple [.int p.1, .int p.2]
section
variable {K : PySem.W.Frag}
abbrev RP (K : PySem.W.Frag) (F : Hp) (x : V) (p : Int × Int) : Prop := Dp K F x (pairD p)
end
end Dd

namespace Dd
open PySem PySem.Spec L2
/-! ### a, b = a new list, a constant -/
section
variable {X : Cx} {W : WX} {K : PySem.W.Frag} {σ : St} {H : Hp} {i j : Nat} {x y : Str} {a b : Expr} {mn : M (List D)} {px py pt pos : Pos} {kt k2 : Nat} {pt2 : Pos} {v : V} {d : D}
def mParNC (i j : Nat) (mn : M (List D)) (d : D) : M Fl := mBind mn fun out => mBind (mStoreO i out) fun _ => mBind (mStore j d) fun _ => mDone
end
/-! ### range, downwards -/
section
variable {X : Cx} {W : WX} {K : PySem.W.Frag} {tg a b e : Expr} {ms : M (List D)} {p pos : Pos}
end
end Dd

namespace Dd
open PySem PySem.Spec L2
/-! ### *e in a display -/
section
variable {X : Cx} {W : WX} {K : PySem.W.Frag} {a : Expr} {es : List Expr} {p : Pos} {ma : M D} {mr : M (List D)}
end
end Dd

namespace Dd
open PySem PySem.Spec L2
/-! ### a, b, .. = a list -/
section
variable {X : Cx} {W : WX} {pos : Pos}
end
end Dd

namespace Dd
open PySem PySem.Spec L2 PySem.W
/-! ### min(a list of ints, default=d) -/
def rMinDef (K : PySem.W.Frag) : List V → List V → Hp → VK → Prop := fun vs zs H Q => ∃ (a : Addr) (ns : List Int) (d : V), vs = [V.ref a] ∧ zs = [d] ∧ SqL K H a (ns.map V.int) ∧
  Q (match ns with | [] => d | n :: r => .int (r.foldl min n)) H
theorem alikeAll_ints (ns : List Int) : AlikeAll (ns.map PyData.int) := by
  refine ⟨fun x hx y hy => ?_, fun x hx => ?_⟩
  · obtain ⟨i, _, rfl⟩ := List.mem_map.mp hx
    obtain ⟨j, _, rfl⟩ := List.mem_map.mp hy
    rfl
  · obtain ⟨i, _, rfl⟩ := List.mem_map.mp hx
    exact fun z => by cases z
theorem depth_ints : ∀ ns : List Int, PyData.depthAll (ns.map PyData.int) = 0
  | [] => by simp [PyData.depthAll]
  | n :: ns => by
    rw [List.map_cons]
    simp [PyData.depthAll, PyData.depth, depth_ints ns]
section
variable {X : Cx}
theorem cr_minDef (hc : X.calm = true) (hu : X.A.units + 64 < cLine) : CallRK X (.builtin "min") [Str.ofString "default"] (rMinDef X.K) := by
  intro pins s σ H xs zs us ws Q I rx rz h
  obtain ⟨a, ns, d, rfl, rfl, hs, q⟩ := h
  obtain ⟨its, rv, hl, hz⟩ := I.list hs
  obtain ⟨u, rfl, ru⟩ := vals1 rx
  obtain rfl : u = Value.ref a := ru
  obtain ⟨w, rfl, rw'⟩ := vals1 rz
  have hi := rv.ints
  show wpAny _ _ (call (.builtin "min") [.ref a] [(Str.ofString "default", w)]) _ _ s
  refine min_list_default (I.ok.hd hc) hl.isList (xs := ns.map PyData.int) (as := []) (PyProof.Rows.ints_readAll s.heap hi) (alikeAll_ints ns) (by rw [depth_ints]; omega) (fun e h' tk hk => ?_) fun y ys i v h' tk bs e hv hr hk => ?_
  · have e' : ns = [] := by cases ns with
      | nil => rfl
      | cons n r => cases e
    subst e'
    exact ⟨d, H, I.kept (t' := tk) hk, rw', q⟩
  · cases ns with
    | nil => cases e
    | cons n r =>
      injection e with e1 e2
      subst e1 e2
      rw [minD_ints] at hr
      cases hr
      exact ⟨.int (r.foldl min n), H, I.kept (t' := tk) hk, ⟨_, rfl⟩, q⟩
variable {W : WX} {a : Expr} {m : M D} {p pos kp np : Pos} {jj : Nat}
end
end Dd

namespace Dd
open PySem PySem.Spec L2
/-! ### slices -/
def cutL (ds : List D) (lo hi : Option Int) : List D := (ds.drop (HT.sIx ds.length 0 lo)).take (HT.sIx ds.length ds.length hi - HT.sIx ds.length 0 lo)
def slD : D → Option Int → Option Int → Option D
  | .list ds, lo, hi => some (.list (cutL ds lo hi))
  | .tuple ds, lo, hi => some (.tuple (cutL ds lo hi))
  | .str z, lo, hi => if fit z.length = true then some (.str (cutS z lo hi)) else none
  | _, _, _ => none
def intO : D → Option (Option Int)
  | .int i => some (some i)
  | _ => none
def mNoPart : M (Option Int) := mPure none
def mPart (m : M D) : M (Option Int) := mBind m fun d => mLift (intO d)
section
variable {X : Cx} {W : WX} {K : PySem.W.Frag} {σ : St} {H F : Hp} {ρ : En} {c : Ct}
def tO (K : PySem.W.Frag) (W : WX) (m : M (Option Int)) : TO := fun σ H Q => ∃ c F ρ, Ok K c σ H F ρ ∧ post K W c σ F (fun o H' _ => Q o H') (m ρ)
theorem PO.imp {e : Option Expr} {t t' : TO} (h : PO X e t) (k : ∀ σ H Q, t' σ H Q → t σ H Q) : PO X e t' := ⟨fun pins s σ H Q I q => h.run pins s σ H Q I (k σ H Q q)⟩
theorem dNoPart : PO X none (tO X.K W mNoPart) := PO.imp po_none (by
  rintro σ H Q ⟨c, F, ρ, ok, h⟩
  exact post_ok h ok)
theorem dPart {e : Expr} {m : M D} (h : PE X e (tE X.K W m)) : PO X (some e) (tO X.K W (mPart m)) := PO.imp (po_some h) (by
  rintro σ H Q ⟨c, F, ρ, ok, h⟩
  refine ⟨c, F, ρ, ok, post_mono ?_ (post_bind h)⟩
  rintro d H1 F1 _ ⟨ρ1, ok1, s1, h1⟩ v rv
  obtain ⟨o, e, h2⟩ := post_lift h1
  cases d with
  | int i =>
    cases e
    cases rv
    exact ⟨i, rfl, post_ok h2 ok1⟩
  | _ => cases e)
theorem DpAll.cut {vs : List V} {ds : List D} (h : DpAll K F vs ds) (lo hi : Option Int) : DpAll K F (cutV vs lo hi) (cutL ds lo hi) := by
  unfold cutV cutL
  rw [DpAll.length h]
  exact DpAll.take _ (DpAll.drop _ h)
def rSlAll (K : PySem.W.Frag) : V → Option Int → Option Int → Hp → VK → Prop := fun x lo hi H Q => rSlL K x lo hi H Q ∨ (rSlA K x lo hi H Q ∨ rSlS x lo hi H Q)
theorem sl_all' : SlR X (rSlAll X.K) := SlR.or sl_list (SlR.or sl_tupA sl_str)
theorem cutL_whole {ds : List D} {lo hi : Option Int} (h : HT.sIx ds.length 0 lo = 0 ∧ HT.sIx ds.length ds.length hi = ds.length) : cutL ds lo hi = ds := by
  unfold cutL
  rw [h.1, h.2]
  simp
theorem sl_of {W : WX} {x : V} {a d : D} {lo hi : Option Int} {Q : VK} (ok : Ok K c σ H F ρ) (rx : Pk K H F x a) (e : slD a lo hi = some d) (q : post K W c σ F (qE K Q) (some (.ok d ρ))) : rSlAll K x lo hi H Q := by
  cases a with
  | list ds =>
    cases e
    obtain ⟨p, vs, rfl, hp, dp⟩ := Pk.lst ok.sub rx
    exact .inl ⟨p, vs, rfl, hp, fun p hp => new_lst ok (DpAll.cut dp lo hi) q p hp⟩
  | tuple ds =>
    cases e
    obtain ⟨p, vs, rfl, hp, dp⟩ := Pk.tup ok.sub rx
    refine .inr (.inl ⟨p, vs, rfl, hp, fun z => ?_, fun _ p hp => new_tup ok (DpAll.cut dp lo hi) q p hp⟩)
    rw [DpAll.length dp] at z
    rw [cutL_whole z] at q
    rcases rx with rx | ⟨_, _, _, _, e, _⟩
    · exact post_ok q ok _ rx
    · cases e
  | str z =>
    unfold slD at e
    dsimp only at e
    split at e
    · rename_i hf
      cases e
      exact .inr (.inr ⟨z, rx.str, fit_le hf, post_ok q ok _ (.str _)⟩)
    · cases e
  | _ => cases e
def mSl (ma : M D) (ml mh : M (Option Int)) : M D := mBind ma fun a => mBind ml fun l => mBind mh fun h => mLift (slD a l h)
def mSlL (i : Nat) (ml mh : M (Option Int)) : M D := mBind (mPeek i) fun _ => mBind ml fun l => mBind mh fun h => mBind (mPeek i) fun a => mLift (slD a l h)
variable {ma : M D} {ml mh : M (Option Int)} {a : Expr} {lo hi : Option Expr} {pos p2 : Pos}
theorem tSl_ofL {i : Nat} {Q : VK} (h : tE K W (mSlL i ml mh) σ H Q) : tSl (rSlAll K) (tVar i) (tO K W ml) (tO K W mh) σ H Q := by
  obtain ⟨c, F, ρ, ok, h⟩ := h
  obtain ⟨v, _, ev, _, h⟩ := post_peek ok h
  refine ⟨v, ev, c, F, ρ, ok, post_mono ?_ (post_bind h)⟩
  rintro l H2 F2 _ ⟨ρ2, ok2, s2, h2⟩
  refine ⟨c, F2, ρ2, ok2, post_mono ?_ (post_bind h2)⟩
  rintro u H3 F3 _ ⟨ρ3, ok3, s3, h3⟩
  obtain ⟨v', a, ev', pk, h3⟩ := post_peek ok3 h3
  obtain ⟨d, e, h4⟩ := post_lift h3
  have ee : v' = v := by rw [ev] at ev'; cases ev'; rfl
  subst ee
  exact sl_of ok3 pk e h4
theorem dSlL {i : Nat} (ha : PE X a (tVar i)) (hl : PO X lo (tO X.K W ml)) (hh : PO X hi (tO X.K W mh)) : PE X (.Subscript a (.Slice lo hi none p2) pos) (tE X.K W (mSlL i ml mh)) := PE.imp (pe_slice sl_all' ha hl hh) fun _ _ _ => tSl_ofL
/-! .. of a list, a new one -/
def slN : D → Option Int → Option Int → Option (List D)
  | .list ds, lo, hi => some (cutL ds lo hi)
  | _, _, _ => none
def mSlN (ma : M D) (ml mh : M (Option Int)) : M (List D) := mBind ma fun a => mBind ml fun l => mBind mh fun h => mLift (slN a l h)
def mSlNL (i : Nat) (ml mh : M (Option Int)) : M (List D) := mBind (mPeek i) fun _ => mBind ml fun l => mBind mh fun h => mBind (mPeek i) fun a => mLift (slN a l h)
/-! ### a list turned round -/
def revO : D → Option (List D)
  | .list ds => some ds.reverse
  | _ => none
def mRevN (m : M D) : M (List D) := mBind m fun d => mLift (revO d)
variable {k : Nat} {p1 p3 : Pos}
theorem dRevN (ha : PE X a (tP X.K W ma)) : PE X (.Subscript a (.Slice none none (some (.UnaryOp .USub (.Constant (.int 1) k p1) p2)) p3) pos) (tN X.K W (mRevN ma)) := PE.imp (pe_revL ha) (by
  rintro σ H Q ⟨c, F, ρ, ok, h⟩
  refine ⟨c, F, ρ, ok, post_mono ?_ (postN_bind h)⟩
  rintro a H1 F1 _ ⟨ρ1, ok1, s1, h1⟩ x rx
  obtain ⟨ds, e, h2⟩ := postN_lift h1
  cases a with
  | list es =>
    cases e
    obtain ⟨p, vs, rfl, hp, dp⟩ := Pk.lst ok1.sub rx
    exact ⟨p, vs, rfl, hp, fun p hp => new_N ok1 (DpAll.reverse dp) h2 p hp⟩
  | _ => cases e)
end
end Dd

namespace Dd
open PySem PySem.Spec L2 PyProof.Rows
/-! ### the law's own def, at the caller that calls it: there nothing is being shown (no guard stands) -/
def LawFn (P : Program) (w : World) (K : PySem.W.Frag) (mg : Str → Option Value) (base : Heap) (f : Addr) (fd : FuncData) (p : Str) (k : Nat) (g : List Int → Option (Rs D)) : Prop :=
  ∀ (s : Shared) (H : Hp) (a : Addr) (ns : List Int), Room k callerA → Env0 P w K mg base callerA [] s H → BindsTo s fd ⟨[.ref a], []⟩ [(p, .ref a)] → SqL K H a (ns.map V.int) → g ns = some (.ok (.bool true)) →
    codeAny (model P w) callerA (.call (.ref f) ⟨[.ref a], []⟩) (CR (L2.CX P w) [] P w H s (fun v _ => v = .bl true) fun _ _ _ => False) s
section
variable {P : Program} {w : World} {K : PySem.W.Frag} {mg : Str → Option Value} {base : Heap} {x qual p : Str} {st : Stmt} {f : Addr} {fd : FuncData} {N : List Str} {k : Nat} {m : M Fl} {sc : Scope} {bd : List Stmt}
abbrev BodyG (P : Program) (w : World) (K : PySem.W.Frag) (mg : Str → Option Value) (base : Heap) (qual : Str) (sc : Scope) (bd : List Stmt) (f : Addr) (N : List Str) (k : Nat) (m : M Fl) : Prop :=
  ∀ (cdv : Value) (s : Shared) (H : Hp) (E : XK), Room k (callerA.deeper (envOfC qual sc s.heap.objs.size f cdv)) →
    PSs (cxOf (L2.CX P w) P w K mg base N qual sc f cdv callerA [] s H E) bd (tS K (fun cls d _ H => E cls d H) m)
theorem lawFn_of (Fn : Fun K x qual st f fd) (S : FnScope N [p] (defScope st)) (h1 : defScope st = sc) (h2 : defBody st = bd) (hb : BodyG P w K mg base qual sc bd f N k m) : LawFn P w K mg base f fd p (k + 1) (runL m N.length) := by
  subst h1 h2
  intro s H a ns room e0 bind sq done
  obtain ⟨oc, od, kV, doc, pm, an, cdv, ct, osl, rfl, at_f, code⟩ := Fn.ex
  have inK : K.In s.heap := e0.mod.kin.keeps fun b o e => (e0.bs b o e).1
  have par : ∀ y ∈ [(p, Value.ref a)], (defScope st).names.lookup y.1 = some .local ∨ ((defScope st).names.lookup y.1 = some .cell ∧ ((cellsFrom (s.heap.objs.size + 1) (defScope st).names []).lookup y.1).isSome = true) := by
    intro y hy
    rw [List.mem_singleton.mp hy]
    exact (S.par p (by simp)).imp id fun z => ⟨z, PySem.W.cellsFrom_some _ _ _ (.inl z)⟩
  refine codeAny_call_function room.depth (inK _ _ at_f) rfl S.co S.gen rfl (PySem.W.codeRec_of inK code) (bind _ _ _ _ ?_)
  refine wpAny_newFunctionEnv_cells S.kind par ?_
  rintro env rfl s1 y
  have nolim : s.heap.NoLimit := e0.mod.nolimit.keeps fun b o e => (e0.bs b o e).1
  refine ⟨nolim.keeps y.toInCall.keep, codeAny_func ?_⟩
  have run := hb cdv s H (fun _ _ _ => False) (room.deeper _)
  have J := inv_start (CX := L2.CX P w) (qual := qual) (f := f) (cd := cdv) (E := fun _ _ _ => False) (vs := [V.ref a]) S room.hd e0 rfl (.cons rfl .nil) y
  have goal : tS K (fun cls d _ H => (fun _ _ _ => False : XK) cls d H) m { nx := fun _ H' => (fun v (_ : Hp) => v = V.bl true) .non H', rt := fun v _ => v = V.bl true } (L2.start N [V.ref a]) H := by
    refine ⟨_, fun _ => none, _, startS_ok (F := fun _ => none) (ds := []) (fun b o e => by cases e) sq .nil (FnScope.le S), ?_⟩
    unfold runL at done
    cases e : m (env0S N.length ns []) with
    | none => rw [e] at done; cases done
    | some q =>
      rw [e] at done
      match q, done with
      | .ok (.rt d) ρ', done =>
        cases done
        intro σ' v H' F' _ _ rv
        cases rv
        rfl
      | .ok .nx ρ', done => cases done
      | .ok .bk ρ', done => cases done
      | .ok .ct ρ', done => cases done
      | .ok (.rf es) ρ', done => cases done
      | .ex z ρ', done => cases done
  refine wpAny_mono (run.run [] s1 _ H _ J goal) ?_ fun e s' hs => hs
  intro fl s' hs
  match fl, hs with
  | .ret u, ⟨v, σ', H', J', rv, q⟩ => exact ⟨v, H', J'.os, J'.bare, J'.base, J'.hok, rv, q⟩
  | .next, ⟨σ', H', J', q⟩ => exact ⟨V.non, H', J'.os, J'.bare, J'.base, J'.hok, rfl, q⟩
  | .brk, ⟨_, _, _, q⟩ => exact q.elim
  | .cont, ⟨_, _, _, q⟩ => exact q.elim
end
section
variable {P : Program} {w : World} {K : PySem.W.Frag} {mg mb : Str → Option Value} {f a : Addr} {fd : FuncData} {p : Str} {k : Nat} {g : List Int → Option (Rs D)} {s : Shared} {us : List Value} {ns : List Int}
/-- the script's object -/
def scrO (us : List Value) : Obj := { cls := .type "list", data := .seq us.toArray }
/-- what is tracked: nothing, or the script alone -/
structure Trk (K : PySem.W.Frag) (h : Heap) (a : Addr) (us : List Value) (ns : List Int) (H : Hp) : Prop where
  only : ∀ b u, H b = some u → b = a ∧ u = .frz (scrO us) (.lst (ns.map V.int)) ∧ K.lookup a = none
  seq : SqL K H a (ns.map V.int)
theorem trk_free {h : Heap} {H : Hp} (T : Trk K h a us ns H) {b : Addr} (e : b ≠ a ∨ K.lookup a ≠ none) : H b = none := by
  cases q : H b with
  | none => rfl
  | some u =>
    obtain ⟨z, _, l⟩ := T.only b u q
    rcases e with e | e
    · exact absurd z e
    · exact absurd l e
theorem trk_ex (inK : K.In s.heap) (obj : s.heap.get? a = some (scrO us)) (hints : IntsAre us ns) (fits : ns.length ≤ sizeLine) : ∃ H, Trk K s.heap a us ns H ∧ HOk P w H s.heap := by
  have vals := vals_ints hints
  have len := hints.length
  by_cases hk : K.lookup a = none
  · refine ⟨fun b => if b = a then some (.frz (scrO us) (.lst (ns.map V.int))) else none, ⟨fun b u e => ?_, .inl (.inr ⟨scrO us, if_pos rfl⟩)⟩, fun b u e => ?_⟩
    · by_cases hb : b = a
      · rw [if_pos hb] at e
        exact ⟨hb, (Option.some.inj e).symm, hk⟩
      · rw [if_neg hb] at e; cases e
    · by_cases hb : b = a
      · subst hb
        dsimp only at e
        rw [if_pos rfl] at e
        cases e
        exact ⟨obj, by rw [List.length_map]; exact fits, us, _, vals, obj⟩
      · dsimp only at e
        rw [if_neg hb] at e; cases e
  · obtain ⟨o, ho⟩ := Option.ne_none_iff_exists'.mp hk
    have e := inK a o ho
    rw [obj] at e
    cases e
    exact ⟨fun _ => none, ⟨fun b u e => (by cases e), .inr ⟨_, us.toArray, _, ho, rfl, rfl, rfl, by rw [List.size_toArray, len]; exact fits, by simpa using vals⟩⟩, fun b u e => (by cases e)⟩
theorem law_run (inK : K.In s.heap) (main : s.heap.Ns mainGlobals mg) (blt : s.heap.Ns builtinsNs mb) (boot : ∀ x : Str, x ≠ "__name__" → mb x = bootBuiltins x) (lim : s.heap.NoLimit) (gens : s.gens = #[])
    (obj : s.heap.get? a = some (scrO us)) (hints : IntsAre us ns) (fits : ns.length ≤ sizeLine) (room : Room k callerA)
    (F : ∀ base : Heap, K.In base → base.Ns mainGlobals mg → LawFn P w K mg base f fd p k g) (bind : ∀ (s : Shared) (u : Value), BindsTo s fd ⟨[u], []⟩ [(p, u)]) (done : g ns = some (.ok (.bool true))) :
    codeAny (model P w) callerA (.call (.ref f) ⟨[.ref a], []⟩) (fun r s' => r = .ok (.ret (.bool true)) ∧ OldK s.heap s'.heap ∧ s'.os = s.os ∧ AllBare s'.gens) s := by
  obtain ⟨H, T, ok⟩ := trk_ex (P := P) (w := w) inK obj hints fits
  have isList : ∀ {o : Obj}, s.heap.get? a = some o → ∀ es n, o.data ≠ .dict es n := fun {o} e es n d => by
    rw [obj] at e; cases e; cases d
  have shown : ∀ {b : Addr} {m : Str → Option Value}, s.heap.Ns b m → (hidT s.heap H).Ns b m := by
    rintro b m ⟨o, es, n, e, d, r⟩
    exact ⟨o, es, n, hidT_get e (trk_free T (.inl fun z => isList (z ▸ e) es n d)), d, r⟩
  have inKb : K.In (hidT s.heap H) := fun b o e => by
    refine hidT_get (inK b o e) (trk_free T ?_)
    by_cases z : b = a
    · exact .inr fun y => by rw [← z, e] at y; cases y
    · exact .inl z
  obtain ⟨mc, n1, n2⟩ := lim
  have mod : Mod K mg (hidT s.heap H) := ⟨inKb, shown main, ⟨mb, shown blt, boot⟩, ⟨mc, shown n1, n2⟩⟩
  have e0 : Env0 P w K mg (hidT s.heap H) callerA [] s H := ⟨rfl, mod, fun b o e => of_hidT e, (by rw [hidT_size]; exact Nat.le_refl _), trivial, fun b z => (by cases z), ok, .of_eq gens⟩
  refine codeAny_mono (F _ inKb (shown main) s H a ns room e0 (bind s (.ref a)) T.seq done) fun r s' h => ?_
  match r, h with
  | .error e, h => exact (hCX0 h).elim
  | .ok .next, h => exact h.elim
  | .ok .brk, h => exact h.elim
  | .ok .cont, h => exact h.elim
  | .ok (.ret u), ⟨v, H', os, bare, un, ok', rv, q⟩ =>
    subst q
    obtain rfl : u = Value.bool true := rv
    refine ⟨rfl, OldK.of_keep fun b o e => ?_, os, bare⟩
    cases y : H b with
    | none => exact un.keep b o e y (fun z => by cases z) fun z => by cases z
    | some u =>
      obtain ⟨rfl, rfl, _⟩ := T.only b u y
      have z := (ok' b _ (un.frzs b _ _ y)).1
      rw [obj] at e
      cases e
      exact z
end
theorem walk_ofG {l : PySem.W.OpenLaw} {n k : Nat} {q : Program} {loose : List Str} {XP : (Str → Option Value) → Heap → Prop} {YP : World → Heap → Prop} {d : DefRec} {K : Params → PySem.W.Frag} {p : Str} {g : List Int → Option (Rs D)}
    (most : l.most = some n) (small : n ≤ sizeLine) (noDef : d.params.defaults = []) (room : Room k callerA) (inK : ∀ (w : World) (h : Heap), YP w h → (K w.params).In h)
    (F : ∀ (w : World) (mg : Str → Option Value) (f : Addr) (h : Heap), (K w.params).In h → h.Ns mainGlobals mg → mg d.name = some (.ref f) →
      ∃ fd : FuncData, (∀ (s : Shared) (u : Value), BindsTo s fd ⟨[u], []⟩ [(p, u)]) ∧ ∀ base : Heap, (K w.params).In base → base.Ns mainGlobals mg → LawFn l.prog w (K w.params) mg base f fd p k g)
    (done : ∀ ns : List Int, ns.length ≤ n → g ns = some (.ok (.bool true))) : PySem.W.WalkO q loose XP YP l.row.toRowW d [] (fun f vs => PySem.call f vs) := by
  refine Att.attach_call most noDef ?_
  intro w s₀ s₁ mg mb f o pm cd doc a vs ns G Y _ _ _ hmg hobj hints hlen hg
  obtain ⟨fd, bind, hF⟩ := F w mg f _ (inK w _ Y) G.T.g hmg
  exact law_run (inK w _ Y) G.T.g G.T.b G.T.builtins G.T.nolimit hg hobj hints (Nat.le_trans hlen small) room hF bind (done ns hlen)
/-! ### what is shown: repr of anything that is read -/
section
variable {X : Cx} {K : PySem.W.Frag}
def rShow (K : PySem.W.Frag) : List V → Hp → VK → Prop := fun xs H Q => ∃ (a : Addr) (d : D), xs = [.ref a] ∧ L2.Dp K H (.ref a) d ∧ d.showable = true ∧ d.hasDict = false ∧ d.depth ≤ 60 ∧ d.shown.length ≤ sizeLine ∧ Q (.str d.shown) H
theorem cr_show (hg : X.A.guards = some []) (hu : X.A.units + 64 < cLine) : CallR X (.builtin "repr") (rShow X.K) := by
  intro pins s σ H xs us Q I rv h
  obtain ⟨a, d, rfl, dp, sh, nd, dep, len, q⟩ := h
  cases rv with
  | cons r1 r2 =>
    cases r2
    obtain ⟨as, rd⟩ := L2.Dp.reads I d _ _ dp r1
    cases r1
    exact repr_of_reads' rd sh (fun z => by rw [nd] at z; cases z) hg (by omega) (fun b o e => e) (fun h' u tk k => ⟨.str d.shown, H, I.kept k, ⟨_, rfl⟩, q⟩) len
def showOk : D → Bool
  | .list ds => (PyData.list ds).showable && !(PyData.list ds).hasDict && decide ((PyData.list ds).depth ≤ 60) && fit (PyData.list ds).shown.length
  | .tuple ds => (PyData.tuple ds).showable && !(PyData.tuple ds).hasDict && decide ((PyData.tuple ds).depth ≤ 60) && fit (PyData.tuple ds).shown.length
  | _ => false
def showD : List D → Option D
  | [d] => if showOk d = true then some (.str d.shown) else none
  | _ => none
theorem showOk_ref {d : D} (h : showOk d = true) : d.showable = true ∧ d.hasDict = false ∧ d.depth ≤ 60 ∧ d.shown.length ≤ sizeLine ∧ ((∃ ds, d = .list ds) ∨ ∃ ds, d = .tuple ds) := by
  cases d with
  | list ds =>
    simp only [showOk, Bool.and_eq_true, Bool.not_eq_true', decide_eq_true_eq] at h
    exact ⟨h.1.1.1, h.1.1.2, h.1.2, fit_le h.2, .inl ⟨_, rfl⟩⟩
  | tuple ds =>
    simp only [showOk, Bool.and_eq_true, Bool.not_eq_true', decide_eq_true_eq] at h
    exact ⟨h.1.1.1, h.1.1.2, h.1.2, fit_le h.2, .inr ⟨_, rfl⟩⟩
  | _ => cases h
theorem cd_show : CallD K (rShow K) showD := by
  intro W c σ H F ρ xs ds d Q ok r e q
  unfold showD at e
  split at e
  · rename_i d'
    split at e
    · rename_i hs
      cases e
      obtain ⟨x, rfl, pk⟩ := pk1 r
      obtain ⟨h1, h2, h3, h4, h5⟩ := showOk_ref hs
      have dp := Pk.dp ok.sub pk h2
      have hx : ∃ a, x = .ref a := by
        rcases h5 with ⟨es, rfl⟩ | ⟨es, rfl⟩
        · obtain ⟨p, _, e, _⟩ := Pk.lst ok.sub pk; exact ⟨p, e⟩
        · obtain ⟨p, _, e, _⟩ := Pk.tup ok.sub pk; exact ⟨p, e⟩
      obtain ⟨a, rfl⟩ := hx
      exact ⟨a, d', rfl, dp, h1, h2, h3, h4, post_ok q ok _ (.str _)⟩
    · cases e
  · cases e
def reprG : List D → Option D := cOr reprD showD
theorem cd_reprG : CallD K (rOr rRepr (rShow K)) reprG := callD_or cd_repr cd_show
theorem cr_reprG (hg : X.A.guards = some []) (hu : X.A.units + 64 < cLine) : CallR X (.builtin "repr") (rOr rRepr (rShow X.K)) := CallR.or cr_repr (cr_show hg hu)
end
end Dd

namespace Dd
open PySem PySem.Spec L2 PyProof.Rows
/-! ### bits -/
section
variable {K : PySem.W.Frag}
def andD : D → D → Option D := iI fun i j => .int (Builtin.bitAnd i j)
def orD : D → D → Option D := iI fun i j => .int (Builtin.bitOr i j)
def xorD : D → D → Option D := iI fun i j => .int (Builtin.bitXor i j)
def cShr (_ j : Int) : Bool := decide (0 ≤ j)
def shrD : D → D → Option D := iIc cShr fun i j => .int (i / 2 ^ j.toNat)
def shlD : D → D → Option D := iIc cPow fun i j => .int (i * 2 ^ j.toNat)
end
/-! ### a slice by steps, of a list -/
def pickL {α : Type} (ds : List α) (lo hi st : Option Int) : List α := (sliceRange (sliceBounds lo hi st ds.length).1 (sliceBounds lo hi st ds.length).2.1 (sliceBounds lo hi st ds.length).2.2).filterMap (ds[·]?)
section
variable {K : PySem.W.Frag} {F : Hp}
end
section
variable {X : Cx} {e : Expr} {te : TE} {tl : TO} {lo : Option Expr} {k : Int} {j : Option Str} {p1 p3 pos : Pos}
end
def stepO (k : Int) : D → Option Int → Option (List D)
  | .list ds, lo => if fit (pickL ds lo none (some k)).length = true then some (pickL ds lo none (some k)) else none
  | _, _ => none
def mStepN (k : Int) (m : M D) (ml : M (Option Int)) : M (List D) := mBind m fun d => mBind ml fun l => mLift (stepO k d l)
section
variable {X : Cx} {W : WX} {e : Expr} {lo : Option Expr} {m : M D} {ml : M (Option Int)} {k : Int} {p1 p3 pos : Pos} {kk : Nat}
end
/-! ### list + list, a new one -/
def catN : D → D → Option (List D)
  | .list xs, .list ys => if fit (xs.length + ys.length) = true then some (xs ++ ys) else none
  | _, _ => none
def mCatN (ma mb : M D) : M (List D) := mBind ma fun a => mBind mb fun b => mLift (catN a b)
def mCatNL (i : Nat) (mb : M D) : M (List D) := mBind (mPeek i) fun _ => mBind mb fun b => mBind (mPeek i) fun a => mLift (catN a b)
section
variable {X : Cx} {W : WX} {K : PySem.W.Frag} {c : Ct} {σ : L2.St} {F H : Hp} {ρ : En} {ma mb : M D} {a b : Expr} {pos : Pos}
end
end Dd

namespace Dd
open PySem PySem.Spec L2 PyProof.Rows
section
variable {X : Cx} {K : PySem.W.Frag}
end
/-! ### a slice by steps of a list that stands in a slot -/
def mStepNL (k : Int) (i : Nat) (ml : M (Option Int)) : M (List D) := mBind (mPeek i) fun _ => mBind ml fun l => mBind (mPeek i) fun d => mLift (stepO k d l)
section
variable {X : Cx} {W : WX} {e : Expr} {lo : Option Expr} {ml : M (Option Int)} {k : Int} {p1 p3 pos : Pos} {kk : Nat}
end
end Dd

namespace Dd
open PySem PySem.Spec L2 PyProof.Rows
variable {K : PySem.W.Frag}
def IsB : Bool → Heap → Addr → Array Value → Prop
  | false, h, a, its => h.IsList a its
  | true, h, a, its => h.IsTuple a its
def ItB : Bool → Heap → Addr → Addr → Nat → Prop
  | false, h, i, a, k => h.IsListIter i a k
  | true, h, i, a, k => h.IsTupleIter i a k
theorem ItB.at {b : Bool} {h h' : Heap} {i a : Addr} {k : Nat} (t : ItB b h i a k) (e : ∀ o, h.get? i = some o → h'.get? i = some o) : ItB b h' i a k := by
  cases b
  · exact Heap.IsListIter.at t e
  · exact Heap.IsTupleIter.at t e
theorem ItB.obj {b : Bool} {h : Heap} {i a : Addr} {k : Nat} (t : ItB b h i a k) : ∃ o, h.get? i = some o ∧ ∀ v, o.data ≠ .cell v := by
  cases b
  · obtain ⟨o, e, _, d⟩ := t
    exact ⟨o, e, fun v q => by rw [d] at q; cases q⟩
  · obtain ⟨o, e, _, d⟩ := t
    exact ⟨o, e, fun v q => by rw [d] at q; cases q⟩
theorem IsB.lt {b : Bool} {h : Heap} {a : Addr} {its : Array Value} (t : IsB b h a its) : a < h.objs.size := by
  cases b
  · obtain ⟨o, e, _⟩ := t
    exact Heap.lt_size e
  · obtain ⟨o, e, _⟩ := t
    exact Heap.lt_size e
variable {X : Cx} {W : WX} {a b : Expr} {elts : List Expr} {kk : Nat} {p pos tpos : Pos} {ms : M (List D)}
end Dd

namespace Dd
open PySem PySem.Spec L2 PyProof.Rows
/-! ### defs that are called where nothing is being shown: what a def promises there -/
structure FnG (P : Program) (w : World) (K : PySem.W.Frag) (mg : Str → Option Value) (base : Heap) (CX : CXT) (k : Nat) (f : Addr) (fd : FuncData) (ps : List Str) (sp : Sp) : Prop where
  len : ∀ vs H Q E, sp vs H Q E → vs.length = ps.length
  run : ∀ (A : Around) (outer : List Env) (s : Shared) (H : Hp) (args : Args) (us : List Value) (vs : List V) (Q : VK) (E : XK), A.guards = some [] → Room k A → Env0 P w K mg base A outer s H → BindsTo s fd args (ps.zip us) → Vals vs us → sp vs H Q E →
    codeAny (model P w) A (.call (.ref f) args) (CR CX outer P w H s Q E) s
theorem FnG.mono {P : Program} {w : World} {K : PySem.W.Frag} {mg : Str → Option Value} {base : Heap} {CX : CXT} {j k : Nat} {f : Addr} {fd : FuncData} {ps : List Str} {sp : Sp} (F : FnG P w K mg base CX j f fd ps sp) (h : j ≤ k) : FnG P w K mg base CX k f fd ps sp :=
  ⟨F.len, fun A outer s H args us vs Q E hg hr => F.run A outer s H args us vs Q E hg (hr.mono h)⟩
section
variable {P : Program} {w : World} {K : PySem.W.Frag} {mg : Str → Option Value} {base : Heap} {x qual : Str} {st : Stmt} {f : Addr} {fd : FuncData} {N ps : List Str} {k : Nat} {m : M Fl} {sc : Scope} {bd : List Stmt}
/-- a def whose defaults may stand (any value where they are kept) -/
structure FunA (K : PySem.W.Frag) (x qual : Str) (st : Stmt) (f : Addr) (fd : FuncData) : Prop where
  ex : ∃ (oc : Value) (od : Option Addr) (dV kV doc pm : Value) (an : Option Addr) (cdv ct : Value) (osl : Array (Option Value)),
    fd = PySem.W.fnOf x qual (defArgs st) (defBody st) (defScope st) dV kV doc pm an cdv ct ∧ K.lookup f = some ⟨oc, od, .func fd, osl⟩ ∧ PySem.W.codeIn K cdv qual = true
  kp : PySem.W.keepIn K (.ref f) = true
theorem toA (Fn : Fun K x qual st f fd) : FunA K x qual st f fd := by
  obtain ⟨⟨oc, od, kV, doc, pm, an, cdv, ct, osl, e, l, c⟩, k⟩ := Fn
  exact ⟨⟨oc, od, .none, kV, doc, pm, an, cdv, ct, osl, e, l, c⟩, k⟩
theorem okXA {sp : Sp} (Fn : FunA K x qual st f fd) (S : FnScope N ps (defScope st)) (len : ∀ vs H Q E, sp vs H Q E → vs.length = ps.length)
    (hbody : ∀ (cdv : Value) (A : Around) (outer : List Env) (s : Shared) (H : Hp) (vs : List V) (Q : VK) (E : XK), A.guards = some [] → Room k (A.deeper (envOfC qual (defScope st) s.heap.objs.size f cdv)) → sp vs H Q E →
      ∃ t, PSs (cxOf (L2.CX P w) P w K mg base N qual (defScope st) f cdv A outer s H E) (defBody st) t ∧ t { nx := fun _ H' => Q .non H', rt := Q } (L2.start N vs) H) : FnG P w K mg base (L2.CX P w) (k + 1) f fd ps sp := by
  obtain ⟨oc, od, dV, kV, doc, pm, an, cdv, ct, osl, rfl, at_f, code⟩ := Fn.ex
  refine ⟨len, fun A outer s H args us vs Q E hgd room e0 bind rv done => ?_⟩
  have inK : K.In s.heap := e0.mod.kin.keeps fun b o e => (e0.bs b o e).1
  have nolim : s.heap.NoLimit := e0.mod.nolimit.keeps fun b o e => (e0.bs b o e).1
  have par : ∀ y ∈ ps.zip us, (defScope st).names.lookup y.1 = some .local ∨ ((defScope st).names.lookup y.1 = some .cell ∧ ((cellsFrom (s.heap.objs.size + 1) (defScope st).names []).lookup y.1).isSome = true) := fun y hy =>
    (S.par y.1 (List.of_mem_zip (a := y.1) (b := y.2) hy).1).imp id fun z => ⟨z, PySem.W.cellsFrom_some _ _ _ (.inl z)⟩
  refine codeAny_call_function room.depth (inK _ _ at_f) rfl S.co S.gen rfl (PySem.W.codeRec_of inK code) (bind _ _ _ _ ?_)
  refine wpAny_newFunctionEnv_cells S.kind par ?_
  rintro env rfl s1 y
  refine ⟨nolim.keeps y.toInCall.keep, codeAny_func ?_⟩
  obtain ⟨t, run, goal⟩ := hbody cdv A outer s H vs Q E hgd (room.deeper _) done
  have J := inv_start (CX := L2.CX P w) (qual := qual) (f := f) (cd := cdv) (E := E) S room.hd e0 (len _ _ _ _ done) rv y
  refine wpAny_mono (run.run [] s1 _ H _ J goal) ?_ fun e s' hs => hs
  intro fl s' hs
  match fl, hs with
  | .ret u, ⟨v, σ', H', J', rv, q⟩ => exact ⟨v, H', J'.os, J'.bare, J'.base, J'.hok, rv, q⟩
  | .next, ⟨σ', H', J', q⟩ => exact ⟨V.non, H', J'.os, J'.bare, J'.base, J'.hok, rfl, q⟩
  | .brk, ⟨_, _, _, q⟩ => exact q.elim
  | .cont, ⟨_, _, _, q⟩ => exact q.elim
theorem okXG {sp : Sp} (Fn : Fun K x qual st f fd) (S : FnScope N ps (defScope st)) (len : ∀ vs H Q E, sp vs H Q E → vs.length = ps.length)
    (hbody : ∀ (cdv : Value) (A : Around) (outer : List Env) (s : Shared) (H : Hp) (vs : List V) (Q : VK) (E : XK), A.guards = some [] → Room k (A.deeper (envOfC qual (defScope st) s.heap.objs.size f cdv)) → sp vs H Q E →
      ∃ t, PSs (cxOf (L2.CX P w) P w K mg base N qual (defScope st) f cdv A outer s H E) (defBody st) t ∧ t { nx := fun _ H' => Q .non H', rt := Q } (L2.start N vs) H) : FnG P w K mg base (L2.CX P w) (k + 1) f fd ps sp := okXA (toA Fn) S len hbody
abbrev BodyC (P : Program) (w : World) (K : PySem.W.Frag) (mg : Str → Option Value) (base : Heap) (qual : Str) (sc : Scope) (bd : List Stmt) (f : Addr) (N : List Str) (k : Nat) (m : M Fl) : Prop :=
  ∀ (cdv : Value) (A : Around) (outer : List Env) (s : Shared) (H : Hp) (E : XK), A.guards = some [] → Room k (A.deeper (PyProof.Rows.envOfC qual sc s.heap.objs.size f cdv)) →
    PSs (cxOf (L2.CX P w) P w K mg base N qual sc f cdv A outer s H E) bd (tS K (fun cls d _ H => E cls d H) m)
theorem okV2A (Fn : FunA K x qual st f fd) (S : FnScope N ps (defScope st)) (h1 : defScope st = sc) (h2 : defBody st = bd) (hb : BodyC P w K mg base qual sc bd f N k m) : FnG P w K mg base (L2.CX P w) (k + 1) f fd ps (spV K ps.length (runV m N.length)) := by
  subst h1 h2
  refine okXA Fn S (fun vs H Q E h => ?_) (fun cdv A outer s H vs Q E hgd hr h => ⟨_, hb cdv A outer s H E hgd hr, ?_⟩)
  · obtain ⟨F, ds, _, r, hl, _⟩ := h
    rw [DpAll.length r]; exact hl
  · obtain ⟨F, ds, s', r, hl, h⟩ := h
    refine ⟨_, F, _, start_ok s' r (by rw [hl]; exact FnScope.le S), ?_⟩
    unfold runV at h
    cases e : m (env0 N.length ds) with
    | none => rw [e] at h; exact h
    | some q =>
      rw [e] at h
      cases q with
      | ex y ρ' => exact fun σ' cls z H' F' ok _ r' => h cls z F' H' ok.ext r'
      | ok fl ρ' =>
        cases fl with
        | nx => exact fun σ' H' F' ok _ => h .non F' H' ok.ext .non
        | rt d => exact fun σ' v H' F' ok _ r' => h v F' H' ok.ext r'
        | bk => exact h.elim
        | ct => exact h.elim
        | rf _ => exact h.elim
theorem okV2G (Fn : Fun K x qual st f fd) (S : FnScope N ps (defScope st)) (h1 : defScope st = sc) (h2 : defBody st = bd) (hb : BodyC P w K mg base qual sc bd f N k m) : FnG P w K mg base (L2.CX P w) (k + 1) f fd ps (spV K ps.length (runV m N.length)) := okV2A (toA Fn) S h1 h2 hb
theorem okB2A (Fn : FunA K x qual st f fd) (S : FnScope N ps (defScope st)) (h1 : defScope st = sc) (h2 : defBody st = bd) (hb : BodyC P w K mg base qual sc bd f N k m) : FnG P w K mg base (L2.CX P w) (k + 1) f fd ps (spB K ps.length (runB m N.length)) := by
  subst h1 h2
  refine okXA Fn S (fun vs H Q E h => ?_) (fun cdv A outer s H vs Q E hgd hr h => ⟨_, hb cdv A outer s H E hgd hr, ?_⟩)
  · obtain ⟨F, p, bs0, bs, rest, ds, rfl, _, _, _, _, r, hl, _⟩ := h
    rw [List.length_cons, DpAll.length r]; exact hl
  · obtain ⟨F, p, bs0, bs, rest, ds, rfl, s', hF, hp, rb, r, hl, h⟩ := h
    refine ⟨_, F, _, startB_ok s' hF hp rb r (by rw [hl]; exact FnScope.le S), ?_⟩
    have fin : ∀ {σ' H' F' ρ' bs'}, Ok K ⟨F, H, some p, noPr⟩ σ' H' F' (.io bs' :: ρ') → ∃ bs1, H' p = some (.lst bs1) ∧ DpAll K F' bs1 bs' := fun {σ' H' F' ρ' bs'} ok => by
      obtain ⟨_, q, vs, c0, c1, c2, c3⟩ := ok.ios 0 bs' rfl
      have e : some p = some q := c0
      cases e
      exact ⟨vs, c2, c3⟩
    unfold runB at h
    cases e : m (env0B N.length bs ds) with
    | none => rw [e] at h; exact h
    | some q =>
      rw [e] at h
      cases q with
      | ex y ρ' =>
        intro σ' cls z H' F' ok _ r'
        cases ρ' with
        | nil => exact h.elim
        | cons u ρ' =>
          cases u with
          | io bs' =>
            obtain ⟨bs1, b1, b2⟩ := fin ok
            exact h cls z bs1 F' H' ok.extB b1 b2 r'
          | un => exact h.elim
          | val _ => exact h.elim
          | own _ => exact h.elim
          | scr _ => exact h.elim
          | dct _ => exact h.elim
          | nst _ => exact h.elim
      | ok fl ρ' =>
        cases fl with
        | nx =>
          intro σ' H' F' ok _
          cases ρ' with
          | nil => exact h.elim
          | cons u ρ' =>
            cases u with
            | io bs' =>
              obtain ⟨bs1, b1, b2⟩ := fin ok
              exact h .non bs1 F' H' ok.extB b1 b2 .non
            | un => exact h.elim
            | val _ => exact h.elim
            | own _ => exact h.elim
            | scr _ => exact h.elim
            | dct _ => exact h.elim
            | nst _ => exact h.elim
        | rt d =>
          intro σ' v H' F' ok _ r'
          cases ρ' with
          | nil => exact h.elim
          | cons u ρ' =>
            cases u with
            | io bs' =>
              obtain ⟨bs1, b1, b2⟩ := fin ok
              exact h v bs1 F' H' ok.extB b1 b2 r'
            | un => exact h.elim
            | val _ => exact h.elim
            | own _ => exact h.elim
            | scr _ => exact h.elim
            | dct _ => exact h.elim
            | nst _ => exact h.elim
        | bk => exact h.elim
        | ct => exact h.elim
        | rf _ => exact h.elim
theorem okB2G (Fn : Fun K x qual st f fd) (S : FnScope N ps (defScope st)) (h1 : defScope st = sc) (h2 : defBody st = bd) (hb : BodyC P w K mg base qual sc bd f N k m) : FnG P w K mg base (L2.CX P w) (k + 1) f fd ps (spB K ps.length (runB m N.length)) := okB2A (toA Fn) S h1 h2 hb
theorem okS2G (Fn : Fun K x qual st f fd) (S : FnScope N ps (defScope st)) (h1 : defScope st = sc) (h2 : defBody st = bd) (hb : BodyC P w K mg base qual sc bd f N k m) : FnG P w K mg base (L2.CX P w) (k + 1) f fd ps (spS K ps.length (runS m N.length)) := by
  subst h1 h2
  refine okXG Fn S (fun vs H Q E h => ?_) (fun cdv A outer s H vs Q E hgd hr h => ⟨_, hb cdv A outer s H E hgd hr, ?_⟩)
  · obtain ⟨F, a, ns, rest, ds, rfl, _, _, r, hl, _⟩ := h
    rw [List.length_cons, DpAll.length r]; exact hl
  · obtain ⟨F, a, ns, rest, ds, rfl, s', hp, r, hl, h⟩ := h
    refine ⟨_, F, _, startS_ok s' hp r (by rw [hl]; exact FnScope.le S), ?_⟩
    unfold runS at h
    cases e : m (env0S N.length ns ds) with
    | none => rw [e] at h; exact h
    | some q =>
      rw [e] at h
      cases q with
      | ex y ρ' => exact fun σ' cls z H' F' ok _ r' => h cls z F' H' ok.ext r'
      | ok fl ρ' =>
        cases fl with
        | nx => exact h.elim
        | rt d => exact h.elim
        | bk => exact h.elim
        | ct => exact h.elim
        | rf es => exact fun σ' p xs H' F' ok _ hp r' hf h0 => h p xs F' H' ok.ext h0 hf hp r'
end
section
variable {P : Program} {w : World} {K : PySem.W.Frag} {mg : Str → Option Value} {base : Heap} {j n : Nat} {f : Addr} {fd : FuncData} {ps : List Str}
end
section
variable {X : Cx} {CX : CXT} {W : WX} {k n : Nat} {f : Addr} {fd : FuncData} {ps : List Str} {sp : Sp} {E : L2.St → XK} {t : TA} {x : Str} {p pos : Pos} {e : Expr} {es : List Expr} {ms : M (List D)}
theorem run_fnG {pins : List (Addr × Obj)} {σ : L2.St} {H : Hp} {s : Shared} {Q : VK} {us : List Value} {vs : List V} (F : FnG X.prog X.w X.K X.mg X.base CX k f fd ps sp) (hgd : X.A.guards = some []) (hr : Room k X.A) (hb : Binds X.K fd ps []) (hx : PassesAt CX X σ (E σ))
    (I : Inv X pins σ H s) (r : Vals vs us) (h : sp vs H Q (E σ)) : wpAny (model X.prog X.w) X.A (call (.ref f) us) (EP X pins σ Q) X.xe s := by
  have b := hb s us I.kIn (by rw [List.append_nil, ← r.length]; exact F.len _ _ _ _ h)
  rw [List.append_nil] at b
  refine wpAny_call (codeAny_mono (F.run X.A X.stack s H ⟨us, []⟩ us vs Q (E σ) hgd hr I.env0 b r h) fun q s' hq => ?_)
  match q, hq with
  | .error e, hq => exact hx pins H s e s' I hq
  | .ok (.ret u), hq => exact I.after hq
  | .ok .next, hq => exact False.elim hq
  | .ok .brk, hq => exact False.elim hq
  | .ok .cont, hq => exact False.elim hq
theorem pe_callG (F : FnG X.prog X.w X.K X.mg X.base CX k f fd ps sp) (hgd : X.A.guards = some []) (hr : Room k X.A) (hg : Gl X x) (hm : X.mg x = some (.ref f)) (hk : PySem.W.keepIn X.K (.ref f) = true) (hb : Binds X.K fd ps []) (hx : ∀ σ, PassesAt CX X σ (E σ))
    (ha : PA X (e :: es) t) (hdb : (x == ("__debug__" : Str)) = false := by decide) (he : starEach (e :: es) X.env = (false, eval e X.env) :: starEach es X.env := by rfl) (hpl : (backTo pos (starEach es X.env)).any (·.1) = false := by rfl) :
    PE X (.Call (.Name x p) (e :: es) [] pos) (tCallS sp E t) :=
  ⟨fun pins s σ H Q I h => wpAny_Call_Name_kw (ld_glob I hg hm (PySem.W.callWith_K (h₀ := X.base) I.ok.mod.kin hk (thn (ha.run pos pins s σ H _ I h) fun us s1 ⟨vs, H1, I1, r, q⟩ => ⟨I1.kIn, run_fnG F hgd hr hb (hx σ) I1 r q⟩) he hpl) hdb)⟩
theorem dCallVG {g : List D → Option (Rs D)} (hgd : X.A.guards = some []) (F : FnG X.prog X.w X.K X.mg X.base (L2.CX X.prog X.w) k f fd ps (spV X.K n g)) (hr : Room k X.A) (hm : X.mg x = some (.ref f)) (hk : PySem.W.keepIn X.K (.ref f) = true) (hb : Binds X.K fd ps []) (tk : Takes X W)
    (ha : PA X (e :: es) (tA X.K W ms)) (hg : Gl X x := by rfl) (hdb : (x == ("__debug__" : Str)) = false := by decide) (he : starEach (e :: es) X.env = (false, eval e X.env) :: starEach es X.env := by rfl) (hpl : (backTo pos (starEach es X.env)).any (·.1) = false := by rfl) :
    PE X (.Call (.Name x p) (e :: es) [] pos) (tE X.K W (mCallV n g ms)) := PE.imp (pe_callG F hgd hr hg hm hk hb (fun σ => passAt tk σ) ha hdb he hpl) fun _ _ _ => callV_of
theorem dCallBG {i : Nat} {g : List D → List D → Option (Rs D × List D)} (hgd : X.A.guards = some []) (F : FnG X.prog X.w X.K X.mg X.base (L2.CX X.prog X.w) k f fd ps (spB X.K n g)) (hr : Room k X.A) (hm : X.mg x = some (.ref f)) (hk : PySem.W.keepIn X.K (.ref f) = true) (hb : Binds X.K fd ps []) (tk : Takes X W)
    (h1 : PE X e (tVar i)) (ha : PA X es (tA X.K W ms)) (hg : Gl X x := by rfl) (hdb : (x == ("__debug__" : Str)) = false := by decide) (he : starEach (e :: es) X.env = (false, eval e X.env) :: starEach es X.env := by rfl) (hpl : (backTo pos (starEach es X.env)).any (·.1) = false := by rfl) :
    PE X (.Call (.Name x p) (e :: es) [] pos) (tE X.K W (mCallB i n g ms)) := PE.imp (pe_callG F hgd hr hg hm hk hb (fun σ => passAt tk σ) (pa_cons h1 ha he) hdb he hpl) fun _ _ _ => callB_of
theorem dCallStG {i j : Nat} {y : Str} {pos' spos : Pos} {g : List Int → List D → Option (Rs (List D))} (hgd : X.A.guards = some []) (F : FnG X.prog X.w X.K X.mg X.base (L2.CX X.prog X.w) k f fd ps (spS X.K n g)) (hr : Room k X.A) (hm : X.mg x = some (.ref f)) (hk : PySem.W.keepIn X.K (.ref f) = true) (hb : Binds X.K fd ps []) (tk : Takes X W) (hN : X.N.Nodup)
    (h1 : PE X e (tVar j)) (ha : PA X es (tA X.K W ms)) (hg : Gl X x := by rfl) (hdb : (x == ("__debug__" : Str)) = false := by decide) (he : starEach (e :: es) X.env = (false, eval e X.env) :: starEach es X.env := by rfl) (hpl : (backTo pos (starEach es X.env)).any (·.1) = false := by rfl)
    (hi : X.N[i]? = some y := by rfl) (hx : Loc X.env.scope y := by first | exact Or.inl rfl | exact Or.inr rfl)
    (hs : swapsWith (.Call (.Name x p) (e :: es) [] pos) (some (.Name y pos')) spos.line X.env = pure false := by rfl)
    (hf : X.fn y = true ∨ X.env.scope.names.lookup y = some .local := by first | exact .inl rfl | exact .inr rfl) :
    PS X (.Assign [.Name y pos'] (.Call (.Name x p) (e :: es) [] pos) spos) (tS X.K W (mAsgS i j n g ms)) := PS.imp (ps_set hN hi hx (pe_callG F hgd hr hg hm hk hb (fun σ => passAt tk σ) (pa_cons h1 ha he) hdb he hpl) hs hf) fun _ _ _ => asgS_of
end
end Dd

/-! ### an own exception's first field, whatever built-in class it is under -/
namespace PySem
namespace OwnE
open PySem.W PySem.Calls PyProof.Rows PySem.HandSPX
open Builtin Builtin.ObjectAttr
variable {prog : Program} {w : World} {A : Around} {E : Value → Shared → Prop} {R : Result → Shared → Prop} {hp : Heap} {g : Array GenState} {d : Drawn} {t : Nat} {os : OsState} {K : Frag} {B : String} {bmB : List Value}
end OwnE
end PySem

namespace Dd
open PySem PySem.Spec L2 PyProof.Rows
section
variable {X : Cx} {W : WX} {e : Expr} {cn f : Str} {C : Addr} {ms : M (List D)} {pos : Pos}
end
/-- a part of a display in a suite: a text, a field, whether it is of a class -/
inductive Pt where
  | txt (x : Str)
  | fld (f : Str)
  | isi (b : Bool)
section
variable {X : Cx} {a C dd : Addr} {i : Nat} {cls : Value} {d : Option Addr} {oe : Obj} {pn : List (Addr × Obj)} {cn f : Str} {pos p : Pos} {e ec : Expr} {es : List Expr}
end
section
variable {X : Cx} {Wout : WX} {x n cn y : Str} {c : Value} {C : Addr} {i v : Nat} {body : List Stmt} {es : List Expr} {np pos pos' yp tp sp : Pos} {kk : Nat} {mb : M Fl} {ps : List Pt}
end
end Dd

namespace Dd
open PySem PySem.Spec L2 PyProof.Rows
section
variable {X : Cx} {W : WX} {a b : Expr} {ma mb : M D} {p p2 pos pos2 : Pos}
end
end Dd

namespace Dd
open PySem PySem.Spec L2 PyProof.Rows
/-! ### calls with keywords, keyword-only parameters that lack -/
theorem kbn_of {K : PySem.W.Frag} {fd : FuncData} {ps : List Str} {n : Nat} {ks : List Str} {g : List Value → List Value → List Value} {gV : List V → List V → List V} {D : Addr} {ms : List (Str × Value)}
    (hms : ∀ q ∈ ms, PySem.W.nsIn K D q.1 = some (some q.2)) (h : ∀ us ws : List Value, us.length = n → ws.length = ks.length → KwChain D ms (bindArgs fd ⟨us, ks.zip ws⟩) (ps.zip (g us ws)))
    (rel : ∀ {vs : List V} {us : List Value} {zs : List V} {ws : List Value}, Vals vs us → Vals zs ws → Vals (gV vs zs) (g us ws)) : KBn K fd ps n ks g gV :=
  ⟨fun s us ws X l1 l2 => BindsTo.of_looks fun M => KwChain.looks X hms (h us ws l1 l2), rel⟩
def tCallK (n m : Nat) (sp : Sp) (gV : List V → List V → List V) (E : L2.St → XK) (t tk : TA) : TE := fun σ H Q => t σ H fun vs H1 => tk σ H1 fun zs H2 => vs.length = n ∧ zs.length = m ∧ sp (gV vs zs) H2 Q (E σ)
section
variable {X : Cx} {CX : CXT} {W : WX} {k n : Nat} {f : Addr} {fd : FuncData} {ps ks : List Str} {sp : Sp} {E : L2.St → XK} {x : Str} {p pos : Pos} {e : Expr} {es : List Expr} {kws : List Keyword} {t tk : TA} {g : List Value → List Value → List Value} {gV : List V → List V → List V}
theorem run_fnK {pins : List (Addr × Obj)} {σ : L2.St} {H : Hp} {s : Shared} {Q : VK} {us ws : List Value} {vs zs : List V} (F : FnG X.prog X.w X.K X.mg X.base CX k f fd ps sp) (hgd : X.A.guards = some []) (hr : Room k X.A) (hb : KBn X.K fd ps n ks g gV) (hx : PassesAt CX X σ (E σ))
    (I : Inv X pins σ H s) (r : Vals vs us) (rz : Vals zs ws) (l1 : vs.length = n) (l2 : zs.length = ks.length) (h : sp (gV vs zs) H Q (E σ)) : wpAny (model X.prog X.w) X.A (call (.ref f) us (ks.zip ws)) (EP X pins σ Q) X.xe s := by
  refine wpAny_call (codeAny_mono (F.run X.A X.stack s H ⟨us, ks.zip ws⟩ (g us ws) (gV vs zs) Q (E σ) hgd hr I.env0 (hb.to s us ws I.kIn (r.length.symm.trans l1) (rz.length.symm.trans l2)) (hb.rel r rz) h) fun q s' hq => ?_)
  match q, hq with
  | .error e, hq => exact hx pins H s e s' I hq
  | .ok (.ret u), hq => exact I.after hq
  | .ok .next, hq => exact False.elim hq
  | .ok .brk, hq => exact False.elim hq
  | .ok .cont, hq => exact False.elim hq
theorem pe_callK (F : FnG X.prog X.w X.K X.mg X.base CX k f fd ps sp) (hgd : X.A.guards = some []) (hr : Room k X.A) (hg : Gl X x) (hm : X.mg x = some (.ref f)) (hk : PySem.W.keepIn X.K (.ref f) = true) (hb : KBn X.K fd ps n ks g gV) (hx : ∀ σ, PassesAt CX X σ (E σ))
    (ha : PA X (e :: es) t) (hkw : PK X kws tk) (hall : (backToKw pos (keywordEach kws X.env)).all (·.1.isSome) = true := by rfl) (hks : (backToKw pos (keywordEach kws X.env)).filterMap (·.1) = ks := by rfl)
    (hdb : (x == ("__debug__" : Str)) = false := by decide) (he : starEach (e :: es) X.env = (false, eval e X.env) :: starEach es X.env := by rfl)
    (hpl : ((backTo pos (starEach (e :: es) X.env)).any (·.1) || (backToKw pos (keywordEach kws X.env)).any (·.1.isNone)) = false := by rfl) :
    PE X (.Call (.Name x p) (e :: es) kws pos) (tCallK n ks.length sp gV E t tk) :=
  ⟨fun pins s σ H Q I h => wpAny_Call_Name_kw (ld_glob I hg hm (PySem.W.callWith_KW (h₀ := X.base) I.ok.mod.kin hk hall (thn (ha.run pos pins s σ H _ I h) fun us s1 ⟨vs, H1, I1, r, q⟩ =>
    thn (hkw.run pos pins s1 σ H1 _ I1 q) fun ws s2 ⟨zs, H2, I2, rz, l1, l2, q2⟩ => ⟨I2.kIn, by
      rw [hks]
      exact run_fnK F hgd hr hb (hx σ) I2 r rz l1 l2 q2⟩) hpl he) hdb)⟩
theorem PK.imp {t t' : TA} (h : PK X kws t) (k : ∀ σ H Q, t' σ H Q → t σ H Q) : PK X kws t' := ⟨fun pos pins s σ H Q I q => h.run pos pins s σ H Q I (k σ H Q q)⟩
theorem dkNil : PK X [] (tA X.K W (mPure [])) := PK.imp pk_nil (by
  rintro σ H Q ⟨c, F, ρ, ok, h⟩
  exact post_ok (W := W) h ok _ .nil)
theorem dkCons {ma : M D} {ms : M (List D)} {nm : Option Str} {kpos : Pos} (ha : PE X e (tE X.K W ma)) (hr : PK X kws (tA X.K W ms)) : PK X (⟨nm, e, kpos⟩ :: kws) (tA X.K W (mCons ma ms)) := by
  refine PK.imp (pk_cons ha hr) ?_
  rintro σ H Q ⟨c, F, ρ, ok, h⟩
  refine ⟨c, F, ρ, ok, post_mono ?_ (post_bind h)⟩
  rintro d H1 F1 _ ⟨ρ1, ok1, s1, h1⟩ x rx
  refine ⟨c, F1, ρ1, ok1, post_mono ?_ (post_bind h1)⟩
  rintro ds H2 F2 _ ⟨ρ2, ok2, s2, h2⟩ xs rxs
  exact post_ok (W := W) h2 ok2 _ (.cons (Dp.mono s2 rx) rxs)
theorem dpAll_app {K : PySem.W.Frag} {F : Hp} : ∀ {xs ys : List V} {ds es : List D}, DpAll K F xs ds → DpAll K F ys es → DpAll K F (xs ++ ys) (ds ++ es)
  | _, _, _, _, .nil, h => h
  | _, _, _, _, .cons r t, h => .cons r (dpAll_app t h)
/-- f(e, .., k = v, ..): n values, then the defaults a, then m keywords' values, then the defaults b -/
def mCallK (n m : Nat) (a b : List D) (f : List D → Option (Rs D)) (ms mk : M (List D)) : M D := mBind ms fun ds => mBind mk fun es => if ds.length = n ∧ es.length = m then mRs (f (ds ++ (a ++ (es ++ b)))) else mStuck
theorem dCallKG {m np : Nat} {a b : List D} {aV bV : List V} {fn : List D → Option (Rs D)} {ms mk : M (List D)} (hgd : X.A.guards = some []) (F : FnG X.prog X.w X.K X.mg X.base (L2.CX X.prog X.w) k f fd ps (spV X.K np fn)) (hr : Room k X.A) (hm : X.mg x = some (.ref f)) (hk : PySem.W.keepIn X.K (.ref f) = true)
    (hb : KBn X.K fd ps n ks g fun vs zs => vs ++ (aV ++ (zs ++ bV))) (tk : Takes X W) (hc1 : ∀ F, DpAll X.K F aV a) (hc2 : ∀ F, DpAll X.K F bV b)
    (ha : PA X (e :: es) (tA X.K W ms)) (hkw : PK X kws (tA X.K W mk)) (hn : np = n + (a.length + (m + b.length)) := by rfl) (hlm : ks.length = m := by rfl) (hg : Gl X x := by rfl)
    (hall : (backToKw pos (keywordEach kws X.env)).all (·.1.isSome) = true := by rfl) (hks : (backToKw pos (keywordEach kws X.env)).filterMap (·.1) = ks := by rfl)
    (hdb : (x == ("__debug__" : Str)) = false := by decide) (he : starEach (e :: es) X.env = (false, eval e X.env) :: starEach es X.env := by rfl)
    (hpl : ((backTo pos (starEach (e :: es) X.env)).any (·.1) || (backToKw pos (keywordEach kws X.env)).any (·.1.isNone)) = false := by rfl) :
    PE X (.Call (.Name x p) (e :: es) kws pos) (tE X.K W (mCallK n m a b fn ms mk)) := PE.imp (pe_callK F hgd hr hg hm hk hb (fun σ => passAt tk σ) ha hkw hall hks hdb he hpl) (by
  rintro σ H Q ⟨c, F0, ρ, ok, h⟩
  refine ⟨c, F0, ρ, ok, post_mono ?_ (post_bind h)⟩
  rintro ds H1 F1 _ ⟨ρ1, ok1, s1, h1⟩ vs rv
  refine ⟨c, F1, ρ1, ok1, post_mono ?_ (post_bind h1)⟩
  rintro es H2 F2 _ ⟨ρ2, ok2, s2, h2⟩ zs rz
  by_cases hl : ds.length = n ∧ es.length = m
  · rw [if_pos hl] at h2
    refine ⟨(DpAll.length rv).trans hl.1, ((DpAll.length rz).trans hl.2).trans hlm.symm, F2, ds ++ (a ++ (es ++ b)), ok2.sub, dpAll_app (DpAll.mono s2 rv) (dpAll_app (hc1 F2) (dpAll_app rz (hc2 F2))), ?_, ?_⟩
    · rw [List.length_append, List.length_append, List.length_append, hl.1, hl.2, hn]
    · unfold mRs at h2
      cases e : fn (ds ++ (a ++ (es ++ b))) with
      | none => rw [e] at h2; exact h2
      | some r =>
        rw [e] at h2
        cases r with
        | ok d => exact fun v F' H' x r => h2 H' F' (ok2.call x) x.ff v r
        | error e => exact fun cls y F' H' x r => h2 cls y H' F' (ok2.call x) x.ff r
  · rw [if_neg hl] at h2
    exact h2.elim)
end
end Dd

namespace Dd
open PySem PySem.Spec L2 PyProof.Rows
/-! ### a, b, c = x, y, z -/
def mPar3 (i j l : Nat) (ma mb mc : M D) : M Fl := mBind ma fun a => mBind mb fun b => mBind mc fun c => mBind (mStore i a) fun _ => mBind (mStore j b) fun _ => mBind (mStore l c) fun _ => mDone
section
variable {X : Cx} {W : WX} {K : PySem.W.Frag} {σ : L2.St} {H F : Hp} {ρ : En} {c : Ct} {Dn : Ends} {i j l : Nat} {ma mb mc : M D}
theorem store_bind {α : Type} {d : D} {v : V} {f : Unit → M Fl} (ok : Ok K c σ H F ρ) (r : Dp K F v d) (h : postS K W c F Dn (mBind (mStore i d) f ρ)) : ∃ F1 ρ1, Ok K c (σ.set i (some v)) H F1 ρ1 ∧ Same F F1 ∧ postS K W c F1 Dn (f () ρ1) := by
  have h3 := postS_bindG h
  unfold mStore at h3
  split at h3
  · rename_i hl
    exact h3 _ H F (ok.setV hl r) (Same.refl F)
  · exact h3.elim
theorem par3_of (h : tS K W (mPar3 i j l ma mb mc) Dn σ H) : tPar3 i j l (tCons (tE K W ma) (tCons (tE K W mb) (tCons (tE K W mc) tNil))) Dn σ H := by
  obtain ⟨c, F, ρ, ok, h⟩ := h
  refine ⟨c, F, ρ, ok, post_mono ?_ (postS_bind h)⟩
  rintro d1 H1 F1 _ ⟨ρ1, ok1, s1, h1⟩ v1 r1
  refine ⟨c, F1, ρ1, ok1, post_mono ?_ (postS_bind h1)⟩
  rintro d2 H2 F2 _ ⟨ρ2, ok2, s2, h2⟩ v2 r2
  refine ⟨c, F2, ρ2, ok2, post_mono ?_ (postS_bind h2)⟩
  rintro d3 H3 F3 _ ⟨ρ3, ok3, s3, h3⟩ v3 r3
  refine ⟨v1, v2, v3, rfl, ?_⟩
  obtain ⟨F4, ρ4, ok4, s4, h4⟩ := store_bind (α := Unit) ok3 (Dp.mono (s2.trans s3) r1) h3
  obtain ⟨F5, ρ5, ok5, s5, h5⟩ := store_bind (α := Unit) ok4 (Dp.mono (s3.trans s4) r2) h4
  obtain ⟨F6, ρ6, ok6, s6, h6⟩ := store_bind (α := Unit) ok5 (Dp.mono (s4.trans s5) r3) h5
  exact h6 _ _ _ ok6 (Same.refl F6)
variable {x y z : Str} {a b cc : Expr} {px py pz pt pt2 pos : Pos} {kt k2 : Nat}
theorem dPar3 (hc : X.calm = true) (hN : X.N.Nodup) (hij : i ≠ j) (hil : i ≠ l) (hjl : j ≠ l) (ha : PE X a (tE X.K W ma)) (hb : PE X b (tE X.K W mb)) (hcc : PE X cc (tE X.K W mc)) (hi : X.N[i]? = some x := by rfl) (hj : X.N[j]? = some y := by rfl) (hl : X.N[l]? = some z := by rfl)
    (hx : X.env.scope.names.lookup x = some .local := by rfl) (hy : X.env.scope.names.lookup y = some .local := by rfl) (hz : X.env.scope.names.lookup z = some .local := by rfl)
    (hw : swappedStores [.Tuple [.Name x px, .Name y py, .Name z pz] kt pt] (.Tuple [a, b, cc] k2 pt2) X.env = pure (some [x, y, z]) := by rfl)
    (hs : swapsWithSole [.Tuple [.Name x px, .Name y py, .Name z pz] kt pt] (.Tuple [a, b, cc] k2 pt2) pos.line X.env = pure false := by rfl)
    (hs1 : starEach [a, b, cc] X.env = (false, eval a X.env) :: starEach [b, cc] X.env := by rfl) (hs2 : starEach [b, cc] X.env = (false, eval b X.env) :: starEach [cc] X.env := by rfl) (hs3 : starEach [cc] X.env = (false, eval cc X.env) :: starEach [] X.env := by rfl) :
    PS X (.Assign [.Tuple [.Name x px, .Name y py, .Name z pz] kt pt] (.Tuple [a, b, cc] k2 pt2) pos) (tS X.K W (mPar3 i j l ma mb mc)) :=
  PS.imp (ps_par3 hc hN hi hj hl hij hil hjl hx hy hz (pa_cons ha (pa_cons hb (pa_cons hcc pa_nil hs3) hs2) hs1) hw hs) fun _ _ _ => par3_of
end
end Dd

namespace Dd
open PySem PySem.Spec L2 PyProof.Rows
/-! ### a, *b = a list -/
section
variable {prog : Program} {w : World} {A : Around} {E : Value → Shared → Prop} {s : Shared}
end
section
variable {X : Cx} {pos : Pos} {W : WX}
end
/-! ### a def that hands back a new list -/
section
variable {K : PySem.W.Frag} {W : WX} {c : Ct} {σ : L2.St} {H F : Hp} {ρ : En}
end
section
variable {X : Cx} {W : WX} {pos : Pos}
end
section
variable {K : PySem.W.Frag} {W : WX} {σ : L2.St} {H : Hp} {n : Nat} {ms : M (List D)}
/-- a call that looks at a slot's own list; what is told is no list -/
def scalD : D → Bool
  | .none => true
  | .bool _ => true
  | .int _ => true
  | .str _ => true
  | _ => false
theorem scal_dp {F F' : Hp} {v : V} {d : D} (hs : scalD d = true) (h : Dp K F v d) : Dp K F' v d := by
  cases h with
  | non => exact .non
  | bl b => exact .bl b
  | int i => exact .int i
  | str x => exact .str x
  | lst _ _ => cases hs
  | dct _ _ => cases hs
  | ins _ _ _ _ => cases hs
  | tup _ _ => cases hs
end
section
variable {X : Cx} {W : WX} {k n : Nat} {f : Addr} {fd : FuncData} {ps : List Str} {x : Str} {p pos : Pos} {e : Expr} {es : List Expr} {ms : M (List D)}
end
end Dd

namespace Dd
open PySem PySem.Spec L2 PyProof.Rows HT
/-! ### t[::-1] of a tuple -/
section
variable {prog : Program} {w : World} {A : Around} {E : Value → Shared → Prop} {s : Shared}
end
section
variable {X : Cx} {W : WX} {a : Expr} {ma : M D} {pos p1 p2 p3 : Pos} {k : Nat}
end
end Dd

namespace Dd
open PySem PySem.Spec L2 PyProof.Rows
variable {K : PySem.W.Frag}
variable {X : Cx} {W : WX} {e : Expr} {elts : List Expr} {kk : Nat} {p pos tpos : Pos} {ms : M (List D)}
end Dd

namespace Dd
open PySem PySem.Spec L2
def keyD : D → Option Key
  | .int i => some (.inl i)
  | .str x => some (.inr x)
  | _ => none
section
variable {K : PySem.W.Frag} {F H : Hp}
theorem KVs.length : ∀ {ws : List (Key × V)} {kvs : List (Key × D)}, KVs K F ws kvs → ws.length = kvs.length
  | _, _, .nil => rfl
  | _, _, .cons _ t => by rw [List.length_cons, List.length_cons, KVs.length t]
theorem KVs.snoc {k : Key} {v : V} {d : D} (h0 : Dp K F v d) : ∀ {ws : List (Key × V)} {kvs : List (Key × D)}, KVs K F ws kvs → KVs K F (ws ++ [(k, v)]) (kvs ++ [(k, d)])
  | _, _, .nil => .cons h0 .nil
  | _, _, .cons h t => .cons h (KVs.snoc h0 t)
theorem KVs.any : ∀ {ws : List (Key × V)} {kvs : List (Key × D)} (k : Key), KVs K F ws kvs → (ws.any fun kv => decide (kv.1 = k)) = (kvs.any fun kv => decide (kv.1 = k))
  | _, _, k, .nil => rfl
  | _, _, k, .cons h t => by rw [List.any_cons, List.any_cons, KVs.any k t]
theorem KVs.items : ∀ {ws : List (Key × V)} {kvs : List (Key × D)}, KVs K F ws kvs → DpAll K F (ws.map (·.2)) (kvs.map (·.2))
  | _, _, .nil => .nil
  | _, _, .cons h t => .cons h (KVs.items t)
theorem key_is {y : V} {d : D} {k : Key} (r : Dp K F y d) (e : keyD d = some k) : y = kV k := by
  cases r <;> first | (cases e; rfl) | cases e
end
section
variable {K : PySem.W.Frag} {W : WX} {c : Ct} {σ : L2.St} {H F : Hp} {ρ : En}
theorem lt_of_get {α : Type} {l : List α} {i : Nat} {a : α} (e : l[i]? = some a) : i < l.length := by
  rcases Nat.lt_or_ge i l.length with h | h
  · exact h
  · rw [List.getElem?_eq_none h] at e; cases e
end
end Dd

namespace Dd
open PySem PySem.Spec L2
section
variable {K : PySem.W.Frag} {W : WX} {σ : L2.St} {H : Hp}
end
section
variable {X : Cx} {W : WX}
end
end Dd
namespace Dd
open PySem PySem.Spec L2
section
variable {X : Cx} {W : WX}
end
end Dd

namespace Dd
open PySem PySem.Spec L2
/-! ### a slot's own list of own lists -/
section
variable {K : PySem.W.Frag} {W : WX} {c : Ct} {σ : L2.St} {H F H' : Hp} {ρ : En}
theorem nodup_set {q : Addr} : ∀ {ps : List Addr}, q ∉ ps → ps.Nodup → ∀ k : Nat, (ps.set k q).Nodup
  | [], _, h, _ => h
  | p :: ps, n, h, 0 => by
    obtain ⟨_, h2⟩ := List.nodup_cons.mp h
    exact List.nodup_cons.mpr ⟨fun z => n (List.mem_cons_of_mem _ z), h2⟩
  | p :: ps, n, h, k + 1 => by
    obtain ⟨h1, h2⟩ := List.nodup_cons.mp h
    refine List.nodup_cons.mpr ⟨fun z => ?_, nodup_set (fun z => n (List.mem_cons_of_mem _ z)) h2 k⟩
    rcases List.mem_or_eq_of_mem_set z with z | z
    · exact h1 z
    · exact n (by rw [z]; exact List.mem_cons_self)
/-- nothing is known of slot i -/
theorem Ok.forget {i : Nat} (ok : Ok K c σ H F ρ) (hi : i < ρ.length) : Ok K c σ H F (ρ.set i .un) := by
  have oth : ∀ {j : Nat} {u : Sl}, (ρ.set i .un)[j]? = some u → u ≠ .un → ρ[j]? = some u := fun {j u} q n => by
    rw [get_set hi] at q
    by_cases z : i = j
    · rw [if_pos z] at q; exact absurd (Option.some.inj q).symm n
    · rw [if_neg z] at q; exact q
  exact ⟨by rw [List.length_set]; exact ok.len, ok.sub, ok.ge, ok.fe, ok.keep, ok.iod, ok.prt, fun j d q => ok.val j d (oth q (by intro z; cases z)), fun j d q => ok.own j d (oth q (by intro z; cases z)), fun j d q => ok.ios j d (oth q (by intro z; cases z)), fun j d q => ok.scr j d (oth q (by intro z; cases z)),
    fun j k es fs q x y u w => ok.sep j k es fs q (oth x (by intro z; cases z)) (oth y (by intro z; cases z)) u w, ok.dcs.setE hi⟩
/-- slot i holds a list of lists within Z, which alone has changed -/
theorem Ok.setN {i : Nat} {p : Addr} {ps : List Addr} {dss : List (List D)} (Z : Addr → Prop) (ok : Ok K c σ H F (ρ.set i .un)) (hi : i < ρ.length) (hp : σ[i]? = some (some (.ref p)))
    (hZ : ∀ a, Z a → Mine F c.H0 c.pr a) (hO : ∀ a, Z a → ∀ (j : Nat) (es : List D), (ρ.set i .un)[j]? = some (.own es) → σ[j]? = some (some (.ref a)) → False) (hX : ∀ a, Z a → XC H σ (ρ.set i .un) a → False)
    (hH : ∀ a, ¬ Z a → H' a = H a) (h1 : H' p = some (.lst (ps.map V.ref))) (zp : Z p) (zps : ∀ q ∈ ps, Z q) (hI : Inn K F H' c.H0 c.pr ps dss) (hn : p ∉ ps) (hd : ps.Nodup) : Ok K c σ H' F (ρ.set i (.nst dss)) := by
  have nz : ∀ {a : Addr}, (F a ≠ none ∨ c.H0 a ≠ none ∨ c.pr a ≠ none) → ¬ Z a := fun {a} h z => by
    obtain ⟨a1, a2, a3⟩ := hZ a z
    rcases h with h | h | h
    · exact h a1
    · exact h a2
    · exact h a3
  have sm : ∀ {a : Addr}, (F a ≠ none ∨ c.H0 a ≠ none ∨ c.pr a ≠ none) → H' a = H a := fun h => hH _ (nz h)
  have oth : ∀ {j : Nat} {u : Sl}, (ρ.set i (.nst dss))[j]? = some u → (∀ d, u ≠ .nst d) → (ρ.set i .un)[j]? = some u := fun {j u} q n => by
    rw [get_set hi] at q ⊢
    by_cases z : i = j
    · rw [if_pos z] at q; exact absurd (Option.some.inj q).symm (n dss)
    · rw [if_neg z] at q ⊢; exact q
  have hcl : ∀ {a : Addr}, Cells H' σ[i]? a → Z a := fun {a} ⟨p', ps', b1, b2, b3⟩ => by
    rw [hp] at b1
    cases b1
    rw [h1] at b2
    have z := refs_inj (HO.lst.inj (Option.some.inj b2))
    subst z
    rcases b3 with rfl | hq
    · exact zp
    · exact zps a hq
  have dtr : Dcs K F H' c.H0 c.pr σ (ρ.set i .un) := ok.dcs.tr (Same.refl F) fun q o a1 a2 a3 a4 _ x => ⟨by rw [hH q fun z => hX q z x]; exact a1, a2, a4⟩
  have hX' : ∀ a, Z a → XC H' σ (ρ.set i .un) a → False := fun a z x => by
    refine hX a z ?_
    rcases x with ⟨j, l, e1, e2⟩ | ⟨j, l, e1, p', ps', b1, b2, b3⟩
    · exact .inl ⟨j, l, e1, e2⟩
    · obtain ⟨p0, ps0, a1, a2, _⟩ := ok.dcs.nat j l e1
      have ep : p0 = p' := by rw [b1] at a1; cases a1; rfl
      subst ep
      rw [hH p0 fun z => hX p0 z (.inr ⟨j, l, e1, p0, ps0, a1, a2, .inl rfl⟩)] at b2
      exact .inr ⟨j, l, e1, p0, ps', b1, b2, b3⟩
  have cases_n : ∀ {j : Nat} {l : List (List D)}, (ρ.set i (.nst dss))[j]? = some (.nst l) → (j = i ∧ l = dss) ∨ (j ≠ i ∧ (ρ.set i .un)[j]? = some (.nst l)) := fun {j l} q => by
    rw [get_set hi] at q ⊢
    by_cases z : i = j
    · rw [if_pos z] at q; cases q; exact .inl ⟨z.symm, rfl⟩
    · rw [if_neg z] at q ⊢; exact .inr ⟨fun e => z e.symm, q⟩
  refine ⟨by rw [List.length_set]; have := ok.len; rw [List.length_set] at this; exact this, fun b o e => ?_, ok.ge, ok.fe, fun b o e n => ?_, fun q e => ?_, fun b o e => ?_, fun j d q => ok.val j d (oth q (by intro _ z; cases z)), fun j es q => ?_, fun j es q => ?_, fun j ns q => ok.scr j ns (oth q (by intro _ z; cases z)),
    fun j k es fs q x y u w => ok.sep j k es fs q (oth x (by intro _ z; cases z)) (oth y (by intro _ z; cases z)) u w, ?_⟩
  · rw [sm (.inl (by rw [e]; exact Option.some_ne_none _))]; exact ok.sub b o e
  · rw [sm (.inr (.inl (by rw [e]; exact Option.some_ne_none _)))]; exact ok.keep b o e n
  · obtain ⟨a1, a2, a3, xs, a4⟩ := ok.iod q e
    exact ⟨a1, a2, a3, xs, by rw [sm (.inr (.inl a2))]; exact a4⟩
  · obtain ⟨a1, a2, a3⟩ := ok.prt b o e
    exact ⟨by rw [sm (.inr (.inr (by rw [e]; exact Option.some_ne_none _)))]; exact a1, a2, a3⟩
  · have q' := oth q (by intro _ z; cases z)
    obtain ⟨r, vs, a1, a2, a3⟩ := ok.own j es q'
    exact ⟨r, vs, a1, by rw [hH r fun z => hO r z j es q' a1]; exact a2, a3⟩
  · obtain ⟨z, r, vs, a0, a1, a2, a3⟩ := ok.ios j es (oth q (by intro _ z; cases z))
    obtain ⟨_, b2, _⟩ := ok.iod r a0
    exact ⟨z, r, vs, a0, a1, by rw [sm (.inr (.inl b2))]; exact a2, a3⟩
  · refine ⟨fun j l q => dtr.at' j l (oth q (by intro _ z; cases z)), fun j k a b q x y u w => dtr.sep j k a b q (oth x (by intro _ z; cases z)) (oth y (by intro _ z; cases z)) u w, fun j l q => ?_, fun j k l es q x y u cc => ?_, fun j k l m q x y u w => ?_, fun j k l es q x y u w => dtr.down j k l es q (oth x (by intro _ z; cases z)) (oth y (by intro _ z; cases z)) u w⟩
    · rcases cases_n q with ⟨rfl, rfl⟩ | ⟨_, q'⟩
      · exact ⟨p, ps, hp, h1, hZ p zp, hI, hn, hd⟩
      · exact dtr.nat j l q'
    · have y' := oth y (by intro _ z; cases z)
      rcases cases_n x with ⟨rfl, rfl⟩ | ⟨_, x'⟩
      · exact hO q (hcl cc) k es y' u
      · exact dtr.nown j k l es q x' y' u cc
    · rcases cases_n x with ⟨rfl, rfl⟩ | ⟨nj, x'⟩
      · rcases cases_n y with ⟨rfl, rfl⟩ | ⟨nk, y'⟩
        · rfl
        · exact (hX' q (hcl u) (.inr ⟨k, m, y', w⟩)).elim
      · rcases cases_n y with ⟨rfl, rfl⟩ | ⟨nk, y'⟩
        · exact (hX' q (hcl w) (.inr ⟨j, l, x', u⟩)).elim
        · exact dtr.nsep j k l m q x' y' u w
theorem Ok.un_get {i j : Nat} {u : Sl} (hi : i < ρ.length) (q : (ρ.set i .un)[j]? = some u) (n : u ≠ .un) : j ≠ i ∧ ρ[j]? = some u := by
  rw [get_set hi] at q
  by_cases z : i = j
  · rw [if_pos z] at q; exact absurd (Option.some.inj q).symm n
  · rw [if_neg z] at q; exact ⟨fun e => z e.symm, q⟩
/-- the lists of a slot's list of lists are no other slot's -/
theorem Ok.nst_z {i : Nat} {dss : List (List D)} (ok : Ok K c σ H F ρ) (e : ρ[i]? = some (.nst dss)) : (∀ a, Cells H σ[i]? a → Mine F c.H0 c.pr a) ∧
    (∀ a, Cells H σ[i]? a → ∀ (j : Nat) (es : List D), (ρ.set i .un)[j]? = some (.own es) → σ[j]? = some (some (.ref a)) → False) ∧ (∀ a, Cells H σ[i]? a → XC H σ (ρ.set i .un) a → False) := by
  have hi := lt_of_get e
  refine ⟨fun a z => (ok.dcs.cell e z).2, fun a z j es q y => ?_, fun a z x => ?_⟩
  · exact ok.dcs.nown i j dss es a e (Ok.un_get hi q (by intro z; cases z)).2 y z
  · rcases x with ⟨j, l, e1, e2⟩ | ⟨j, l, e1, e2⟩
    · obtain ⟨⟨vs, h2⟩, _⟩ := ok.dcs.cell e z
      obtain ⟨r, ws, a1, a2, a3, _⟩ := ok.dcs.at' j l (Ok.un_get hi e1 (by intro z; cases z)).2
      rw [e2] at a1
      cases a1
      rw [h2] at a2; cases a2
      exact a3.noLst
    · obtain ⟨n, q⟩ := Ok.un_get hi e1 (by intro z; cases z)
      exact n (ok.dcs.nsep j i l dss a q e e2 z)
theorem Inn.mono2 {F H H1 H0 pr : Hp} : ∀ {qs : List Addr} {dss : List (List D)}, Inn K F H H0 pr qs dss → (∀ q ∈ qs, H1 q = H q) → Inn K F H1 H0 pr qs dss
  | _, _, .nil, _ => .nil
  | _, _, .cons h d m t, k => .cons (by rw [k _ List.mem_cons_self]; exact h) d m (Inn.mono2 t fun q hq => k q (List.mem_cons_of_mem _ hq))
theorem Inn.get {F H H0 pr : Hp} : ∀ {qs : List Addr} {dss : List (List D)} {k : Nat} {ds : List D}, Inn K F H H0 pr qs dss → dss[k]? = some ds → ∃ q vs, qs[k]? = some q ∧ H q = some (.lst vs) ∧ DpAll K F vs ds
  | _, _, _, _, .nil, e => by simp at e
  | _, _, 0, _, .cons h d m t, e => by
    simp at e; subst e
    exact ⟨_, _, rfl, h, d⟩
  | _, _, k + 1, _, .cons h d m t, e => by
    obtain ⟨q, vs, a, b, c⟩ := Inn.get (k := k) t (by simpa using e)
    exact ⟨q, vs, by simpa using a, b, c⟩
theorem Inn.length {F H H0 pr : Hp} : ∀ {qs : List Addr} {dss : List (List D)}, Inn K F H H0 pr qs dss → qs.length = dss.length
  | _, _, .nil => rfl
  | _, _, .cons _ _ _ t => by rw [List.length_cons, List.length_cons, Inn.length t]
/-- one of the lists is another now -/
theorem Inn.put {F H H0 pr : Hp} {vs' : List V} {ds' : List D} (hd : DpAll K F vs' ds') : ∀ {qs : List Addr} {dss : List (List D)} {k : Nat} {q : Addr}, Inn K F H H0 pr qs dss → qs[k]? = some q → qs.Nodup → Inn K F (upd H q (.lst vs')) H0 pr qs (dss.set k ds')
  | _, _, _, _, .nil, e, _ => by simp at e
  | _, _, 0, q, .cons h d m t, e, hn => by
    simp at e; subst e
    obtain ⟨n1, _⟩ := List.nodup_cons.mp hn
    exact .cons upd_same hd m (Inn.mono2 t fun q hq => upd_ne fun z => by subst z; exact n1 hq)
  | _, _, k + 1, q, .cons h d m t, e, hn => by
    obtain ⟨n1, n2⟩ := List.nodup_cons.mp hn
    have e' := (by simpa using e : _[k]? = some q)
    exact .cons (by rw [upd_ne fun z => by subst z; exact n1 (List.mem_of_getElem? e')]; exact h) d m (Inn.put hd t e' n2)
theorem Inn.snoc {F H H0 pr : Hp} {q : Addr} {vs : List V} {ds : List D} (h0 : H q = some (.lst vs)) (hd : DpAll K F vs ds) (hm : Mine F H0 pr q) : ∀ {qs : List Addr} {dss : List (List D)}, Inn K F H H0 pr qs dss → Inn K F H H0 pr (qs ++ [q]) (dss ++ [ds])
  | _, _, .nil => .cons h0 hd hm .nil
  | _, _, .cons h d m t => .cons h d m (Inn.snoc h0 hd hm t)
theorem Inn.swap {F H H0 pr : Hp} {q : Addr} {vs : List V} {ds : List D} (h0 : H q = some (.lst vs)) (hd : DpAll K F vs ds) (hm : Mine F H0 pr q) : ∀ {qs : List Addr} {dss : List (List D)} (k : Nat), Inn K F H H0 pr qs dss → Inn K F H H0 pr (qs.set k q) (dss.set k ds)
  | _, _, _, .nil => .nil
  | _, _, 0, .cons h d m t => .cons h0 hd hm t
  | _, _, k + 1, .cons h d m t => .cons h d m (Inn.swap h0 hd hm k t)
theorem Inn.dp {F H H0 pr F' : Hp} (s : Same F F') : ∀ {qs : List Addr} {dss : List (List D)}, Inn K F H H0 pr qs dss → (∀ q ∈ qs, ∀ o, H q = some o → F' q = some o) → DpAll K F' (qs.map V.ref) (dss.map PyData.list)
  | _, _, .nil, _ => .nil
  | _, _, .cons h d m t, k => .cons (.lst (.inl (k _ List.mem_cons_self _ h)) (DpAll.mono s d)) (Inn.dp s t fun q hq => k q (List.mem_cons_of_mem _ hq))
/-- one of the lists is changed: x[k].append(v), x[k][j] = v -/
theorem Ok.innN {i k : Nat} {dss : List (List D)} {ds ds' : List D} (ok : Ok K c σ H F ρ) (e : ρ[i]? = some (.nst dss)) (ek : dss[k]? = some ds) : ∃ (p : Addr) (ps : List Addr) (q : Addr) (vs : List V), σ[i]? = some (some (.ref p)) ∧ H p = some (.lst (ps.map V.ref)) ∧ ps[k]? = some q ∧ H q = some (.lst vs) ∧ DpAll K F vs ds ∧ F q = none ∧ F p = none ∧
    ∀ vs', DpAll K F vs' ds' → Ok K c σ (upd H q (.lst vs')) F (ρ.set i (.nst (dss.set k ds'))) := by
  obtain ⟨p, ps, a1, a2, a3, a4, a5, a6⟩ := ok.dcs.nat i dss e
  obtain ⟨q, vs, b1, b2, b3⟩ := Inn.get a4 ek
  have hi := lt_of_get e
  have hq : q ∈ ps := List.mem_of_getElem? b1
  have hc : ∀ a, (a = p ∨ a ∈ ps) → Cells H σ[i]? a := fun a h => ⟨p, ps, a1, a2, h⟩
  obtain ⟨z1, z2, z3⟩ := ok.nst_z e
  refine ⟨p, ps, q, vs, a1, a2, b1, b2, b3, (z1 q (hc q (.inr hq))).1, a3.1, fun vs' hd => ?_⟩
  have npq : p ≠ q := fun z => by subst z; exact a5 hq
  exact Ok.setN (Cells H σ[i]?) (ok.forget hi) hi a1 z1 z2 z3 (fun a n => upd_ne fun z => by subst z; exact n (hc a (.inr hq))) (by rw [upd_ne npq]; exact a2) (hc p (.inl rfl)) (fun a h => hc a (.inr h)) (Inn.put hd a4 b1 a6) a5 a6
/-- a new list at the end, or in the place of one -/
theorem Ok.outN {i : Nat} {dss : List (List D)} {q : Addr} {vs : List V} {ds : List D} (ok : Ok K (c.put q (.lst vs)) σ H F ρ) (hpr : c.pr q = none) (e : ρ[i]? = some (.nst dss)) (hd : DpAll K F vs ds) : ∃ (p : Addr) (ps : List Addr), σ[i]? = some (some (.ref p)) ∧ H p = some (.lst (ps.map V.ref)) ∧ ps.length = dss.length ∧ F p = none ∧
    Ok K c σ (upd H p (.lst ((ps ++ [q]).map V.ref))) F (ρ.set i (.nst (dss ++ [ds]))) ∧ ∀ k, Ok K c σ (upd H p (.lst ((ps.set k q).map V.ref))) F (ρ.set i (.nst (dss.set k ds))) := by
  obtain ⟨hH, hF, h0⟩ := ok.prt q _ upd_same
  have nq : ∀ {a : Addr}, (c.put q (.lst vs)).pr a = none → a ≠ q := fun {a} h z => by
    subst z
    have h' : upd c.pr a (.lst vs) a = none := h
    rw [upd_same] at h'; cases h'
  obtain ⟨p, ps, a1, a2, a3, a4, a5, a6⟩ := ok.dcs.nat i dss e
  have hi := lt_of_get e
  have hc : ∀ a, (a = p ∨ a ∈ ps) → Cells H σ[i]? a := fun a h => ⟨p, ps, a1, a2, h⟩
  have okc := ok_unput ok hpr
  obtain ⟨z1, z2, z3⟩ := okc.nst_z e
  obtain ⟨y1, _, _⟩ := ok.nst_z e
  have npq : p ≠ q := nq (y1 p (hc p (.inl rfl))).2.2
  have nps : q ∉ ps := fun h => nq (y1 q (hc q (.inr h))).2.2 rfl
  have mq : Mine F c.H0 c.pr q := ⟨hF, h0, hpr⟩
  have Z1 : ∀ a, (Cells H σ[i]? a ∨ a = q) → Mine F c.H0 c.pr a := fun a h => by
    rcases h with h | rfl
    · exact z1 a h
    · exact mq
  have Z2 : ∀ a, (Cells H σ[i]? a ∨ a = q) → ∀ (j : Nat) (es : List D), (ρ.set i .un)[j]? = some (.own es) → σ[j]? = some (some (.ref a)) → False := fun a h j es x y => by
    rcases h with h | rfl
    · exact z2 a h j es x y
    · obtain ⟨r, ws, b1, _, _, _, _, b6⟩ := ok.own j es (Ok.un_get hi x (by intro z; cases z)).2
      rw [y] at b1
      cases b1
      exact nq b6 rfl
  have Z3 : ∀ a, (Cells H σ[i]? a ∨ a = q) → XC H σ (ρ.set i .un) a → False := fun a h x => by
    rcases h with h | rfl
    · exact z3 a h x
    · exact nq ((ok.forget hi).dcs.xmine x).1.2.2 rfl
  have inn2 : ∀ o : HO, Inn K F (upd H p o) c.H0 c.pr ps dss := fun o => by
    obtain ⟨p', ps', e1, e2, _, e4, _⟩ := okc.dcs.nat i dss e
    rw [a1] at e1
    cases e1
    rw [a2] at e2
    have z := refs_inj (HO.lst.inj (Option.some.inj e2))
    subst z
    exact Inn.mono2 e4 fun r hr => upd_ne fun z => by subst z; exact a5 hr
  have hq' : ∀ o : HO, upd H p o q = some (.lst vs) := fun o => by rw [upd_ne (Ne.symm npq)]; exact hH
  refine ⟨p, ps, a1, a2, Inn.length a4, a3.1, ?_, fun k => ?_⟩
  · refine Ok.setN (fun a => Cells H σ[i]? a ∨ a = q) (okc.forget hi) hi a1 Z1 Z2 Z3 (fun a n => upd_ne fun z => by subst z; exact n (.inl (hc a (.inl rfl)))) upd_same (.inl (hc p (.inl rfl))) (fun a h => ?_) (Inn.snoc (hq' _) hd mq (inn2 _)) (fun h => ?_) ?_
    · rcases List.mem_append.mp h with h | h
      · exact .inl (hc a (.inr h))
      · exact .inr (List.mem_singleton.mp h)
    · rcases List.mem_append.mp h with h | h
      · exact a5 h
      · exact npq (List.mem_singleton.mp h)
    · refine List.nodup_append.mpr ⟨a6, by simp, fun a ha b hb z => ?_⟩
      rw [List.mem_singleton.mp hb] at z
      subst z
      exact nps ha
  · have mem : ∀ {a : Addr}, a ∈ ps.set k q → a ∈ ps ∨ a = q := fun {a} h => List.mem_or_eq_of_mem_set h
    refine Ok.setN (fun a => Cells H σ[i]? a ∨ a = q) (okc.forget hi) hi a1 Z1 Z2 Z3 (fun a n => upd_ne fun z => by subst z; exact n (.inl (hc a (.inl rfl)))) upd_same (.inl (hc p (.inl rfl))) (fun a h => ?_) (Inn.swap (hq' _) hd mq k (inn2 _)) (fun h => ?_) ?_
    · rcases mem h with h | h
      · exact .inl (hc a (.inr h))
      · exact .inr h
    · rcases mem h with h | h
      · exact a5 h
      · exact npq h
    · exact nodup_set nps a6 k
end
end Dd

namespace Dd
open PySem PySem.Spec L2
section
variable {K : PySem.W.Frag} {W : WX} {c : Ct} {σ : L2.St} {H F H2 F2 : Hp} {ρ ρ2 : En}
open Classical in
/-- the lists of a list of lists are kept apart -/
noncomputable def lockPr (H pr : Hp) (v : Option (Option V)) : Hp := fun a => if Cells H v a then H a else pr a
theorem lockPr_in {H pr : Hp} {v : Option (Option V)} {a : Addr} (h : Cells H v a) : lockPr H pr v a = H a := by unfold lockPr; rw [if_pos h]
theorem lockPr_out {H pr : Hp} {v : Option (Option V)} {a : Addr} (h : ¬ Cells H v a) : lockPr H pr v a = pr a := by unfold lockPr; rw [if_neg h]
theorem Ok.lockN {i : Nat} {dss : List (List D)} (ok : Ok K c σ H F ρ) (e : ρ[i]? = some (.nst dss)) : Ok K { c with pr := lockPr H c.pr σ[i]? } σ H F (ρ.set i .un) := by
  have hi := lt_of_get e
  obtain ⟨z1, z2, z3⟩ := ok.nst_z e
  have okf := ok.forget hi
  refine ⟨okf.len, okf.sub, okf.ge, okf.fe, okf.keep, fun q z => ?_, fun b o q => ?_, okf.val, fun j es q => ?_, okf.ios, okf.scr, okf.sep, okf.dcs.tr (Same.refl F) fun q o b1 b2 b3 b4 _ x => ⟨b1, b2, (lockPr_out fun z => z3 q z x).trans b4⟩⟩
  · obtain ⟨b1, b2, b3, b4⟩ := okf.iod q z
    exact ⟨b1, b2, (lockPr_out fun z => b2 (z1 q z).2.1).trans b3, b4⟩
  · have q' : lockPr H c.pr σ[i]? b = some o := q
    by_cases z : Cells H σ[i]? b
    · rw [lockPr_in z] at q'
      exact ⟨q', (z1 b z).1, (z1 b z).2.1⟩
    · rw [lockPr_out z] at q'
      exact okf.prt b o q'
  · obtain ⟨r, vs, b1, b2, b3, b4, b5, b6⟩ := okf.own j es q
    exact ⟨r, vs, b1, b2, b3, b4, b5, (lockPr_out fun z => z2 r z j es q b1).trans b6⟩
theorem Ok.unpr {pr1 : Hp} (ok : Ok K { c with pr := pr1 } σ H F ρ) (h : ∀ a o, c.pr a = some o → pr1 a = some o) : Ok K c σ H F ρ := by
  have nn : ∀ {a : Addr}, pr1 a = none → c.pr a = none := fun {a} z => by
    cases q : c.pr a with
    | none => rfl
    | some o => rw [h a o q] at z; cases z
  refine ⟨ok.len, ok.sub, ok.ge, ok.fe, ok.keep, fun q z => ?_, fun b o q => ok.prt b o (h b o q), ok.val, fun j es q => ?_, ok.ios, ok.scr, ok.sep, ok.dcs.tr (Same.refl F) fun q o b1 b2 b3 b4 _ _ => ⟨b1, b2, nn b4⟩⟩
  · obtain ⟨b1, b2, b3, b4⟩ := ok.iod q z
    exact ⟨b1, b2, nn b3, b4⟩
  · obtain ⟨r, vs, b1, b2, b3, b4, b5, b6⟩ := ok.own j es q
    exact ⟨r, vs, b1, b2, b3, b4, b5, nn b6⟩
theorem Inn.tr2 {H0 pr : Hp} (s : Same F F2) : ∀ {qs : List Addr} {dss : List (List D)}, Inn K F H H0 pr qs dss → (∀ q ∈ qs, H2 q = H q ∧ F2 q = none) → Inn K F2 H2 H0 pr qs dss
  | _, _, .nil, _ => .nil
  | _, _, .cons h d m t, k => .cons (by rw [(k _ List.mem_cons_self).1]; exact h) (DpAll.mono s d) ⟨(k _ List.mem_cons_self).2, m.2.1, m.2.2⟩ (Inn.tr2 s t fun q hq => k q (List.mem_cons_of_mem _ hq))
/-- .. and given back, as they were -/
theorem Ok.backN {i : Nat} {dss : List (List D)} (ok : Ok K c σ H F ρ) (e : ρ[i]? = some (.nst dss)) (s : Same F F2) (ok2 : Ok K { c with pr := lockPr H c.pr σ[i]? } σ H2 F2 ρ2) (hi : i < ρ2.length) : Ok K c σ H2 F2 (ρ2.set i (.nst dss)) ∧ ∀ a, Cells H σ[i]? a → H2 a = H a := by
  obtain ⟨z1, z2, z3⟩ := ok.nst_z e
  obtain ⟨p, ps, a1, a2, a3, a4, a5, a6⟩ := ok.dcs.nat i dss e
  have hc : ∀ a, (a = p ∨ a ∈ ps) → Cells H σ[i]? a := fun a h => ⟨p, ps, a1, a2, h⟩
  have hpr : ∀ {a : Addr}, Cells H σ[i]? a → ∃ o, H a = some o ∧ H2 a = some o ∧ F2 a = none ∧ lockPr H c.pr σ[i]? a = some o := fun {a} z => by
    obtain ⟨⟨vs, h⟩, _⟩ := ok.dcs.cell e z
    have q : lockPr H c.pr σ[i]? a = some (.lst vs) := (lockPr_in z).trans h
    obtain ⟨b1, b2, _⟩ := ok2.prt a _ q
    exact ⟨_, h, b1, b2, q⟩
  have same : ∀ a, Cells H σ[i]? a → H2 a = H a := fun a z => by
    obtain ⟨o, h1, h2, _⟩ := hpr z
    rw [h1, h2]
  have up : ∀ a o, c.pr a = some o → lockPr H c.pr σ[i]? a = some o := fun a o q => by
    rw [lockPr_out fun z => by rw [(z1 a z).2.2] at q; cases q]; exact q
  refine ⟨?_, same⟩
  have okc := ok2.unpr up
  refine Ok.setN (Cells H σ[i]?) (okc.forget hi) hi a1 (fun a z => ?_) (fun a z j es x y => ?_) (fun a z x => ?_) (fun a _ => rfl) (by rw [same p (hc p (.inl rfl))]; exact a2) (hc p (.inl rfl)) (fun a h => hc a (.inr h)) (Inn.tr2 s a4 fun q hq => ⟨same q (hc q (.inr hq)), ?_⟩) a5 a6
  · obtain ⟨o, _, _, h3, _⟩ := hpr z
    exact ⟨h3, (z1 a z).2.1, (z1 a z).2.2⟩
  · obtain ⟨o, _, _, _, h4⟩ := hpr z
    obtain ⟨r, vs, b1, _, _, _, _, b6⟩ := ok2.own j es (Ok.un_get hi x (by intro z; cases z)).2
    rw [y] at b1
    cases b1
    have b6' : lockPr H c.pr σ[i]? a = none := b6
    rw [h4] at b6'; cases b6'
  · obtain ⟨o, _, _, _, h4⟩ := hpr z
    have b6' : lockPr H c.pr σ[i]? a = none := ((ok2.forget hi).dcs.xmine x).1.2.2
    rw [h4] at b6'; cases b6'
  · obtain ⟨o, _, _, h3, _⟩ := hpr (hc q (.inr hq))
    exact h3
/-- an empty list is the slot's list of lists -/
theorem Ok.newN {i : Nat} {p : Addr} (ok : Ok K (c.put p (.lst [])) σ H F ρ) (hpr : c.pr p = none) (hi : i < ρ.length) (hp : σ[i]? = some (some (.ref p))) : Ok K c σ H F (ρ.set i (.nst [])) := by
  obtain ⟨hH, hF, h0⟩ := ok.prt p _ upd_same
  have nq : ∀ {a : Addr}, (c.put p (.lst [])).pr a = none → a ≠ p := fun {a} h z => by
    subst z
    have h' : upd c.pr a (.lst []) a = none := h
    rw [upd_same] at h'; cases h'
  have okc := ok_unput ok hpr
  refine Ok.setN (ps := []) (fun a => a = p) (okc.forget hi) hi hp (fun a z => by subst z; exact ⟨hF, h0, hpr⟩) (fun a z j es x y => ?_) (fun a z x => ?_) (fun a _ => rfl) hH rfl (fun q hq => by cases hq) .nil (fun h => by cases h) .nil
  · subst z
    obtain ⟨r, ws, b1, _, _, _, _, b6⟩ := ok.own j es (Ok.un_get hi x (by intro z; cases z)).2
    rw [y] at b1
    cases b1
    exact nq b6 rfl
  · subst z
    exact nq ((ok.forget hi).dcs.xmine x).1.2.2 rfl
open Classical in
/-- a list of lists is from now on seen by all -/
theorem Ok.frzN {i : Nat} {dss : List (List D)} (ok : Ok K c σ H F ρ) (e : ρ[i]? = some (.nst dss)) : ∃ (F' : Hp) (p : Addr), Same F F' ∧ σ[i]? = some (some (.ref p)) ∧ Dp K F' (.ref p) (.list (dss.map PyData.list)) ∧ Ok K c σ H F' (ρ.set i (.val (.list (dss.map PyData.list)))) := by
  have hi := lt_of_get e
  obtain ⟨z1, z2, z3⟩ := ok.nst_z e
  obtain ⟨p, ps, a1, a2, a3, a4, a5, a6⟩ := ok.dcs.nat i dss e
  have hc : ∀ a, (a = p ∨ a ∈ ps) → Cells H σ[i]? a := fun a h => ⟨p, ps, a1, a2, h⟩
  have okf := ok.forget hi
  have fi : ∀ {a : Addr}, Cells H σ[i]? a → lockPr H F σ[i]? a = H a := fun {a} z => lockPr_in z
  have fo : ∀ {a : Addr}, ¬ Cells H σ[i]? a → lockPr H F σ[i]? a = F a := fun {a} z => lockPr_out z
  have s : Same F (lockPr H F σ[i]?) := fun b o q => by rw [fo fun z => by rw [(z1 b z).1] at q; cases q]; exact q
  have dp : Dp K (lockPr H F σ[i]?) (.ref p) (.list (dss.map PyData.list)) := .lst (.inl (by rw [fi (hc p (.inl rfl))]; exact a2)) (Inn.dp s a4 fun q hq o ho => by rw [fi (hc q (.inr hq))]; exact ho)
  refine ⟨lockPr H F σ[i]?, p, s, a1, dp, ?_⟩
  have ok2 : Ok K c σ H (lockPr H F σ[i]?) (ρ.set i .un) := by
    refine ⟨okf.len, fun b o q => ?_, okf.ge.trans s, fun b o q => ?_, okf.keep, fun q z => ?_, fun b o q => ?_, fun j d q => ?_, fun j es q => ?_, fun j es q => ?_, okf.scr, okf.sep, okf.dcs.tr s fun q o b1 b2 b3 b4 _ x => ⟨b1, (fo fun z => z3 q z x).trans b2, b4⟩⟩
    · by_cases z : Cells H σ[i]? b
      · rw [fi z] at q; exact q
      · rw [fo z] at q; exact okf.sub b o q
    · by_cases z : Cells H σ[i]? b
      · exact .inr (z1 b z).2.1
      · rw [fo z] at q; exact okf.fe b o q
    · obtain ⟨b1, b2, b3⟩ := okf.iod q z
      exact ⟨(fo fun z => b2 (z1 q z).2.1).trans b1, b2, b3⟩
    · obtain ⟨b1, b2, b3⟩ := okf.prt b o q
      exact ⟨b1, (fo fun z => by rw [(z1 b z).2.2] at q; cases q).trans b2, b3⟩
    · obtain ⟨v, b1, b2⟩ := okf.val j d q
      exact ⟨v, b1, Dp.mono s b2⟩
    · obtain ⟨r, vs, b1, b2, b3, b4, b5⟩ := okf.own j es q
      exact ⟨r, vs, b1, b2, DpAll.mono s b3, (fo fun z => z2 r z j es q b1).trans b4, b5⟩
    · obtain ⟨z, r, vs, b0, b1, b2, b3⟩ := okf.ios j es q
      exact ⟨z, r, vs, b0, b1, b2, DpAll.mono s b3⟩
  have := ok2.setV (i := i) (v := .ref p) (d := .list (dss.map PyData.list)) (by rw [List.length_set]; exact hi) dp
  rw [List.set_set] at this
  have es : σ.set i (some (.ref p)) = σ := by
    apply List.ext_getElem?
    intro j
    by_cases z : i = j
    · subst z
      rw [List.getElem?_set_self (lt_of_get a1), a1]
    · rw [List.getElem?_set_ne z]
  rw [es] at this
  exact this
end
end Dd

namespace Dd
open PySem PySem.Spec L2
section
variable {K : PySem.W.Frag} {W : WX} {σ : L2.St} {H : Hp} {Dn : Ends} {i n : Nat}
def mNst (i : Nat) : M (List (List D)) := fun ρ => match ρ[i]? with
  | some (.nst dss) => some (.ok dss ρ)
  | _ => none
theorem nst_is {ρ : En} {r : R (List (List D))} (h : mNst i ρ = some r) : ∃ dss, ρ[i]? = some (.nst dss) ∧ r = .ok dss ρ := by
  unfold mNst at h
  split at h
  · rename_i dss e
    cases h
    exact ⟨dss, e, rfl⟩
  · cases h
theorem nst_at {α : Type} {c : Ct} {F : Hp} {ρ : En} {G : α → Hp → Hp → Prop} {f : List (List D) → M α} (h : post K W c σ F G (mBind (mNst i) f ρ)) : ∃ dss, ρ[i]? = some (.nst dss) ∧ post K W c σ F G (f dss ρ) := by
  unfold mBind at h
  cases e0 : mNst i ρ with
  | none => rw [e0] at h; exact h.elim
  | some r =>
    obtain ⟨dss, e, rfl⟩ := nst_is e0
    rw [e0] at h
    exact ⟨dss, e, h⟩
/-- x = [], to hold lists that are changed -/
def mNewN (i : Nat) : M Fl := fun ρ => if i < ρ.length then some (.ok .nx (ρ.set i (.nst []))) else none
theorem newN_of (h : tS K W (mNewN i) Dn σ H) : tAsg (tLst tNil) (gName i) Dn σ H := by
  obtain ⟨c, F, ρ, ok, h⟩ := h
  refine ⟨Nat.zero_le _, fun p hp => ?_⟩
  unfold mNewN at h
  split at h
  · rename_i hi
    have hpr := (ok.new hp).2.2.1
    have q := ((ok.allocP (o := .lst []) hp).setU (v := some (.ref p)) hi).newN hpr (by rw [List.length_set]; exact hi) (List.getElem?_set_self (by rw [ok.len]; exact hi))
    rw [List.set_set] at q
    exact h _ _ _ q (Same.refl F)
  · exact h.elim
def mPutN (i : Nat) (dss : List (List D)) : M Unit := fun ρ => if i < ρ.length then some (.ok () (ρ.set i (.nst dss))) else none
/-- x.append(a new list) -/
def mPushN (i : Nat) (mn : M (List D)) : M D := mBind (mNst i) fun _ => mBind mn fun es => mBind (mNst i) fun dss => if fit dss.length = true then mBind (mPutN i (dss ++ [es])) fun _ => mPure .none else mStuck
theorem pushN_of {mn : M (List D)} {Q : VK} (h : tE K W (mPushN i mn) σ H Q) : tBM K "list" rAppend (tVar i) (tCons (tN K W mn) tNil) σ H Q := by
  obtain ⟨c, F, ρ, ok, h⟩ := h
  obtain ⟨dss, e, h⟩ := nst_at h
  obtain ⟨p, ps, a1, a2, _⟩ := ok.dcs.nat i dss e
  refine ⟨.ref p, a1, .inl ⟨rfl, _, SqL.of a2⟩, c, F, ρ, ok, ?_⟩
  unfold mBind at h
  cases e0 : mn ρ with
  | none => rw [e0] at h; exact h.elim
  | some r =>
    rw [e0] at h
    cases r with
    | ex x ρ' => exact fun cls y H' F' ok s r => h cls y H' F' ok s r
    | ok out ρ1 =>
      intro q xs H1 F1 ok1 hp s1 rx
      have h1 : post K W c σ F1 (qE K Q) (mBind (mNst i) (fun dss => if fit dss.length = true then mBind (mPutN i (dss ++ [out])) fun _ => mPure .none else mStuck) ρ1) := post_weak s1 h
      obtain ⟨dss1, e1, h1⟩ := nst_at h1
      obtain ⟨p', ps', b1, b2, b3, b4, b5, _⟩ := ok1.outN hp e1 rx
      have ep : p' = p := by rw [a1] at b1; cases b1; rfl
      subst ep
      by_cases hf : fit dss1.length = true
      · rw [if_pos hf] at h1
        have hi : i < ρ1.length := lt_of_get e1
        have h2 : post K W c σ F1 (qE K Q) (some (.ok .none (ρ1.set i (.nst (dss1 ++ [out]))))) := by
          unfold mBind mPutN at h1
          rw [if_pos hi] at h1
          exact h1
        refine ⟨p', _, _, rfl, rfl, b2, by rw [List.length_map, b3]; exact fit_lt hf, ?_⟩
        rw [List.map_append] at b5
        exact h2 _ _ b5 (Same.refl F1) .non .non
      · rw [if_neg hf] at h1; exact h1.elim
def mEmpty (i : Nat) : M Unit := fun ρ => if i < ρ.length then some (.ok () (ρ.set i .un)) else none
/-- a place in a list of lists, and what is there -/
def atN (dss : List (List D)) : D → Option (Nat × List D)
  | .int k => (ixN dss.length k).bind fun j => dss[j]?.map fun ds => (j, ds)
  | _ => none
theorem atN_is {dss : List (List D)} {k : D} {j : Nat} {ds : List D} (e : atN dss k = some (j, ds)) : ∃ n, k = .int n ∧ ixN dss.length n = some j ∧ dss[j]? = some ds := by
  unfold atN at e
  split at e
  · rename_i n
    cases ej : ixN dss.length n with
    | none => rw [ej] at e; cases e
    | some j' =>
      rw [ej] at e
      have e' : (dss[j']?.map fun ds => (j', ds)) = some (j, ds) := e
      cases ed : dss[j']? with
      | none => rw [ed] at e'; cases e'
      | some ds' => rw [ed] at e'; cases e'; exact ⟨n, rfl, ej, ed⟩
  · cases e
/-- x[k].append(v); v doesn't look at x -/
def mAppN (i : Nat) (mk mv : M D) : M D := mBind (mNst i) fun _ => mBind mk fun k => mBind (mNst i) fun dss => match atN dss k with
  | none => mStuck
  | some (j, ds) => mBind (mEmpty i) fun _ => mBind mv fun d => if fit ds.length = true then mBind (mPutN i (dss.set j (ds ++ [d]))) fun _ => mPure .none else mStuck
theorem appN_of {mk mv : M D} {Q : VK} (h : tE K W (mAppN i mk mv) σ H Q) : tBM K "list" rAppend (tOp (rIx K) (tVar i) (tE K W mk)) (tCons (tE K W mv) tNil) σ H Q := by
  obtain ⟨c, F, ρ, ok, h⟩ := h
  obtain ⟨dss0, e0, h⟩ := nst_at h
  obtain ⟨p, ps0, a1, a2, _⟩ := ok.dcs.nat i dss0 e0
  refine ⟨.ref p, a1, c, F, ρ, ok, post_mono ?_ (post_bind h)⟩
  rintro k H1 F1 _ ⟨ρ1, ok1, s1, h1⟩ y ry
  obtain ⟨dss, e, h5⟩ := nst_at h1
  clear h1
  cases eq : atN dss k with
  | none => rw [eq] at h5; exact h5.elim
  | some jd =>
    obtain ⟨j, ds⟩ := jd
    rw [eq] at h5
    obtain ⟨n, rfl, ej, ed⟩ := atN_is eq
    have hy : y = .int n := by cases ry; rfl
    subst hy
    have hi : i < ρ1.length := lt_of_get e
    have h2 : post K W c σ F1 (qE K Q) (mBind mv (fun d => if fit ds.length = true then mBind (mPutN i (dss.set j (ds ++ [d]))) fun _ => mPure .none else mStuck) (ρ1.set i .un)) := by
      have h1 : post K W c σ F1 (qE K Q) (mBind (mEmpty i) (fun _ => mBind mv fun d => if fit ds.length = true then mBind (mPutN i (dss.set j (ds ++ [d]))) fun _ => mPure .none else mStuck) ρ1) := h5
      unfold mBind mEmpty at h1
      rw [if_pos hi] at h1
      exact h1
    obtain ⟨p1, ps, q, vs, b1, b2, b3, b4, _⟩ := ok1.innN (ds' := ds) e ed
    have ep : p1 = p := by rw [a1] at b1; cases b1; rfl
    subst ep
    have hl : (ps.map V.ref).length = dss.length := by
      obtain ⟨p3, ps3, c1, c2, _, c4, _⟩ := ok1.dcs.nat i dss e
      rw [b1] at c1; cases c1
      rw [b2] at c2
      have z := refs_inj (HO.lst.inj (Option.some.inj c2))
      subst z
      rw [List.length_map, Inn.length c4]
    refine .inl ⟨p1, _, n, .ref q, rfl, rfl, SqL.of b2, ?_, ?_⟩
    · unfold atI
      rw [hl, ej]
      show (ps.map V.ref)[j]? = _
      rw [List.getElem?_map, b3]; rfl
    have cq : Cells H1 σ[i]? q := ⟨p1, ps, b1, b2, .inr (List.mem_of_getElem? b3)⟩
    have cp : Cells H1 σ[i]? p1 := ⟨p1, ps, b1, b2, .inl rfl⟩
    have okl := ok1.lockN e
    refine ⟨.inl ⟨rfl, vs, SqL.of b4⟩, _, F1, ρ1.set i .un, okl, ?_⟩
    have up : ∀ a o, c.pr a = some o → lockPr H1 c.pr σ[i]? a = some o := fun a o z => by
      rw [lockPr_out fun w => by rw [((ok1.nst_z e).1 a w).2.2] at z; cases z]; exact z
    unfold mBind at h2
    cases ev : mv (ρ1.set i .un) with
    | none => rw [ev] at h2; exact h2.elim
    | some r =>
      rw [ev] at h2
      cases r with
      | ex x ρ2 => exact fun cls y H2 F2 ok2 s2 r => h2 cls y H2 F2 (ok2.unpr up) s2 r
      | ok d ρ2 =>
        intro H2 F2 ok2 s2 v rv
        have h3 : post K W c σ F1 (qE K Q) ((if fit ds.length = true then mBind (mPutN i (dss.set j (ds ++ [d]))) fun _ => mPure .none else mStuck : M D) ρ2) := h2
        by_cases hf : fit ds.length = true
        · rw [if_pos hf] at h3
          by_cases hi2 : i < ρ2.length
          · have h4 : post K W c σ F1 (qE K Q) (some (.ok .none (ρ2.set i (.nst (dss.set j (ds ++ [d])))))) := by
              unfold mBind mPutN at h3
              rw [if_pos hi2] at h3
              exact h3
            obtain ⟨ok3, same⟩ := ok1.backN e s2 ok2 hi2
            obtain ⟨p4, ps4, q4, vs4, d1, d2, d3, d4, d5, _, _, d8⟩ := ok3.innN (ds' := ds ++ [d]) (List.getElem?_set_self hi2) ed
            have ep4 : p4 = p1 := by rw [b1] at d1; cases d1; rfl
            subst ep4
            rw [same _ cp, b2] at d2
            have z := refs_inj (HO.lst.inj (Option.some.inj d2))
            subst z
            have eq4 : q4 = q := by rw [b3] at d3; cases d3; rfl
            subst eq4
            have okf := d8 (vs4 ++ [v]) (DpAll.append d5 (.one rv))
            rw [List.set_set] at okf
            exact ⟨q4, vs4, v, rfl, rfl, d4, by rw [DpAll.length d5]; exact fit_lt hf, h4 _ _ okf s2 .non .non⟩
          · unfold mBind mPutN at h3
            rw [if_neg hi2] at h3
            exact h3.elim
        · rw [if_neg hf] at h3; exact h3.elim
/-- a call that looks at a slot's list of lists; what is told is no list -/
def mCallPN (i n : Nat) (f : List D → Option (Rs D)) (ms : M (List D)) : M D := mBind (mNst i) fun _ => mBind ms fun ds => mBind (mNst i) fun dss => if ds.length + 1 = n then (match f (.list (dss.map PyData.list) :: ds) with
  | some (.ok d) => if scalD d = true then mPure d else mStuck
  | _ => mStuck) else mStuck
theorem callPN_of {f : List D → Option (Rs D)} {ms : M (List D)} {Q : VK} (h : tE K W (mCallPN i n f ms) σ H Q) : tCallS (spV K n f) (WE W) (tCons (tVar i) (tA K W ms)) σ H Q := by
  obtain ⟨c, F, ρ, ok, h⟩ := h
  obtain ⟨dss0, e0, h⟩ := nst_at h
  obtain ⟨p, ps, a1, a2, _⟩ := ok.dcs.nat i dss0 e0
  refine ⟨.ref p, a1, c, F, ρ, ok, post_mono ?_ (post_bind h)⟩
  rintro ds H1 F1 _ ⟨ρ1, ok1, s1, h1⟩ ws rw'
  obtain ⟨dss, e1, h2⟩ := nst_at h1
  obtain ⟨F2, p', s2, b1, b2, ok2⟩ := ok1.frzN e1
  have ep : p' = p := by rw [a1] at b1; cases b1; rfl
  subst ep
  split at h2
  · rename_i hl
    refine ⟨F2, .list (dss.map PyData.list) :: ds, ok2.sub, .cons b2 (DpAll.mono s2 rw'), hl, ?_⟩
    cases e : f (.list (dss.map PyData.list) :: ds) with
    | none => rw [e] at h2; exact h2.elim
    | some r =>
      rw [e] at h2
      cases r with
      | error x => exact h2.elim
      | ok d =>
        dsimp only at h2 ⊢
        by_cases hs : scalD d = true
        · rw [if_pos hs] at h2
          intro v F' H' x rv
          exact h2 H' F1 (ok1.call ⟨Same.refl F1, fun b o q => x.fh b o (x.ff b o (s2 b o q)), fun b o q => .inl q, x.hh⟩) (Same.refl F1) v (scal_dp hs rv)
        · rw [if_neg hs] at h2; exact h2.elim
  · exact h2.elim
end
end Dd

/-! ### an own exception's further fields, whatever built-in class it is under -/
namespace PySem
namespace OwnE
open PySem.W PySem.Calls PyProof.Rows PySem.HandSPX
open Builtin Builtin.ObjectAttr
variable {prog : Program} {w : World} {A : Around} {E : Value → Shared → Prop} {R : Result → Shared → Prop} {hp : Heap} {g : Array GenState} {d : Drawn} {t : Nat} {os : OsState} {K : Frag} {B : String} {bmB : List Value}
end OwnE
end PySem

namespace Dd
open PySem PySem.Spec L2 PyProof.Rows
/-! ### raise C(e, f): two fields -/
section
variable {X : Cx} {W : WX} {e : Expr} {cn f g : Str} {C : Addr} {ms : M (List D)} {pos : Pos}
end
/-! ### a suite with an if: which class is it -/
section
variable {X : Cx} {a C dd : Addr} {i : Nat} {cls : Value} {d : Option Addr} {oe : Obj} {pn : List (Addr × Obj)} {cn f : Str} {pos p : Pos} {e ec : Expr} {es : List Expr}
end
section
variable {X : Cx} {Wout : WX} {x n cn y : Str} {c : Value} {C : Addr} {i v : Nat} {body : List Stmt} {es : List Expr} {np pos pos' yp tp sp ip : Pos} {kk : Nat} {mb : M Fl} {ps : List Pt} {test : Expr}
end
end Dd

namespace Dd
open PySem PySem.Spec L2
section
variable {K : PySem.W.Frag} {W : WX} {σ : L2.St} {H F : Hp} {c : Ct} {ρ : En} {i n : Nat}
end
end Dd

namespace Dd
open PySem PySem.Spec L2
section
variable {K : PySem.W.Frag} {W : WX} {σ : L2.St} {H F : Hp} {c : Ct} {ρ : En} {i n : Nat}
/-- the lists and what they hold, the last first -/
inductive Lay (K : PySem.W.Frag) (F : Hp) : List (Addr × List V) → List (List D) → Prop
  | nil : Lay K F [] []
  | cons {q : Addr} {vs : List V} {ds : List D} {l : List (Addr × List V)} {dss : List (List D)} : DpAll K F vs ds → Lay K F l dss → Lay K F ((q, vs) :: l) (dss ++ [ds])
theorem Lay.mono {F' : Hp} (s : Same F F') : ∀ {l : List (Addr × List V)} {dss : List (List D)}, Lay K F l dss → Lay K F' l dss
  | _, _, .nil => .nil
  | _, _, .cons h t => .cons (DpAll.mono s h) (Lay.mono s t)
theorem Lay.length : ∀ {l : List (Addr × List V)} {dss : List (List D)}, Lay K F l dss → l.length = dss.length
  | _, _, .nil => rfl
  | _, _, .cons _ t => by rw [List.length_cons, List.length_append, Lay.length t]; rfl
end
end Dd

namespace Dd
open PySem PySem.Spec L2
section
variable {K : PySem.W.Frag} {W : WX} {σ : L2.St} {H : Hp} {i j : Nat} {Dn : Ends}
end
section
variable {X : Cx} {W : WX} {i j : Nat} {x y : Str} {px py pt pt2 pos lp : Pos} {kt k2 : Nat}
end
end Dd

namespace Dd
open PySem PySem.Spec L2
section
variable {K : PySem.W.Frag} {W : WX} {σ : L2.St} {H : Hp} {i kk : Nat} {Dn : Ends}
end
end Dd

namespace Dd
open PySem PySem.Spec L2
section
variable {X : Cx} {W : WX} {K : PySem.W.Frag} {i kk : Nat} {o k b v : Expr} {mk mj mb : M D} {pos p p1 p2 p3 p4 p5 p6 p7 lp : Pos}
/-- the name of a list of lists: from now on a value -/
def mVarA (i : Nat) : M D := fun ρ => match ρ[i]? with
  | some (.nst dss) => some (.ok (.list (dss.map PyData.list)) (ρ.set i (.val (.list (dss.map PyData.list)))))
  | _ => mVar i ρ
theorem tVarA_of {σ : L2.St} {H : Hp} {Q : VK} (h : tE K W (mVarA i) σ H Q) : tVar i σ H Q := by
  obtain ⟨c, F, ρ, ok, h⟩ := h
  unfold mVarA at h
  split at h
  · rename_i dss e
    obtain ⟨F', p, s, a1, a2, ok'⟩ := ok.frzN e
    exact ⟨.ref p, a1, h H F' ok' s _ a2⟩
  · exact tVar_of ⟨c, F, ρ, ok, h⟩
theorem dvA (i : Nat) {x : Str} {pos : Pos} (hN : X.N[i]? = some x := by rfl) (hv : Vis X.env.scope x := by first | exact Or.inl rfl | exact Or.inr (Or.inl rfl) | exact Or.inr (Or.inr rfl)) (hd : (x == ("__debug__" : Str)) = false := by decide)
    (hcd : (x == ("__classdict__" : Str)) = false := by decide) : PE X (.Name x pos) (tE K W (mVarA i)) := PE.imp (pe_var hN hv hd hcd) fun _ _ _ => tVarA_of
end
end Dd

namespace Dd
open PySem PySem.Spec L2 PyProof.Rows
section
variable {X : Cx} {W : WX} {K : PySem.W.Frag} {σ : L2.St} {H F : Hp} {ρ : En} {c : Ct} {Dn : Ends} {i j l : Nat} {ma mb mc : M D}
variable {x y z : Str} {a b cc : Expr} {px py pz pt pt2 pos : Pos} {kt k2 : Nat}
end
end Dd

namespace Dd
open PySem PySem.Spec L2 PyProof.Rows
theorem Dp.strV {K : PySem.W.Frag} {F : Hp} {x : V} {z : Str} (h : Dp K F x (.str z)) : x = .str z := by cases h; rfl
section
variable {X : Cx} {W : WX} {K : PySem.W.Frag} {σ : L2.St} {H F : Hp} {ρ : En} {c : Ct} {mo me m : M D} {o e tg : Expr} {p pos apos : Pos}
end
end Dd

namespace Dd
open PySem PySem.Spec L2 PyProof.Rows
/-! ### a zip whose last tuple is still held, over any two that are drawn from -/
section
variable {prog : Program} {w : World} {A : Around} {E : Value → Shared → Prop} {s : Shared}
variable {z TI TO T i1 i2 : Addr} {fp1 fp2 : List Addr} {n1 n2 i : Nat} {P1 P2 : Nat → Value → Prop} {St1 St2 : Nat → Heap → Prop} {f : Bool} {oT : Obj}
end
end Dd

namespace Dd
open PySem PySem.Spec L2 PyProof.Rows
/-! ### list(an iterator) -/
/-- an iterator at it whose items are kept in a list at q -/
structure ItW (P : Program) (w : World) (K : PySem.W.Frag) (J : It) (fp : List Addr) (it : Addr) (T : String) (q : Addr) (tn : Nat → Heap → Prop) : Prop where
  mem : it ∈ fp
  typ : ∀ i h, tn i h → ∃ o, h.get? it = some o ∧ o.cls = .type T
  obj : ∀ i h, tn i h → ∀ b ∈ fp, ∃ o, h.get? b = some o
  keep : ∀ i h h', tn i h → (∀ b o, b ≠ q → h.get? b = some o → h'.get? b = some o) → tn i h'
  item : ∀ (X : Cx), X.prog = P → X.w = w → X.K = K → X.calm = true → ∀ (i : Nat) (pins : List (Addr × Obj)) (s : Shared) (σ : L2.St) (H : Hp) (E : Value → Shared → Prop), Inv X pins σ H s → (∀ b ∈ fp, FpOk X pins H b) → tn i s.heap → (∃ o, s.heap.get? q = some o) → J.go i H →
    wpAny (model P w) X.A (pyNext (.ref it)) (fun r s1 => ∃ u x H', r = some u ∧ Inv X pins σ H' s1 ∧ RelV x u ∧ J.yld i H x H' ∧ tn (i + 1) s1.heap ∧ ∀ b ∈ fp, H' b = none) E s
  done : ∀ (X : Cx), X.prog = P → X.w = w → X.K = K → X.calm = true → ∀ (i : Nat) (pins : List (Addr × Obj)) (s : Shared) (σ : L2.St) (H : Hp) (E : Value → Shared → Prop), Inv X pins σ H s → (∀ b ∈ fp, FpOk X pins H b) → tn i s.heap → J.stop i H →
    wpAny (model P w) X.A (pyNext (.ref it)) (fun r s1 => r = none ∧ Inv X pins σ H s1) E s
  self : ∀ (A : Around) (i : Nat) (s : Shared) (Q : Value → Shared → Prop) (E : Value → Shared → Prop), tn i s.heap → Q (.ref it) s → wpAny (model P w) A (pyIter (.ref it)) Q E s
  notL : T ≠ "list" ∧ T ≠ "tuple"
  hint : ∀ (A : Around) (i : Nat) (s : Shared) (Q : Bool → Shared → Prop) (E : Value → Shared → Prop), tn i s.heap → (∀ b, Q b s) → wpAny (model P w) A (Builtin.List.listLengthHint (.ref it)) Q E s
section
variable {X : Cx} {pins : List (Addr × Obj)} {σ : L2.St} {H : Hp} {s : Shared} {A1 : Around} {J : It} {fp : List Addr} {it q : Addr} {T : String} {tn : Nat → Heap → Prop} {n : Nat} {Pv : Nat → List V → Hp → Prop} {R : List V → Hp → Prop} {Rs : Result → Shared → Prop}
end
/-- an expression whose value is an iterator -/
def PIV (X : Cx) (e : Expr) (wi : TI) : Prop := ∀ (pins : List (Addr × Obj)) (s : Shared) (σ : L2.St) (H : Hp) (R : It → Hp → Prop), Inv X pins σ H s → wi σ H R →
  wpAny (model X.prog X.w) X.A (eval e X.env) (fun v s2 => ∃ (it : Addr) (fp : List Addr) (T : String) (J : It) (H' : Hp), v = .ref it ∧ Inv X pins σ H' s2 ∧ (∀ b ∈ fp, FpOk X pins H' b) ∧ (∀ b ∈ fp, b < s2.heap.objs.size) ∧ R J H' ∧
    ∀ q, s2.heap.objs.size ≤ q → ∃ tn, ItW X.prog X.w X.K J fp it T q tn ∧ tn 0 s2.heap) X.xe s
section
variable {X : Cx} {e : Expr} {p pos : Pos} {wi : TI}
end
end Dd

namespace Dd
open PySem PySem.Spec L2 PyProof.Rows
section
variable {K : PySem.W.Frag}
end
theorem PIV.imp {X : Cx} {e : Expr} {wi wi' : TI} (h : PIV X e wi) (k : ∀ σ H R, wi' σ H R → wi σ H R) : PIV X e wi' := fun pins s σ H R I q => h pins s σ H R I (k σ H R q)
section
variable {X : Cx} {W : WX} {K : PySem.W.Frag} {σ : L2.St} {H : Hp} {mi : M (List D)}
variable {a b : Expr} {p pos p2 pos2 : Pos} {ms : M (List D)}
end
end Dd

namespace Dd
open PySem PySem.Spec L2 PyProof.Rows
/-! ### dicts as values: displays with text keys, d[k], d.get(k, x), k in d -/
def lookD (k : D) : List (D × D) → Option D
  | [] => none
  | (k', d) :: r => if keyD k' = keyD k then some d else lookD k r
section
variable {K : PySem.W.Frag} {F H : Hp}
theorem keyD_PD (k : Key) : keyD (keyPD k) = some k := by cases k <;> rfl
theorem DpKV.val {ws : List (Key × V)} {kvs : List (D × D)} (h : DpKV K F ws kvs) {k : Key} {kd : D} (e : keyD kd = some k) : (valV ws k = none ∧ lookD kd kvs = none) ∨ (∃ v d, valV ws k = some v ∧ lookD kd kvs = some d ∧ Dp K F v d) := by
  revert ws
  induction kvs with
  | nil =>
    intro ws h
    cases h
    exact .inl ⟨rfl, rfl⟩
  | cons p kvs ih =>
    intro ws h
    cases h with
    | cons hv ht =>
      rename_i k' v d ws
      by_cases q : k' = k
      · refine .inr ⟨v, d, by simp [valV, List.find?, q], ?_, hv⟩
        unfold lookD
        rw [keyD_PD, e, if_pos (by rw [q])]
      · have e1 : valV ((k', v) :: ws) k = valV ws k := by simp [valV, List.find?, q]
        have e2 : lookD kd ((keyPD k', d) :: kvs) = lookD kd kvs := by
          show (if keyD (keyPD k') = keyD kd then some d else lookD kd kvs) = _
          rw [keyD_PD, e, if_neg (fun z => q (Option.some.inj z))]
        rw [e1, e2]
        exact ih ht
theorem Rd.dget {a : Addr} {ws : List (Key × V)} {k : Key} (h : Rd H a (.dK ws)) : DGet H a (kV k) (valV ws k) := .inl ⟨ws, k, h, rfl, rfl⟩
end
def dgetD : D → D → Option D
  | .dict kvs, k => if objD (.dict kvs) = false ∧ (keyD k).isSome = true then lookD k kvs else none
  | _, _ => none
def mDGet (mo mk : M D) : M D := mBind mo fun a => mBind mk fun k => mLift (dgetD a k)
/-- the pairs of a display -/
def mPairN : M (List (Str × D)) := mPure []
def mPairC (k : Str) (m : M D) (r : M (List (Str × D))) : M (List (Str × D)) := mBind m fun d => mBind r fun ds => mPure ((k, d) :: ds)
def strKeys (kds : List (Str × D)) : List (D × D) := kds.map fun p => (.str p.1, p.2)
def mDisp (m : M (List (Str × D))) : M D := mBind m fun kds => mLift (if kds.length ≤ 15 ∧ (kds.map (·.1)).Nodup then some (.dict (strKeys kds)) else none)
section
variable {X : Cx} {W : WX} {K : PySem.W.Frag} {σ : L2.St} {H F : Hp} {ρ : En} {c : Ct} {mo mk mz m : M D} {o e f : Expr} {pos apos cpos : Pos}
theorem dget_of {Q : VK} (h : tE K W (mDGet mo mk) σ H Q) : tDGet (tE K W mo) (tE K W mk) σ H Q := by
  obtain ⟨c, F, ρ, ok, h⟩ := h
  refine ⟨c, F, ρ, ok, post_mono ?_ (post_bind h)⟩
  rintro a H1 F1 _ ⟨ρ1, ok1, s1, h1⟩ x rx
  refine ⟨c, F1, ρ1, ok1, post_mono ?_ (post_bind h1)⟩
  rintro k H2 F2 _ ⟨ρ2, ok2, s2, h2⟩ y ry
  obtain ⟨d, e, h3⟩ := post_lift h2
  unfold dgetD at e
  split at e
  · rename_i kvs
    split at e
    · rename_i hk
      obtain ⟨hin, hk⟩ := hk
      obtain ⟨kk, ek⟩ := Option.isSome_iff_exists.mp hk
      cases Dp.mono s2 rx with
      | ins _ _ _ _ => cases hin
      | dct hr hkv =>
        rename_i a ws
        obtain rfl := key_is ry ek
        rcases hkv.val ek with ⟨_, e2⟩ | ⟨v, d', e1, e2, dv⟩
        · rw [e2] at e; cases e
        · rw [e2] at e
          cases e
          have g := Rd.dget (k := kk) (Rd.mono ok2.sub hr)
          rw [e1] at g
          exact ⟨a, v, rfl, g, post_ok h3 ok2 _ dv⟩
    · cases e
  · cases e
theorem dDGet (hu : X.A.units + 1 < cLine) (ho : PE X o (tE X.K W mo)) (hi : PE X e (tE X.K W mk)) (hs : NoSl e := by exact fun _ _ => rfl) : PE X (.Subscript o e pos) (tE X.K W (mDGet mo mk)) := PE.imp (pe_dget hu ho hi hs) fun _ _ _ => dget_of
/-- keys and values of a display, as rules -/
def PDs (X : Cx) (W : WX) (pos : Pos) (keys : List (Option Expr)) (values : List Expr) (m : M (List (Str × D))) : Prop := ∃ trs, PPs X pos keys values trs ∧ ∀ (σ : L2.St) (H : Hp) (Q : List (V × V) → Hp → Prop) (c : Ct) (F : Hp) (ρ : En), Ok X.K c σ H F ρ →
  post X.K W c σ F (fun kds H' F' => ∀ ws, DpAll X.K F' ws (kds.map (·.2)) → Q ((kds.map (·.1)).zipWith (fun k v => (V.str k, v)) ws) H') (m ρ) → tPairs trs σ H Q
theorem pdNil : PDs X W pos [] [] mPairN := ⟨[], pps_nil, fun σ H Q c F ρ ok h => (h H F ok (Same.refl F)) [] .nil⟩
theorem pdCons {k : Str} {ke ve : Expr} {ks : List (Option Expr)} {vs : List Expr} {m : M D} {r : M (List (Str × D))} (hk : PE X ke (fun σ H Q => Q (.str k) H)) (hv : PE X ve (tE X.K W m)) (hr : PDs X W pos ks vs r) : PDs X W pos (some ke :: ks) (ve :: vs) (mPairC k m r) := by
  obtain ⟨trs, hp, ht⟩ := hr
  refine ⟨_, pps_cons hk hv hp, fun σ H Q c F ρ ok h => ?_⟩
  refine ⟨c, F, ρ, ok, post_mono ?_ (post_bind h)⟩
  rintro d H1 F1 _ ⟨ρ1, ok1, s1, h1⟩ v rv
  refine ht σ H1 _ c F1 ρ1 ok1 (post_mono ?_ (post_bind h1))
  rintro kds H2 F2 _ ⟨ρ2, ok2, s2, h2⟩ ws rws
  exact h2 H2 F2 ok2 (Same.refl F2) (v :: ws) (.cons (Dp.mono s2 rv) rws)
theorem merge_nodup : ∀ (more acc : List (Key × V)), ((acc ++ more).map (·.1)).Nodup → mergeK acc more = acc ++ more
  | [], acc, _ => by rw [List.append_nil]; rfl
  | p :: more, acc, h => by
    have hn : (acc.any fun kv => decide (kv.1 = p.1)) = false := by
      rw [List.any_eq_false]
      intro q hq
      rw [List.map_append, List.map_cons] at h
      have := (List.nodup_append.mp h).2.2 q.1 (List.mem_map_of_mem hq) p.1 List.mem_cons_self
      simpa using this
    have e : putK acc p.1 p.2 = acc ++ [p] := by
      unfold putK
      rw [if_neg (by rw [hn]; decide)]
    show mergeK (putK acc p.1 p.2) more = acc ++ p :: more
    rw [e, merge_nodup more (acc ++ [p]) (by rw [List.append_assoc]; exact h), List.append_assoc]; rfl
theorem zip_keys : ∀ (kds : List (Str × D)) (ws : List V), ws.length = kds.length → (kds.map (·.1)).zipWith (fun k v => (V.str k, v)) ws = ((kds.map (·.1)).zipWith (fun k v => ((Sum.inr k : Key), v)) ws).map fun kv => (kV kv.1, kv.2)
  | [], [], _ => rfl
  | [], _ :: _, h => by cases h
  | _ :: _, [], h => by cases h
  | p :: kds, w :: ws, h => by
    have ih := zip_keys kds ws (by simpa using h)
    simp only [List.map_cons, List.zipWith_cons_cons]
    rw [ih]; rfl
theorem keys_fst : ∀ (kds : List (Str × D)) (ws : List V), ws.length = kds.length → ((kds.map (·.1)).zipWith (fun k v => ((Sum.inr k : Key), v)) ws).map (·.1) = kds.map fun p => (Sum.inr p.1 : Key)
  | [], [], _ => rfl
  | [], _ :: _, h => by cases h
  | _ :: _, [], h => by cases h
  | p :: kds, w :: ws, h => by
    have ih := keys_fst kds ws (by simpa using h)
    simp only [List.map_cons, List.zipWith_cons_cons]
    rw [ih]
theorem dpkv_of : ∀ {kds : List (Str × D)} {ws : List V}, DpAll K F ws (kds.map (·.2)) → DpKV K F ((kds.map (·.1)).zipWith (fun k v => ((Sum.inr k : Key), v)) ws) (strKeys kds)
  | [], _, .nil => .nil
  | _ :: _, _, .cons h t => .cons (k := Sum.inr _) h (dpkv_of t)
theorem disp_of {trs : List (TE × TE)} {m : M (List (Str × D))} {Q : VK} (ht : ∀ (σ : L2.St) (H : Hp) (Q : List (V × V) → Hp → Prop) (c : Ct) (F : Hp) (ρ : En), Ok K c σ H F ρ → post K W c σ F (fun kds H' F' => ∀ ws, DpAll K F' ws (kds.map (·.2)) → Q ((kds.map (·.1)).zipWith (fun k v => (V.str k, v)) ws) H') (m ρ) → tPairs trs σ H Q)
    (h : tE K W (mDisp m) σ H Q) : tDisp trs σ H Q := by
  obtain ⟨c, F, ρ, ok, h⟩ := h
  intro p hp
  have okp := ok.allocP (o := .dK []) hp
  have hpr := (ok.new hp).2.2.1
  refine ht σ _ _ (c.put p (.dK [])) F ρ okp ?_
  unfold mDisp at h
  have h2 := post_bind h
  cases em : m ρ with
  | none => rw [em] at h2; exact h2.elim
  | some r =>
    rw [em] at h2
    cases r with
    | ex z ρ1 => exact fun cls x H' F' ok' s er => h2 cls x H' F' (ok_unput ok' hpr) s er
    | ok kds ρ1 =>
      intro H' F' ok' s' ws rws
      have hH := ok'.prt p _ upd_same
      refine ⟨hH.1, (kds.map (·.1)).zipWith (fun k v => ((Sum.inr k : Key), v)) ws, ?_⟩
      have hwl : ws.length = kds.length := by rw [DpAll.length rws, List.length_map]
      have hdone : ∀ (hk : kds.length ≤ 15 ∧ (kds.map (·.1)).Nodup), Q (.ref p) (upd H' p (.dK (mergeK [] ((kds.map (·.1)).zipWith (fun k v => ((Sum.inr k : Key), v)) ws)))) := fun hk => by
        have em' : mergeK [] ((kds.map (·.1)).zipWith (fun k v => ((Sum.inr k : Key), v)) ws) = (kds.map (·.1)).zipWith (fun k v => ((Sum.inr k : Key), v)) ws := by
          rw [merge_nodup, List.nil_append]
          rw [List.nil_append, keys_fst _ _ hwl]
          have := hk.2
          clear h2 h ht em ok' rws hwl
          induction kds with
          | nil => exact List.nodup_nil
          | cons q kds ih =>
            rw [List.map_cons, List.nodup_cons] at this ⊢
            refine ⟨fun hm => this.1 ?_, ih ⟨by have := hk.1; rw [List.length_cons] at this; omega, this.2⟩ this.2⟩
            obtain ⟨q', h1, h2⟩ := List.mem_map.mp hm
            injection h2 with h2
            rw [← h2]
            exact List.mem_map_of_mem h1
        rw [em']
        have ok2 := ok'.putP (o' := .dK ((kds.map (·.1)).zipWith (fun k v => ((Sum.inr k : Key), v)) ws))
        have ok3 := ok2.freeP hpr
        have sF : Same F' (upd F' p (.dK ((kds.map (·.1)).zipWith (fun k v => ((Sum.inr k : Key), v)) ws))) := Same.updN hH.2.1
        obtain ⟨d, e, h3⟩ := post_lift (h2 (upd H' p (.dK ((kds.map (·.1)).zipWith (fun k v => ((Sum.inr k : Key), v)) ws))) _ ok3 (s'.trans sF)).choose_spec.2.2
        rw [if_pos hk] at e
        cases e
        exact post_ok h3 (h2 _ _ ok3 (s'.trans sF)).choose_spec.1 _ (.dct (.inl upd_same) (DpKV.mono sF (dpkv_of rws)))
      have hk : kds.length ≤ 15 ∧ (kds.map (·.1)).Nodup := by
        have ok3 := (ok'.putP (o' := .dK [])).freeP hpr
        have sF : Same F' (upd F' p (.dK [])) := Same.updN hH.2.1
        obtain ⟨d, e, h3⟩ := post_lift (h2 (upd H' p (.dK [])) _ ok3 (s'.trans sF)).choose_spec.2.2
        split at e
        · assumption
        · cases e
      refine ⟨zip_keys kds ws hwl, ?_, hdone hk⟩
      rw [List.length_zipWith, List.length_map, hwl, Nat.min_self]
      exact hk.1
theorem dDisp {keys : List (Option Expr)} {values : List Expr} {m : M (List (Str × D))} (h : PDs X W pos keys values m) (hall : keys.all (·.isSome) = true := by rfl) (hl : keys.length = values.length := by rfl) (h0 : keys ≠ [] := by exact fun z => by cases z) (h15 : keys.length ≤ 15 := by decide) : PE X (.Dict keys values pos) (tE X.K W (mDisp m)) := by
  obtain ⟨trs, hp, ht⟩ := h
  exact PE.imp (pe_disp hp hall hl h0 h15) fun _ _ _ => disp_of ht
end
end Dd

namespace Dd
open PySem PySem.Spec L2 PyProof.Rows
/-! ### constants of the module: tuples, dicts with text keys -/
def tabD (tbl : List (Str × D)) : D → Option D
  | .str z => tbl.lookup z
  | _ => none
def mGIx (tbl : List (Str × D)) (mk : M D) : M D := mBind mk fun k => mLift (tabD tbl k)
/-- a written dict at p -/
def KTab (K : PySem.W.Frag) (w : World) (p : Addr) (tbl : List (Str × D)) : Prop := ∀ z d, tbl.lookup z = some d → ∃ v, KDct K w p z v ∧ ∀ F, Dp K F v d
theorem ktab_nil {K : PySem.W.Frag} {w : World} {p : Addr} : KTab K w p [] := fun z d h => by cases h
theorem ktab_cons {K : PySem.W.Frag} {w : World} {p : Addr} {tbl : List (Str × D)} {z0 : Str} {d0 : D} (h0 : ∃ v, KDct K w p z0 v ∧ ∀ F, Dp K F v d0) (h : KTab K w p tbl) : KTab K w p ((z0, d0) :: tbl) := fun z d e => by
  by_cases q : z = z0
  · subst q
    have e : (match z == z with | true => some d0 | false => tbl.lookup z) = some d := e
    rw [beq_self_eq_true] at e
    cases e
    exact h0
  · have e : (match z == z0 with | true => some d0 | false => tbl.lookup z) = some d := e
    rw [beq_eq_false_iff_ne.mpr q] at e
    exact h z d e
/-- values of the written part -/
theorem dp_ktup {K : PySem.W.Frag} {a : Addr} {o : Obj} {its : Array Value} {n : Nat} {xs : List V} {ds : List D} (hl : K.lookup a = some o) (hc : o.cls = .type "tuple") (hd : o.data = .seq its n) (hz : its.size ≤ sizeLine) (hv : Vals xs its.toList) (hx : ∀ F, DpAll K F xs ds) : ∀ F, Dp K F (.ref a) (.tuple ds) :=
  fun F => .tup (.inr ⟨o, its, n, hl, hc, hd, hz, hv⟩) (hx F)
section
variable {X : Cx} {W : WX} {K : PySem.W.Frag} {w : World} {σ : L2.St} {H F : Hp} {mk : M D} {e : Expr} {pos p2 : Pos} {x : Str} {a p : Addr} {d : D} {tbl : List (Str × D)}
theorem gix_of {Q : VK} (T : KTab K w p tbl) (h : tE K W (mGIx tbl mk) σ H Q) : tOp (rIxD K w) (tC (.ref p)) (tE K W mk) σ H Q := by
  obtain ⟨c, F, ρ, ok, h⟩ := h
  refine ⟨c, F, ρ, ok, post_mono ?_ (post_bind h)⟩
  rintro k H1 F1 _ ⟨ρ1, ok1, s1, h1⟩ y ry
  obtain ⟨d, e, h2⟩ := post_lift h1
  unfold tabD at e
  split at e
  · rename_i z
    obtain ⟨v, h3, h4⟩ := T z d e
    exact ⟨p, z, v, rfl, ry.strV, h3, post_ok h2 ok1 _ (h4 F1)⟩
  · cases e
theorem dGIx (T : KTab X.K X.w p tbl) (hm : X.mg x = some (.ref p)) (he : PE X e (tE X.K W mk)) (hg : Gl X x := by rfl) (hdb : (x == ("__debug__" : Str)) = false := by decide) (hs : PlainIx e := by exact fun _ _ => rfl) :
    PE X (.Subscript (.Name x p2) e pos) (tE X.K W (mGIx tbl mk)) := PE.imp (pe_ix ix_kdict (pe_glob (v := .ref p) hg hm rfl hdb) he hs) fun _ _ _ => gix_of T
end
end Dd

namespace Dd
open PySem PySem.Spec L2 PyProof.Rows
section
variable {X : Cx} {W : WX} {K : PySem.W.Frag} {σ : L2.St} {H F : Hp} {ρ : En} {c : Ct} {Dn : Ends} {i j l : Nat} {ma mb mc : M D}
variable {x y z : Str} {a b cc : Expr} {px py pz pt pt2 pos : Pos} {kt k2 : Nat}
end
end Dd

namespace Dd
open PySem PySem.Spec L2
/-! ### a comprehension over a list of one's own, that stays one's own -/
section
variable {K : PySem.W.Frag} {W : WX} {c : Ct} {σ : L2.St} {H F : Hp} {ρ : En}
end
section
variable {K : PySem.W.Frag} {W : WX} {σ : L2.St} {H : Hp}
end
section
variable {X : Cx} {W : WX}
end
end Dd

namespace Dd
open PySem PySem.Spec L2 PyProof.Rows
/-! ### a suite of two: s = isinstance(e, (..)); if isinstance(e, A) and isinstance(e, B) and not s: v = (text, (e.f, ..)) -/
section
variable {X : Cx} {a C dd : Addr} {i : Nat} {cls : Value} {d : Option Addr} {oe : Obj} {pn : List (Addr × Obj)} {cn f : Str} {pos p : Pos} {e ec : Expr} {es : List Expr}
end
section
variable {X : Cx} {Wout : WX} {x n cn y ys : Str} {c : Value} {C : Addr} {i v s : Nat} {body : List Stmt} {es : List Expr} {np pos pos' yp tp sp ip sp1 ysp : Pos} {kk : Nat} {mb : M Fl} {ps : List Pt} {test strange : Expr} {w : Str}
end
end Dd

namespace Dd
open PySem PySem.Spec L2 PyProof.Rows
/-! ### a suite with an if: is it this class, and none of those -/
section
variable {X : Cx} {a C : Addr} {i : Nat} {cls : Value} {d : Option Addr} {oe : Obj} {pn : List (Addr × Obj)} {cn : Str} {pos : Pos} {e ec any : Expr}
end
end Dd

namespace Dd
open PySem PySem.Spec L2 PyProof.Rows RT
/-! ### list(reversed(a list)) -/
section
variable {prog : Program} {w : World} {A : Around} {E : Value → Shared → Prop} {s : Shared}
end
section
variable {X : Cx}
end
section
variable {X : Cx} {W : WX} {a : Expr} {ma : M D} {p p2 pos pos2 : Pos}
end
end Dd

namespace Dd
open PySem PySem.Spec L2 PyProof.Rows
section
variable {P : Program} {w : World} {A : Around} {E : Value → Shared → Prop} {s : Shared}
end
end Dd

namespace Dd
open PySem PySem.Spec L2 PyProof.Rows
section
variable {X : Cx}
end
section
variable {X : Cx} {W : WX} {a : Expr} {ma : M D} {p p2 pos pos2 : Pos}
end
end Dd

namespace Dd
open PySem PySem.Spec L2 PyProof.Rows
end Dd

namespace Dd
open PySem PySem.Spec L2 PyProof.Rows
/-! ### t + u of tuples, an empty one on the left, too -/
def catA : D → D → Option D
  | .tuple xs, .tuple ys => if fit (xs.length + ys.length) = true then some (.tuple (xs ++ ys)) else none
  | _, _ => none
theorem Pk.tupD {K : PySem.W.Frag} {H F : Hp} {x : V} {ds : List D} (r : Pk K H F x (.tuple ds)) : Dp K F x (.tuple ds) := by
  rcases r with r | ⟨_, _, _, _, e, _⟩
  · exact r
  · cases e
theorem opD_catA {K : PySem.W.Frag} : OpD K (rCatA K) catA := by
  intro W c σ H F ρ x y a b d Q ok rx ry e q
  unfold catA at e
  split at e
  · rename_i xs ys
    split at e
    · rename_i hc
      cases e
      obtain ⟨p, vs, rfl, hp, dp⟩ := Pk.tup ok.sub rx
      obtain ⟨p2, vs2, rfl, hp2, dp2⟩ := Pk.tup ok.sub ry
      refine ⟨p, p2, vs, vs2, rfl, rfl, hp, hp2, by rw [DpAll.length dp, DpAll.length dp2]; exact fit_le hc, fun z => ?_, fun _ z => ?_, fun _ _ p hp => new_tup ok (DpAll.append dp dp2) q p hp⟩
      · subst z
        cases dp
        exact post_ok q ok _ ry.tupD
      · subst z
        cases dp2
        rw [List.append_nil] at q
        exact post_ok q ok _ rx.tupD
    · cases e
  · cases e
def addA : D → D → Option D := oOr (iI fun i j => .int (i + j)) (oOr catL (oOr catA catS))
def rAddB (K : PySem.W.Frag) : R2 := fun x y H Q => rI0 (fun i j => .int (i + j)) x y H Q ∨ (rCatS x y H Q ∨ (rCatA K x y H Q ∨ rAddStr x y H Q))
theorem opD_addA {K : PySem.W.Frag} : OpD K (rAddB K) addA := opD_or (opD_I fun _ _ _ => .int _) (opD_or opD_catL (opD_or opD_catA opD_catS))
theorem or_addB {X : Cx} : OpR X (binaryOp .Add) (rAddB X.K) := OpR.or op_add (OpR.or op_catS (OpR.or op_catA op_add_str))
end Dd

namespace Dd
open PySem PySem.Spec L2 PyProof.Rows
/-! ### a comprehension's target within a target -/
section
variable {K : PySem.W.Frag}
end
section
variable {X : Cx} {Wout : WX} {x n cn y : Str} {c : Value} {C : Addr} {i v : Nat} {body : List Stmt} {ea : Expr} {np pos pos' yp sp ip : Pos} {mb : M Fl} {q0 : Pt} {test : Expr}
end
end Dd

namespace PySem.OwnL
open PySem PySem.W PySem.Calls PyProof.Rows PySem.HandSPX PySem.OwnE
/-! ### own classes whose __new__ stands further up (KeyError's is LookupError's) -/
section
variable {M : Model} {A : Around} {E : Value → Shared → Prop} {h : Heap} {g : Array GenState} {d : Drawn} {t : Nat} {os : OsState} {nm q : Str} {C N : Addr} {bs bm bmB : List Value} {hdct : Bool} {sn : List Str} {sub : List Value} {ab : Bool} {col : Option Bool} {dd : Option Addr} {k0 k1 k2 k3 k5 : Option Value} {B nw ini : String}
/-- what the class's line of bases says -/
structure Line (bm : List Value) (B : String) : Prop where
  hB : bm.contains (.type B) = true
  hA : bm.contains (.type "AttributeError") = false
  hN : bm.contains (.type "NameError") = false
theorem Line.up {bm : List Value} {B : String} (L : Line bm B) (C : Addr) : (Value.ref C :: bm).contains (.type B) = true ∧ (Value.ref C :: bm).contains (.type "AttributeError") = false ∧ (Value.ref C :: bm).contains (.type "NameError") = false := by
  refine ⟨?_, ?_, ?_⟩
  · rw [List.contains_cons, L.hB, Bool.or_true]
  · rw [List.contains_cons, L.hA]; rfl
  · rw [List.contains_cons, L.hN]; rfl
end
section
variable {prog : Program} {w : World} {A : Around} {E : Value → Shared → Prop} {R : Result → Shared → Prop} {h : Heap} {g : Array GenState} {d : Drawn} {t : Nat} {os : OsState} {nm q : Str} {C N : Addr} {bs bm bmB : List Value} {hdct : Bool} {sn : List Str} {sub : List Value} {ab : Bool} {col : Option Bool} {dd : Option Addr} {k0 k1 k2 k3 k5 : Option Value} {B nw ini : String}
end
end PySem.OwnL

namespace PySem.BlkX
open PySem PySem.HandSPX PyProof.Rows
section
variable {M : Model} {A : Around} {E : Value → Shared → Prop} {s : Shared} {base : Heap} {env : Env} {outer l : List Env} {e L : Addr} {Z : Obj → Prop}
end
end PySem.BlkX
namespace L2
open PySem PySem.Spec PyProof.Rows PySem.HandSPX
section
variable {X : Cx} {pins : List (Addr × Obj)} {σ : St} {H : Hp} {s : Shared} {W : WX}
end
section
variable {X : Cx} {Wo : WX}
end
end L2

namespace Dd
open PySem PySem.Spec L2 PyProof.Rows
section
variable {K : PySem.W.Frag} {W : WX}
end
section
variable {X : Cx} {W : WX} {elt iter tg : Expr} {scope : Scope} {own : List (Str × Nat)} {pos : Pos} {mi : M (List D)} {g : TG} {gD : D → M Unit} {me : M D}
end
end Dd

/-! ### len(set(texts)): how many different texts a list holds -/
namespace Dd
open PySem
/-- each text once, in the order of its first place -/
def uniq (xs : List Str) : List Str := xs.foldl (fun acc x => if acc.contains x = true then acc else acc ++ [x]) []
end Dd
namespace Dd.Sets
open PySem PySem.Spec PyProof.Rows
section
variable {prog : Program} {w : World} {A : Around} {R : Result → Shared → Prop} {I : Addr} {fp wr : List Addr} {G : Array GenState → Array GenState → Prop} {n : Nat} {Pv : Nat → Value → Prop} {St : Nat → Shared → Prop}
/-- what the set at S knows behind i turns -/
abbrev Knows (prog : Program) (w : World) (S : Addr) (xs : List Str) (h : Heap) : Prop := h.SetOf (PySem.strKind prog w) S (fun k => (uniq xs).contains k) (uniq xs).length
theorem Knows.kept {S : Addr} {xs : List Str} {h h' : Heap} (q : Knows prog w S xs h) (k : ∀ o, h.get? S = some o → h'.get? S = some o) : Knows prog w S xs h' := by
  obtain ⟨o, es, ep, t, ho, r⟩ := q
  exact ⟨o, es, ep, t, k o ho, r⟩
end
section
variable {prog : Program} {w : World} {A : Around} {E : Value → Shared → Prop} {s : Shared}
end
end Dd.Sets

namespace Dd
open PySem PySem.Spec L2 PyProof.Rows
section
variable {X : Cx} {W : WX} {a : Expr} {ma : M D} {p p2 pos pos2 : Pos}
end
end Dd

namespace Dd
open PySem PySem.Spec L2 PyProof.Rows
/-! ### constants of the module that are dicts of text keys: in, get -/
def keyTx : Value → Option Str
  | .str x _ => some x
  | _ => none
/-- the keys of the written dict at p are those of the table -/
def KNam (K : PySem.W.Frag) (w : World) (p : Addr) (tbl : List (Str × D)) : Prop :=
  ∃ (es : Array DictEntry) (n : Nat), K.lookup p = some ⟨.type "dict", none, .dict es n, #[]⟩ ∧ PySem.W.KeysLit w.params es.toList ∧ es.toList.map (fun e => keyTx e.key) = tbl.map (fun q => some q.1) ∧ (p == sysModules) = false
theorem keys_any {z : Str} : ∀ (l : List DictEntry) (tbl : List (Str × D)), l.map (fun e => keyTx e.key) = tbl.map (fun q => some q.1) → (l.find? fun e => Value.isStrOf z e.key).isSome = (tbl.lookup z).isSome
  | [], [], _ => rfl
  | [], q :: tbl, h => by cases h
  | e :: l, [], h => by cases h
  | e :: l, (y, d) :: tbl, h => by
    rw [List.map_cons, List.map_cons] at h
    obtain ⟨h1, h2⟩ := List.cons.inj h
    have ek : ∃ t, e.key = .str y t := by
      revert h1
      cases e.key <;> intro h1 <;> first | (cases h1; exact ⟨_, rfl⟩) | cases h1
    obtain ⟨t, ek⟩ := ek
    rw [List.find?_cons]
    show _ = (match z == y with | true => some d | false => tbl.lookup z).isSome
    rw [ek]
    show (match (y == z) with | true => some e | false => l.find? fun e => Value.isStrOf z e.key).isSome = _
    rw [show (y == z) = (z == y) from BEq.comm]
    cases z == y
    · exact keys_any l tbl h2
    · rfl
theorem find_arr {z : Str} (es : Array DictEntry) : (findBy Value.isStrOf es z).isSome = (es.toList.find? fun e => Value.isStrOf z e.key).isSome := by
  obtain ⟨l⟩ := es
  unfold findBy
  rw [List.find?_toArray, Option.isSome_map]
section
variable {X : Cx} {p : Addr} {tbl : List (Str × D)}
theorem kmap {pins : List (Addr × Obj)} {σ : L2.St} {H : Hp} {s : Shared} {es : Array DictEntry} {n : Nat} (I : Inv X pins σ H s) (hl : X.K.lookup p = some ⟨.type "dict", none, .dict es n, #[]⟩) (hk : PySem.W.KeysLit X.w.params es.toList) :
    s.heap.MapOf (leafKind X.prog X.w) p (fun k => match k with | .text z => findBy Value.isStrOf es z | _ => none) :=
  ⟨_, es, n, I.kIn _ _ hl, ⟨rfl, rfl, rfl⟩, rfl, fun e he => by
    obtain ⟨x, t, e1, e2⟩ := hk.all e (Array.mem_toList_iff.mpr he)
    exact ⟨.text x, by rw [e1]; exact beq_self_eq_true x, e2⟩, fun k => by
    have no : ∀ k : Leaf, (∀ x t, Leaf.isOf k (.str x t) = false) → findBy (leafKind X.prog X.w).is es k = none := fun k hf => by
      obtain ⟨l⟩ := es
      unfold findBy
      rw [List.find?_toArray, Option.map_eq_none_iff, List.find?_eq_none]
      intro e he
      obtain ⟨x, t, e1, _⟩ := hk.all e he
      show ¬ Leaf.isOf k e.key = true
      rw [e1, hf x t]
      decide
    cases k with
    | text z => rfl
    | none => exact no _ fun _ _ => rfl
    | num i => exact no _ fun _ _ => rfl⟩
def leafV : V → Option Leaf
  | .non => some .none
  | .str z => some (.text z)
  | _ => none
theorem leaf_is {v : V} {u : Value} {k : Leaf} (e : leafV v = some k) (r : RelV v u) : Leaf.isOf k u = true := by
  cases v with
  | non => cases e; cases (show u = Value.none from r); rfl
  | str z => cases e; obtain ⟨t, rfl⟩ := (show ∃ t, u = Value.str z t from r); exact beq_self_eq_true z
  | _ => cases e
def inKV (tbl : List (Str × D)) : Leaf → Bool
  | .text z => (tbl.lookup z).isSome
  | _ => false
theorem op_gin (T : KNam X.K X.w p tbl) : OpR X (compareOp .In) (fun x y H Q => ∃ k, leafV x = some k ∧ y = .ref p ∧ Q (.bl (inKV tbl k)) H) := by
  intro pins s σ H x y v u Q I rx ry h
  obtain ⟨k, ek, rfl, q⟩ := h
  obtain ⟨es, n, hl, hk, hkeys, low⟩ := T
  cases ry
  refine wpAny_in_of (knd := leafKind X.prog X.w) (leaf_is ek rx) low (kmap I hl hk) ?_
  refine ⟨.bl (inKV tbl k), H, I.tok _, ?_, q⟩
  cases k with
  | text z =>
    show Value.bool (findBy Value.isStrOf es z).isSome = Value.bool (tbl.lookup z).isSome
    rw [← keys_any _ _ hkeys, ← find_arr]
  | none => rfl
  | num i => rfl
end
def leafD : D → Option Leaf
  | .none => some .none
  | .str z => some (.text z)
  | _ => none
theorem leafD_V {K : PySem.W.Frag} {F : Hp} {d : D} {v : V} {k : Leaf} (e : leafD d = some k) (h : Dp K F v d) : leafV v = some k := by
  cases d with
  | none => cases h; exact e
  | str z => cases h; exact e
  | _ => cases e
def ginD (neg : Bool) (tbl : List (Str × D)) (d : D) : Option D := (leafD d).bind fun k => some (.bool (if neg then !inKV tbl k else inKV tbl k))
def mGIn (neg : Bool) (tbl : List (Str × D)) (mk : M D) : M D := mBind mk fun k => mLift (ginD neg tbl k)
section
variable {X : Cx} {W : WX} {mk : M D} {e : Expr} {pos p2 apos cpos : Pos} {x : Str} {p : Addr} {tbl : List (Str × D)} {neg : Bool}
theorem gin_of {R : R2} {Q : VK} {σ : L2.St} {H : Hp} (hR : ∀ (k : Leaf) (v : V) (H : Hp) (Q : VK), leafV v = some k → Q (.bl (if neg then !inKV tbl k else inKV tbl k)) H → R v (.ref p) H Q) (h : tE X.K W (mGIn neg tbl mk) σ H Q) : tOp R (tE X.K W mk) (tC (.ref p)) σ H Q := by
  obtain ⟨c, F, ρ, ok, h⟩ := h
  refine ⟨c, F, ρ, ok, post_mono ?_ (post_bind h)⟩
  rintro d H1 F1 _ ⟨ρ1, ok1, s1, h1⟩ v rv
  obtain ⟨d2, e2, h2⟩ := post_lift h1
  unfold ginD at e2
  cases ek : leafD d with
  | none => rw [ek] at e2; cases e2
  | some k =>
    rw [ek] at e2
    cases e2
    exact hR k v H1 Q (leafD_V ek rv) (post_ok h2 ok1 _ (.bl _))
theorem dGIn (T : KNam X.K X.w p tbl) (hm : X.mg x = some (.ref p)) (he : PE X e (tE X.K W mk)) (hg : Gl X x := by rfl) (hdb : (x == ("__debug__" : Str)) = false := by decide) (hb : behindInMarks .In (.Name x p2) = false := by rfl) :
    PE X (.Compare e [.In] [.Name x p2] pos) (tE X.K W (mGIn false tbl mk)) := PE.imp (pe_cmpR (op_gin T) he (pe_glob (v := .ref p) hg hm rfl hdb) hb) fun _ _ _ => gin_of fun k v H Q e q => ⟨k, e, rfl, q⟩
end
end Dd

namespace Dd
open PySem PySem.Spec L2 PyProof.Rows
variable {K : PySem.W.Frag}
/-! ### zip where a text may be one of the two -/
inductive Sd where
  | sq (b : Bool) (a : Addr)
  | tx (x : Str)
def Sd.val (t : Tok) : Sd → Value
  | .sq _ a => .ref a
  | .tx x => .str x t
def Sd.v : Sd → V
  | .sq _ a => .ref a
  | .tx x => .str x
def SdI (t : Tok) (a0 : Addr) : Sd → Heap → Addr → Nat → Prop
  | .sq b a, h, i, k => ItB b h i a k
  | .tx x, h, i, k => h.IsStrIter i (strIterType x) x t k
variable {t : Tok} {a0 : Addr}
theorem SdI.at {sd : Sd} {h h' : Heap} {i : Addr} {k : Nat} (q : SdI t a0 sd h i k) (e : ∀ o, h.get? i = some o → h'.get? i = some o) : SdI t a0 sd h' i k := by
  cases sd with
  | sq b a => exact ItB.at q e
  | tx x => obtain ⟨o, ho, r⟩ := q; exact ⟨o, e o ho, r⟩
theorem SdI.obj {sd : Sd} {h : Heap} {i : Addr} {k : Nat} (q : SdI t a0 sd h i k) : ∃ o, h.get? i = some o ∧ ∀ v, o.data ≠ .cell v := by
  cases sd with
  | sq b a => exact ItB.obj q
  | tx x => obtain ⟨o, ho, _, d⟩ := q; exact ⟨o, ho, fun v z => by rw [d] at z; cases z⟩
variable {X : Cx} {W : WX} {a b : Expr} {elts : List Expr} {kk : Nat} {p pos tpos : Pos} {ms : M (List D)}
end Dd

namespace Dd
open PySem PySem.Spec L2 PyProof.Rows
section
variable {X : Cx} {W : WX} {o e : Expr} {mo me : M D} {apos pos : Pos}
end
end Dd

namespace Dd
open PySem PySem.Spec L2 PyProof.Rows
section
variable {X : Cx} {Wout : WX} {x n cn y ys : Str} {c : Value} {C : Addr} {i v s : Nat} {body : List Stmt} {es : List Expr} {np pos pos' yp tp sp ip sp1 ysp : Pos} {kk : Nat} {mb : M Fl} {ps : List Pt} {test strange : Expr} {w : Str}
end
end Dd

namespace Dd
open PySem PySem.Spec L2 PyProof.Rows
variable {K : PySem.W.Frag}
end Dd

namespace Dd
open PySem PySem.Spec L2 PyProof.Rows
/-! ### str of a number or a text; int of a number, a truth or a text -/
section
variable {X : Cx}
end
section
variable {K : PySem.W.Frag}
end
end Dd

namespace Dd
open PySem PySem.Spec L2 PyProof.Rows
section
variable {X : Cx} {W : WX} {o : Expr} {mo : M D} {apos pos : Pos}
end
end Dd

namespace Dd
open PySem PySem.Spec L2 PyProof.Rows
section
variable {X : Cx}
end
end Dd

namespace Dd
open PySem PySem.Spec L2 PyProof.Rows
/-- an object as data -/
def insOf (cn : Str) (kvs : List (Key × D)) : D := .dict ((.none, .str cn) :: kvs.map fun p => (keyPD p.1, p.2))
section
variable {K : PySem.W.Frag} {F H : Hp}
end
section
variable {K : PySem.W.Frag} {W : WX} {c : Ct} {σ : L2.St} {H F : Hp} {ρ : En}
end
/-! ### making an object -/
def spI (K : PySem.W.Frag) (cn : Str) (C : Addr) (n : Nat) (f : Addr → List D → Option (Rs (List (Key × D)))) : Sp := fun vs H2 Q E => ∃ H F p dx rest ds, vs = .ref p :: rest ∧ H2 = upd (upd H dx (.own p)) p (.ins C dx []) ∧ H p = none ∧ H dx = none ∧ dx ≠ p ∧
  Same F H ∧ DpAll K F rest ds ∧ ds.length + 1 = n ∧ match f p ds with
  | none => False
  | some (.ok kvs) => ∀ F' H', Ext F H F' H' → Dp K F' (.ref p) (insOf cn kvs) → Q .non H'
  | some (.error e) => ∀ cls x F' H', Ext F H F' H' → ExR K e cls x F' H' → E cls x H'
section
variable {K : PySem.W.Frag} {F H : Hp}
end
section
variable {P : Program} {w : World} {K : PySem.W.Frag} {mg : Str → Option Value} {base : Heap} {x qual : Str} {st : Stmt} {f : Addr} {fd : FuncData} {N ps : List Str} {k : Nat} {m : M Fl} {sc : Scope} {bd : List Stmt}
end
open Classical in
section
variable {K : PySem.W.Frag} {W : WX} {c : Ct} {σ : L2.St} {H F : Hp} {ρ : En}
end
section
variable {X : Cx} {CX : CXT} {W : WX} {k n : Nat} {f C : Addr} {fd : FuncData} {ps : List Str} {sp : Sp} {E : L2.St → XK} {t : TA} {ta : TE} {x m cn : Str} {p pos apos pos' : Pos} {o e value : Expr} {es : List Expr} {ms : M (List D)} {mo mv : M D} {i : Nat}
end
end Dd

namespace Dd
open PySem PySem.Spec L2 PyProof.Rows
/-! ### a, b, .. = x, [], ..: values and new lists -/
abbrev Itm := D ⊕ List D
inductive RX (K : PySem.W.Frag) (F : Hp) : List V → List Itm → List (Addr × List V) → Prop
  | nil : RX K F [] [] []
  | val {v : V} {d : D} {vs : List V} {is : List Itm} {ps : List (Addr × List V)} : Dp K F v d → RX K F vs is ps → RX K F (v :: vs) (.inl d :: is) ps
  | own {p : Addr} {xs : List V} {ds : List D} {vs : List V} {is : List Itm} {ps : List (Addr × List V)} : DpAll K F xs ds → RX K F vs is ps → RX K F (.ref p :: vs) (.inr ds :: is) ((p, xs) :: ps)
section
variable {X : Cx} {W : WX} {K : PySem.W.Frag} {σ : L2.St} {H F : Hp} {ρ : En} {c : Ct} {Dn : Ends}
theorem RX.mono {F F' : Hp} (s : Same F F') : ∀ {vs : List V} {is : List Itm} {ps : List (Addr × List V)}, RX K F vs is ps → RX K F' vs is ps
  | _, _, _, .nil => .nil
  | _, _, _, .val h t => .val (Dp.mono s h) (RX.mono s t)
  | _, _, _, .own h t => .own (DpAll.mono s h) (RX.mono s t)
variable {is : List Nat} {m : M (List Itm)} {tgs es : List Expr} {pos tp ep : Pos} {kt ke n i j l : Nat} {x y z : Str} {a b cc : Expr} {px py pz : Pos}
end
section
variable {P : Program} {w : World} {K : PySem.W.Frag} {mg : Str → Option Value} {base : Heap} {x qual : Str} {st : Stmt} {f : Addr} {fd : FuncData} {N ps : List Str} {k : Nat} {m : M Fl} {sc : Scope} {bd : List Stmt}
end
section
variable {K : PySem.W.Frag} {W : WX} {σ : L2.St} {H : Hp} {n : Nat} {ms : M (List D)}
end
section
variable {X : Cx} {W : WX} {k n : Nat} {f : Addr} {fd : FuncData} {ps : List Str} {x : Str} {p pos : Pos} {e : Expr} {es : List Expr} {ms : M (List D)}
end
end Dd

namespace Dd
open PySem PySem.Spec L2
/-! ### range, upwards by steps -/
section
variable {X : Cx} {W : WX} {K : PySem.W.Frag} {tg a b e : Expr} {ms : M (List D)} {p pos : Pos}
end
end Dd

namespace Dd
open PySem PySem.Spec L2
/-! ### a new list times a written number -/
section
variable {X : Cx} {W : WX} {K : PySem.W.Frag} {σ : St} {H F : Hp} {ρ : En} {c : Ct} {mn : M (List D)} {k : Int}
end
end Dd

namespace Dd
open PySem PySem.Spec L2
/-! ### a comprehension over zip(a list, a list of one's own), that stays one's own -/
section
variable {K : PySem.W.Frag} {W : WX} {c : Ct} {σ : L2.St} {H F : Hp} {ρ : En}
end
section
variable {K : PySem.W.Frag} {W : WX} {σ : L2.St} {H : Hp}
end
section
variable {X : Cx} {W : WX}
end
end Dd

namespace Dd
open PySem PySem.Spec L2
/-! ### x[k].extend(a new list): x is a list of lists, all one's own -/
section
variable {K : PySem.W.Frag} {W : WX} {c : Ct} {σ : L2.St} {H F : Hp} {ρ : En} {i : Nat}
end
end Dd

namespace Dd
open PySem PySem.Spec L2
/-! ### x, y = [[], []], a value -/
section
variable {K : PySem.W.Frag} {W : WX} {σ : L2.St} {H : Hp} {i j : Nat} {Dn : Ends}
end
section
variable {X : Cx} {W : WX} {i j : Nat} {x y : Str} {px py pt pt2 pos lp lp1 lp2 : Pos} {kt k2 : Nat}
end
end Dd

namespace SrtS
open PySem PyProof.Rows Srt SrtO
variable {prog : Program} {w : World} {A : Around} {E : Value → Shared → Prop} {s : Shared}
/-- v is a tuple of a number and a text -/
def IsPS (h : Heap) (v : Value) (x : Int) (y : Str) : Prop := ∃ a o t u n, v = .ref a ∧ h.get? a = some o ∧ o.cls = .type "tuple" ∧ o.data = .seq #[.int x t, .str y u] n
theorem IsPS.keeps {h h' : Heap} {v : Value} {x : Int} {y : Str} (p : IsPS h v x y) (k : ∀ b o, h.get? b = some o → o.cls = .type "tuple" → h'.get? b = some o) : IsPS h' v x y := by
  obtain ⟨a, o, t, u, n, e, ho, hc, hd⟩ := p
  exact ⟨a, o, t, u, n, e, k _ _ ho hc, hc, hd⟩
end SrtS
namespace Dd
open PySem PySem.Spec L2
open Classical in
section
variable {X : Cx} {K : PySem.W.Frag}
end
section
variable {K : PySem.W.Frag}
end
end Dd

namespace Dd
open PySem PySem.Spec L2 PyProof.Rows
section
variable {X : Cx} {CX : CXT} {W : WX} {k n : Nat} {f : Addr} {fd : FuncData} {ps : List Str} {sp sp' : Sp} {E : L2.St → XK} {t : TA} {x : Str} {p pos : Pos} {e : Expr} {es : List Expr} {ms : M (List D)} {dvs : List V} {ds : List Value}
end
end Dd

namespace Dd
open PySem PySem.Spec L2 PyProof.Rows
section
variable {K : PySem.W.Frag} {F H : Hp}
end
end Dd

namespace Dd
open PySem PySem.Spec L2 PyProof.Rows
/-! ### x in a list or a tuple of data of any depth -/
def seqD : D → Option (List D)
  | .list ds => some ds
  | .tuple ds => some ds
  | _ => none
def inG (neg : Bool) (a b : D) : Option D := match seqD b with
  | some ds => if (SeqAt.shaped a && SeqAt.shaped b && decide (a.depth ≤ 60)) = true then some (.bool (if neg = true then !ds.any (fun z => PyData.eqv z a) else ds.any fun z => PyData.eqv z a)) else none
  | none => none
def rInG (K : PySem.W.Frag) (neg : Bool) : R2 := fun x y H Q => ∃ (d e : PyData) (ds : List PyData), L2.Dp K H x d ∧ L2.Dp K H y e ∧ seqD e = some ds ∧ SeqAt.shaped d = true ∧ SeqAt.shaped e = true ∧ d.depth ≤ 60 ∧ Q (.bl (if neg = true then !ds.any (fun z => PyData.eqv z d) else ds.any fun z => PyData.eqv z d)) H
theorem op_notInG {X : Cx} (hu : X.A.units + 64 < cLine) : OpR X (compareOp .NotIn) (rInG X.K true) := by
  intro pins s σ H x y v u Q I rx ry h
  obtain ⟨d, e, ds, hd, he, hs, sd, se, d60, q⟩ := h
  obtain ⟨as, r1⟩ := L2.Dp.reads I d x v hd rx
  obtain ⟨bs, r2⟩ := L2.Dp.reads I e y u he ry
  rw [if_pos rfl] at q
  cases e with
  | list es => cases hs; exact SeqAt.notIn_list_reads r2 r1 (SeqAt.canLay_of_shaped se) (SeqAt.canLay_of_shaped sd) (Nat.lt_of_le_of_lt (Nat.add_le_add_left (Nat.le_trans (Nat.min_le_right _ _) d60) _) (by omega)) ⟨.bl _, H, I, rfl, q⟩
  | tuple es => cases hs; exact SeqAt.notIn_tuple_reads r2 r1 (SeqAt.canLay_of_shaped se) (SeqAt.canLay_of_shaped sd) (Nat.lt_of_le_of_lt (Nat.add_le_add_left (Nat.le_trans (Nat.min_le_right _ _) d60) _) (by omega)) ⟨.bl _, H, I, rfl, q⟩
  | none => cases hs
  | bool _ => cases hs
  | int _ => cases hs
  | str _ => cases hs
  | dict _ => cases hs
theorem opD_inG {K : PySem.W.Frag} (neg : Bool) : OpD K (rInG K neg) (inG neg) := by
  intro W c σ H F ρ x y a b d Q ok rx ry e q
  unfold inG at e
  split at e
  · rename_i ds hs
    split at e
    · rename_i hc
      cases e
      rw [Bool.and_eq_true, Bool.and_eq_true] at hc
      exact ⟨a, b, ds, Pk.dp ok.sub rx (shaped_nd hc.1.1), Pk.dp ok.sub ry (shaped_nd hc.1.2), hs, hc.1.1, hc.1.2, of_decide_eq_true hc.2, post_ok q ok _ (.bl _)⟩
    · cases e
  · cases e
end Dd

namespace Dd
open PySem PySem.Spec L2
/-! ### x = [] to hold lists; a call that looks at a list of lists; min(a list of ints, default=a number) -/
section
variable {X : Cx} {W : WX} {i : Nat} {x : Str} {lp pos pos' : Pos}
theorem dNewN (hN : X.N.Nodup) (hi : X.N[i]? = some x := by rfl) (hx : Loc X.env.scope x := by first | exact Or.inl rfl | exact Or.inr rfl)
    (hs : swapsWith (.List [] lp) (some (.Name x pos')) pos.line X.env = pure false := by rfl)
    (hf : X.fn x = true ∨ X.env.scope.names.lookup x = some .local := by first | exact .inl rfl | exact .inr rfl) : PS X (.Assign [.Name x pos'] (.List [] lp) pos) (tS X.K W (mNewN i)) :=
  PS.imp (ps_set hN hi hx (pe_lst pa_nil) hs hf) fun _ _ _ => newN_of
end
section
variable {X : Cx} {W : WX} {k n : Nat} {f : Addr} {fd : FuncData} {ps : List Str} {x : Str} {p pos : Pos} {e : Expr} {es : List Expr} {ms : M (List D)}
theorem dCallPNG {i : Nat} {g : List D → Option (Rs D)} (hgd : X.A.guards = some []) (F : FnG X.prog X.w X.K X.mg X.base (L2.CX X.prog X.w) k f fd ps (spV X.K n g)) (hr : Room k X.A) (hm : X.mg x = some (.ref f)) (hk : PySem.W.keepIn X.K (.ref f) = true) (hb : Binds X.K fd ps []) (tk : Takes X W)
    (h1 : PE X e (tVar i)) (ha : PA X es (tA X.K W ms)) (hg : Gl X x := by rfl) (hdb : (x == ("__debug__" : Str)) = false := by decide) (he : starEach (e :: es) X.env = (false, eval e X.env) :: starEach es X.env := by rfl) (hpl : (backTo pos (starEach es X.env)).any (·.1) = false := by rfl) :
    PE X (.Call (.Name x p) (e :: es) [] pos) (tE X.K W (mCallPN i n g ms)) := PE.imp (pe_callG F hgd hr hg hm hk hb (fun σ => passAt tk σ) (pa_cons h1 ha he) hdb he hpl) fun _ _ _ => callPN_of
end
section
variable {X : Cx} {W : WX} {a : Expr} {m : M D} {p pos kp np : Pos} {jj : Nat} {q : Int}
def minDefI (q : Int) : D → Option D
  | .list ds => (toInts ds).map fun ns => match ns with
    | [] => .int q
    | n :: r => .int (r.foldl min n)
  | _ => none
def mMinDefI (m : M D) (q : Int) : M D := mBind m fun d => mLift (minDefI q d)
theorem dMinDefI (hc : X.calm = true) (hu : X.A.units + 64 < cLine) (hm : X.mg "min" = none) (ha : PE X a (tP X.K W m)) (hg : Gl X "min" := by rfl) (hbi : bootBuiltins "min" = some (.builtin "min") := by decide +kernel)
    (hs : starEach (a :: []) X.env = (false, eval a X.env) :: starEach [] X.env := by rfl)
    (he : backTo pos (starEach (a :: []) X.env) = (false, eval a X.env) :: backTo pos (starEach [] X.env) := by rfl) (hpl : (backTo pos (starEach (a :: []) X.env)).any (·.1) = false := by rfl)
    (hall : (backToKw pos (keywordEach [⟨some "default", .Constant (.int q) jj np, kp⟩] X.env)).all (·.1.isSome) = true := by rfl) (hnone : (backToKw pos (keywordEach [⟨some "default", .Constant (.int q) jj np, kp⟩] X.env)).any (·.1.isNone) = false := by rfl) (hks : (backToKw pos (keywordEach [⟨some "default", .Constant (.int q) jj np, kp⟩] X.env)).filterMap (·.1) = [Str.ofString "default"] := by rfl) :
    PE X (.Call (.Name "min" p) [a] [⟨some "default", .Constant (.int q) jj np, kp⟩] pos) (tE X.K W (mMinDefI m q)) :=
  PE.imp (pe_callBK (cr_minDef hc hu) hg hm hbi (pa_cons ha pa_nil hs) (pk_cons pe_int pk_nil) (by decide) (by decide) he hpl hall hnone hks) (by
  rintro σ H Q ⟨c, F, ρ, ok, h⟩
  refine ⟨c, F, ρ, ok, post_mono ?_ (post_bind h)⟩
  rintro d H1 F1 _ ⟨ρ1, ok1, s1, h1⟩ v rv
  show rMinDef X.K [v] [.int q] H1 Q
  obtain ⟨d', e, h2⟩ := post_lift h1
  unfold minDefI at e
  split at e
  · rename_i ds
    cases e2 : toInts ds with
    | none => rw [e2] at e; cases e
    | some ns =>
      rw [e2] at e
      cases e
      obtain ⟨q', vs, rfl, hp, dp⟩ := Pk.lst ok1.sub rv
      rw [toInts_eq e2] at dp
      rw [DpAll.ints dp] at hp
      refine ⟨q', ns, .int q, rfl, rfl, hp, ?_⟩
      cases ns with
      | nil => exact h2 H1 F1 ok1 (Same.refl F1) _ (.int _)
      | cons n r => exact h2 H1 F1 ok1 (Same.refl F1) _ (.int _)
  · cases e)
end
end Dd

namespace Dd
open PySem PySem.Spec L2 PyProof.Rows
end Dd

namespace Dd
open PySem PySem.Spec L2 PyProof.Rows
section
variable {X : Cx} {W : WX} {k n : Nat} {f : Addr} {fd : FuncData} {ps ks : List Str} {x : Str} {p pos : Pos} {e : Expr} {es : List Expr} {kws : List Keyword} {g : List Value → List Value → List Value}
end
end Dd

namespace Dd
open PySem PySem.Spec L2 PyProof.Rows
/-! ### powers of any base whose bits are few enough -/
def CPowW (i j : Int) : Prop := 0 ≤ j ∧ (Builtin.Int.intBits i : Int) * j ≤ 134217728
def cPowW (i j : Int) : Bool := decide (0 ≤ j) && decide ((Builtin.Int.intBits i : Int) * j ≤ 134217728)
theorem op_powW {X : Cx} : OpR X (binaryOp .Pow) (rI CPowW fun i j => .int (i ^ j.toNat)) := opI fun _ _ _ _ _ _ _ hc q => pow_int hc.1 hc.2 q
def powW : D → D → Option D := iIc cPowW fun i j => .int (i ^ j.toNat)
theorem opD_powW {K : PySem.W.Frag} : OpD K (rI CPowW fun i j => .int (i ^ j.toNat)) powW := opD_Ic (fun i j h => by
  unfold cPowW at h
  simp only [Bool.and_eq_true, decide_eq_true_eq] at h
  exact h) fun _ _ _ => .int _
end Dd

namespace Pf
open PySem PySem.Spec L2 Dd
def topS (i : Nat) : Stmt := PySem.Challenge.pw_wirelooker_k59_held_spoilt.main.body.getD i (.Pass ⟨0, 0, 0, 0⟩)
def tb_GOES : List (Str × D) := [("same", .tuple [.int 1, .int 1]), ("unlike", .tuple [.int 1, .int 1]), ("lack", .tuple [.int 1, .int 0]), ("more", .tuple [.int 0, .int 1])]
def m_is_whole : M Fl :=
  (mRet (mAnd (mIsi "int" (mPeek 0)) (mNot (mIsi "bool" (mPeek 0)))))
def fn_is_whole : List D → Option (Rs D) := runV m_is_whole 1
abbrev s_is_whole : Stmt := topS 1
abbrev N_is_whole : List Str := ["thing"]
theorem sc_is_whole : FnScope N_is_whole ["thing"] (defScope s_is_whole) := ⟨rfl, rfl, rfl, by decide +kernel, rfl, by decide +kernel, by decide +kernel⟩
def m_word_of : M Fl :=
  (mSeq (mIf (mAndT (mTru (mIsi "tuple" (mPeek 0))) (mAndT (mTru (mPeek 0)) ((mTru (mIsi "str" (mBinL ixD 0 (mPure (.int 0)))))))) (mRet (mBinL ixD 0 (mPure (.int 0)))) (mPure .nx))
  (mRet (mPure .none)))
def fn_word_of : List D → Option (Rs D) := runV m_word_of 1
abbrev s_word_of : Stmt := topS 2
abbrev N_word_of : List Str := ["thing"]
theorem sc_word_of : FnScope N_word_of ["thing"] (defScope s_word_of) := ⟨rfl, rfl, rfl, by decide +kernel, rfl, by decide +kernel, by decide +kernel⟩
def m__behind : M Fl :=
  (mSeq (mAsg (mGIx tb_GOES (mBinL ixD 2 (mPure (.int 0)))) (gTupD 2 (gCons2 (mStore 5) (gCons2 (mStore 6) gsNil))))
  (mRet (mBin addD (mBin ixD (mBinL ixD 0 (mBinL subD 3 (mPeek 5))) (mBinL subD 4 (mPeek 6))) (mDGet (mVar 1) (mBinL ixD 2 (mPure (.int 0)))))))
def fn__behind : List D → Option (Rs D) := runV m__behind 7
abbrev s__behind : Stmt := topS 11
abbrev N__behind : List Str := ["table", "costs", "step", "i", "j", "over", "under"]
theorem sc__behind : FnScope N__behind ["table", "costs", "step", "i", "j"] (defScope s__behind) := ⟨rfl, rfl, rfl, by decide +kernel, rfl, by decide +kernel, by decide +kernel⟩
def m__steps_to : M Fl :=
  (mSeq (mAsgN (mLstN (mPure [])) 4)
  (mSeq (mIf (mAndT (mBol (mBinL gtD 2 (mPure (.int 0)))) ((mBol (mBinL gtD 3 (mPure (.int 0)))))) (mDrop (mMut 4 appD (mCons (mTup (mCons (mIf (mBol (mBin eqD (mBinL ixD 0 (mBinL subD 2 (mPure (.int 1)))) (mBinL ixD 1 (mBinL subD 3 (mPure (.int 1)))))) (mPure (.str "same")) (mPure (.str "unlike"))) (mCons (mBinL subD 2 (mPure (.int 1))) (mCons (mBinL subD 3 (mPure (.int 1))) (mPure []))))) (mPure [])))) (mPure .nx))
  (mSeq (mIf (mBol (mBinL gtD 2 (mPure (.int 0)))) (mDrop (mMut 4 appD (mCons (mTup (mCons (mPure (.str "lack")) (mCons (mBinL subD 2 (mPure (.int 1))) (mPure [])))) (mPure [])))) (mPure .nx))
  (mSeq (mIf (mBol (mBinL gtD 3 (mPure (.int 0)))) (mDrop (mMut 4 appD (mCons (mTup (mCons (mPure (.str "more")) (mCons (mBinL subD 3 (mPure (.int 1))) (mPure [])))) (mPure [])))) (mPure .nx))
  (mRet (mVar 4))))))
def fn__steps_to : List D → Option (Rs D) := runV m__steps_to 5
abbrev s__steps_to : Stmt := topS 10
abbrev N__steps_to : List Str := ["one", "other", "i", "j", "steps"]
theorem sc__steps_to : FnScope N__steps_to ["one", "other", "i", "j"] (defScope s__steps_to) := ⟨rfl, rfl, rfl, by decide +kernel, rfl, by decide +kernel, by decide +kernel⟩
def C__table_of_0 : M (List D) :=
  (mComp [8] (mItems (mCallV 4 fn__steps_to (mCons (mVar 0) (mCons (mVar 1) (mCons (mVar 4) (mCons (mVar 5) (mPure []))))))) (mStore 8) (mPure true) (mCallPN 3 5 fn__behind (mCons (mVar 2) (mCons (mVar 8) (mCons (mVar 4) (mCons (mVar 5) (mPure [])))))))
def L__table_of_0 : M Fl :=
  (mSeq (mAsgN C__table_of_0 6)
  (mDrop (mAppN 3 (mVar 4) (mMinDefI (mPeek 6) 0))))
def R__table_of_0 : M Fl :=
  mFor (mRng1 (mCons (mBin addD (mCall1 lenD (mPeek 1)) (mPure (.int 1))) (mPure []))) (mStore 5) L__table_of_0
def L__table_of_1 : M Fl :=
  (mSeq (mDrop (mPushN 3 (mLstN (mPure []))))
  (R__table_of_0))
def R__table_of_1 : M Fl :=
  mFor (mRng1 (mCons (mBin addD (mCall1 lenD (mPeek 0)) (mPure (.int 1))) (mPure []))) (mStore 4) L__table_of_1
def C__table_of_1 : M (List D) :=
  (mComp [7] (mItems (mVarA 3)) (mStore 7) (mPure true) (mCall1 tupleD (mPeek 7)))
def m__table_of : M Fl :=
  (mSeq (mNewN 3)
  (mSeq (R__table_of_1)
  (mRet (mCall1 tupleD (mVal C__table_of_1)))))
def fn__table_of : List D → Option (Rs D) := runV m__table_of 9
abbrev s__table_of : Stmt := topS 12
abbrev N__table_of : List Str := ["one", "other", "costs", "table", "i", "j", "ways", "row", "step"]
theorem sc__table_of : FnScope N__table_of ["one", "other", "costs"] (defScope s__table_of) := ⟨rfl, rfl, rfl, by decide +kernel, rfl, by decide +kernel, by decide +kernel⟩
def C__steps_by_0 : M (List D) :=
  (mComp [10] (mItems (mCallV 4 fn__steps_to (mCons (mVar 0) (mCons (mVar 1) (mCons (mVar 5) (mCons (mVar 6) (mPure []))))))) (mStore 10) (mBol (mBin eqD (mCallV 5 fn__behind (mCons (mVar 2) (mCons (mVar 3) (mCons (mVar 10) (mCons (mVar 5) (mCons (mVar 6) (mPure []))))))) (mBin ixD (mBinL ixD 2 (mPeek 5)) (mPeek 6)))) (mVar 10))
def L__steps_by_0 : M Fl :=
  (mSeq (mAsgN C__steps_by_0 7)
  (mSeq (mAsg (mGIx tb_GOES (mBin ixD (mBinL ixD 7 (mPure (.int 0))) (mPure (.int 0)))) (gTupD 2 (gCons2 (mStore 8) (gCons2 (mStore 9) gsNil))))
  (mSeq (mDrop (mMut 4 appD (mCons (mBinL ixD 7 (mPure (.int 0))) (mPure []))))
  (mSeq (mAug 5 subD (mVar 8))
  (mAug 6 subD (mVar 9))))))
def R__steps_by_0 : M Fl :=
  mWhile (fun _ => 1000) (mOrT (mBol (mBinL gtD 5 (mPure (.int 0)))) ((mBol (mBinL gtD 6 (mPure (.int 0)))))) L__steps_by_0
def m__steps_by : M Fl :=
  (mSeq (mAsgN (mLstN (mPure [])) 4)
  (mSeq (mAsg (mCall1 lenD (mPeek 0)) (mStore 5))
  (mSeq (mAsg (mCall1 lenD (mPeek 1)) (mStore 6))
  (mSeq (R__steps_by_0)
  (mRet (mCall1 tupleD (mVal (mRevN (mPeek 4)))))))))
def fn__steps_by : List D → Option (Rs D) := runV m__steps_by 11
abbrev s__steps_by : Stmt := topS 13
abbrev N__steps_by : List Str := ["one", "other", "table", "costs", "steps", "i", "j", "ways", "over", "under", "step"]
theorem sc__steps_by : FnScope N__steps_by ["one", "other", "table", "costs"] (defScope s__steps_by) := ⟨rfl, rfl, rfl, by decide +kernel, rfl, by decide +kernel, by decide +kernel⟩
def m_held : M Fl :=
  (mSeq (mAsg (mDisp (mPairC "same" (mPure (.int 0)) (mPairC "unlike" (mVar 2) (mPairC "lack" (mVar 3) (mPairC "more" (mVar 4) mPairN))))) (mStore 5))
  (mSeq (mAsg (mCallV 3 fn__table_of (mCons (mVar 0) (mCons (mVar 1) (mCons (mVar 5) (mPure []))))) (mStore 6))
  (mRet (mTup (mCons (mBin ixD (mBinL ixD 6 (mUn negD (mPure (.int 1)))) (mUn negD (mPure (.int 1)))) (mCons (mCallV 4 fn__steps_by (mCons (mVar 0) (mCons (mVar 1) (mCons (mVar 6) (mCons (mVar 5) (mPure [])))))) (mCons (mVar 6) (mPure []))))))))
def fn_held : List D → Option (Rs D) := runV m_held 7
abbrev s_held : Stmt := topS 8
abbrev N_held : List Str := ["one", "other", "unlike", "lack", "more", "costs", "table"]
theorem sc_held : FnScope N_held ["one", "other", "unlike", "lack", "more"] (defScope s_held) := ⟨rfl, rfl, rfl, by decide +kernel, rfl, by decide +kernel, by decide +kernel⟩
def C__are_whole_0 : M (List D) :=
  (mComp [1] (mItems (mVar 0)) (mStore 1) (mPure true) (mCallV 1 fn_is_whole (mCons (mVar 1) (mPure []))))
def m__are_whole : M Fl :=
  (mRet (mCall1 allD (mVal C__are_whole_0)))
def fn__are_whole : List D → Option (Rs D) := runV m__are_whole 2
abbrev s__are_whole : Stmt := topS 16
abbrev N__are_whole : List Str := ["things", "thing"]
theorem sc__are_whole : FnScope N__are_whole ["things"] (defScope s__are_whole) := ⟨rfl, rfl, rfl, by decide +kernel, rfl, by decide +kernel, by decide +kernel⟩
def m__is_step : M Fl :=
  (mRet (mAnd (mGIn false tb_GOES (mCallV 1 fn_word_of (mCons (mVar 0) (mPure [])))) (mCallV 1 fn__are_whole (mCons (mSlL 0 (mPart (mPure (.int 1))) mNoPart) (mPure [])))))
def fn__is_step : List D → Option (Rs D) := runV m__is_step 1
abbrev s__is_step : Stmt := topS 15
abbrev N__is_step : List Str := ["thing"]
theorem sc__is_step : FnScope N__is_step ["thing"] (defScope s__is_step) := ⟨rfl, rfl, rfl, by decide +kernel, rfl, by decide +kernel, by decide +kernel⟩
def C__has_form_0 : M (List D) :=
  (mComp [5] (mItems (mVar 2)) (mStore 5) (mPure true) (mCallV 1 fn__is_step (mCons (mVar 5) (mPure []))))
def C__has_form_1 : M (List D) :=
  (mComp [4] (mItems (mVar 3)) (mStore 4) (mPure true) (mAnd (mIsi "tuple" (mPeek 4)) (mCallV 1 fn__are_whole (mCons (mVar 4) (mPure [])))))
def m__has_form : M Fl :=
  (mSeq (mIf (mOrT (mNotT (mTru (mIsi "tuple" (mPeek 0)))) (mOrT (mBol (mBin neD (mCall1 lenD (mPeek 0)) (mPure (.int 3)))) ((mNotT (mTru (mCallV 1 fn_is_whole (mCons (mBinL ixD 0 (mPure (.int 0))) (mPure [])))))))) (mRet (mPure (.bool false))) (mPure .nx))
  (mSeq (mAsg (mVar 0) (gTupD 3 (gCons2 (mStore 1) (gCons2 (mStore 2) (gCons2 (mStore 3) gsNil)))))
  (mSeq (mIf (mOrT (mNotT (mTru (mIsi "tuple" (mPeek 2)))) ((mNotT (mTru (mCall1 allD (mVal C__has_form_0)))))) (mRet (mPure (.bool false))) (mPure .nx))
  (mRet (mAnd (mIsi "tuple" (mPeek 3)) (mCall1 allD (mVal C__has_form_1)))))))
def fn__has_form : List D → Option (Rs D) := runV m__has_form 6
abbrev s__has_form : Stmt := topS 14
abbrev N__has_form : List Str := ["thing", "_", "steps", "table", "row", "step"]
theorem sc__has_form : FnScope N__has_form ["thing"] (defScope s__has_form) := ⟨rfl, rfl, rfl, by decide +kernel, rfl, by decide +kernel, by decide +kernel⟩
def C__rises_right_0 : M (List D) :=
  (mComp [7] (mRng1 (mCons (mBin addD (mCall1 lenD (mPeek 0)) (mPure (.int 1))) (mPure []))) (mStore 7) (mPure true) (mBin addD (mCall1 lenD (mPeek 1)) (mPure (.int 1))))
def C__rises_right_1 : M (List D) :=
  (mComp [6] (mItems (mVar 2)) (mStore 6) (mPure true) (mCall1 lenD (mPeek 6)))
def C__rises_right_2 : M (List D) :=
  (mComp [8] (mItems (mCallV 4 fn__steps_to (mCons (mVar 0) (mCons (mVar 1) (mCons (mVar 4) (mCons (mVar 5) (mPure []))))))) (mStore 8) (mPure true) (mBin leD (mBin ixD (mBinL ixD 2 (mPeek 4)) (mPeek 5)) (mCallV 5 fn__behind (mCons (mVar 2) (mCons (mVar 3) (mCons (mVar 8) (mCons (mVar 4) (mCons (mVar 5) (mPure [])))))))))
def L__rises_right_0 : M Fl :=
  (mIf (mNotT (mTru (mCall1 allD (mVal C__rises_right_2)))) (mRet (mPure (.bool false))) (mPure .nx))
def R__rises_right_0 : M Fl :=
  mFor (mRng1 (mCons (mBin addD (mCall1 lenD (mPeek 1)) (mPure (.int 1))) (mPure []))) (mStore 5) L__rises_right_0
def L__rises_right_1 : M Fl :=
  (R__rises_right_0)
def R__rises_right_1 : M Fl :=
  mFor (mRng1 (mCons (mBin addD (mCall1 lenD (mPeek 0)) (mPure (.int 1))) (mPure []))) (mStore 4) L__rises_right_1
def m__rises_right : M Fl :=
  (mSeq (mIf (mOrT (mBol (mBin neD (mVal C__rises_right_1) (mVal C__rises_right_0))) ((mBol (mBin neD (mBin ixD (mBinL ixD 2 (mPure (.int 0))) (mPure (.int 0))) (mPure (.int 0)))))) (mRet (mPure (.bool false))) (mPure .nx))
  (mSeq (R__rises_right_1)
  (mRet (mPure (.bool true)))))
def fn__rises_right : List D → Option (Rs D) := runV m__rises_right 9
abbrev s__rises_right : Stmt := topS 18
abbrev N__rises_right : List Str := ["one", "other", "table", "costs", "i", "j", "row", "_", "step"]
theorem sc__rises_right : FnScope N__rises_right ["one", "other", "table", "costs"] (defScope s__rises_right) := ⟨rfl, rfl, rfl, by decide +kernel, rfl, by decide +kernel, by decide +kernel⟩
def L__go_through_0 : M Fl :=
  (mSeq (mAsg (mGIx tb_GOES (mBinL ixD 5 (mPure (.int 0)))) (gTupD 2 (gCons2 (mStore 6) (gCons2 (mStore 7) gsNil))))
  (mSeq (mAug 3 (iI fun i j => .int (i + j)) (mVar 6))
  (mSeq (mAug 4 (iI fun i j => .int (i + j)) (mVar 7))
  (mIf (mOrT (mBol (mBinL gtD 3 (mCall1 lenD (mPeek 0)))) (mOrT (mBol (mBinL gtD 4 (mCall1 lenD (mPeek 1)))) ((mBol (mBinL (inG true) 5 (mCallV 4 fn__steps_to (mCons (mVar 0) (mCons (mVar 1) (mCons (mVar 3) (mCons (mVar 4) (mPure []))))))))))) (mRet (mPure (.bool false))) (mPure .nx)))))
def R__go_through_0 : M Fl :=
  mFor (mItems (mVar 2)) (mStore 5) L__go_through_0
def m__go_through : M Fl :=
  (mSeq (mAsg (mPure (.int 0)) (mStore 3))
  (mSeq (mAsg (mPure (.int 0)) (mStore 4))
  (mSeq (R__go_through_0)
  (mRet (mAnd (mBinL eqD 3 (mCall1 lenD (mPeek 0))) (mBinL eqD 4 (mCall1 lenD (mPeek 1))))))))
def fn__go_through : List D → Option (Rs D) := runV m__go_through 8
abbrev s__go_through : Stmt := topS 17
abbrev N__go_through : List Str := ["one", "other", "steps", "i", "j", "step", "over", "under"]
theorem sc__go_through : FnScope N__go_through ["one", "other", "steps"] (defScope s__go_through) := ⟨rfl, rfl, rfl, by decide +kernel, rfl, by decide +kernel, by decide +kernel⟩
def C_held_right_0 : M (List D) :=
  (mComp [10] (mItems (mVar 8)) (mStore 10) (mPure true) (mDGet (mVar 6) (mBinL ixD 10 (mPure (.int 0)))))
def m_held_right : M Fl :=
  (mSeq (mAsg (mDisp (mPairC "same" (mPure (.int 0)) (mPairC "unlike" (mVar 3) (mPairC "lack" (mVar 4) (mPairC "more" (mVar 5) mPairN))))) (mStore 6))
  (mSeq (mIf (mNotT (mTru (mCallV 1 fn__has_form (mCons (mVar 2) (mPure []))))) (mRet (mPure (.bool false))) (mPure .nx))
  (mSeq (mAsg (mVar 2) (gTupD 3 (gCons2 (mStore 7) (gCons2 (mStore 8) (gCons2 (mStore 9) gsNil)))))
  (mSeq (mIf (mOrT (mNotT (mTru (mCallV 3 fn__go_through (mCons (mVar 0) (mCons (mVar 1) (mCons (mVar 8) (mPure []))))))) ((mBol (mBinL neD 7 (mCall1 sumD (mVal C_held_right_0)))))) (mRet (mPure (.bool false))) (mPure .nx))
  (mRet (mAnd (mCallV 4 fn__rises_right (mCons (mVar 0) (mCons (mVar 1) (mCons (mVar 9) (mCons (mVar 6) (mPure [])))))) (mBin eqD (mBin ixD (mBinL ixD 9 (mUn negD (mPure (.int 1)))) (mUn negD (mPure (.int 1)))) (mPeek 7))))))))
def fn_held_right : List D → Option (Rs D) := runV m_held_right 11
abbrev s_held_right : Stmt := topS 9
abbrev N_held_right : List Str := ["one", "other", "some", "unlike", "lack", "more", "costs", "cost", "steps", "table", "step"]
theorem sc_held_right : FnScope N_held_right ["one", "other", "some", "unlike", "lack", "more"] (defScope s_held_right) := ⟨rfl, rfl, rfl, by decide +kernel, rfl, by decide +kernel, by decide +kernel⟩
def m__law_box : M Fl :=
  (mSeq (mAsg (mBin addD (mBin mulD (mPure (.int 5717)) (mPeek 1)) (mPure (.int 23))) (mStore 2))
  (mSeq (mIf (mBol (mBinL ltD 1 (mScrLen 0))) (mAsg (mScrIx 0 (mVar 1)) (mStore 2)) (mIf (mBol (mBin gtD (mScrLen 0) (mPure (.int 0)))) (mAsg (mBinL addD 2 (mBin mulD (mBin modD (mCall1 intD (mScrIx 0 (mBin modD (mCall1 intD (mPeek 1)) (mScrLen 0)))) (mPure (.int 2147483629))) (mPure (.int 69623)))) (mStore 2)) (mPure .nx)))
  (mSeq (mAsg (mBin addD (mBin modD (mBin addD (mBin mulD (mBin modD (mCall1 intD (mPeek 2)) (mPure (.int 2147483629))) (mPure (.int 48271))) (mBin mulD (mPure (.int 40692)) (mPeek 1))) (mPure (.int 2147483629))) (mPure (.int 1))) (mStore 3))
  (mRetF (mCons (mBin ixD (mLst (mCons (mPure (.int 0)) (mCons (mVar 2) (mPure [])))) (mCall1 intD (mBinL geD 2 (mBin powD (mPure (.int 10)) (mPure (.int 18)))))) (mCons (mVar 3) (mCons (mPure (.int 0)) (mPure []))))))))
def fn__law_box : List Int → List D → Option (Rs (List D)) := runS m__law_box 4
abbrev s__law_box : Stmt := topS 20
abbrev N__law_box : List Str := ["_law_script", "_law_k", "_law_cell", "_law_seed"]
theorem sc__law_box : FnScope N__law_box ["_law_script", "_law_k"] (defScope s__law_box) := ⟨rfl, rfl, rfl, by decide +kernel, rfl, by decide +kernel, by decide +kernel⟩
def m__law_take : M Fl :=
  (mSeq (mIf (mBol (mBin gtD (mBinL ixD 0 (mPure (.int 0))) (mPure (.int 0)))) (mSeq (mAsg (mBin modD (mCall1 intD (mBinL ixD 0 (mPure (.int 0)))) (mPeek 1)) (mStore 2))
  (mSeq (mAsg (mBin divD (mBinL ixD 0 (mPure (.int 0))) (mPeek 1)) (gSet 0 (mPure (.int 0))))
  (mRet (mVar 2)))) (mPure .nx))
  (mSeq (mAsg (mBin addD (mBinL ixD 0 (mPure (.int 2))) (mPure (.int 1))) (gSet 0 (mPure (.int 2))))
  (mSeq (mAsg (mBin modD (mCall1 intD (mBin mulD (mBin addD (mBinL ixD 0 (mPure (.int 1))) (mBin mulD (mPure (.int 104729)) (mBinL ixD 0 (mPure (.int 2))))) (mPure (.int 69623)))) (mPure (.int 2147483647))) (mStore 3))
  (mSeq (mAsg (mBin addD (mBin modD (mBin addD (mBinL mulD 3 (mPure (.int 48271))) (mPure (.int 30103))) (mPure (.int 2147483629))) (mPure (.int 1))) (gSet 0 (mPure (.int 1))))
  (mRet (mBin modD (mBin divD (mBin addD (mBinL mulD 3 (mPure (.int 2147483647))) (mBinL ixD 0 (mPure (.int 1)))) (mPure (.int 8191))) (mPeek 1)))))))
def fn__law_take : List D → List D → Option (Rs D × List D) := runB m__law_take 4
abbrev s__law_take : Stmt := topS 21
abbrev N__law_take : List Str := ["_law_box_here", "_law_many", "_law_digit", "_law_one"]
theorem sc__law_take : FnScope N__law_take ["_law_box_here", "_law_many"] (defScope s__law_take) := ⟨rfl, rfl, rfl, by decide +kernel, rfl, by decide +kernel, by decide +kernel⟩
def C__law_pool_0 : M (List D) :=
  (mComp [4] (mRng1 (mCons (mBin addD (mPure (.int 1)) (mCallB 0 2 fn__law_take (mCons (mPure (.int 4)) (mPure [])))) (mPure []))) (mStore 4) (mPure true) (mCallB 0 2 fn__law_take (mCons (mVar 1) (mPure []))))
def m__law_pool : M Fl :=
  (mSeq (mAsg (mBin ixD (mLst (mCons (mPure (.int 4)) (mCons (mPure (.int 256)) (mCons (mPure (.int 65536)) (mCons (mBin addD (mBin powD (mPure (.int 10)) (mPure (.int 9))) (mPure (.int 1))) (mPure [])))))) (mCallB 0 2 fn__law_take (mCons (mPure (.int 4)) (mPure [])))) (mStore 1))
  (mSeq (mAsgN C__law_pool_0 2)
  (mSeq (mAsgN (mLstN (mCons (mBin addD (mBinL ixD 2 (mPure (.int 0))) (mPure (.int 1))) (mCons (mBin mulD (mBinL ixD 2 (mPure (.int 0))) (mPure (.int 10))) (mCons (mBin addD (mBinL ixD 2 (mPure (.int 0))) (mPure (.int 256))) (mCons (mBin addD (mBinL ixD 2 (mPure (.int 0))) (mPure (.int 65536))) (mCons (mBin divD (mBinL ixD 2 (mPure (.int 0))) (mPure (.int 2))) (mPure []))))))) 3)
  (mRet (mBinL addD 2 (mLst (mCons (mCallN min2D (mCons (mBin powD (mPure (.int 10)) (mPure (.int 9))) (mCons (mBinL ixD 3 (mCallB 0 2 fn__law_take (mCons (mPure (.int 5)) (mPure [])))) (mPure [])))) (mPure []))))))))
def fn__law_pool : List D → List D → Option (Rs D × List D) := runB m__law_pool 5
abbrev s__law_pool : Stmt := topS 22
abbrev N__law_pool : List Str := ["_law_box_here", "_law_bound", "_law_found", "_law_near", "_law_turn"]
theorem sc__law_pool : FnScope N__law_pool ["_law_box_here"] (defScope s__law_pool) := ⟨rfl, rfl, rfl, by decide +kernel, rfl, by decide +kernel, by decide +kernel⟩
def m__law_kind : M Fl :=
  (mRet (mBin ixD (mLst (mCons (mVal (mCallN1 listD (mPeek 1))) (mCons (mCall1 tupleD (mPeek 1)) (mPure [])))) (mCallB 0 2 fn__law_take (mCons (mPure (.int 2)) (mPure [])))))
def fn__law_kind : List D → List D → Option (Rs D × List D) := runB m__law_kind 2
abbrev s__law_kind : Stmt := topS 23
abbrev N__law_kind : List Str := ["_law_box_here", "_law_row"]
theorem sc__law_kind : FnScope N__law_kind ["_law_box_here", "_law_row"] (defScope s__law_kind) := ⟨rfl, rfl, rfl, by decide +kernel, rfl, by decide +kernel, by decide +kernel⟩
def C__law_two_rows_0 : M (List D) :=
  (mComp [8] (mRng1 (mCons (mCallB 0 2 fn__law_take (mCons (mBinL addD 3 (mPure (.int 1))) (mPure []))) (mPure []))) (mStore 8) (mPure true) (mBinL ixD 2 (mCallB 0 2 fn__law_take (mCons (mCall1 lenD (mPeek 2)) (mPure [])))))
def C__law_two_rows_1 : M (List D) :=
  (mComp [8] (mRng1 (mCons (mCallB 0 2 fn__law_take (mCons (mBinL addD 3 (mPure (.int 1))) (mPure []))) (mPure []))) (mStore 8) (mPure true) (mBinL ixD 2 (mCallB 0 2 fn__law_take (mCons (mCall1 lenD (mPeek 2)) (mPure [])))))
def L__law_two_rows_0 : M Fl :=
  (mSeq (mAsg (mCallB 0 2 fn__law_take (mCons (mPure (.int 6)) (mPure []))) (mStore 7))
  (mSeq (mIf (mBol (mBinL gtD 7 (mPure (.int 0)))) (mDrop (mMut 5 appD (mCons (mBin ixD (mLst (mCons (mVar 6) (mCons (mBinL ixD 2 (mCallB 0 2 fn__law_take (mCons (mCall1 lenD (mPeek 2)) (mPure [])))) (mPure [])))) (mCall1 intD (mBinL eqD 7 (mPure (.int 1))))) (mPure [])))) (mPure .nx))
  (mIf (mBol (mBinL eqD 7 (mPure (.int 2)))) (mDrop (mMut 5 appD (mCons (mBinL ixD 2 (mCallB 0 2 fn__law_take (mCons (mCall1 lenD (mPeek 2)) (mPure [])))) (mPure [])))) (mPure .nx))))
def R__law_two_rows_0 : M Fl :=
  mFor (mItems (mVar 4)) (mStore 6) L__law_two_rows_0
def m__law_two_rows : M Fl :=
  (mSeq (mAsg (mTup (mCons (mCallB 0 1 fn__law_pool (mPure [])) (mCons (mBin ixD (mLst (mCons (mPure (.int 9)) (mCons (mBin ixD (mLst (mCons (mPure (.int 30)) (mCons (mPure (.int 60)) (mPure [])))) (mCallB 0 2 fn__law_take (mCons (mPure (.int 2)) (mPure [])))) (mPure [])))) (mCall1 intD (mAnd (mBin eqD (mCallB 0 2 fn__law_take (mCons (mPure (.int 4)) (mPure []))) (mPure (.int 0))) (mBinL eqD 1 (mPure (.int 0)))))) (mPure [])))) (gTupD 2 (gCons2 (mStore 2) (gCons2 (mStore 3) gsNil))))
  (mSeq (mAsgN C__law_two_rows_0 4)
  (mSeq (mIf (mBol (mBin eqD (mCallB 0 2 fn__law_take (mCons (mPure (.int 3)) (mPure []))) (mPure (.int 0)))) (mRet (mTup (mCons (mVar 4) (mCons (mVal C__law_two_rows_1) (mPure []))))) (mPure .nx))
  (mSeq (mAsgN (mLstN (mPure [])) 5)
  (mSeq (R__law_two_rows_0)
  (mRet (mBin ixD (mLst (mCons (mTup (mCons (mVar 4) (mCons (mSlL 5 mNoPart (mPart (mPure (.int 60)))) (mPure [])))) (mCons (mTup (mCons (mSlL 5 mNoPart (mPart (mPure (.int 60)))) (mCons (mVar 4) (mPure [])))) (mPure [])))) (mCallB 0 2 fn__law_take (mCons (mPure (.int 2)) (mPure []))))))))))
def fn__law_two_rows : List D → List D → Option (Rs D × List D) := runB m__law_two_rows 9
abbrev s__law_two_rows : Stmt := topS 24
abbrev N__law_two_rows : List Str := ["_law_box_here", "_law_k", "_law_pool_here", "_law_many", "_law_one", "_law_other", "_law_number", "_law_form", "_law_turn"]
theorem sc__law_two_rows : FnScope N__law_two_rows ["_law_box_here", "_law_k"] (defScope s__law_two_rows) := ⟨rfl, rfl, rfl, by decide +kernel, rfl, by decide +kernel, by decide +kernel⟩
def L__law_cost_0 : M Fl :=
  (mIf (mAndT (mBol (mBinL eqD 7 (mTup (mCons (mPure (.str "lack")) (mCons (mVar 4) (mPure [])))))) ((mBol (mBinL ltD 4 (mCall1 lenD (mPeek 0)))))) (mParEE 4 6 (mBinL addD 4 (mPure (.int 1))) (mBinL addD 6 (mBinL ixD 3 (mPure (.int 1))))) (mIf (mAndT (mBol (mBinL eqD 7 (mTup (mCons (mPure (.str "more")) (mCons (mVar 5) (mPure [])))))) ((mBol (mBinL ltD 5 (mCall1 lenD (mPeek 1)))))) (mParEE 5 6 (mBinL addD 5 (mPure (.int 1))) (mBinL addD 6 (mBinL ixD 3 (mPure (.int 2))))) (mIf (mAndT (mBol (mBinL ltD 4 (mCall1 lenD (mPeek 0)))) (mAndT (mBol (mBinL ltD 5 (mCall1 lenD (mPeek 1)))) ((mBol (mBinL eqD 7 (mTup (mCons (mBin ixD (mLst (mCons (mPure (.str "unlike")) (mCons (mPure (.str "same")) (mPure [])))) (mCall1 intD (mBin eqD (mBinL ixD 0 (mPeek 4)) (mBinL ixD 1 (mPeek 5))))) (mCons (mVar 4) (mCons (mVar 5) (mPure [])))))))))) (mSeq (mAsg (mBinL addD 6 (mBin mulD (mBinL ixD 3 (mPure (.int 0))) (mCall1 intD (mBin neD (mBinL ixD 0 (mPeek 4)) (mBinL ixD 1 (mPeek 5)))))) (mStore 6))
  (mParEE 4 5 (mBinL addD 4 (mPure (.int 1))) (mBinL addD 5 (mPure (.int 1))))) (mRet (mPure .none)))))
def R__law_cost_0 : M Fl :=
  mFor (mItems (mVar 2)) (mStore 7) L__law_cost_0
def m__law_cost : M Fl :=
  (mSeq (mAsg (mTup (mCons (mPure (.int 0)) (mCons (mPure (.int 0)) (mCons (mPure (.int 0)) (mPure []))))) (gTupD 3 (gCons2 (mStore 4) (gCons2 (mStore 5) (gCons2 (mStore 6) gsNil)))))
  (mSeq (R__law_cost_0)
  (mRet (mIf (mBol (mBin eqD (mTup (mCons (mVar 4) (mCons (mVar 5) (mPure [])))) (mTup (mCons (mCall1 lenD (mPeek 0)) (mCons (mCall1 lenD (mPeek 1)) (mPure [])))))) (mVar 6) (mPure .none)))))
def fn__law_cost : List D → Option (Rs D) := runV m__law_cost 8
abbrev s__law_cost : Stmt := topS 25
abbrev N__law_cost : List Str := ["_law_one", "_law_other", "_law_steps", "_law_costs", "_law_i", "_law_j", "_law_whole", "_law_step"]
theorem sc__law_cost : FnScope N__law_cost ["_law_one", "_law_other", "_law_steps", "_law_costs"] (defScope s__law_cost) := ⟨rfl, rfl, rfl, by decide +kernel, rfl, by decide +kernel, by decide +kernel⟩
def C__law_table_right_0 : M (List D) :=
  (mComp [9] (mItems (mVar 2)) (mStore 9) (mPure true) (mIsi "tuple" (mPeek 9)))
def C__law_table_right_1 : M (List D) :=
  (mComp [9] (mItems (mVar 2)) (mStore 9) (mPure true) (mCall1 lenD (mPeek 9)))
def L__law_table_right_0 : M Fl :=
  (mSeq (mIf (mAndT (mBol (mBinL ltD 6 (mCall1 lenD (mPeek 0)))) ((mBol (mBin gtD (mBin ixD (mBinL ixD 2 (mBinL addD 6 (mPure (.int 1)))) (mPeek 7)) (mBin addD (mBin ixD (mBinL ixD 2 (mPeek 6)) (mPeek 7)) (mBinL ixD 4 (mPure (.int 1)))))))) (mRet (mPure (.bool false))) (mPure .nx))
  (mSeq (mIf (mAndT (mBol (mBinL ltD 7 (mCall1 lenD (mPeek 1)))) ((mBol (mBin gtD (mBin ixD (mBinL ixD 2 (mPeek 6)) (mBinL addD 7 (mPure (.int 1)))) (mBin addD (mBin ixD (mBinL ixD 2 (mPeek 6)) (mPeek 7)) (mBinL ixD 4 (mPure (.int 2)))))))) (mRet (mPure (.bool false))) (mPure .nx))
  (mIf (mAndT (mBol (mBinL ltD 6 (mCall1 lenD (mPeek 0)))) ((mBol (mBinL ltD 7 (mCall1 lenD (mPeek 1)))))) (mSeq (mAsg (mBin mulD (mBinL ixD 4 (mPure (.int 0))) (mCall1 intD (mBin neD (mBinL ixD 0 (mPeek 6)) (mBinL ixD 1 (mPeek 7))))) (mStore 8))
  (mIf (mBol (mBin gtD (mBin ixD (mBinL ixD 2 (mBinL addD 6 (mPure (.int 1)))) (mBinL addD 7 (mPure (.int 1)))) (mBin addD (mBin ixD (mBinL ixD 2 (mPeek 6)) (mPeek 7)) (mPeek 8)))) (mRet (mPure (.bool false))) (mPure .nx))) (mPure .nx))))
def R__law_table_right_0 : M Fl :=
  mFor (mRng1 (mCons (mVar 5) (mPure []))) (mStore 7) L__law_table_right_0
def L__law_table_right_1 : M Fl :=
  (R__law_table_right_0)
def R__law_table_right_1 : M Fl :=
  mFor (mRng1 (mCons (mBin addD (mCall1 lenD (mPeek 0)) (mPure (.int 1))) (mPure []))) (mStore 6) L__law_table_right_1
def m__law_table_right : M Fl :=
  (mSeq (mAsg (mBin addD (mCall1 lenD (mPeek 1)) (mPure (.int 1))) (mStore 5))
  (mSeq (mIf (mOrT (mNotT (mTru (mIsi "tuple" (mPeek 2)))) ((mNotT (mTru (mCall1 allD (mVal C__law_table_right_0)))))) (mRet (mPure (.bool false))) (mPure .nx))
  (mSeq (mIf (mBol (mBin neD (mVal C__law_table_right_1) (mVal (mRepN (mCons (mVar 5) (mPure [])) (mBin addD (mCall1 lenD (mPeek 0)) (mPure (.int 1))))))) (mRet (mPure (.bool false))) (mPure .nx))
  (mSeq (mIf (mOrT (mBol (mBin neD (mBin ixD (mBinL ixD 2 (mPure (.int 0))) (mPure (.int 0))) (mPure (.int 0)))) ((mBol (mBin neD (mBin ixD (mBinL ixD 2 (mUn negD (mPure (.int 1)))) (mUn negD (mPure (.int 1)))) (mPeek 3))))) (mRet (mPure (.bool false))) (mPure .nx))
  (mSeq (R__law_table_right_1)
  (mRet (mPure (.bool true))))))))
def fn__law_table_right : List D → Option (Rs D) := runV m__law_table_right 10
abbrev s__law_table_right : Stmt := topS 26
abbrev N__law_table_right : List Str := ["_law_one", "_law_other", "_law_rows", "_law_cost_here", "_law_costs", "_law_wide", "_law_i", "_law_j", "_law_cost_here_here", "_law_row"]
theorem sc__law_table_right : FnScope N__law_table_right ["_law_one", "_law_other", "_law_rows", "_law_cost_here", "_law_costs"] (defScope s__law_table_right) := ⟨rfl, rfl, rfl, by decide +kernel, rfl, by decide +kernel, by decide +kernel⟩
def m__law_due : M Fl :=
  (mSeq (mAsg (mVar 2) (gTupD 3 (gCons2 (mStore 4) (gCons2 (mStore 5) (gCons2 (mStore 6) gsNil)))))
  (mRet (mAnd (mBin eqD (mCallV 4 fn__law_cost (mCons (mVar 0) (mCons (mVar 1) (mCons (mVar 5) (mCons (mVar 3) (mPure [])))))) (mPeek 4)) (mCallV 5 fn__law_table_right (mCons (mVar 0) (mCons (mVar 1) (mCons (mVar 6) (mCons (mVar 4) (mCons (mVar 3) (mPure []))))))))))
def fn__law_due : List D → Option (Rs D) := runV m__law_due 7
abbrev s__law_due : Stmt := topS 27
abbrev N__law_due : List Str := ["_law_one", "_law_other", "_law_told", "_law_costs", "_law_cost_here", "_law_steps", "_law_rows"]
theorem sc__law_due : FnScope N__law_due ["_law_one", "_law_other", "_law_told", "_law_costs"] (defScope s__law_due) := ⟨rfl, rfl, rfl, by decide +kernel, rfl, by decide +kernel, by decide +kernel⟩
def m__law_odd_steps : M Fl :=
  (mSeq (mParEE 2 3 (mCallB 0 2 fn__law_take (mCons (mPure (.int 6)) (mPure []))) (mCallB 0 2 fn__law_take (mCons (mCallN max2D (mCons (mPure (.int 1)) (mCons (mCall1 lenD (mPeek 1)) (mPure [])))) (mPure []))))
  (mSeq (mIf (mOrT (mBol (mBin eqD (mCall1 lenD (mPeek 1)) (mPure (.int 0)))) ((mBol (mBinL eqD 2 (mPure (.int 0)))))) (mSeq (mAsgN (mLstN (mCons (mTup (mCons (mPure (.str "lack")) (mCons (mPure (.int 0)) (mPure [])))) (mCons (mTup (mCons (mPure (.str "more")) (mCons (mPure (.int 0)) (mPure [])))) (mCons (mTup (mCons (mPure (.str "same")) (mCons (mPure (.int 0)) (mCons (mPure (.int 0)) (mPure []))))) (mCons (mTup (mCons (mPure (.str "unlike")) (mCons (mPure (.int 0)) (mCons (mPure (.int 0)) (mPure []))))) (mCons (mTup (mCons (mPure (.str "lack")) (mCons (mPure (.int 0)) (mCons (mPure (.int 0)) (mPure []))))) (mCons (mTup (mCons (mPure (.str "same")) (mCons (mPure (.int 0)) (mPure [])))) (mPure [])))))))) 4)
  (mRet (mBinL addA 1 (mTup (mCons (mBinL ixD 4 (mCallB 0 2 fn__law_take (mCons (mPure (.int 6)) (mPure [])))) (mPure [])))))) (mPure .nx))
  (mSeq (mIf (mBol (mBinL eqD 2 (mPure (.int 1)))) (mRet (mBin addA (mSlL 1 mNoPart (mPart (mVar 3))) (mSlL 1 (mPart (mBinL addA 3 (mPure (.int 1)))) mNoPart))) (mPure .nx))
  (mSeq (mIf (mBol (mBinL eqD 2 (mPure (.int 2)))) (mRet (mBin addA (mBin addA (mSlL 1 mNoPart (mPart (mVar 3))) (mTup (mCons (mBinL ixD 1 (mPeek 3)) (mPure [])))) (mSlL 1 (mPart (mVar 3)) mNoPart))) (mPure .nx))
  (mSeq (mIf (mBol (mBinL eqD 2 (mPure (.int 3)))) (mSeq (mAsg (mCallB 0 2 fn__law_take (mCons (mCall1 lenD (mPeek 1)) (mPure []))) (mStore 5))
  (mSeq (mAsgN (mCallN1 listD (mPeek 1)) 6)
  (mSeq (mAsg (mTup (mCons (mBinL ixD 1 (mPeek 5)) (mCons (mBinL ixD 1 (mPeek 3)) (mPure [])))) (gTupD 2 (gCons2 (gSet 6 (mVar 3)) (gCons2 (gSet 6 (mVar 5)) gsNil))))
  (mRet (mCall1 tupleD (mPeek 6)))))) (mPure .nx))
  (mSeq (mAsgN (mCallN1 listD (mBinL ixD 1 (mPeek 3))) 7)
  (mSeq (mIf (mBol (mBinL eqD 2 (mPure (.int 4)))) (mAsg (mBin ixD (mLst (mCons (mPure (.str "same")) (mCons (mPure (.str "unlike")) (mCons (mPure (.str "lack")) (mCons (mPure (.str "more")) (mCons (mPure (.str "")) (mCons (mPure (.str "miss")) (mPure [])))))))) (mCallB 0 2 fn__law_take (mCons (mPure (.int 6)) (mPure [])))) (gSet 7 (mPure (.int 0)))) (mSeq (mAsg (mBin addA (mPure (.int 1)) (mCallB 0 2 fn__law_take (mCons (mBin subD (mCall1 lenD (mPeek 7)) (mPure (.int 1))) (mPure [])))) (mStore 8))
  (mAsg (mBin addA (mBinL ixD 7 (mPeek 8)) (mBin ixD (mLst (mCons (mPure (.int 1)) (mCons (mBin subD (mPure (.int 0)) (mPure (.int 1))) (mCons (mPure (.int 2)) (mCons (mBin powD (mPure (.int 10)) (mPure (.int 30))) (mPure [])))))) (mCallB 0 2 fn__law_take (mCons (mPure (.int 4)) (mPure []))))) (gSet 7 (mVar 8)))))
  (mRet (mBin addA (mBin addA (mSlL 1 mNoPart (mPart (mVar 3))) (mTup (mCons (mCall1 tupleD (mPeek 7)) (mPure [])))) (mSlL 1 (mPart (mBinL addA 3 (mPure (.int 1)))) mNoPart))))))))))
def fn__law_odd_steps : List D → List D → Option (Rs D × List D) := runB m__law_odd_steps 9
abbrev s__law_odd_steps : Stmt := topS 28
abbrev N__law_odd_steps : List Str := ["_law_box_here", "_law_steps", "_law_form", "_law_at", "_law_extra", "_law_other", "_law_found", "_law_step", "_law_n"]
theorem sc__law_odd_steps : FnScope N__law_odd_steps ["_law_box_here", "_law_steps"] (defScope s__law_odd_steps) := ⟨rfl, rfl, rfl, by decide +kernel, rfl, by decide +kernel, by decide +kernel⟩
def C__law_odd_rows_0 : M (List D) :=
  (mComp [6] (mRng1 (mCons (mCall1 lenD (mPeek 4)) (mPure []))) (mStore 6) (mPure true) (mBin addA (mBinL ixD 4 (mPeek 6)) (mBin mulD (mCall1 intD (mBinL eqD 6 (mPeek 5))) (mBin ixD (mLst (mCons (mPure (.int 1)) (mCons (mBin subD (mPure (.int 0)) (mPure (.int 1))) (mCons (mBin subD (mPure (.int 0)) (mPure (.int 3))) (mCons (mPure (.int 9)) (mPure [])))))) (mCallB 0 2 fn__law_take (mCons (mPure (.int 4)) (mPure [])))))))
def m__law_odd_rows : M Fl :=
  (mSeq (mParEE 2 3 (mCallB 0 2 fn__law_take (mCons (mPure (.int 6)) (mPure []))) (mCallB 0 2 fn__law_take (mCons (mCall1 lenD (mPeek 1)) (mPure []))))
  (mSeq (mIf (mBol (mBinL eqD 2 (mPure (.int 0)))) (mRet (mBin addA (mSlL 1 mNoPart (mPart (mVar 3))) (mSlL 1 (mPart (mBinL addA 3 (mPure (.int 1)))) mNoPart))) (mPure .nx))
  (mSeq (mIf (mBol (mBinL eqD 2 (mPure (.int 1)))) (mRet (mBin addA (mBin addA (mSlL 1 mNoPart (mPart (mVar 3))) (mTup (mCons (mBinL ixD 1 (mPeek 3)) (mPure [])))) (mSlL 1 (mPart (mVar 3)) mNoPart))) (mPure .nx))
  (mSeq (mAsg (mTup (mCons (mBinL ixD 1 (mPeek 3)) (mCons (mCallB 0 2 fn__law_take (mCons (mBin addA (mCall1 lenD (mBinL ixD 1 (mPeek 3))) (mPure (.int 1))) (mPure []))) (mPure [])))) (gTupD 2 (gCons2 (mStore 4) (gCons2 (mStore 5) gsNil))))
  (mSeq (mIf (mBol (mBinL eqD 2 (mPure (.int 2)))) (mAsg (mBin addA (mBin addA (mSlL 4 mNoPart (mPart (mVar 5))) (mTup (mCons (mCallB 0 2 fn__law_take (mCons (mPure (.int 4)) (mPure []))) (mPure [])))) (mSlL 4 (mPart (mVar 5)) mNoPart)) (mStore 4)) (mIf (mBol (mBinL eqD 2 (mPure (.int 3)))) (mAsg (mBin addA (mSlL 4 mNoPart (mPart (mVar 5))) (mSlL 4 (mPart (mBinL addA 5 (mPure (.int 1)))) mNoPart)) (mStore 4)) (mAsg (mCall1 tupleD (mVal C__law_odd_rows_0)) (mStore 4))))
  (mRet (mBin addA (mBin addA (mSlL 1 mNoPart (mPart (mVar 3))) (mTup (mCons (mVar 4) (mPure [])))) (mSlL 1 (mPart (mBinL addA 3 (mPure (.int 1)))) mNoPart))))))))
def fn__law_odd_rows : List D → List D → Option (Rs D × List D) := runB m__law_odd_rows 7
abbrev s__law_odd_rows : Stmt := topS 29
abbrev N__law_odd_rows : List Str := ["_law_box_here", "_law_rows", "_law_form", "_law_at", "_law_row", "_law_n", "_law_k"]
theorem sc__law_odd_rows : FnScope N__law_odd_rows ["_law_box_here", "_law_rows"] (defScope s__law_odd_rows) := ⟨rfl, rfl, rfl, by decide +kernel, rfl, by decide +kernel, by decide +kernel⟩
def m__law_odd : M Fl :=
  (mSeq (mAsg (mVar 1) (gTupD 3 (gCons2 (mStore 2) (gCons2 (mStore 3) (gCons2 (mStore 4) gsNil)))))
  (mSeq (mAsg (mCallB 0 2 fn__law_take (mCons (mPure (.int 5)) (mPure []))) (mStore 5))
  (mSeq (mIf (mBol (mBinL eqD 5 (mPure (.int 0)))) (mRet (mTup (mCons (mBinL addD 2 (mBin ixD (mLst (mCons (mPure (.int 1)) (mCons (mBin subD (mPure (.int 0)) (mPure (.int 1))) (mCons (mPure (.int 5)) (mCons (mBin powW (mPure (.int 10)) (mPure (.int 30))) (mCons (mBin subD (mPure (.int 0)) (mBin powW (mBin powW (mPure (.int 10)) (mPure (.int 64))) (mPure (.int 7)))) (mPure []))))))) (mCallB 0 2 fn__law_take (mCons (mPure (.int 5)) (mPure []))))) (mCons (mVar 3) (mCons (mVar 4) (mPure [])))))) (mPure .nx))
  (mSeq (mIf (mOrT (mBol (mBinL ltD 5 (mPure (.int 3)))) (mOrT (mBol (mBin eqD (mCall1 lenD (mPeek 4)) (mPure (.int 0)))) ((mBol (mBin eqD (mCall1 lenD (mBinL ixD 4 (mPure (.int 0)))) (mPure (.int 0))))))) (mRet (mTup (mCons (mVar 2) (mCons (mCallB 0 2 fn__law_odd_steps (mCons (mVar 3) (mPure []))) (mCons (mVar 4) (mPure [])))))) (mPure .nx))
  (mRet (mTup (mCons (mVar 2) (mCons (mVar 3) (mCons (mCallB 0 2 fn__law_odd_rows (mCons (mVar 4) (mPure []))) (mPure []))))))))))
def fn__law_odd : List D → List D → Option (Rs D × List D) := runB m__law_odd 6
abbrev s__law_odd : Stmt := topS 30
abbrev N__law_odd : List Str := ["_law_box_here", "_law_told", "_law_cost_here", "_law_steps", "_law_rows", "_law_form"]
theorem sc__law_odd : FnScope N__law_odd ["_law_box_here", "_law_told"] (defScope s__law_odd) := ⟨rfl, rfl, rfl, by decide +kernel, rfl, by decide +kernel, by decide +kernel⟩
def C_law_0 : M (List D) :=
  (mComp [12] (mRng1 (mCons (mPure (.int 3)) (mPure []))) (mStore 12) (mPure true) (mCallB 2 2 fn__law_take (mCons (mVar 5) (mPure []))))
def L_law_0 : M Fl :=
  (mAsg (mCallB 2 2 fn__law_odd (mCons (mVar 13) (mPure []))) (mStore 13))
def R_law_0 : M Fl :=
  mFor (mRng1 (mCons (mBin addD (mPure (.int 1)) (mCallB 2 2 fn__law_take (mCons (mPure (.int 3)) (mPure [])))) (mPure []))) (mStore 14) L_law_0
def L_law_1 : M Fl :=
  (mSeq (mAsg (mVar 10) (mStore 13))
  (mSeq (R_law_0)
  (mDrop (mMut 11 appD (mCons (mVar 13) (mPure []))))))
def R_law_1 : M Fl :=
  mFor (mRng1 (mCons (mPure (.int 6)) (mPure []))) (mStore 12) L_law_1
def L_law_2 : M Fl :=
  (mSeq (mPar3 15 16 17 (mCallV 4 fn__law_due (mCons (mVar 3) (mCons (mVar 4) (mCons (mVar 13) (mCons (mVar 6) (mPure [])))))) (mCallB 2 2 fn__law_kind (mCons (mVar 3) (mPure []))) (mCallB 2 2 fn__law_kind (mCons (mVar 4) (mPure []))))
  (mSeq (mAsg (mCall1 reprG (mTup (mCons (mVar 16) (mCons (mVar 17) (mPure []))))) (mStore 18))
  (mSeq (mIf (mBol (mBin neD (mCall1 reprG (mCallK 3 3 [] [] fn_held_right (mCons (mVar 16) (mCons (mVar 17) (mCons (mVar 13) (mPure [])))) (mCons (mVar 7) (mCons (mVar 8) (mCons (mVar 9) (mPure [])))))) (mCall1 reprG (mPeek 15)))) (mRet (mPure (.bool false))) (mPure .nx))
  (mIf (mBol (mBin neD (mCall1 reprG (mTup (mCons (mVar 16) (mCons (mVar 17) (mPure []))))) (mPeek 18))) (mRet (mPure (.bool false))) (mPure .nx)))))
def R_law_2 : M Fl :=
  mFor (mItems (mBinL addD 11 (mLst (mCons (mVar 10) (mPure []))))) (mStore 13) L_law_2
def L_law_3 : M Fl :=
  (mSeq (mAsgS 2 0 2 fn__law_box (mCons (mVar 1) (mPure [])))
  (mSeq (mAsg (mCallB 2 2 fn__law_two_rows (mCons (mVar 1) (mPure []))) (gTupD 2 (gCons2 (mStore 3) (gCons2 (mStore 4) gsNil))))
  (mSeq (mAsg (mBin ixD (mLst (mCons (mPure (.int 5)) (mCons (mPure (.int 5)) (mCons (mBin addD (mBin powD (mPure (.int 10)) (mPure (.int 9))) (mPure (.int 1))) (mPure []))))) (mCallB 2 2 fn__law_take (mCons (mPure (.int 3)) (mPure [])))) (mStore 5))
  (mSeq (mAsg (mCall1 tupleD (mVal C_law_0)) (mStore 6))
  (mSeq (mAsg (mVar 6) (gTupD 3 (gCons2 (mStore 7) (gCons2 (mStore 8) (gCons2 (mStore 9) gsNil)))))
  (mSeq (mAsg (mCallK 2 3 [] [] fn_held (mCons (mVar 3) (mCons (mVar 4) (mPure []))) (mCons (mVar 7) (mCons (mVar 8) (mCons (mVar 9) (mPure []))))) (mStore 10))
  (mSeq (mAsgN (mLstN (mCons (mVar 10) (mCons (mCallK 2 0 [] [.int 1, .int 1, .int 1] fn_held (mCons (mVar 3) (mCons (mVar 4) (mPure []))) (mPure [])) (mCons (mCallK 2 3 [] [] fn_held (mCons (mVar 4) (mCons (mVar 3) (mPure []))) (mCons (mVar 7) (mCons (mVar 8) (mCons (mVar 9) (mPure []))))) (mPure []))))) 11)
  (mSeq (R_law_1)
  (R_law_2)))))))))
def R_law_3 : M Fl :=
  mFor (mRng1 (mCons (mCallN max2D (mCons (mPure (.int 2)) (mCons (mCallN min2D (mCons (mPure (.int 5)) (mCons (mScrLen 0) (mPure [])))) (mPure [])))) (mPure []))) (mStore 1) L_law_3
def m_law : M Fl :=
  (mSeq (R_law_3)
  (mRet (mPure (.bool true))))
def fn_law : List Int → Option (Rs D) := runL m_law 19
abbrev s_law : Stmt := topS 31
abbrev N_law : List Str := ["_law_script", "_law_k", "_law_box_here", "_law_one", "_law_other", "_law_dear", "_law_costs", "_law_a", "_law_b", "_law_c", "_law_told", "_law_some", "_law_turn", "_law_odd_here", "_law_again", "_law_due_here", "_law_first", "_law_second", "_law_kept"]
theorem sc_law : FnScope N_law ["_law_script"] (defScope s_law) := ⟨rfl, rfl, rfl, by decide +kernel, rfl, by decide +kernel, by decide +kernel⟩
structure Tx (K : PySem.W.Frag) (mg : Str → Option Value) (w : World) where
  a_is_whole : Addr
  fd_is_whole : FuncData
  F_is_whole : Fun K "is_whole" "is_whole" s_is_whole a_is_whole fd_is_whole
  g_is_whole : mg "is_whole" = some (.ref a_is_whole)
  b_is_whole : Binds K fd_is_whole ["thing"] []
  a_word_of : Addr
  fd_word_of : FuncData
  F_word_of : Fun K "word_of" "word_of" s_word_of a_word_of fd_word_of
  g_word_of : mg "word_of" = some (.ref a_word_of)
  b_word_of : Binds K fd_word_of ["thing"] []
  a__behind : Addr
  fd__behind : FuncData
  F__behind : Fun K "_behind" "_behind" s__behind a__behind fd__behind
  g__behind : mg "_behind" = some (.ref a__behind)
  b__behind : Binds K fd__behind ["table", "costs", "step", "i", "j"] []
  a__steps_to : Addr
  fd__steps_to : FuncData
  F__steps_to : Fun K "_steps_to" "_steps_to" s__steps_to a__steps_to fd__steps_to
  g__steps_to : mg "_steps_to" = some (.ref a__steps_to)
  b__steps_to : Binds K fd__steps_to ["one", "other", "i", "j"] []
  a__table_of : Addr
  fd__table_of : FuncData
  F__table_of : Fun K "_table_of" "_table_of" s__table_of a__table_of fd__table_of
  g__table_of : mg "_table_of" = some (.ref a__table_of)
  b__table_of : Binds K fd__table_of ["one", "other", "costs"] []
  a__steps_by : Addr
  fd__steps_by : FuncData
  F__steps_by : Fun K "_steps_by" "_steps_by" s__steps_by a__steps_by fd__steps_by
  g__steps_by : mg "_steps_by" = some (.ref a__steps_by)
  b__steps_by : Binds K fd__steps_by ["one", "other", "table", "costs"] []
  a_held : Addr
  fd_held : FuncData
  F_held : Fun K "held" "held" s_held a_held fd_held
  g_held : mg "held" = some (.ref a_held)
  gk_held_0 : List Value → List Value → List Value
  kb_held_0 : KBn K fd_held ["one", "other", "unlike", "lack", "more"] 2 ["unlike", "lack", "more"] gk_held_0 (fun vs zs => vs ++ ([] ++ (zs ++ [])))
  gk_held_1 : List Value → List Value → List Value
  kb_held_1 : KBn K fd_held ["one", "other", "unlike", "lack", "more"] 2 [] gk_held_1 (fun vs zs => vs ++ ([] ++ (zs ++ [.int 1, .int 1, .int 1])))
  a__are_whole : Addr
  fd__are_whole : FuncData
  F__are_whole : Fun K "_are_whole" "_are_whole" s__are_whole a__are_whole fd__are_whole
  g__are_whole : mg "_are_whole" = some (.ref a__are_whole)
  b__are_whole : Binds K fd__are_whole ["things"] []
  a__is_step : Addr
  fd__is_step : FuncData
  F__is_step : Fun K "_is_step" "_is_step" s__is_step a__is_step fd__is_step
  g__is_step : mg "_is_step" = some (.ref a__is_step)
  b__is_step : Binds K fd__is_step ["thing"] []
  a__has_form : Addr
  fd__has_form : FuncData
  F__has_form : Fun K "_has_form" "_has_form" s__has_form a__has_form fd__has_form
  g__has_form : mg "_has_form" = some (.ref a__has_form)
  b__has_form : Binds K fd__has_form ["thing"] []
  a__rises_right : Addr
  fd__rises_right : FuncData
  F__rises_right : Fun K "_rises_right" "_rises_right" s__rises_right a__rises_right fd__rises_right
  g__rises_right : mg "_rises_right" = some (.ref a__rises_right)
  b__rises_right : Binds K fd__rises_right ["one", "other", "table", "costs"] []
  a__go_through : Addr
  fd__go_through : FuncData
  F__go_through : Fun K "_go_through" "_go_through" s__go_through a__go_through fd__go_through
  g__go_through : mg "_go_through" = some (.ref a__go_through)
  b__go_through : Binds K fd__go_through ["one", "other", "steps"] []
  a_held_right : Addr
  fd_held_right : FuncData
  F_held_right : Fun K "held_right" "held_right" s_held_right a_held_right fd_held_right
  g_held_right : mg "held_right" = some (.ref a_held_right)
  gk_held_right_2 : List Value → List Value → List Value
  kb_held_right_2 : KBn K fd_held_right ["one", "other", "some", "unlike", "lack", "more"] 3 ["unlike", "lack", "more"] gk_held_right_2 (fun vs zs => vs ++ ([] ++ (zs ++ [])))
  a__law_box : Addr
  fd__law_box : FuncData
  F__law_box : Fun K "_law_box" "_law_box" s__law_box a__law_box fd__law_box
  g__law_box : mg "_law_box" = some (.ref a__law_box)
  b__law_box : Binds K fd__law_box ["_law_script", "_law_k"] []
  a__law_take : Addr
  fd__law_take : FuncData
  F__law_take : Fun K "_law_take" "_law_take" s__law_take a__law_take fd__law_take
  g__law_take : mg "_law_take" = some (.ref a__law_take)
  b__law_take : Binds K fd__law_take ["_law_box_here", "_law_many"] []
  a__law_pool : Addr
  fd__law_pool : FuncData
  F__law_pool : Fun K "_law_pool" "_law_pool" s__law_pool a__law_pool fd__law_pool
  g__law_pool : mg "_law_pool" = some (.ref a__law_pool)
  b__law_pool : Binds K fd__law_pool ["_law_box_here"] []
  a__law_kind : Addr
  fd__law_kind : FuncData
  F__law_kind : Fun K "_law_kind" "_law_kind" s__law_kind a__law_kind fd__law_kind
  g__law_kind : mg "_law_kind" = some (.ref a__law_kind)
  b__law_kind : Binds K fd__law_kind ["_law_box_here", "_law_row"] []
  a__law_two_rows : Addr
  fd__law_two_rows : FuncData
  F__law_two_rows : Fun K "_law_two_rows" "_law_two_rows" s__law_two_rows a__law_two_rows fd__law_two_rows
  g__law_two_rows : mg "_law_two_rows" = some (.ref a__law_two_rows)
  b__law_two_rows : Binds K fd__law_two_rows ["_law_box_here", "_law_k"] []
  a__law_cost : Addr
  fd__law_cost : FuncData
  F__law_cost : Fun K "_law_cost" "_law_cost" s__law_cost a__law_cost fd__law_cost
  g__law_cost : mg "_law_cost" = some (.ref a__law_cost)
  b__law_cost : Binds K fd__law_cost ["_law_one", "_law_other", "_law_steps", "_law_costs"] []
  a__law_table_right : Addr
  fd__law_table_right : FuncData
  F__law_table_right : Fun K "_law_table_right" "_law_table_right" s__law_table_right a__law_table_right fd__law_table_right
  g__law_table_right : mg "_law_table_right" = some (.ref a__law_table_right)
  b__law_table_right : Binds K fd__law_table_right ["_law_one", "_law_other", "_law_rows", "_law_cost_here", "_law_costs"] []
  a__law_due : Addr
  fd__law_due : FuncData
  F__law_due : Fun K "_law_due" "_law_due" s__law_due a__law_due fd__law_due
  g__law_due : mg "_law_due" = some (.ref a__law_due)
  b__law_due : Binds K fd__law_due ["_law_one", "_law_other", "_law_told", "_law_costs"] []
  a__law_odd_steps : Addr
  fd__law_odd_steps : FuncData
  F__law_odd_steps : Fun K "_law_odd_steps" "_law_odd_steps" s__law_odd_steps a__law_odd_steps fd__law_odd_steps
  g__law_odd_steps : mg "_law_odd_steps" = some (.ref a__law_odd_steps)
  b__law_odd_steps : Binds K fd__law_odd_steps ["_law_box_here", "_law_steps"] []
  a__law_odd_rows : Addr
  fd__law_odd_rows : FuncData
  F__law_odd_rows : Fun K "_law_odd_rows" "_law_odd_rows" s__law_odd_rows a__law_odd_rows fd__law_odd_rows
  g__law_odd_rows : mg "_law_odd_rows" = some (.ref a__law_odd_rows)
  b__law_odd_rows : Binds K fd__law_odd_rows ["_law_box_here", "_law_rows"] []
  a__law_odd : Addr
  fd__law_odd : FuncData
  F__law_odd : Fun K "_law_odd" "_law_odd" s__law_odd a__law_odd fd__law_odd
  g__law_odd : mg "_law_odd" = some (.ref a__law_odd)
  b__law_odd : Binds K fd__law_odd ["_law_box_here", "_law_told"] []
  a_law : Addr
  fd_law : FuncData
  F_law : Fun K "law" "law" s_law a_law fd_law
  g_law : mg "law" = some (.ref a_law)
  b_law : Binds K fd_law ["_law_script"] []
  ga_GOES : Addr
  g_GOES : mg "GOES" = some (.ref ga_GOES)
  kt_GOES : KTab K w ga_GOES tb_GOES
  kn_GOES : KNam K w ga_GOES tb_GOES
  z_all : mg "all" = none
  z_bool : mg "bool" = none
  z_int : mg "int" = none
  z_isinstance : mg "isinstance" = none
  z_len : mg "len" = none
  z_list : mg "list" = none
  z_max : mg "max" = none
  z_min : mg "min" = none
  z_range : mg "range" = none
  z_repr : mg "repr" = none
  z_str : mg "str" = none
  z_sum : mg "sum" = none
  z_tuple : mg "tuple" = none
section
variable {P : Program} {w : World} {K : PySem.W.Frag} {mg : Str → Option Value} {base : Heap}
theorem ok_is_whole (T : Tx K mg w) : FnG P w K mg base (L2.CX P w) 1 T.a_is_whole T.fd_is_whole ["thing"] (spV K 1 fn_is_whole) := by
  have e : spV K 1 fn_is_whole = spV K ["thing"].length (runV m_is_whole N_is_whole.length) := rfl
  rw [e]
  refine okV2G (sc := ?sc) (bd := ?bd) (m := m_is_whole) T.F_is_whole sc_is_whole ?h1 ?h2 ?hb
  case h1 => conv => lhs; whnf
  case h2 => conv => lhs; whnf
  case hb => exact fun cdv A outer s H E hgd hr => (by exact
    (dsOne (dRet (dAnd (dIsi (T.z_isinstance) (T.z_int) i_int (dpk 0) b_int) (dOne (dNot (dP (dIsi (T.z_isinstance) (T.z_bool) i_bool (dpk 0) b_bool))))))))
theorem ok_word_of (T : Tx K mg w) : FnG P w K mg base (L2.CX P w) 1 T.a_word_of T.fd_word_of ["thing"] (spV K 1 fn_word_of) := by
  have e : spV K 1 fn_word_of = spV K ["thing"].length (runV m_word_of N_word_of.length) := rfl
  rw [e]
  refine okV2G (sc := ?sc) (bd := ?bd) (m := m_word_of) T.F_word_of sc_word_of ?h1 ?h2 ?hb
  case h1 => conv => lhs; whnf
  case h2 => conv => lhs; whnf
  case hb => exact fun cdv A outer s H E hgd hr => (by exact
    (dsCons (dIfS ((dwAnd (dTru (dP (dIsi (T.z_isinstance) (T.z_tuple) i_tuple (dpk 0) b_tuple))) (dwAnd (dTru (dpk 0)) (dwAnd1 (dTru (dP (dIsi (T.z_isinstance) (T.z_str) i_str (dP (dIxL (pv 0) (dP (dInt)))) b_str)))))).pt) (dsOne (dRet (dIxL (pv 0) (dP (dInt))))) dsNil)
      (dsOne (dRet (dNon)))))
theorem ok__behind (T : Tx K mg w) : FnG P w K mg base (L2.CX P w) 1 T.a__behind T.fd__behind ["table", "costs", "step", "i", "j"] (spV K 5 fn__behind) := by
  have e : spV K 5 fn__behind = spV K ["table", "costs", "step", "i", "j"].length (runV m__behind N__behind.length) := rfl
  rw [e]
  refine okV2G (sc := ?sc) (bd := ?bd) (m := m__behind) T.F__behind sc__behind ?h1 ?h2 ?hb
  case h1 => conv => lhs; whnf
  case h2 => conv => lhs; whnf
  case hb => exact fun cdv A outer s H E hgd hr => (by exact
    (dsCons (dAsg (dGIx T.kt_GOES T.g_GOES (dIxL (pv 2) (dP (dInt)))) (dgTup rfl (dgsCons (dgName (i := 5) sc__behind.nd) (dgsCons (dgName (i := 6) sc__behind.nd) dgsNil2))))
      (dsOne (dRet (dOp or_addA opD_add (dIx (dIxL (pv 0) (dP (dOpL op_sub opD_sub (pv 3) (dpk 5)))) (dP (dOpL op_sub opD_sub (pv 4) (dpk 6)))) (dP (dDGet (hu_of hr) (dv 1) (dIxL (pv 2) (dP (dInt))))))))))
theorem ok__steps_to (T : Tx K mg w) : FnG P w K mg base (L2.CX P w) 1 T.a__steps_to T.fd__steps_to ["one", "other", "i", "j"] (spV K 4 fn__steps_to) := by
  have e : spV K 4 fn__steps_to = spV K ["one", "other", "i", "j"].length (runV m__steps_to N__steps_to.length) := rfl
  rw [e]
  refine okV2G (sc := ?sc) (bd := ?bd) (m := m__steps_to) T.F__steps_to sc__steps_to ?h1 ?h2 ?hb
  case h1 => conv => lhs; whnf
  case h2 => conv => lhs; whnf
  case hb => exact fun cdv A outer s H E hgd hr => (by exact
    (dsCons (dsN (i := 4) sc__steps_to.nd (dLstN dNil))
      (dsCons (dIfS ((dwAnd (dtCmpL op_gt opD_gt (nomark _) (pv 2) (dP (dInt))) (dwAnd1 (dtCmpL op_gt opD_gt (nomark _) (pv 3) (dP (dInt))))).pt) (dsOne (dExpr (PE.imp (pe_bm PySem.F.plainAttrs_list PySem.F.slot_list_append PySem.F.type_list_append mt_append (pv 4) (dCons (dTup (dCons (dIf (dtCmp (op_eqD hr.units) opD_eq (nomark _) (dIxL (pv 0) (dP (dOpL op_sub opD_sub (pv 2) (dP (dInt))))) (dP (dIxL (pv 1) (dP (dOpL op_sub opD_sub (pv 3) (dP (dInt))))))) (dStr) (dStr)) (dCons (dOpL op_sub opD_sub (pv 2) (dP (dInt))) (dCons (dOpL op_sub opD_sub (pv 3) (dP (dInt))) dNil)))) dNil)) (fun _ _ _ => mut_of mut_app)))) dsNil)
      (dsCons (dIfS (dtCmpL op_gt opD_gt (nomark _) (pv 2) (dP (dInt))) (dsOne (dExpr (PE.imp (pe_bm PySem.F.plainAttrs_list PySem.F.slot_list_append PySem.F.type_list_append mt_append (pv 4) (dCons (dTup (dCons (dStr) (dCons (dOpL op_sub opD_sub (pv 2) (dP (dInt))) dNil))) dNil)) (fun _ _ _ => mut_of mut_app)))) dsNil)
      (dsCons (dIfS (dtCmpL op_gt opD_gt (nomark _) (pv 3) (dP (dInt))) (dsOne (dExpr (PE.imp (pe_bm PySem.F.plainAttrs_list PySem.F.slot_list_append PySem.F.type_list_append mt_append (pv 4) (dCons (dTup (dCons (dStr) (dCons (dOpL op_sub opD_sub (pv 3) (dP (dInt))) dNil))) dNil)) (fun _ _ _ => mut_of mut_app)))) dsNil)
      (dsOne (dRet (dv 4))))))))
theorem ok__table_of (T : Tx K mg w) : FnG P w K mg base (L2.CX P w) 2 T.a__table_of T.fd__table_of ["one", "other", "costs"] (spV K 3 fn__table_of) := by
  have e : spV K 3 fn__table_of = spV K ["one", "other", "costs"].length (runV m__table_of N__table_of.length) := rfl
  rw [e]
  refine okV2G (sc := ?sc) (bd := ?bd) (m := m__table_of) T.F__table_of sc__table_of ?h1 ?h2 ?hb
  case h1 => conv => lhs; whnf
  case h2 => conv => lhs; whnf
  case hb => exact fun cdv A outer s H E hgd hr => (by exact
    (dsCons (dNewN (i := 3) sc__table_of.nd)
      (dsCons (dFor (passes_of rfl) rfl (diRng1 (T.z_range) (dCons (dOp or_addA opD_add (dB1 cr_len cd_len (T.z_len) b_len (dpk 0)) (dP (dInt))) dNil)) (dgName (i := 4) sc__table_of.nd) (mb := L__table_of_1) (dsCons (dExpr (PE.imp (pe_bm PySem.F.plainAttrs_list PySem.F.slot_list_append PySem.F.type_list_append mt_append (pv 3) (pa_cons (dLstN dNil) pa_nil)) (fun _ _ _ => pushN_of)))
      (dsOne (dFor (passes_of rfl) rfl (diRng1 (T.z_range) (dCons (dOp or_addA opD_add (dB1 cr_len cd_len (T.z_len) b_len (dpk 1)) (dP (dInt))) dNil)) (dgName (i := 5) sc__table_of.nd) (mb := L__table_of_0) (dsCons (dsCompN (i := 6) (own := [("step", 8)]) rfl sc__table_of.nd (sw_true rfl rfl rfl (by decide +kernel)) (diSeq (dCallVG hgd (ok__steps_to T) (hr.mono (by decide)) T.g__steps_to T.F__steps_to.kp T.b__steps_to (takes_of rfl rfl rfl rfl) (dCons (dv 0) (dCons (dv 1) (dCons (dv 4) (dCons (dv 5) dNil)))))) (blkOk_by (N := N__table_of) (sc := defScope s__table_of) (by decide +kernel)) (fun _ _ _ _ _ => pg_name (i := 8) sc__table_of.nd rfl (by first | exact Or.inl rfl | exact Or.inr rfl)) (fun _ _ _ _ _ => pts_nil) (fun _ _ _ _ _ => (dCallPNG hgd (ok__behind T) (hr.mono (by decide)) T.g__behind T.F__behind.kp T.b__behind takes0 (pv 3) (dCons (dv 2) (dCons (dv 8) (dCons (dv 4) (dCons (dv 5) dNil)))))) (ctName (by decide)) (fun _ _ _ => tYes_of))
      (dsOne (dExpr (PE.imp (pe_bm PySem.F.plainAttrs_list PySem.F.slot_list_append PySem.F.type_list_append mt_append (pe_ix ix_seq (pv 3) (dv 4) (fun _ _ => rfl)) (pa_cons (dMinDefI rfl hr.units (T.z_min) (dpk 6)) pa_nil)) (fun _ _ _ => appN_of)))))))))
      (dsOne (dRet (dTy1 call_tuple_of cd_tuple (T.z_tuple) b_tuple (dP (dVal (m := C__table_of_1) (dCompN (own := [("row", 7)]) rfl sc__table_of.nd (diSeq (dvA 3)) (blkOk_by (N := N__table_of) (sc := defScope s__table_of) (by decide +kernel)) (fun _ _ _ _ _ => pg_name (i := 7) sc__table_of.nd rfl (by first | exact Or.inl rfl | exact Or.inr rfl)) (fun _ _ _ _ _ => pts_nil) (fun _ _ _ _ _ => (dTy1 call_tuple_of cd_tuple (T.z_tuple) b_tuple (dpk 7))) (ctName (by decide)) (fun _ _ _ => tYes_of))))))))))
theorem ok__steps_by (T : Tx K mg w) : FnG P w K mg base (L2.CX P w) 2 T.a__steps_by T.fd__steps_by ["one", "other", "table", "costs"] (spV K 4 fn__steps_by) := by
  have e : spV K 4 fn__steps_by = spV K ["one", "other", "table", "costs"].length (runV m__steps_by N__steps_by.length) := rfl
  rw [e]
  refine okV2G (sc := ?sc) (bd := ?bd) (m := m__steps_by) T.F__steps_by sc__steps_by ?h1 ?h2 ?hb
  case h1 => conv => lhs; whnf
  case h2 => conv => lhs; whnf
  case hb => exact fun cdv A outer s H E hgd hr => (by exact
    (dsCons (dsN (i := 4) sc__steps_by.nd (dLstN dNil))
      (dsCons (dSet (i := 5) sc__steps_by.nd (dB1 cr_len cd_len (T.z_len) b_len (dpk 0)))
      (dsCons (dSet (i := 6) sc__steps_by.nd (dB1 cr_len cd_len (T.z_len) b_len (dpk 1)))
      (dsCons (dWhile (fuel := (fun _ => 1000)) (passes_of rfl) ((dwOr (dtCmpL op_gt opD_gt (nomark _) (pv 5) (dP (dInt))) (dwOr1 (dtCmpL op_gt opD_gt (nomark _) (pv 6) (dP (dInt))))).pt) (mb := L__steps_by_0) (dsCons (dsCompN (i := 7) (own := [("step", 10)]) rfl sc__steps_by.nd (sw_true rfl rfl rfl (by decide +kernel)) (diSeq (dCallVG hgd (ok__steps_to T) (hr.mono (by decide)) T.g__steps_to T.F__steps_to.kp T.b__steps_to (takes_of rfl rfl rfl rfl) (dCons (dv 0) (dCons (dv 1) (dCons (dv 5) (dCons (dv 6) dNil)))))) (blkOk_by (N := N__steps_by) (sc := defScope s__steps_by) (by decide +kernel)) (fun _ _ _ _ _ => pg_name (i := 10) sc__steps_by.nd rfl (by first | exact Or.inl rfl | exact Or.inr rfl)) (fun _ _ _ _ _ => pts_one (dtCmp (op_eqD hr.units) opD_eq (nomark _) (dCallVG hgd (ok__behind T) (hr.mono (by decide)) T.g__behind T.F__behind.kp T.b__behind takes0 (dCons (dv 2) (dCons (dv 3) (dCons (dv 10) (dCons (dv 5) (dCons (dv 6) dNil)))))) (dP (dIx (dIxL (pv 2) (dpk 5)) (dpk 6))))) (fun _ _ _ _ _ => (dv 10)) (ctName (by decide)) (fun _ _ _ q => q))
      (dsCons (dAsg (dGIx T.kt_GOES T.g_GOES (dIx (dIxL (pv 7) (dP (dInt))) (dP (dInt)))) (dgTup rfl (dgsCons (dgName (i := 8) sc__steps_by.nd) (dgsCons (dgName (i := 9) sc__steps_by.nd) dgsNil2))))
      (dsCons (dExpr (PE.imp (pe_bm PySem.F.plainAttrs_list PySem.F.slot_list_append PySem.F.type_list_append mt_append (pv 4) (dCons (dIxL (pv 7) (dP (dInt))) dNil)) (fun _ _ _ => mut_of mut_app)))
      (dsCons (dAug (i := 5) sc__steps_by.nd iop_sub opD_sub (dv 8))
      (dsOne (dAug (i := 6) sc__steps_by.nd iop_sub opD_sub (dv 9))))))))
      (dsOne (dRet (dTy1 call_tuple_of cd_tuple (T.z_tuple) b_tuple (dP (dVal (dRevN (dpk 4))))))))))))
theorem ok_held (T : Tx K mg w) : FnG P w K mg base (L2.CX P w) 3 T.a_held T.fd_held ["one", "other", "unlike", "lack", "more"] (spV K 5 fn_held) := by
  have e : spV K 5 fn_held = spV K ["one", "other", "unlike", "lack", "more"].length (runV m_held N_held.length) := rfl
  rw [e]
  refine okV2G (sc := ?sc) (bd := ?bd) (m := m_held) T.F_held sc_held ?h1 ?h2 ?hb
  case h1 => conv => lhs; whnf
  case h2 => conv => lhs; whnf
  case hb => exact fun cdv A outer s H E hgd hr => (by exact
    (dsCons (dSet (i := 5) sc_held.nd (dDisp (pdCons (k := "same") pe_str (dInt) (pdCons (k := "unlike") pe_str (dv 2) (pdCons (k := "lack") pe_str (dv 3) (pdCons (k := "more") pe_str (dv 4) pdNil))))))
      (dsCons (dSet (i := 6) sc_held.nd (dCallVG hgd (ok__table_of T) (hr.mono (by decide)) T.g__table_of T.F__table_of.kp T.b__table_of (takes_of rfl rfl rfl rfl) (dCons (dv 0) (dCons (dv 1) (dCons (dv 5) dNil)))))
      (dsOne (dRet (dTup (dCons (dIx (dIxL (pv 6) (dP (dNeg (dInt)))) (dP (dNeg (dInt)))) (dCons (dCallVG hgd (ok__steps_by T) (hr.mono (by decide)) T.g__steps_by T.F__steps_by.kp T.b__steps_by (takes_of rfl rfl rfl rfl) (dCons (dv 0) (dCons (dv 1) (dCons (dv 6) (dCons (dv 5) dNil))))) (dCons (dv 6) dNil)))))))))
theorem ok__are_whole (T : Tx K mg w) : FnG P w K mg base (L2.CX P w) 2 T.a__are_whole T.fd__are_whole ["things"] (spV K 1 fn__are_whole) := by
  have e : spV K 1 fn__are_whole = spV K ["things"].length (runV m__are_whole N__are_whole.length) := rfl
  rw [e]
  refine okV2G (sc := ?sc) (bd := ?bd) (m := m__are_whole) T.F__are_whole sc__are_whole ?h1 ?h2 ?hb
  case h1 => conv => lhs; whnf
  case h2 => conv => lhs; whnf
  case hb => exact fun cdv A outer s H E hgd hr => (by exact
    (dsOne (dRet (dB1 (cr_all rfl) cd_all (T.z_all) b_all (dP (dVal (m := C__are_whole_0) (dCompN (own := [("thing", 1)]) rfl sc__are_whole.nd (diSeq (dv 0)) (blkOk_by (N := N__are_whole) (sc := defScope s__are_whole) (by decide +kernel)) (fun _ _ _ _ _ => pg_name (i := 1) sc__are_whole.nd rfl (by first | exact Or.inl rfl | exact Or.inr rfl)) (fun _ _ _ _ _ => pts_nil) (fun _ _ _ _ _ => (dCallVG hgd (ok_is_whole T) (hr.mono (by decide)) T.g_is_whole T.F_is_whole.kp T.b_is_whole takes0 (dCons (dv 1) dNil))) (ctName (by decide)) (fun _ _ _ => tYes_of))))))))
theorem ok__is_step (T : Tx K mg w) : FnG P w K mg base (L2.CX P w) 3 T.a__is_step T.fd__is_step ["thing"] (spV K 1 fn__is_step) := by
  have e : spV K 1 fn__is_step = spV K ["thing"].length (runV m__is_step N__is_step.length) := rfl
  rw [e]
  refine okV2G (sc := ?sc) (bd := ?bd) (m := m__is_step) T.F__is_step sc__is_step ?h1 ?h2 ?hb
  case h1 => conv => lhs; whnf
  case h2 => conv => lhs; whnf
  case hb => exact fun cdv A outer s H E hgd hr => (by exact
    (dsOne (dRet (dAnd (dGIn T.kn_GOES T.g_GOES (dCallVG hgd (ok_word_of T) (hr.mono (by decide)) T.g_word_of T.F_word_of.kp T.b_word_of (takes_of rfl rfl rfl rfl) (dCons (dv 0) dNil))) (dOne (dCallVG hgd (ok__are_whole T) (hr.mono (by decide)) T.g__are_whole T.F__are_whole.kp T.b__are_whole (takes_of rfl rfl rfl rfl) (dCons (dSlL (pv 0) (dPart (dInt)) dNoPart) dNil)))))))
theorem ok__has_form (T : Tx K mg w) : FnG P w K mg base (L2.CX P w) 4 T.a__has_form T.fd__has_form ["thing"] (spV K 1 fn__has_form) := by
  have e : spV K 1 fn__has_form = spV K ["thing"].length (runV m__has_form N__has_form.length) := rfl
  rw [e]
  refine okV2G (sc := ?sc) (bd := ?bd) (m := m__has_form) T.F__has_form sc__has_form ?h1 ?h2 ?hb
  case h1 => conv => lhs; whnf
  case h2 => conv => lhs; whnf
  case hb => exact fun cdv A outer s H E hgd hr => (by exact
    (dsCons (dIfS ((dwOr (dtNot (dTru (dP (dIsi (T.z_isinstance) (T.z_tuple) i_tuple (dpk 0) b_tuple)))) (dwOr (dtCmp (op_neD hr.units) opD_ne (nomark _) (dB1 cr_len cd_len (T.z_len) b_len (dpk 0)) (dP (dInt))) (dwOr1 (dtNot (dTru (dP (dCallVG hgd (ok_is_whole T) (hr.mono (by decide)) T.g_is_whole T.F_is_whole.kp T.b_is_whole (takes_of rfl rfl rfl rfl) (dCons (dIxL (pv 0) (dP (dInt))) dNil)))))))).pt) (dsOne (dRet (dBl))) dsNil)
      (dsCons (dAsg (dv 0) (dgTup rfl (dgsCons (dgName (i := 1) sc__has_form.nd) (dgsCons (dgName (i := 2) sc__has_form.nd) (dgsCons (dgName (i := 3) sc__has_form.nd) dgsNil2)))))
      (dsCons (dIfS ((dwOr (dtNot (dTru (dP (dIsi (T.z_isinstance) (T.z_tuple) i_tuple (dpk 2) b_tuple)))) (dwOr1 (dtNot (dTru (dP (dB1 (cr_all rfl) cd_all (T.z_all) b_all (dP (dVal (m := C__has_form_0) (dCompN (own := [("step", 5)]) rfl sc__has_form.nd (diSeq (dv 2)) (blkOk_by (N := N__has_form) (sc := defScope s__has_form) (by decide +kernel)) (fun _ _ _ _ _ => pg_name (i := 5) sc__has_form.nd rfl (by first | exact Or.inl rfl | exact Or.inr rfl)) (fun _ _ _ _ _ => pts_nil) (fun _ _ _ _ _ => (dCallVG hgd (ok__is_step T) (hr.mono (by decide)) T.g__is_step T.F__is_step.kp T.b__is_step takes0 (dCons (dv 5) dNil))) (ctName (by decide)) (fun _ _ _ => tYes_of)))))))))).pt) (dsOne (dRet (dBl))) dsNil)
      (dsOne (dRet (dAnd (dIsi (T.z_isinstance) (T.z_tuple) i_tuple (dpk 3) b_tuple) (dOne (dB1 (cr_all rfl) cd_all (T.z_all) b_all (dP (dVal (m := C__has_form_1) (dCompN (own := [("row", 4)]) rfl sc__has_form.nd (diSeq (dv 3)) (blkOk_by (N := N__has_form) (sc := defScope s__has_form) (by decide +kernel)) (fun _ _ _ _ _ => pg_name (i := 4) sc__has_form.nd rfl (by first | exact Or.inl rfl | exact Or.inr rfl)) (fun _ _ _ _ _ => pts_nil) (fun _ _ _ _ _ => (dAnd (dIsi (T.z_isinstance) (T.z_tuple) i_tuple (dpk 4) b_tuple) (dOne (dCallVG hgd (ok__are_whole T) (hr.mono (by decide)) T.g__are_whole T.F__are_whole.kp T.b__are_whole takes0 (dCons (dv 4) dNil))))) (ctName (by decide)) (fun _ _ _ => tYes_of)))))))))))))
theorem ok__rises_right (T : Tx K mg w) : FnG P w K mg base (L2.CX P w) 2 T.a__rises_right T.fd__rises_right ["one", "other", "table", "costs"] (spV K 4 fn__rises_right) := by
  have e : spV K 4 fn__rises_right = spV K ["one", "other", "table", "costs"].length (runV m__rises_right N__rises_right.length) := rfl
  rw [e]
  refine okV2G (sc := ?sc) (bd := ?bd) (m := m__rises_right) T.F__rises_right sc__rises_right ?h1 ?h2 ?hb
  case h1 => conv => lhs; whnf
  case h2 => conv => lhs; whnf
  case hb => exact fun cdv A outer s H E hgd hr => (by exact
    (dsCons (dIfS ((dwOr (dtCmp (op_neD hr.units) opD_ne (nomark _) (dVal (m := C__rises_right_1) (dCompN (own := [("row", 6)]) rfl sc__rises_right.nd (diSeq (dv 2)) (blkOk_by (N := N__rises_right) (sc := defScope s__rises_right) (by decide +kernel)) (fun _ _ _ _ _ => pg_name (i := 6) sc__rises_right.nd rfl (by first | exact Or.inl rfl | exact Or.inr rfl)) (fun _ _ _ _ _ => pts_nil) (fun _ _ _ _ _ => (dB1 cr_len cd_len (T.z_len) b_len (dpk 6))) (ctName (by decide)) (fun _ _ _ => tYes_of))) (dP (dVal (m := C__rises_right_0) (dCompN (own := [("_", 7)]) rfl sc__rises_right.nd (diRng1 (T.z_range) (dCons (dOp or_addA opD_add (dB1 cr_len cd_len (T.z_len) b_len (dpk 0)) (dP (dInt))) dNil)) (blkOk_by (N := N__rises_right) (sc := defScope s__rises_right) (by decide +kernel)) (fun _ _ _ _ _ => pg_name (i := 7) sc__rises_right.nd rfl (by first | exact Or.inl rfl | exact Or.inr rfl)) (fun _ _ _ _ _ => pts_nil) (fun _ _ _ _ _ => (dOp or_addA opD_add (dB1 cr_len cd_len (T.z_len) b_len (dpk 1)) (dP (dInt)))) (ctName (by decide)) (fun _ _ _ => tYes_of))))) (dwOr1 (dtCmp (op_neD hr.units) opD_ne (nomark _) (dIx (dIxL (pv 2) (dP (dInt))) (dP (dInt))) (dP (dInt))))).pt) (dsOne (dRet (dBl))) dsNil)
      (dsCons (dFor (passes_of rfl) rfl (diRng1 (T.z_range) (dCons (dOp or_addA opD_add (dB1 cr_len cd_len (T.z_len) b_len (dpk 0)) (dP (dInt))) dNil)) (dgName (i := 4) sc__rises_right.nd) (mb := L__rises_right_1) (dsOne (dFor (passes_of rfl) rfl (diRng1 (T.z_range) (dCons (dOp or_addA opD_add (dB1 cr_len cd_len (T.z_len) b_len (dpk 1)) (dP (dInt))) dNil)) (dgName (i := 5) sc__rises_right.nd) (mb := L__rises_right_0) (dsOne (dIfS (dtNot (dTru (dP (dB1 (cr_all rfl) cd_all (T.z_all) b_all (dP (dVal (m := C__rises_right_2) (dCompN (own := [("step", 8)]) rfl sc__rises_right.nd (diSeq (dCallVG hgd (ok__steps_to T) (hr.mono (by decide)) T.g__steps_to T.F__steps_to.kp T.b__steps_to (takes_of rfl rfl rfl rfl) (dCons (dv 0) (dCons (dv 1) (dCons (dv 4) (dCons (dv 5) dNil)))))) (blkOk_by (N := N__rises_right) (sc := defScope s__rises_right) (by decide +kernel)) (fun _ _ _ _ _ => pg_name (i := 8) sc__rises_right.nd rfl (by first | exact Or.inl rfl | exact Or.inr rfl)) (fun _ _ _ _ _ => pts_nil) (fun _ _ _ _ _ => (dCmp op_le opD_le (nomark _) (dIx (dIxL (pv 2) (dpk 4)) (dpk 5)) (dP (dCallVG hgd (ok__behind T) (hr.mono (by decide)) T.g__behind T.F__behind.kp T.b__behind takes0 (dCons (dv 2) (dCons (dv 3) (dCons (dv 8) (dCons (dv 4) (dCons (dv 5) dNil))))))))) (ctName (by decide)) (fun _ _ _ => tYes_of)))))))) (dsOne (dRet (dBl))) dsNil)))))
      (dsOne (dRet (dBl))))))
theorem ok__go_through (T : Tx K mg w) : FnG P w K mg base (L2.CX P w) 2 T.a__go_through T.fd__go_through ["one", "other", "steps"] (spV K 3 fn__go_through) := by
  have e : spV K 3 fn__go_through = spV K ["one", "other", "steps"].length (runV m__go_through N__go_through.length) := rfl
  rw [e]
  refine okV2G (sc := ?sc) (bd := ?bd) (m := m__go_through) T.F__go_through sc__go_through ?h1 ?h2 ?hb
  case h1 => conv => lhs; whnf
  case h2 => conv => lhs; whnf
  case hb => exact fun cdv A outer s H E hgd hr => (by exact
    (dsCons (dSet (i := 3) sc__go_through.nd (dInt))
      (dsCons (dSet (i := 4) sc__go_through.nd (dInt))
      (dsCons (dFor (passes_of rfl) rfl (diSeq (dv 2)) (dgName (i := 5) sc__go_through.nd) (mb := L__go_through_0) (dsCons (dAsg (dGIx T.kt_GOES T.g_GOES (dIxL (pv 5) (dP (dInt)))) (dgTup rfl (dgsCons (dgName (i := 6) sc__go_through.nd) (dgsCons (dgName (i := 7) sc__go_through.nd) dgsNil2))))
      (dsCons (dAug (i := 3) sc__go_through.nd iop_add opD_addI (dv 6))
      (dsCons (dAug (i := 4) sc__go_through.nd iop_add opD_addI (dv 7))
      (dsOne (dIfS ((dwOr (dtCmpL op_gt opD_gt (nomark _) (pv 3) (dP (dB1 cr_len cd_len (T.z_len) b_len (dpk 0)))) (dwOr (dtCmpL op_gt opD_gt (nomark _) (pv 4) (dP (dB1 cr_len cd_len (T.z_len) b_len (dpk 1)))) (dwOr1 (dtCmpL (op_notInG hr.units) (opD_inG true) (by rfl) (pv 5) (dP (dCallVG hgd (ok__steps_to T) (hr.mono (by decide)) T.g__steps_to T.F__steps_to.kp T.b__steps_to (takes_of rfl rfl rfl rfl) (dCons (dv 0) (dCons (dv 1) (dCons (dv 3) (dCons (dv 4) dNil)))))))))).pt) (dsOne (dRet (dBl))) dsNil))))))
      (dsOne (dRet (dAnd (dCmpL (op_eqD hr.units) opD_eq (nomark _) (pv 3) (dP (dB1 cr_len cd_len (T.z_len) b_len (dpk 0)))) (dOne (dCmpL (op_eqD hr.units) opD_eq (nomark _) (pv 4) (dP (dB1 cr_len cd_len (T.z_len) b_len (dpk 1))))))))))))
theorem ok_held_right (T : Tx K mg w) : FnG P w K mg base (L2.CX P w) 5 T.a_held_right T.fd_held_right ["one", "other", "some", "unlike", "lack", "more"] (spV K 6 fn_held_right) := by
  have e : spV K 6 fn_held_right = spV K ["one", "other", "some", "unlike", "lack", "more"].length (runV m_held_right N_held_right.length) := rfl
  rw [e]
  refine okV2G (sc := ?sc) (bd := ?bd) (m := m_held_right) T.F_held_right sc_held_right ?h1 ?h2 ?hb
  case h1 => conv => lhs; whnf
  case h2 => conv => lhs; whnf
  case hb => exact fun cdv A outer s H E hgd hr => (by exact
    (dsCons (dSet (i := 6) sc_held_right.nd (dDisp (pdCons (k := "same") pe_str (dInt) (pdCons (k := "unlike") pe_str (dv 3) (pdCons (k := "lack") pe_str (dv 4) (pdCons (k := "more") pe_str (dv 5) pdNil))))))
      (dsCons (dIfS (dtNot (dTru (dP (dCallVG hgd (ok__has_form T) (hr.mono (by decide)) T.g__has_form T.F__has_form.kp T.b__has_form (takes_of rfl rfl rfl rfl) (dCons (dv 2) dNil))))) (dsOne (dRet (dBl))) dsNil)
      (dsCons (dAsg (dv 2) (dgTup rfl (dgsCons (dgName (i := 7) sc_held_right.nd) (dgsCons (dgName (i := 8) sc_held_right.nd) (dgsCons (dgName (i := 9) sc_held_right.nd) dgsNil2)))))
      (dsCons (dIfS ((dwOr (dtNot (dTru (dP (dCallVG hgd (ok__go_through T) (hr.mono (by decide)) T.g__go_through T.F__go_through.kp T.b__go_through (takes_of rfl rfl rfl rfl) (dCons (dv 0) (dCons (dv 1) (dCons (dv 8) dNil))))))) (dwOr1 (dtCmpL (op_neD hr.units) opD_ne (nomark _) (pv 7) (dP (dB1 (cr_sum rfl) cd_sum (T.z_sum) b_sum (dP (dVal (m := C_held_right_0) (dCompN (own := [("step", 10)]) rfl sc_held_right.nd (diSeq (dv 8)) (blkOk_by (N := N_held_right) (sc := defScope s_held_right) (by decide +kernel)) (fun _ _ _ _ _ => pg_name (i := 10) sc_held_right.nd rfl (by first | exact Or.inl rfl | exact Or.inr rfl)) (fun _ _ _ _ _ => pts_nil) (fun _ _ _ _ _ => (dDGet (hu_of hr) (dv 6) (dIxL (pv 10) (dP (dInt))))) (ctName (by decide)) (fun _ _ _ => tYes_of))))))))).pt) (dsOne (dRet (dBl))) dsNil)
      (dsOne (dRet (dAnd (dCallVG hgd (ok__rises_right T) (hr.mono (by decide)) T.g__rises_right T.F__rises_right.kp T.b__rises_right (takes_of rfl rfl rfl rfl) (dCons (dv 0) (dCons (dv 1) (dCons (dv 9) (dCons (dv 6) dNil))))) (dOne (dCmp (op_eqD hr.units) opD_eq (nomark _) (dIx (dIxL (pv 9) (dP (dNeg (dInt)))) (dP (dNeg (dInt)))) (dpk 7)))))))))))
theorem ok__law_box (T : Tx K mg w) : FnG P w K mg base (L2.CX P w) 1 T.a__law_box T.fd__law_box ["_law_script", "_law_k"] (spS K 2 fn__law_box) := by
  have e : spS K 2 fn__law_box = spS K ["_law_script", "_law_k"].length (runS m__law_box N__law_box.length) := rfl
  rw [e]
  refine okS2G (sc := ?sc) (bd := ?bd) (m := m__law_box) T.F__law_box sc__law_box ?h1 ?h2 ?hb
  case h1 => conv => lhs; whnf
  case h2 => conv => lhs; whnf
  case hb => exact fun cdv A outer s H E hgd hr => (by exact
    (dsCons (dSet (i := 2) sc__law_box.nd (dOp or_addA opD_add (dOp or_mulA opD_mul (dInt) (dpk 1)) (dP (dInt))))
      (dsCons (dIfS (dtCmpL op_lt opD_lt (nomark _) (pv 1) (dP (dScrLen (T.z_len) (pv 0)))) (dsOne (dSet (i := 2) sc__law_box.nd (dScrIx (pv 0) (dv 1)))) (dsOne (dIfS (dtCmp op_gt opD_gt (nomark _) (dScrLen (T.z_len) (pv 0)) (dP (dInt))) (dsOne (dSet (i := 2) sc__law_box.nd (dOpL or_addA opD_add (pv 2) (dP (dOp or_mulA opD_mul (dOp op_mod opD_mod (dTy1 call_int1 cd_int (T.z_int) b_int (dP (dScrIx (pv 0) (dOp op_mod opD_mod (dTy1 call_int1 cd_int (T.z_int) b_int (dpk 1)) (dP (dScrLen (T.z_len) (pv 0))))))) (dP (dInt))) (dP (dInt))))))) dsNil)))
      (dsCons (dSet (i := 3) sc__law_box.nd (dOp or_addA opD_add (dOp op_mod opD_mod (dOp or_addA opD_add (dOp or_mulA opD_mul (dOp op_mod opD_mod (dTy1 call_int1 cd_int (T.z_int) b_int (dpk 2)) (dP (dInt))) (dP (dInt))) (dP (dOp or_mulA opD_mul (dInt) (dpk 1)))) (dP (dInt))) (dP (dInt))))
      (dsOne (dRetF (dCons (dIx (dLst (dCons (dInt) (dCons (dv 2) dNil))) (dP (dTy1 call_int1 cd_int (T.z_int) b_int (dP (dCmpL op_ge opD_ge (nomark _) (pv 2) (dP (dOp op_pow opD_pow (dInt) (dP (dInt))))))))) (dCons (dv 3) (dCons (dInt) dNil)))))))))
theorem ok__law_take (T : Tx K mg w) : FnG P w K mg base (L2.CX P w) 1 T.a__law_take T.fd__law_take ["_law_box_here", "_law_many"] (spB K 2 fn__law_take) := by
  have e : spB K 2 fn__law_take = spB K ["_law_box_here", "_law_many"].length (runB m__law_take N__law_take.length) := rfl
  rw [e]
  refine okB2G (sc := ?sc) (bd := ?bd) (m := m__law_take) T.F__law_take sc__law_take ?h1 ?h2 ?hb
  case h1 => conv => lhs; whnf
  case h2 => conv => lhs; whnf
  case hb => exact fun cdv A outer s H E hgd hr => (by exact
    (dsCons (dIfS (dtCmp op_gt opD_gt (nomark _) (dIxL (pv 0) (dP (dInt))) (dP (dInt))) (dsCons (dSet (i := 2) sc__law_take.nd (dOp op_mod opD_mod (dTy1 call_int1 cd_int (T.z_int) b_int (dP (dIxL (pv 0) (dP (dInt))))) (dpk 1)))
      (dsCons (dAsg (dOp op_fdivW opD_div (dIxL (pv 0) (dP (dInt))) (dpk 1)) (dgSet (pv 0) (dInt)))
      (dsOne (dRet (dv 2))))) dsNil)
      (dsCons (dAsg (dOp or_addA opD_add (dIxL (pv 0) (dP (dInt))) (dP (dInt))) (dgSet (pv 0) (dInt)))
      (dsCons (dSet (i := 3) sc__law_take.nd (dOp op_mod opD_mod (dTy1 call_int1 cd_int (T.z_int) b_int (dP (dOp or_mulA opD_mul (dOp or_addA opD_add (dIxL (pv 0) (dP (dInt))) (dP (dOp or_mulA opD_mul (dInt) (dP (dIxL (pv 0) (dP (dInt))))))) (dP (dInt))))) (dP (dInt))))
      (dsCons (dAsg (dOp or_addA opD_add (dOp op_mod opD_mod (dOp or_addA opD_add (dOpL or_mulA opD_mul (pv 3) (dP (dInt))) (dP (dInt))) (dP (dInt))) (dP (dInt))) (dgSet (pv 0) (dInt)))
      (dsOne (dRet (dOp op_mod opD_mod (dOp op_fdivW opD_div (dOp or_addA opD_add (dOpL or_mulA opD_mul (pv 3) (dP (dInt))) (dP (dIxL (pv 0) (dP (dInt))))) (dP (dInt))) (dpk 1)))))))))
theorem ok__law_pool (T : Tx K mg w) : FnG P w K mg base (L2.CX P w) 2 T.a__law_pool T.fd__law_pool ["_law_box_here"] (spB K 1 fn__law_pool) := by
  have e : spB K 1 fn__law_pool = spB K ["_law_box_here"].length (runB m__law_pool N__law_pool.length) := rfl
  rw [e]
  refine okB2G (sc := ?sc) (bd := ?bd) (m := m__law_pool) T.F__law_pool sc__law_pool ?h1 ?h2 ?hb
  case h1 => conv => lhs; whnf
  case h2 => conv => lhs; whnf
  case hb => exact fun cdv A outer s H E hgd hr => (by exact
    (dsCons (dSet (i := 1) sc__law_pool.nd (dIx (dLst (dCons (dInt) (dCons (dInt) (dCons (dInt) (dCons (dOp or_addA opD_add (dOp op_pow opD_pow (dInt) (dP (dInt))) (dP (dInt))) dNil))))) (dP (dCallBG hgd (ok__law_take T) (hr.mono (by decide)) T.g__law_take T.F__law_take.kp T.b__law_take (takes_of rfl rfl rfl rfl) (pv 0) (dCons (dInt) dNil)))))
      (dsCons (dsCompN (i := 2) (own := [("_law_turn", 4)]) rfl sc__law_pool.nd (sw_true rfl rfl rfl (by decide +kernel)) (diRng1 (T.z_range) (dCons (dOp or_addA opD_add (dInt) (dP (dCallBG hgd (ok__law_take T) (hr.mono (by decide)) T.g__law_take T.F__law_take.kp T.b__law_take (takes_of rfl rfl rfl rfl) (pv 0) (dCons (dInt) dNil)))) dNil)) (blkOk_by (N := N__law_pool) (sc := defScope s__law_pool) (by decide +kernel)) (fun _ _ _ _ _ => pg_name (i := 4) sc__law_pool.nd rfl (by first | exact Or.inl rfl | exact Or.inr rfl)) (fun _ _ _ _ _ => pts_nil) (fun _ _ _ _ _ => (dCallBG hgd (ok__law_take T) (hr.mono (by decide)) T.g__law_take T.F__law_take.kp T.b__law_take takes0 (pv 0) (dCons (dv 1) dNil))) (ctName (by decide)) (fun _ _ _ => tYes_of))
      (dsCons (dsN (i := 3) sc__law_pool.nd (dLstN (dCons (dOp or_addA opD_add (dIxL (pv 2) (dP (dInt))) (dP (dInt))) (dCons (dOp or_mulA opD_mul (dIxL (pv 2) (dP (dInt))) (dP (dInt))) (dCons (dOp or_addA opD_add (dIxL (pv 2) (dP (dInt))) (dP (dInt))) (dCons (dOp or_addA opD_add (dIxL (pv 2) (dP (dInt))) (dP (dInt))) (dCons (dOp op_fdivW opD_div (dIxL (pv 2) (dP (dInt))) (dP (dInt))) dNil)))))))
      (dsOne (dRet (dOpL or_addA opD_add (pv 2) (dP (dLst (dCons (dBn (call_min2 rfl) cd_min2 (T.z_min) b_min (dCons (dOp op_pow opD_pow (dInt) (dP (dInt))) (dCons (dIxL (pv 3) (dP (dCallBG hgd (ok__law_take T) (hr.mono (by decide)) T.g__law_take T.F__law_take.kp T.b__law_take (takes_of rfl rfl rfl rfl) (pv 0) (dCons (dInt) dNil)))) dNil))) dNil))))))))))
theorem ok__law_kind (T : Tx K mg w) : FnG P w K mg base (L2.CX P w) 2 T.a__law_kind T.fd__law_kind ["_law_box_here", "_law_row"] (spB K 2 fn__law_kind) := by
  have e : spB K 2 fn__law_kind = spB K ["_law_box_here", "_law_row"].length (runB m__law_kind N__law_kind.length) := rfl
  rw [e]
  refine okB2G (sc := ?sc) (bd := ?bd) (m := m__law_kind) T.F__law_kind sc__law_kind ?h1 ?h2 ?hb
  case h1 => conv => lhs; whnf
  case h2 => conv => lhs; whnf
  case hb => exact fun cdv A outer s H E hgd hr => (by exact
    (dsOne (dRet (dIx (dLst (dCons (dVal (dTyN1 call_list_of cn_list (T.z_list) b_list (dpk 1))) (dCons (dTy1 call_tuple_of cd_tuple (T.z_tuple) b_tuple (dpk 1)) dNil))) (dP (dCallBG hgd (ok__law_take T) (hr.mono (by decide)) T.g__law_take T.F__law_take.kp T.b__law_take (takes_of rfl rfl rfl rfl) (pv 0) (dCons (dInt) dNil)))))))
theorem ok__law_two_rows (T : Tx K mg w) : FnG P w K mg base (L2.CX P w) 3 T.a__law_two_rows T.fd__law_two_rows ["_law_box_here", "_law_k"] (spB K 2 fn__law_two_rows) := by
  have e : spB K 2 fn__law_two_rows = spB K ["_law_box_here", "_law_k"].length (runB m__law_two_rows N__law_two_rows.length) := rfl
  rw [e]
  refine okB2G (sc := ?sc) (bd := ?bd) (m := m__law_two_rows) T.F__law_two_rows sc__law_two_rows ?h1 ?h2 ?hb
  case h1 => conv => lhs; whnf
  case h2 => conv => lhs; whnf
  case hb => exact fun cdv A outer s H E hgd hr => (by exact
    (dsCons (dAsg (dTup (dCons (dCallBG hgd (ok__law_pool T) (hr.mono (by decide)) T.g__law_pool T.F__law_pool.kp T.b__law_pool (takes_of rfl rfl rfl rfl) (pv 0) dNil) (dCons (dIx (dLst (dCons (dInt) (dCons (dIx (dLst (dCons (dInt) (dCons (dInt) dNil))) (dP (dCallBG hgd (ok__law_take T) (hr.mono (by decide)) T.g__law_take T.F__law_take.kp T.b__law_take (takes_of rfl rfl rfl rfl) (pv 0) (dCons (dInt) dNil)))) dNil))) (dP (dTy1 call_int1 cd_int (T.z_int) b_int (dP (dAnd (dCmp (op_eqD hr.units) opD_eq (nomark _) (dCallBG hgd (ok__law_take T) (hr.mono (by decide)) T.g__law_take T.F__law_take.kp T.b__law_take (takes_of rfl rfl rfl rfl) (pv 0) (dCons (dInt) dNil)) (dP (dInt))) (dOne (dCmpL (op_eqD hr.units) opD_eq (nomark _) (pv 1) (dP (dInt))))))))) dNil))) (dgTup rfl (dgsCons (dgName (i := 2) sc__law_two_rows.nd) (dgsCons (dgName (i := 3) sc__law_two_rows.nd) dgsNil2))))
      (dsCons (dsCompN (i := 4) (own := [("_law_turn", 8)]) rfl sc__law_two_rows.nd (sw_true rfl rfl rfl (by decide +kernel)) (diRng1 (T.z_range) (dCons (dCallBG hgd (ok__law_take T) (hr.mono (by decide)) T.g__law_take T.F__law_take.kp T.b__law_take (takes_of rfl rfl rfl rfl) (pv 0) (dCons (dOpL or_addA opD_add (pv 3) (dP (dInt))) dNil)) dNil)) (blkOk_by (N := N__law_two_rows) (sc := defScope s__law_two_rows) (by decide +kernel)) (fun _ _ _ _ _ => pg_name (i := 8) sc__law_two_rows.nd rfl (by first | exact Or.inl rfl | exact Or.inr rfl)) (fun _ _ _ _ _ => pts_nil) (fun _ _ _ _ _ => (dIxL (pv 2) (dP (dCallBG hgd (ok__law_take T) (hr.mono (by decide)) T.g__law_take T.F__law_take.kp T.b__law_take takes0 (pv 0) (dCons (dB1 cr_len cd_len (T.z_len) b_len (dpk 2)) dNil))))) (ctName (by decide)) (fun _ _ _ => tYes_of))
      (dsCons (dIfS (dtCmp (op_eqD hr.units) opD_eq (nomark _) (dCallBG hgd (ok__law_take T) (hr.mono (by decide)) T.g__law_take T.F__law_take.kp T.b__law_take (takes_of rfl rfl rfl rfl) (pv 0) (dCons (dInt) dNil)) (dP (dInt))) (dsOne (dRet (dTup (dCons (dv 4) (dCons (dVal (m := C__law_two_rows_1) (dCompN (own := [("_law_turn", 8)]) rfl sc__law_two_rows.nd (diRng1 (T.z_range) (dCons (dCallBG hgd (ok__law_take T) (hr.mono (by decide)) T.g__law_take T.F__law_take.kp T.b__law_take (takes_of rfl rfl rfl rfl) (pv 0) (dCons (dOpL or_addA opD_add (pv 3) (dP (dInt))) dNil)) dNil)) (blkOk_by (N := N__law_two_rows) (sc := defScope s__law_two_rows) (by decide +kernel)) (fun _ _ _ _ _ => pg_name (i := 8) sc__law_two_rows.nd rfl (by first | exact Or.inl rfl | exact Or.inr rfl)) (fun _ _ _ _ _ => pts_nil) (fun _ _ _ _ _ => (dIxL (pv 2) (dP (dCallBG hgd (ok__law_take T) (hr.mono (by decide)) T.g__law_take T.F__law_take.kp T.b__law_take takes0 (pv 0) (dCons (dB1 cr_len cd_len (T.z_len) b_len (dpk 2)) dNil))))) (ctName (by decide)) (fun _ _ _ => tYes_of))) dNil))))) dsNil)
      (dsCons (dsN (i := 5) sc__law_two_rows.nd (dLstN dNil))
      (dsCons (dFor (passes_of rfl) rfl (diSeq (dv 4)) (dgName (i := 6) sc__law_two_rows.nd) (mb := L__law_two_rows_0) (dsCons (dSet (i := 7) sc__law_two_rows.nd (dCallBG hgd (ok__law_take T) (hr.mono (by decide)) T.g__law_take T.F__law_take.kp T.b__law_take (takes_of rfl rfl rfl rfl) (pv 0) (dCons (dInt) dNil)))
      (dsCons (dIfS (dtCmpL op_gt opD_gt (nomark _) (pv 7) (dP (dInt))) (dsOne (dExpr (PE.imp (pe_bm PySem.F.plainAttrs_list PySem.F.slot_list_append PySem.F.type_list_append mt_append (pv 5) (dCons (dIx (dLst (dCons (dv 6) (dCons (dIxL (pv 2) (dP (dCallBG hgd (ok__law_take T) (hr.mono (by decide)) T.g__law_take T.F__law_take.kp T.b__law_take (takes_of rfl rfl rfl rfl) (pv 0) (dCons (dB1 cr_len cd_len (T.z_len) b_len (dpk 2)) dNil)))) dNil))) (dP (dTy1 call_int1 cd_int (T.z_int) b_int (dP (dCmpL (op_eqD hr.units) opD_eq (nomark _) (pv 7) (dP (dInt))))))) dNil)) (fun _ _ _ => mut_of mut_app)))) dsNil)
      (dsOne (dIfS (dtCmpL (op_eqD hr.units) opD_eq (nomark _) (pv 7) (dP (dInt))) (dsOne (dExpr (PE.imp (pe_bm PySem.F.plainAttrs_list PySem.F.slot_list_append PySem.F.type_list_append mt_append (pv 5) (dCons (dIxL (pv 2) (dP (dCallBG hgd (ok__law_take T) (hr.mono (by decide)) T.g__law_take T.F__law_take.kp T.b__law_take (takes_of rfl rfl rfl rfl) (pv 0) (dCons (dB1 cr_len cd_len (T.z_len) b_len (dpk 2)) dNil)))) dNil)) (fun _ _ _ => mut_of mut_app)))) dsNil)))))
      (dsOne (dRet (dIx (dLst (dCons (dTup (dCons (dv 4) (dCons (dSlL (pv 5) dNoPart (dPart (dInt))) dNil))) (dCons (dTup (dCons (dSlL (pv 5) dNoPart (dPart (dInt))) (dCons (dv 4) dNil))) dNil))) (dP (dCallBG hgd (ok__law_take T) (hr.mono (by decide)) T.g__law_take T.F__law_take.kp T.b__law_take (takes_of rfl rfl rfl rfl) (pv 0) (dCons (dInt) dNil))))))))))))
theorem ok__law_cost (T : Tx K mg w) : FnG P w K mg base (L2.CX P w) 1 T.a__law_cost T.fd__law_cost ["_law_one", "_law_other", "_law_steps", "_law_costs"] (spV K 4 fn__law_cost) := by
  have e : spV K 4 fn__law_cost = spV K ["_law_one", "_law_other", "_law_steps", "_law_costs"].length (runV m__law_cost N__law_cost.length) := rfl
  rw [e]
  refine okV2G (sc := ?sc) (bd := ?bd) (m := m__law_cost) T.F__law_cost sc__law_cost ?h1 ?h2 ?hb
  case h1 => conv => lhs; whnf
  case h2 => conv => lhs; whnf
  case hb => exact fun cdv A outer s H E hgd hr => (by exact
    (dsCons (dAsg (dTup (dCons (dInt) (dCons (dInt) (dCons (dInt) dNil)))) (dgTup rfl (dgsCons (dgName (i := 4) sc__law_cost.nd) (dgsCons (dgName (i := 5) sc__law_cost.nd) (dgsCons (dgName (i := 6) sc__law_cost.nd) dgsNil2)))))
      (dsCons (dFor (passes_of rfl) rfl (diSeq (dv 2)) (dgName (i := 7) sc__law_cost.nd) (mb := L__law_cost_0) (dsOne (dIfS ((dwAnd (dtCmpL (op_eqD hr.units) opD_eq (nomark _) (pv 7) (dP (dTup (dCons (dStr) (dCons (dv 4) dNil))))) (dwAnd1 (dtCmpL op_lt opD_lt (nomark _) (pv 4) (dP (dB1 cr_len cd_len (T.z_len) b_len (dpk 0)))))).pt) (dsOne (dParEE (i := 4) (j := 6) rfl sc__law_cost.nd (by decide) (dOpL or_addA opD_add (pv 4) (dP (dInt))) (dOpL or_addA opD_add (pv 6) (dP (dIxL (pv 3) (dP (dInt))))))) (dsOne (dIfS ((dwAnd (dtCmpL (op_eqD hr.units) opD_eq (nomark _) (pv 7) (dP (dTup (dCons (dStr) (dCons (dv 5) dNil))))) (dwAnd1 (dtCmpL op_lt opD_lt (nomark _) (pv 5) (dP (dB1 cr_len cd_len (T.z_len) b_len (dpk 1)))))).pt) (dsOne (dParEE (i := 5) (j := 6) rfl sc__law_cost.nd (by decide) (dOpL or_addA opD_add (pv 5) (dP (dInt))) (dOpL or_addA opD_add (pv 6) (dP (dIxL (pv 3) (dP (dInt))))))) (dsOne (dIfS ((dwAnd (dtCmpL op_lt opD_lt (nomark _) (pv 4) (dP (dB1 cr_len cd_len (T.z_len) b_len (dpk 0)))) (dwAnd (dtCmpL op_lt opD_lt (nomark _) (pv 5) (dP (dB1 cr_len cd_len (T.z_len) b_len (dpk 1)))) (dwAnd1 (dtCmpL (op_eqD hr.units) opD_eq (nomark _) (pv 7) (dP (dTup (dCons (dIx (dLst (dCons (dStr) (dCons (dStr) dNil))) (dP (dTy1 call_int1 cd_int (T.z_int) b_int (dP (dCmp (op_eqD hr.units) opD_eq (nomark _) (dIxL (pv 0) (dpk 4)) (dP (dIxL (pv 1) (dpk 5)))))))) (dCons (dv 4) (dCons (dv 5) dNil))))))))).pt) (dsCons (dSet (i := 6) sc__law_cost.nd (dOpL or_addA opD_add (pv 6) (dP (dOp or_mulA opD_mul (dIxL (pv 3) (dP (dInt))) (dP (dTy1 call_int1 cd_int (T.z_int) b_int (dP (dCmp (op_neD hr.units) opD_ne (nomark _) (dIxL (pv 0) (dpk 4)) (dP (dIxL (pv 1) (dpk 5)))))))))))
      (dsOne (dParEE (i := 4) (j := 5) rfl sc__law_cost.nd (by decide) (dOpL or_addA opD_add (pv 4) (dP (dInt))) (dOpL or_addA opD_add (pv 5) (dP (dInt)))))) (dsOne (dRet (dNon))))))))))
      (dsOne (dRet (dIf (dtCmp (op_eqD hr.units) opD_eq (nomark _) (dTup (dCons (dv 4) (dCons (dv 5) dNil))) (dP (dTup (dCons (dB1 cr_len cd_len (T.z_len) b_len (dpk 0)) (dCons (dB1 cr_len cd_len (T.z_len) b_len (dpk 1)) dNil))))) (dv 6) (dNon)))))))
theorem ok__law_table_right (T : Tx K mg w) : FnG P w K mg base (L2.CX P w) 1 T.a__law_table_right T.fd__law_table_right ["_law_one", "_law_other", "_law_rows", "_law_cost_here", "_law_costs"] (spV K 5 fn__law_table_right) := by
  have e : spV K 5 fn__law_table_right = spV K ["_law_one", "_law_other", "_law_rows", "_law_cost_here", "_law_costs"].length (runV m__law_table_right N__law_table_right.length) := rfl
  rw [e]
  refine okV2G (sc := ?sc) (bd := ?bd) (m := m__law_table_right) T.F__law_table_right sc__law_table_right ?h1 ?h2 ?hb
  case h1 => conv => lhs; whnf
  case h2 => conv => lhs; whnf
  case hb => exact fun cdv A outer s H E hgd hr => (by exact
    (dsCons (dSet (i := 5) sc__law_table_right.nd (dOp or_addA opD_add (dB1 cr_len cd_len (T.z_len) b_len (dpk 1)) (dP (dInt))))
      (dsCons (dIfS ((dwOr (dtNot (dTru (dP (dIsi (T.z_isinstance) (T.z_tuple) i_tuple (dpk 2) b_tuple)))) (dwOr1 (dtNot (dTru (dP (dB1 (cr_all rfl) cd_all (T.z_all) b_all (dP (dVal (m := C__law_table_right_0) (dCompN (own := [("_law_row", 9)]) rfl sc__law_table_right.nd (diSeq (dv 2)) (blkOk_by (N := N__law_table_right) (sc := defScope s__law_table_right) (by decide +kernel)) (fun _ _ _ _ _ => pg_name (i := 9) sc__law_table_right.nd rfl (by first | exact Or.inl rfl | exact Or.inr rfl)) (fun _ _ _ _ _ => pts_nil) (fun _ _ _ _ _ => (dIsi (T.z_isinstance) (T.z_tuple) i_tuple (dpk 9) b_tuple)) (ctName (by decide)) (fun _ _ _ => tYes_of)))))))))).pt) (dsOne (dRet (dBl))) dsNil)
      (dsCons (dIfS (dtCmp (op_neD hr.units) opD_ne (nomark _) (dVal (m := C__law_table_right_1) (dCompN (own := [("_law_row", 9)]) rfl sc__law_table_right.nd (diSeq (dv 2)) (blkOk_by (N := N__law_table_right) (sc := defScope s__law_table_right) (by decide +kernel)) (fun _ _ _ _ _ => pg_name (i := 9) sc__law_table_right.nd rfl (by first | exact Or.inl rfl | exact Or.inr rfl)) (fun _ _ _ _ _ => pts_nil) (fun _ _ _ _ _ => (dB1 cr_len cd_len (T.z_len) b_len (dpk 9))) (ctName (by decide)) (fun _ _ _ => tYes_of))) (dP (dVal (dRepN (dCons (dv 5) dNil) (dOp or_addA opD_add (dB1 cr_len cd_len (T.z_len) b_len (dpk 0)) (dP (dInt))))))) (dsOne (dRet (dBl))) dsNil)
      (dsCons (dIfS ((dwOr (dtCmp (op_neD hr.units) opD_ne (nomark _) (dIx (dIxL (pv 2) (dP (dInt))) (dP (dInt))) (dP (dInt))) (dwOr1 (dtCmp (op_neD hr.units) opD_ne (nomark _) (dIx (dIxL (pv 2) (dP (dNeg (dInt)))) (dP (dNeg (dInt)))) (dpk 3)))).pt) (dsOne (dRet (dBl))) dsNil)
      (dsCons (dFor (passes_of rfl) rfl (diRng1 (T.z_range) (dCons (dOp or_addA opD_add (dB1 cr_len cd_len (T.z_len) b_len (dpk 0)) (dP (dInt))) dNil)) (dgName (i := 6) sc__law_table_right.nd) (mb := L__law_table_right_1) (dsOne (dFor (passes_of rfl) rfl (diRng1 (T.z_range) (dCons (dv 5) dNil)) (dgName (i := 7) sc__law_table_right.nd) (mb := L__law_table_right_0) (dsCons (dIfS ((dwAnd (dtCmpL op_lt opD_lt (nomark _) (pv 6) (dP (dB1 cr_len cd_len (T.z_len) b_len (dpk 0)))) (dwAnd1 (dtCmp op_gt opD_gt (nomark _) (dIx (dIxL (pv 2) (dP (dOpL or_addA opD_add (pv 6) (dP (dInt))))) (dpk 7)) (dP (dOp or_addA opD_add (dIx (dIxL (pv 2) (dpk 6)) (dpk 7)) (dP (dIxL (pv 4) (dP (dInt))))))))).pt) (dsOne (dRet (dBl))) dsNil)
      (dsCons (dIfS ((dwAnd (dtCmpL op_lt opD_lt (nomark _) (pv 7) (dP (dB1 cr_len cd_len (T.z_len) b_len (dpk 1)))) (dwAnd1 (dtCmp op_gt opD_gt (nomark _) (dIx (dIxL (pv 2) (dpk 6)) (dP (dOpL or_addA opD_add (pv 7) (dP (dInt))))) (dP (dOp or_addA opD_add (dIx (dIxL (pv 2) (dpk 6)) (dpk 7)) (dP (dIxL (pv 4) (dP (dInt))))))))).pt) (dsOne (dRet (dBl))) dsNil)
      (dsOne (dIfS ((dwAnd (dtCmpL op_lt opD_lt (nomark _) (pv 6) (dP (dB1 cr_len cd_len (T.z_len) b_len (dpk 0)))) (dwAnd1 (dtCmpL op_lt opD_lt (nomark _) (pv 7) (dP (dB1 cr_len cd_len (T.z_len) b_len (dpk 1)))))).pt) (dsCons (dSet (i := 8) sc__law_table_right.nd (dOp or_mulA opD_mul (dIxL (pv 4) (dP (dInt))) (dP (dTy1 call_int1 cd_int (T.z_int) b_int (dP (dCmp (op_neD hr.units) opD_ne (nomark _) (dIxL (pv 0) (dpk 6)) (dP (dIxL (pv 1) (dpk 7)))))))))
      (dsOne (dIfS (dtCmp op_gt opD_gt (nomark _) (dIx (dIxL (pv 2) (dP (dOpL or_addA opD_add (pv 6) (dP (dInt))))) (dP (dOpL or_addA opD_add (pv 7) (dP (dInt))))) (dP (dOp or_addA opD_add (dIx (dIxL (pv 2) (dpk 6)) (dpk 7)) (dpk 8)))) (dsOne (dRet (dBl))) dsNil))) dsNil)))))))
      (dsOne (dRet (dBl)))))))))
theorem ok__law_due (T : Tx K mg w) : FnG P w K mg base (L2.CX P w) 2 T.a__law_due T.fd__law_due ["_law_one", "_law_other", "_law_told", "_law_costs"] (spV K 4 fn__law_due) := by
  have e : spV K 4 fn__law_due = spV K ["_law_one", "_law_other", "_law_told", "_law_costs"].length (runV m__law_due N__law_due.length) := rfl
  rw [e]
  refine okV2G (sc := ?sc) (bd := ?bd) (m := m__law_due) T.F__law_due sc__law_due ?h1 ?h2 ?hb
  case h1 => conv => lhs; whnf
  case h2 => conv => lhs; whnf
  case hb => exact fun cdv A outer s H E hgd hr => (by exact
    (dsCons (dAsg (dv 2) (dgTup rfl (dgsCons (dgName (i := 4) sc__law_due.nd) (dgsCons (dgName (i := 5) sc__law_due.nd) (dgsCons (dgName (i := 6) sc__law_due.nd) dgsNil2)))))
      (dsOne (dRet (dAnd (dCmp (op_eqD hr.units) opD_eq (nomark _) (dCallVG hgd (ok__law_cost T) (hr.mono (by decide)) T.g__law_cost T.F__law_cost.kp T.b__law_cost (takes_of rfl rfl rfl rfl) (dCons (dv 0) (dCons (dv 1) (dCons (dv 5) (dCons (dv 3) dNil))))) (dpk 4)) (dOne (dCallVG hgd (ok__law_table_right T) (hr.mono (by decide)) T.g__law_table_right T.F__law_table_right.kp T.b__law_table_right (takes_of rfl rfl rfl rfl) (dCons (dv 0) (dCons (dv 1) (dCons (dv 6) (dCons (dv 4) (dCons (dv 3) dNil))))))))))))
theorem ok__law_odd_steps (T : Tx K mg w) : FnG P w K mg base (L2.CX P w) 2 T.a__law_odd_steps T.fd__law_odd_steps ["_law_box_here", "_law_steps"] (spB K 2 fn__law_odd_steps) := by
  have e : spB K 2 fn__law_odd_steps = spB K ["_law_box_here", "_law_steps"].length (runB m__law_odd_steps N__law_odd_steps.length) := rfl
  rw [e]
  refine okB2G (sc := ?sc) (bd := ?bd) (m := m__law_odd_steps) T.F__law_odd_steps sc__law_odd_steps ?h1 ?h2 ?hb
  case h1 => conv => lhs; whnf
  case h2 => conv => lhs; whnf
  case hb => exact fun cdv A outer s H E hgd hr => (by exact
    (dsCons (dParEE (i := 2) (j := 3) rfl sc__law_odd_steps.nd (by decide) (dCallBG hgd (ok__law_take T) (hr.mono (by decide)) T.g__law_take T.F__law_take.kp T.b__law_take (takes_of rfl rfl rfl rfl) (pv 0) (dCons (dInt) dNil)) (dCallBG hgd (ok__law_take T) (hr.mono (by decide)) T.g__law_take T.F__law_take.kp T.b__law_take (takes_of rfl rfl rfl rfl) (pv 0) (dCons (dBn (call_max2 rfl) cd_max2 (T.z_max) b_max (dCons (dInt) (dCons (dB1 cr_len cd_len (T.z_len) b_len (dpk 1)) dNil))) dNil)))
      (dsCons (dIfS ((dwOr (dtCmp (op_eqD hr.units) opD_eq (nomark _) (dB1 cr_len cd_len (T.z_len) b_len (dpk 1)) (dP (dInt))) (dwOr1 (dtCmpL (op_eqD hr.units) opD_eq (nomark _) (pv 2) (dP (dInt))))).pt) (dsCons (dsN (i := 4) sc__law_odd_steps.nd (dLstN (dCons (dTup (dCons (dStr) (dCons (dInt) dNil))) (dCons (dTup (dCons (dStr) (dCons (dInt) dNil))) (dCons (dTup (dCons (dStr) (dCons (dInt) (dCons (dInt) dNil)))) (dCons (dTup (dCons (dStr) (dCons (dInt) (dCons (dInt) dNil)))) (dCons (dTup (dCons (dStr) (dCons (dInt) (dCons (dInt) dNil)))) (dCons (dTup (dCons (dStr) (dCons (dInt) dNil))) dNil))))))))
      (dsOne (dRet (dOpL or_addB opD_addA (pv 1) (dP (dTup (dCons (dIxL (pv 4) (dP (dCallBG hgd (ok__law_take T) (hr.mono (by decide)) T.g__law_take T.F__law_take.kp T.b__law_take (takes_of rfl rfl rfl rfl) (pv 0) (dCons (dInt) dNil)))) dNil))))))) dsNil)
      (dsCons (dIfS (dtCmpL (op_eqD hr.units) opD_eq (nomark _) (pv 2) (dP (dInt))) (dsOne (dRet (dOp or_addB opD_addA (dSlL (pv 1) dNoPart (dPart (dv 3))) (dP (dSlL (pv 1) (dPart (dOpL or_addB opD_addA (pv 3) (dP (dInt)))) dNoPart))))) dsNil)
      (dsCons (dIfS (dtCmpL (op_eqD hr.units) opD_eq (nomark _) (pv 2) (dP (dInt))) (dsOne (dRet (dOp or_addB opD_addA (dOp or_addB opD_addA (dSlL (pv 1) dNoPart (dPart (dv 3))) (dP (dTup (dCons (dIxL (pv 1) (dpk 3)) dNil)))) (dP (dSlL (pv 1) (dPart (dv 3)) dNoPart))))) dsNil)
      (dsCons (dIfS (dtCmpL (op_eqD hr.units) opD_eq (nomark _) (pv 2) (dP (dInt))) (dsCons (dSet (i := 5) sc__law_odd_steps.nd (dCallBG hgd (ok__law_take T) (hr.mono (by decide)) T.g__law_take T.F__law_take.kp T.b__law_take (takes_of rfl rfl rfl rfl) (pv 0) (dCons (dB1 cr_len cd_len (T.z_len) b_len (dpk 1)) dNil)))
      (dsCons (dsN (i := 6) sc__law_odd_steps.nd (dTyN1 call_list_of cn_list (T.z_list) b_list (dpk 1)))
      (dsCons (dAsg (dTup (dCons (dIxL (pv 1) (dpk 5)) (dCons (dIxL (pv 1) (dpk 3)) dNil))) (dgTup rfl (dgsCons (dgSet (pv 6) (dv 3)) (dgsCons (dgSet (pv 6) (dv 5)) dgsNil2))))
      (dsOne (dRet (dTy1 call_tuple_of cd_tuple (T.z_tuple) b_tuple (dpk 6))))))) dsNil)
      (dsCons (dsN (i := 7) sc__law_odd_steps.nd (dTyN1 call_list_of cn_list (T.z_list) b_list (dP (dIxL (pv 1) (dpk 3)))))
      (dsCons (dIfS (dtCmpL (op_eqD hr.units) opD_eq (nomark _) (pv 2) (dP (dInt))) (dsOne (dAsg (dIx (dLst (dCons (dStr) (dCons (dStr) (dCons (dStr) (dCons (dStr) (dCons (dStr) (dCons (dStr) dNil))))))) (dP (dCallBG hgd (ok__law_take T) (hr.mono (by decide)) T.g__law_take T.F__law_take.kp T.b__law_take (takes_of rfl rfl rfl rfl) (pv 0) (dCons (dInt) dNil)))) (dgSet (pv 7) (dInt)))) (dsCons (dSet (i := 8) sc__law_odd_steps.nd (dOp or_addB opD_addA (dInt) (dP (dCallBG hgd (ok__law_take T) (hr.mono (by decide)) T.g__law_take T.F__law_take.kp T.b__law_take (takes_of rfl rfl rfl rfl) (pv 0) (dCons (dOp op_sub opD_sub (dB1 cr_len cd_len (T.z_len) b_len (dpk 7)) (dP (dInt))) dNil)))))
      (dsOne (dAsg (dOp or_addB opD_addA (dIxL (pv 7) (dpk 8)) (dP (dIx (dLst (dCons (dInt) (dCons (dOp op_sub opD_sub (dInt) (dP (dInt))) (dCons (dInt) (dCons (dOp op_pow opD_pow (dInt) (dP (dInt))) dNil))))) (dP (dCallBG hgd (ok__law_take T) (hr.mono (by decide)) T.g__law_take T.F__law_take.kp T.b__law_take (takes_of rfl rfl rfl rfl) (pv 0) (dCons (dInt) dNil)))))) (dgSet (pv 7) (dv 8))))))
      (dsOne (dRet (dOp or_addB opD_addA (dOp or_addB opD_addA (dSlL (pv 1) dNoPart (dPart (dv 3))) (dP (dTup (dCons (dTy1 call_tuple_of cd_tuple (T.z_tuple) b_tuple (dpk 7)) dNil)))) (dP (dSlL (pv 1) (dPart (dOpL or_addB opD_addA (pv 3) (dP (dInt)))) dNoPart)))))))))))))
theorem ok__law_odd_rows (T : Tx K mg w) : FnG P w K mg base (L2.CX P w) 2 T.a__law_odd_rows T.fd__law_odd_rows ["_law_box_here", "_law_rows"] (spB K 2 fn__law_odd_rows) := by
  have e : spB K 2 fn__law_odd_rows = spB K ["_law_box_here", "_law_rows"].length (runB m__law_odd_rows N__law_odd_rows.length) := rfl
  rw [e]
  refine okB2G (sc := ?sc) (bd := ?bd) (m := m__law_odd_rows) T.F__law_odd_rows sc__law_odd_rows ?h1 ?h2 ?hb
  case h1 => conv => lhs; whnf
  case h2 => conv => lhs; whnf
  case hb => exact fun cdv A outer s H E hgd hr => (by exact
    (dsCons (dParEE (i := 2) (j := 3) rfl sc__law_odd_rows.nd (by decide) (dCallBG hgd (ok__law_take T) (hr.mono (by decide)) T.g__law_take T.F__law_take.kp T.b__law_take (takes_of rfl rfl rfl rfl) (pv 0) (dCons (dInt) dNil)) (dCallBG hgd (ok__law_take T) (hr.mono (by decide)) T.g__law_take T.F__law_take.kp T.b__law_take (takes_of rfl rfl rfl rfl) (pv 0) (dCons (dB1 cr_len cd_len (T.z_len) b_len (dpk 1)) dNil)))
      (dsCons (dIfS (dtCmpL (op_eqD hr.units) opD_eq (nomark _) (pv 2) (dP (dInt))) (dsOne (dRet (dOp or_addB opD_addA (dSlL (pv 1) dNoPart (dPart (dv 3))) (dP (dSlL (pv 1) (dPart (dOpL or_addB opD_addA (pv 3) (dP (dInt)))) dNoPart))))) dsNil)
      (dsCons (dIfS (dtCmpL (op_eqD hr.units) opD_eq (nomark _) (pv 2) (dP (dInt))) (dsOne (dRet (dOp or_addB opD_addA (dOp or_addB opD_addA (dSlL (pv 1) dNoPart (dPart (dv 3))) (dP (dTup (dCons (dIxL (pv 1) (dpk 3)) dNil)))) (dP (dSlL (pv 1) (dPart (dv 3)) dNoPart))))) dsNil)
      (dsCons (dAsg (dTup (dCons (dIxL (pv 1) (dpk 3)) (dCons (dCallBG hgd (ok__law_take T) (hr.mono (by decide)) T.g__law_take T.F__law_take.kp T.b__law_take (takes_of rfl rfl rfl rfl) (pv 0) (dCons (dOp or_addB opD_addA (dB1 cr_len cd_len (T.z_len) b_len (dP (dIxL (pv 1) (dpk 3)))) (dP (dInt))) dNil)) dNil))) (dgTup rfl (dgsCons (dgName (i := 4) sc__law_odd_rows.nd) (dgsCons (dgName (i := 5) sc__law_odd_rows.nd) dgsNil2))))
      (dsCons (dIfS (dtCmpL (op_eqD hr.units) opD_eq (nomark _) (pv 2) (dP (dInt))) (dsOne (dSet (i := 4) sc__law_odd_rows.nd (dOp or_addB opD_addA (dOp or_addB opD_addA (dSlL (pv 4) dNoPart (dPart (dv 5))) (dP (dTup (dCons (dCallBG hgd (ok__law_take T) (hr.mono (by decide)) T.g__law_take T.F__law_take.kp T.b__law_take (takes_of rfl rfl rfl rfl) (pv 0) (dCons (dInt) dNil)) dNil)))) (dP (dSlL (pv 4) (dPart (dv 5)) dNoPart))))) (dsOne (dIfS (dtCmpL (op_eqD hr.units) opD_eq (nomark _) (pv 2) (dP (dInt))) (dsOne (dSet (i := 4) sc__law_odd_rows.nd (dOp or_addB opD_addA (dSlL (pv 4) dNoPart (dPart (dv 5))) (dP (dSlL (pv 4) (dPart (dOpL or_addB opD_addA (pv 5) (dP (dInt)))) dNoPart))))) (dsOne (dSet (i := 4) sc__law_odd_rows.nd (dTy1 call_tuple_of cd_tuple (T.z_tuple) b_tuple (dP (dVal (m := C__law_odd_rows_0) (dCompN (own := [("_law_k", 6)]) rfl sc__law_odd_rows.nd (diRng1 (T.z_range) (dCons (dB1 cr_len cd_len (T.z_len) b_len (dpk 4)) dNil)) (blkOk_by (N := N__law_odd_rows) (sc := defScope s__law_odd_rows) (by decide +kernel)) (fun _ _ _ _ _ => pg_name (i := 6) sc__law_odd_rows.nd rfl (by first | exact Or.inl rfl | exact Or.inr rfl)) (fun _ _ _ _ _ => pts_nil) (fun _ _ _ _ _ => (dOp or_addB opD_addA (dIxL (pv 4) (dpk 6)) (dP (dOp or_mulA opD_mul (dTy1 call_int1 cd_int (T.z_int) b_int (dP (dCmpL (op_eqD hr.units) opD_eq (nomark _) (pv 6) (dpk 5)))) (dP (dIx (dLst (dCons (dInt) (dCons (dOp op_sub opD_sub (dInt) (dP (dInt))) (dCons (dOp op_sub opD_sub (dInt) (dP (dInt))) (dCons (dInt) dNil))))) (dP (dCallBG hgd (ok__law_take T) (hr.mono (by decide)) T.g__law_take T.F__law_take.kp T.b__law_take takes0 (pv 0) (dCons (dInt) dNil))))))))) (ctName (by decide)) (fun _ _ _ => tYes_of))))))))))
      (dsOne (dRet (dOp or_addB opD_addA (dOp or_addB opD_addA (dSlL (pv 1) dNoPart (dPart (dv 3))) (dP (dTup (dCons (dv 4) dNil)))) (dP (dSlL (pv 1) (dPart (dOpL or_addB opD_addA (pv 3) (dP (dInt)))) dNoPart)))))))))))
theorem ok__law_odd (T : Tx K mg w) : FnG P w K mg base (L2.CX P w) 3 T.a__law_odd T.fd__law_odd ["_law_box_here", "_law_told"] (spB K 2 fn__law_odd) := by
  have e : spB K 2 fn__law_odd = spB K ["_law_box_here", "_law_told"].length (runB m__law_odd N__law_odd.length) := rfl
  rw [e]
  refine okB2G (sc := ?sc) (bd := ?bd) (m := m__law_odd) T.F__law_odd sc__law_odd ?h1 ?h2 ?hb
  case h1 => conv => lhs; whnf
  case h2 => conv => lhs; whnf
  case hb => exact fun cdv A outer s H E hgd hr => (by exact
    (dsCons (dAsg (dv 1) (dgTup rfl (dgsCons (dgName (i := 2) sc__law_odd.nd) (dgsCons (dgName (i := 3) sc__law_odd.nd) (dgsCons (dgName (i := 4) sc__law_odd.nd) dgsNil2)))))
      (dsCons (dSet (i := 5) sc__law_odd.nd (dCallBG hgd (ok__law_take T) (hr.mono (by decide)) T.g__law_take T.F__law_take.kp T.b__law_take (takes_of rfl rfl rfl rfl) (pv 0) (dCons (dInt) dNil)))
      (dsCons (dIfS (dtCmpL (op_eqD hr.units) opD_eq (nomark _) (pv 5) (dP (dInt))) (dsOne (dRet (dTup (dCons (dOpL or_addA opD_add (pv 2) (dP (dIx (dLst (dCons (dInt) (dCons (dOp op_sub opD_sub (dInt) (dP (dInt))) (dCons (dInt) (dCons (dOp op_powW opD_powW (dInt) (dP (dInt))) (dCons (dOp op_sub opD_sub (dInt) (dP (dOp op_powW opD_powW (dOp op_powW opD_powW (dInt) (dP (dInt))) (dP (dInt))))) dNil)))))) (dP (dCallBG hgd (ok__law_take T) (hr.mono (by decide)) T.g__law_take T.F__law_take.kp T.b__law_take (takes_of rfl rfl rfl rfl) (pv 0) (dCons (dInt) dNil)))))) (dCons (dv 3) (dCons (dv 4) dNil)))))) dsNil)
      (dsCons (dIfS ((dwOr (dtCmpL op_lt opD_lt (nomark _) (pv 5) (dP (dInt))) (dwOr (dtCmp (op_eqD hr.units) opD_eq (nomark _) (dB1 cr_len cd_len (T.z_len) b_len (dpk 4)) (dP (dInt))) (dwOr1 (dtCmp (op_eqD hr.units) opD_eq (nomark _) (dB1 cr_len cd_len (T.z_len) b_len (dP (dIxL (pv 4) (dP (dInt))))) (dP (dInt)))))).pt) (dsOne (dRet (dTup (dCons (dv 2) (dCons (dCallBG hgd (ok__law_odd_steps T) (hr.mono (by decide)) T.g__law_odd_steps T.F__law_odd_steps.kp T.b__law_odd_steps (takes_of rfl rfl rfl rfl) (pv 0) (dCons (dv 3) dNil)) (dCons (dv 4) dNil)))))) dsNil)
      (dsOne (dRet (dTup (dCons (dv 2) (dCons (dv 3) (dCons (dCallBG hgd (ok__law_odd_rows T) (hr.mono (by decide)) T.g__law_odd_rows T.F__law_odd_rows.kp T.b__law_odd_rows (takes_of rfl rfl rfl rfl) (pv 0) (dCons (dv 4) dNil)) dNil)))))))))))
theorem ok_law (T : Tx K mg w) : LawFn P w K mg base T.a_law T.fd_law "_law_script" 6 fn_law := by
  have e : fn_law = runL m_law N_law.length := rfl
  rw [e]
  refine lawFn_of (sc := ?sc) (bd := ?bd) (m := m_law) T.F_law sc_law ?h1 ?h2 ?hb
  case h1 => conv => lhs; whnf
  case h2 => conv => lhs; whnf
  case hb => exact fun cdv s H E hr => (by
    have hgd : callerA.guards = some [] := rfl
    exact
    (dsCons (dFor (passes_of rfl) rfl (diRng1 (T.z_range) (dCons (dBn (call_max2 rfl) cd_max2 (T.z_max) b_max (dCons (dInt) (dCons (dBn (call_min2 rfl) cd_min2 (T.z_min) b_min (dCons (dInt) (dCons (dScrLen (T.z_len) (pv 0)) dNil))) dNil))) dNil)) (dgName (i := 1) sc_law.nd) (mb := L_law_3) (dsCons (dCallStG hgd (i := 2) (ok__law_box T) (hr.mono (by decide)) T.g__law_box T.F__law_box.kp T.b__law_box (takes_of rfl rfl rfl rfl) sc_law.nd (pv 0) (dCons (dv 1) dNil))
      (dsCons (dAsg (dCallBG hgd (ok__law_two_rows T) (hr.mono (by decide)) T.g__law_two_rows T.F__law_two_rows.kp T.b__law_two_rows (takes_of rfl rfl rfl rfl) (pv 2) (dCons (dv 1) dNil)) (dgTup rfl (dgsCons (dgName (i := 3) sc_law.nd) (dgsCons (dgName (i := 4) sc_law.nd) dgsNil2))))
      (dsCons (dSet (i := 5) sc_law.nd (dIx (dLst (dCons (dInt) (dCons (dInt) (dCons (dOp or_addA opD_add (dOp op_pow opD_pow (dInt) (dP (dInt))) (dP (dInt))) dNil)))) (dP (dCallBG hgd (ok__law_take T) (hr.mono (by decide)) T.g__law_take T.F__law_take.kp T.b__law_take (takes_of rfl rfl rfl rfl) (pv 2) (dCons (dInt) dNil)))))
      (dsCons (dSet (i := 6) sc_law.nd (dTy1 call_tuple_of cd_tuple (T.z_tuple) b_tuple (dP (dVal (m := C_law_0) (dCompN (own := [("_law_turn", 12)]) rfl sc_law.nd (diRng1 (T.z_range) (dCons (dInt) dNil)) (blkOk_by (N := N_law) (sc := defScope s_law) (by decide +kernel)) (fun _ _ _ _ _ => pg_name (i := 12) sc_law.nd rfl (by first | exact Or.inl rfl | exact Or.inr rfl)) (fun _ _ _ _ _ => pts_nil) (fun _ _ _ _ _ => (dCallBG hgd (ok__law_take T) (hr.mono (by decide)) T.g__law_take T.F__law_take.kp T.b__law_take takes0 (pv 2) (dCons (dv 5) dNil))) (ctName (by decide)) (fun _ _ _ => tYes_of))))))
      (dsCons (dAsg (dv 6) (dgTup rfl (dgsCons (dgName (i := 7) sc_law.nd) (dgsCons (dgName (i := 8) sc_law.nd) (dgsCons (dgName (i := 9) sc_law.nd) dgsNil2)))))
      (dsCons (dSet (i := 10) sc_law.nd (dCallKG (aV := []) (bV := []) hgd (ok_held T) (hr.mono (by decide)) T.g_held T.F_held.kp T.kb_held_0 (takes_of rfl rfl rfl rfl) (fun _ => .nil) (fun _ => .nil) (dCons (dv 3) (dCons (dv 4) dNil)) (dkCons (dv 7) (dkCons (dv 8) (dkCons (dv 9) dkNil)))))
      (dsCons (dsN (i := 11) sc_law.nd (dLstN (dCons (dv 10) (dCons (dCallKG (aV := []) (bV := [.int 1, .int 1, .int 1]) hgd (ok_held T) (hr.mono (by decide)) T.g_held T.F_held.kp T.kb_held_1 (takes_of rfl rfl rfl rfl) (fun _ => .nil) (fun _ => .cons (.int _) <| .cons (.int _) <| .cons (.int _) <| .nil) (dCons (dv 3) (dCons (dv 4) dNil)) dkNil) (dCons (dCallKG (aV := []) (bV := []) hgd (ok_held T) (hr.mono (by decide)) T.g_held T.F_held.kp T.kb_held_0 (takes_of rfl rfl rfl rfl) (fun _ => .nil) (fun _ => .nil) (dCons (dv 4) (dCons (dv 3) dNil)) (dkCons (dv 7) (dkCons (dv 8) (dkCons (dv 9) dkNil)))) dNil)))))
      (dsCons (dFor (passes_of rfl) rfl (diRng1 (T.z_range) (dCons (dInt) dNil)) (dgName (i := 12) sc_law.nd) (mb := L_law_1) (dsCons (dSet (i := 13) sc_law.nd (dv 10))
      (dsCons (dFor (passes_of rfl) rfl (diRng1 (T.z_range) (dCons (dOp or_addA opD_add (dInt) (dP (dCallBG hgd (ok__law_take T) (hr.mono (by decide)) T.g__law_take T.F__law_take.kp T.b__law_take (takes_of rfl rfl rfl rfl) (pv 2) (dCons (dInt) dNil)))) dNil)) (dgName (i := 14) sc_law.nd) (mb := L_law_0) (dsOne (dSet (i := 13) sc_law.nd (dCallBG hgd (ok__law_odd T) (hr.mono (by decide)) T.g__law_odd T.F__law_odd.kp T.b__law_odd (takes_of rfl rfl rfl rfl) (pv 2) (dCons (dv 13) dNil)))))
      (dsOne (dExpr (PE.imp (pe_bm PySem.F.plainAttrs_list PySem.F.slot_list_append PySem.F.type_list_append mt_append (pv 11) (dCons (dv 13) dNil)) (fun _ _ _ => mut_of mut_app)))))))
      (dsOne (dFor (passes_of rfl) rfl (diSeq (dOpL or_addA opD_add (pv 11) (dP (dLst (dCons (dv 10) dNil))))) (dgName (i := 13) sc_law.nd) (mb := L_law_2) (dsCons (dPar3 (i := 15) (j := 16) (l := 17) rfl sc_law.nd (by decide) (by decide) (by decide) (dCallVG hgd (ok__law_due T) (hr.mono (by decide)) T.g__law_due T.F__law_due.kp T.b__law_due (takes_of rfl rfl rfl rfl) (dCons (dv 3) (dCons (dv 4) (dCons (dv 13) (dCons (dv 6) dNil))))) (dCallBG hgd (ok__law_kind T) (hr.mono (by decide)) T.g__law_kind T.F__law_kind.kp T.b__law_kind (takes_of rfl rfl rfl rfl) (pv 2) (dCons (dv 3) dNil)) (dCallBG hgd (ok__law_kind T) (hr.mono (by decide)) T.g__law_kind T.F__law_kind.kp T.b__law_kind (takes_of rfl rfl rfl rfl) (pv 2) (dCons (dv 4) dNil)))
      (dsCons (dSet (i := 18) sc_law.nd (dB1 (cr_reprG hgd hr.units) cd_reprG (T.z_repr) b_repr (dP (dTup (dCons (dv 16) (dCons (dv 17) dNil))))))
      (dsCons (dIfS (dtCmp (op_neD hr.units) opD_ne (nomark _) (dB1 (cr_reprG hgd hr.units) cd_reprG (T.z_repr) b_repr (dP (dCallKG (aV := []) (bV := []) hgd (ok_held_right T) (hr.mono (by decide)) T.g_held_right T.F_held_right.kp T.kb_held_right_2 (takes_of rfl rfl rfl rfl) (fun _ => .nil) (fun _ => .nil) (dCons (dv 16) (dCons (dv 17) (dCons (dv 13) dNil))) (dkCons (dv 7) (dkCons (dv 8) (dkCons (dv 9) dkNil)))))) (dP (dB1 (cr_reprG hgd hr.units) cd_reprG (T.z_repr) b_repr (dpk 15)))) (dsOne (dRet (dBl))) dsNil)
      (dsOne (dIfS (dtCmp (op_neD hr.units) opD_ne (nomark _) (dB1 (cr_reprG hgd hr.units) cd_reprG (T.z_repr) b_repr (dP (dTup (dCons (dv 16) (dCons (dv 17) dNil))))) (dpk 18)) (dsOne (dRet (dBl))) dsNil))))))))))))))))
      (dsOne (dRet (dBl)))))
end
end Pf

namespace Ed
/-- what it costs to hold two numbers against one another -/
def cst (u : Int) (x y : Option Int) : Int := if x = y then 0 else u
/-- the least cost of the first i and the first j numbers -/
def dist (u l m : Int) (xs ys : List Int) : Nat → Nat → Int
  | 0, 0 => 0
  | i + 1, 0 => dist u l m xs ys i 0 + l
  | 0, j + 1 => dist u l m xs ys 0 j + m
  | i + 1, j + 1 => min (min (dist u l m xs ys i j + cst u xs[i]? ys[j]?) (dist u l m xs ys i (j + 1) + l)) (dist u l m xs ys (i + 1) j + m)
section
variable {u l m : Int} {xs ys zs : List Int}
theorem d00 : dist u l m xs ys 0 0 = 0 := by simp [dist]
theorem dS0 (i : Nat) : dist u l m xs ys (i + 1) 0 = dist u l m xs ys i 0 + l := by simp [dist]
theorem d0S (j : Nat) : dist u l m xs ys 0 (j + 1) = dist u l m xs ys 0 j + m := by simp [dist]
theorem dSS (i j : Nat) : dist u l m xs ys (i + 1) (j + 1) = min (min (dist u l m xs ys i j + cst u xs[i]? ys[j]?) (dist u l m xs ys i (j + 1) + l)) (dist u l m xs ys (i + 1) j + m) := by simp [dist]
theorem cst_nn (hu : 0 ≤ u) (x y : Option Int) : 0 ≤ cst u x y := by unfold cst; split <;> omega
theorem cst_self (x : Option Int) : cst u x x = 0 := by unfold cst; rw [if_pos rfl]
theorem cst_comm (x y : Option Int) : cst u x y = cst u y x := by
  unfold cst
  by_cases h : x = y
  · rw [if_pos h, if_pos h.symm]
  · rw [if_neg h, if_neg fun z => h z.symm]
theorem le_lack (i j : Nat) : dist u l m xs ys (i + 1) j ≤ dist u l m xs ys i j + l := by
  cases j with
  | zero => rw [dS0]; exact Int.le_refl _
  | succ j => rw [dSS]; omega
theorem le_more (i j : Nat) : dist u l m xs ys i (j + 1) ≤ dist u l m xs ys i j + m := by
  cases i with
  | zero => rw [d0S]; exact Int.le_refl _
  | succ i => rw [dSS]; omega
theorem le_both (i j : Nat) : dist u l m xs ys (i + 1) (j + 1) ≤ dist u l m xs ys i j + cst u xs[i]? ys[j]? := by rw [dSS]; omega
/-- the last step -/
theorem last_one : ∀ i j : Nat, (i = 0 ∧ j = 0) ∨ (∃ i', i = i' + 1 ∧ dist u l m xs ys i j = dist u l m xs ys i' j + l) ∨ (∃ j', j = j' + 1 ∧ dist u l m xs ys i j = dist u l m xs ys i j' + m) ∨ (∃ i' j', i = i' + 1 ∧ j = j' + 1 ∧ dist u l m xs ys i j = dist u l m xs ys i' j' + cst u xs[i']? ys[j']?)
  | 0, 0 => .inl ⟨rfl, rfl⟩
  | i + 1, 0 => .inr (.inl ⟨i, rfl, dS0 i⟩)
  | 0, j + 1 => .inr (.inr (.inl ⟨j, rfl, d0S j⟩))
  | i + 1, j + 1 => by
    have h := dSS (u := u) (l := l) (m := m) (xs := xs) (ys := ys) i j
    by_cases q : dist u l m xs ys (i + 1) (j + 1) = dist u l m xs ys i (j + 1) + l
    · exact .inr (.inl ⟨i, rfl, q⟩)
    · by_cases q2 : dist u l m xs ys (i + 1) (j + 1) = dist u l m xs ys (i + 1) j + m
      · exact .inr (.inr (.inl ⟨j, rfl, q2⟩))
      · exact .inr (.inr (.inr ⟨i, j, rfl, rfl, by omega⟩))
theorem nn (hu : 0 ≤ u) (hl : 0 ≤ l) (hm : 0 ≤ m) : ∀ i j : Nat, 0 ≤ dist u l m xs ys i j
  | 0, 0 => by rw [d00]; exact Int.le_refl _
  | i + 1, 0 => by rw [dS0]; have := nn hu hl hm i 0; omega
  | 0, j + 1 => by rw [d0S]; have := nn hu hl hm 0 j; omega
  | i + 1, j + 1 => by
    rw [dSS]
    have := nn hu hl hm i j
    have := nn hu hl hm i (j + 1)
    have := nn hu hl hm (i + 1) j
    have := cst_nn hu xs[i]? ys[j]?
    omega
theorem swap : ∀ i j : Nat, dist u l m xs ys i j = dist u m l ys xs j i
  | 0, 0 => by rw [d00, d00]
  | i + 1, 0 => by rw [dS0, d0S, swap i 0]
  | 0, j + 1 => by rw [d0S, dS0, swap 0 j]
  | i + 1, j + 1 => by
    rw [dSS, dSS, swap i j, swap i (j + 1), swap (i + 1) j, cst_comm]
    omega
theorem mono {u' l' m' : Int} (hu : u' ≤ u) (hl : l' ≤ l) (hm : m' ≤ m) : ∀ i j : Nat, dist u' l' m' xs ys i j ≤ dist u l m xs ys i j
  | 0, 0 => by rw [d00, d00]; exact Int.le_refl _
  | i + 1, 0 => by rw [dS0, dS0]; have := mono hu hl hm i 0; omega
  | 0, j + 1 => by rw [d0S, d0S]; have := mono hu hl hm 0 j; omega
  | i + 1, j + 1 => by
    rw [dSS, dSS]
    have := mono hu hl hm i j
    have := mono hu hl hm i (j + 1)
    have := mono hu hl hm (i + 1) j
    have : cst u' xs[i]? ys[j]? ≤ cst u xs[i]? ys[j]? := by unfold cst; split <;> omega
    omega
theorem pre (hu : 0 ≤ u) (hl : 0 ≤ l) (hm : 0 ≤ m) (x : Int) : ∀ i j : Nat, dist u l m (x :: xs) (x :: ys) (i + 1) (j + 1) ≤ dist u l m xs ys i j
  | 0, 0 => by
    have h := le_both (u := u) (l := l) (m := m) (xs := x :: xs) (ys := x :: ys) 0 0
    rw [d00] at h
    have : cst u (x :: xs)[0]? (x :: ys)[0]? = 0 := cst_self _
    rw [d00]; omega
  | i + 1, 0 => by
    have := le_lack (u := u) (l := l) (m := m) (xs := x :: xs) (ys := x :: ys) (i + 1) (0 + 1)
    have := pre hu hl hm x i 0
    rw [dS0]; omega
  | 0, j + 1 => by
    have := le_more (u := u) (l := l) (m := m) (xs := x :: xs) (ys := x :: ys) (0 + 1) (j + 1)
    have := pre hu hl hm x 0 j
    rw [d0S]; omega
  | i + 1, j + 1 => by
    have h1 := le_both (u := u) (l := l) (m := m) (xs := x :: xs) (ys := x :: ys) (i + 1) (j + 1)
    rw [List.getElem?_cons_succ, List.getElem?_cons_succ] at h1
    have := le_lack (u := u) (l := l) (m := m) (xs := x :: xs) (ys := x :: ys) (i + 1) (j + 1 + 1)
    have := le_more (u := u) (l := l) (m := m) (xs := x :: xs) (ys := x :: ys) (i + 1 + 1) (j + 1)
    have := pre hu hl hm x i j
    have := pre hu hl hm x i (j + 1)
    have := pre hu hl hm x (i + 1) j
    have e := dSS (u := u) (l := l) (m := m) (xs := xs) (ys := ys) i j
    omega
end
/-! ### steps through both rows -/
inductive Sp
  | both (i j : Nat)
  | lack (i : Nat)
  | more (j : Nat)
def spC (u l m : Int) (xs ys : List Int) : Sp → Int
  | .both i j => cst u xs[i]? ys[j]?
  | .lack _ => l
  | .more _ => m
/-- steps from one place to another, and what they cost -/
def Fw (u l m : Int) (xs ys : List Int) : Nat → Nat → List Sp → Nat → Nat → Int → Prop
  | i, j, [], n, k, c => i = n ∧ j = k ∧ c = 0
  | i, j, .both a b :: ss, n, k, c => a = i ∧ b = j ∧ Fw u l m xs ys (i + 1) (j + 1) ss n k (c - cst u xs[i]? ys[j]?)
  | i, j, .lack a :: ss, n, k, c => a = i ∧ Fw u l m xs ys (i + 1) j ss n k (c - l)
  | i, j, .more b :: ss, n, k, c => b = j ∧ Fw u l m xs ys i (j + 1) ss n k (c - m)
section
variable {u l m : Int} {xs ys : List Int}
theorem Fw.le : ∀ {ss : List Sp} {i j n k : Nat} {c : Int}, Fw u l m xs ys i j ss n k c → i ≤ n ∧ j ≤ k
  | [], i, j, n, k, c, h => by obtain ⟨h1, h2, _⟩ := h; omega
  | .both a b :: ss, i, j, n, k, c, h => by have := Fw.le h.2.2; omega
  | .lack a :: ss, i, j, n, k, c, h => by have := Fw.le h.2; omega
  | .more b :: ss, i, j, n, k, c, h => by have := Fw.le h.2; omega
theorem Fw.len : ∀ {ss : List Sp} {i j n k : Nat} {c : Int}, Fw u l m xs ys i j ss n k c → ss.length + i + j ≤ n + k
  | [], i, j, n, k, c, h => by obtain ⟨h1, h2, _⟩ := h; rw [List.length_nil]; omega
  | .both a b :: ss, i, j, n, k, c, h => by have := Fw.len h.2.2; rw [List.length_cons]; omega
  | .lack a :: ss, i, j, n, k, c, h => by have := Fw.len h.2; rw [List.length_cons]; omega
  | .more b :: ss, i, j, n, k, c, h => by have := Fw.len h.2; rw [List.length_cons]; omega
theorem Fw.sum : ∀ {ss : List Sp} {i j n k : Nat} {c : Int}, Fw u l m xs ys i j ss n k c → (ss.map (spC u l m xs ys)).sum = c
  | [], i, j, n, k, c, h => h.2.2.symm
  | .both a b :: ss, i, j, n, k, c, h => by
    obtain ⟨rfl, rfl, h⟩ := h
    have := h.sum
    rw [List.map_cons, List.sum_cons, this]; show cst u xs[a]? ys[b]? + _ = _; omega
  | .lack a :: ss, i, j, n, k, c, h => by
    have := h.2.sum
    rw [List.map_cons, List.sum_cons, this]; show l + _ = _; omega
  | .more b :: ss, i, j, n, k, c, h => by
    have := h.2.sum
    rw [List.map_cons, List.sum_cons, this]; show m + _ = _; omega
def Sp.sw : Sp → Sp
  | .both i j => .both j i
  | .lack i => .more i
  | .more j => .lack j
theorem Fw.swap : ∀ {ss : List Sp} {i j n k : Nat} {c : Int}, Fw u l m xs ys i j ss n k c → Fw u m l ys xs j i (ss.map Sp.sw) k n c
  | [], i, j, n, k, c, h => ⟨h.2.1, h.1, h.2.2⟩
  | .both a b :: ss, i, j, n, k, c, h => ⟨h.2.1, h.1, by rw [cst_comm]; exact h.2.2.swap⟩
  | .lack a :: ss, i, j, n, k, c, h => ⟨h.1, h.2.swap⟩
  | .more b :: ss, i, j, n, k, c, h => ⟨h.1, h.2.swap⟩
/-- the steps that may end at a place -/
def stepsTo (i j : Nat) : List Sp := (if 0 < i ∧ 0 < j then [.both (i - 1) (j - 1)] else []) ++ ((if 0 < i then [.lack (i - 1)] else []) ++ if 0 < j then [.more (j - 1)] else [])
def Sp.ov : Sp → Nat
  | .both _ _ => 1
  | .lack _ => 1
  | .more _ => 0
def Sp.un : Sp → Nat
  | .both _ _ => 1
  | .lack _ => 0
  | .more _ => 1
/-- what a table allows at a place by a step that ends there -/
def behind (u l m : Int) (xs ys : List Int) (T : Nat → Nat → Int) (i j : Nat) (s : Sp) : Int := T (i - s.ov) (j - s.un) + spC u l m xs ys s
def minL : List Int → Int
  | [] => 0
  | n :: r => r.foldl min n
theorem dist_min (i j : Nat) : minL ((stepsTo i j).map (behind u l m xs ys (dist u l m xs ys) i j)) = dist u l m xs ys i j := by
  match i, j with
  | 0, 0 => rw [d00]; rfl
  | i + 1, 0 => rw [dS0]; rfl
  | 0, j + 1 => rw [d0S]; rfl
  | i + 1, j + 1 => rw [dSS]; rfl
/-- what the first of the least ways is: there is one, it is one that ends there, and costs what is due -/
theorem least_way (i j : Nat) (h : 0 < i ∨ 0 < j) : ∃ s ss, (stepsTo i j).filter (fun s => decide (behind u l m xs ys (dist u l m xs ys) i j s = dist u l m xs ys i j)) = s :: ss := by
  have key : ∃ s ∈ stepsTo i j, behind u l m xs ys (dist u l m xs ys) i j s = dist u l m xs ys i j := by
    match i, j, h with
    | i + 1, 0, _ => exact ⟨.lack i, by simp [stepsTo], (dS0 i).symm⟩
    | 0, j + 1, _ => exact ⟨.more j, by simp [stepsTo], (d0S j).symm⟩
    | i + 1, j + 1, _ =>
      rcases last_one (u := u) (l := l) (m := m) (xs := xs) (ys := ys) (i + 1) (j + 1) with ⟨q, _⟩ | ⟨i', q, e⟩ | ⟨j', q, e⟩ | ⟨i', j', q, q2, e⟩
      · cases q
      · obtain rfl : i = i' := by omega
        exact ⟨.lack i, by simp [stepsTo], e.symm⟩
      · obtain rfl : j = j' := by omega
        exact ⟨.more j, by simp [stepsTo], e.symm⟩
      · obtain rfl : i = i' := by omega
        obtain rfl : j = j' := by omega
        exact ⟨.both i j, by simp [stepsTo], e.symm⟩
  obtain ⟨s, hs, e⟩ := key
  cases hf : (stepsTo i j).filter (fun s => decide (behind u l m xs ys (dist u l m xs ys) i j s = dist u l m xs ys i j)) with
  | nil =>
    have := (List.mem_filter (p := fun s => decide (behind u l m xs ys (dist u l m xs ys) i j s = dist u l m xs ys i j))).mpr ⟨hs, decide_eq_true e⟩
    rw [hf] at this
    cases this
  | cons s ss => exact ⟨s, ss, rfl⟩
theorem mem_to {i j : Nat} {s : Sp} (h : s ∈ stepsTo i j) : (∃ a b, i = a + 1 ∧ j = b + 1 ∧ s = .both a b) ∨ (∃ a, i = a + 1 ∧ s = .lack a) ∨ ∃ b, j = b + 1 ∧ s = .more b := by
  match i, j, h with
  | 0, 0, h => simp [stepsTo] at h
  | i + 1, 0, h => simp [stepsTo] at h; exact .inr (.inl ⟨i, rfl, h⟩)
  | 0, j + 1, h => simp [stepsTo] at h; exact .inr (.inr ⟨j, rfl, h⟩)
  | i + 1, j + 1, h =>
    simp [stepsTo] at h
    rcases h with h | h | h
    · exact .inl ⟨i, j, rfl, rfl, h⟩
    · exact .inr (.inl ⟨i, rfl, h⟩)
    · exact .inr (.inr ⟨j, rfl, h⟩)
def Sp.at (s : Sp) (n k : Nat) : Prop := match s with
  | .both a b => a = n ∧ b = k
  | .lack a => a = n
  | .more b => b = k
theorem Fw.snoc {s : Sp} : ∀ {ss : List Sp} {i j n k : Nat} {c : Int}, Fw u l m xs ys i j ss n k c → s.at n k → Fw u l m xs ys i j (ss ++ [s]) (n + s.ov) (k + s.un) (c + spC u l m xs ys s)
  | [], i, j, n, k, c, h, hs => by
    obtain ⟨rfl, rfl, rfl⟩ := h
    cases s with
    | both a b => obtain ⟨rfl, rfl⟩ := hs; exact ⟨rfl, rfl, rfl, rfl, by show 0 + cst u xs[a]? ys[b]? - _ = 0; omega⟩
    | lack a => obtain rfl := hs; exact ⟨rfl, rfl, rfl, by show 0 + l - l = 0; omega⟩
    | more b => obtain rfl := hs; exact ⟨rfl, rfl, rfl, by show 0 + m - m = 0; omega⟩
  | .both a b :: ss, i, j, n, k, c, h, hs => by
    obtain ⟨rfl, rfl, h⟩ := h
    have := h.snoc hs
    exact ⟨rfl, rfl, by rw [show c + spC u l m xs ys s - cst u xs[a]? ys[b]? = c - cst u xs[a]? ys[b]? + spC u l m xs ys s by omega]; exact this⟩
  | .lack a :: ss, i, j, n, k, c, h, hs => by
    obtain ⟨rfl, h⟩ := h
    have := h.snoc hs
    exact ⟨rfl, by rw [show c + spC u l m xs ys s - l = c - l + spC u l m xs ys s by omega]; exact this⟩
  | .more b :: ss, i, j, n, k, c, h, hs => by
    obtain ⟨rfl, h⟩ := h
    have := h.snoc hs
    exact ⟨rfl, by rw [show c + spC u l m xs ys s - m = c - m + spC u l m xs ys s by omega]; exact this⟩
theorem mem_at {i j : Nat} {s : Sp} (h : s ∈ stepsTo i j) : s.ov ≤ i ∧ s.un ≤ j ∧ 0 < s.ov + s.un ∧ s.at (i - s.ov) (j - s.un) := by
  rcases mem_to h with ⟨a, b, rfl, rfl, rfl⟩ | ⟨a, rfl, rfl⟩ | ⟨b, rfl, rfl⟩
  · exact ⟨Nat.le_add_left 1 a, Nat.le_add_left 1 b, (show 0 < 1 + 1 by decide), rfl, rfl⟩
  · exact ⟨Nat.le_add_left 1 a, Nat.zero_le _, (show 0 < 1 + 0 by decide), rfl⟩
  · exact ⟨Nat.zero_le _, Nat.le_add_left 1 b, (show 0 < 0 + 1 by decide), rfl⟩
theorem at_mem {i j : Nat} {s : Sp} (h : s.at i j) : s ∈ stepsTo (i + s.ov) (j + s.un) := by
  cases s with
  | both a b => obtain ⟨rfl, rfl⟩ := h; simp [stepsTo, Sp.ov, Sp.un]
  | lack a => obtain rfl := h; simp [stepsTo, Sp.ov, Sp.un]
  | more b => obtain rfl := h; simp [stepsTo, Sp.ov, Sp.un]
theorem Fw.cons {s : Sp} {ss : List Sp} {i j n k : Nat} {c : Int} (h : Fw u l m xs ys i j (s :: ss) n k c) : s.at i j ∧ Fw u l m xs ys (i + s.ov) (j + s.un) ss n k (c - spC u l m xs ys s) := by
  cases s with
  | both a b => obtain ⟨rfl, rfl, h⟩ := h; exact ⟨⟨rfl, rfl⟩, h⟩
  | lack a => obtain ⟨rfl, h⟩ := h; exact ⟨rfl, h⟩
  | more b => obtain ⟨rfl, h⟩ := h; exact ⟨rfl, h⟩
end
end Ed

namespace Pf
open PySem PySem.Spec L2 Dd
theorem ixN_last (n : Nat) : ixN (n + 1) (-1) = some n := by
  simp [ixN]; omega
theorem atI_last {α : Type} (a : List α) (x : α) : atI (a ++ [x]) (-1) = some x := by
  unfold atI
  rw [List.length_append, List.length_singleton, ixN_last]
  simp
theorem fit_of2 {n : Nat} (h : n ≤ 1000000) : fit n = true := decide_eq_true (by omega)
theorem set_last {α : Type} (a : List α) (x y : α) : (a ++ [x]).set a.length y = a ++ [y] := by
  rw [List.set_append_right _ _ (Nat.le_refl _), Nat.sub_self]; rfl
def Bx (bs : List D) : Prop := ∃ a s c : Int, bs = [.int a, .int s, .int c]
theorem take_ok {bs : List D} {m : Int} (hb : Bx bs) (h0 : 0 < m) (h1 : m < 1152921504606846976) : ∃ r bs', fn__law_take bs [.int m] = some (.ok (.int r), bs') ∧ 0 ≤ r ∧ r < m ∧ Bx bs' := by
  obtain ⟨a, s, c, rfl⟩ := hb
  have hm : m.natAbs < 1152921504606846976 := by omega
  by_cases ha : 0 < a
  · refine ⟨a % m, [.int (a / m), .int s, .int c], ?_, Int.emod_nonneg _ (by omega), Int.emod_lt_of_pos _ h0, _, _, _, rfl⟩
    simp [fn__law_take, runB, m__law_take, env0B, mSeq, mIf, mBol, mBin, mBinL, mBind, mLift, mPure, mPeek, mVar, ixD, iI, bolD, mAsg, mCall1, mCallN, intD, modD, iIc, cMod, mStore, mStoreO, mDone, gSet, mOwn, mPut, setD, mRet, mDrop, mStuck, mTru, truD, mOrT, mAndT, mNotT, mAnd, mOr, mNot, mIsi, isiT_eq, typD, lenD, mCons, mTup, mLst, mLstN, mVal, oOr, addD, subD, mulD, mulI, iIc, cMul, ltD, leD, gtD, geD, gTupD, gCons2, gsNil, mCallV, mCallB, mRs, tupleD, mRetF, mChain, mScr, mScrLen, mScrIx, mMut, appD, max2D, min2D, mRng1, mRng2, rngD1, rngD2, rngOk, mItems, itemsD, mAsgN, mParEE, mParEN, mUn, negD, mCallN1, listD, unsE, powD, cPow, divD, cDiv, mFor, mSl, mSlL, slD, mNoPart, mPart, intO, mSlN, mSlNL, slN, mRevN, revO, mParNC, andD, orD, xorD, shrD, shlD, cShr, mStepN, mStepNL, stepO, mCatN, mCatNL, catN, atI, ixN, ha, h0, hm]
  · have hs : ∃ s' : Int, s' = ((s + 104729 * (c + 1)) * 69623) % 2147483647 * 48271 + 30103 := ⟨_, rfl⟩
    refine ⟨_, _, ?_, Int.emod_nonneg ((((s + 104729 * (c + 1)) * 69623) % 2147483647 * 2147483647 + ((((s + 104729 * (c + 1)) * 69623) % 2147483647 * 48271 + 30103) % 2147483629 + 1)) / 8191) (by omega : m ≠ 0), Int.emod_lt_of_pos _ h0, a, (((s + 104729 * (c + 1)) * 69623) % 2147483647 * 48271 + 30103) % 2147483629 + 1, c + 1, rfl⟩
    simp [fn__law_take, runB, m__law_take, env0B, mSeq, mIf, mBol, mBin, mBinL, mBind, mLift, mPure, mPeek, mVar, ixD, iI, bolD, mAsg, mCall1, mCallN, intD, modD, iIc, cMod, mStore, mStoreO, mDone, gSet, mOwn, mPut, setD, mRet, mDrop, mStuck, mTru, truD, mOrT, mAndT, mNotT, mAnd, mOr, mNot, mIsi, isiT_eq, typD, lenD, mCons, mTup, mLst, mLstN, mVal, oOr, addD, subD, mulD, mulI, iIc, cMul, ltD, leD, gtD, geD, gTupD, gCons2, gsNil, mCallV, mCallB, mRs, tupleD, mRetF, mChain, mScr, mScrLen, mScrIx, mMut, appD, max2D, min2D, mRng1, mRng2, rngD1, rngD2, rngOk, mItems, itemsD, mAsgN, mParEE, mParEN, mUn, negD, mCallN1, listD, unsE, powD, cPow, divD, cDiv, mFor, mSl, mSlL, slD, mNoPart, mPart, intO, mSlN, mSlNL, slN, mRevN, revO, mParNC, andD, orD, xorD, shrD, shlD, cShr, mStepN, mStepNL, stepO, mCatN, mCatNL, catN, atI, ixN, ha, h0, hm]
theorem ix_in {ds : List D} {r : Int} (h0 : 0 ≤ r) (h1 : r < ds.length) : ∃ d ∈ ds, atI ds r = some d := by
  have h : r.toNat < ds.length := by omega
  exact ⟨ds[r.toNat], List.getElem_mem h, atI_nat' h0 (List.getElem?_eq_getElem h)⟩
theorem atI_ints {ns : List Int} {k : Int} (h0 : 0 ≤ k) (h1 : k < ns.length) : ∃ v, atI ns k = some v := by
  have h : k.toNat < ns.length := by omega
  exact ⟨ns[k.toNat], atI_nat' h0 (List.getElem?_eq_getElem h)⟩
theorem pick3 {a b c r : Int} (h0 : 0 ≤ r) (h1 : r < 3) : ∃ m, atI [PyData.int a, .int b, .int c] r = some (.int m) ∧ (m = a ∨ m = b ∨ m = c) := by
  obtain ⟨d, hd, e⟩ := ix_in (ds := [PyData.int a, .int b, .int c]) h0 (by simpa using h1)
  simp at hd
  rcases hd with rfl | rfl | rfl
  · exact ⟨_, e, .inl rfl⟩
  · exact ⟨_, e, .inr (.inl rfl)⟩
  · exact ⟨_, e, .inr (.inr rfl)⟩
theorem pick4 {a b c d r : Int} (h0 : 0 ≤ r) (h1 : r < 4) : ∃ m, atI [PyData.int a, .int b, .int c, .int d] r = some (.int m) ∧ (m = a ∨ m = b ∨ m = c ∨ m = d) := by
  obtain ⟨x, hd, e⟩ := ix_in (ds := [PyData.int a, .int b, .int c, .int d]) h0 (by simpa using h1)
  simp only [List.mem_cons, List.not_mem_nil, or_false] at hd
  rcases hd with rfl | rfl | rfl | rfl
  · exact ⟨_, e, .inl rfl⟩
  · exact ⟨_, e, .inr (.inl rfl)⟩
  · exact ⟨_, e, .inr (.inr (.inl rfl))⟩
  · exact ⟨_, e, .inr (.inr (.inr rfl))⟩
theorem go_mapA {α : Type} {vs : List Nat} {g : D → M Unit} {te : M D} {ρ : En} (N O : α → D) : ∀ (as : List α), (∀ a ∈ as, ∃ ρ1 ρ3, g (N a) ρ = some (.ok () ρ1) ∧ te ρ1 = some (.ok (O a) ρ3) ∧ unsE ρ3 vs = ρ) → mGo vs g (mPure true) te (as.map N) ρ = some (.ok (as.map O) ρ)
  | [], _ => rfl
  | a :: as, h => by
    obtain ⟨ρ1, ρ3, e1, e2, e3⟩ := h a List.mem_cons_self
    have ih := go_mapA N O as fun x hx => h x (List.mem_cons_of_mem _ hx)
    have t1 : (mPure true : M Bool) ρ1 = some (.ok true ρ1) := rfl
    have e5 : (mBind te fun y => mPure [y]) ρ1 = some (.ok [O a] ρ3) := by rw [bind_is e2]; rfl
    have e6 : mUn_ vs ρ3 = some (.ok () ρ) := by unfold mUn_; rw [e3]
    rw [List.map_cons]
    unfold mGo
    rw [bind_is e1, bind_is t1, if_pos rfl, bind_is e5, bind_is e6, bind_is ih]; rfl
theorem go_box {vs : List Nat} {g : D → M Unit} {te : M D} (E : List D → En) (P : D → Prop) : ∀ (xs : List D) (bs : List D), Bx bs →
    (∀ x ∈ xs, ∀ bs, Bx bs → ∃ y bs' ρ1 ρ3, P y ∧ Bx bs' ∧ g x (E bs) = some (.ok () ρ1) ∧ te ρ1 = some (.ok y ρ3) ∧ unsE ρ3 vs = E bs') →
    ∃ ys bs', Bx bs' ∧ (∀ y ∈ ys, P y) ∧ ys.length = xs.length ∧ mGo vs g (mPure true) te xs (E bs) = some (.ok ys (E bs'))
  | [], bs, hb, _ => ⟨[], bs, hb, fun _ h => (by cases h), rfl, rfl⟩
  | x :: xs, bs, hb, h => by
    obtain ⟨y, bs1, ρ1, ρ3, p, hb1, e1, e2, e3⟩ := h x List.mem_cons_self bs hb
    obtain ⟨ys, bs', hb', q, l, ih⟩ := go_box E P xs bs1 hb1 fun z hz => h z (List.mem_cons_of_mem _ hz)
    refine ⟨y :: ys, bs', hb', fun z hz => (List.mem_cons.mp hz).elim (fun e => e ▸ p) (q z), by rw [List.length_cons, List.length_cons, l], ?_⟩
    have t1 : (mPure true : M Bool) ρ1 = some (.ok true ρ1) := rfl
    have e5 : (mBind te fun y => mPure [y]) ρ1 = some (.ok [y] ρ3) := by rw [bind_is e2]; rfl
    have e6 : mUn_ vs ρ3 = some (.ok () (E bs')) ∨ mUn_ vs ρ3 = some (.ok () (E bs1)) := .inr (by unfold mUn_; rw [e3])
    have e6 : mUn_ vs ρ3 = some (.ok () (E bs1)) := by unfold mUn_; rw [e3]
    unfold mGo
    rw [bind_is e1, bind_is t1, if_pos rfl, bind_is e5, bind_is e6, bind_is ih]; rfl
theorem rngL_len (n : Nat) : (rngL 0 (n : Int)).length = n := by rw [rngL_length]; omega
theorem strOk_of (s : String) : PyData.strOk (Str.ofString s) = true := by
  unfold PyData.strOk
  rw [PySem.Str.ofString_eq_toList, Array.all_eq_true_iff_forall_mem]
  intro c hc
  simp at hc
  obtain ⟨x, _, rfl⟩ := hc
  have := x.valid
  refine decide_eq_true ?_
  show x.val.toNat < 1114112
  rcases this with h | h <;> omega
theorem box_ok (ns : List Int) (k : Int) (h0 : 0 ≤ k) (h1 : k < 1000) : ∃ bs, fn__law_box ns [.int k] = some (.ok bs) ∧ Bx bs := by
  have hk : (k.natAbs < 18446744073709551616) := by omega
  have z0 : ∀ v, atI [PyData.int 0, .int v] 0 = some (.int 0) := fun _ => rfl
  have z1 : ∀ v, atI [PyData.int 0, .int v] 1 = some (.int v) := fun _ => rfl
  by_cases h : k < ns.length
  · obtain ⟨v, e⟩ := atI_ints h0 h
    by_cases hv : 1000000000000000000 ≤ v <;> simp [fn__law_box, runS, m__law_box, env0S, mSeq, mIf, mBol, mBin, mBinL, mBind, mLift, mPure, mPeek, mVar, ixD, iI, bolD, mAsg, mCall1, mCallN, intD, modD, iIc, cMod, mStore, mStoreO, mDone, gSet, mOwn, mPut, setD, mRet, mDrop, mStuck, mTru, truD, mOrT, mAndT, mNotT, mAnd, mOr, mNot, mIsi, isiT_eq, typD, lenD, mCons, mTup, mLst, mLstN, mVal, oOr, addD, subD, mulD, mulI, iIc, cMul, ltD, leD, gtD, geD, gTupD, gCons2, gsNil, mCallV, mCallB, mRs, tupleD, mRetF, mChain, mScr, mScrLen, mScrIx, mMut, appD, max2D, min2D, mRng1, mRng2, rngD1, rngD2, rngOk, mItems, itemsD, mAsgN, mParEE, mParEN, mUn, negD, mCallN1, listD, unsE, powD, cPow, divD, cDiv, mFor, mSl, mSlL, slD, mNoPart, mPart, intO, mSlN, mSlNL, slN, mRevN, revO, mParNC, andD, orD, xorD, shrD, shlD, cShr, mStepN, mStepNL, stepO, mCatN, mCatNL, catN, hk, h, e, hv, fit, z0, z1] <;> exact ⟨_, _, _, rfl⟩
  · by_cases hn : 0 < ns.length
    · have q0 : 0 ≤ k % (ns.length : Int) := Int.emod_nonneg _ (by omega)
      have q1 : k % (ns.length : Int) < ns.length := Int.emod_lt_of_pos _ (by omega)
      obtain ⟨v, e⟩ := atI_ints q0 q1
      by_cases hv : 1000000000000000000 ≤ 5717 * k + 23 + v % 2147483629 * 69623 <;> simp [fn__law_box, runS, m__law_box, env0S, mSeq, mIf, mBol, mBin, mBinL, mBind, mLift, mPure, mPeek, mVar, ixD, iI, bolD, mAsg, mCall1, mCallN, intD, modD, iIc, cMod, mStore, mStoreO, mDone, gSet, mOwn, mPut, setD, mRet, mDrop, mStuck, mTru, truD, mOrT, mAndT, mNotT, mAnd, mOr, mNot, mIsi, isiT_eq, typD, lenD, mCons, mTup, mLst, mLstN, mVal, oOr, addD, subD, mulD, mulI, iIc, cMul, ltD, leD, gtD, geD, gTupD, gCons2, gsNil, mCallV, mCallB, mRs, tupleD, mRetF, mChain, mScr, mScrLen, mScrIx, mMut, appD, max2D, min2D, mRng1, mRng2, rngD1, rngD2, rngOk, mItems, itemsD, mAsgN, mParEE, mParEN, mUn, negD, mCallN1, listD, unsE, powD, cPow, divD, cDiv, mFor, mSl, mSlL, slD, mNoPart, mPart, intO, mSlN, mSlNL, slN, mRevN, revO, mParNC, andD, orD, xorD, shrD, shlD, cShr, mStepN, mStepNL, stepO, mCatN, mCatNL, catN, hk, h, hn, e, hv, fit, z0, z1] <;> exact ⟨_, _, _, rfl⟩
    · by_cases hv : 1000000000000000000 ≤ 5717 * k + 23 <;> simp [fn__law_box, runS, m__law_box, env0S, mSeq, mIf, mBol, mBin, mBinL, mBind, mLift, mPure, mPeek, mVar, ixD, iI, bolD, mAsg, mCall1, mCallN, intD, modD, iIc, cMod, mStore, mStoreO, mDone, gSet, mOwn, mPut, setD, mRet, mDrop, mStuck, mTru, truD, mOrT, mAndT, mNotT, mAnd, mOr, mNot, mIsi, isiT_eq, typD, lenD, mCons, mTup, mLst, mLstN, mVal, oOr, addD, subD, mulD, mulI, iIc, cMul, ltD, leD, gtD, geD, gTupD, gCons2, gsNil, mCallV, mCallB, mRs, tupleD, mRetF, mChain, mScr, mScrLen, mScrIx, mMut, appD, max2D, min2D, mRng1, mRng2, rngD1, rngD2, rngOk, mItems, itemsD, mAsgN, mParEE, mParEN, mUn, negD, mCallN1, listD, unsE, powD, cPow, divD, cDiv, mFor, mSl, mSlL, slD, mNoPart, mPart, intO, mSlN, mSlNL, slN, mRevN, revO, mParNC, andD, orD, xorD, shrD, shlD, cShr, mStepN, mStepNL, stepO, mCatN, mCatNL, catN, hk, h, hn, hv, fit, z0, z1] <;> exact ⟨_, _, _, rfl⟩

/-! ### loops and comprehensions once more -/
/-- a comprehension over other things than data, with an if -/
theorem go_fm {α : Type} {vs : List Nat} {g : D → M Unit} {tt : M Bool} {te : M D} {ρ : En} (N : α → D) (O : α → List D) : ∀ (as : List α),
    (∀ a ∈ as, ∃ ρ1 ρ2 k, g (N a) ρ = some (.ok () ρ1) ∧ tt ρ1 = some (.ok k ρ2) ∧ (k = true → ∃ y ρ3, te ρ2 = some (.ok y ρ3) ∧ unsE ρ3 vs = ρ ∧ O a = [y]) ∧ (k = false → unsE ρ2 vs = ρ ∧ O a = [])) →
    mGo vs g tt te (as.map N) ρ = some (.ok (as.flatMap O) ρ)
  | [], _ => rfl
  | a :: as, h => by
    obtain ⟨ρ1, ρ2, k, e1, e2, h3, h4⟩ := h a List.mem_cons_self
    have ih := go_fm (vs := vs) (g := g) (tt := tt) (te := te) N O as fun x hx => h x (List.mem_cons_of_mem _ hx)
    rw [List.map_cons, List.flatMap_cons]
    unfold mGo
    rw [bind_is e1, bind_is e2]
    cases k with
    | true =>
      obtain ⟨y, ρ3, e3, e4, e5⟩ := h3 rfl
      have e6 : (mBind te fun y => mPure [y]) ρ2 = some (.ok [y] ρ3) := by rw [bind_is e3]; rfl
      have e7 : mUn_ vs ρ3 = some (.ok () ρ) := by unfold mUn_; rw [e4]
      rw [if_pos rfl, bind_is e6, bind_is e7, bind_is ih, e5]; rfl
    | false =>
      obtain ⟨e4, e5⟩ := h4 rfl
      have e6 : (mPure [] : M (List D)) ρ2 = some (.ok [] ρ2) := rfl
      have e7 : mUn_ vs ρ2 = some (.ok () ρ) := by unfold mUn_; rw [e4]
      rw [if_neg (by simp), bind_is e6, bind_is e7, bind_is ih, e5]; rfl
theorem rngL_nat (n : Nat) : rngL 0 (n : Int) = (List.range n).map fun i => PyData.int (i : Nat) := by
  unfold rngL
  rw [show ((n : Int) - 0).toNat = n by omega]
  apply List.map_congr_left
  intro i _
  rw [Int.zero_add]
theorem cut_take (M : List D) (b : Nat) : cutL M none (some (b : Nat)) = M.take b := by
  unfold cutL HT.sIx
  dsimp only
  rw [if_neg (by omega), Int.toNat_natCast, List.drop_zero]
  rcases Nat.lt_or_ge M.length b with z | z
  · rw [Nat.min_eq_right (Nat.le_of_lt z), List.take_of_length_le (by simp), List.take_of_length_le (Nat.le_of_lt z)]
  · rw [Nat.min_eq_left z, Nat.sub_zero]
theorem cut_drop (M : List D) (a : Nat) : cutL M (some (a : Nat)) none = M.drop a := by
  unfold cutL HT.sIx
  dsimp only
  rw [if_neg (by omega), Int.toNat_natCast]
  rcases Nat.lt_or_ge M.length a with q | q
  · rw [Nat.min_eq_right (Nat.le_of_lt q), List.drop_of_length_le (Nat.le_refl _), List.drop_of_length_le (Nat.le_of_lt q), List.take_nil]
  · rw [Nat.min_eq_left q, List.take_of_length_le (by rw [List.length_drop]; exact Nat.le_refl _)]
theorem mul_ok {i j : Int} (h : i.natAbs < 1000000) : mulD (.int i) (.int j) = some (.int (i * j)) := by
  have hc : cMul i j = true := by
    unfold cMul
    rw [Bool.or_eq_true]
    exact .inl (decide_eq_true (by omega))
  show oOr mulI repT _ _ = _
  unfold oOr mulI iIc
  simp only [hc, if_true]

/-! ### repr of lists of lists of numbers: how long, and that it may be compared -/
theorem strOk_app {x y : Str} (hx : PyData.strOk x = true) (hy : PyData.strOk y = true) : PyData.strOk (x ++ y) = true := by
  unfold PyData.strOk at *
  show Array.all (x.cps ++ y.cps) _ = true
  rw [Array.all_append, hx, hy]; rfl
theorem textFrom_le {B : Nat} : ∀ (ts : List Str) (k : Nat) (acc : Str), (∀ t ∈ ts, t.length ≤ B) → (textFrom k acc ts).length ≤ acc.length + (B + 2) * ts.length
  | [], _, acc, _ => Nat.le_add_right _ _
  | t :: ts, k, acc, h => by
    have ih := textFrom_le ts (k + 1) (acc ++ (if k > 0 then ", " else "" : String) ++ t) fun u hu => h u (List.mem_cons_of_mem _ hu)
    have e : (acc ++ (if k > 0 then ", " else "" : String) ++ t).length = acc.length + (if k > 0 then 2 else 0) + t.length := by
      rw [strLen_append, strLen_append]
      split <;> rfl
    have ht := h t List.mem_cons_self
    rw [e] at ih
    rw [List.length_cons, Nat.mul_add]
    show (textFrom (k + 1) _ ts).length ≤ _
    have : (if k > 0 then 2 else 0) ≤ 2 := by split <;> omega
    omega
theorem textFrom_strOk : ∀ (ts : List Str) (k : Nat) (acc : Str), PyData.strOk acc = true → (∀ t ∈ ts, PyData.strOk t = true) → PyData.strOk (textFrom k acc ts) = true
  | [], _, acc, ha, _ => ha
  | t :: ts, k, acc, ha, h => textFrom_strOk ts (k + 1) _ (strOk_app (strOk_app ha (strOk_of _)) (h t List.mem_cons_self)) fun u hu => h u (List.mem_cons_of_mem _ hu)
theorem listText_le {B : Nat} {ts : List Str} (h : ∀ t ∈ ts, t.length ≤ B) : (listText ts).length ≤ 2 + (B + 2) * ts.length := by
  unfold listText
  rw [strLen_append]
  have := textFrom_le ts 0 ("[" : String) h
  have e1 : ((("[" : String) : Str)).length = 1 := rfl
  have e2 : ((("]" : String) : Str)).length = 1 := rfl
  rw [e1] at this
  rw [e2]
  omega
theorem listText_strOk {ts : List Str} (h : ∀ t ∈ ts, PyData.strOk t = true) : PyData.strOk (listText ts) = true :=
  strOk_app (textFrom_strOk ts 0 _ (strOk_of _) h) (strOk_of _)
theorem shownAll_map : ∀ ds : List D, PyData.shownAll ds = ds.map PyData.shown
  | [] => rfl
  | d :: ds => by
    show PyData.shown d :: PyData.shownAll ds = _
    rw [shownAll_map ds]; rfl
/-- a showable value of bounded depth whose text has at most B signs -/
structure Shw (B n : Nat) (d : D) : Prop where
  sh : d.showable = true
  nd : d.hasDict = false
  dp : d.depth ≤ n
  ln : d.shown.length ≤ B
  ok : PyData.strOk d.shown = true
theorem shw_list {B n : Nat} {ds : List D} (h : ∀ d ∈ ds, Shw B n d) : Shw (2 + (B + 2) * ds.length) (n + 1) (.list ds) := by
  have h1 : ∀ xs : List D, (∀ d ∈ xs, Shw B n d) → PyData.showableAll xs = true ∧ PyData.hasDictAll xs = false ∧ PyData.depthAll xs ≤ n := by
    intro xs
    induction xs with
    | nil => exact fun _ => ⟨rfl, rfl, Nat.zero_le _⟩
    | cons x xs ih =>
      intro hx
      obtain ⟨a, b, c⟩ := ih fun d hd => hx d (List.mem_cons_of_mem _ hd)
      have := hx x List.mem_cons_self
      refine ⟨?_, ?_, ?_⟩
      · show (x.showable && PyData.showableAll xs) = true
        rw [this.sh, a]; rfl
      · show (x.hasDict || PyData.hasDictAll xs) = false
        rw [this.nd, b]; rfl
      · show max x.depth (PyData.depthAll xs) ≤ n
        have := this.dp
        omega
  obtain ⟨a, b, c⟩ := h1 ds h
  have hs : ∀ t ∈ PyData.shownAll ds, t.length ≤ B ∧ PyData.strOk t = true := fun t ht => by
    rw [shownAll_map] at ht
    obtain ⟨d, hd, rfl⟩ := List.mem_map.mp ht
    exact ⟨(h d hd).ln, (h d hd).ok⟩
  refine ⟨a, b, Nat.succ_le_succ c, ?_, listText_strOk fun t ht => (hs t ht).2⟩
  have := listText_le (B := B) fun t ht => (hs t ht).1
  rw [shownAll_map, List.length_map] at this
  show (listText (PyData.shownAll ds)).length ≤ _
  rw [shownAll_map]
  exact this
theorem shw_mono {B B' n n' : Nat} {d : D} (h : Shw B n d) (hB : B ≤ B') (hn : n ≤ n') : Shw B' n' d := ⟨h.sh, h.nd, Nat.le_trans h.dp hn, Nat.le_trans h.ln hB, h.ok⟩
theorem ne_shw {a : Str} (h : PyData.strOk a = true) : neD (.str a) (.str a) = some (.bool false) := by
  have s : SeqAt.shaped (.str a) = true := by simp [SeqAt.shaped, PyData.canLay0, PyData.depth, h]
  unfold neD
  rw [s]
  simp [PyData.eqv]

/-! ### repr of tuples, texts and numbers: how long, and that it may be compared -/
theorem join_strOk : ∀ ts : List Str, (∀ t ∈ ts, PyData.strOk t = true) → PyData.strOk (Str.join ", " ts) = true
  | [], _ => strOk_of ""
  | [x], h => h x List.mem_cons_self
  | x :: y :: r, h => by
    show PyData.strOk (x ++ (", " : String) ++ Str.join ", " (y :: r)) = true
    exact strOk_app (strOk_app (h x List.mem_cons_self) (strOk_of _)) (join_strOk (y :: r) fun t ht => h t (List.mem_cons_of_mem _ ht))
theorem join_le {B : Nat} : ∀ ts : List Str, (∀ t ∈ ts, t.length ≤ B) → (Str.join ", " ts).length ≤ (B + 2) * ts.length
  | [], _ => by show 0 ≤ _; omega
  | [x], h => by
    have := h x List.mem_cons_self
    show x.length ≤ _
    simp only [List.length_cons, List.length_nil]
    omega
  | x :: y :: r, h => by
    have ih := join_le (y :: r) fun t ht => h t (List.mem_cons_of_mem _ ht)
    have hx := h x List.mem_cons_self
    have e2 : ((", " : String) : Str).length = 2 := rfl
    show (x ++ (", " : String) ++ Str.join ", " (y :: r)).length ≤ _
    rw [strLen_append, strLen_append, e2, List.length_cons, Nat.mul_add]
    omega
theorem tupleText_le {B : Nat} {ts : List Str} (h : ∀ t ∈ ts, t.length ≤ B) : (tupleText ts).length ≤ 3 + (B + 2) * ts.length := by
  unfold tupleText
  have := join_le ts h
  rw [strLen_append, strLen_append]
  have e1 : ((("(" : String) : Str)).length = 1 := rfl
  have e2 : ((if ts.length == 1 then ",)" else ")" : String) : Str).length ≤ 2 := by
    split <;> decide
  rw [e1]
  omega
theorem tupleText_strOk {ts : List Str} (h : ∀ t ∈ ts, PyData.strOk t = true) : PyData.strOk (tupleText ts) = true :=
  strOk_app (strOk_app (strOk_of _) (join_strOk _ h)) (strOk_of _)
theorem shw_all {B n : Nat} : ∀ xs : List D, (∀ d ∈ xs, Shw B n d) → PyData.showableAll xs = true ∧ PyData.hasDictAll xs = false ∧ PyData.depthAll xs ≤ n
  | [], _ => ⟨rfl, rfl, Nat.zero_le _⟩
  | x :: xs, hx => by
    obtain ⟨a, b, c⟩ := shw_all xs fun d hd => hx d (List.mem_cons_of_mem _ hd)
    have := hx x List.mem_cons_self
    refine ⟨?_, ?_, ?_⟩
    · show (x.showable && PyData.showableAll xs) = true
      rw [this.sh, a]; rfl
    · show (x.hasDict || PyData.hasDictAll xs) = false
      rw [this.nd, b]; rfl
    · show max x.depth (PyData.depthAll xs) ≤ n
      have := this.dp
      omega
theorem shw_tuple {B n : Nat} {ds : List D} (h : ∀ d ∈ ds, Shw B n d) : Shw (3 + (B + 2) * ds.length) (n + 1) (.tuple ds) := by
  obtain ⟨a, b, c⟩ := shw_all ds h
  have hs : ∀ t ∈ PyData.shownAll ds, t.length ≤ B ∧ PyData.strOk t = true := fun t ht => by
    rw [shownAll_map] at ht
    obtain ⟨d, hd, rfl⟩ := List.mem_map.mp ht
    exact ⟨(h d hd).ln, (h d hd).ok⟩
  refine ⟨a, b, Nat.succ_le_succ c, ?_, tupleText_strOk fun t ht => (hs t ht).2⟩
  have := tupleText_le (B := B) fun t ht => (hs t ht).1
  rw [shownAll_map, List.length_map] at this
  show (tupleText (PyData.shownAll ds)).length ≤ _
  rw [shownAll_map]
  exact this
mutual
def sz : D → Nat
  | .tuple xs => szs xs + 1
  | .list xs => szs xs + 1
  | _ => 1
def szs : List D → Nat
  | [] => 0
  | x :: xs => sz x + szs xs
end
/-! ### loops over a range; the cells of a script -/
theorem forL_rng {g : D → M Unit} {body : M Fl} (E : Nat → En → Prop) (B : Nat) : ∀ (m k : Nat) (ρ : En), E k ρ → k + m ≤ B → (∀ k ρ, k < B → E k ρ → ∃ ρ1 ρ2, g (.int (k : Nat)) ρ = some (.ok () ρ1) ∧ body ρ1 = some (.ok .nx ρ2) ∧ E (k + 1) ρ2) →
    ∃ ρ', mForL g body ((List.range' k m).map fun i : Nat => PyData.int (i : Nat)) ρ = some (.ok .nx ρ') ∧ E (k + m) ρ'
  | 0, k, ρ, e, _, _ => ⟨ρ, rfl, e⟩
  | m + 1, k, ρ, e, hB, h => by
    obtain ⟨ρ1, ρ2, e1, e2, e3⟩ := h k ρ (by omega) e
    obtain ⟨ρ', h1, h2⟩ := forL_rng E B m (k + 1) ρ2 e3 (by omega) h
    refine ⟨ρ', ?_, by rw [show k + (m + 1) = k + 1 + m by omega]; exact h2⟩
    rw [List.range'_succ, List.map_cons]
    unfold mForL
    rw [bind_is e1, bind_is e2]
    exact h1
theorem for_rng {ms : M (List D)} {g : D → M Unit} {body : M Fl} (E : Nat → En → Prop) (m : Nat) {ρ ρ1 : En} (h : ms ρ = some (.ok [.int (m : Nat)] ρ1)) (hm : m ≤ 1000000000) (e : E 0 ρ1) (st : ∀ k ρ, k < m → E k ρ → ∃ ρ1 ρ2, g (.int (k : Nat)) ρ = some (.ok () ρ1) ∧ body ρ1 = some (.ok .nx ρ2) ∧ E (k + 1) ρ2) :
    ∃ ρ', mFor (mRng1 ms) g body ρ = some (.ok .nx ρ') ∧ E m ρ' := by
  obtain ⟨ρ', h1, h2⟩ := forL_rng (g := g) (body := body) E m m 0 ρ1 e (by omega) st
  rw [Nat.zero_add] at h2
  refine ⟨ρ', ?_, h2⟩
  unfold mFor
  rw [bind_is (rng1_is h (rngOk_le (by omega) (by omega)))]
  rw [rngL_nat, List.range_eq_range']
  exact h1
theorem cells_rng {lo hi : Int} (hl : 0 ≤ lo) (h1 : lo ≤ hi) (h2 : hi ≤ 1000) (ns : List Int) (r : En) : ∃ M : Int, 0 ≤ M ∧ M ≤ hi ∧ mRng1 (mCons (mCallN max2D (mCons (mPure (.int lo)) (mCons (mCallN min2D (mCons (mPure (.int hi)) (mCons (mScrLen 0) (mPure [])))) (mPure [])))) (mPure [])) (.scr ns :: r) = some (.ok (rngL 0 M) (.scr ns :: r)) := by
  have h0 : ∃ M : Int, 0 ≤ M ∧ M ≤ hi ∧ max2D [.int lo, .int (if (ns.length : Int) < hi then (ns.length : Int) else hi)] = some (.int M) :=
    ⟨_, by split <;> split <;> omega, by split <;> split <;> omega, rfl⟩
  obtain ⟨M, q1, q2, q3⟩ := h0
  refine ⟨M, q1, q2, rng1_is ?_ (rngOk_le (by omega) (by omega))⟩
  simp [mCons, mCallN, min2D, mBind, mPure, mLift, mScrLen, mScr, q3]

/-! ### what a suite comes to -/
def Ret (m : M Fl) (ρ : En) (d : D) : Prop := ∃ ρ', m ρ = some (.ok (.rt d) ρ')
theorem Ret.nx {m1 m2 : M Fl} {ρ ρ1 : En} {d : D} (h : m1 ρ = some (.ok .nx ρ1)) (k : Ret m2 ρ1 d) : Ret (mSeq m1 m2) ρ d := by
  obtain ⟨ρ', e⟩ := k
  exact ⟨ρ', (seq_nx h).trans e⟩
theorem Ret.rt {m1 m2 : M Fl} {ρ : En} {d : D} (h : Ret m1 ρ d) : Ret (mSeq m1 m2) ρ d := by
  obtain ⟨ρ', e⟩ := h
  exact ⟨ρ', bind_is e⟩
theorem Ret.mif_t {c : M Bool} {a b : M Fl} {ρ ρ1 : En} {d : D} (h : c ρ = some (.ok true ρ1)) (k : Ret a ρ1 d) : Ret (mIf c a b) ρ d := by
  obtain ⟨ρ', e⟩ := k
  exact ⟨ρ', by unfold mIf; rw [bind_is h]; exact e⟩
theorem Ret.if_f {c : M Bool} {a m : M Fl} {ρ ρ1 : En} {d : D} (h : c ρ = some (.ok false ρ1)) (k : Ret m ρ1 d) : Ret (mSeq (mIf c a (mPure .nx)) m) ρ d :=
  Ret.nx (ρ1 := ρ1) (by unfold mIf; rw [bind_is h]; rfl) k
theorem Ret.if_r {c : M Bool} {a b m : M Fl} {ρ ρ1 : En} {d : D} (h : c ρ = some (.ok true ρ1)) (h2 : Ret a ρ1 d) : Ret (mSeq (mIf c a b) m) ρ d := Ret.rt (Ret.mif_t h h2)
theorem Ret.ret {m : M D} {ρ ρ1 : En} {d : D} (h : m ρ = some (.ok d ρ1)) : Ret (mRet m) ρ d := ⟨ρ1, by unfold mRet; rw [bind_is h]; rfl⟩
theorem Ret.is {m : M Fl} {ρ ρ1 : En} {d : D} (h : m ρ = some (.ok (.rt d) ρ1)) : Ret m ρ d := ⟨ρ1, h⟩
/-! ### rows held against one another: steps, tables -/
def sqI (t : Bool) (xs : List Int) : D := if t = true then .tuple (xs.map PyData.int) else .list (xs.map PyData.int)
theorem sqI_ix {t : Bool} {xs : List Int} {i : Nat} {x : Int} (h : xs[i]? = some x) : ixD (sqI t xs) (.int (i : Nat)) = some (.int x) := by
  have e : atI (xs.map PyData.int) (i : Nat) = some (.int x) := atI_nat' (by omega) (by rw [Int.toNat_natCast, List.getElem?_map, h]; rfl)
  cases t <;> exact e
theorem sqI_len {t : Bool} {xs : List Int} (h : xs.length ≤ 1000) : lenD [sqI t xs] = some (.int (xs.length : Nat)) := by
  have f : fit xs.length = true := fit_of2 (by omega)
  cases t <;> simp [sqI, lenD, f]
def costD (u l m : Int) : D := .dict (strKeys [("same", .int 0), ("unlike", .int u), ("lack", .int l), ("more", .int m)])
def spW (xs ys : List Int) : Ed.Sp → Str
  | .both i j => if xs[i]? = ys[j]? then "same" else "unlike"
  | .lack _ => "lack"
  | .more _ => "more"
def spR : Ed.Sp → List D
  | .both i j => [.int (i : Nat), .int (j : Nat)]
  | .lack i => [.int (i : Nat)]
  | .more j => [.int (j : Nat)]
def spD (xs ys : List Int) (s : Ed.Sp) : D := .tuple (.str (spW xs ys s) :: spR s)
theorem spD_0 {xs ys : List Int} {s : Ed.Sp} : ixD (spD xs ys s) (.int 0) = some (.str (spW xs ys s)) := by cases s <;> rfl
theorem dget_sp {u l m : Int} {xs ys : List Int} {s : Ed.Sp} : dgetD (costD u l m) (.str (spW xs ys s)) = some (.int (Ed.spC u l m xs ys s)) := by
  have q1 : Str.ofString "same" ≠ Str.ofString "unlike" := by decide +kernel
  have q2 : Str.ofString "same" ≠ Str.ofString "lack" := by decide +kernel
  have q3 : Str.ofString "same" ≠ Str.ofString "more" := by decide +kernel
  have q4 : Str.ofString "unlike" ≠ Str.ofString "lack" := by decide +kernel
  have q5 : Str.ofString "unlike" ≠ Str.ofString "more" := by decide +kernel
  have q6 : Str.ofString "lack" ≠ Str.ofString "more" := by decide +kernel
  unfold costD
  cases s with
  | both i j =>
    show dgetD _ (.str (if xs[i]? = ys[j]? then "same" else "unlike")) = some (.int (if xs[i]? = ys[j]? then 0 else u))
    by_cases h : xs[i]? = ys[j]?
    · rw [if_pos h, if_pos h]
      simp [dgetD, strKeys, lookD, keyD, objD]
    · rw [if_neg h, if_neg h]
      simp [dgetD, strKeys, lookD, keyD, q1, objD]
  | lack i => show dgetD _ (.str "lack") = some (.int l); simp [dgetD, strKeys, lookD, keyD, q2, q4, objD]
  | more j => show dgetD _ (.str "more") = some (.int m); simp [dgetD, strKeys, lookD, keyD, q3, q5, q6, objD]
theorem goes_sp {xs ys : List Int} {s : Ed.Sp} : tabD tb_GOES (.str (spW xs ys s)) = some (.tuple [.int (s.ov : Nat), .int (s.un : Nat)]) := by
  have hit : ∀ {z : Str} {d : D} {r : List (Str × D)}, tabD ((z, d) :: r) (.str z) = some d := fun {z d r} => by simp [tabD]
  have mis : ∀ {y z : Str} {d : D} {r : List (Str × D)}, (z == y) = false → tabD ((y, d) :: r) (.str z) = tabD r (.str z) := fun {y z d r} h => by simp [tabD, List.lookup, h]
  cases s with
  | both i j =>
    show tabD _ (.str (if xs[i]? = ys[j]? then "same" else "unlike")) = _
    by_cases h : xs[i]? = ys[j]?
    · rw [if_pos h]; exact hit
    · rw [if_neg h]; exact (mis (by decide +kernel)).trans hit
  | lack i => show tabD _ (.str "lack") = _; exact (mis (by decide +kernel)).trans ((mis (by decide +kernel)).trans hit)
  | more j => show tabD _ (.str "more") = _; exact (mis (by decide +kernel)).trans ((mis (by decide +kernel)).trans ((mis (by decide +kernel)).trans hit))
theorem steps_to_ok {t1 t2 : Bool} {xs ys : List Int} {i j : Nat} (hi : i ≤ xs.length) (hj : j ≤ ys.length) : fn__steps_to [sqI t1 xs, sqI t2 ys, .int (i : Nat), .int (j : Nat)] = some (.ok (.list ((Ed.stepsTo i j).map (spD xs ys)))) := by
  have f0 : fit 0 = true := rfl
  have f1 : fit 1 = true := rfl
  have f2 : fit 2 = true := rfl
  have f3 : fit 3 = true := rfl
  have gz : gtD (.int 0) (.int 0) = some (.bool false) := rfl
  have gs : ∀ n : Nat, gtD (.int ((n + 1 : Nat) : Int)) (.int 0) = some (.bool true) := fun n => by
    show some (PyData.bool (decide ((0 : Int) < ((n + 1 : Nat) : Int)))) = _
    rw [decide_eq_true (by omega)]
  have sb : ∀ n : Nat, subD (.int ((n + 1 : Nat) : Int)) (.int 1) = some (.int (n : Nat)) := fun n => by
    show some (PyData.int (((n + 1 : Nat) : Int) - 1)) = _
    rw [show ((n + 1 : Nat) : Int) - 1 = (n : Int) by omega]
  match i, j, hi, hj with
  | 0, 0, _, _ =>
    generalize sqI t1 xs = O
    generalize sqI t2 ys = P
    simp [fn__steps_to, runV, m__steps_to, env0, mSeq, mIf, mBol, mBinL, mBind, mLift, mPure, mPeek, mVar, bolD, mAsgN, mLstN, mStoreO, mDone, mAndT, mRet, gtD, iI, Ed.stepsTo, f0]
  | i + 1, 0, _, _ =>
    have g1 := gs i
    have s1 := sb i
    have e : (Ed.stepsTo (i + 1) 0).map (spD xs ys) = [.tuple [.str "lack", .int (i : Nat)]] := rfl
    rw [e]
    generalize sqI t1 xs = O
    generalize sqI t2 ys = P
    generalize ((i + 1 : Nat) : Int) = I at *
    simp [fn__steps_to, runV, m__steps_to, env0, mSeq, mIf, mBol, mBinL, mBind, mLift, mPure, mPeek, mVar, bolD, mAsgN, mLstN, mStoreO, mDone, mAndT, mRet, mDrop, mMut, mOwn, mPut, appD, mCons, mTup, gz, g1, s1, f0, f2]
  | 0, j + 1, _, _ =>
    have g1 := gs j
    have s1 := sb j
    have e : (Ed.stepsTo 0 (j + 1)).map (spD xs ys) = [.tuple [.str "more", .int (j : Nat)]] := rfl
    rw [e]
    generalize sqI t1 xs = O
    generalize sqI t2 ys = P
    generalize ((j + 1 : Nat) : Int) = J at *
    simp [fn__steps_to, runV, m__steps_to, env0, mSeq, mIf, mBol, mBinL, mBind, mLift, mPure, mPeek, mVar, bolD, mAsgN, mLstN, mStoreO, mDone, mAndT, mRet, mDrop, mMut, mOwn, mPut, appD, mCons, mTup, gz, g1, s1, f0, f2]
  | i + 1, j + 1, hi, hj =>
    have g1 := gs i
    have s1 := sb i
    have g2 := gs j
    have s2 := sb j
    have x1 : xs[i]? = some xs[i] := List.getElem?_eq_getElem (by omega)
    have x2 : ys[j]? = some ys[j] := List.getElem?_eq_getElem (by omega)
    have i1 := sqI_ix (t := t1) x1
    have i2 := sqI_ix (t := t2) x2
    have e : (Ed.stepsTo (i + 1) (j + 1)).map (spD xs ys) = [.tuple [.str (if xs[i]? = ys[j]? then "same" else "unlike"), .int (i : Nat), .int (j : Nat)], .tuple [.str "lack", .int (i : Nat)], .tuple [.str "more", .int (j : Nat)]] := rfl
    rw [e, x1, x2]
    have eqx := eq_int xs[i] ys[j]
    generalize sqI t1 xs = O at *
    generalize sqI t2 ys = P at *
    generalize ((i + 1 : Nat) : Int) = I at *
    generalize ((j + 1 : Nat) : Int) = J at *
    generalize xs[i] = x at *
    generalize ys[j] = y at *
    by_cases h : x = y
    · rw [decide_eq_true h] at eqx
      rw [if_pos (congrArg some h)]
      simp [fn__steps_to, runV, m__steps_to, env0, mSeq, mIf, mBol, mBin, mBinL, mBind, mLift, mPure, mPeek, mVar, bolD, mAsgN, mLstN, mStoreO, mDone, mAndT, mRet, mDrop, mMut, mOwn, mPut, appD, mCons, mTup, g1, s1, g2, s2, i1, i2, eqx, f0, f1, f2, f3]
    · rw [decide_eq_false h] at eqx
      rw [if_neg fun z => h (Option.some.inj z)]
      simp [fn__steps_to, runV, m__steps_to, env0, mSeq, mIf, mBol, mBin, mBinL, mBind, mLift, mPure, mPeek, mVar, bolD, mAsgN, mLstN, mStoreO, mDone, mAndT, mRet, mDrop, mMut, mOwn, mPut, appD, mCons, mTup, g1, s1, g2, s2, i1, i2, eqx, f0, f1, f2, f3]
theorem behind_ok {u l m : Int} {xs ys : List Int} {i j : Nat} {s : Ed.Sp} {T : Nat → Nat → Int} {TB R : D} (h : s ∈ Ed.stepsTo i j) (h1 : ixD TB (.int ((i - s.ov : Nat) : Int)) = some R) (h2 : ixD R (.int ((j - s.un : Nat) : Int)) = some (.int (T (i - s.ov) (j - s.un)))) :
    fn__behind [TB, costD u l m, spD xs ys s, .int (i : Nat), .int (j : Nat)] = some (.ok (.int (Ed.behind u l m xs ys T i j s))) := by
  have hle : s.ov ≤ i ∧ s.un ≤ j := by
    rcases Ed.mem_to h with ⟨a, b, rfl, rfl, rfl⟩ | ⟨a, rfl, rfl⟩ | ⟨b, rfl, rfl⟩
    · exact ⟨Nat.le_add_left 1 a, Nat.le_add_left 1 b⟩
    · exact ⟨Nat.le_add_left 1 a, Nat.zero_le _⟩
    · exact ⟨Nat.zero_le _, Nat.le_add_left 1 b⟩
  have s1 : subD (.int (i : Nat)) (.int (s.ov : Nat)) = some (.int ((i - s.ov : Nat) : Int)) := by
    show some (PyData.int ((i : Int) - (s.ov : Int))) = _
    rw [show (i : Int) - (s.ov : Int) = ((i - s.ov : Nat) : Int) by omega]
  have s2 : subD (.int (j : Nat)) (.int (s.un : Nat)) = some (.int ((j - s.un : Nat) : Int)) := by
    show some (PyData.int ((j : Int) - (s.un : Int))) = _
    rw [show (j : Int) - (s.un : Int) = ((j - s.un : Nat) : Int) by omega]
  have ad : ∀ a b : Int, addD (.int a) (.int b) = some (.int (a + b)) := fun _ _ => rfl
  have w := spD_0 (xs := xs) (ys := ys) (s := s)
  have g := goes_sp (xs := xs) (ys := ys) (s := s)
  have d := dget_sp (u := u) (l := l) (m := m) (xs := xs) (ys := ys) (s := s)
  have f2 : fit 2 = true := rfl
  unfold Ed.behind
  generalize spD xs ys s = SD at *
  generalize costD u l m = CD at *
  generalize spW xs ys s = SW at *
  generalize Ed.spC u l m xs ys s = SC at *
  generalize T (i - s.ov) (j - s.un) = TV at *
  generalize ((i - s.ov : Nat) : Int) = I at *
  generalize ((j - s.un : Nat) : Int) = J at *
  simp [fn__behind, runV, m__behind, env0, mSeq, mAsg, mGIx, mBin, mBinL, mBind, mLift, mPure, mPeek, mVar, gTupD, gCons2, gsNil, mStore, mDone, mRet, mDGet, s1, s2, w, g, d, h1, h2, ad]
/-! the table -/
def rowT (T : Nat → Nat → Int) (i k : Nat) : List D := (List.range k).map fun j => PyData.int (T i j)
def tabD_ (T : Nat → Nat → Int) (n k : Nat) : D := .tuple ((List.range (n + 1)).map fun i => .tuple (rowT T i (k + 1)))
def tabN (T : Nat → Nat → Int) (k i j : Nat) : List (List D) := ((List.range i).map fun a => rowT T a (k + 1)) ++ [rowT T i j]
theorem rowT_ix {T : Nat → Nat → Int} {i j k : Nat} (h : j < k) : atI (rowT T i k) (j : Nat) = some (.int (T i j)) := by
  refine atI_nat' (by omega) ?_
  unfold rowT
  rw [Int.toNat_natCast, List.getElem?_map, List.getElem?_range h]; rfl
theorem rowT_len (T : Nat → Nat → Int) (i k : Nat) : (rowT T i k).length = k := by unfold rowT; rw [List.length_map, List.length_range]
theorem tabN_len (T : Nat → Nat → Int) (k i j : Nat) : (tabN T k i j).length = i + 1 := by unfold tabN; rw [List.length_append, List.length_map, List.length_range]; rfl
theorem tabN_lt {T : Nat → Nat → Int} {k i j a : Nat} (h : a < i) : (tabN T k i j)[a]? = some (rowT T a (k + 1)) := by
  unfold tabN
  rw [List.getElem?_append_left (by rw [List.length_map, List.length_range]; exact h), List.getElem?_map, List.getElem?_range h]; rfl
theorem tabN_eq {T : Nat → Nat → Int} {k i j : Nat} : (tabN T k i j)[i]? = some (rowT T i j) := by
  unfold tabN
  rw [List.getElem?_append_right (by rw [List.length_map, List.length_range]; exact Nat.le_refl _), List.length_map, List.length_range, Nat.sub_self]; rfl
theorem tabN_ix {T : Nat → Nat → Int} {k i j : Nat} {s : Ed.Sp} (h : s ∈ Ed.stepsTo i j) (hj : j ≤ k) : ∃ R, ixD (.list ((tabN T k i j).map PyData.list)) (.int ((i - s.ov : Nat) : Int)) = some (.list R) ∧ ixD (.list R) (.int ((j - s.un : Nat) : Int)) = some (.int (T (i - s.ov) (j - s.un))) := by
  have at_ : ∀ (a : Nat) (R : List D), (tabN T k i j)[a]? = some R → ixD (.list ((tabN T k i j).map PyData.list)) (.int (a : Nat)) = some (.list R) := fun a R e => atI_nat' (by omega) (by rw [Int.toNat_natCast, List.getElem?_map, e]; rfl)
  rcases Ed.mem_to h with ⟨a, b, rfl, rfl, rfl⟩ | ⟨a, rfl, rfl⟩ | ⟨b, rfl, rfl⟩
  · exact ⟨_, at_ a _ (tabN_lt (by omega)), rowT_ix (by show b + 1 - 1 < _; omega)⟩
  · exact ⟨_, at_ a _ (tabN_lt (by omega)), rowT_ix (by show j - 0 < _; omega)⟩
  · exact ⟨_, at_ i _ tabN_eq, rowT_ix (by show b + 1 - 1 < _; omega)⟩

section
variable {u l m : Int} {xs ys : List Int} {t1 t2 : Bool}
theorem ways_ok {T : Nat → Nat → Int} {i j : Nat} {a6 a7 : Sl} (hi : i ≤ xs.length) (hj : j ≤ ys.length) :
    C__table_of_0 [.val (sqI t1 xs), .val (sqI t2 ys), .val (costD u l m), .nst (tabN T ys.length i j), .val (.int (i : Nat)), .val (.int (j : Nat)), a6, a7, .un] = some (.ok ((Ed.stepsTo i j).map fun s => PyData.int (Ed.behind u l m xs ys T i j s)) [.val (sqI t1 xs), .val (sqI t2 ys), .val (costD u l m), .nst (tabN T ys.length i j), .val (.int (i : Nat)), .val (.int (j : Nat)), a6, a7, .un]) := by
  have hs := steps_to_ok (t1 := t1) (t2 := t2) (xs := xs) (ys := ys) hi hj
  have l3 : (Ed.stepsTo i j).length ≤ 3 := by
    unfold Ed.stepsTo
    split <;> split <;> split <;> simp
  refine comp_is (vs := [8]) (ds := (Ed.stepsTo i j).map (spD xs ys)) (ρ1 := [.val (sqI t1 xs), .val (sqI t2 ys), .val (costD u l m), .nst (tabN T ys.length i j), .val (.int (i : Nat)), .val (.int (j : Nat)), a6, a7, .un]) (ρe := [.val (sqI t1 xs), .val (sqI t2 ys), .val (costD u l m), .nst (tabN T ys.length i j), .val (.int (i : Nat)), .val (.int (j : Nat)), a6, a7, .un]) ?_ (fit_of2 (by rw [List.length_map]; omega)) ?_
  · generalize (Ed.stepsTo i j).map (spD xs ys) = S at *
    generalize sqI t1 xs = O at *
    generalize sqI t2 ys = P at *
    generalize costD u l m = CD at *
    generalize tabN T ys.length i j = N at *
    simp [mItems, itemsD, mCallV, mRs, mCons, mVar, mBind, mPure, mLift, hs]
  · refine go_mapA (spD xs ys) _ (Ed.stepsTo i j) fun s hsm => ?_
    obtain ⟨R, h1, h2⟩ := tabN_ix (T := T) (k := ys.length) hsm hj
    have hb := behind_ok (u := u) (l := l) (m := m) (xs := xs) (ys := ys) (T := T) hsm h1 h2
    generalize tabN T ys.length i j = N at *
    generalize spD xs ys s = S at *
    generalize sqI t1 xs = O at *
    generalize sqI t2 ys = P at *
    generalize costD u l m = CD at *
    generalize Ed.behind u l m xs ys T i j s = B at *
    refine ⟨[.val O, .val P, .val CD, .nst N, .val (.int (i : Nat)), .val (.int (j : Nat)), a6, a7, .val S], [.val O, .val P, .val CD, .nst N, .val (.int (i : Nat)), .val (.int (j : Nat)), a6, a7, .val S], by simp [mStore, unsE], ?_, by simp [unsE]⟩
    simp [mCallPN, mNst, mCons, mVar, mBind, mPure, mLift, scalD, hb]
theorem rowT_succ (T : Nat → Nat → Int) (i j : Nat) : rowT T i (j + 1) = rowT T i j ++ [.int (T i j)] := by
  unfold rowT
  rw [List.range_succ, List.map_append]; rfl
theorem tabN_set (T : Nat → Nat → Int) (k i j : Nat) : (tabN T k i j).set i (rowT T i (j + 1)) = tabN T k i (j + 1) := by
  unfold tabN
  have := set_last ((List.range i).map fun a => rowT T a (k + 1)) (rowT T i j) (rowT T i (j + 1))
  rw [List.length_map, List.length_range] at this
  exact this
theorem tabN_end (T : Nat → Nat → Int) (k i : Nat) : tabN T k i (k + 1) = (List.range (i + 1)).map fun a => rowT T a (k + 1) := by
  unfold tabN
  rw [List.range_succ, List.map_append]; rfl
theorem min_ok (ns : List Int) : minDefI 0 (.list (ns.map PyData.int)) = some (.int (Ed.minL ns)) := by
  show (toInts (ns.map PyData.int)).map _ = _
  rw [toInts_map]
  cases ns <;> rfl
theorem cell_ok {T : Nat → Nat → Int} {i j : Nat} {a6 a7 : Sl} (hT : T = Ed.dist u l m xs ys) (hi : i ≤ xs.length) (hj : j ≤ ys.length) (h2 : ys.length ≤ 1000) :
    ∃ b6, L__table_of_0 [.val (sqI t1 xs), .val (sqI t2 ys), .val (costD u l m), .nst (tabN T ys.length i j), .val (.int (i : Nat)), .val (.int (j : Nat)), a6, a7, .un] = some (.ok .nx [.val (sqI t1 xs), .val (sqI t2 ys), .val (costD u l m), .nst (tabN T ys.length i (j + 1)), .val (.int (i : Nat)), .val (.int (j : Nat)), b6, a7, .un]) := by
  have hw := ways_ok (u := u) (l := l) (m := m) (t1 := t1) (t2 := t2) (T := T) (a6 := a6) (a7 := a7) hi hj
  have hm : minDefI 0 (.list ((Ed.stepsTo i j).map fun s => PyData.int (Ed.behind u l m xs ys T i j s))) = some (.int (T i j)) := by
    have := min_ok ((Ed.stepsTo i j).map (Ed.behind u l m xs ys T i j))
    rw [List.map_map] at this
    rw [hT, Ed.dist_min, ← hT] at this
    exact this
  have hat : atN (tabN T ys.length i j) (.int (i : Nat)) = some (i, rowT T i j) := by
    unfold atN
    have : ixN (tabN T ys.length i j).length (i : Int) = some i := by rw [tabN_len]; unfold ixN; simp; omega
    simp only [this, Option.bind_some, tabN_eq, Option.map_some]
  have hf : fit (rowT T i j).length = true := fit_of2 (by rw [rowT_len]; omega)
  have hset : (tabN T ys.length i j).set i (rowT T i j ++ [.int (T i j)]) = tabN T ys.length i (j + 1) := by rw [← rowT_succ, tabN_set]
  refine ⟨.own ((Ed.stepsTo i j).map fun s => PyData.int (Ed.behind u l m xs ys T i j s)), ?_⟩
  generalize ((Ed.stepsTo i j).map fun s => PyData.int (Ed.behind u l m xs ys T i j s)) = WS at *
  generalize tabN T ys.length i (j + 1) = N2 at *
  generalize tabN T ys.length i j = N at *
  generalize rowT T i j = RT at *
  generalize T i j = V at *
  generalize sqI t1 xs = O at *
  generalize sqI t2 ys = P at *
  generalize costD u l m = CD at *
  unfold L__table_of_0
  rw [seq_nx (ρ' := [.val O, .val P, .val CD, .nst N, .val (.int (i : Nat)), .val (.int (j : Nat)), .own WS, a7, .un]) (by unfold mAsgN; rw [bind_is hw]; rfl)]
  simp [mDrop, mAppN, mNst, mEmpty, mPutN, mMinDefI, mVar, mBind, mPure, mPeek, mLift, hm, hat, hf, hset]
theorem mVal_is {m : M (List D)} {ρ ρ' : En} {ds : List D} (h : m ρ = some (.ok ds ρ')) : mVal m ρ = some (.ok (.list ds) ρ') := by
  unfold mVal
  rw [bind_is h]; rfl
theorem add1 (n : Nat) : addD (.int (n : Nat)) (.int 1) = some (.int ((n + 1 : Nat) : Int)) := by
  show some (PyData.int ((n : Int) + 1)) = _
  rw [show (n : Int) + 1 = ((n + 1 : Nat) : Int) by omega]
theorem row_ok {T : Nat → Nat → Int} {i : Nat} {a5 a6 a7 : Sl} (hT : T = Ed.dist u l m xs ys) (hi : i ≤ xs.length) (h1 : xs.length ≤ 1000) (h2 : ys.length ≤ 1000) :
    ∃ b5 b6, L__table_of_1 [.val (sqI t1 xs), .val (sqI t2 ys), .val (costD u l m), .nst ((List.range i).map fun a => rowT T a (ys.length + 1)), .val (.int (i : Nat)), a5, a6, a7, .un] = some (.ok .nx [.val (sqI t1 xs), .val (sqI t2 ys), .val (costD u l m), .nst ((List.range (i + 1)).map fun a => rowT T a (ys.length + 1)), .val (.int (i : Nat)), b5, b6, a7, .un]) := by
  have hl := sqI_len (t := t2) (xs := ys) h2
  have e0 : ((List.range i).map fun a => rowT T a (ys.length + 1)) ++ [[]] = tabN T ys.length i 0 := rfl
  have fi : fit ((List.range i).map fun a => rowT T a (ys.length + 1)).length = true := by
    rw [List.length_map, List.length_range]
    exact fit_of2 (by omega)
  have s1 : mDrop (mPushN 3 (mLstN (mPure []))) [.val (sqI t1 xs), .val (sqI t2 ys), .val (costD u l m), .nst ((List.range i).map fun a => rowT T a (ys.length + 1)), .val (.int (i : Nat)), a5, a6, a7, .un] = some (.ok .nx [.val (sqI t1 xs), .val (sqI t2 ys), .val (costD u l m), .nst (tabN T ys.length i 0), .val (.int (i : Nat)), a5, a6, a7, .un]) := by
    rw [← e0]
    generalize ((List.range i).map fun a => rowT T a (ys.length + 1)) = N at *
    generalize sqI t1 xs = O at *
    generalize sqI t2 ys = P at *
    generalize costD u l m = CD at *
    have f0 : fit 0 = true := rfl
    simp [mDrop, mPushN, mNst, mPutN, mLstN, mLift, mBind, mPure, fi, f0]
  have hm : ∀ r : En, mCons (mBin addD (mCall1 lenD (mPeek 1)) (mPure (.int 1))) (mPure []) (.val (sqI t1 xs) :: .val (sqI t2 ys) :: r) = some (.ok [.int ((ys.length + 1 : Nat) : Int)] (.val (sqI t1 xs) :: .val (sqI t2 ys) :: r)) := fun r => by
    have a1 := add1 ys.length
    generalize sqI t1 xs = O at *
    generalize sqI t2 ys = P at *
    simp [mCons, mBin, mCall1, mBind, mPure, mPeek, mLift, hl, a1]
  obtain ⟨ρ', h, b5, b6, rfl⟩ := for_rng (g := mStore 5) (body := L__table_of_0) (fun j ρ => ∃ b5 b6, ρ = [.val (sqI t1 xs), .val (sqI t2 ys), .val (costD u l m), .nst (tabN T ys.length i j), .val (.int (i : Nat)), b5, b6, a7, .un]) (ys.length + 1) (hm [.val (costD u l m), .nst (tabN T ys.length i 0), .val (.int (i : Nat)), a5, a6, a7, .un]) (by omega) ⟨_, _, rfl⟩ (by
    rintro j ρ hj ⟨b5, b6, rfl⟩
    obtain ⟨c6, hc⟩ := cell_ok (u := u) (l := l) (m := m) (t1 := t1) (t2 := t2) (T := T) (i := i) (j := j) (a6 := b6) (a7 := a7) hT hi (by omega) h2
    exact ⟨_, _, rfl, hc, _, _, rfl⟩)
  refine ⟨b5, b6, ?_⟩
  unfold L__table_of_1
  rw [seq_nx s1, ← tabN_end]
  exact h
theorem table_of_ok {T : Nat → Nat → Int} (hT : T = Ed.dist u l m xs ys) (h1 : xs.length ≤ 1000) (h2 : ys.length ≤ 1000) : fn__table_of [sqI t1 xs, sqI t2 ys, costD u l m] = some (.ok (tabD_ T xs.length ys.length)) := by
  have hl := sqI_len (t := t1) (xs := xs) h1
  have hm : ∀ r : En, mCons (mBin addD (mCall1 lenD (mPeek 0)) (mPure (.int 1))) (mPure []) (.val (sqI t1 xs) :: r) = some (.ok [.int ((xs.length + 1 : Nat) : Int)] (.val (sqI t1 xs) :: r)) := fun r => by
    have a1 := add1 xs.length
    generalize sqI t1 xs = O at *
    simp [mCons, mBin, mCall1, mBind, mPure, mPeek, mLift, hl, a1]
  obtain ⟨ρ', h, b4, b5, b6, rfl⟩ := for_rng (g := mStore 4) (body := L__table_of_1) (fun i ρ => ∃ b4 b5 b6, ρ = [.val (sqI t1 xs), .val (sqI t2 ys), .val (costD u l m), .nst ((List.range i).map fun a => rowT T a (ys.length + 1)), b4, b5, b6, .un, .un]) (xs.length + 1) (hm [.val (sqI t2 ys), .val (costD u l m), .nst [], .un, .un, .un, .un, .un]) (by omega) ⟨_, _, _, rfl⟩ (by
    rintro i ρ hi ⟨b4, b5, b6, rfl⟩
    obtain ⟨c5, c6, hc⟩ := row_ok (u := u) (l := l) (m := m) (t1 := t1) (t2 := t2) (T := T) (i := i) (a5 := b5) (a6 := b6) (a7 := .un) hT (by omega) h1 h2
    exact ⟨_, _, rfl, hc, _, _, _, rfl⟩)
  have s2 : R__table_of_1 [.val (sqI t1 xs), .val (sqI t2 ys), .val (costD u l m), .nst [], .un, .un, .un, .un, .un] = some (.ok .nx [.val (sqI t1 xs), .val (sqI t2 ys), .val (costD u l m), .nst ((List.range (xs.length + 1)).map fun a => rowT T a (ys.length + 1)), b4, b5, b6, .un, .un]) := h
  have hc : C__table_of_1 [.val (sqI t1 xs), .val (sqI t2 ys), .val (costD u l m), .nst ((List.range (xs.length + 1)).map fun a => rowT T a (ys.length + 1)), b4, b5, b6, .un, .un] = some (.ok ((List.range (xs.length + 1)).map fun a => PyData.tuple (rowT T a (ys.length + 1))) [.val (sqI t1 xs), .val (sqI t2 ys), .val (costD u l m), .val (.list (((List.range (xs.length + 1)).map fun a => rowT T a (ys.length + 1)).map PyData.list)), b4, b5, b6, .un, .un]) := by
    have hmm : ((List.range (xs.length + 1)).map fun a => rowT T a (ys.length + 1)).map PyData.list = (List.range (xs.length + 1)).map fun a => PyData.list (rowT T a (ys.length + 1)) := by rw [List.map_map]; rfl
    refine comp_is (vs := [7]) (ds := (List.range (xs.length + 1)).map fun a => PyData.list (rowT T a (ys.length + 1))) (ρ1 := [.val (sqI t1 xs), .val (sqI t2 ys), .val (costD u l m), .val (.list (((List.range (xs.length + 1)).map fun a => rowT T a (ys.length + 1)).map PyData.list)), b4, b5, b6, .un, .un]) (ρe := [.val (sqI t1 xs), .val (sqI t2 ys), .val (costD u l m), .val (.list (((List.range (xs.length + 1)).map fun a => rowT T a (ys.length + 1)).map PyData.list)), b4, b5, b6, .un, .un]) ?_ (fit_of2 (by rw [List.length_map, List.length_range]; omega)) ?_
    · rw [← hmm]
      generalize ((List.range (xs.length + 1)).map fun a => rowT T a (ys.length + 1)) = N
      generalize sqI t1 xs = O at *
      generalize sqI t2 ys = P at *
      generalize costD u l m = CD at *
      simp [mItems, itemsD, mVarA, mBind, mPure, mLift]
    · generalize ((List.range (xs.length + 1)).map fun a => rowT T a (ys.length + 1)).map PyData.list = NL
      refine go_mapA (fun a => PyData.list (rowT T a (ys.length + 1))) (fun a => PyData.tuple (rowT T a (ys.length + 1))) (List.range (xs.length + 1)) fun a _ => ?_
      have hf : fit (rowT T a (ys.length + 1)).length = true := fit_of2 (by rw [rowT_len]; omega)
      generalize rowT T a (ys.length + 1) = RT at *
      generalize sqI t1 xs = O at *
      generalize sqI t2 ys = P at *
      generalize costD u l m = CD at *
      exact ⟨[.val O, .val P, .val CD, .val (.list NL), b4, b5, b6, .val (.list RT), .un], [.val O, .val P, .val CD, .val (.list NL), b4, b5, b6, .val (.list RT), .un], by simp [mStore, unsE], by simp [mCall1, tupleD, mBind, mPure, mPeek, mLift, hf], by simp [unsE]⟩
  have ht : tupleD [.list ((List.range (xs.length + 1)).map fun a => PyData.tuple (rowT T a (ys.length + 1)))] = some (tabD_ T xs.length ys.length) := by
    have hf : fit ((List.range (xs.length + 1)).map fun a => PyData.tuple (rowT T a (ys.length + 1))).length = true := fit_of2 (by rw [List.length_map, List.length_range]; omega)
    unfold tabD_
    generalize ((List.range (xs.length + 1)).map fun a => PyData.tuple (rowT T a (ys.length + 1))) = Z at *
    simp [tupleD, hf]
  have hv := mVal_is hc
  generalize tabD_ T xs.length ys.length = TB at *
  generalize ((List.range (xs.length + 1)).map fun a => PyData.tuple (rowT T a (ys.length + 1))) = Z at *
  generalize (((List.range (xs.length + 1)).map fun a => rowT T a (ys.length + 1)).map PyData.list) = NL at *
  generalize ((List.range (xs.length + 1)).map fun a => rowT T a (ys.length + 1)) = N at *
  generalize sqI t1 xs = O at *
  generalize sqI t2 ys = P at *
  generalize costD u l m = CD at *
  unfold fn__table_of runV m__table_of
  rw [show env0 9 [O, P, CD] = [.val O, .val P, .val CD, .un, .un, .un, .un, .un, .un] from rfl]
  rw [seq_nx (ρ' := [.val O, .val P, .val CD, .nst [], .un, .un, .un, .un, .un]) (by simp [mNewN]), seq_nx s2]
  simp [mRet, mCall1, mBind, mLift, mPure, hv, ht]
end

theorem tabD_ix {T : Nat → Nat → Int} {n k i : Nat} (h : i ≤ n) : ixD (tabD_ T n k) (.int (i : Nat)) = some (.tuple (rowT T i (k + 1))) :=
  atI_nat' (by omega) (by rw [Int.toNat_natCast, List.getElem?_map, List.getElem?_range (by omega)]; rfl)
theorem rowT_ixT {T : Nat → Nat → Int} {i j k : Nat} (h : j ≤ k) : ixD (.tuple (rowT T i (k + 1))) (.int (j : Nat)) = some (.int (T i j)) := rowT_ix (by omega)
section
variable {u l m : Int} {xs ys : List Int} {t1 t2 : Bool}
theorem to_len (i j : Nat) : (Ed.stepsTo i j).length ≤ 3 := by
  unfold Ed.stepsTo
  split <;> split <;> split <;> simp
/-- what a table allows at a place, by a step that ends there -/
theorem behindT {T : Nat → Nat → Int} {n k i j : Nat} {s : Ed.Sp} (h : s ∈ Ed.stepsTo i j) (hi : i ≤ n) (hj : j ≤ k) : fn__behind [tabD_ T n k, costD u l m, spD xs ys s, .int (i : Nat), .int (j : Nat)] = some (.ok (.int (Ed.behind u l m xs ys T i j s))) :=
  behind_ok h (tabD_ix (by omega)) (rowT_ixT (by omega))
theorem back_ways {T : Nat → Nat → Int} {i j : Nat} {a4 a7 a8 a9 : Sl} (hi : i ≤ xs.length) (hj : j ≤ ys.length) :
    C__steps_by_0 [.val (sqI t1 xs), .val (sqI t2 ys), .val (tabD_ T xs.length ys.length), .val (costD u l m), a4, .val (.int (i : Nat)), .val (.int (j : Nat)), a7, a8, a9, .un] = some (.ok (((Ed.stepsTo i j).filter fun s => decide (Ed.behind u l m xs ys T i j s = T i j)).map (spD xs ys)) [.val (sqI t1 xs), .val (sqI t2 ys), .val (tabD_ T xs.length ys.length), .val (costD u l m), a4, .val (.int (i : Nat)), .val (.int (j : Nat)), a7, a8, a9, .un]) := by
  have hs := steps_to_ok (t1 := t1) (t2 := t2) (xs := xs) (ys := ys) hi hj
  have l3 := to_len i j
  have i1 := tabD_ix (T := T) (n := xs.length) (k := ys.length) hi
  have i2 := rowT_ixT (T := T) (i := i) hj
  have hgo : mGo [10] (mStore 10) (mBol (mBin eqD (mCallV 5 fn__behind (mCons (mVar 2) (mCons (mVar 3) (mCons (mVar 10) (mCons (mVar 5) (mCons (mVar 6) (mPure []))))))) (mBin ixD (mBinL ixD 2 (mPeek 5)) (mPeek 6)))) (mVar 10) ((Ed.stepsTo i j).map (spD xs ys)) [.val (sqI t1 xs), .val (sqI t2 ys), .val (tabD_ T xs.length ys.length), .val (costD u l m), a4, .val (.int (i : Nat)), .val (.int (j : Nat)), a7, a8, a9, .un] = some (.ok ((Ed.stepsTo i j).flatMap fun s => if Ed.behind u l m xs ys T i j s = T i j then [spD xs ys s] else []) [.val (sqI t1 xs), .val (sqI t2 ys), .val (tabD_ T xs.length ys.length), .val (costD u l m), a4, .val (.int (i : Nat)), .val (.int (j : Nat)), a7, a8, a9, .un]) := by
    refine go_fm (spD xs ys) _ (Ed.stepsTo i j) fun s hsm => ?_
    have hb := behindT (u := u) (l := l) (m := m) (xs := xs) (ys := ys) (T := T) hsm hi hj
    have he := eq_int (Ed.behind u l m xs ys T i j s) (T i j)
    generalize spD xs ys s = S at *
    generalize sqI t1 xs = O at *
    generalize sqI t2 ys = P at *
    generalize tabD_ T xs.length ys.length = TB at *
    generalize PyData.tuple (rowT T i (ys.length + 1)) = RT at *
    generalize costD u l m = CD at *
    generalize Ed.behind u l m xs ys T i j s = B at *
    generalize T i j = V at *
    refine ⟨[.val O, .val P, .val TB, .val CD, a4, .val (.int (i : Nat)), .val (.int (j : Nat)), a7, a8, a9, .val S], [.val O, .val P, .val TB, .val CD, a4, .val (.int (i : Nat)), .val (.int (j : Nat)), a7, a8, a9, .val S], decide (B = V), by simp [mStore, unsE], by simp [mBol, bolD, mBin, mBinL, mCallV, mRs, mCons, mVar, mBind, mPure, mPeek, mLift, hb, i1, i2, he], fun q => ?_, fun q => ?_⟩
    · exact ⟨S, [.val O, .val P, .val TB, .val CD, a4, .val (.int (i : Nat)), .val (.int (j : Nat)), a7, a8, a9, .val S], by simp [mVar], by simp [unsE], by rw [if_pos (of_decide_eq_true q)]⟩
    · exact ⟨by simp [unsE], by rw [if_neg (of_decide_eq_false q)]⟩
  have hfm : ∀ L : List Ed.Sp, (L.flatMap fun s => if Ed.behind u l m xs ys T i j s = T i j then [spD xs ys s] else []) = (L.filter fun s => decide (Ed.behind u l m xs ys T i j s = T i j)).map (spD xs ys) := fun L => by
    induction L with
    | nil => rfl
    | cons a L ih =>
      rw [List.flatMap_cons, ih]
      by_cases q : Ed.behind u l m xs ys T i j a = T i j
      · rw [if_pos q, List.filter_cons_of_pos (by exact decide_eq_true q)]; rfl
      · rw [if_neg q, List.filter_cons_of_neg (by simpa using q)]; rfl
  rw [hfm] at hgo
  refine comp_is (vs := [10]) (ds := (Ed.stepsTo i j).map (spD xs ys)) (ρ1 := [.val (sqI t1 xs), .val (sqI t2 ys), .val (tabD_ T xs.length ys.length), .val (costD u l m), a4, .val (.int (i : Nat)), .val (.int (j : Nat)), a7, a8, a9, .un]) (ρe := [.val (sqI t1 xs), .val (sqI t2 ys), .val (tabD_ T xs.length ys.length), .val (costD u l m), a4, .val (.int (i : Nat)), .val (.int (j : Nat)), a7, a8, a9, .un]) ?_ (fit_of2 (by rw [List.length_map]; omega)) hgo
  clear hgo
  generalize (Ed.stepsTo i j).map (spD xs ys) = S at *
  generalize sqI t1 xs = O at *
  generalize sqI t2 ys = P at *
  generalize tabD_ T xs.length ys.length = TB at *
  generalize costD u l m = CD at *
  simp [mItems, itemsD, mCallV, mRs, mCons, mVar, mBind, mPure, mLift, hs]
theorem back_turn {T : Nat → Nat → Int} {i j : Nat} {F : List D} {s : Ed.Sp} {W : List D} {a7 a8 a9 : Sl} (hsm : s ∈ Ed.stepsTo i j)
    (hw : C__steps_by_0 [.val (sqI t1 xs), .val (sqI t2 ys), .val (tabD_ T xs.length ys.length), .val (costD u l m), .own F, .val (.int (i : Nat)), .val (.int (j : Nat)), a7, a8, a9, .un] = some (.ok (spD xs ys s :: W) [.val (sqI t1 xs), .val (sqI t2 ys), .val (tabD_ T xs.length ys.length), .val (costD u l m), .own F, .val (.int (i : Nat)), .val (.int (j : Nat)), a7, a8, a9, .un])) (hF : F.length ≤ 100000) :
    L__steps_by_0 [.val (sqI t1 xs), .val (sqI t2 ys), .val (tabD_ T xs.length ys.length), .val (costD u l m), .own F, .val (.int (i : Nat)), .val (.int (j : Nat)), a7, a8, a9, .un] = some (.ok .nx [.val (sqI t1 xs), .val (sqI t2 ys), .val (tabD_ T xs.length ys.length), .val (costD u l m), .own (F ++ [spD xs ys s]), .val (.int ((i - s.ov : Nat) : Int)), .val (.int ((j - s.un : Nat) : Int)), .own (spD xs ys s :: W), .val (.int (s.ov : Nat)), .val (.int (s.un : Nat)), .un]) := by
  obtain ⟨h1, h2, _, _⟩ := Ed.mem_at hsm
  have s1 : subD (.int (i : Nat)) (.int (s.ov : Nat)) = some (.int ((i - s.ov : Nat) : Int)) := by
    show some (PyData.int ((i : Int) - (s.ov : Int))) = _
    rw [show (i : Int) - (s.ov : Int) = ((i - s.ov : Nat) : Int) by omega]
  have s2 : subD (.int (j : Nat)) (.int (s.un : Nat)) = some (.int ((j - s.un : Nat) : Int)) := by
    show some (PyData.int ((j : Int) - (s.un : Int))) = _
    rw [show (j : Int) - (s.un : Int) = ((j - s.un : Nat) : Int) by omega]
  have w := spD_0 (xs := xs) (ys := ys) (s := s)
  have g := goes_sp (xs := xs) (ys := ys) (s := s)
  have f2 : fit 2 = true := rfl
  have fF : fit F.length = true := fit_of2 (by omega)
  have i0 : ∀ a : D, ixD (.list (a :: W)) (.int 0) = some a := fun a => atI_nat' (by decide) rfl
  generalize spD xs ys s = S at *
  generalize spW xs ys s = SW at *
  generalize sqI t1 xs = O at *
  generalize sqI t2 ys = P at *
  generalize tabD_ T xs.length ys.length = TB at *
  generalize costD u l m = CD at *
  generalize ((i - s.ov : Nat) : Int) = I2 at *
  generalize ((j - s.un : Nat) : Int) = J2 at *
  unfold L__steps_by_0
  rw [seq_nx (ρ' := [.val O, .val P, .val TB, .val CD, .own F, .val (.int (i : Nat)), .val (.int (j : Nat)), .own (S :: W), a8, a9, .un]) (by unfold mAsgN; rw [bind_is hw]; rfl)]
  simp [mSeq, mAsg, mGIx, mBin, mBinL, mBind, mLift, mPure, mPeek, mVar, gTupD, gCons2, gsNil, mStore, mDone, mDrop, mMut, mOwn, mPut, appD, mCons, mAug, s1, s2, w, g, i0, fF]
theorem back_ok {T : Nat → Nat → Int} (hT : T = Ed.dist u l m xs ys) : ∀ (f i j : Nat), i ≤ xs.length → j ≤ ys.length → i + j < f →
    ∃ ss, Ed.Fw u l m xs ys 0 0 ss i j (T i j) ∧ ∀ (t1 t2 : Bool) (F : List D) (a7 a8 a9 : Sl), F.length + i + j ≤ 100000 → ∃ b7 b8 b9, mWhileN (mOrT (mBol (mBinL gtD 5 (mPure (.int 0)))) ((mBol (mBinL gtD 6 (mPure (.int 0)))))) L__steps_by_0 f [.val (sqI t1 xs), .val (sqI t2 ys), .val (tabD_ T xs.length ys.length), .val (costD u l m), .own F, .val (.int (i : Nat)), .val (.int (j : Nat)), a7, a8, a9, .un] = some (.ok .nx [.val (sqI t1 xs), .val (sqI t2 ys), .val (tabD_ T xs.length ys.length), .val (costD u l m), .own (F ++ ss.reverse.map (spD xs ys)), .val (.int 0), .val (.int 0), b7, b8, b9, .un]) := by
  intro f
  induction f with
  | zero => intro i j _ _ h; omega
  | succ f ih =>
    intro i j hi hj hf
    have hc : ∀ (t1 t2 : Bool) (F : List D) (a7 a8 a9 : Sl), mOrT (mBol (mBinL gtD 5 (mPure (.int 0)))) ((mBol (mBinL gtD 6 (mPure (.int 0))))) [.val (sqI t1 xs), .val (sqI t2 ys), .val (tabD_ T xs.length ys.length), .val (costD u l m), .own F, .val (.int (i : Nat)), .val (.int (j : Nat)), a7, a8, a9, .un] = some (.ok (decide (0 < i ∨ 0 < j)) [.val (sqI t1 xs), .val (sqI t2 ys), .val (tabD_ T xs.length ys.length), .val (costD u l m), .own F, .val (.int (i : Nat)), .val (.int (j : Nat)), a7, a8, a9, .un]) := by
      intro t1 t2 F a7 a8 a9
      have g1 : gtD (.int (i : Nat)) (.int 0) = some (.bool (decide (0 < i))) := by
        show some (PyData.bool (decide ((0 : Int) < (i : Int)))) = _
        rw [decide_eq_decide.mpr (show (0 : Int) < (i : Int) ↔ 0 < i by omega)]
      have g2 : gtD (.int (j : Nat)) (.int 0) = some (.bool (decide (0 < j))) := by
        show some (PyData.bool (decide ((0 : Int) < (j : Int)))) = _
        rw [decide_eq_decide.mpr (show (0 : Int) < (j : Int) ↔ 0 < j by omega)]
      generalize sqI t1 xs = O at *
      generalize sqI t2 ys = P at *
      generalize tabD_ T xs.length ys.length = TB at *
      generalize costD u l m = CD at *
      by_cases q : 0 < i
      · rw [decide_eq_true q] at g1
        rw [decide_eq_true (.inl q)]
        simp [mOrT, mBol, bolD, mBinL, mBind, mPure, mPeek, mLift, g1]
      · rw [decide_eq_false q] at g1
        have hd : decide (0 < i ∨ 0 < j) = decide (0 < j) := decide_eq_decide.mpr (show (0 < i ∨ 0 < j) ↔ 0 < j by omega)
        rw [hd]
        simp [mOrT, mBol, bolD, mBinL, mBind, mPure, mPeek, mLift, g1, g2]
    by_cases q : 0 < i ∨ 0 < j
    · rw [decide_eq_true q] at hc
      obtain ⟨s, W, hW⟩ := Ed.least_way (u := u) (l := l) (m := m) (xs := xs) (ys := ys) i j q
      rw [← hT] at hW
      have hmem : s ∈ (Ed.stepsTo i j).filter fun s => decide (Ed.behind u l m xs ys T i j s = T i j) := by rw [hW]; exact List.mem_cons_self
      have hsm := (List.mem_filter.mp hmem).1
      have hsc : Ed.behind u l m xs ys T i j s = T i j := of_decide_eq_true (List.mem_filter.mp hmem).2
      obtain ⟨h1, h2, h3, h4⟩ := Ed.mem_at hsm
      obtain ⟨ss, hfw, hall⟩ := ih (i - s.ov) (j - s.un) (by omega) (by omega) (by omega)
      refine ⟨ss ++ [s], ?_, fun t1 t2 F a7 a8 a9 hF => ?_⟩
      · have := hfw.snoc h4
        rw [Nat.sub_add_cancel h1, Nat.sub_add_cancel h2] at this
        rw [← hsc]
        exact this
      · have hw := back_ways (u := u) (l := l) (m := m) (t1 := t1) (t2 := t2) (T := T) (a4 := .own F) (a7 := a7) (a8 := a8) (a9 := a9) hi hj
        rw [hW, List.map_cons] at hw
        have ht := back_turn hsm hw (by omega)
        obtain ⟨b7, b8, b9, hr⟩ := hall t1 t2 (F ++ [spD xs ys s]) (.own (spD xs ys s :: W.map (spD xs ys))) (.val (.int (s.ov : Nat))) (.val (.int (s.un : Nat))) (by rw [List.length_append, List.length_singleton]; omega)
        refine ⟨b7, b8, b9, ?_⟩
        unfold mWhileN
        rw [bind_is (hc t1 t2 F a7 a8 a9), if_pos rfl, bind_is ht]
        rw [List.reverse_append, List.map_append]
        rw [List.append_assoc] at hr
        exact hr
    · rw [decide_eq_false q] at hc
      obtain rfl : i = 0 := by omega
      obtain rfl : j = 0 := by omega
      refine ⟨[], ⟨rfl, rfl, by rw [hT]; exact Ed.d00⟩, fun t1 t2 F a7 a8 a9 _ => ⟨a7, a8, a9, ?_⟩⟩
      unfold mWhileN
      rw [bind_is (hc t1 t2 F a7 a8 a9), if_neg Bool.false_ne_true]
      rw [List.reverse_nil, List.map_nil, List.append_nil]
      rfl
theorem steps_by_ok {T : Nat → Nat → Int} (hT : T = Ed.dist u l m xs ys) (h1 : xs.length ≤ 400) (h2 : ys.length ≤ 400) : ∃ ss, Ed.Fw u l m xs ys 0 0 ss xs.length ys.length (T xs.length ys.length) ∧ ∀ t1 t2 : Bool, fn__steps_by [sqI t1 xs, sqI t2 ys, tabD_ T xs.length ys.length, costD u l m] = some (.ok (.tuple (ss.map (spD xs ys)))) := by
  obtain ⟨ss, hfw, hall⟩ := back_ok hT 1000 xs.length ys.length (Nat.le_refl _) (Nat.le_refl _) (by omega)
  refine ⟨ss, hfw, fun t1 t2 => ?_⟩
  obtain ⟨b7, b8, b9, hr⟩ := hall t1 t2 [] .un .un .un (by rw [List.length_nil]; omega)
  have hlen := hfw.len
  have l1 := sqI_len (t := t1) (xs := xs) (by omega)
  have l2 := sqI_len (t := t2) (xs := ys) (by omega)
  rw [List.nil_append] at hr
  have hf : fit ((ss.reverse.map (spD xs ys))).length = true := fit_of2 (by rw [List.length_map, List.length_reverse]; omega)
  have hrev : (ss.reverse.map (spD xs ys)).reverse = ss.map (spD xs ys) := by rw [List.map_reverse, List.reverse_reverse]
  have hf2 : fit (ss.map (spD xs ys)).length = true := fit_of2 (by rw [List.length_map]; omega)
  rw [← hrev] at hf2 ⊢
  have s4 : R__steps_by_0 [.val (sqI t1 xs), .val (sqI t2 ys), .val (tabD_ T xs.length ys.length), .val (costD u l m), .own [], .val (.int (xs.length : Nat)), .val (.int (ys.length : Nat)), .un, .un, .un, .un] = some (.ok .nx [.val (sqI t1 xs), .val (sqI t2 ys), .val (tabD_ T xs.length ys.length), .val (costD u l m), .own (ss.reverse.map (spD xs ys)), .val (.int 0), .val (.int 0), b7, b8, b9, .un]) := hr
  clear hr hrev
  generalize (ss.reverse.map (spD xs ys)) = Z at *
  generalize tabD_ T xs.length ys.length = TB at *
  generalize sqI t1 xs = O at *
  generalize sqI t2 ys = P at *
  generalize costD u l m = CD at *
  have f0 : fit 0 = true := rfl
  unfold fn__steps_by runV m__steps_by
  rw [show env0 11 [O, P, TB, CD] = [.val O, .val P, .val TB, .val CD, .un, .un, .un, .un, .un, .un, .un] from rfl]
  rw [seq_nx (ρ' := [.val O, .val P, .val TB, .val CD, .own [], .un, .un, .un, .un, .un, .un]) (by simp [mAsgN, mLstN, mStoreO, mDone, mBind, mPure, mLift, f0])]
  rw [seq_nx (ρ' := [.val O, .val P, .val TB, .val CD, .own [], .val (.int (xs.length : Nat)), .un, .un, .un, .un, .un]) (by simp [mAsg, mCall1, mStore, mDone, mBind, mPure, mPeek, mLift, l1])]
  rw [seq_nx (ρ' := [.val O, .val P, .val TB, .val CD, .own [], .val (.int (xs.length : Nat)), .val (.int (ys.length : Nat)), .un, .un, .un, .un]) (by simp [mAsg, mCall1, mStore, mDone, mBind, mPure, mPeek, mLift, l2])]
  rw [seq_nx s4]
  have hf3 : fit Z.length = true := by rw [List.length_reverse] at hf2; exact hf2
  simp [mRet, mCall1, mVal, mRevN, revO, tupleD, mBind, mPure, mPeek, mLift, hf, hf2, hf3]
theorem last_ix {α : Type} (f : Nat → D) (n : Nat) : atI ((List.range (n + 1)).map f) (-1) = some (f n) := by
  rw [List.range_succ, List.map_append]
  exact atI_last _ _
theorem tabD_last {T : Nat → Nat → Int} {n k : Nat} : ixD (tabD_ T n k) (.int (-1)) = some (.tuple (rowT T n (k + 1))) := last_ix (α := D) _ n
theorem rowT_last {T : Nat → Nat → Int} {n k : Nat} : ixD (.tuple (rowT T n (k + 1))) (.int (-1)) = some (.int (T n k)) := last_ix (α := D) _ k
theorem disp_is {u l m : Int} {ρ : En} {ma mb mc : M D} (ha : ma ρ = some (.ok (.int u) ρ)) (hb : mb ρ = some (.ok (.int l) ρ)) (hc : mc ρ = some (.ok (.int m) ρ)) : mDisp (mPairC "same" (mPure (.int 0)) (mPairC "unlike" ma (mPairC "lack" mb (mPairC "more" mc mPairN)))) ρ = some (.ok (costD u l m) ρ) := by
  have nd : (["same", "unlike", "lack", "more"] : List Str).Nodup := by decide +kernel
  unfold mDisp
  have : mPairC "same" (mPure (.int 0)) (mPairC "unlike" ma (mPairC "lack" mb (mPairC "more" mc mPairN))) ρ = some (.ok [("same", .int 0), ("unlike", .int u), ("lack", .int l), ("more", .int m)] ρ) := by
    simp [mPairC, mPairN, mBind, mPure, ha, hb, hc]
  rw [bind_is this]
  have hif : (([("same", .int 0), ("unlike", .int u), ("lack", .int l), ("more", .int m)] : List (Str × D)).length ≤ 15 ∧ (([("same", .int 0), ("unlike", .int u), ("lack", .int l), ("more", .int m)] : List (Str × D)).map (·.1)).Nodup) := ⟨by simp, nd⟩
  rw [if_pos hif]
  rfl
theorem held_okA (h1 : xs.length ≤ 400) (h2 : ys.length ≤ 400) : ∃ ss, Ed.Fw u l m xs ys 0 0 ss xs.length ys.length (Ed.dist u l m xs ys xs.length ys.length) ∧
    ∀ t1 t2 : Bool, fn_held [sqI t1 xs, sqI t2 ys, .int u, .int l, .int m] = some (.ok (.tuple [.int (Ed.dist u l m xs ys xs.length ys.length), .tuple (ss.map (spD xs ys)), tabD_ (Ed.dist u l m xs ys) xs.length ys.length])) := by
  obtain ⟨ss, hfw, hs⟩ := steps_by_ok (u := u) (l := l) (m := m) (xs := xs) (ys := ys) rfl h1 h2
  refine ⟨ss, hfw, fun t1 t2 => ?_⟩
  have hs := hs t1 t2
  have ht := table_of_ok (u := u) (l := l) (m := m) (t1 := t1) (t2 := t2) (xs := xs) (ys := ys) rfl (by omega) (by omega)
  have e1 := tabD_last (T := Ed.dist u l m xs ys) (n := xs.length) (k := ys.length)
  have e2 := rowT_last (T := Ed.dist u l m xs ys) (n := xs.length) (k := ys.length)
  have f3 : fit 3 = true := rfl
  have ng : negD (.int 1) = some (.int (-1)) := rfl
  have hd : ∀ O P : D, mDisp (mPairC "same" (mPure (.int 0)) (mPairC "unlike" (mVar 2) (mPairC "lack" (mVar 3) (mPairC "more" (mVar 4) mPairN)))) [.val O, .val P, .val (.int u), .val (.int l), .val (.int m), .un, .un] = some (.ok (costD u l m) [.val O, .val P, .val (.int u), .val (.int l), .val (.int m), .un, .un]) := fun O P => disp_is (by simp [mVar]) (by simp [mVar]) (by simp [mVar])
  generalize PyData.tuple (ss.map (spD xs ys)) = SS at *
  generalize PyData.tuple (rowT (Ed.dist u l m xs ys) xs.length (ys.length + 1)) = RT at *
  generalize tabD_ (Ed.dist u l m xs ys) xs.length ys.length = TB at *
  generalize Ed.dist u l m xs ys xs.length ys.length = V at *
  generalize sqI t1 xs = O at *
  generalize sqI t2 ys = P at *
  generalize costD u l m = CD at *
  unfold fn_held runV m_held
  rw [show env0 7 [O, P, .int u, .int l, .int m] = [.val O, .val P, .val (.int u), .val (.int l), .val (.int m), .un, .un] from rfl]
  rw [seq_nx (ρ' := [.val O, .val P, .val (.int u), .val (.int l), .val (.int m), .val CD, .un]) (by unfold mAsg; rw [bind_is (hd O P)]; simp [mStore, mDone, mBind, mPure])]
  simp [mSeq, mAsg, mStore, mDone, mCallV, mRs, mCons, mVar, mTup, mBin, mBinL, mUn, mRet, mBind, mPure, mPeek, mLift, ht, hs, e1, e2, ng, f3]
end

section
variable {u l m : Int} {xs ys : List Int} {t1 t2 : Bool}
theorem whole_int (i : Int) : fn_is_whole [.int i] = some (.ok (.bool true)) := by
  simp [fn_is_whole, runV, m_is_whole, env0, mSeq, mIf, mBol, mBin, mBinL, mBind, mLift, mPure, mPeek, mVar, ixD, iI, bolD, mAsg, mCall1, mCallN, intD, modD, iIc, cMod, mStore, mStoreO, mDone, gSet, mOwn, mPut, setD, mRet, mDrop, mStuck, mTru, truD, mOrT, mAndT, mNotT, mAnd, mOr, mNot, mIsi, isiT_eq, typD, lenD, mCons, mTup, mLst, mLstN, mVal, oOr, addD, subD, mulD, mulI, iIc, cMul, ltD, leD, gtD, geD, gTupD, gCons2, gsNil, mCallV, mCallB, mRs, tupleD, mRetF, mChain, mScr, mScrLen, mScrIx, mMut, appD, max2D, min2D, mRng1, mRng2, rngD1, rngD2, rngOk, mItems, itemsD, mAsgN, mParEE, mParEN, mUn, negD, mCallN1, listD, unsE, powD, cPow, divD, cDiv, mFor, mSl, mSlL, slD, mNoPart, mPart, intO, mSlN, mSlNL, slN, mRevN, revO, mParNC, andD, orD, xorD, shrD, shlD, cShr, mStepN, mStepNL, stepO, mCatN, mCatNL, catN, isi_int_NoneType, isi_int_bool, isi_int_int, isi_int_str, isi_int_list, isi_int_tuple, isi_int_dict, isi_bool_NoneType, isi_bool_bool, isi_bool_int, isi_bool_str, isi_bool_list, isi_bool_tuple, isi_bool_dict, isi_str_NoneType, isi_str_bool, isi_str_int, isi_str_str, isi_str_list, isi_str_tuple, isi_str_dict, isi_list_NoneType, isi_list_bool, isi_list_int, isi_list_str, isi_list_list, isi_list_tuple, isi_list_dict, isi_tuple_NoneType, isi_tuple_bool, isi_tuple_int, isi_tuple_str, isi_tuple_list, isi_tuple_tuple, isi_tuple_dict, isi_dict_NoneType, isi_dict_bool, isi_dict_int, isi_dict_str, isi_dict_list, isi_dict_tuple, isi_dict_dict, isi_int_dictT, isi_bool_dictT, isi_str_dictT, isi_list_dictT, isi_tuple_dictT]
theorem all_true {α : Type} (L : List α) : allD [.list (L.map fun _ => PyData.bool true)] = some (.bool true) := by
  have : toBools (L.map fun _ => PyData.bool true) = some (L.map fun _ => true) := toBools_mapf (fun _ => true) L
  show (toBools (L.map fun _ => PyData.bool true)).map _ = _
  rw [this]
  show some (PyData.bool ((L.map fun _ => true).all id)) = _
  rw [show (L.map fun _ => true).all id = true from by rw [List.all_eq_true]; intro b hb; obtain ⟨_, _, rfl⟩ := List.mem_map.mp hb; rfl]
theorem are_ints (ns : List Int) (h : ns.length ≤ 100000) : fn__are_whole [.tuple (ns.map PyData.int)] = some (.ok (.bool true)) := by
  have hc : C__are_whole_0 [.val (.tuple (ns.map PyData.int)), .un] = some (.ok (ns.map fun _ => PyData.bool true) [.val (.tuple (ns.map PyData.int)), .un]) := by
    refine comp_is (vs := [1]) (ds := ns.map PyData.int) (ρ1 := [.val (.tuple (ns.map PyData.int)), .un]) (ρe := [.val (.tuple (ns.map PyData.int)), .un]) (by generalize ns.map PyData.int = M; simp [mItems, itemsD, mVar, mBind, mPure, mLift]) (fit_of2 (by rw [List.length_map]; omega)) ?_
    refine go_mapA PyData.int _ ns fun n _ => ?_
    have hw := whole_int n
    generalize ns.map PyData.int = M
    exact ⟨[.val (.tuple M), .val (.int n)], [.val (.tuple M), .val (.int n)], by simp [mStore, unsE], by simp [mCallV, mRs, mCons, mVar, mBind, mPure, mLift, hw], by simp [unsE]⟩
  have hv := mVal_is hc
  have ha := all_true ns
  generalize ns.map PyData.int = M at *
  generalize (ns.map fun _ => PyData.bool true) = B at *
  unfold fn__are_whole runV m__are_whole
  rw [show env0 2 [PyData.tuple M] = [.val (.tuple M), .un] from rfl]
  simp [mRet, mCall1, mBind, mPure, mLift, hv, ha]
theorem gin_sp {s : Ed.Sp} : ginD false tb_GOES (.str (spW xs ys s)) = some (.bool true) := by
  cases s with
  | both i j =>
    show ginD false tb_GOES (.str (if xs[i]? = ys[j]? then "same" else "unlike")) = _
    by_cases h : xs[i]? = ys[j]?
    · rw [if_pos h]; rfl
    · rw [if_neg h]; rfl
  | lack i => show ginD false tb_GOES (.str "lack") = _; rfl
  | more j => show ginD false tb_GOES (.str "more") = _; rfl
end

section
variable {u l m : Int} {xs ys : List Int} {t1 t2 : Bool}
theorem spW_ok {s : Ed.Sp} : PyData.strOk (spW xs ys s) = true := by
  cases s with
  | both i j =>
    show PyData.strOk (if xs[i]? = ys[j]? then "same" else "unlike") = true
    split <;> exact strOk_of _
  | lack i => exact strOk_of _
  | more j => exact strOk_of _
theorem sh_strV {z : Str} (h : PyData.strOk z = true) : Sh 0 (.str z) := ⟨by simp [PyData.canLay0, h], by simp [PyData.depth]⟩
theorem spD_sh {s : Ed.Sp} : Sh 1 (spD xs ys s) := by
  refine Sh.tuple fun d hd => ?_
  rcases List.mem_cons.mp hd with rfl | hd
  · exact sh_strV spW_ok
  · cases s with
    | both i j => simp only [spR, List.mem_cons, List.not_mem_nil, or_false] at hd; rcases hd with rfl | rfl <;> exact Sh.int _
    | lack i => simp only [spR, List.mem_cons, List.not_mem_nil, or_false] at hd; rw [hd]; exact Sh.int _
    | more j => simp only [spR, List.mem_cons, List.not_mem_nil, or_false] at hd; rw [hd]; exact Sh.int _
end

section
variable {u l m : Int} {xs ys : List Int}
def cD (u l m : Int) : D := .tuple [.int u, .int l, .int m]
theorem cD_0 : ixD (cD u l m) (.int 0) = some (.int u) := atI_nat' (by decide) rfl
theorem cD_1 : ixD (cD u l m) (.int 1) = some (.int l) := atI_nat' (by decide) rfl
theorem cD_2 : ixD (cD u l m) (.int 2) = some (.int m) := atI_nat' (by decide) rfl
theorem ne_intv (a b : Int) : neD (.int a) (.int b) = some (.bool (!decide (a = b))) := by
  rw [ne_sh (Sh.int a) (Sh.int b) (by omega) (by omega)]
  simp [PyData.eqv]
  rfl
theorem mul_ok2 {i j : Int} (h : j.natAbs < 1000000) : mulD (.int i) (.int j) = some (.int (i * j)) := by
  have hc : cMul i j = true := by
    unfold cMul
    rw [Bool.or_eq_true]
    exact .inr (decide_eq_true (by omega))
  show oOr mulI repT _ _ = _
  unfold oOr mulI iIc
  simp only [hc, if_true]
theorem price_ok {x y : Int} : ∃ c, intD [.bool (!decide (x = y))] = some (.int c) ∧ c.natAbs < 1000000 ∧ u * c = Ed.cst u (some x) (some y) := by
  unfold Ed.cst
  by_cases q : x = y
  · subst q
    rw [decide_eq_true rfl, if_pos rfl]
    exact ⟨0, rfl, by decide, by rw [Int.mul_zero]⟩
  · rw [decide_eq_false q, if_neg fun z => q (Option.some.inj z)]
    exact ⟨1, rfl, by decide, by rw [Int.mul_one]⟩
theorem lt_v (a b : Nat) : ltD (.int (a : Nat)) (.int (b : Nat)) = some (.bool (decide (a < b))) := by
  show some (PyData.bool (decide ((a : Int) < (b : Int)))) = _
  rw [decide_eq_decide.mpr (show ((a : Int) < (b : Int)) ↔ a < b by omega)]
theorem rep1 {d : D} {s : Nat} (hs : s ≤ 1000) : repLD (.list [d]) (.int (s : Nat)) = some (List.replicate s d) := by
  have h1 : decide ((s : Int).natAbs < 9223372036854775808) = true := decide_eq_true (by omega)
  have h2 : fit ([d].length * (s : Int).toNat) = true := fit_of2 (by simp; omega)
  have h3 : (List.replicate s [d]).flatten = List.replicate s d := by
    clear h1 h2 hs
    induction s with
    | zero => rfl
    | succ n ih => rw [List.replicate_succ, List.flatten_cons, ih, List.replicate_succ]; rfl
  show (if (decide ((s : Int).natAbs < 9223372036854775808) && fit ([d].length * (s : Int).toNat)) = true then some (List.replicate (s : Int).toNat [d]).flatten else none) = _
  rw [h1, h2, Int.toNat_natCast, h3]; rfl
end

theorem shw_int10 {i : Int} (h : i.natAbs < 10000000000) : Shw 11 0 (.int i) := by
  have hlog : i.natAbs.log2 < 1920 := by
    by_cases h0 : i.natAbs = 0
    · rw [h0]; decide
    · have : i.natAbs.log2 < 34 := (Nat.log2_lt h0).mpr (Nat.lt_of_lt_of_le h (by decide))
      omega
  refine ⟨decide_eq_true hlog, rfl, Nat.le_refl _, ?_, strOk_of _⟩
  show (Str.ofString (toString i)).length ≤ 11
  rw [PySem.ofString_length]
  exact PySem.int_text_length_le10 (k := 10) (by decide) h
theorem repr_shwT {B n : Nat} {ds : List D} (h : Shw B n (.tuple ds)) (hB : B ≤ 16000000) (hn : n ≤ 60) : reprG [.tuple ds] = some (.str (PyData.tuple ds).shown) := by
  have hs : showOk (.tuple ds) = true := by
    show ((PyData.tuple ds).showable && !(PyData.tuple ds).hasDict && decide ((PyData.tuple ds).depth ≤ 60) && fit (PyData.tuple ds).shown.length) = true
    have e1 : decide ((PyData.tuple ds).depth ≤ 60) = true := decide_eq_true (Nat.le_trans h.dp hn)
    have e2 : fit (PyData.tuple ds).shown.length = true := decide_eq_true (Nat.le_trans h.ln hB)
    rw [h.sh, h.nd, e1, e2]; rfl
  show (if showOk (.tuple ds) = true then some (PyData.str (PyData.tuple ds).shown) else none) = _
  rw [if_pos hs]
def V9 (n : Int) : Prop := 0 ≤ n ∧ n ≤ 1000000000
theorem shw_row {t : Bool} {xs : List Int} (h : ∀ x ∈ xs, V9 x) (hl : xs.length ≤ 100) : Shw 2000 1 (sqI t xs) := by
  have h1 : ∀ d ∈ xs.map PyData.int, Shw 11 0 d := fun d hd => by
    obtain ⟨x, hx, rfl⟩ := List.mem_map.mp hd
    have := h x hx
    unfold V9 at this
    exact shw_int10 (by omega)
  cases t
  · exact shw_mono (shw_list h1) (by rw [List.length_map]; omega) (Nat.le_refl _)
  · exact shw_mono (shw_tuple h1) (by rw [List.length_map]; omega) (Nat.le_refl _)
theorem repr_two {t1 t2 : Bool} {xs ys : List Int} (h1 : ∀ x ∈ xs, V9 x) (h2 : ∀ x ∈ ys, V9 x) (l1 : xs.length ≤ 100) (l2 : ys.length ≤ 100) : ∃ z, PyData.strOk z = true ∧ reprG [.tuple [sqI t1 xs, sqI t2 ys]] = some (.str z) := by
  have := shw_tuple (B := 2000) (n := 1) (ds := [sqI t1 xs, sqI t2 ys]) fun d hd => by
    simp only [List.mem_cons, List.not_mem_nil, or_false] at hd
    rcases hd with rfl | rfl
    · exact shw_row h1 l1
    · exact shw_row h2 l2
  exact ⟨_, this.ok, repr_shwT this (by simp) (by omega)⟩
theorem ints_v : ∀ {ys : List D}, (∀ y ∈ ys, ∃ n : Int, V9 n ∧ y = .int n) → ∃ ns : List Int, ys = ns.map PyData.int ∧ ∀ n ∈ ns, V9 n
  | [], _ => ⟨[], rfl, fun _ h => (by cases h)⟩
  | y :: ys, h => by
    obtain ⟨n, h0, rfl⟩ := h y List.mem_cons_self
    obtain ⟨ns, rfl, hn⟩ := ints_v fun z hz => h z (List.mem_cons_of_mem _ hz)
    exact ⟨n :: ns, rfl, fun z hz => (List.mem_cons.mp hz).elim (fun e => e ▸ h0) (hn z)⟩
theorem sl_take (xs : List Int) (b : Nat) : slD (sqI false xs) none (some (b : Nat)) = some (sqI false (xs.take b)) := by
  show some (PyData.list (cutL (xs.map PyData.int) none (some (b : Nat)))) = some (.list ((xs.take b).map PyData.int))
  rw [cut_take, List.map_take]
/-! ### the pool -/
theorem pool_ok {bs : List D} (hb : Bx bs) : ∃ (ps : List Int) (bs' : List D), 1 ≤ ps.length ∧ ps.length ≤ 5 ∧ (∀ x ∈ ps, V9 x) ∧ Bx bs' ∧ fn__law_pool bs [] = some (.ok (sqI false ps), bs') := by
  obtain ⟨r, b1, ht, r0, r1, hb1⟩ := take_ok (m := 4) hb (by omega) (by omega)
  obtain ⟨bd, hm, hmm⟩ := pick4 (a := 4) (b := 256) (c := 65536) (d := 1000000001) r0 r1
  have hx : ixD (.list [PyData.int 4, .int 256, .int 65536, .int 1000000001]) (.int r) = some (.int bd) := hm
  have pw : powD (.int 10) (.int 9) = some (.int 1000000000) := rfl
  have ad : addD (.int 1000000000) (.int 1) = some (.int 1000000001) := rfl
  have f4 : fit 4 = true := rfl
  obtain ⟨q, b2, ht2, q0, q1, hb2⟩ := take_ok (m := 4) hb1 (by omega) (by omega)
  obtain ⟨n, hn⟩ : ∃ n : Nat, 1 + q = (n : Int) := ⟨(1 + q).toNat, by omega⟩
  obtain ⟨ys, b3, hb3, hp, hl, hg⟩ := go_box (vs := [4]) (g := mStore 4) (te := mCallB 0 2 fn__law_take (mCons (mVar 1) (mPure []))) (fun bs => [.io bs, .val (.int bd), .un, .un, .un]) (fun y => ∃ n : Int, V9 n ∧ y = .int n) (rngL 0 (n : Int)) b2 hb2 (by
    intro x _ bs hb
    obtain ⟨r, b1, ht, r0, r1, hb1⟩ := take_ok (m := bd) hb (by omega) (by omega)
    exact ⟨.int r, b1, [.io bs, .val (.int bd), .un, .un, .val x], [.io b1, .val (.int bd), .un, .un, .val x], ⟨r, ⟨r0, by omega⟩, rfl⟩, hb1, rfl, by simp [mCallB, mOwn, mPut, mRs, mCons, mVar, mBind, mPure, mLift, ht], by simp [unsE]⟩)
  obtain ⟨ps, rfl, hps⟩ := ints_v hp
  rw [rngL_len, List.length_map] at hl
  have hc : C__law_pool_0 [.io b1, .val (.int bd), .un, .un, .un] = some (.ok (ps.map PyData.int) [.io b3, .val (.int bd), .un, .un, .un]) := by
    have ad1 : addD (.int 1) (.int q) = some (.int (n : Int)) := by rw [← hn]; rfl
    exact comp_is (vs := [4]) (ds := rngL 0 (n : Int)) (ρ1 := [.io b2, .val (.int bd), .un, .un, .un]) (ρe := [.io b3, .val (.int bd), .un, .un, .un]) (rng1_is (by simp [mCons, mCallB, mOwn, mPut, mRs, mBin, mBind, mPure, mLift, ad1, ht2]) (rngOk_le (by omega) (by omega))) (by rw [rngL_len]; exact fit_of2 (by omega)) hg
  obtain ⟨p, ps', rfl⟩ : ∃ p ps', ps = p :: ps' := by
    cases ps with
    | nil => simp at hl; omega
    | cons p ps' => exact ⟨p, ps', rfl⟩
  have hp9 := hps p List.mem_cons_self
  unfold V9 at hp9
  obtain ⟨w, b4, ht4, w0, w1, hb4⟩ := take_ok (m := 5) hb3 (by omega) (by omega)
  have x0 : ixD (.list ((p :: ps').map PyData.int)) (.int 0) = some (.int p) := atI_nat' (by decide) rfl
  have near : ∃ v : Int, 0 ≤ v ∧ ixD (.list [PyData.int (p + 1), .int (p * 10), .int (p + 256), .int (p + 65536), .int (p / 2)]) (.int w) = some (.int v) := by
    have : w = 0 ∨ w = 1 ∨ w = 2 ∨ w = 3 ∨ w = 4 := by omega
    rcases this with rfl | rfl | rfl | rfl | rfl
    · exact ⟨p + 1, by omega, rfl⟩
    · exact ⟨p * 10, by omega, rfl⟩
    · exact ⟨p + 256, by omega, rfl⟩
    · exact ⟨p + 65536, by omega, rfl⟩
    · exact ⟨p / 2, by omega, rfl⟩
  obtain ⟨v, v0, hv⟩ := near
  obtain ⟨z, hz, hz9⟩ : ∃ z : Int, min2D [.int 1000000000, .int v] = some (.int z) ∧ V9 z := ⟨if v < 1000000000 then v else 1000000000, rfl, by unfold V9; split <;> omega⟩
  have n1 : addD (.int p) (.int 1) = some (.int (p + 1)) := rfl
  have n2 : mulD (.int p) (.int 10) = some (.int (p * 10)) := mul_ok2 (by decide)
  have n3 : addD (.int p) (.int 256) = some (.int (p + 256)) := rfl
  have n4 : addD (.int p) (.int 65536) = some (.int (p + 65536)) := rfl
  have n5 : divD (.int p) (.int 2) = some (.int (p / 2)) := rfl
  have f5 : fit 5 = true := rfl
  have f1 : fit 1 = true := rfl
  have l5 : ((p :: ps').map PyData.int).length + 1 ≤ 6 := by rw [List.length_map]; omega
  have ca : addD (.list ((p :: ps').map PyData.int)) (.list [.int z]) = some (sqI false ((p :: ps') ++ [z])) := by
    have f : fit (((p :: ps').map PyData.int).length + 1) = true := fit_of2 (by omega)
    show addD _ _ = some (PyData.list (((p :: ps') ++ [z]).map PyData.int))
    rw [List.map_append]
    generalize (p :: ps').map PyData.int = A at *
    simp [addD, oOr, iI, catL, f]
  refine ⟨(p :: ps') ++ [z], b4, by simp, by rw [List.length_append, List.length_singleton]; omega, fun x hx => ?_, hb4, ?_⟩
  · rcases List.mem_append.mp hx with hx | hx
    · exact hps x hx
    · rw [List.mem_singleton.mp hx]; exact hz9
  generalize sqI false ((p :: ps') ++ [z]) = RES at *
  generalize (p :: ps').map PyData.int = M at *
  generalize hL : PyData.list [PyData.int 4, .int 256, .int 65536, .int 1000000001] = LL at *
  have hv' := hv
  unfold fn__law_pool runB m__law_pool
  rw [show env0B 5 bs [] = [.io bs, .un, .un, .un, .un] from rfl]
  rw [seq_nx (ρ' := [.io b1, .val (.int bd), .un, .un, .un]) (by simp [mAsg, mStore, mDone, mBin, mLst, mCallB, mOwn, mPut, mRs, mCons, mBind, mPure, mLift, pw, ad, f4, hL, ht, hx])]
  rw [seq_nx (ρ' := [.io b3, .val (.int bd), .own M, .un, .un]) (by unfold mAsgN; rw [bind_is hc]; rfl)]
  rw [seq_nx (ρ' := [.io b3, .val (.int bd), .own M, .own [.int (p + 1), .int (p * 10), .int (p + 256), .int (p + 65536), .int (p / 2)], .un]) (by simp [mAsgN, mLstN, mStoreO, mDone, mCons, mBin, mBinL, mBind, mPure, mPeek, mLift, x0, n1, n2, n3, n4, n5, f5])]
  generalize hN : [PyData.int (p + 1), .int (p * 10), .int (p + 256), .int (p + 65536), .int (p / 2)] = NN at *
  simp [mRet, mBin, mBinL, mLst, mCallN, mCallB, mOwn, mPut, mRs, mCons, mBind, mPure, mPeek, mLift, pw, ht4, hv, hz, ca, f1]
/-- a number out of the pool -/
theorem draw_ok {bs : List D} {K : D} {ps : List Int} {r : En} (hb : Bx bs) (h1 : 1 ≤ ps.length) (h2 : ps.length ≤ 100) (h9 : ∀ x ∈ ps, V9 x) : ∃ (v : Int) (bs' : List D), V9 v ∧ Bx bs' ∧ mBinL ixD 2 (mCallB 0 2 fn__law_take (mCons (mCall1 lenD (mPeek 2)) (mPure []))) (.io bs :: .val K :: .val (sqI false ps) :: r) = some (.ok (.int v) (.io bs' :: .val K :: .val (sqI false ps) :: r)) := by
  obtain ⟨w, b1, ht, w0, w1, hb1⟩ := take_ok (m := (ps.length : Nat)) hb (by omega) (by omega)
  have hl := sqI_len (t := false) (xs := ps) (by omega)
  obtain ⟨n, rfl⟩ : ∃ n : Nat, w = n := ⟨w.toNat, by omega⟩
  have hx := sqI_ix (t := false) (xs := ps) (i := n) (List.getElem?_eq_getElem (by omega))
  refine ⟨ps[n], b1, h9 _ (List.getElem_mem _), hb1, ?_⟩
  generalize ps[n] = v at *
  generalize sqI false ps = P at *
  simp [mBinL, mCall1, mCallB, mOwn, mPut, mRs, mCons, mBind, mPure, mPeek, mLift, hl, ht, hx]

theorem kind_ok {bs : List D} {xs : List Int} (hb : Bx bs) (hl : xs.length ≤ 1000) : ∃ (t : Bool) (bs' : List D), Bx bs' ∧ fn__law_kind bs [sqI false xs] = some (.ok (sqI t xs), bs') := by
  obtain ⟨r, b1, ht, r0, r1, hb1⟩ := take_ok (m := 2) hb (by omega) (by omega)
  have f2 : fit 2 = true := rfl
  have fx : fit (xs.map PyData.int).length = true := fit_of2 (by rw [List.length_map]; omega)
  have tt : tupleD [sqI false xs] = some (sqI true xs) := by
    show tupleD [.list (xs.map PyData.int)] = some (.tuple (xs.map PyData.int))
    generalize xs.map PyData.int = M at *
    simp [tupleD, fx]
  have ll : listD [sqI false xs] = some (xs.map PyData.int) := by
    show listD [.list (xs.map PyData.int)] = some (xs.map PyData.int)
    generalize xs.map PyData.int = M at *
    simp [listD, fx]
  have hh : PyData.list (xs.map PyData.int) = sqI false xs := rfl
  obtain ⟨t, hx⟩ : ∃ t : Bool, ixD (.list [sqI false xs, sqI true xs]) (.int r) = some (sqI t xs) := by
    have : r = 0 ∨ r = 1 := by omega
    rcases this with rfl | rfl
    · exact ⟨false, rfl⟩
    · exact ⟨true, rfl⟩
  refine ⟨t, b1, hb1, ?_⟩
  generalize sqI t xs = S at *
  generalize sqI true xs = S1 at *
  generalize sqI false xs = S0 at *
  generalize xs.map PyData.int = M at *
  simp [fn__law_kind, runB, m__law_kind, env0B, mRet, mBin, mLst, mVal, mCallN1, mCall1, mCallB, mOwn, mPut, mRs, mCons, mBind, mPure, mPeek, mLift, ll, tt, hh, f2, ht, hx]
/-! ### two rows -/
section
variable {k : Int}
def ST (k : Int) (bs : List D) (ps : List Int) (a3 a4 a5 a6 a7 a8 : Sl) : En := [.io bs, .val (.int k), .val (sqI false ps), a3, a4, a5, a6, a7, a8]
variable {a3 a4 a5 a6 a7 a8 : Sl} {bs : List D} {ps : List Int}
theorem tw_draw (hb : Bx bs) (h1 : 1 ≤ ps.length) (h2 : ps.length ≤ 100) (h9 : ∀ x ∈ ps, V9 x) : ∃ (v : Int) (bs' : List D), V9 v ∧ Bx bs' ∧ mBinL ixD 2 (mCallB 0 2 fn__law_take (mCons (mCall1 lenD (mPeek 2)) (mPure []))) (ST k bs ps a3 a4 a5 a6 a7 a8) = some (.ok (.int v) (ST k bs' ps a3 a4 a5 a6 a7 a8)) := draw_ok hb h1 h2 h9
theorem tw_comp {mn : Int} (hb : Bx bs) (h1 : 1 ≤ ps.length) (h2 : ps.length ≤ 100) (h9 : ∀ x ∈ ps, V9 x) (hm : 0 ≤ mn) (hm2 : mn ≤ 60) : ∃ (xs : List Int) (bs' : List D), xs.length ≤ 60 ∧ (∀ x ∈ xs, V9 x) ∧ Bx bs' ∧
    mComp [8] (mRng1 (mCons (mCallB 0 2 fn__law_take (mCons (mBinL addD 3 (mPure (.int 1))) (mPure []))) (mPure []))) (mStore 8) (mPure true) (mBinL ixD 2 (mCallB 0 2 fn__law_take (mCons (mCall1 lenD (mPeek 2)) (mPure [])))) (ST k bs ps (.val (.int mn)) a4 a5 a6 a7 .un) = some (.ok (xs.map PyData.int) (ST k bs' ps (.val (.int mn)) a4 a5 a6 a7 .un)) := by
  obtain ⟨r, b1, ht, r0, r1, hb1⟩ := take_ok (m := mn + 1) hb (by omega) (by omega)
  obtain ⟨n, rfl⟩ : ∃ n : Nat, r = n := ⟨r.toNat, by omega⟩
  obtain ⟨ys, b2, hb2, hp, hl, hg⟩ := go_box (vs := [8]) (g := mStore 8) (te := mBinL ixD 2 (mCallB 0 2 fn__law_take (mCons (mCall1 lenD (mPeek 2)) (mPure [])))) (fun bs => ST k bs ps (.val (.int mn)) a4 a5 a6 a7 .un) (fun y => ∃ n : Int, V9 n ∧ y = .int n) (rngL 0 (n : Int)) b1 hb1 (by
    intro x _ bs hb
    obtain ⟨v, b1, hv, hb1, e⟩ := tw_draw (k := k) (a3 := .val (.int mn)) (a4 := a4) (a5 := a5) (a6 := a6) (a7 := a7) (a8 := .val x) hb h1 h2 h9
    exact ⟨.int v, b1, ST k bs ps (.val (.int mn)) a4 a5 a6 a7 (.val x), ST k b1 ps (.val (.int mn)) a4 a5 a6 a7 (.val x), ⟨v, hv, rfl⟩, hb1, rfl, e, by unfold ST; generalize sqI false ps = P; simp [unsE]⟩)
  obtain ⟨xs, rfl, hx⟩ := ints_v hp
  rw [rngL_len, List.length_map] at hl
  refine ⟨xs, b2, by omega, hx, hb2, ?_⟩
  have ad : addD (.int mn) (.int 1) = some (.int (mn + 1)) := rfl
  exact comp_is (vs := [8]) (ds := rngL 0 (n : Int)) (ρ1 := ST k b1 ps (.val (.int mn)) a4 a5 a6 a7 .un) (ρe := ST k b2 ps (.val (.int mn)) a4 a5 a6 a7 .un) (rng1_is (by unfold ST; generalize sqI false ps = P; simp [mCons, mCallB, mOwn, mPut, mRs, mBinL, mBind, mPure, mPeek, mLift, ad, ht]) (rngOk_le (by omega) (by omega))) (by rw [rngL_len]; exact fit_of2 (by omega)) hg
theorem tw_a {F : List Int} {x r : Int} (hb : Bx bs) (h1 : 1 ≤ ps.length) (h2 : ps.length ≤ 100) (h9 : ∀ x ∈ ps, V9 x) (hx : V9 x) (hF : F.length ≤ 1000) (hF9 : ∀ x ∈ F, V9 x) : ∃ (bs' : List D) (F' : List Int), Bx bs' ∧ F'.length ≤ F.length + 1 ∧ (∀ x ∈ F', V9 x) ∧
    mIf (mBol (mBinL gtD 7 (mPure (.int 0)))) (mDrop (mMut 5 appD (mCons (mBin ixD (mLst (mCons (mVar 6) (mCons (mBinL ixD 2 (mCallB 0 2 fn__law_take (mCons (mCall1 lenD (mPeek 2)) (mPure [])))) (mPure [])))) (mCall1 intD (mBinL eqD 7 (mPure (.int 1))))) (mPure [])))) (mPure .nx) (ST k bs ps a3 a4 (.own (F.map PyData.int)) (.val (.int x)) (.val (.int r)) a8) = some (.ok .nx (ST k bs' ps a3 a4 (.own (F'.map PyData.int)) (.val (.int x)) (.val (.int r)) a8)) := by
  have fF : fit (F.map PyData.int).length = true := fit_of2 (by rw [List.length_map]; omega)
  have f2 : fit 2 = true := rfl
  have e1 := eq_int r 1
  have g0 : gtD (.int r) (.int 0) = some (.bool (decide (0 < r))) := rfl
  by_cases q : 0 < r
  · rw [decide_eq_true q] at g0
    obtain ⟨y, b2, hy, hb2, ed⟩ := tw_draw (k := k) (a3 := a3) (a4 := a4) (a5 := .own (F.map PyData.int)) (a6 := .val (.int x)) (a7 := .val (.int r)) (a8 := a8) hb h1 h2 h9
    obtain ⟨c, z, hc, hz, hz9⟩ : ∃ (c : D) (z : Int), intD [.bool (decide (r = 1))] = some c ∧ ixD (.list [.int x, .int y]) c = some (.int z) ∧ V9 z := by
      by_cases w : r = 1
      · rw [decide_eq_true w]; exact ⟨.int 1, y, rfl, rfl, hy⟩
      · rw [decide_eq_false w]; exact ⟨.int 0, x, rfl, rfl, hx⟩
    refine ⟨b2, F ++ [z], hb2, by rw [List.length_append, List.length_singleton]; exact Nat.le_refl _, fun v hv => ?_, ?_⟩
    · rcases List.mem_append.mp hv with hv | hv
      · exact hF9 v hv
      · rw [List.mem_singleton.mp hv]; exact hz9
    rw [List.map_append]
    show _ = some (R.ok Fl.nx (ST k b2 ps a3 a4 (.own (F.map PyData.int ++ [.int z])) (.val (.int x)) (.val (.int r)) a8))
    generalize F.map PyData.int = H at *
    generalize mBinL ixD 2 (mCallB 0 2 fn__law_take (mCons (mCall1 lenD (mPeek 2)) (mPure []))) = md at *
    have mi : mBin ixD (mLst (mCons (mVar 6) (mCons md (mPure [])))) (mCall1 intD (mBinL eqD 7 (mPure (.int 1)))) (ST k bs ps a3 a4 (.own H) (.val (.int x)) (.val (.int r)) a8) = some (.ok (.int z) (ST k b2 ps a3 a4 (.own H) (.val (.int x)) (.val (.int r)) a8)) := by
      generalize decide (r = 1) = w at *
      generalize hL : PyData.list [.int x, .int y] = L at *
      unfold ST at *
      generalize sqI false ps = P at *
      simp [mBin, mBinL, mLst, mCall1, mCons, mVar, mBind, mPure, mPeek, mLift, ed, f2, e1, hc, hL, hz]
    generalize mBin ixD (mLst (mCons (mVar 6) (mCons md (mPure [])))) (mCall1 intD (mBinL eqD 7 (mPure (.int 1)))) = mm at *
    unfold ST at *
    generalize sqI false ps = P at *
    simp [mIf, mBol, bolD, mBinL, mDrop, mMut, mOwn, mPut, appD, mCons, mBind, mPure, mPeek, mLift, g0, mi, fF]
  · rw [decide_eq_false q] at g0
    exact ⟨bs, F, hb, Nat.le_succ _, hF9, by unfold ST; generalize sqI false ps = P at *; generalize F.map PyData.int = H at *; simp [mIf, mBol, bolD, mBinL, mBind, mPure, mPeek, mLift, g0]⟩
theorem tw_b {F : List Int} {x r : Int} (hb : Bx bs) (h1 : 1 ≤ ps.length) (h2 : ps.length ≤ 100) (h9 : ∀ x ∈ ps, V9 x) (hF : F.length ≤ 1001) (hF9 : ∀ x ∈ F, V9 x) : ∃ (bs' : List D) (F' : List Int), Bx bs' ∧ F'.length ≤ F.length + 1 ∧ (∀ x ∈ F', V9 x) ∧
    mIf (mBol (mBinL eqD 7 (mPure (.int 2)))) (mDrop (mMut 5 appD (mCons (mBinL ixD 2 (mCallB 0 2 fn__law_take (mCons (mCall1 lenD (mPeek 2)) (mPure [])))) (mPure [])))) (mPure .nx) (ST k bs ps a3 a4 (.own (F.map PyData.int)) (.val (.int x)) (.val (.int r)) a8) = some (.ok .nx (ST k bs' ps a3 a4 (.own (F'.map PyData.int)) (.val (.int x)) (.val (.int r)) a8)) := by
  have fF : fit (F.map PyData.int).length = true := fit_of2 (by rw [List.length_map]; omega)
  have e2 := eq_int r 2
  by_cases q : r = 2
  · rw [decide_eq_true q] at e2
    obtain ⟨y, b2, hy, hb2, ed⟩ := tw_draw (k := k) (a3 := a3) (a4 := a4) (a5 := .own (F.map PyData.int)) (a6 := .val (.int x)) (a7 := .val (.int r)) (a8 := a8) hb h1 h2 h9
    refine ⟨b2, F ++ [y], hb2, by rw [List.length_append, List.length_singleton]; exact Nat.le_refl _, fun v hv => ?_, ?_⟩
    · rcases List.mem_append.mp hv with hv | hv
      · exact hF9 v hv
      · rw [List.mem_singleton.mp hv]; exact hy
    rw [List.map_append]
    show _ = some (R.ok Fl.nx (ST k b2 ps a3 a4 (.own (F.map PyData.int ++ [.int y])) (.val (.int x)) (.val (.int r)) a8))
    generalize F.map PyData.int = H at *
    generalize mBinL ixD 2 (mCallB 0 2 fn__law_take (mCons (mCall1 lenD (mPeek 2)) (mPure []))) = md at *
    unfold ST at *
    generalize sqI false ps = P at *
    simp [mIf, mBol, bolD, mBinL, mDrop, mMut, mOwn, mPut, appD, mCons, mBind, mPure, mPeek, mLift, e2, ed, fF]
  · rw [decide_eq_false q] at e2
    exact ⟨bs, F, hb, Nat.le_succ _, hF9, by unfold ST; generalize sqI false ps = P at *; generalize F.map PyData.int = H at *; simp [mIf, mBol, bolD, mBinL, mBind, mPure, mPeek, mLift, e2]⟩
theorem tw_loop {mn : D} {xs : List Int} (hb : Bx bs) (h1 : 1 ≤ ps.length) (h2 : ps.length ≤ 100) (h9 : ∀ x ∈ ps, V9 x) (hx : ∀ x ∈ xs, V9 x) (hl : xs.length ≤ 100) : ∃ (F : List Int) (bs' : List D) (b6 b7 : Sl), (∀ x ∈ F, V9 x) ∧ F.length ≤ 200 ∧ Bx bs' ∧
    R__law_two_rows_0 (ST k bs ps (.val mn) (.own (xs.map PyData.int)) (.own []) .un .un .un) = some (.ok .nx (ST k bs' ps (.val mn) (.val (sqI false xs)) (.own (F.map PyData.int)) b6 b7 .un)) := by
  obtain ⟨ρ', hlp, b1, F, b6, b7, hb1, hF, hF9, rfl⟩ := forL_ix (g := mStore 6) (body := L__law_two_rows_0) (fun j ρ => ∃ (bs : List D) (F : List Int) (a6 a7 : Sl), Bx bs ∧ F.length ≤ 2 * j ∧ (∀ x ∈ F, V9 x) ∧ ρ = ST k bs ps (.val mn) (.val (sqI false xs)) (.own (F.map PyData.int)) a6 a7 .un) (xs.map PyData.int) 0 (ST k bs ps (.val mn) (.val (sqI false xs)) (.own []) .un .un .un) ⟨bs, [], .un, .un, hb, Nat.le_refl _, fun _ h => (by cases h), rfl⟩ (by
    rintro j d ρ hd ⟨bs, F, a6, a7, hb, hF, hF9, rfl⟩
    have hj : j < xs.length := by
      have := (List.getElem?_eq_some_iff.mp hd).1
      rw [List.length_map] at this
      exact this
    rw [List.getElem?_map, List.getElem?_eq_getElem hj] at hd
    obtain rfl := Option.some.inj hd
    obtain ⟨r, c1, ht, r0, r1, hc1⟩ := take_ok (m := 6) hb (by omega) (by omega)
    obtain ⟨c2, F2, hc2, l2, q2, e2⟩ := tw_a (k := k) (a3 := .val mn) (a4 := .val (sqI false xs)) (a8 := .un) (F := F) (x := xs[j]) (r := r) hc1 h1 h2 h9 (hx _ (List.getElem_mem _)) (by omega) hF9
    obtain ⟨c3, F3, hc3, l3, q3, e3⟩ := tw_b (k := k) (a3 := .val mn) (a4 := .val (sqI false xs)) (a8 := .un) (F := F2) (x := xs[j]) (r := r) hc2 h1 h2 h9 (by omega) q2
    refine ⟨ST k bs ps (.val mn) (.val (sqI false xs)) (.own (F.map PyData.int)) (.val (.int xs[j])) a7 .un, ST k c3 ps (.val mn) (.val (sqI false xs)) (.own (F3.map PyData.int)) (.val (.int xs[j])) (.val (.int r)) .un, rfl, .inl ?_, c3, F3, _, _, hc3, by omega, q3, rfl⟩
    unfold L__law_two_rows_0
    rw [seq_nx (ρ' := ST k c1 ps (.val mn) (.val (sqI false xs)) (.own (F.map PyData.int)) (.val (.int xs[j])) (.val (.int r)) .un) (by unfold ST; generalize sqI false xs = O; generalize sqI false ps = P; generalize F.map PyData.int = H; simp [mAsg, mStore, mDone, mCallB, mOwn, mPut, mRs, mCons, mBind, mPure, mLift, ht]), seq_nx e2]
    exact e3)
  rw [List.length_map] at hF
  refine ⟨F, b1, b6, b7, hF9, by omega, hb1, ?_⟩
  unfold R__law_two_rows_0 mFor
  rw [bind_is (show mItems (mVar 4) (ST k bs ps (.val mn) (.own (xs.map PyData.int)) (.own []) .un .un .un) = some (.ok (xs.map PyData.int) (ST k bs ps (.val mn) (.val (sqI false xs)) (.own []) .un .un .un)) by
    show _ = some (R.ok _ (ST k bs ps (.val mn) (.val (.list (xs.map PyData.int))) (.own []) .un .un .un))
    unfold ST; generalize sqI false ps = P at *; generalize xs.map PyData.int = M at *; simp [mItems, itemsD, mVar, mBind, mPure, mLift])]
  exact hlp
theorem tup2_is {ma mb : M D} {a b : D} {ρ ρ1 ρ2 : En} (ha : ma ρ = some (.ok a ρ1)) (hb : mb ρ1 = some (.ok b ρ2)) : mTup (mCons ma (mCons mb (mPure []))) ρ = some (.ok (.tuple [a, b]) ρ2) := by
  have f2 : fit 2 = true := rfl
  simp [mTup, mCons, mBind, mPure, mLift, ha, hb, f2]
theorem tw_many {bs : List D} (hb : Bx bs) : ∃ (mn : Int) (bs' : List D), 0 ≤ mn ∧ mn ≤ 60 ∧ Bx bs' ∧ mBin ixD (mLst (mCons (mPure (.int 9)) (mCons (mBin ixD (mLst (mCons (mPure (.int 30)) (mCons (mPure (.int 60)) (mPure [])))) (mCallB 0 2 fn__law_take (mCons (mPure (.int 2)) (mPure [])))) (mPure [])))) (mCall1 intD (mAnd (mBin eqD (mCallB 0 2 fn__law_take (mCons (mPure (.int 4)) (mPure []))) (mPure (.int 0))) (mBinL eqD 1 (mPure (.int 0))))) [.io bs, .val (.int k), .un, .un, .un, .un, .un, .un, .un] = some (.ok (.int mn) [.io bs', .val (.int k), .un, .un, .un, .un, .un, .un, .un]) := by
  obtain ⟨r, b1, ht, r0, r1, hb1⟩ := take_ok (m := 2) hb (by omega) (by omega)
  obtain ⟨q, b2, ht2, q0, q1, hb2⟩ := take_ok (m := 4) hb1 (by omega) (by omega)
  obtain ⟨v, hv, hvv⟩ : ∃ v : Int, ixD (.list [PyData.int 30, .int 60]) (.int r) = some (.int v) ∧ (v = 30 ∨ v = 60) := by
    have : r = 0 ∨ r = 1 := by omega
    rcases this with rfl | rfl
    · exact ⟨30, rfl, .inl rfl⟩
    · exact ⟨60, rfl, .inr rfl⟩
  have e0 := eq_int q 0
  have e1 := eq_int k 0
  have f2 : fit 2 = true := rfl
  have tt : truD (.bool true) = some true := rfl
  have tf : truD (.bool false) = some false := rfl
  have i0 : intD [.bool false] = some (.int 0) := rfl
  have i1 : intD [.bool true] = some (.int 1) := rfl
  have x0 : ixD (.list [PyData.int 9, .int v]) (.int 0) = some (.int 9) := rfl
  have x1 : ixD (.list [PyData.int 9, .int v]) (.int 1) = some (.int v) := rfl
  by_cases w : q = 0
  · rw [decide_eq_true w] at e0
    by_cases z : k = 0
    · rw [decide_eq_true z] at e1
      refine ⟨v, b2, by omega, by omega, hb2, ?_⟩
      generalize hL : PyData.list [PyData.int 30, .int 60] = LL at *
      generalize hL2 : PyData.list [PyData.int 9, .int v] = L2 at *
      simp [mBin, mBinL, mLst, mCall1, mAnd, mCallB, mOwn, mPut, mRs, mCons, mBind, mPure, mPeek, mLift, f2, hL, hL2, ht, ht2, hv, e0, e1, tt, i1, x1]
    · rw [decide_eq_false z] at e1
      refine ⟨9, b2, by omega, by omega, hb2, ?_⟩
      generalize hL : PyData.list [PyData.int 30, .int 60] = LL at *
      generalize hL2 : PyData.list [PyData.int 9, .int v] = L2 at *
      simp [mBin, mBinL, mLst, mCall1, mAnd, mCallB, mOwn, mPut, mRs, mCons, mBind, mPure, mPeek, mLift, f2, hL, hL2, ht, ht2, hv, e0, e1, tt, i0, x0]
  · rw [decide_eq_false w] at e0
    refine ⟨9, b2, by omega, by omega, hb2, ?_⟩
    generalize hL : PyData.list [PyData.int 30, .int 60] = LL at *
    generalize hL2 : PyData.list [PyData.int 9, .int v] = L2 at *
    simp [mBin, mBinL, mLst, mCall1, mAnd, mCallB, mOwn, mPut, mRs, mCons, mBind, mPure, mPeek, mLift, f2, hL, hL2, ht, ht2, hv, e0, tf, i0, x0]
structure Two (xs ys : List Int) : Prop where
  l1 : xs.length ≤ 60
  l2 : ys.length ≤ 60
  v1 : ∀ x ∈ xs, V9 x
  v2 : ∀ x ∈ ys, V9 x
theorem two_rows_ok {bs : List D} (hb : Bx bs) : ∃ (xs ys : List Int) (bs' : List D), Two xs ys ∧ Bx bs' ∧ fn__law_two_rows bs [.int k] = some (.ok (.tuple [sqI false xs, sqI false ys]), bs') := by
  obtain ⟨ps, b1, p1, p5, p9, hb1, hpool⟩ := pool_ok hb
  obtain ⟨mn, b2, m0, m1, hb2, em⟩ := tw_many (k := k) hb1
  obtain ⟨xs, b3, lx, vx, hb3, ec⟩ := tw_comp (k := k) (a4 := .un) (a5 := .un) (a6 := .un) (a7 := .un) hb2 p1 (by omega) p9 m0 m1
  obtain ⟨r, b4, ht, r0, r1, hb4⟩ := take_ok (m := 3) hb3 (by omega) (by omega)
  have hxs : PyData.list (xs.map PyData.int) = sqI false xs := rfl
  have s1 : mAsg (mTup (mCons (mCallB 0 1 fn__law_pool (mPure [])) (mCons (mBin ixD (mLst (mCons (mPure (.int 9)) (mCons (mBin ixD (mLst (mCons (mPure (.int 30)) (mCons (mPure (.int 60)) (mPure [])))) (mCallB 0 2 fn__law_take (mCons (mPure (.int 2)) (mPure [])))) (mPure [])))) (mCall1 intD (mAnd (mBin eqD (mCallB 0 2 fn__law_take (mCons (mPure (.int 4)) (mPure []))) (mPure (.int 0))) (mBinL eqD 1 (mPure (.int 0)))))) (mPure [])))) (gTupD 2 (gCons2 (mStore 2) (gCons2 (mStore 3) gsNil))) [.io bs, .val (.int k), .un, .un, .un, .un, .un, .un, .un] = some (.ok .nx (ST k b2 ps (.val (.int mn)) .un .un .un .un .un)) := by
    have e1 : mCallB 0 1 fn__law_pool (mPure []) [.io bs, .val (.int k), .un, .un, .un, .un, .un, .un, .un] = some (.ok (sqI false ps) [.io b1, .val (.int k), .un, .un, .un, .un, .un, .un, .un]) := by
      generalize sqI false ps = P at *
      simp [mCallB, mOwn, mPut, mRs, mBind, mPure, mLift, hpool]
    unfold mAsg
    rw [bind_is (tup2_is e1 em)]
    unfold ST
    generalize sqI false ps = P at *
    simp [gTupD, gCons2, gsNil, mStore, mDone, mBind, mPure]
  have s2 : mAsgN C__law_two_rows_0 4 (ST k b2 ps (.val (.int mn)) .un .un .un .un .un) = some (.ok .nx (ST k b3 ps (.val (.int mn)) (.own (xs.map PyData.int)) .un .un .un .un)) := by
    unfold mAsgN
    rw [bind_is (show C__law_two_rows_0 _ = _ from ec)]
    unfold ST
    generalize sqI false ps = P at *
    generalize xs.map PyData.int = M at *
    simp [mStoreO, mDone, mBind, mPure]
  have er := eq_int r 0
  by_cases q : r = 0
  · rw [decide_eq_true q] at er
    obtain ⟨ys, b5, ly, vy, hb5, ec2⟩ := tw_comp (k := k) (a4 := .val (sqI false xs)) (a5 := .un) (a6 := .un) (a7 := .un) hb4 p1 (by omega) p9 m0 m1
    refine ⟨xs, ys, b5, ⟨lx, ly, vx, vy⟩, hb5, ?_⟩
    have hv := mVal_is (show C__law_two_rows_1 _ = _ from ec2)
    have hys : PyData.list (ys.map PyData.int) = sqI false ys := rfl
    rw [hys] at hv
    have s3 : mIf (mBol (mBin eqD (mCallB 0 2 fn__law_take (mCons (mPure (.int 3)) (mPure []))) (mPure (.int 0)))) (mRet (mTup (mCons (mVar 4) (mCons (mVal C__law_two_rows_1) (mPure []))))) (mPure .nx) (ST k b3 ps (.val (.int mn)) (.own (xs.map PyData.int)) .un .un .un .un) = some (.ok (.rt (.tuple [sqI false xs, sqI false ys])) (ST k b5 ps (.val (.int mn)) (.val (sqI false xs)) .un .un .un .un)) := by
      rw [← hxs] at hv ⊢
      unfold ST at *
      have f2 : fit 2 = true := rfl
      clear ec ec2 s1 s2
      generalize mVal C__law_two_rows_1 = mv at *
      generalize sqI false ys = Y at *
      generalize sqI false ps = P at *
      generalize xs.map PyData.int = M at *
      simp [mIf, mBol, bolD, mBin, mCallB, mOwn, mPut, mRs, mRet, mTup, mCons, mVar, mBind, mPure, mLift, ht, er, hv, f2]
    unfold fn__law_two_rows runB m__law_two_rows
    rw [show env0B 9 bs [.int k] = [.io bs, .val (.int k), .un, .un, .un, .un, .un, .un, .un] from rfl, seq_nx s1, seq_nx s2]
    unfold mSeq
    rw [bind_is s3]
    rfl
  · rw [decide_eq_false q] at er
    obtain ⟨F, b5, b6, b7, vF, lF, hb5, eR⟩ := tw_loop (k := k) (mn := .int mn) hb4 p1 (by omega) p9 vx (by omega)
    obtain ⟨w, b8, hw, w0, w1, hb8⟩ := take_ok (m := 2) hb5 (by omega) (by omega)
    have hs : slD (.list (F.map PyData.int)) none (some 60) = some (sqI false (F.take 60)) := sl_take F 60
    have lT : (F.take 60).length ≤ 60 := by rw [List.length_take]; omega
    have vT : ∀ x ∈ F.take 60, V9 x := fun x hx => vF x (List.mem_of_mem_take hx)
    have f2 : fit 2 = true := rfl
    have f0 : fit 0 = true := rfl
    have s3 : mIf (mBol (mBin eqD (mCallB 0 2 fn__law_take (mCons (mPure (.int 3)) (mPure []))) (mPure (.int 0)))) (mRet (mTup (mCons (mVar 4) (mCons (mVal C__law_two_rows_1) (mPure []))))) (mPure .nx) (ST k b3 ps (.val (.int mn)) (.own (xs.map PyData.int)) .un .un .un .un) = some (.ok .nx (ST k b4 ps (.val (.int mn)) (.own (xs.map PyData.int)) .un .un .un .un)) := by
      unfold ST
      generalize sqI false ps = P at *
      generalize xs.map PyData.int = M at *
      simp [mIf, mBol, bolD, mBin, mCallB, mOwn, mPut, mRs, mCons, mBind, mPure, mLift, ht, er]
    have s4 : mAsgN (mLstN (mPure [])) 5 (ST k b4 ps (.val (.int mn)) (.own (xs.map PyData.int)) .un .un .un .un) = some (.ok .nx (ST k b4 ps (.val (.int mn)) (.own (xs.map PyData.int)) (.own []) .un .un .un)) := by
      unfold ST
      generalize sqI false ps = P at *
      generalize xs.map PyData.int = M at *
      simp [mAsgN, mLstN, mStoreO, mDone, mBind, mPure, mLift, f0]
    have fin : ∃ xs' ys', Two xs' ys' ∧ mRet (mBin ixD (mLst (mCons (mTup (mCons (mVar 4) (mCons (mSlL 5 mNoPart (mPart (mPure (.int 60)))) (mPure [])))) (mCons (mTup (mCons (mSlL 5 mNoPart (mPart (mPure (.int 60)))) (mCons (mVar 4) (mPure [])))) (mPure [])))) (mCallB 0 2 fn__law_take (mCons (mPure (.int 2)) (mPure [])))) (ST k b5 ps (.val (.int mn)) (.val (sqI false xs)) (.own (F.map PyData.int)) b6 b7 .un) = some (.ok (.rt (.tuple [sqI false xs', sqI false ys'])) (ST k b8 ps (.val (.int mn)) (.val (sqI false xs)) (.own (F.map PyData.int)) b6 b7 .un)) := by
      obtain ⟨xs', ys', tw, hx⟩ : ∃ xs' ys', Two xs' ys' ∧ ixD (.list [.tuple [sqI false xs, sqI false (F.take 60)], .tuple [sqI false (F.take 60), sqI false xs]]) (.int w) = some (.tuple [sqI false xs', sqI false ys']) := by
        have : w = 0 ∨ w = 1 := by omega
        rcases this with rfl | rfl
        · exact ⟨xs, F.take 60, ⟨lx, lT, vx, vT⟩, rfl⟩
        · exact ⟨F.take 60, xs, ⟨lT, lx, vT, vx⟩, rfl⟩
      refine ⟨xs', ys', tw, ?_⟩
      clear eR ec s1 s2 s3 s4
      unfold ST
      generalize PyData.tuple [sqI false xs', sqI false ys'] = RR at *
      generalize sqI false (F.take 60) = FT at *
      generalize sqI false xs = X at *
      generalize sqI false ps = P at *
      generalize F.map PyData.int = H at *
      generalize hL : PyData.list [.tuple [X, FT], .tuple [FT, X]] = LL at *
      simp [mRet, mBin, mLst, mTup, mSlL, mNoPart, mPart, intO, mCallB, mOwn, mPut, mRs, mCons, mVar, mBind, mPure, mPeek, mLift, hs, f2, hL, hw, hx]
    obtain ⟨xs', ys', tw, hret⟩ := fin
    refine ⟨xs', ys', b8, tw, hb8, ?_⟩
    unfold fn__law_two_rows runB m__law_two_rows
    rw [show env0B 9 bs [.int k] = [.io bs, .val (.int k), .un, .un, .un, .un, .un, .un, .un] from rfl, seq_nx s1, seq_nx s2, seq_nx s3, seq_nx s4, seq_nx eR, hret]
    rfl
end

/-! ### things of the form of what held tells -/
def stD (p : Str × List Int) : D := .tuple (.str p.1 :: p.2.map PyData.int)
def rowsD (rows : List (List Int)) : D := .tuple (rows.map fun r => .tuple (r.map PyData.int))
def oddD (c : Int) (ss : List (Str × List Int)) (rows : List (List Int)) : D := .tuple [.int c, .tuple (ss.map stD), rowsD rows]
structure StOk (p : Str × List Int) : Prop where
  k : PyData.strOk p.1 = true
  l1 : 1 ≤ p.2.length
  l2 : p.2.length ≤ 2
def good (w : Str) : Bool := (tb_GOES.lookup w).isSome
def spI : Ed.Sp → List Int
  | .both i j => [(i : Int), (j : Int)]
  | .lack i => [(i : Int)]
  | .more j => [(j : Int)]
def spS (xs ys : List Int) (s : Ed.Sp) : Str × List Int := (spW xs ys s, spI s)
theorem spS_D {xs ys : List Int} {s : Ed.Sp} : stD (spS xs ys s) = spD xs ys s := by cases s <;> rfl
theorem stD_0 {p : Str × List Int} : ixD (stD p) (.int 0) = some (.str p.1) := atI_nat' (by decide) rfl
theorem stD_sh {p : Str × List Int} (h : StOk p) : Sh 1 (stD p) := by
  refine Sh.tuple fun d hd => ?_
  rcases List.mem_cons.mp hd with rfl | hd
  · exact sh_strV h.k
  · obtain ⟨x, _, rfl⟩ := List.mem_map.mp hd; exact Sh.int x
theorem eqv_ints : ∀ a b : List Int, PyData.eqvAll (a.map PyData.int) (b.map PyData.int) = decide (a = b)
  | [], [] => rfl
  | [], _ :: _ => rfl
  | _ :: _, [] => rfl
  | x :: a, y :: b => by
    rw [List.map_cons, List.map_cons]
    simp only [PyData.eqvAll, PyData.eqv, eqv_ints a b]
    by_cases h : x = y
    · subst h
      by_cases h2 : a = b
      · subst h2; simp
      · rw [decide_eq_false h2, decide_eq_false fun z => h2 (List.cons.inj z).2]; simp
    · rw [decide_eq_false (p := x :: a = y :: b) fun z => h (List.cons.inj z).1]
      have : (x == y) = false := by simpa using h
      rw [this]; rfl
theorem eqv_st (p q : Str × List Int) : PyData.eqv (stD p) (stD q) = decide (p = q) := by
  obtain ⟨w, a⟩ := p
  obtain ⟨v, b⟩ := q
  show PyData.eqv (.tuple (.str w :: a.map PyData.int)) (.tuple (.str v :: b.map PyData.int)) = _
  simp only [PyData.eqv, PyData.eqvAll, eqv_ints]
  by_cases h : w = v
  · subst h
    by_cases h2 : a = b
    · subst h2; simp
    · rw [decide_eq_false h2, decide_eq_false fun z => h2 (Prod.mk.inj z).2]; simp
  · rw [decide_eq_false (p := (w, a) = (v, b)) fun z => h (Prod.mk.inj z).1]
    have : (w == v) = false := beq_false_of_ne h
    rw [this]; rfl
theorem eq_st {p q : Str × List Int} (hp : StOk p) (hq : StOk q) : eqD (stD p) (stD q) = some (.bool (decide (p = q))) := by
  rw [eq_sh (stD_sh hp) (stD_sh hq) (by omega) (by omega), eqv_st]
theorem spS_ok {xs ys : List Int} {s : Ed.Sp} : StOk (spS xs ys s) := ⟨spW_ok, by cases s <;> exact Nat.le_add_left 1 _, by cases s with | both i j => exact Nat.le_refl 2 | lack i => exact Nat.le_succ 1 | more j => exact Nat.le_succ 1⟩
/-! the step that stands at a place -/
def wOv (w : Str) : Nat := if w = "more" then 0 else 1
def wUn (w : Str) : Nat := if w = "lack" then 0 else 1
def wC (u l m : Int) (w : Str) : Int := if w = "same" then 0 else if w = "unlike" then u else if w = "lack" then l else m
theorem w_ne : (Str.ofString "same" ≠ Str.ofString "unlike" ∧ Str.ofString "same" ≠ Str.ofString "lack" ∧ Str.ofString "same" ≠ Str.ofString "more") ∧ (Str.ofString "unlike" ≠ Str.ofString "lack" ∧ Str.ofString "unlike" ≠ Str.ofString "more") ∧ Str.ofString "lack" ≠ Str.ofString "more" := by decide +kernel
theorem good_4 {w : Str} (h : good w = true) : w = "same" ∨ w = "unlike" ∨ w = "lack" ∨ w = "more" := by
  by_cases h1 : w = Str.ofString "same"
  · exact .inl h1
  by_cases h2 : w = Str.ofString "unlike"
  · exact .inr (.inl h2)
  by_cases h3 : w = Str.ofString "lack"
  · exact .inr (.inr (.inl h3))
  by_cases h4 : w = Str.ofString "more"
  · exact .inr (.inr (.inr h4))
  have b1 : (w == Str.ofString "same") = false := beq_false_of_ne h1
  have b2 : (w == Str.ofString "unlike") = false := beq_false_of_ne h2
  have b3 : (w == Str.ofString "lack") = false := beq_false_of_ne h3
  have b4 : (w == Str.ofString "more") = false := beq_false_of_ne h4
  unfold good tb_GOES at h
  simp [List.lookup, b1, b2, b3, b4] at h
theorem good_sp {xs ys : List Int} {s : Ed.Sp} : good (spW xs ys s) = true := by
  have := gin_sp (xs := xs) (ys := ys) (s := s)
  have h : ginD false tb_GOES (.str (spW xs ys s)) = some (.bool (good (spW xs ys s))) := rfl
  rw [h] at this
  exact PyData.bool.inj (Option.some.inj this)
theorem goes_w {w : Str} (h : good w = true) : tabD tb_GOES (.str w) = some (.tuple [.int (wOv w : Nat), .int (wUn w : Nat)]) := by
  obtain ⟨⟨n1, n2, n3⟩, ⟨n4, n5⟩, n6⟩ := w_ne
  rcases good_4 h with rfl | rfl | rfl | rfl
  · have := goes_sp (xs := []) (ys := []) (s := .both 0 0)
    unfold wOv wUn
    rw [if_neg n3, if_neg n2]
    exact this
  · have := goes_sp (xs := [0]) (ys := []) (s := .both 0 0)
    unfold wOv wUn
    rw [if_neg n5, if_neg n4]
    exact this
  · have := goes_sp (xs := []) (ys := []) (s := .lack 0)
    unfold wOv wUn
    rw [if_neg n6, if_pos rfl]
    exact this
  · have := goes_sp (xs := []) (ys := []) (s := .more 0)
    unfold wOv wUn
    rw [if_pos rfl, if_neg (Ne.symm n6)]
    exact this
theorem dget_w {u l m : Int} {w : Str} (h : good w = true) : dgetD (costD u l m) (.str w) = some (.int (wC u l m w)) := by
  obtain ⟨⟨n1, n2, n3⟩, ⟨n4, n5⟩, n6⟩ := w_ne
  rcases good_4 h with rfl | rfl | rfl | rfl
  · have := dget_sp (u := u) (l := l) (m := m) (xs := []) (ys := []) (s := .both 0 0)
    unfold wC
    rw [if_pos rfl]
    exact this
  · have := dget_sp (u := u) (l := l) (m := m) (xs := [0]) (ys := []) (s := .both 0 0)
    unfold wC
    rw [if_neg (Ne.symm n1), if_pos rfl]
    exact this
  · have := dget_sp (u := u) (l := l) (m := m) (xs := []) (ys := []) (s := .lack 0)
    unfold wC
    rw [if_neg (Ne.symm n2), if_neg (Ne.symm n4), if_pos rfl]
    exact this
  · have := dget_sp (u := u) (l := l) (m := m) (xs := []) (ys := []) (s := .more 0)
    unfold wC
    rw [if_neg (Ne.symm n3), if_neg (Ne.symm n5), if_neg (Ne.symm n6)]
    exact this
section
variable {u l m : Int} (xs ys : List Int)
def lawAt (i j : Nat) (p : Str × List Int) : Option Ed.Sp :=
  if p = spS xs ys (.lack i) ∧ i < xs.length then some (.lack i)
  else if p = spS xs ys (.more j) ∧ j < ys.length then some (.more j)
  else if i < xs.length ∧ j < ys.length ∧ p = spS xs ys (.both i j) then some (.both i j) else none
theorem sp_w (s : Ed.Sp) : wOv (spW xs ys s) = s.ov ∧ wUn (spW xs ys s) = s.un ∧ wC u l m (spW xs ys s) = Ed.spC u l m xs ys s := by
  obtain ⟨⟨n1, n2, n3⟩, ⟨n4, n5⟩, n6⟩ := w_ne
  have h1 := goes_w (good_sp (xs := xs) (ys := ys) (s := s))
  rw [goes_sp] at h1
  have h2 := dget_w (u := u) (l := l) (m := m) (good_sp (xs := xs) (ys := ys) (s := s))
  rw [dget_sp] at h2
  have h1 := PyData.tuple.inj (Option.some.inj h1)
  have a := (List.cons.inj h1).1
  have b := (List.cons.inj (List.cons.inj h1).2).1
  have a := PyData.int.inj a
  have b := PyData.int.inj b
  exact ⟨by omega, by omega, (PyData.int.inj (Option.some.inj h2)).symm⟩
theorem lawAt_is {i j : Nat} {p : Str × List Int} {s : Ed.Sp} (hi : i ≤ xs.length) (hj : j ≤ ys.length) (h : lawAt xs ys i j p = some s) : p = spS xs ys s ∧ s.at i j ∧ i + s.ov ≤ xs.length ∧ j + s.un ≤ ys.length := by
  unfold lawAt at h
  split at h
  · rename_i q; cases h; exact ⟨q.1, rfl, q.2, hj⟩
  · split at h
    · rename_i q; cases h; exact ⟨q.1, rfl, hi, q.2⟩
    · split at h
      · rename_i q; cases h; exact ⟨q.2.2, ⟨rfl, rfl⟩, q.1, q.2.1⟩
      · cases h
theorem lawAt_good {i j : Nat} {p : Str × List Int} (h : good p.1 = false) : lawAt xs ys i j p = none := by
  have key : ∀ s : Ed.Sp, p ≠ spS xs ys s := fun s e => by
    rw [e] at h
    rw [show (spS xs ys s).1 = spW xs ys s from rfl, good_sp] at h
    cases h
  unfold lawAt
  rw [if_neg fun z => key _ z.1, if_neg fun z => key _ z.1, if_neg fun z => key _ z.2.2]
/-- what the program asks of a step at a place -/
def progAt (i j : Nat) (p : Str × List Int) : Bool := decide (i + wOv p.1 ≤ xs.length) && (decide (j + wUn p.1 ≤ ys.length) && (Ed.stepsTo (i + wOv p.1) (j + wUn p.1)).any fun s => decide (spS xs ys s = p))
theorem prog_law {i j : Nat} {p : Str × List Int} (hi : i ≤ xs.length) (hj : j ≤ ys.length) : progAt xs ys i j p = (lawAt xs ys i j p).isSome := by
  cases hl : lawAt xs ys i j p with
  | some s =>
    obtain ⟨rfl, hat, h1, h2⟩ := lawAt_is xs ys hi hj hl
    obtain ⟨w1, w2, _⟩ := sp_w (u := 0) (l := 0) (m := 0) xs ys s
    unfold progAt
    show (decide (i + wOv (spW xs ys s) ≤ xs.length) && (decide (j + wUn (spW xs ys s) ≤ ys.length) && (Ed.stepsTo (i + wOv (spW xs ys s)) (j + wUn (spW xs ys s))).any fun t => decide (spS xs ys t = spS xs ys s))) = true
    rw [w1, w2, decide_eq_true h1, decide_eq_true h2, Bool.true_and, Bool.true_and]
    exact List.any_eq_true.mpr ⟨s, Ed.at_mem hat, decide_eq_true rfl⟩
  | none =>
    cases hp : progAt xs ys i j p with
    | false => rfl
    | true =>
      exfalso
      unfold progAt at hp
      rw [Bool.and_eq_true, Bool.and_eq_true] at hp
      obtain ⟨h1, h2, h3⟩ := hp
      have h1 := of_decide_eq_true h1
      have h2 := of_decide_eq_true h2
      obtain ⟨s, hs, he⟩ := List.any_eq_true.mp h3
      obtain rfl := of_decide_eq_true he
      obtain ⟨w1, w2, _⟩ := sp_w (u := 0) (l := 0) (m := 0) xs ys s
      have e1 : wOv (spS xs ys s).1 = s.ov := w1
      have e2 : wUn (spS xs ys s).1 = s.un := w2
      rw [e1] at h1 hs
      rw [e2] at h2 hs
      obtain ⟨_, _, _, hat⟩ := Ed.mem_at hs
      rw [Nat.add_sub_cancel, Nat.add_sub_cancel] at hat
      unfold lawAt at hl
      cases s with
      | lack a => obtain rfl := hat; rw [if_pos ⟨rfl, h1⟩] at hl; cases hl
      | more b =>
        obtain rfl := hat
        split at hl
        · cases hl
        · rw [if_pos ⟨rfl, h2⟩] at hl; cases hl
      | both a b =>
        obtain ⟨rfl, rfl⟩ := hat
        split at hl
        · cases hl
        · split at hl
          · cases hl
          · rw [if_pos ⟨h1, h2, rfl⟩] at hl; cases hl
/-- where steps lead, and what they cost -/
def walkG (u l m : Int) : Nat → Nat → Int → List (Str × List Int) → Option (Nat × Nat × Int)
  | i, j, w, [] => some (i, j, w)
  | i, j, w, p :: ss => match lawAt xs ys i j p with
    | none => none
    | some s => walkG u l m (i + s.ov) (j + s.un) (w + Ed.spC u l m xs ys s) ss
theorem walk_sum : ∀ (ss : List (Str × List Int)) (i j : Nat) (w : Int) {r : Nat × Nat × Int}, i ≤ xs.length → j ≤ ys.length → walkG xs ys u l m i j w ss = some r → r.2.2 = w + (ss.map fun p => wC u l m p.1).sum
  | [], i, j, w, r, _, _, h => by cases h; simp
  | p :: ss, i, j, w, r, hi, hj, h => by
    unfold walkG at h
    cases hl : lawAt xs ys i j p with
    | none => rw [hl] at h; cases h
    | some s =>
      rw [hl] at h
      obtain ⟨rfl, hat, h1, h2⟩ := lawAt_is xs ys hi hj hl
      have := walk_sum ss _ _ _ h1 h2 h
      rw [this, List.map_cons, List.sum_cons]
      have e : wC u l m (spS xs ys s).1 = Ed.spC u l m xs ys s := (sp_w xs ys s).2.2
      rw [e]; omega
theorem walk_bad : ∀ (ss : List (Str × List Int)) (i j : Nat) (w : Int), (ss.all fun p => good p.1) = false → walkG xs ys u l m i j w ss = none
  | [], i, j, w, h => by cases h
  | p :: ss, i, j, w, h => by
    unfold walkG
    cases hg : good p.1 with
    | false => rw [lawAt_good xs ys hg]
    | true =>
      rw [List.all_cons, hg, Bool.true_and] at h
      cases lawAt xs ys i j p with
      | none => rfl
      | some s => exact walk_bad ss _ _ _ h
end

section
variable {u l m : Int} {xs ys : List Int} {t1 t2 : Bool}
/-! the program on things of this form -/
theorem is_stepO {p : Str × List Int} (h : StOk p) : fn__is_step [stD p] = some (.ok (.bool (good p.1))) := by
  have i0 := stD_0 (p := p)
  have tr : truD (stD p) = some true := rfl
  have ty : typD (stD p) = "tuple" := rfl
  have ty2 : typD (.str p.1) = "str" := rfl
  have tb : truD (.bool true) = some true := rfl
  have is_ : isiS "str" "str" = true := rfl
  have it : isiS "tuple" "tuple" = true := rfl
  have hc : slD (stD p) (some 1) none = some (.tuple (p.2.map PyData.int)) := by
    show some (PyData.tuple (cutL (.str p.1 :: p.2.map PyData.int) (some ((1 : Nat) : Int)) none)) = _
    rw [cut_drop]; rfl
  have ha := are_ints p.2 (by have := h.l2; omega)
  have hg : ginD false tb_GOES (.str p.1) = some (.bool (good p.1)) := rfl
  generalize stD p = S at *
  have hw : fn_word_of [S] = some (.ok (.str p.1)) := by
    generalize p.1 = W at *
    simp [fn_word_of, runV, m_word_of, env0, mSeq, mIf, mAndT, mTru, mIsi, mBinL, mBind, mPure, mPeek, mLift, mRet, isiT_eq, i0, tr, ty, ty2, tb, is_, it, isi_int_NoneType, isi_int_bool, isi_int_int, isi_int_str, isi_int_list, isi_int_tuple, isi_int_dict, isi_bool_NoneType, isi_bool_bool, isi_bool_int, isi_bool_str, isi_bool_list, isi_bool_tuple, isi_bool_dict, isi_str_NoneType, isi_str_bool, isi_str_int, isi_str_str, isi_str_list, isi_str_tuple, isi_str_dict, isi_list_NoneType, isi_list_bool, isi_list_int, isi_list_str, isi_list_list, isi_list_tuple, isi_list_dict, isi_tuple_NoneType, isi_tuple_bool, isi_tuple_int, isi_tuple_str, isi_tuple_list, isi_tuple_tuple, isi_tuple_dict, isi_dict_NoneType, isi_dict_bool, isi_dict_int, isi_dict_str, isi_dict_list, isi_dict_tuple, isi_dict_dict, isi_int_dictT, isi_bool_dictT, isi_str_dictT, isi_list_dictT, isi_tuple_dictT]
  generalize p.1 = W at *
  generalize PyData.tuple (p.2.map PyData.int) = R at *
  cases hgd : good W with
  | true =>
    rw [hgd] at hg
    simp [fn__is_step, runV, m__is_step, env0, mRet, mAnd, mGIn, mCallV, mRs, mCons, mVar, mSlL, mNoPart, mPart, intO, mBind, mPure, mPeek, mLift, hw, hg, hc, ha, truD]
  | false =>
    rw [hgd] at hg
    simp [fn__is_step, runV, m__is_step, env0, mRet, mAnd, mGIn, mCallV, mRs, mCons, mVar, mBind, mPure, mPeek, mLift, hw, hg, truD]
theorem all_bools {α : Type} (f : α → Bool) (L : List α) : allD [.list (L.map fun a => PyData.bool (f a))] = some (.bool (L.all f)) := by
  have : toBools (L.map fun a => PyData.bool (f a)) = some (L.map f) := toBools_mapf f L
  show (toBools (L.map fun a => PyData.bool (f a))).map _ = _
  rw [this]
  show some (PyData.bool ((L.map f).all id)) = _
  rw [List.all_map]; rfl
theorem has_formO {c : Int} {ss : List (Str × List Int)} {rows : List (List Int)} (hs : ∀ p ∈ ss, StOk p) (l1 : ss.length ≤ 10000) (l2 : rows.length ≤ 10000) (l3 : ∀ r ∈ rows, r.length ≤ 10000) : fn__has_form [oddD c ss rows] = some (.ok (.bool (ss.all fun p => good p.1))) := by
  have c0 : ∀ S T : D, C__has_form_0 [.val S, .val (.int c), .val (.tuple (ss.map stD)), .val T, .un, .un] = some (.ok (ss.map fun p => PyData.bool (good p.1)) [.val S, .val (.int c), .val (.tuple (ss.map stD)), .val T, .un, .un]) := fun S T => by
    refine comp_is (vs := [5]) (ds := ss.map stD) (ρ1 := [.val S, .val (.int c), .val (.tuple (ss.map stD)), .val T, .un, .un]) (ρe := [.val S, .val (.int c), .val (.tuple (ss.map stD)), .val T, .un, .un]) (by generalize ss.map stD = M; simp [mItems, itemsD, mVar, mBind, mPure, mLift]) (fit_of2 (by rw [List.length_map]; omega)) ?_
    refine go_mapA stD _ ss fun p hp => ?_
    have hw := is_stepO (hs p hp)
    generalize stD p = Z at *
    generalize ss.map stD = M
    exact ⟨[.val S, .val (.int c), .val (.tuple M), .val T, .un, .val Z], [.val S, .val (.int c), .val (.tuple M), .val T, .un, .val Z], by simp [mStore, unsE], by simp [mCallV, mRs, mCons, mVar, mBind, mPure, mLift, hw], by simp [unsE]⟩
  have c1 : ∀ S M : D, C__has_form_1 [.val S, .val (.int c), .val M, .val (rowsD rows), .un, .un] = some (.ok (rows.map fun _ => PyData.bool true) [.val S, .val (.int c), .val M, .val (rowsD rows), .un, .un]) := fun S M => by
    refine comp_is (vs := [4]) (ds := rows.map fun r => PyData.tuple (r.map PyData.int)) (ρ1 := [.val S, .val (.int c), .val M, .val (rowsD rows), .un, .un]) (ρe := [.val S, .val (.int c), .val M, .val (rowsD rows), .un, .un]) (by unfold rowsD; generalize (rows.map fun r => PyData.tuple (r.map PyData.int)) = Q; simp [mItems, itemsD, mVar, mBind, mPure, mLift]) (fit_of2 (by rw [List.length_map]; omega)) ?_
    refine go_mapA (fun r => PyData.tuple (r.map PyData.int)) _ rows fun r hr => ?_
    have hw := are_ints r (by have := l3 r hr; omega)
    have ty : typD (.tuple (r.map PyData.int)) = "tuple" := rfl
    generalize PyData.tuple (r.map PyData.int) = Z at *
    generalize rowsD rows = Q
    exact ⟨[.val S, .val (.int c), .val M, .val Q, .val Z, .un], [.val S, .val (.int c), .val M, .val Q, .val Z, .un], by simp [mStore, unsE], by simp [mAnd, mIsi, mCallV, mRs, mCons, mVar, mPeek, mBind, mPure, mLift, truD, hw, ty, isiT_eq, isi_int_NoneType, isi_int_bool, isi_int_int, isi_int_str, isi_int_list, isi_int_tuple, isi_int_dict, isi_bool_NoneType, isi_bool_bool, isi_bool_int, isi_bool_str, isi_bool_list, isi_bool_tuple, isi_bool_dict, isi_str_NoneType, isi_str_bool, isi_str_int, isi_str_str, isi_str_list, isi_str_tuple, isi_str_dict, isi_list_NoneType, isi_list_bool, isi_list_int, isi_list_str, isi_list_list, isi_list_tuple, isi_list_dict, isi_tuple_NoneType, isi_tuple_bool, isi_tuple_int, isi_tuple_str, isi_tuple_list, isi_tuple_tuple, isi_tuple_dict, isi_dict_NoneType, isi_dict_bool, isi_dict_int, isi_dict_str, isi_dict_list, isi_dict_tuple, isi_dict_dict, isi_int_dictT, isi_bool_dictT, isi_str_dictT, isi_list_dictT, isi_tuple_dictT], by simp [unsE]⟩
  have a0 := all_bools (fun p : Str × List Int => good p.1) ss
  have a1 := all_true rows
  have tt : typD (rowsD rows) = "tuple" := rfl
  have hw := whole_int c
  unfold oddD
  have lt : lenD [.tuple [.int c, .tuple (ss.map stD), rowsD rows]] = some (.int 3) := rfl
  have i0 : ixD (.tuple [.int c, .tuple (ss.map stD), rowsD rows]) (.int 0) = some (.int c) := atI_nat' (by decide) rfl
  have ts : typD (.tuple (ss.map stD)) = "tuple" := rfl
  have v0 := fun S T => mVal_is (c0 S T)
  have v1 := fun S M => mVal_is (c1 S M)
  have n3 : neD (.int 3) (.int 3) = some (.bool false) := rfl
  generalize PyData.tuple (ss.map stD) = SS at *
  generalize rowsD rows = TB at *
  generalize PyData.list (ss.map fun p => PyData.bool (good p.1)) = B0 at *
  generalize PyData.list (rows.map fun _ => PyData.bool true) = B1 at *
  have ty : typD (.tuple [.int c, SS, TB]) = "tuple" := rfl
  have gt : ∀ ρ, gTupD 3 (gCons2 (mStore 1) (gCons2 (mStore 2) (gCons2 (mStore 3) gsNil))) (.tuple [.int c, SS, TB]) ρ = (gCons2 (mStore 1) (gCons2 (mStore 2) (gCons2 (mStore 3) gsNil))) [.int c, SS, TB] ρ := fun _ => rfl
  generalize PyData.tuple [.int c, SS, TB] = S at *
  have tb : truD (.bool true) = some true := rfl
  have tf : truD (.bool false) = some false := rfl
  unfold fn__has_form runV m__has_form
  rw [show env0 6 [S] = [.val S, .un, .un, .un, .un, .un] from rfl]
  rw [seq_nx (ρ' := [.val S, .un, .un, .un, .un, .un]) (by simp [mIf, mOrT, mNotT, mTru, mIsi, mBol, bolD, mBin, mBinL, mCall1, mCallV, mRs, mCons, mBind, mPure, mPeek, mLift, truD, ty, isiT_eq, lt, i0, hw, n3, isi_int_NoneType, isi_int_bool, isi_int_int, isi_int_str, isi_int_list, isi_int_tuple, isi_int_dict, isi_bool_NoneType, isi_bool_bool, isi_bool_int, isi_bool_str, isi_bool_list, isi_bool_tuple, isi_bool_dict, isi_str_NoneType, isi_str_bool, isi_str_int, isi_str_str, isi_str_list, isi_str_tuple, isi_str_dict, isi_list_NoneType, isi_list_bool, isi_list_int, isi_list_str, isi_list_list, isi_list_tuple, isi_list_dict, isi_tuple_NoneType, isi_tuple_bool, isi_tuple_int, isi_tuple_str, isi_tuple_list, isi_tuple_tuple, isi_tuple_dict, isi_dict_NoneType, isi_dict_bool, isi_dict_int, isi_dict_str, isi_dict_list, isi_dict_tuple, isi_dict_dict, isi_int_dictT, isi_bool_dictT, isi_str_dictT, isi_list_dictT, isi_tuple_dictT])]
  rw [seq_nx (ρ' := [.val S, .val (.int c), .val SS, .val TB, .un, .un]) (by simp [mAsg, mVar, mBind, mPure, gt, gCons2, gsNil, mStore, mDone])]
  generalize (ss.all fun p => good p.1) = b at *
  cases b with
  | true =>
    rw [seq_nx (ρ' := [.val S, .val (.int c), .val SS, .val TB, .un, .un]) (by simp [mIf, mOrT, mNotT, mTru, mIsi, mCall1, mBind, mPure, mPeek, mLift, truD, ts, isiT_eq, v0, a0, isi_int_NoneType, isi_int_bool, isi_int_int, isi_int_str, isi_int_list, isi_int_tuple, isi_int_dict, isi_bool_NoneType, isi_bool_bool, isi_bool_int, isi_bool_str, isi_bool_list, isi_bool_tuple, isi_bool_dict, isi_str_NoneType, isi_str_bool, isi_str_int, isi_str_str, isi_str_list, isi_str_tuple, isi_str_dict, isi_list_NoneType, isi_list_bool, isi_list_int, isi_list_str, isi_list_list, isi_list_tuple, isi_list_dict, isi_tuple_NoneType, isi_tuple_bool, isi_tuple_int, isi_tuple_str, isi_tuple_list, isi_tuple_tuple, isi_tuple_dict, isi_dict_NoneType, isi_dict_bool, isi_dict_int, isi_dict_str, isi_dict_list, isi_dict_tuple, isi_dict_dict, isi_int_dictT, isi_bool_dictT, isi_str_dictT, isi_list_dictT, isi_tuple_dictT])]
    simp [mRet, mAnd, mIsi, mCall1, mBind, mPure, mPeek, mLift, truD, tt, isiT_eq, v1, a1, isi_int_NoneType, isi_int_bool, isi_int_int, isi_int_str, isi_int_list, isi_int_tuple, isi_int_dict, isi_bool_NoneType, isi_bool_bool, isi_bool_int, isi_bool_str, isi_bool_list, isi_bool_tuple, isi_bool_dict, isi_str_NoneType, isi_str_bool, isi_str_int, isi_str_str, isi_str_list, isi_str_tuple, isi_str_dict, isi_list_NoneType, isi_list_bool, isi_list_int, isi_list_str, isi_list_list, isi_list_tuple, isi_list_dict, isi_tuple_NoneType, isi_tuple_bool, isi_tuple_int, isi_tuple_str, isi_tuple_list, isi_tuple_tuple, isi_tuple_dict, isi_dict_NoneType, isi_dict_bool, isi_dict_int, isi_dict_str, isi_dict_list, isi_dict_tuple, isi_dict_dict, isi_int_dictT, isi_bool_dictT, isi_str_dictT, isi_list_dictT, isi_tuple_dictT]
  | false =>
    simp [mSeq, mIf, mOrT, mNotT, mTru, mIsi, mCall1, mRet, mBind, mPure, mPeek, mLift, truD, ts, isiT_eq, v0, a0, isi_int_NoneType, isi_int_bool, isi_int_int, isi_int_str, isi_int_list, isi_int_tuple, isi_int_dict, isi_bool_NoneType, isi_bool_bool, isi_bool_int, isi_bool_str, isi_bool_list, isi_bool_tuple, isi_bool_dict, isi_str_NoneType, isi_str_bool, isi_str_int, isi_str_str, isi_str_list, isi_str_tuple, isi_str_dict, isi_list_NoneType, isi_list_bool, isi_list_int, isi_list_str, isi_list_list, isi_list_tuple, isi_list_dict, isi_tuple_NoneType, isi_tuple_bool, isi_tuple_int, isi_tuple_str, isi_tuple_list, isi_tuple_tuple, isi_tuple_dict, isi_dict_NoneType, isi_dict_bool, isi_dict_int, isi_dict_str, isi_dict_list, isi_dict_tuple, isi_dict_dict, isi_int_dictT, isi_bool_dictT, isi_str_dictT, isi_list_dictT, isi_tuple_dictT]
theorem gt_v (a b : Nat) : gtD (.int (a : Nat)) (.int (b : Nat)) = some (.bool (decide (b < a))) := by
  show some (PyData.bool (decide ((b : Int) < (a : Int)))) = _
  rw [decide_eq_decide.mpr (show ((b : Int) < (a : Int)) ↔ b < a by omega)]
theorem inG_st {p : Str × List Int} (h : StOk p) (L : List Ed.Sp) : inG true (stD p) (.list (L.map (spD xs ys))) = some (.bool (!L.any fun s => decide (spS xs ys s = p))) := by
  have h1 := (stD_sh h).shaped (by omega)
  have h2 : SeqAt.shaped (.list (L.map (spD xs ys))) = true := (Sh.list (n := 1) fun d hd => by obtain ⟨z, _, rfl⟩ := List.mem_map.mp hd; exact spD_sh).shaped (by omega)
  have h3 : decide ((stD p).depth ≤ 60) = true := decide_eq_true (Nat.le_trans (stD_sh h).2 (by omega))
  have h4 : ((L.map (spD xs ys)).any fun z => PyData.eqv z (stD p)) = L.any fun s => decide (spS xs ys s = p) := by
    rw [List.any_map]
    congr 1
    funext s
    show PyData.eqv (spD xs ys s) (stD p) = _
    rw [← spS_D, eqv_st]
  show (if (SeqAt.shaped (stD p) && SeqAt.shaped (.list (L.map (spD xs ys))) && decide ((stD p).depth ≤ 60)) = true then some (PyData.bool (if true = true then !(L.map (spD xs ys)).any (fun z => PyData.eqv z (stD p)) else (L.map (spD xs ys)).any fun z => PyData.eqv z (stD p))) else none) = _
  rw [h1, h2, h3, h4]; rfl
theorem go_turnO {i j : Nat} {p : Str × List Int} {S : D} {a6 a7 : Sl} (hp : StOk p) (hg : good p.1 = true) (h1 : xs.length ≤ 1000) (h2 : ys.length ≤ 1000) :
    L__go_through_0 [.val (sqI t1 xs), .val (sqI t2 ys), .val S, .val (.int (i : Nat)), .val (.int (j : Nat)), .val (stD p), a6, a7] = some (.ok (if progAt xs ys i j p = true then .nx else .rt (.bool false)) [.val (sqI t1 xs), .val (sqI t2 ys), .val S, .val (.int ((i + wOv p.1 : Nat) : Int)), .val (.int ((j + wUn p.1 : Nat) : Int)), .val (stD p), .val (.int (wOv p.1 : Nat)), .val (.int (wUn p.1 : Nat))]) := by
  have g1 := gt_v (i + wOv p.1) xs.length
  have g2 := gt_v (j + wUn p.1) ys.length
  have l1 := sqI_len (t := t1) h1
  have l2 := sqI_len (t := t2) h2
  have w := stD_0 (p := p)
  have g := goes_w hg
  have hI : (i : Int) + (wOv p.1 : Int) = ((i + wOv p.1 : Nat) : Int) := by omega
  have hJ : (j : Int) + (wUn p.1 : Int) = ((j + wUn p.1 : Nat) : Int) := by omega
  have hin := inG_st (xs := xs) (ys := ys) hp (Ed.stepsTo (i + wOv p.1) (j + wUn p.1))
  have st : i + wOv p.1 ≤ xs.length → j + wUn p.1 ≤ ys.length → fn__steps_to [sqI t1 xs, sqI t2 ys, .int ((i + wOv p.1 : Nat) : Int), .int ((j + wUn p.1 : Nat) : Int)] = some (.ok (.list ((Ed.stepsTo (i + wOv p.1) (j + wUn p.1)).map (spD xs ys)))) := fun a b => steps_to_ok a b
  unfold progAt
  generalize ((Ed.stepsTo (i + wOv p.1) (j + wUn p.1)).any fun s => decide (spS xs ys s = p)) = bb at *
  generalize (Ed.stepsTo (i + wOv p.1) (j + wUn p.1)).map (spD xs ys) = ST at *
  generalize wOv p.1 = ov at *
  generalize wUn p.1 = un at *
  generalize stD p = SD at *
  generalize p.1 = SW at *
  generalize sqI t1 xs = O at *
  generalize sqI t2 ys = P at *
  have body : mIf (mOrT (mBol (mBinL gtD 3 (mCall1 lenD (mPeek 0)))) (mOrT (mBol (mBinL gtD 4 (mCall1 lenD (mPeek 1)))) ((mBol (mBinL (inG true) 5 (mCallV 4 fn__steps_to (mCons (mVar 0) (mCons (mVar 1) (mCons (mVar 3) (mCons (mVar 4) (mPure []))))))))))) (mRet (mPure (.bool false))) (mPure .nx) [.val O, .val P, .val S, .val (.int ((i + ov : Nat) : Int)), .val (.int ((j + un : Nat) : Int)), .val SD, .val (.int (ov : Nat)), .val (.int (un : Nat))] = some (.ok (if (decide (i + ov ≤ xs.length) && (decide (j + un ≤ ys.length) && bb)) = true then .nx else .rt (.bool false)) [.val O, .val P, .val S, .val (.int ((i + ov : Nat) : Int)), .val (.int ((j + un : Nat) : Int)), .val SD, .val (.int (ov : Nat)), .val (.int (un : Nat))]) := by
    by_cases q1 : i + ov ≤ xs.length
    · rw [decide_eq_false (by omega)] at g1
      by_cases q2 : j + un ≤ ys.length
      · rw [decide_eq_false (by omega)] at g2
        have st := st q1 q2
        rw [decide_eq_true q1, decide_eq_true q2, Bool.true_and, Bool.true_and]
        generalize ((i + ov : Nat) : Int) = I2 at *
        generalize ((j + un : Nat) : Int) = J2 at *
        cases bb with
        | true => simp [mIf, mOrT, mBol, bolD, mBinL, mCall1, mCallV, mRs, mCons, mVar, mBind, mLift, mPure, mPeek, l1, l2, g1, g2, st, hin]
        | false => simp [mIf, mOrT, mBol, bolD, mBinL, mCall1, mCallV, mRs, mCons, mVar, mRet, mBind, mLift, mPure, mPeek, l1, l2, g1, g2, st, hin]
      · rw [decide_eq_true (by omega)] at g2
        rw [decide_eq_true q1, decide_eq_false q2, Bool.true_and, Bool.false_and]
        generalize ((i + ov : Nat) : Int) = I2 at *
        generalize ((j + un : Nat) : Int) = J2 at *
        simp [mIf, mOrT, mBol, bolD, mBinL, mCall1, mRet, mBind, mLift, mPure, mPeek, l1, l2, g1, g2]
    · rw [decide_eq_true (by omega)] at g1
      rw [decide_eq_false q1, Bool.false_and]
      generalize ((i + ov : Nat) : Int) = I2 at *
      generalize ((j + un : Nat) : Int) = J2 at *
      simp [mIf, mOrT, mBol, bolD, mBinL, mCall1, mRet, mBind, mLift, mPure, mPeek, l1, g1]
  clear st g1 g2 hin
  generalize ((i + ov : Nat) : Int) = I2 at *
  generalize ((j + un : Nat) : Int) = J2 at *
  generalize ((ov : Nat) : Int) = OV at *
  generalize ((un : Nat) : Int) = UN at *
  generalize (i : Int) = I at *
  generalize (j : Int) = J at *
  unfold L__go_through_0
  rw [seq_nx (ρ' := [.val O, .val P, .val S, .val (.int I), .val (.int J), .val SD, .val (.int OV), .val (.int UN)]) (by simp [mAsg, mGIx, mBinL, mBind, mLift, mPure, mPeek, gTupD, gCons2, gsNil, mStore, mDone, w, g])]
  rw [seq_nx (ρ' := [.val O, .val P, .val S, .val (.int I2), .val (.int J), .val SD, .val (.int OV), .val (.int UN)]) (by simp [mAug, iI, mVar, mBind, mLift, mPure, mPeek, mStore, mDone, hI])]
  rw [seq_nx (ρ' := [.val O, .val P, .val S, .val (.int I2), .val (.int J2), .val SD, .val (.int OV), .val (.int UN)]) (by simp [mAug, iI, mVar, mBind, mLift, mPure, mPeek, mStore, mDone, hJ])]
  exact body
end

section
variable {u l m : Int} {xs ys : List Int} {t1 t2 : Bool}
theorem go_loopO {S : D} (h1 : xs.length ≤ 1000) (h2 : ys.length ≤ 1000) : ∀ (ss : List (Str × List Int)) (i j : Nat) (w : Int) (a5 a6 a7 : Sl), i ≤ xs.length → j ≤ ys.length → (∀ p ∈ ss, StOk p ∧ good p.1 = true) →
    ∃ ρ', mForL (mStore 5) L__go_through_0 (ss.map stD) [.val (sqI t1 xs), .val (sqI t2 ys), .val S, .val (.int (i : Nat)), .val (.int (j : Nat)), a5, a6, a7] = some (.ok (match walkG xs ys u l m i j w ss with | some _ => .nx | none => .rt (.bool false)) ρ') ∧
      ∀ r, walkG xs ys u l m i j w ss = some r → ∃ b5 b6 b7, ρ' = [.val (sqI t1 xs), .val (sqI t2 ys), .val S, .val (.int (r.1 : Nat)), .val (.int (r.2.1 : Nat)), b5, b6, b7]
  | [], i, j, w, a5, a6, a7, _, _, _ => ⟨_, rfl, fun r h => by cases h; exact ⟨_, _, _, rfl⟩⟩
  | p :: ss, i, j, w, a5, a6, a7, hi, hj, hs => by
    obtain ⟨hp, hg⟩ := hs p List.mem_cons_self
    have ht := go_turnO (t1 := t1) (t2 := t2) (xs := xs) (ys := ys) (i := i) (j := j) (S := S) (a6 := a6) (a7 := a7) hp hg h1 h2
    rw [prog_law xs ys hi hj] at ht
    have st : mStore 5 (stD p) [.val (sqI t1 xs), .val (sqI t2 ys), .val S, .val (.int (i : Nat)), .val (.int (j : Nat)), a5, a6, a7] = some (.ok () [.val (sqI t1 xs), .val (sqI t2 ys), .val S, .val (.int (i : Nat)), .val (.int (j : Nat)), .val (stD p), a6, a7]) := rfl
    cases hl : lawAt xs ys i j p with
    | none =>
      rw [hl] at ht
      have hw : walkG xs ys u l m i j w (p :: ss) = none := by unfold walkG; rw [hl]
      rw [hw]
      refine ⟨[.val (sqI t1 xs), .val (sqI t2 ys), .val S, .val (.int ((i + wOv p.1 : Nat) : Int)), .val (.int ((j + wUn p.1 : Nat) : Int)), .val (stD p), .val (.int (wOv p.1 : Nat)), .val (.int (wUn p.1 : Nat))], ?_, fun r h => by cases h⟩
      rw [List.map_cons]
      unfold mForL
      rw [bind_is st, bind_is ht]; rfl
    | some s =>
      rw [hl] at ht
      obtain ⟨e, hat, q1, q2⟩ := lawAt_is xs ys hi hj hl
      have hw : walkG xs ys u l m i j w (p :: ss) = walkG xs ys u l m (i + s.ov) (j + s.un) (w + Ed.spC u l m xs ys s) ss := by
        show (match lawAt xs ys i j p with | none => none | some s => walkG xs ys u l m (i + s.ov) (j + s.un) (w + Ed.spC u l m xs ys s) ss) = _
        rw [hl]
      obtain ⟨w1, w2, _⟩ := sp_w (u := 0) (l := 0) (m := 0) xs ys s
      have e1 : wOv p.1 = s.ov := by rw [e]; exact w1
      have e2 : wUn p.1 = s.un := by rw [e]; exact w2
      rw [e1, e2] at ht
      obtain ⟨ρ', ih, hr⟩ := go_loopO (S := S) h1 h2 ss (i + s.ov) (j + s.un) (w + Ed.spC u l m xs ys s) (.val (stD p)) (.val (.int (s.ov : Nat))) (.val (.int (s.un : Nat))) q1 q2 (fun z hz => hs z (List.mem_cons_of_mem _ hz))
      rw [hw]
      refine ⟨ρ', ?_, hr⟩
      rw [List.map_cons]
      unfold mForL
      rw [bind_is st, bind_is ht]
      exact ih
/-- whether steps go through both rows -/
def through (u l m : Int) (xs ys : List Int) (ss : List (Str × List Int)) : Bool := match walkG xs ys u l m 0 0 0 ss with
  | some r => decide (r.1 = xs.length) && decide (r.2.1 = ys.length)
  | none => false
theorem go_throughO {ss : List (Str × List Int)} (h1 : xs.length ≤ 1000) (h2 : ys.length ≤ 1000) (hs : ∀ p ∈ ss, StOk p ∧ good p.1 = true) : fn__go_through [sqI t1 xs, sqI t2 ys, .tuple (ss.map stD)] = some (.ok (.bool (through u l m xs ys ss))) := by
  obtain ⟨ρ', hr, hend⟩ := go_loopO (u := u) (l := l) (m := m) (t1 := t1) (t2 := t2) (S := .tuple (ss.map stD)) h1 h2 ss 0 0 0 .un .un .un (Nat.zero_le _) (Nat.zero_le _) hs
  have l1 := sqI_len (t := t1) h1
  have l2 := sqI_len (t := t2) h2
  have it : ∀ O P : D, mItems (mVar 2) [.val O, .val P, .val (.tuple (ss.map stD)), .val (.int 0), .val (.int 0), .un, .un, .un] = some (.ok (ss.map stD) [.val O, .val P, .val (.tuple (ss.map stD)), .val (.int 0), .val (.int 0), .un, .un, .un]) := fun O P => by
    generalize ss.map stD = M
    simp [mItems, itemsD, mVar, mBind, mPure, mLift]
  have hR : ∀ r, mForL (mStore 5) L__go_through_0 (ss.map stD) [.val (sqI t1 xs), .val (sqI t2 ys), .val (.tuple (ss.map stD)), .val (.int 0), .val (.int 0), .un, .un, .un] = r → R__go_through_0 [.val (sqI t1 xs), .val (sqI t2 ys), .val (.tuple (ss.map stD)), .val (.int 0), .val (.int 0), .un, .un, .un] = r := fun r h => by
    unfold R__go_through_0 mFor
    rw [bind_is (it _ _)]
    exact h
  have hR := hR _ hr
  clear hr it
  unfold through
  cases hw : walkG xs ys u l m 0 0 0 ss with
  | none =>
    rw [hw] at hR
    dsimp only at hR ⊢
    generalize PyData.tuple (ss.map stD) = S at *
    generalize sqI t1 xs = O at *
    generalize sqI t2 ys = P at *
    unfold fn__go_through runV m__go_through
    rw [show env0 8 [O, P, S] = [.val O, .val P, .val S, .un, .un, .un, .un, .un] from rfl]
    rw [seq_nx (ρ' := [.val O, .val P, .val S, .val (.int 0), .un, .un, .un, .un]) rfl, seq_nx (ρ' := [.val O, .val P, .val S, .val (.int 0), .val (.int 0), .un, .un, .un]) rfl]
    unfold mSeq
    rw [bind_is hR]
    rfl
  | some r =>
    obtain ⟨b5, b6, b7, rfl⟩ := hend r hw
    rw [hw] at hR
    dsimp only at hR ⊢
    have e1 : eqD (.int (r.1 : Nat)) (.int (xs.length : Nat)) = some (.bool (decide (r.1 = xs.length))) := by
      rw [eq_int, decide_eq_decide.mpr (show ((r.1 : Int) = (xs.length : Int)) ↔ r.1 = xs.length by omega)]
    have e2 : eqD (.int (r.2.1 : Nat)) (.int (ys.length : Nat)) = some (.bool (decide (r.2.1 = ys.length))) := by
      rw [eq_int, decide_eq_decide.mpr (show ((r.2.1 : Int) = (ys.length : Int)) ↔ r.2.1 = ys.length by omega)]
    have tb : truD (.bool true) = some true := rfl
    have tf : truD (.bool false) = some false := rfl
    generalize PyData.tuple (ss.map stD) = S at *
    generalize sqI t1 xs = O at *
    generalize sqI t2 ys = P at *
    unfold fn__go_through runV m__go_through
    rw [show env0 8 [O, P, S] = [.val O, .val P, .val S, .un, .un, .un, .un, .un] from rfl]
    rw [seq_nx (ρ' := [.val O, .val P, .val S, .val (.int 0), .un, .un, .un, .un]) rfl, seq_nx (ρ' := [.val O, .val P, .val S, .val (.int 0), .val (.int 0), .un, .un, .un]) rfl, seq_nx hR]
    generalize decide (r.2.1 = ys.length) = d2 at *
    generalize decide (r.1 = xs.length) = d1 at *
    cases d1 with
    | true => simp [mRet, mAnd, mBinL, mCall1, mBind, mLift, mPure, mPeek, l1, l2, e1, e2, tb]
    | false => simp [mRet, mAnd, mBinL, mCall1, mBind, mLift, mPure, mPeek, l1, e1, tf]
/-! the table -/
def tabT (rows : List (List Int)) (i j : Nat) : Int := (rows.getD i []).getD j 0
def shapeB (xs ys : List Int) (rows : List (List Int)) : Bool := decide (rows.map (fun r => ((r.length : Nat) : Int)) = (List.range (xs.length + 1)).map fun _ => ((ys.length + 1 : Nat) : Int))
theorem map_getD {α β : Type} (f : α → β) (z : α) : ∀ L : List α, L.map f = (List.range L.length).map fun i => f (L.getD i z) := fun L => by
  apply List.ext_getElem?
  intro i
  rw [List.getElem?_map, List.getElem?_map]
  rcases Nat.lt_or_ge i L.length with h | h
  · rw [List.getElem?_range h, List.getElem?_eq_getElem h]
    simp [List.getD_eq_getElem?_getD, List.getElem?_eq_getElem h]
  · rw [List.getElem?_eq_none h, List.getElem?_eq_none (by rw [List.length_range]; exact h)]; rfl
theorem shape_is {rows : List (List Int)} (h : shapeB xs ys rows = true) : rows.length = xs.length + 1 ∧ rowsD rows = tabD_ (tabT rows) xs.length ys.length := by
  have h := of_decide_eq_true h
  have hl : rows.length = xs.length + 1 := by
    have := congrArg List.length h
    rw [List.length_map, List.length_map, List.length_range] at this
    exact this
  have hr : ∀ r ∈ rows, r.length = ys.length + 1 := fun r hr => by
    have : ((r.length : Nat) : Int) ∈ (List.range (xs.length + 1)).map fun _ => ((ys.length + 1 : Nat) : Int) := by rw [← h]; exact List.mem_map_of_mem hr
    obtain ⟨_, _, e⟩ := List.mem_map.mp this
    omega
  refine ⟨hl, ?_⟩
  unfold rowsD tabD_
  rw [map_getD (fun r => PyData.tuple (r.map PyData.int)) [] rows, hl]
  congr 1
  refine List.map_congr_left fun i hi => ?_
  have hi := List.mem_range.mp hi
  have hm : (rows.getD i []).length = ys.length + 1 := by
    rw [List.getD_eq_getElem?_getD, List.getElem?_eq_getElem (by omega)]
    exact hr _ (List.getElem_mem _)
  unfold rowT tabT
  rw [map_getD PyData.int 0 (rows.getD i []), hm]
/-- whether a table rises by at most what steps cost -/
def riseB (u l m : Int) (xs ys : List Int) (T : Nat → Nat → Int) : Bool := (List.range (xs.length + 1)).all fun i => (List.range (ys.length + 1)).all fun j => (Ed.stepsTo i j).all fun s => decide (T i j ≤ Ed.behind u l m xs ys T i j s)
theorem rise_cellB {T : Nat → Nat → Int} {i j : Nat} {a6 a7 : Sl} (hi : i ≤ xs.length) (hj : j ≤ ys.length) :
    L__rises_right_0 [.val (sqI t1 xs), .val (sqI t2 ys), .val (tabD_ T xs.length ys.length), .val (costD u l m), .val (.int (i : Nat)), .val (.int (j : Nat)), a6, a7, .un] = some (.ok (if ((Ed.stepsTo i j).all fun s => decide (T i j ≤ Ed.behind u l m xs ys T i j s)) = true then .nx else .rt (.bool false)) [.val (sqI t1 xs), .val (sqI t2 ys), .val (tabD_ T xs.length ys.length), .val (costD u l m), .val (.int (i : Nat)), .val (.int (j : Nat)), a6, a7, .un]) := by
  have hs := steps_to_ok (t1 := t1) (t2 := t2) (xs := xs) (ys := ys) hi hj
  have l3 := to_len i j
  have i1 := tabD_ix (T := T) (n := xs.length) (k := ys.length) hi
  have i2 := rowT_ixT (T := T) (i := i) hj
  have hc : C__rises_right_2 [.val (sqI t1 xs), .val (sqI t2 ys), .val (tabD_ T xs.length ys.length), .val (costD u l m), .val (.int (i : Nat)), .val (.int (j : Nat)), a6, a7, .un] = some (.ok ((Ed.stepsTo i j).map fun s => PyData.bool (decide (T i j ≤ Ed.behind u l m xs ys T i j s))) [.val (sqI t1 xs), .val (sqI t2 ys), .val (tabD_ T xs.length ys.length), .val (costD u l m), .val (.int (i : Nat)), .val (.int (j : Nat)), a6, a7, .un]) := by
    refine comp_is (vs := [8]) (ds := (Ed.stepsTo i j).map (spD xs ys)) (ρ1 := [.val (sqI t1 xs), .val (sqI t2 ys), .val (tabD_ T xs.length ys.length), .val (costD u l m), .val (.int (i : Nat)), .val (.int (j : Nat)), a6, a7, .un]) (ρe := [.val (sqI t1 xs), .val (sqI t2 ys), .val (tabD_ T xs.length ys.length), .val (costD u l m), .val (.int (i : Nat)), .val (.int (j : Nat)), a6, a7, .un]) ?_ (fit_of2 (by rw [List.length_map]; omega)) ?_
    · generalize (Ed.stepsTo i j).map (spD xs ys) = S at *
      generalize sqI t1 xs = O at *
      generalize sqI t2 ys = P at *
      generalize tabD_ T xs.length ys.length = TB at *
      generalize costD u l m = CD at *
      simp [mItems, itemsD, mCallV, mRs, mCons, mVar, mBind, mPure, mLift, hs]
    · refine go_mapA (spD xs ys) _ (Ed.stepsTo i j) fun s hsm => ?_
      have hb := behindT (u := u) (l := l) (m := m) (xs := xs) (ys := ys) (T := T) hsm hi hj
      have he : leD (.int (T i j)) (.int (Ed.behind u l m xs ys T i j s)) = some (.bool (decide (T i j ≤ Ed.behind u l m xs ys T i j s))) := rfl
      generalize spD xs ys s = S at *
      generalize sqI t1 xs = O at *
      generalize sqI t2 ys = P at *
      generalize tabD_ T xs.length ys.length = TB at *
      generalize PyData.tuple (rowT T i (ys.length + 1)) = RT at *
      generalize costD u l m = CD at *
      generalize Ed.behind u l m xs ys T i j s = B at *
      generalize T i j = V at *
      exact ⟨[.val O, .val P, .val TB, .val CD, .val (.int (i : Nat)), .val (.int (j : Nat)), a6, a7, .val S], [.val O, .val P, .val TB, .val CD, .val (.int (i : Nat)), .val (.int (j : Nat)), a6, a7, .val S], by simp [mStore, unsE], by simp [mBin, mBinL, mCallV, mRs, mCons, mVar, mBind, mPure, mPeek, mLift, hb, i1, i2, he], by simp [unsE]⟩
  have ha := all_bools (fun s => decide (T i j ≤ Ed.behind u l m xs ys T i j s)) (Ed.stepsTo i j)
  have hv := mVal_is hc
  generalize PyData.list ((Ed.stepsTo i j).map fun s => PyData.bool (decide (T i j ≤ Ed.behind u l m xs ys T i j s))) = B at *
  generalize ((Ed.stepsTo i j).all fun s => decide (T i j ≤ Ed.behind u l m xs ys T i j s)) = bb at *
  generalize sqI t1 xs = O at *
  generalize sqI t2 ys = P at *
  generalize tabD_ T xs.length ys.length = TB at *
  generalize costD u l m = CD at *
  have tb : truD (.bool true) = some true := rfl
  have tf : truD (.bool false) = some false := rfl
  unfold L__rises_right_0
  cases bb with
  | true => simp [mIf, mNotT, mTru, mCall1, mBind, mLift, mPure, hv, ha, tb]
  | false => simp [mIf, mNotT, mTru, mCall1, mRet, mBind, mLift, mPure, hv, ha, tf]
/-- a loop over a range that hands back False at the first bad turn -/
theorem forR_try {ms : M (List D)} {g : D → M Unit} {body : M Fl} (ok : Nat → Bool) (E : En → Prop) (n : Nat) {ρ ρ1 : En} (h : ms ρ = some (.ok [.int (n : Nat)] ρ1)) (hn : n ≤ 1000000000) (e : E ρ1)
    (st : ∀ i, i < n → ∀ ρ, E ρ → ∃ ρ1 ρ2, g (.int (i : Nat)) ρ = some (.ok () ρ1) ∧ body ρ1 = some (.ok (if ok i = true then .nx else .rt (.bool false)) ρ2) ∧ E ρ2) :
    ∃ ρ', E ρ' ∧ mFor (mRng1 ms) g body ρ = some (.ok (if ((List.range n).all ok) = true then .nx else .rt (.bool false)) ρ') := by
  have go : ∀ (L : List Nat) (ρ : En), (∀ i ∈ L, i < n) → E ρ → ∃ ρ', E ρ' ∧ mForL g body (L.map fun i : Nat => PyData.int (i : Nat)) ρ = some (.ok (if (L.all ok) = true then .nx else .rt (.bool false)) ρ') := by
    intro L
    induction L with
    | nil => exact fun ρ _ e => ⟨ρ, e, rfl⟩
    | cons a L ih =>
      intro ρ hL e
      obtain ⟨ρ1, ρ2, h1, h2, e2⟩ := st a (hL a List.mem_cons_self) ρ e
      rw [List.map_cons, List.all_cons]
      unfold mForL
      rw [bind_is h1]
      cases q : ok a with
      | true =>
        rw [q] at h2
        rw [bind_is h2, Bool.true_and]
        exact ih ρ2 (fun i hi => hL i (List.mem_cons_of_mem _ hi)) e2
      | false =>
        rw [q] at h2
        rw [bind_is h2, Bool.false_and]
        exact ⟨ρ2, e2, rfl⟩
  obtain ⟨ρ', e', h2⟩ := go (List.range n) ρ1 (fun i hi => List.mem_range.mp hi) e
  refine ⟨ρ', e', ?_⟩
  unfold mFor
  rw [bind_is (rng1_is h (rngOk_le (by omega) (by omega))), rngL_nat]
  exact h2
def tableB (u l m : Int) (xs ys : List Int) (rows : List (List Int)) : Bool := shapeB xs ys rows && (decide (tabT rows 0 0 = 0) && riseB u l m xs ys (tabT rows))
theorem ne_ints (a b : List Int) : neD (.list (a.map PyData.int)) (.list (b.map PyData.int)) = some (.bool (!decide (a = b))) := by
  rw [ne_sh (Sh.ints a) (Sh.ints b) (by omega) (by omega)]
  simp only [PyData.eqv, eqv_ints]
theorem risesO {rows : List (List Int)} (h1 : xs.length ≤ 900) (h2 : ys.length ≤ 900) (l2 : rows.length ≤ 10000) (l3 : ∀ r ∈ rows, r.length ≤ 10000) :
    fn__rises_right [sqI t1 xs, sqI t2 ys, rowsD rows, costD u l m] = some (.ok (.bool (tableB u l m xs ys rows))) := by
  have l1 := sqI_len (t := t1) (xs := xs) (by omega)
  have l2' := sqI_len (t := t2) (xs := ys) (by omega)
  have hm : ∀ r : En, mCons (mBin addD (mCall1 lenD (mPeek 0)) (mPure (.int 1))) (mPure []) (.val (sqI t1 xs) :: r) = some (.ok [.int ((xs.length + 1 : Nat) : Int)] (.val (sqI t1 xs) :: r)) := fun r => by
    have a1 := add1 xs.length
    generalize sqI t1 xs = O at *
    simp [mCons, mBin, mCall1, mBind, mPure, mPeek, mLift, l1, a1]
  have hm2 : ∀ r : En, mCons (mBin addD (mCall1 lenD (mPeek 1)) (mPure (.int 1))) (mPure []) (.val (sqI t1 xs) :: .val (sqI t2 ys) :: r) = some (.ok [.int ((ys.length + 1 : Nat) : Int)] (.val (sqI t1 xs) :: .val (sqI t2 ys) :: r)) := fun r => by
    have a1 := add1 ys.length
    generalize sqI t1 xs = O at *
    generalize sqI t2 ys = P at *
    simp [mCons, mBin, mCall1, mBind, mPure, mPeek, mLift, l2', a1]
  have c0 : ∀ TB : D, C__rises_right_0 [.val (sqI t1 xs), .val (sqI t2 ys), .val TB, .val (costD u l m), .un, .un, .un, .un, .un] = some (.ok (((List.range (xs.length + 1)).map fun _ => ((ys.length + 1 : Nat) : Int)).map PyData.int) [.val (sqI t1 xs), .val (sqI t2 ys), .val TB, .val (costD u l m), .un, .un, .un, .un, .un]) := fun TB => by
    rw [List.map_map]
    refine comp_is (vs := [7]) (ds := rngL 0 ((xs.length + 1 : Nat) : Int)) (ρ1 := [.val (sqI t1 xs), .val (sqI t2 ys), .val TB, .val (costD u l m), .un, .un, .un, .un, .un]) (ρe := [.val (sqI t1 xs), .val (sqI t2 ys), .val TB, .val (costD u l m), .un, .un, .un, .un, .un]) (rng1_is (hm _) (rngOk_le (by omega) (by omega))) (by rw [rngL_len]; exact fit_of2 (by omega)) ?_
    rw [rngL_nat]
    refine go_mapA (fun i : Nat => PyData.int (i : Nat)) _ (List.range (xs.length + 1)) fun i _ => ?_
    have a1 := add1 ys.length
    show ∃ ρ1 ρ3, mStore 7 (PyData.int (i : Nat)) _ = some (R.ok () ρ1) ∧ mBin addD (mCall1 lenD (mPeek 1)) (mPure (.int 1)) ρ1 = some (R.ok (PyData.int ((ys.length + 1 : Nat) : Int)) ρ3) ∧ _
    generalize ((ys.length + 1 : Nat) : Int) = K at *
    generalize sqI t1 xs = O at *
    generalize sqI t2 ys = P at *
    generalize costD u l m = CD at *
    exact ⟨[.val O, .val P, .val TB, .val CD, .un, .un, .un, .val (.int (i : Nat)), .un], [.val O, .val P, .val TB, .val CD, .un, .un, .un, .val (.int (i : Nat)), .un], by simp [mStore, unsE], by simp [mBin, mCall1, mBind, mPure, mPeek, mLift, l2', a1], by simp [unsE]⟩
  have c1 : C__rises_right_1 [.val (sqI t1 xs), .val (sqI t2 ys), .val (rowsD rows), .val (costD u l m), .un, .un, .un, .un, .un] = some (.ok ((rows.map (fun r => ((r.length : Nat) : Int))).map PyData.int) [.val (sqI t1 xs), .val (sqI t2 ys), .val (rowsD rows), .val (costD u l m), .un, .un, .un, .un, .un]) := by
    rw [List.map_map]
    refine comp_is (vs := [6]) (ds := rows.map fun r => PyData.tuple (r.map PyData.int)) (ρ1 := [.val (sqI t1 xs), .val (sqI t2 ys), .val (rowsD rows), .val (costD u l m), .un, .un, .un, .un, .un]) (ρe := [.val (sqI t1 xs), .val (sqI t2 ys), .val (rowsD rows), .val (costD u l m), .un, .un, .un, .un, .un]) (by unfold rowsD; generalize (rows.map fun r => PyData.tuple (r.map PyData.int)) = Q; simp [mItems, itemsD, mVar, mBind, mPure, mLift]) (fit_of2 (by rw [List.length_map]; omega)) ?_
    refine go_mapA (fun r => PyData.tuple (r.map PyData.int)) _ rows fun r hr => ?_
    have hl : lenD [.tuple (r.map PyData.int)] = some (.int ((r.length : Nat) : Int)) := by
      have f : fit (r.map PyData.int).length = true := fit_of2 (by rw [List.length_map]; have := l3 r hr; omega)
      have e : (r.map PyData.int).length = r.length := List.length_map _
      generalize r.map PyData.int = R at *
      rw [← e]
      simp [lenD, f]
    show ∃ ρ1 ρ3, mStore 6 (PyData.tuple (r.map PyData.int)) _ = some (R.ok () ρ1) ∧ mCall1 lenD (mPeek 6) ρ1 = some (R.ok (PyData.int ((r.length : Nat) : Int)) ρ3) ∧ _
    generalize PyData.tuple (r.map PyData.int) = RT at *
    generalize rowsD rows = TB at *
    generalize sqI t1 xs = O at *
    generalize sqI t2 ys = P at *
    generalize costD u l m = CD at *
    exact ⟨[.val O, .val P, .val TB, .val CD, .un, .un, .val RT, .un, .un], [.val O, .val P, .val TB, .val CD, .un, .un, .val RT, .un, .un], by simp [mStore, unsE], by simp [mCall1, mBind, mPure, mPeek, mLift, hl], by simp [unsE]⟩
  have hne := ne_ints (rows.map (fun r => ((r.length : Nat) : Int))) ((List.range (xs.length + 1)).map fun _ => ((ys.length + 1 : Nat) : Int))
  have v0 := mVal_is (c0 (rowsD rows))
  have v1 := mVal_is c1
  have hdef : decide (rows.map (fun r => ((r.length : Nat) : Int)) = (List.range (xs.length + 1)).map fun _ => ((ys.length + 1 : Nat) : Int)) = shapeB xs ys rows := rfl
  rw [hdef] at hne
  unfold tableB
  cases hsh : shapeB xs ys rows with
  | false =>
    rw [hsh] at hne
    rw [Bool.false_and]
    clear c0 c1 hm hm2
    generalize PyData.list ((rows.map (fun r => ((r.length : Nat) : Int))).map PyData.int) = LA at *
    generalize PyData.list (((List.range (xs.length + 1)).map fun _ => ((ys.length + 1 : Nat) : Int)).map PyData.int) = LB at *
    generalize rowsD rows = TB at *
    generalize sqI t1 xs = O at *
    generalize sqI t2 ys = P at *
    generalize costD u l m = CD at *
    unfold fn__rises_right runV m__rises_right
    rw [show env0 9 [O, P, TB, CD] = [.val O, .val P, .val TB, .val CD, .un, .un, .un, .un, .un] from rfl]
    simp [mSeq, mIf, mOrT, mBol, bolD, mBin, mRet, mBind, mLift, mPure, v0, v1, hne]
  | true =>
    rw [hsh] at hne
    rw [Bool.true_and]
    obtain ⟨hl, hT⟩ := shape_is hsh
    rw [hT] at v0 v1 ⊢
    generalize tabT rows = T at *
    have row : ∀ (i : Nat) (a5 : Sl), i < xs.length + 1 → ∃ b5, L__rises_right_1 [.val (sqI t1 xs), .val (sqI t2 ys), .val (tabD_ T xs.length ys.length), .val (costD u l m), .val (.int (i : Nat)), a5, .un, .un, .un] = some (.ok (if ((List.range (ys.length + 1)).all fun j => (Ed.stepsTo i j).all fun s => decide (T i j ≤ Ed.behind u l m xs ys T i j s)) = true then .nx else .rt (.bool false)) [.val (sqI t1 xs), .val (sqI t2 ys), .val (tabD_ T xs.length ys.length), .val (costD u l m), .val (.int (i : Nat)), b5, .un, .un, .un]) := fun i a5 hi => by
      obtain ⟨ρ', ⟨b5, rfl⟩, h⟩ := forR_try (g := mStore 5) (body := L__rises_right_0) (fun j => (Ed.stepsTo i j).all fun s => decide (T i j ≤ Ed.behind u l m xs ys T i j s)) (fun ρ => ∃ b5, ρ = [.val (sqI t1 xs), .val (sqI t2 ys), .val (tabD_ T xs.length ys.length), .val (costD u l m), .val (.int (i : Nat)), b5, .un, .un, .un]) (ys.length + 1) (hm2 [.val (tabD_ T xs.length ys.length), .val (costD u l m), .val (.int (i : Nat)), a5, .un, .un, .un]) (by omega) ⟨_, rfl⟩ (by
        rintro j hj ρ ⟨b5, rfl⟩
        exact ⟨_, _, rfl, rise_cellB (u := u) (l := l) (m := m) (t1 := t1) (t2 := t2) (T := T) (by omega) (by omega), _, rfl⟩)
      exact ⟨b5, h⟩
    obtain ⟨ρ', ⟨b4, b5, rfl⟩, h⟩ := forR_try (g := mStore 4) (body := L__rises_right_1) (fun i => (List.range (ys.length + 1)).all fun j => (Ed.stepsTo i j).all fun s => decide (T i j ≤ Ed.behind u l m xs ys T i j s)) (fun ρ => ∃ b4 b5, ρ = [.val (sqI t1 xs), .val (sqI t2 ys), .val (tabD_ T xs.length ys.length), .val (costD u l m), b4, b5, .un, .un, .un]) (xs.length + 1) (hm [.val (sqI t2 ys), .val (tabD_ T xs.length ys.length), .val (costD u l m), .un, .un, .un, .un, .un]) (by omega) ⟨_, _, rfl⟩ (by
      rintro i hi ρ ⟨b4, b5, rfl⟩
      obtain ⟨c5, hc⟩ := row i b5 hi
      exact ⟨_, _, rfl, hc, _, _, rfl⟩)
    have sR : R__rises_right_1 [.val (sqI t1 xs), .val (sqI t2 ys), .val (tabD_ T xs.length ys.length), .val (costD u l m), .un, .un, .un, .un, .un] = some (.ok (if riseB u l m xs ys T = true then .nx else .rt (.bool false)) [.val (sqI t1 xs), .val (sqI t2 ys), .val (tabD_ T xs.length ys.length), .val (costD u l m), b4, b5, .un, .un, .un]) := h
    have i1 := tabD_ix (T := T) (n := xs.length) (k := ys.length) (Nat.zero_le xs.length)
    have i2 := rowT_ixT (T := T) (i := 0) (Nat.zero_le ys.length)
    have n0 := ne_intv (T 0 0) 0
    have i1' : ixD (tabD_ T xs.length ys.length) (.int 0) = some (.tuple (rowT T 0 (ys.length + 1))) := i1
    have i2' : ixD (.tuple (rowT T 0 (ys.length + 1))) (.int 0) = some (.int (T 0 0)) := i2
    clear h row c0 c1 hm hm2 i1 i2 hT hsh hdef
    generalize riseB u l m xs ys T = rb at *
    generalize PyData.list ((rows.map (fun r => ((r.length : Nat) : Int))).map PyData.int) = LA at *
    generalize PyData.list (((List.range (xs.length + 1)).map fun _ => ((ys.length + 1 : Nat) : Int)).map PyData.int) = LB at *
    generalize PyData.tuple (rowT T 0 (ys.length + 1)) = RT at *
    generalize tabD_ T xs.length ys.length = TB at *
    generalize T 0 0 = T0 at *
    generalize sqI t1 xs = O at *
    generalize sqI t2 ys = P at *
    generalize costD u l m = CD at *
    unfold fn__rises_right runV m__rises_right
    rw [show env0 9 [O, P, TB, CD] = [.val O, .val P, .val TB, .val CD, .un, .un, .un, .un, .un] from rfl]
    by_cases z : T0 = 0
    · rw [decide_eq_true z] at n0 ⊢
      rw [seq_nx (ρ' := [.val O, .val P, .val TB, .val CD, .un, .un, .un, .un, .un]) (by simp [mIf, mOrT, mBol, bolD, mBin, mBinL, mBind, mLift, mPure, mPeek, v0, v1, hne, i1', i2', n0])]
      cases rb with
      | true => rw [seq_nx (by exact sR)]; simp [mRet, mBind, mPure]
      | false => unfold mSeq; rw [bind_is sR]; rfl
    · rw [decide_eq_false z] at n0 ⊢
      simp [mSeq, mIf, mOrT, mBol, bolD, mBin, mBinL, mRet, mBind, mLift, mPure, mPeek, v0, v1, hne, i1', i2', n0]
end

section
variable {u l m : Int} {xs ys : List Int} {t1 t2 : Bool}
/-- whether it shows how the rows are held against one another -/
def dueB (u l m : Int) (xs ys : List Int) (c : Int) (ss : List (Str × List Int)) (rows : List (List Int)) : Bool :=
  (match walkG xs ys u l m 0 0 0 ss with
    | some r => (decide (r.1 = xs.length) && decide (r.2.1 = ys.length)) && decide (r.2.2 = c)
    | none => false) && (tableB u l m xs ys rows && decide (tabT rows xs.length ys.length = c))
theorem held_rightO {c : Int} {ss : List (Str × List Int)} {rows : List (List Int)} (h1 : xs.length ≤ 900) (h2 : ys.length ≤ 900) (hs : ∀ p ∈ ss, StOk p) (k1 : ss.length ≤ 10000) (k2 : rows.length ≤ 10000) (k3 : ∀ r ∈ rows, r.length ≤ 10000) :
    fn_held_right [sqI t1 xs, sqI t2 ys, oddD c ss rows, .int u, .int l, .int m] = some (.ok (.bool (dueB u l m xs ys c ss rows))) := by
  have hform := has_formO (c := c) hs k1 k2 k3
  have hri := risesO (u := u) (l := l) (m := m) (t1 := t1) (t2 := t2) (xs := xs) (ys := ys) h1 h2 k2 k3
  have hd : ∀ O P S : D, mDisp (mPairC "same" (mPure (.int 0)) (mPairC "unlike" (mVar 3) (mPairC "lack" (mVar 4) (mPairC "more" (mVar 5) mPairN)))) [.val O, .val P, .val S, .val (.int u), .val (.int l), .val (.int m), .un, .un, .un, .un, .un] = some (.ok (costD u l m) [.val O, .val P, .val S, .val (.int u), .val (.int l), .val (.int m), .un, .un, .un, .un, .un]) := fun O P S => disp_is (by simp [mVar]) (by simp [mVar]) (by simp [mVar])
  have tb : truD (.bool true) = some true := rfl
  have tf : truD (.bool false) = some false := rfl
  cases hall : (ss.all fun p => good p.1) with
  | false =>
    rw [hall] at hform
    have : dueB u l m xs ys c ss rows = false := by unfold dueB; rw [walk_bad xs ys ss 0 0 0 hall]; rfl
    rw [this]
    generalize oddD c ss rows = S at *
    generalize sqI t1 xs = O at *
    generalize sqI t2 ys = P at *
    generalize costD u l m = CD at *
    unfold fn_held_right runV m_held_right
    rw [show env0 11 [O, P, S, .int u, .int l, .int m] = [.val O, .val P, .val S, .val (.int u), .val (.int l), .val (.int m), .un, .un, .un, .un, .un] from rfl]
    rw [seq_nx (ρ' := [.val O, .val P, .val S, .val (.int u), .val (.int l), .val (.int m), .val CD, .un, .un, .un, .un]) (by unfold mAsg; rw [bind_is (hd O P S)]; simp [mStore, mDone, mBind, mPure])]
    simp [mSeq, mIf, mNotT, mTru, mCallV, mRs, mCons, mVar, mRet, mBind, mPure, mLift, hform, tf]
  | true =>
    rw [hall] at hform
    have hgd : ∀ p ∈ ss, StOk p ∧ good p.1 = true := fun p hp => ⟨hs p hp, List.all_eq_true.mp hall p hp⟩
    have hgo := go_throughO (u := u) (l := l) (m := m) (t1 := t1) (t2 := t2) (xs := xs) (ys := ys) (by omega) (by omega) hgd
    have c0 : ∀ (O P S TB : D), C_held_right_0 [.val O, .val P, .val S, .val (.int u), .val (.int l), .val (.int m), .val (costD u l m), .val (.int c), .val (.tuple (ss.map stD)), .val TB, .un] = some (.ok ((ss.map fun p => wC u l m p.1).map PyData.int) [.val O, .val P, .val S, .val (.int u), .val (.int l), .val (.int m), .val (costD u l m), .val (.int c), .val (.tuple (ss.map stD)), .val TB, .un]) := fun O P S TB => by
      rw [List.map_map]
      refine comp_is (vs := [10]) (ds := ss.map stD) (ρ1 := [.val O, .val P, .val S, .val (.int u), .val (.int l), .val (.int m), .val (costD u l m), .val (.int c), .val (.tuple (ss.map stD)), .val TB, .un]) (ρe := [.val O, .val P, .val S, .val (.int u), .val (.int l), .val (.int m), .val (costD u l m), .val (.int c), .val (.tuple (ss.map stD)), .val TB, .un]) (by generalize ss.map stD = M; generalize costD u l m = CD; simp [mItems, itemsD, mVar, mBind, mPure, mLift]) (fit_of2 (by rw [List.length_map]; omega)) ?_
      refine go_mapA stD _ ss fun p hp => ?_
      have w := stD_0 (p := p)
      have d := dget_w (u := u) (l := l) (m := m) (hgd p hp).2
      show ∃ ρ1 ρ3, mStore 10 (stD p) _ = some (R.ok () ρ1) ∧ mDGet (mVar 6) (mBinL ixD 10 (mPure (.int 0))) ρ1 = some (R.ok (PyData.int (wC u l m p.1)) ρ3) ∧ _
      generalize wC u l m p.1 = SC at *
      generalize stD p = Z at *
      generalize p.1 = SW at *
      generalize ss.map stD = M
      generalize costD u l m = CD at *
      exact ⟨[.val O, .val P, .val S, .val (.int u), .val (.int l), .val (.int m), .val CD, .val (.int c), .val (.tuple M), .val TB, .val Z], [.val O, .val P, .val S, .val (.int u), .val (.int l), .val (.int m), .val CD, .val (.int c), .val (.tuple M), .val TB, .val Z], by simp [mStore, unsE], by simp [mDGet, mBinL, mVar, mBind, mPure, mPeek, mLift, w, d], by simp [unsE]⟩
    have hsum : sumD [.list ((ss.map fun p => wC u l m p.1).map PyData.int)] = some (.int (ss.map fun p => wC u l m p.1).sum) := by
      show (toInts ((ss.map fun p => wC u l m p.1).map PyData.int)).map _ = _
      rw [toInts_map, Option.map_some]
    have v0 := fun O P S TB => mVal_is (c0 O P S TB)
    have hdue : dueB u l m xs ys c ss rows = ((through u l m xs ys ss && decide (c = (ss.map fun p => wC u l m p.1).sum)) && (tableB u l m xs ys rows && decide (tabT rows xs.length ys.length = c))) := by
      unfold dueB through
      cases hw : walkG xs ys u l m 0 0 0 ss with
      | none => rfl
      | some r =>
        have := walk_sum xs ys ss 0 0 0 (Nat.zero_le _) (Nat.zero_le _) hw
        rw [Int.zero_add] at this
        dsimp only
        rw [this]
        congr 2
        exact decide_eq_decide.mpr ⟨Eq.symm, Eq.symm⟩
    rw [hdue]
    have nc := ne_intv c (ss.map fun p => wC u l m p.1).sum
    have lasts : tableB u l m xs ys rows = true → ixD (rowsD rows) (.int (-1)) = some (.tuple (rowT (tabT rows) xs.length (ys.length + 1))) ∧ ixD (.tuple (rowT (tabT rows) xs.length (ys.length + 1))) (.int (-1)) = some (.int (tabT rows xs.length ys.length)) := fun h => by
      unfold tableB at h
      rw [Bool.and_eq_true] at h
      obtain ⟨_, e⟩ := shape_is h.1
      rw [e]
      exact ⟨tabD_last, rowT_last⟩
    have ec := eq_int (tabT rows xs.length ys.length) c
    have ng : negD (.int 1) = some (.int (-1)) := rfl
    have gt : ∀ (SS TB : D) ρ, gTupD 3 (gCons2 (mStore 7) (gCons2 (mStore 8) (gCons2 (mStore 9) gsNil))) (.tuple [.int c, SS, TB]) ρ = (gCons2 (mStore 7) (gCons2 (mStore 8) (gCons2 (mStore 9) gsNil))) [.int c, SS, TB] ρ := fun _ _ _ => rfl
    unfold oddD at *
    clear c0 hdue hgd hall
    generalize PyData.tuple (ss.map stD) = SS at *
    generalize PyData.list ((ss.map fun p => wC u l m p.1).map PyData.int) = CL at *
    generalize (ss.map fun p => wC u l m p.1).sum = SM at *
    generalize PyData.tuple (rowT (tabT rows) xs.length (ys.length + 1)) = RT at *
    generalize rowsD rows = TB at *
    have gt := gt SS TB
    generalize PyData.tuple [.int c, SS, TB] = S at *
    generalize through u l m xs ys ss = th at *
    generalize tableB u l m xs ys rows = ta at *
    generalize tabT rows xs.length ys.length = TL at *
    generalize sqI t1 xs = O at *
    generalize sqI t2 ys = P at *
    generalize costD u l m = CD at *
    unfold fn_held_right runV m_held_right
    rw [show env0 11 [O, P, S, .int u, .int l, .int m] = [.val O, .val P, .val S, .val (.int u), .val (.int l), .val (.int m), .un, .un, .un, .un, .un] from rfl]
    rw [seq_nx (ρ' := [.val O, .val P, .val S, .val (.int u), .val (.int l), .val (.int m), .val CD, .un, .un, .un, .un]) (by unfold mAsg; rw [bind_is (hd O P S)]; simp [mStore, mDone, mBind, mPure])]
    rw [seq_nx (ρ' := [.val O, .val P, .val S, .val (.int u), .val (.int l), .val (.int m), .val CD, .un, .un, .un, .un]) (by simp [mIf, mNotT, mTru, mCallV, mRs, mCons, mVar, mBind, mPure, mLift, hform, tb])]
    rw [seq_nx (ρ' := [.val O, .val P, .val S, .val (.int u), .val (.int l), .val (.int m), .val CD, .val (.int c), .val SS, .val TB, .un]) (by simp [mAsg, mVar, mBind, mPure, gt, gCons2, gsNil, mStore, mDone])]
    cases th with
    | false => simp [mSeq, mIf, mOrT, mNotT, mTru, mCallV, mRs, mCons, mVar, mRet, mBind, mPure, mLift, hgo, tf]
    | true =>
      rw [Bool.true_and]
      by_cases q : c = SM
      · rw [decide_eq_true q] at nc ⊢
        rw [seq_nx (ρ' := [.val O, .val P, .val S, .val (.int u), .val (.int l), .val (.int m), .val CD, .val (.int c), .val SS, .val TB, .un]) (by simp [mIf, mOrT, mNotT, mTru, mBol, bolD, mBinL, mCall1, mCallV, mRs, mCons, mVar, mBind, mPure, mPeek, mLift, hgo, tb, v0, hsum, nc])]
        cases ta with
        | true =>
          obtain ⟨e1, e2⟩ := lasts rfl
          simp [mRet, mAnd, mBin, mBinL, mUn, mCallV, mRs, mCons, mVar, mBind, mPure, mPeek, mLift, hri, tb, e1, e2, ng, ec]
        | false => simp [mRet, mAnd, mCallV, mRs, mCons, mVar, mBind, mPure, mLift, hri, tf]
      · rw [decide_eq_false q] at nc ⊢
        simp [mSeq, mIf, mOrT, mNotT, mTru, mBol, bolD, mBinL, mCall1, mCallV, mRs, mCons, mVar, mRet, mBind, mPure, mPeek, mLift, hgo, tb, v0, hsum, nc]
/-! the law on things of this form -/
theorem co_turnO {i j : Nat} {w : Int} {p : Str × List Int} {S : D} (hp : StOk p) (h1 : xs.length ≤ 1000) (h2 : ys.length ≤ 1000) :
    L__law_cost_0 [.val (sqI false xs), .val (sqI false ys), .val S, .val (cD u l m), .val (.int (i : Nat)), .val (.int (j : Nat)), .val (.int w), .val (stD p)] = some (match lawAt xs ys i j p with
      | some s => .ok .nx [.val (sqI false xs), .val (sqI false ys), .val S, .val (cD u l m), .val (.int ((i + s.ov : Nat) : Int)), .val (.int ((j + s.un : Nat) : Int)), .val (.int (w + Ed.spC u l m xs ys s)), .val (stD p)]
      | none => .ok (.rt .none) [.val (sqI false xs), .val (sqI false ys), .val S, .val (cD u l m), .val (.int (i : Nat)), .val (.int (j : Nat)), .val (.int w), .val (stD p)]) := by
  have f2 : fit 2 = true := rfl
  have f3 : fit 3 = true := rfl
  have l1 := sqI_len (t := false) h1
  have l2 := sqI_len (t := false) h2
  have c0 := cD_0 (u := u) (l := l) (m := m)
  have c1 := cD_1 (u := u) (l := l) (m := m)
  have c2 := cD_2 (u := u) (l := l) (m := m)
  have ad' : ∀ a b : Int, addD (.int a) (.int b) = some (.int (a + b)) := fun _ _ => rfl
  have a1 := add1 i
  have a2 := add1 j
  have e1 : eqD (stD p) (.tuple [.str "lack", .int (i : Nat)]) = some (.bool (decide (p = spS xs ys (.lack i)))) := eq_st hp (spS_ok (xs := xs) (ys := ys) (s := .lack i))
  have e2 : eqD (stD p) (.tuple [.str "more", .int (j : Nat)]) = some (.bool (decide (p = spS xs ys (.more j)))) := eq_st hp (spS_ok (xs := xs) (ys := ys) (s := .more j))
  have lt1 := lt_v i xs.length
  have lt2 := lt_v j ys.length
  unfold lawAt L__law_cost_0
  by_cases q1 : p = spS xs ys (.lack i) ∧ i < xs.length
  · rw [if_pos q1]
    rw [decide_eq_true q1.1] at e1
    rw [decide_eq_true q1.2] at lt1
    have ad' := ad' w l
    show _ = some (R.ok Fl.nx [.val (sqI false xs), .val (sqI false ys), .val S, .val (cD u l m), .val (.int ((i + 1 : Nat) : Int)), .val (.int (j : Nat)), .val (.int (w + l)), .val (stD p)])
    clear e2 q1
    generalize stD p = SD at *
    generalize sqI false xs = O at *
    generalize sqI false ys = P at *
    generalize cD u l m = CD at *
    generalize hT : PyData.tuple [.str "lack", .int (i : Nat)] = TT at *
    generalize ((i + 1 : Nat) : Int) = A1 at *
    generalize w + l = W1 at *
    simp [mIf, mAndT, mBol, bolD, mBinL, mTup, mCall1, mCons, mVar, mParEE, mStore, mDone, mBind, mPure, mPeek, mLift, f2, hT, e1, l1, lt1, a1, c1, ad']
  · rw [if_neg q1]
    have hc1 : ∀ r, mAndT (mBol (mBinL eqD 7 (mTup (mCons (mPure (.str "lack")) (mCons (mVar 4) (mPure [])))))) ((mBol (mBinL ltD 4 (mCall1 lenD (mPeek 0))))) [.val (sqI false xs), .val (sqI false ys), .val S, .val (cD u l m), .val (.int (i : Nat)), .val (.int (j : Nat)), .val (.int w), .val (stD p)] = r → r = some (.ok false [.val (sqI false xs), .val (sqI false ys), .val S, .val (cD u l m), .val (.int (i : Nat)), .val (.int (j : Nat)), .val (.int w), .val (stD p)]) := fun r hr => by
      rw [← hr]
      by_cases z : p = spS xs ys (.lack i)
      · rw [decide_eq_true z] at e1
        rw [decide_eq_false fun y => q1 ⟨z, y⟩] at lt1
        clear e2 q1 z
        generalize stD p = SD at *
        generalize sqI false xs = O at *
        generalize sqI false ys = P at *
        generalize cD u l m = CD at *
        generalize hT : PyData.tuple [.str "lack", .int (i : Nat)] = TT at *
        simp [mAndT, mBol, bolD, mBinL, mTup, mCall1, mCons, mVar, mBind, mPure, mPeek, mLift, f2, hT, e1, l1, lt1]
      · rw [decide_eq_false z] at e1
        clear e2 q1 z
        generalize stD p = SD at *
        generalize sqI false xs = O at *
        generalize sqI false ys = P at *
        generalize cD u l m = CD at *
        generalize hT : PyData.tuple [.str "lack", .int (i : Nat)] = TT at *
        simp [mAndT, mBol, bolD, mBinL, mTup, mCons, mVar, mBind, mPure, mPeek, mLift, f2, hT, e1]
    have hc1 := hc1 _ rfl
    unfold mIf
    rw [bind_is hc1, if_neg Bool.false_ne_true]
    clear hc1 e1
    by_cases q2 : p = spS xs ys (.more j) ∧ j < ys.length
    · rw [if_pos q2]
      rw [decide_eq_true q2.1] at e2
      rw [decide_eq_true q2.2] at lt2
      have ad' := ad' w m
      show _ = some (R.ok Fl.nx [.val (sqI false xs), .val (sqI false ys), .val S, .val (cD u l m), .val (.int (i : Nat)), .val (.int ((j + 1 : Nat) : Int)), .val (.int (w + m)), .val (stD p)])
      clear q1 q2
      generalize stD p = SD at *
      generalize sqI false xs = O at *
      generalize sqI false ys = P at *
      generalize cD u l m = CD at *
      generalize hT : PyData.tuple [.str "more", .int (j : Nat)] = TT at *
      generalize ((j + 1 : Nat) : Int) = A1 at *
      generalize w + m = W1 at *
      simp [mAndT, mBol, bolD, mBinL, mTup, mCall1, mCons, mVar, mParEE, mStore, mDone, mBind, mPure, mPeek, mLift, f2, hT, e2, l2, lt2, a2, c2, ad']
    · rw [if_neg q2]
      have hc2 : mAndT (mBol (mBinL eqD 7 (mTup (mCons (mPure (.str "more")) (mCons (mVar 5) (mPure [])))))) ((mBol (mBinL ltD 5 (mCall1 lenD (mPeek 1))))) [.val (sqI false xs), .val (sqI false ys), .val S, .val (cD u l m), .val (.int (i : Nat)), .val (.int (j : Nat)), .val (.int w), .val (stD p)] = some (.ok false [.val (sqI false xs), .val (sqI false ys), .val S, .val (cD u l m), .val (.int (i : Nat)), .val (.int (j : Nat)), .val (.int w), .val (stD p)]) := by
        by_cases z : p = spS xs ys (.more j)
        · rw [decide_eq_true z] at e2
          rw [decide_eq_false fun y => q2 ⟨z, y⟩] at lt2
          clear q1 q2 z
          generalize stD p = SD at *
          generalize sqI false xs = O at *
          generalize sqI false ys = P at *
          generalize cD u l m = CD at *
          generalize hT : PyData.tuple [.str "more", .int (j : Nat)] = TT at *
          simp [mAndT, mBol, bolD, mBinL, mTup, mCall1, mCons, mVar, mBind, mPure, mPeek, mLift, f2, hT, e2, l2, lt2]
        · rw [decide_eq_false z] at e2
          clear q1 q2 z
          generalize stD p = SD at *
          generalize sqI false xs = O at *
          generalize sqI false ys = P at *
          generalize cD u l m = CD at *
          generalize hT : PyData.tuple [.str "more", .int (j : Nat)] = TT at *
          simp [mAndT, mBol, bolD, mBinL, mTup, mCons, mVar, mBind, mPure, mPeek, mLift, f2, hT, e2]
      rw [bind_is hc2, if_neg Bool.false_ne_true]
      clear hc2 e2 q1 q2
      by_cases y1 : i < xs.length
      · rw [decide_eq_true y1] at lt1
        by_cases y2 : j < ys.length
        · rw [decide_eq_true y2] at lt2
          have x1 : xs[i]? = some xs[i] := List.getElem?_eq_getElem y1
          have x2 : ys[j]? = some ys[j] := List.getElem?_eq_getElem y2
          have i1 := sqI_ix (t := false) x1
          have i2 := sqI_ix (t := false) x2
          obtain ⟨c, hc, cs, cc⟩ := price_ok (u := u) (x := xs[i]) (y := ys[j])
          have hne := ne_intv xs[i] ys[j]
          have heq := eq_int xs[i] ys[j]
          have hm := mul_ok2 (i := u) cs
          have ew : stD (spS xs ys (.both i j)) = .tuple [.str (if xs[i] = ys[j] then Str.ofString "same" else Str.ofString "unlike"), .int (i : Nat), .int (j : Nat)] := by
            show PyData.tuple [.str (if xs[i]? = ys[j]? then "same" else "unlike"), .int (i : Nat), .int (j : Nat)] = _
            rw [x1, x2]
            by_cases q : xs[i] = ys[j]
            · rw [if_pos q, if_pos (congrArg some q)]
            · rw [if_neg q, if_neg fun z => q (Option.some.inj z)]
          have e3 := eq_st hp (spS_ok (xs := xs) (ys := ys) (s := .both i j))
          rw [ew] at e3
          obtain ⟨k, hk, hkk⟩ : ∃ k, intD [.bool (decide (xs[i] = ys[j]))] = some k ∧ ixD (.list [.str "unlike", .str "same"]) k = some (.str (if xs[i] = ys[j] then Str.ofString "same" else Str.ofString "unlike")) := by
            by_cases q : xs[i] = ys[j]
            · rw [if_pos q, decide_eq_true q]; exact ⟨_, rfl, rfl⟩
            · rw [if_neg q, decide_eq_false q]; exact ⟨_, rfl, rfl⟩
          have ad' := ad' w (u * c)
          have hsp : Ed.spC u l m xs ys (.both i j) = u * c := by
            show Ed.cst u xs[i]? ys[j]? = _
            rw [x1, x2, cc]
          have key : ∀ b : Bool, decide (p = spS xs ys (.both i j)) = b → _ := fun b hb => hb
          clear cc x1 x2 ew key
          by_cases y3 : p = spS xs ys (.both i j)
          · rw [if_pos ⟨y1, y2, y3⟩]
            rw [decide_eq_true y3] at e3
            show _ = some (R.ok Fl.nx [.val (sqI false xs), .val (sqI false ys), .val S, .val (cD u l m), .val (.int ((i + 1 : Nat) : Int)), .val (.int ((j + 1 : Nat) : Int)), .val (.int (w + Ed.spC u l m xs ys (.both i j))), .val (stD p)])
            rw [hsp]
            clear y3 hsp
            generalize (if xs[i] = ys[j] then Str.ofString "same" else Str.ofString "unlike") = WD at *
            generalize decide (xs[i] = ys[j]) = dd at *
            generalize stD p = SD at *
            generalize xs[i] = x at *
            generalize ys[j] = y at *
            generalize sqI false xs = O at *
            generalize sqI false ys = P at *
            generalize cD u l m = CD at *
            generalize hL : PyData.list [.str "unlike", .str "same"] = LL at *
            generalize hT3 : PyData.tuple [.str WD, .int (i : Nat), .int (j : Nat)] = TT3 at *
            generalize ((i + 1 : Nat) : Int) = A1 at *
            generalize ((j + 1 : Nat) : Int) = B1 at *
            generalize u * c = UC at *
            generalize w + UC = W1 at *
            simp [mSeq, mAndT, mBol, bolD, mBin, mBinL, mTup, mLst, mCall1, mCons, mVar, mAsg, mParEE, mStore, mDone, mBind, mPure, mPeek, mLift, f2, f3, hT3, hL, e3, l1, l2, lt1, lt2, i1, i2, heq, hk, hkk, hne, hc, hm, a1, a2, c0, ad']
          · rw [if_neg fun z => y3 z.2.2]
            rw [decide_eq_false y3] at e3
            clear y3 hsp
            generalize (if xs[i] = ys[j] then Str.ofString "same" else Str.ofString "unlike") = WD at *
            generalize decide (xs[i] = ys[j]) = dd at *
            generalize stD p = SD at *
            generalize xs[i] = x at *
            generalize ys[j] = y at *
            generalize sqI false xs = O at *
            generalize sqI false ys = P at *
            generalize cD u l m = CD at *
            generalize hL : PyData.list [.str "unlike", .str "same"] = LL at *
            generalize hT3 : PyData.tuple [.str WD, .int (i : Nat), .int (j : Nat)] = TT3 at *
            simp [mAndT, mBol, bolD, mBin, mBinL, mTup, mLst, mCall1, mCons, mVar, mRet, mBind, mPure, mPeek, mLift, f2, f3, hT3, hL, e3, l1, l2, lt1, lt2, i1, i2, heq, hk, hkk]
        · rw [if_neg fun z => y2 z.2.1]
          rw [decide_eq_false y2] at lt2
          generalize stD p = SD at *
          generalize sqI false xs = O at *
          generalize sqI false ys = P at *
          generalize cD u l m = CD at *
          simp [mAndT, mBol, bolD, mBinL, mCall1, mRet, mBind, mPure, mPeek, mLift, l1, l2, lt1, lt2]
      · rw [if_neg fun z => y1 z.1]
        rw [decide_eq_false y1] at lt1
        generalize stD p = SD at *
        generalize sqI false xs = O at *
        generalize sqI false ys = P at *
        generalize cD u l m = CD at *
        simp [mAndT, mBol, bolD, mBinL, mCall1, mRet, mBind, mPure, mPeek, mLift, l1, lt1]
end

section
variable {u l m : Int} {xs ys : List Int}
theorem co_loopO {S : D} (h1 : xs.length ≤ 1000) (h2 : ys.length ≤ 1000) : ∀ (ss : List (Str × List Int)) (i j : Nat) (w : Int) (a7 : Sl), i ≤ xs.length → j ≤ ys.length → (∀ p ∈ ss, StOk p) →
    ∃ ρ', mForL (mStore 7) L__law_cost_0 (ss.map stD) [.val (sqI false xs), .val (sqI false ys), .val S, .val (cD u l m), .val (.int (i : Nat)), .val (.int (j : Nat)), .val (.int w), a7] = some (.ok (match walkG xs ys u l m i j w ss with | some _ => .nx | none => .rt .none) ρ') ∧
      ∀ r, walkG xs ys u l m i j w ss = some r → ∃ b7, ρ' = [.val (sqI false xs), .val (sqI false ys), .val S, .val (cD u l m), .val (.int (r.1 : Nat)), .val (.int (r.2.1 : Nat)), .val (.int r.2.2), b7]
  | [], i, j, w, a7, _, _, _ => ⟨_, rfl, fun r h => by cases h; exact ⟨_, rfl⟩⟩
  | p :: ss, i, j, w, a7, hi, hj, hs => by
    have ht := co_turnO (u := u) (l := l) (m := m) (xs := xs) (ys := ys) (i := i) (j := j) (w := w) (S := S) (hs p List.mem_cons_self) h1 h2
    have st : mStore 7 (stD p) [.val (sqI false xs), .val (sqI false ys), .val S, .val (cD u l m), .val (.int (i : Nat)), .val (.int (j : Nat)), .val (.int w), a7] = some (.ok () [.val (sqI false xs), .val (sqI false ys), .val S, .val (cD u l m), .val (.int (i : Nat)), .val (.int (j : Nat)), .val (.int w), .val (stD p)]) := rfl
    cases hl : lawAt xs ys i j p with
    | none =>
      rw [hl] at ht
      have hw : walkG xs ys u l m i j w (p :: ss) = none := by unfold walkG; rw [hl]
      rw [hw]
      refine ⟨[.val (sqI false xs), .val (sqI false ys), .val S, .val (cD u l m), .val (.int (i : Nat)), .val (.int (j : Nat)), .val (.int w), .val (stD p)], ?_, fun r h => by cases h⟩
      rw [List.map_cons]
      unfold mForL
      rw [bind_is st, bind_is ht]; rfl
    | some s =>
      rw [hl] at ht
      obtain ⟨e, hat, q1, q2⟩ := lawAt_is xs ys hi hj hl
      have hw : walkG xs ys u l m i j w (p :: ss) = walkG xs ys u l m (i + s.ov) (j + s.un) (w + Ed.spC u l m xs ys s) ss := by
        show (match lawAt xs ys i j p with | none => none | some s => walkG xs ys u l m (i + s.ov) (j + s.un) (w + Ed.spC u l m xs ys s) ss) = _
        rw [hl]
      obtain ⟨ρ', ih, hr⟩ := co_loopO (S := S) h1 h2 ss (i + s.ov) (j + s.un) (w + Ed.spC u l m xs ys s) (.val (stD p)) q1 q2 (fun z hz => hs z (List.mem_cons_of_mem _ hz))
      rw [hw]
      refine ⟨ρ', ?_, hr⟩
      rw [List.map_cons]
      unfold mForL
      rw [bind_is st, bind_is ht]
      exact ih
def costO (u l m : Int) (xs ys : List Int) (ss : List (Str × List Int)) : Option Int := match walkG xs ys u l m 0 0 0 ss with
  | some r => if r.1 = xs.length ∧ r.2.1 = ys.length then some r.2.2 else none
  | none => none
def optD : Option Int → D
  | some c => .int c
  | none => .none
theorem lcostO {ss : List (Str × List Int)} (h1 : xs.length ≤ 1000) (h2 : ys.length ≤ 1000) (hs : ∀ p ∈ ss, StOk p) : fn__law_cost [sqI false xs, sqI false ys, .tuple (ss.map stD), cD u l m] = some (.ok (optD (costO u l m xs ys ss))) := by
  obtain ⟨ρ', hr, hend⟩ := co_loopO (u := u) (l := l) (m := m) (S := .tuple (ss.map stD)) h1 h2 ss 0 0 0 .un (Nat.zero_le _) (Nat.zero_le _) hs
  have l1 := sqI_len (t := false) h1
  have l2 := sqI_len (t := false) h2
  have it : ∀ O P C : D, mItems (mVar 2) [.val O, .val P, .val (.tuple (ss.map stD)), .val C, .val (.int 0), .val (.int 0), .val (.int 0), .un] = some (.ok (ss.map stD) [.val O, .val P, .val (.tuple (ss.map stD)), .val C, .val (.int 0), .val (.int 0), .val (.int 0), .un]) := fun O P C => by
    generalize ss.map stD = M
    simp [mItems, itemsD, mVar, mBind, mPure, mLift]
  have hR : ∀ r, mForL (mStore 7) L__law_cost_0 (ss.map stD) [.val (sqI false xs), .val (sqI false ys), .val (.tuple (ss.map stD)), .val (cD u l m), .val (.int 0), .val (.int 0), .val (.int 0), .un] = r → R__law_cost_0 [.val (sqI false xs), .val (sqI false ys), .val (.tuple (ss.map stD)), .val (cD u l m), .val (.int 0), .val (.int 0), .val (.int 0), .un] = r := fun r h => by
    unfold R__law_cost_0 mFor
    rw [bind_is (it _ _ _)]
    exact h
  have hR := hR _ hr
  clear hr it
  have f2 : fit 2 = true := rfl
  have f3 : fit 3 = true := rfl
  unfold costO
  cases hw : walkG xs ys u l m 0 0 0 ss with
  | none =>
    rw [hw] at hR
    dsimp only at hR ⊢
    generalize PyData.tuple (ss.map stD) = S at *
    generalize sqI false xs = O at *
    generalize sqI false ys = P at *
    generalize cD u l m = CD at *
    unfold fn__law_cost runV m__law_cost
    rw [show env0 8 [O, P, S, CD] = [.val O, .val P, .val S, .val CD, .un, .un, .un, .un] from rfl]
    rw [seq_nx (ρ' := [.val O, .val P, .val S, .val CD, .val (.int 0), .val (.int 0), .val (.int 0), .un]) (by simp [mAsg, mTup, mCons, mBind, mPure, mLift, f3, gTupD, gCons2, gsNil, mStore, mDone])]
    unfold mSeq
    rw [bind_is hR]
    rfl
  | some r =>
    obtain ⟨b7, rfl⟩ := hend r hw
    rw [hw] at hR
    dsimp only at hR ⊢
    have e1 : eqD (.tuple [.int (r.1 : Nat), .int (r.2.1 : Nat)]) (.tuple [.int (xs.length : Nat), .int (ys.length : Nat)]) = some (.bool (decide (r.1 = xs.length ∧ r.2.1 = ys.length))) := by
      have s : ∀ a b : Int, Sh 1 (.tuple [.int a, .int b]) := fun a b => Sh.tuple fun d hd => by
        simp only [List.mem_cons, List.not_mem_nil, or_false] at hd
        rcases hd with rfl | rfl <;> exact Sh.int _
      rw [eq_sh (s _ _) (s _ _) (by omega) (by omega)]
      have := eqv_ints [(r.1 : Int), (r.2.1 : Int)] [(xs.length : Int), (ys.length : Int)]
      have e : PyData.eqv (.tuple [.int (r.1 : Nat), .int (r.2.1 : Nat)]) (.tuple [.int (xs.length : Nat), .int (ys.length : Nat)]) = decide ([(r.1 : Int), (r.2.1 : Int)] = [(xs.length : Int), (ys.length : Int)]) := by
        rw [← this]; simp only [PyData.eqv]; rfl
      rw [e]
      congr 2
      refine decide_eq_decide.mpr ⟨fun z => ?_, fun z => ?_⟩
      · have z1 := (List.cons.inj z).1
        have z2 := (List.cons.inj (List.cons.inj z).2).1
        omega
      · rw [z.1, z.2]
    generalize PyData.tuple (ss.map stD) = S at *
    generalize sqI false xs = O at *
    generalize sqI false ys = P at *
    generalize cD u l m = CD at *
    generalize hT : PyData.tuple [.int (xs.length : Nat), .int (ys.length : Nat)] = TT at *
    generalize hT2 : PyData.tuple [.int (r.1 : Nat), .int (r.2.1 : Nat)] = TT2 at *
    unfold fn__law_cost runV m__law_cost
    rw [show env0 8 [O, P, S, CD] = [.val O, .val P, .val S, .val CD, .un, .un, .un, .un] from rfl]
    rw [seq_nx (ρ' := [.val O, .val P, .val S, .val CD, .val (.int 0), .val (.int 0), .val (.int 0), .un]) (by simp [mAsg, mTup, mCons, mBind, mPure, mLift, f3, gTupD, gCons2, gsNil, mStore, mDone]), seq_nx hR]
    by_cases q : r.1 = xs.length ∧ r.2.1 = ys.length
    · rw [decide_eq_true q] at e1
      rw [if_pos q]
      simp [mRet, mIf, mBol, bolD, mBin, mTup, mCall1, mCons, mVar, mBind, mPure, mPeek, mLift, l1, l2, f2, hT, hT2, e1, optD]
    · rw [decide_eq_false q] at e1
      rw [if_neg q]
      simp [mRet, mIf, mBol, bolD, mBin, mTup, mCall1, mCons, mVar, mBind, mPure, mPeek, mLift, l1, l2, f2, hT, hT2, e1, optD]
/-! the law's look at a table -/
def cellL (u l m : Int) (xs ys : List Int) (T : Nat → Nat → Int) (i j : Nat) : Bool :=
  (!(decide (i < xs.length) && decide (T i j + l < T (i + 1) j))) && ((!(decide (j < ys.length) && decide (T i j + m < T i (j + 1)))) && (!(decide (i < xs.length) && (decide (j < ys.length) && decide (T i j + Ed.cst u xs[i]? ys[j]? < T (i + 1) (j + 1))))))
def riseL (u l m : Int) (xs ys : List Int) (T : Nat → Nat → Int) : Bool := (List.range (xs.length + 1)).all fun i => (List.range (ys.length + 1)).all fun j => cellL u l m xs ys T i j
theorem rise_eq (T : Nat → Nat → Int) : riseL u l m xs ys T = riseB u l m xs ys T := by
  rw [Bool.eq_iff_iff]
  unfold riseL riseB
  simp only [List.all_eq_true, List.mem_range, decide_eq_true_eq]
  constructor
  · intro h i hi j hj s hs
    rcases Ed.mem_to hs with ⟨a, b, rfl, rfl, rfl⟩ | ⟨a, rfl, rfl⟩ | ⟨b, rfl, rfl⟩
    · have := h a (by omega) b (by omega)
      unfold cellL at this
      rw [decide_eq_true (show a < xs.length by omega), decide_eq_true (show b < ys.length by omega)] at this
      simp only [Bool.and_eq_true, Bool.not_eq_true', Bool.true_and, decide_eq_false_iff_not] at this
      show T (a + 1) (b + 1) ≤ T a b + Ed.cst u xs[a]? ys[b]?
      omega
    · have := h a (by omega) j (by omega)
      unfold cellL at this
      rw [decide_eq_true (show a < xs.length by omega)] at this
      simp only [Bool.and_eq_true, Bool.not_eq_true', Bool.true_and, decide_eq_false_iff_not] at this
      show T (a + 1) j ≤ T a j + l
      omega
    · have := h i (by omega) b (by omega)
      unfold cellL at this
      rw [decide_eq_true (show b < ys.length by omega)] at this
      simp only [Bool.and_eq_true, Bool.not_eq_true', Bool.true_and, decide_eq_false_iff_not] at this
      show T i (b + 1) ≤ T i b + m
      omega
  · intro h i hi j hj
    unfold cellL
    have p1 : i < xs.length → T (i + 1) j ≤ T i j + l := fun q => h (i + 1) (by omega) j hj (.lack i) (Ed.at_mem (s := .lack i) (i := i) (j := j) rfl)
    have p2 : j < ys.length → T i (j + 1) ≤ T i j + m := fun q => h i hi (j + 1) (by omega) (.more j) (Ed.at_mem (s := .more j) (i := i) (j := j) rfl)
    have p3 : i < xs.length → j < ys.length → T (i + 1) (j + 1) ≤ T i j + Ed.cst u xs[i]? ys[j]? := fun q q' => h (i + 1) (by omega) (j + 1) (by omega) (.both i j) (Ed.at_mem (s := .both i j) (i := i) (j := j) ⟨rfl, rfl⟩)
    by_cases q : i < xs.length
    · have p1 := p1 q
      have p3 := p3 q
      rw [decide_eq_true q, decide_eq_false (show ¬ T i j + l < T (i + 1) j by omega)]
      by_cases q2 : j < ys.length
      · have p2 := p2 q2
        have p3 := p3 q2
        rw [decide_eq_true q2, decide_eq_false (show ¬ T i j + m < T i (j + 1) by omega), decide_eq_false (show ¬ T i j + Ed.cst u xs[i]? ys[j]? < T (i + 1) (j + 1) by omega)]; rfl
      · rw [decide_eq_false q2]; rfl
    · rw [decide_eq_false q]
      by_cases q2 : j < ys.length
      · have p2 := p2 q2
        rw [decide_eq_true q2, decide_eq_false (show ¬ T i j + m < T i (j + 1) by omega)]; rfl
      · rw [decide_eq_false q2]; rfl
theorem tr_cellO {T : Nat → Nat → Int} {V W : D} {i j : Nat} {a8 a9 : Sl} (hi : i ≤ xs.length) (hj : j ≤ ys.length) (h1 : xs.length ≤ 1000) (h2 : ys.length ≤ 1000) :
    ∃ b8, L__law_table_right_0 [.val (sqI false xs), .val (sqI false ys), .val (tabD_ T xs.length ys.length), .val V, .val (cD u l m), .val W, .val (.int (i : Nat)), .val (.int (j : Nat)), a8, a9] = some (.ok (if cellL u l m xs ys T i j = true then .nx else .rt (.bool false)) [.val (sqI false xs), .val (sqI false ys), .val (tabD_ T xs.length ys.length), .val V, .val (cD u l m), .val W, .val (.int (i : Nat)), .val (.int (j : Nat)), b8, a9]) := by
  have l1 := sqI_len (t := false) h1
  have l2 := sqI_len (t := false) h2
  have c0 := cD_0 (u := u) (l := l) (m := m)
  have c1 := cD_1 (u := u) (l := l) (m := m)
  have c2 := cD_2 (u := u) (l := l) (m := m)
  have a1 := add1 i
  have a2 := add1 j
  have ad : ∀ a b : Int, addD (.int a) (.int b) = some (.int (a + b)) := fun _ _ => rfl
  have gt : ∀ a b : Int, gtD (.int a) (.int b) = some (.bool (decide (b < a))) := fun _ _ => rfl
  have t0 := tabD_ix (T := T) (n := xs.length) (k := ys.length) hi
  have r0 := rowT_ixT (T := T) (i := i) hj
  have lt1 := lt_v i xs.length
  have lt2 := lt_v j ys.length
  have s1 : mIf (mAndT (mBol (mBinL ltD 6 (mCall1 lenD (mPeek 0)))) ((mBol (mBin gtD (mBin ixD (mBinL ixD 2 (mBinL addD 6 (mPure (.int 1)))) (mPeek 7)) (mBin addD (mBin ixD (mBinL ixD 2 (mPeek 6)) (mPeek 7)) (mBinL ixD 4 (mPure (.int 1)))))))) (mRet (mPure (.bool false))) (mPure .nx) [.val (sqI false xs), .val (sqI false ys), .val (tabD_ T xs.length ys.length), .val V, .val (cD u l m), .val W, .val (.int (i : Nat)), .val (.int (j : Nat)), a8, a9] = some (.ok (if (!(decide (i < xs.length) && decide (T i j + l < T (i + 1) j))) = true then .nx else .rt (.bool false)) [.val (sqI false xs), .val (sqI false ys), .val (tabD_ T xs.length ys.length), .val V, .val (cD u l m), .val W, .val (.int (i : Nat)), .val (.int (j : Nat)), a8, a9]) := by
    by_cases q : i < xs.length
    · rw [decide_eq_true q] at lt1 ⊢
      have t1 := tabD_ix (T := T) (n := xs.length) (k := ys.length) (i := i + 1) q
      have r1 := rowT_ixT (T := T) (i := i + 1) hj
      have g := gt (T (i + 1) j) (T i j + l)
      have ad := ad (T i j) l
      generalize PyData.tuple (rowT T i (ys.length + 1)) = R0 at *
      generalize PyData.tuple (rowT T (i + 1) (ys.length + 1)) = R1 at *
      generalize tabD_ T xs.length ys.length = TB at *
      generalize T (i + 1) j = V1 at *
      generalize T i j = V0 at *
      generalize V0 + l = V2 at *
      generalize ((i + 1 : Nat) : Int) = I1 at *
      generalize sqI false xs = O at *
      generalize sqI false ys = P at *
      generalize cD u l m = CD at *
      generalize decide (V2 < V1) = bb at *
      cases bb with
      | true => simp [mIf, mAndT, mBol, bolD, mBin, mBinL, mCall1, mRet, mBind, mPure, mPeek, mLift, l1, lt1, a1, t0, t1, r0, r1, c1, ad, g]
      | false => simp [mIf, mAndT, mBol, bolD, mBin, mBinL, mCall1, mBind, mPure, mPeek, mLift, l1, lt1, a1, t0, t1, r0, r1, c1, ad, g]
    · rw [decide_eq_false q] at lt1 ⊢
      generalize tabD_ T xs.length ys.length = TB at *
      generalize sqI false xs = O at *
      generalize sqI false ys = P at *
      generalize cD u l m = CD at *
      simp [mIf, mAndT, mBol, bolD, mBinL, mCall1, mBind, mPure, mPeek, mLift, l1, lt1]
  have s2 : mIf (mAndT (mBol (mBinL ltD 7 (mCall1 lenD (mPeek 1)))) ((mBol (mBin gtD (mBin ixD (mBinL ixD 2 (mPeek 6)) (mBinL addD 7 (mPure (.int 1)))) (mBin addD (mBin ixD (mBinL ixD 2 (mPeek 6)) (mPeek 7)) (mBinL ixD 4 (mPure (.int 2)))))))) (mRet (mPure (.bool false))) (mPure .nx) [.val (sqI false xs), .val (sqI false ys), .val (tabD_ T xs.length ys.length), .val V, .val (cD u l m), .val W, .val (.int (i : Nat)), .val (.int (j : Nat)), a8, a9] = some (.ok (if (!(decide (j < ys.length) && decide (T i j + m < T i (j + 1)))) = true then .nx else .rt (.bool false)) [.val (sqI false xs), .val (sqI false ys), .val (tabD_ T xs.length ys.length), .val V, .val (cD u l m), .val W, .val (.int (i : Nat)), .val (.int (j : Nat)), a8, a9]) := by
    clear s1
    by_cases q : j < ys.length
    · rw [decide_eq_true q] at lt2 ⊢
      have r1 := rowT_ixT (T := T) (i := i) (j := j + 1) (k := ys.length) q
      have g := gt (T i (j + 1)) (T i j + m)
      have ad := ad (T i j) m
      generalize PyData.tuple (rowT T i (ys.length + 1)) = R0 at *
      generalize tabD_ T xs.length ys.length = TB at *
      generalize T i (j + 1) = V1 at *
      generalize T i j = V0 at *
      generalize V0 + m = V2 at *
      generalize ((j + 1 : Nat) : Int) = J1 at *
      generalize sqI false xs = O at *
      generalize sqI false ys = P at *
      generalize cD u l m = CD at *
      generalize decide (V2 < V1) = bb at *
      cases bb with
      | true => simp [mIf, mAndT, mBol, bolD, mBin, mBinL, mCall1, mRet, mBind, mPure, mPeek, mLift, l2, lt2, a2, t0, r0, r1, c2, ad, g]
      | false => simp [mIf, mAndT, mBol, bolD, mBin, mBinL, mCall1, mBind, mPure, mPeek, mLift, l2, lt2, a2, t0, r0, r1, c2, ad, g]
    · rw [decide_eq_false q] at lt2 ⊢
      generalize tabD_ T xs.length ys.length = TB at *
      generalize sqI false xs = O at *
      generalize sqI false ys = P at *
      generalize cD u l m = CD at *
      simp [mIf, mAndT, mBol, bolD, mBinL, mCall1, mBind, mPure, mPeek, mLift, l2, lt2]
  unfold L__law_table_right_0 cellL
  generalize (!(decide (i < xs.length) && decide (T i j + l < T (i + 1) j))) = b1 at *
  cases b1 with
  | false =>
    rw [Bool.false_and]
    refine ⟨a8, ?_⟩
    unfold mSeq
    rw [bind_is s1]; rfl
  | true =>
    rw [Bool.true_and, seq_nx (by exact s1)]
    generalize (!(decide (j < ys.length) && decide (T i j + m < T i (j + 1)))) = b2 at *
    cases b2 with
    | false =>
      rw [Bool.false_and]
      refine ⟨a8, ?_⟩
      unfold mSeq
      rw [bind_is s2]; rfl
    | true =>
      rw [Bool.true_and, seq_nx (by exact s2)]
      clear s1 s2
      by_cases q : i < xs.length
      · by_cases q2 : j < ys.length
        · rw [decide_eq_true q] at lt1 ⊢
          rw [decide_eq_true q2] at lt2 ⊢
          have t1 := tabD_ix (T := T) (n := xs.length) (k := ys.length) (i := i + 1) q
          have r1 := rowT_ixT (T := T) (i := i + 1) (j := j + 1) (k := ys.length) q2
          have x1 : xs[i]? = some xs[i] := List.getElem?_eq_getElem q
          have x2 : ys[j]? = some ys[j] := List.getElem?_eq_getElem q2
          have i1 := sqI_ix (t := false) x1
          have i2 := sqI_ix (t := false) x2
          obtain ⟨c, hc, cs, cc⟩ := price_ok (u := u) (x := xs[i]) (y := ys[j])
          have hne := ne_intv xs[i] ys[j]
          have hm := mul_ok2 (i := u) cs
          have g := gt (T (i + 1) (j + 1)) (T i j + u * c)
          have ad := ad (T i j) (u * c)
          rw [x1, x2, ← cc]
          refine ⟨.val (.int (u * c)), ?_⟩
          clear cc x1 x2
          generalize PyData.tuple (rowT T i (ys.length + 1)) = R0 at *
          generalize PyData.tuple (rowT T (i + 1) (ys.length + 1)) = R1 at *
          generalize tabD_ T xs.length ys.length = TB at *
          generalize T (i + 1) (j + 1) = V1 at *
          generalize T i j = V0 at *
          generalize (!decide (xs[i] = ys[j])) = bb at *
          generalize xs[i] = x at *
          generalize ys[j] = y at *
          generalize u * c = UC at *
          generalize V0 + UC = V2 at *
          generalize ((i + 1 : Nat) : Int) = I1 at *
          generalize ((j + 1 : Nat) : Int) = J1 at *
          generalize sqI false xs = O at *
          generalize sqI false ys = P at *
          generalize cD u l m = CD at *
          generalize decide (V2 < V1) = b3 at *
          cases b3 with
          | true => simp [mSeq, mIf, mAndT, mBol, bolD, mBin, mBinL, mCall1, mAsg, mStore, mDone, mRet, mBind, mPure, mPeek, mLift, l1, l2, lt1, lt2, a1, a2, t0, t1, r0, r1, i1, i2, hne, hc, hm, c0, ad, g]
          | false => simp [mSeq, mIf, mAndT, mBol, bolD, mBin, mBinL, mCall1, mAsg, mStore, mDone, mBind, mPure, mPeek, mLift, l1, l2, lt1, lt2, a1, a2, t0, t1, r0, r1, i1, i2, hne, hc, hm, c0, ad, g]
        · rw [decide_eq_true q] at lt1 ⊢
          rw [decide_eq_false q2] at lt2 ⊢
          refine ⟨a8, ?_⟩
          generalize tabD_ T xs.length ys.length = TB at *
          generalize sqI false xs = O at *
          generalize sqI false ys = P at *
          generalize cD u l m = CD at *
          simp [mIf, mAndT, mBol, bolD, mBinL, mCall1, mBind, mPure, mPeek, mLift, l1, l2, lt1, lt2]
      · rw [decide_eq_false q] at lt1 ⊢
        refine ⟨a8, ?_⟩
        generalize tabD_ T xs.length ys.length = TB at *
        generalize sqI false xs = O at *
        generalize sqI false ys = P at *
        generalize cD u l m = CD at *
        simp [mIf, mAndT, mBol, bolD, mBinL, mCall1, mBind, mPure, mPeek, mLift, l1, lt1]
end

section
variable {u l m : Int} {xs ys : List Int}
def lawTable (u l m : Int) (xs ys : List Int) (c : Int) (rows : List (List Int)) : Bool := shapeB xs ys rows && ((decide (tabT rows 0 0 = 0) && decide (tabT rows xs.length ys.length = c)) && riseL u l m xs ys (tabT rows))
theorem table_rightO {c : Int} {rows : List (List Int)} (h1 : xs.length ≤ 900) (h2 : ys.length ≤ 900) (k2 : rows.length ≤ 10000) (k3 : ∀ r ∈ rows, r.length ≤ 10000) : fn__law_table_right [sqI false xs, sqI false ys, rowsD rows, .int c, cD u l m] = some (.ok (.bool (lawTable u l m xs ys c rows))) := by
  have l1 := sqI_len (t := false) (xs := xs) (by omega)
  have l2 := sqI_len (t := false) (xs := ys) (by omega)
  have a1 := add1 xs.length
  have a2 := add1 ys.length
  have hm : ∀ r : En, mCons (mBin addD (mCall1 lenD (mPeek 0)) (mPure (.int 1))) (mPure []) (.val (sqI false xs) :: r) = some (.ok [.int ((xs.length + 1 : Nat) : Int)] (.val (sqI false xs) :: r)) := fun r => by
    generalize sqI false xs = O at *
    simp [mCons, mBin, mCall1, mBind, mPure, mPeek, mLift, l1, a1]
  have items : ∀ r : En, mItems (mVar 2) (.val (sqI false xs) :: .val (sqI false ys) :: .val (rowsD rows) :: r) = some (.ok (rows.map fun r => PyData.tuple (r.map PyData.int)) (.val (sqI false xs) :: .val (sqI false ys) :: .val (rowsD rows) :: r)) := fun r => by
    unfold rowsD
    generalize (rows.map fun r => PyData.tuple (r.map PyData.int)) = Q
    generalize sqI false xs = O
    generalize sqI false ys = P
    simp [mItems, itemsD, mVar, mBind, mPure, mLift]
  have c0 : C__law_table_right_0 [.val (sqI false xs), .val (sqI false ys), .val (rowsD rows), .val (.int c), .val (cD u l m), .val (.int ((ys.length + 1 : Nat) : Int)), .un, .un, .un, .un] = some (.ok (rows.map fun _ => PyData.bool true) [.val (sqI false xs), .val (sqI false ys), .val (rowsD rows), .val (.int c), .val (cD u l m), .val (.int ((ys.length + 1 : Nat) : Int)), .un, .un, .un, .un]) := by
    refine comp_is (vs := [9]) (ρ1 := [.val (sqI false xs), .val (sqI false ys), .val (rowsD rows), .val (.int c), .val (cD u l m), .val (.int ((ys.length + 1 : Nat) : Int)), .un, .un, .un, .un]) (ρe := [.val (sqI false xs), .val (sqI false ys), .val (rowsD rows), .val (.int c), .val (cD u l m), .val (.int ((ys.length + 1 : Nat) : Int)), .un, .un, .un, .un]) (items _) (fit_of2 (by rw [List.length_map]; omega)) ?_
    refine go_mapA (fun r => PyData.tuple (r.map PyData.int)) _ rows fun r _ => ?_
    have i1 : isiT "tuple" (.tuple (r.map PyData.int)) = true := rfl
    generalize PyData.tuple (r.map PyData.int) = d at *
    generalize rowsD rows = TB at *
    generalize sqI false xs = O at *
    generalize sqI false ys = P at *
    generalize cD u l m = CD at *
    exact ⟨[.val O, .val P, .val TB, .val (.int c), .val CD, .val (.int ((ys.length + 1 : Nat) : Int)), .un, .un, .un, .val d], [.val O, .val P, .val TB, .val (.int c), .val CD, .val (.int ((ys.length + 1 : Nat) : Int)), .un, .un, .un, .val d], by simp [mStore, unsE], by simp [mIsi, mBind, mPure, mPeek, i1], by simp [unsE]⟩
  have c1 : C__law_table_right_1 [.val (sqI false xs), .val (sqI false ys), .val (rowsD rows), .val (.int c), .val (cD u l m), .val (.int ((ys.length + 1 : Nat) : Int)), .un, .un, .un, .un] = some (.ok ((rows.map (fun r => ((r.length : Nat) : Int))).map PyData.int) [.val (sqI false xs), .val (sqI false ys), .val (rowsD rows), .val (.int c), .val (cD u l m), .val (.int ((ys.length + 1 : Nat) : Int)), .un, .un, .un, .un]) := by
    rw [List.map_map]
    refine comp_is (vs := [9]) (ρ1 := [.val (sqI false xs), .val (sqI false ys), .val (rowsD rows), .val (.int c), .val (cD u l m), .val (.int ((ys.length + 1 : Nat) : Int)), .un, .un, .un, .un]) (ρe := [.val (sqI false xs), .val (sqI false ys), .val (rowsD rows), .val (.int c), .val (cD u l m), .val (.int ((ys.length + 1 : Nat) : Int)), .un, .un, .un, .un]) (items _) (fit_of2 (by rw [List.length_map]; omega)) ?_
    refine go_mapA (fun r => PyData.tuple (r.map PyData.int)) _ rows fun r hr => ?_
    have hl : lenD [.tuple (r.map PyData.int)] = some (.int ((r.length : Nat) : Int)) := by
      have f : fit (r.map PyData.int).length = true := fit_of2 (by rw [List.length_map]; have := k3 r hr; omega)
      have e : (r.map PyData.int).length = r.length := List.length_map _
      generalize r.map PyData.int = R at *
      rw [← e]
      simp [lenD, f]
    show ∃ ρ1 ρ3, mStore 9 (PyData.tuple (r.map PyData.int)) _ = some (R.ok () ρ1) ∧ mCall1 lenD (mPeek 9) ρ1 = some (R.ok (PyData.int ((r.length : Nat) : Int)) ρ3) ∧ _
    generalize PyData.tuple (r.map PyData.int) = d at *
    generalize rowsD rows = TB at *
    generalize sqI false xs = O at *
    generalize sqI false ys = P at *
    generalize cD u l m = CD at *
    generalize ((ys.length + 1 : Nat) : Int) = K at *
    exact ⟨[.val O, .val P, .val TB, .val (.int c), .val CD, .val (.int K), .un, .un, .un, .val d], [.val O, .val P, .val TB, .val (.int c), .val CD, .val (.int K), .un, .un, .un, .val d], by simp [mStore, unsE], by simp [mCall1, mBind, mPure, mPeek, mLift, hl], by simp [unsE]⟩
  have hrep : repLD (.list [.int ((ys.length + 1 : Nat) : Int)]) (.int ((xs.length + 1 : Nat) : Int)) = some (((List.range (xs.length + 1)).map fun _ => ((ys.length + 1 : Nat) : Int)).map PyData.int) := by
    rw [rep1 (by omega)]
    congr 1
    rw [List.map_map]
    show _ = (List.range (xs.length + 1)).map fun _ => PyData.int ((ys.length + 1 : Nat) : Int)
    generalize PyData.int ((ys.length + 1 : Nat) : Int) = d
    rw [List.map_const', List.length_range]
  have hne := ne_ints (rows.map (fun r => ((r.length : Nat) : Int))) ((List.range (xs.length + 1)).map fun _ => ((ys.length + 1 : Nat) : Int))
  have hdef : decide (rows.map (fun r => ((r.length : Nat) : Int)) = (List.range (xs.length + 1)).map fun _ => ((ys.length + 1 : Nat) : Int)) = shapeB xs ys rows := rfl
  rw [hdef] at hne
  have v0 := mVal_is c0
  have v1 := mVal_is c1
  have al := all_true rows
  have tt : isiT "tuple" (rowsD rows) = true := rfl
  have tb : truD (.bool true) = some true := rfl
  have ng : negD (.int 1) = some (.int (-1)) := rfl
  have f1 : fit 1 = true := rfl
  have vR : mVal (mRepN (mCons (mVar 5) (mPure [])) (mBin addD (mCall1 lenD (mPeek 0)) (mPure (.int 1)))) [.val (sqI false xs), .val (sqI false ys), .val (rowsD rows), .val (.int c), .val (cD u l m), .val (.int ((ys.length + 1 : Nat) : Int)), .un, .un, .un, .un] = some (.ok (.list (((List.range (xs.length + 1)).map fun _ => ((ys.length + 1 : Nat) : Int)).map PyData.int)) [.val (sqI false xs), .val (sqI false ys), .val (rowsD rows), .val (.int c), .val (cD u l m), .val (.int ((ys.length + 1 : Nat) : Int)), .un, .un, .un, .un]) := by
    refine mVal_is ?_
    clear c0 c1 items v0 v1 hm hne hdef
    generalize (((List.range (xs.length + 1)).map fun _ => ((ys.length + 1 : Nat) : Int)).map PyData.int) = RP at *
    generalize rowsD rows = TB at *
    generalize sqI false ys = P at *
    generalize cD u l m = CD at *
    generalize ((ys.length + 1 : Nat) : Int) = K at *
    generalize ((xs.length + 1 : Nat) : Int) = N at *
    generalize sqI false xs = O at *
    simp [mRepN, mBin, mCall1, mCons, mVar, mBind, mPure, mPeek, mLift, hrep, l1, a1, f1]
  have hmt : ∀ mrep, mRepN (mCons (mVar 5) (mPure [])) (mBin addD (mCall1 lenD (mPeek 0)) (mPure (.int 1))) = mrep → m__law_table_right = (mSeq (mAsg (mBin addD (mCall1 lenD (mPeek 1)) (mPure (.int 1))) (mStore 5))
    (mSeq (mIf (mOrT (mNotT (mTru (mIsi "tuple" (mPeek 2)))) ((mNotT (mTru (mCall1 allD (mVal C__law_table_right_0)))))) (mRet (mPure (.bool false))) (mPure .nx))
    (mSeq (mIf (mBol (mBin neD (mVal C__law_table_right_1) (mVal mrep))) (mRet (mPure (.bool false))) (mPure .nx))
    (mSeq (mIf (mOrT (mBol (mBin neD (mBin ixD (mBinL ixD 2 (mPure (.int 0))) (mPure (.int 0))) (mPure (.int 0)))) ((mBol (mBin neD (mBin ixD (mBinL ixD 2 (mUn negD (mPure (.int 1)))) (mUn negD (mPure (.int 1)))) (mPeek 3))))) (mRet (mPure (.bool false))) (mPure .nx))
    (mSeq (R__law_table_right_1)
    (mRet (mPure (.bool true)))))))) := fun mrep h => by rw [← h]; rfl
  unfold lawTable
  cases hsh : shapeB xs ys rows with
  | false =>
    rw [hsh] at hne
    rw [Bool.false_and]
    clear c0 c1 items hm
    generalize hrepm : mRepN (mCons (mVar 5) (mPure [])) (mBin addD (mCall1 lenD (mPeek 0)) (mPure (.int 1))) = mrep at *
    have hmt := hmt mrep rfl
    generalize PyData.list ((rows.map (fun r => ((r.length : Nat) : Int))).map PyData.int) = LA at *
    generalize PyData.list (((List.range (xs.length + 1)).map fun _ => ((ys.length + 1 : Nat) : Int)).map PyData.int) = LB at *
    generalize PyData.list (rows.map fun _ => PyData.bool true) = BL at *
    generalize rowsD rows = TB at *
    generalize sqI false xs = O at *
    generalize sqI false ys = P at *
    generalize cD u l m = CD at *
    generalize ((ys.length + 1 : Nat) : Int) = K at *
    unfold fn__law_table_right runV
    rw [hmt]
    rw [show env0 10 [O, P, TB, .int c, CD] = [.val O, .val P, .val TB, .val (.int c), .val CD, .un, .un, .un, .un, .un] from rfl]
    rw [seq_nx (ρ' := [.val O, .val P, .val TB, .val (.int c), .val CD, .val (.int K), .un, .un, .un, .un]) (by simp [mAsg, mBin, mCall1, mStore, mDone, mBind, mPure, mPeek, mLift, l2, a2])]
    rw [seq_nx (ρ' := [.val O, .val P, .val TB, .val (.int c), .val CD, .val (.int K), .un, .un, .un, .un]) (by simp [mIf, mOrT, mNotT, mTru, mIsi, mCall1, mBind, mPure, mPeek, mLift, tt, tb, v0, al])]
    simp [mSeq, mIf, mBol, bolD, mBin, mRet, mBind, mPure, mLift, hne, v1, vR]
  | true =>
    rw [hsh] at hne
    rw [Bool.true_and]
    obtain ⟨hl, hT⟩ := shape_is hsh
    rw [hT] at v0 v1 vR tt ⊢
    have sR2 : ∃ b6 b7 b8, R__law_table_right_1 [.val (sqI false xs), .val (sqI false ys), .val (tabD_ (tabT rows) xs.length ys.length), .val (.int c), .val (cD u l m), .val (.int ((ys.length + 1 : Nat) : Int)), .un, .un, .un, .un] = some (.ok (if riseL u l m xs ys (tabT rows) = true then .nx else .rt (.bool false)) [.val (sqI false xs), .val (sqI false ys), .val (tabD_ (tabT rows) xs.length ys.length), .val (.int c), .val (cD u l m), .val (.int ((ys.length + 1 : Nat) : Int)), b6, b7, b8, .un]) := by
      generalize tabT rows = T at *
      have row : ∀ (i : Nat) (a7 a8 : Sl), i < xs.length + 1 → ∃ b7 b8, L__law_table_right_1 [.val (sqI false xs), .val (sqI false ys), .val (tabD_ T xs.length ys.length), .val (.int c), .val (cD u l m), .val (.int ((ys.length + 1 : Nat) : Int)), .val (.int (i : Nat)), a7, a8, .un] = some (.ok (if ((List.range (ys.length + 1)).all fun j => cellL u l m xs ys T i j) = true then .nx else .rt (.bool false)) [.val (sqI false xs), .val (sqI false ys), .val (tabD_ T xs.length ys.length), .val (.int c), .val (cD u l m), .val (.int ((ys.length + 1 : Nat) : Int)), .val (.int (i : Nat)), b7, b8, .un]) := fun i a7 a8 hi => by
        obtain ⟨ρ', ⟨b7, b8, rfl⟩, h⟩ := forR_try (g := mStore 7) (body := L__law_table_right_0) (fun j => cellL u l m xs ys T i j) (fun ρ => ∃ b7 b8, ρ = [.val (sqI false xs), .val (sqI false ys), .val (tabD_ T xs.length ys.length), .val (.int c), .val (cD u l m), .val (.int ((ys.length + 1 : Nat) : Int)), .val (.int (i : Nat)), b7, b8, .un]) (ys.length + 1) (ms := mCons (mVar 5) (mPure [])) (ρ := [.val (sqI false xs), .val (sqI false ys), .val (tabD_ T xs.length ys.length), .val (.int c), .val (cD u l m), .val (.int ((ys.length + 1 : Nat) : Int)), .val (.int (i : Nat)), a7, a8, .un]) rfl (by omega) ⟨_, _, rfl⟩ (by
          rintro j hj ρ ⟨b7, b8, rfl⟩
          obtain ⟨c8, hc8⟩ := tr_cellO (u := u) (l := l) (m := m) (xs := xs) (ys := ys) (T := T) (V := .int c) (W := .int ((ys.length + 1 : Nat) : Int)) (i := i) (j := j) (a8 := b8) (a9 := .un) (by omega) (by omega) (by omega) (by omega)
          exact ⟨_, _, rfl, hc8, _, _, rfl⟩)
        exact ⟨b7, b8, h⟩
      obtain ⟨ρ', ⟨b6, b7, b8, rfl⟩, h⟩ := forR_try (g := mStore 6) (body := L__law_table_right_1) (fun i => (List.range (ys.length + 1)).all fun j => cellL u l m xs ys T i j) (fun ρ => ∃ b6 b7 b8, ρ = [.val (sqI false xs), .val (sqI false ys), .val (tabD_ T xs.length ys.length), .val (.int c), .val (cD u l m), .val (.int ((ys.length + 1 : Nat) : Int)), b6, b7, b8, .un]) (xs.length + 1) (hm [.val (sqI false ys), .val (tabD_ T xs.length ys.length), .val (.int c), .val (cD u l m), .val (.int ((ys.length + 1 : Nat) : Int)), .un, .un, .un, .un]) (by omega) ⟨_, _, _, rfl⟩ (by
        rintro i hi ρ ⟨b6, b7, b8, rfl⟩
        obtain ⟨c7, c8, hc⟩ := row i b7 b8 hi
        exact ⟨_, _, rfl, hc, _, _, _, rfl⟩)
      exact ⟨b6, b7, b8, h⟩
    obtain ⟨b6, b7, b8, sR2⟩ := sR2
    have t0 := tabD_ix (T := tabT rows) (n := xs.length) (k := ys.length) (Nat.zero_le xs.length)
    have r0 := rowT_ixT (T := tabT rows) (i := 0) (Nat.zero_le ys.length)
    have t0' : ixD (tabD_ (tabT rows) xs.length ys.length) (.int 0) = some (.tuple (rowT (tabT rows) 0 (ys.length + 1))) := t0
    have r0' : ixD (.tuple (rowT (tabT rows) 0 (ys.length + 1))) (.int 0) = some (.int (tabT rows 0 0)) := r0
    have e1 := tabD_last (T := tabT rows) (n := xs.length) (k := ys.length)
    have e2 := rowT_last (T := tabT rows) (n := xs.length) (k := ys.length)
    have n0 := ne_intv (tabT rows 0 0) 0
    have nc := ne_intv (tabT rows xs.length ys.length) c
    clear c0 c1 items hm t0 r0 hT hsh hdef
    generalize hrepm : mRepN (mCons (mVar 5) (mPure [])) (mBin addD (mCall1 lenD (mPeek 0)) (mPure (.int 1))) = mrep at *
    have hmt := hmt mrep rfl
    generalize riseL u l m xs ys (tabT rows) = rl at *
    generalize PyData.list ((rows.map (fun r => ((r.length : Nat) : Int))).map PyData.int) = LA at *
    generalize PyData.list (((List.range (xs.length + 1)).map fun _ => ((ys.length + 1 : Nat) : Int)).map PyData.int) = LB at *
    generalize PyData.list (rows.map fun _ => PyData.bool true) = BL at *
    generalize PyData.tuple (rowT (tabT rows) 0 (ys.length + 1)) = RT0 at *
    generalize PyData.tuple (rowT (tabT rows) xs.length (ys.length + 1)) = RT1 at *
    generalize tabD_ (tabT rows) xs.length ys.length = TB at *
    generalize tabT rows 0 0 = T0 at *
    generalize tabT rows xs.length ys.length = TL at *
    generalize sqI false xs = O at *
    generalize sqI false ys = P at *
    generalize cD u l m = CD at *
    generalize ((ys.length + 1 : Nat) : Int) = K at *
    unfold fn__law_table_right runV
    rw [hmt]
    rw [show env0 10 [O, P, TB, .int c, CD] = [.val O, .val P, .val TB, .val (.int c), .val CD, .un, .un, .un, .un, .un] from rfl]
    rw [seq_nx (ρ' := [.val O, .val P, .val TB, .val (.int c), .val CD, .val (.int K), .un, .un, .un, .un]) (by simp [mAsg, mBin, mCall1, mStore, mDone, mBind, mPure, mPeek, mLift, l2, a2])]
    rw [seq_nx (ρ' := [.val O, .val P, .val TB, .val (.int c), .val CD, .val (.int K), .un, .un, .un, .un]) (by simp [mIf, mOrT, mNotT, mTru, mIsi, mCall1, mBind, mPure, mPeek, mLift, tt, tb, v0, al])]
    rw [seq_nx (ρ' := [.val O, .val P, .val TB, .val (.int c), .val CD, .val (.int K), .un, .un, .un, .un]) (by simp [mIf, mBol, bolD, mBin, mBind, mPure, mLift, hne, v1, vR])]
    by_cases z : T0 = 0
    · rw [decide_eq_true z] at n0 ⊢
      by_cases y : TL = c
      · rw [decide_eq_true y] at nc ⊢
        rw [seq_nx (ρ' := [.val O, .val P, .val TB, .val (.int c), .val CD, .val (.int K), .un, .un, .un, .un]) (by simp [mIf, mOrT, mBol, bolD, mBin, mBinL, mUn, mBind, mPure, mPeek, mLift, t0', r0', e1, e2, n0, nc, ng])]
        cases rl with
        | true => rw [seq_nx (by exact sR2)]; rfl
        | false => unfold mSeq; rw [bind_is sR2]; rfl
      · rw [decide_eq_false y] at nc ⊢
        simp [mSeq, mIf, mOrT, mBol, bolD, mBin, mBinL, mUn, mRet, mBind, mPure, mPeek, mLift, t0', r0', e1, e2, n0, nc, ng]
    · rw [decide_eq_false z] at n0 ⊢
      simp [mSeq, mIf, mOrT, mBol, bolD, mBin, mBinL, mRet, mBind, mPure, mPeek, mLift, t0', r0', n0]
theorem dueO {c : Int} {ss : List (Str × List Int)} {rows : List (List Int)} (h1 : xs.length ≤ 900) (h2 : ys.length ≤ 900) (hs : ∀ p ∈ ss, StOk p) (k2 : rows.length ≤ 10000) (k3 : ∀ r ∈ rows, r.length ≤ 10000) :
    fn__law_due [sqI false xs, sqI false ys, oddD c ss rows, cD u l m] = some (.ok (.bool (dueB u l m xs ys c ss rows))) := by
  have hc := lcostO (u := u) (l := l) (m := m) (xs := xs) (ys := ys) (by omega) (by omega) hs
  have ht := table_rightO (u := u) (l := l) (m := m) (xs := xs) (ys := ys) (c := c) h1 h2 k2 k3
  have hb : dueB u l m xs ys c ss rows = (decide (costO u l m xs ys ss = some c) && lawTable u l m xs ys c rows) := by
    unfold dueB costO lawTable tableB
    rw [rise_eq]
    have bb : ∀ b1 b2 b3 b4 : Bool, ((b1 && (b2 && b4)) && b3) = (b1 && ((b2 && b3) && b4)) := by decide
    rw [bb]
    cases walkG xs ys u l m 0 0 0 ss with
    | none =>
      have : decide ((none : Option Int) = some c) = false := decide_eq_false fun z => by cases z
      dsimp only
      rw [this]
    | some r =>
      dsimp only
      by_cases q : r.1 = xs.length ∧ r.2.1 = ys.length
      · have : decide ((if r.1 = xs.length ∧ r.2.1 = ys.length then some r.2.2 else none) = some c) = decide (r.2.2 = c) := decide_eq_decide.mpr (by rw [if_pos q]; exact ⟨fun z => Option.some.inj z, fun z => by rw [z]⟩)
        rw [this, decide_eq_true q.1, decide_eq_true q.2, Bool.true_and, Bool.true_and]
      · have : decide ((if r.1 = xs.length ∧ r.2.1 = ys.length then some r.2.2 else none) = some c) = false := decide_eq_false (by rw [if_neg q]; exact fun z => by cases z)
        have h2 : (decide (r.1 = xs.length) && decide (r.2.1 = ys.length)) = false := by
          rw [← Bool.decide_and]
          exact decide_eq_false q
        rw [this, h2, Bool.false_and]
  rw [hb]
  have he : eqD (optD (costO u l m xs ys ss)) (.int c) = some (.bool (decide (costO u l m xs ys ss = some c))) := by
    cases costO u l m xs ys ss with
    | none =>
      show eqD .none (.int c) = _
      rw [eq_sh Sh.none (Sh.int c) (by omega) (by omega)]
      simp [PyData.eqv]
    | some d =>
      show eqD (.int d) (.int c) = _
      rw [eq_int]
      congr 2
      exact decide_eq_decide.mpr ⟨fun z => by rw [z], fun z => Option.some.inj z⟩
  unfold oddD
  have gt : ∀ ρ, gTupD 3 (gCons2 (mStore 4) (gCons2 (mStore 5) (gCons2 (mStore 6) gsNil))) (.tuple [.int c, .tuple (ss.map stD), rowsD rows]) ρ = (gCons2 (mStore 4) (gCons2 (mStore 5) (gCons2 (mStore 6) gsNil))) [.int c, .tuple (ss.map stD), rowsD rows] ρ := fun _ => rfl
  have tb : truD (.bool true) = some true := rfl
  have tf : truD (.bool false) = some false := rfl
  generalize decide (costO u l m xs ys ss = some c) = b1 at *
  generalize optD (costO u l m xs ys ss) = CO at *
  generalize lawTable u l m xs ys c rows = b2 at *
  generalize PyData.tuple (ss.map stD) = SS at *
  generalize rowsD rows = TB at *
  generalize PyData.tuple [.int c, SS, TB] = S at *
  generalize sqI false xs = O at *
  generalize sqI false ys = P at *
  generalize cD u l m = CD at *
  unfold fn__law_due runV m__law_due
  rw [show env0 7 [O, P, S, CD] = [.val O, .val P, .val S, .val CD, .un, .un, .un] from rfl]
  rw [seq_nx (ρ' := [.val O, .val P, .val S, .val CD, .val (.int c), .val SS, .val TB]) (by simp [mAsg, mVar, mBind, mPure, gt, gCons2, gsNil, mStore, mDone])]
  cases b1 with
  | true => simp [mRet, mAnd, mBin, mCallV, mRs, mCons, mVar, mBind, mPure, mPeek, mLift, hc, he, ht, tb]
  | false => simp [mRet, mAnd, mBin, mCallV, mRs, mCons, mVar, mBind, mPure, mPeek, mLift, hc, he, tf]
end

/-! ### tuples of things, cut and put together -/
theorem t_take {α : Type} (f : α → D) (L : List α) (a : Nat) : slD (.tuple (L.map f)) none (some (a : Nat)) = some (.tuple ((L.take a).map f)) := by
  show some (PyData.tuple (cutL (L.map f) none (some (a : Nat)))) = _
  rw [cut_take, List.map_take]
theorem t_drop {α : Type} (f : α → D) (L : List α) (a : Nat) : slD (.tuple (L.map f)) (some (a : Nat)) none = some (.tuple ((L.drop a).map f)) := by
  show some (PyData.tuple (cutL (L.map f) (some (a : Nat)) none)) = _
  rw [cut_drop, List.map_drop]
theorem t_add {α : Type} (f : α → D) (A B : List α) (h : A.length + B.length ≤ 100000) : addA (.tuple (A.map f)) (.tuple (B.map f)) = some (.tuple ((A ++ B).map f)) := by
  have fa : fit ((A.map f).length + (B.map f).length) = true := fit_of2 (by rw [List.length_map, List.length_map]; omega)
  rw [List.map_append]
  generalize A.map f = X at *
  generalize B.map f = Y at *
  simp [addA, oOr, iI, catL, catA, fa]
theorem t_ix {α : Type} (f : α → D) {L : List α} {i : Nat} {x : α} (h : L[i]? = some x) : ixD (.tuple (L.map f)) (.int (i : Nat)) = some (f x) :=
  atI_nat' (by omega) (by rw [Int.toNat_natCast, List.getElem?_map, h]; rfl)
theorem t_len {α : Type} (f : α → D) {L : List α} (h : L.length ≤ 100000) : lenD [.tuple (L.map f)] = some (.int (L.length : Nat)) := by
  have fa : fit (L.map f).length = true := fit_of2 (by rw [List.length_map]; omega)
  have e : (L.map f).length = L.length := List.length_map _
  generalize L.map f = X at *
  rw [← e]
  simp [lenD, fa]
theorem addA1 (n : Nat) : addA (.int (n : Nat)) (.int 1) = some (.int ((n + 1 : Nat) : Int)) := by
  show some (PyData.int ((n : Int) + 1)) = _
  rw [show (n : Int) + 1 = ((n + 1 : Nat) : Int) by omega]
theorem ixN_nat {n i : Nat} (h : i < n) : ixN n (i : Int) = some i := by
  unfold ixN
  simp
  omega
/-- things of the form of what held tells, with no more than so many parts -/
structure Oc (n : Nat) (ss : List (Str × List Int)) (rows : List (List Int)) : Prop where
  st : ∀ p ∈ ss, StOk p
  l1 : ss.length ≤ n
  l2 : rows.length ≤ n
  l3 : ∀ r ∈ rows, r.length ≤ n
theorem mem_tk {α : Type} {P : α → Prop} {L : List α} {a : Nat} (h : ∀ x ∈ L, P x) : ∀ x ∈ L.take a, P x := fun x hx => h x (List.mem_of_mem_take hx)
theorem mem_dr {α : Type} {P : α → Prop} {L : List α} {a : Nat} (h : ∀ x ∈ L, P x) : ∀ x ∈ L.drop a, P x := fun x hx => h x (List.mem_of_mem_drop hx)
theorem mem_ap {α : Type} {P : α → Prop} {A B : List α} (h1 : ∀ x ∈ A, P x) (h2 : ∀ x ∈ B, P x) : ∀ x ∈ A ++ B, P x := fun x hx => (List.mem_append.mp hx).elim (h1 x) (h2 x)
theorem mem_1 {α : Type} {P : α → Prop} {a : α} (h : P a) : ∀ x ∈ [a], P x := fun x hx => by rw [List.mem_singleton.mp hx]; exact h
/-! ### steps otherwise -/
section
def OS (bs : List D) (ss : List (Str × List Int)) (f : Int) (a : Nat) (a4 a5 a6 a7 a8 : Sl) : En := [.io bs, .val (.tuple (ss.map stD)), .val (.int f), .val (.int (a : Nat)), a4, a5, a6, a7, a8]
def RtB (m : M Fl) (ρ : En) (d : D) (bs : List D) : Prop := ∃ r, m ρ = some (.ok (.rt d) (.io bs :: r))
theorem RtB.nx {m1 m2 : M Fl} {ρ ρ1 : En} {d : D} {bs : List D} (h : m1 ρ = some (.ok .nx ρ1)) (k : RtB m2 ρ1 d bs) : RtB (mSeq m1 m2) ρ d bs := by
  obtain ⟨r, e⟩ := k
  exact ⟨r, (seq_nx h).trans e⟩
theorem RtB.if_f {c : M Bool} {a m : M Fl} {ρ ρ1 : En} {d : D} {bs : List D} (h : c ρ = some (.ok false ρ1)) (k : RtB m ρ1 d bs) : RtB (mSeq (mIf c a (mPure .nx)) m) ρ d bs :=
  RtB.nx (ρ1 := ρ1) (by unfold mIf; rw [bind_is h]; rfl) k
theorem RtB.if_r {c : M Bool} {a b m : M Fl} {ρ ρ1 : En} {d : D} {bs : List D} (h : c ρ = some (.ok true ρ1)) (k : RtB a ρ1 d bs) : RtB (mSeq (mIf c a b) m) ρ d bs := by
  obtain ⟨r, e⟩ := k
  refine ⟨r, ?_⟩
  have : mIf c a b ρ = some (.ok (.rt d) (.io bs :: r)) := by unfold mIf; rw [bind_is h]; exact e
  exact bind_is this
theorem RtB.ret {m : M D} {ρ r : En} {d : D} {bs : List D} (h : m ρ = some (.ok d (.io bs :: r))) : RtB (mRet m) ρ d bs := ⟨r, by unfold mRet; rw [bind_is h]; rfl⟩
theorem RtB.fnB {m : M Fl} {n : Nat} {bs0 bs ds : List D} {d : D} (h : RtB m (env0B n bs0 ds) d bs) : runB m n bs0 ds = some (.ok d, bs) := by
  obtain ⟨r, e⟩ := h
  unfold runB
  rw [e]
variable {bs : List D} {ss : List (Str × List Int)} {f : Int} {a : Nat} {a4 a5 a6 a7 a8 : Sl}
theorem eq2 {k : Int} : mBol (mBinL eqD 2 (mPure (.int k))) (OS bs ss f a a4 a5 a6 a7 a8) = some (.ok (decide (f = k)) (OS bs ss f a a4 a5 a6 a7 a8)) := by
  have e := eq_int f k
  unfold OS
  generalize PyData.tuple (ss.map stD) = S
  simp [mBol, bolD, mBinL, mBind, mPure, mPeek, mLift, e]
/-- the parts of a changed row -/
theorem os_front : mSlL 1 mNoPart (mPart (mVar 3)) (OS bs ss f a a4 a5 a6 a7 a8) = some (.ok (.tuple ((ss.take a).map stD)) (OS bs ss f a a4 a5 a6 a7 a8)) := by
  have h := t_take stD ss a
  unfold OS
  generalize PyData.tuple (ss.map stD) = S at *
  simp [mSlL, mNoPart, mPart, intO, mVar, mBind, mPure, mPeek, mLift, h]
theorem os_back : mSlL 1 (mPart (mVar 3)) mNoPart (OS bs ss f a a4 a5 a6 a7 a8) = some (.ok (.tuple ((ss.drop a).map stD)) (OS bs ss f a a4 a5 a6 a7 a8)) := by
  have h := t_drop stD ss a
  unfold OS
  generalize PyData.tuple (ss.map stD) = S at *
  simp [mSlL, mNoPart, mPart, intO, mVar, mBind, mPure, mPeek, mLift, h]
theorem os_back1 : mSlL 1 (mPart (mBinL addA 3 (mPure (.int 1)))) mNoPart (OS bs ss f a a4 a5 a6 a7 a8) = some (.ok (.tuple ((ss.drop (a + 1)).map stD)) (OS bs ss f a a4 a5 a6 a7 a8)) := by
  have h := t_drop stD ss (a + 1)
  have ad := addA1 a
  unfold OS
  generalize PyData.tuple (ss.map stD) = S at *
  generalize ((a + 1 : Nat) : Int) = A1 at *
  simp [mSlL, mNoPart, mPart, intO, mBinL, mVar, mBind, mPure, mPeek, mLift, ad, h]
theorem bin_is {g : D → D → Option D} {ma mb : M D} {x y z : D} {ρ ρ1 ρ2 : En} (ha : ma ρ = some (.ok x ρ1)) (hb : mb ρ1 = some (.ok y ρ2)) (hz : g x y = some z) : mBin g ma mb ρ = some (.ok z ρ2) := by
  unfold mBin
  rw [bind_is ha, bind_is hb, hz]; rfl
theorem tup1_is {ma : M D} {x : D} {ρ ρ1 : En} (ha : ma ρ = some (.ok x ρ1)) : mTup (mCons ma (mPure [])) ρ = some (.ok (.tuple [x]) ρ1) := by
  have f1 : fit 1 = true := rfl
  simp [mTup, mCons, mBind, mPure, mLift, ha, f1]
end

section
variable {bs : List D} {ss : List (Str × List Int)}
/-- the six steps that may come behind -/
theorem extra_at {r : Int} (h0 : 0 ≤ r) (h1 : r < 6) : ∃ p, StOk p ∧ ixD (.list [.tuple [.str "lack", .int 0], .tuple [.str "more", .int 0], .tuple [.str "same", .int 0, .int 0], .tuple [.str "unlike", .int 0, .int 0], .tuple [.str "lack", .int 0, .int 0], .tuple [.str "same", .int 0]]) (.int r) = some (stD p) := by
  have : r = 0 ∨ r = 1 ∨ r = 2 ∨ r = 3 ∨ r = 4 ∨ r = 5 := by omega
  rcases this with rfl | rfl | rfl | rfl | rfl | rfl
  · exact ⟨("lack", [0]), ⟨strOk_of _, Nat.le_refl 1, by decide⟩, rfl⟩
  · exact ⟨("more", [0]), ⟨strOk_of _, Nat.le_refl 1, by decide⟩, rfl⟩
  · exact ⟨("same", [0, 0]), ⟨strOk_of _, by decide, Nat.le_refl 2⟩, rfl⟩
  · exact ⟨("unlike", [0, 0]), ⟨strOk_of _, by decide, Nat.le_refl 2⟩, rfl⟩
  · exact ⟨("lack", [0, 0]), ⟨strOk_of _, by decide, Nat.le_refl 2⟩, rfl⟩
  · exact ⟨("same", [0]), ⟨strOk_of _, Nat.le_refl 1, by decide⟩, rfl⟩
theorem words_at {r : Int} (h0 : 0 ≤ r) (h1 : r < 6) : ∃ w, PyData.strOk w = true ∧ ixD (.list [.str "same", .str "unlike", .str "lack", .str "more", .str "", .str "miss"]) (.int r) = some (.str w) := by
  have : r = 0 ∨ r = 1 ∨ r = 2 ∨ r = 3 ∨ r = 4 ∨ r = 5 := by omega
  rcases this with rfl | rfl | rfl | rfl | rfl | rfl
  · exact ⟨"same", strOk_of _, rfl⟩
  · exact ⟨"unlike", strOk_of _, rfl⟩
  · exact ⟨"lack", strOk_of _, rfl⟩
  · exact ⟨"more", strOk_of _, rfl⟩
  · exact ⟨"", strOk_of _, rfl⟩
  · exact ⟨"miss", strOk_of _, rfl⟩
theorem os_put {f : Int} {a : Nat} {a4 a5 a6 a8 : Sl} {S : List D} {p : Str × List Int} (hS : S = .str p.1 :: p.2.map PyData.int) (hp : p.2.length ≤ 2) (hl : ss.length ≤ 1000) :
    RtB (mRet (mBin addA (mBin addA (mSlL 1 mNoPart (mPart (mVar 3))) (mTup (mCons (mCall1 tupleD (mPeek 7)) (mPure [])))) (mSlL 1 (mPart (mBinL addA 3 (mPure (.int 1)))) mNoPart))) (OS bs ss f a a4 a5 a6 (.own S) a8) (.tuple ((ss.take a ++ [p] ++ ss.drop (a + 1)).map stD)) bs := by
  have tp : mTup (mCons (mCall1 tupleD (mPeek 7)) (mPure [])) (OS bs ss f a a4 a5 a6 (.own S) a8) = some (.ok (.tuple ([p].map stD)) (OS bs ss f a a4 a5 a6 (.own S) a8)) := by
    refine tup1_is ?_
    have fS : fit S.length = true := fit_of2 (by rw [hS, List.length_cons, List.length_map]; omega)
    have ht : tupleD [.list S] = some (stD p) := by
      show _ = some (PyData.tuple (.str p.1 :: p.2.map PyData.int))
      rw [← hS]
      simp [tupleD, fS]
    unfold OS
    generalize PyData.tuple (ss.map stD) = SS
    generalize stD p = P at *
    simp [mCall1, mBind, mPure, mPeek, mLift, ht]
  have l1 : (ss.take a).length ≤ 1000 := by rw [List.length_take]; omega
  have l2 : (ss.drop (a + 1)).length ≤ 1000 := by rw [List.length_drop]; omega
  refine RtB.ret (r := [.val (.tuple (ss.map stD)), .val (.int f), .val (.int (a : Nat)), a4, a5, a6, .own S, a8]) ?_
  exact bin_is (bin_is os_front tp (t_add stD _ _ (by rw [List.length_singleton]; omega))) os_back1 (t_add stD _ _ (by rw [List.length_append, List.length_singleton]; omega))
theorem odd_steps_ok {n : Nat} {rows : List (List Int)} (hb : Bx bs) (h : Oc n ss rows) (hn : n ≤ 900) : ∃ ss' bs', Oc (n + 1) ss' rows ∧ Bx bs' ∧ fn__law_odd_steps bs [.tuple (ss.map stD)] = some (.ok (.tuple (ss'.map stD)), bs') := by
  have hl := h.l1
  have mk : ∀ {ss' : List (Str × List Int)}, (∀ p ∈ ss', StOk p) → ss'.length ≤ n + 1 → Oc (n + 1) ss' rows := fun h1 h2 => ⟨h1, h2, Nat.le_succ_of_le h.l2, fun r hr => Nat.le_succ_of_le (h.l3 r hr)⟩
  obtain ⟨f, b1, ht, f0, f1, hb1⟩ := take_ok (m := 6) hb (by omega) (by omega)
  have hmx : max2D [.int 1, .int (ss.length : Nat)] = some (.int (if (1 : Int) < (ss.length : Int) then (ss.length : Int) else 1)) := rfl
  obtain ⟨mx, hmx, m1, m2, m3⟩ : ∃ mx : Int, max2D [.int 1, .int (ss.length : Nat)] = some (.int mx) ∧ 0 < mx ∧ mx ≤ 1000 ∧ (ss.length ≠ 0 → mx = ss.length) := ⟨_, hmx, by split <;> omega, by split <;> omega, fun _ => by split <;> omega⟩
  obtain ⟨ai, b2, ht2, a0, a1, hb2⟩ := take_ok (m := mx) hb1 m1 (by omega)
  obtain ⟨a, rfl⟩ : ∃ a : Nat, ai = a := ⟨ai.toNat, by omega⟩
  have ln := t_len stD (L := ss) (by omega)
  have s1 : mParEE 2 3 (mCallB 0 2 fn__law_take (mCons (mPure (.int 6)) (mPure []))) (mCallB 0 2 fn__law_take (mCons (mCallN max2D (mCons (mPure (.int 1)) (mCons (mCall1 lenD (mPeek 1)) (mPure [])))) (mPure []))) [.io bs, .val (.tuple (ss.map stD)), .un, .un, .un, .un, .un, .un, .un] = some (.ok .nx (OS b2 ss f a .un .un .un .un .un)) := by
    unfold OS
    generalize PyData.tuple (ss.map stD) = S at *
    generalize ((ss.length : Nat) : Int) = N at *
    generalize max2D = mm at *
    simp [mParEE, mCallB, mCallN, mCall1, mOwn, mPut, mRs, mCons, mStore, mDone, mBind, mPure, mPeek, mLift, ht, ht2, ln, hmx]
  have el := eq_int (ss.length : Int) 0
  have ef := eq_int f 0
  have main : ∃ ss' bs', Oc (n + 1) ss' rows ∧ Bx bs' ∧ RtB m__law_odd_steps (env0B 9 bs [.tuple (ss.map stD)]) (.tuple (ss'.map stD)) bs' := by
    by_cases q0 : ss.length = 0 ∨ f = 0
    · obtain ⟨r, b3, ht3, r0, r1, hb3⟩ := take_ok (m := 6) hb2 (by omega) (by omega)
      obtain ⟨p, hp, hx⟩ := extra_at r0 r1
      refine ⟨ss ++ [p], b3, mk (mem_ap h.st (mem_1 hp)) (by rw [List.length_append, List.length_singleton]; omega), hb3, ?_⟩
      have ha := t_add stD ss [p] (by rw [List.length_singleton]; omega)
      have hc : mOrT (mBol (mBin eqD (mCall1 lenD (mPeek 1)) (mPure (.int 0)))) ((mBol (mBinL eqD 2 (mPure (.int 0))))) (OS b2 ss f a .un .un .un .un .un) = some (.ok true (OS b2 ss f a .un .un .un .un .un)) := by
        unfold OS
        generalize PyData.tuple (ss.map stD) = S at *
        by_cases z : ss.length = 0
        · rw [decide_eq_true (by omega)] at el
          generalize ((ss.length : Nat) : Int) = N at *
          simp [mOrT, mBol, bolD, mBin, mCall1, mBind, mPure, mPeek, mLift, ln, el]
        · have zf : f = 0 := q0.resolve_left z
          rw [decide_eq_false (by omega)] at el
          rw [decide_eq_true zf] at ef
          generalize ((ss.length : Nat) : Int) = N at *
          simp [mOrT, mBol, bolD, mBin, mBinL, mCall1, mBind, mPure, mPeek, mLift, ln, el, ef]
      refine RtB.nx s1 (RtB.if_r hc ?_)
      have f2 : fit 2 = true := rfl
      have f3 : fit 3 = true := rfl
      have f6 : fit 6 = true := rfl
      refine RtB.nx (ρ1 := OS b2 ss f a (.own [.tuple [.str "lack", .int 0], .tuple [.str "more", .int 0], .tuple [.str "same", .int 0, .int 0], .tuple [.str "unlike", .int 0, .int 0], .tuple [.str "lack", .int 0, .int 0], .tuple [.str "same", .int 0]]) .un .un .un .un) (by unfold OS; generalize PyData.tuple (ss.map stD) = S at *; simp [mAsgN, mLstN, mTup, mCons, mStoreO, mDone, mBind, mPure, mLift, f2, f3, f6]) ?_
      generalize hLL : [PyData.tuple [.str "lack", .int 0], .tuple [.str "more", .int 0], .tuple [.str "same", .int 0, .int 0], .tuple [.str "unlike", .int 0, .int 0], .tuple [.str "lack", .int 0, .int 0], .tuple [.str "same", .int 0]] = LL at *
      refine RtB.ret (r := [.val (.tuple (ss.map stD)), .val (.int f), .val (.int (a : Nat)), .own LL, .un, .un, .un, .un]) ?_
      have tp : mTup (mCons (mBinL ixD 4 (mCallB 0 2 fn__law_take (mCons (mPure (.int 6)) (mPure [])))) (mPure [])) (OS b2 ss f a (.own LL) .un .un .un .un) = some (.ok (.tuple ([p].map stD)) (OS b3 ss f a (.own LL) .un .un .un .un)) := by
        refine tup1_is ?_
        unfold OS
        generalize PyData.tuple (ss.map stD) = S
        generalize stD p = P at *
        simp [mBinL, mCallB, mOwn, mPut, mRs, mCons, mBind, mPure, mPeek, mLift, ht3, hx]
      unfold OS at tp ⊢
      generalize hS2 : PyData.tuple ((ss ++ [p]).map stD) = S2 at *
      generalize PyData.tuple (ss.map stD) = S at *
      generalize PyData.tuple ([p].map stD) = P1 at *
      generalize mTup (mCons (mBinL ixD 4 (mCallB 0 2 fn__law_take (mCons (mPure (.int 6)) (mPure [])))) (mPure [])) = mt at *
      simp [mBinL, mBind, mPeek, mLift, tp, ha]
    · have z1 : ss.length ≠ 0 := fun z => q0 (.inl z)
      have z2 : f ≠ 0 := fun z => q0 (.inr z)
      have ham : a < ss.length := by have := m3 z1; omega
      have xa : ss[a]? = some ss[a] := List.getElem?_eq_getElem ham
      have hpa : StOk ss[a] := h.st _ (List.getElem_mem _)
      have l1 : (ss.take a).length ≤ 900 := by rw [List.length_take]; omega
      have l2 : (ss.drop a).length ≤ 900 := by rw [List.length_drop]; omega
      have l3 : (ss.drop (a + 1)).length ≤ 900 := by rw [List.length_drop]; omega
      have hc : mOrT (mBol (mBin eqD (mCall1 lenD (mPeek 1)) (mPure (.int 0)))) ((mBol (mBinL eqD 2 (mPure (.int 0))))) (OS b2 ss f a .un .un .un .un .un) = some (.ok false (OS b2 ss f a .un .un .un .un .un)) := by
        rw [decide_eq_false (by omega)] at el
        rw [decide_eq_false z2] at ef
        unfold OS
        generalize PyData.tuple (ss.map stD) = S at *
        generalize ((ss.length : Nat) : Int) = N at *
        simp [mOrT, mBol, bolD, mBin, mBinL, mCall1, mBind, mPure, mPeek, mLift, ln, el, ef]
      have e1 := eq2 (bs := b2) (ss := ss) (f := f) (a := a) (a4 := .un) (a5 := .un) (a6 := .un) (a7 := .un) (a8 := .un) (k := 1)
      have e2 := eq2 (bs := b2) (ss := ss) (f := f) (a := a) (a4 := .un) (a5 := .un) (a6 := .un) (a7 := .un) (a8 := .un) (k := 2)
      have e3 := eq2 (bs := b2) (ss := ss) (f := f) (a := a) (a4 := .un) (a5 := .un) (a6 := .un) (a7 := .un) (a8 := .un) (k := 3)
      by_cases y1 : f = 1
      · rw [decide_eq_true y1] at e1
        refine ⟨ss.take a ++ ss.drop (a + 1), b2, mk (mem_ap (mem_tk h.st) (mem_dr h.st)) (by rw [List.length_append, List.length_take, List.length_drop]; omega), hb2, ?_⟩
        refine RtB.nx s1 (RtB.if_f hc (RtB.if_r e1 ?_))
        exact RtB.ret (r := [.val (.tuple (ss.map stD)), .val (.int f), .val (.int (a : Nat)), .un, .un, .un, .un, .un]) (bin_is os_front os_back1 (t_add stD _ _ (by omega)))
      rw [decide_eq_false y1] at e1
      by_cases y2 : f = 2
      · rw [decide_eq_true y2] at e2
        refine ⟨ss.take a ++ [ss[a]] ++ ss.drop a, b2, mk (mem_ap (mem_ap (mem_tk h.st) (mem_1 hpa)) (mem_dr h.st)) (by rw [List.length_append, List.length_append, List.length_singleton, List.length_take, List.length_drop]; omega), hb2, ?_⟩
        refine RtB.nx s1 (RtB.if_f hc (RtB.if_f e1 (RtB.if_r e2 ?_)))
        have hx := t_ix stD xa
        have tp : mTup (mCons (mBinL ixD 1 (mPeek 3)) (mPure [])) (OS b2 ss f a .un .un .un .un .un) = some (.ok (.tuple ([ss[a]].map stD)) (OS b2 ss f a .un .un .un .un .un)) := by
          refine tup1_is ?_
          unfold OS
          generalize PyData.tuple (ss.map stD) = S at *
          generalize stD ss[a] = P at *
          simp [mBinL, mBind, mPure, mPeek, mLift, hx]
        exact RtB.ret (r := [.val (.tuple (ss.map stD)), .val (.int f), .val (.int (a : Nat)), .un, .un, .un, .un, .un]) (bin_is (bin_is os_front tp (t_add stD _ _ (by rw [List.length_singleton]; omega))) os_back (t_add stD _ _ (by rw [List.length_append, List.length_singleton]; omega)))
      rw [decide_eq_false y2] at e2
      by_cases y3 : f = 3
      · rw [decide_eq_true y3] at e3
        obtain ⟨oi, b3, ht3, o0, o1, hb3⟩ := take_ok (m := (ss.length : Nat)) hb2 (by omega) (by omega)
        obtain ⟨o, rfl⟩ : ∃ o : Nat, oi = o := ⟨oi.toNat, by omega⟩
        have hom : o < ss.length := by omega
        have xo : ss[o]? = some ss[o] := List.getElem?_eq_getElem hom
        have mem_set : ∀ {L : List (Str × List Int)} {i : Nat} {p : Str × List Int}, (∀ x ∈ L, StOk x) → StOk p → ∀ x ∈ L.set i p, StOk x := fun hL hp x hx => (List.mem_or_eq_of_mem_set hx).elim (hL x) (fun e => e ▸ hp)
        refine ⟨(ss.set a ss[o]).set o ss[a], b3, mk (mem_set (mem_set h.st (h.st _ (List.getElem_mem _))) hpa) (by rw [List.length_set, List.length_set]; omega), hb3, ?_⟩
        refine RtB.nx s1 (RtB.if_f hc (RtB.if_f e1 (RtB.if_f e2 (RtB.if_r e3 ?_))))
        have hxa := t_ix stD xa
        have hxo := t_ix stD xo
        have f2 : fit 2 = true := rfl
        have fS : fit (ss.map stD).length = true := fit_of2 (by rw [List.length_map]; omega)
        have st1 : setD (ss.map stD) (.int (a : Nat)) (stD ss[o]) = some ((ss.set a ss[o]).map stD) := by
          show (ixN (ss.map stD).length (a : Int)).map _ = _
          rw [List.length_map, ixN_nat ham, Option.map_some, List.map_set]
        have st2 : setD ((ss.set a ss[o]).map stD) (.int (o : Nat)) (stD ss[a]) = some (((ss.set a ss[o]).set o ss[a]).map stD) := by
          show (ixN ((ss.set a ss[o]).map stD).length (o : Int)).map _ = _
          rw [List.length_map, List.length_set, ixN_nat hom, Option.map_some, ← List.map_set]
        have f4 : fit (((ss.set a ss[o]).set o ss[a]).map stD).length = true := fit_of2 (by rw [List.length_map, List.length_set, List.length_set]; omega)
        generalize ((ss.set a ss[o]).set o ss[a]).map stD = M2 at *
        generalize (ss.set a ss[o]).map stD = M1 at *
        unfold OS
        generalize stD ss[a] = Pa at *
        generalize stD ss[o] = Po at *
        generalize ss.map stD = M0 at *
        generalize ((ss.length : Nat) : Int) = N at *
        have ll : listD [.tuple M0] = some M0 := by simp [listD, fS]
        generalize hT0 : PyData.tuple M0 = T0 at *
        refine RtB.nx (ρ1 := [.io b3, .val T0, .val (.int f), .val (.int (a : Nat)), .un, .val (.int (o : Nat)), .un, .un, .un]) (by simp [mAsg, mStore, mDone, mCallB, mCall1, mOwn, mPut, mRs, mCons, mBind, mPure, mPeek, mLift, ln, ht3]) ?_
        refine RtB.nx (ρ1 := [.io b3, .val T0, .val (.int f), .val (.int (a : Nat)), .un, .val (.int (o : Nat)), .own M0, .un, .un]) (by simp [mAsgN, mCallN1, mStoreO, mDone, mBind, mPure, mPeek, mLift, ll]) ?_
        refine RtB.nx (ρ1 := [.io b3, .val T0, .val (.int f), .val (.int (a : Nat)), .un, .val (.int (o : Nat)), .own M2, .un, .un]) (by simp [mAsg, mTup, mBinL, mCons, mVar, gTupD, gCons2, gsNil, gSet, mOwn, mPut, mDone, mBind, mPure, mPeek, mLift, hxa, hxo, f2, st1, st2]) ?_
        exact RtB.ret (r := [.val T0, .val (.int f), .val (.int (a : Nat)), .un, .val (.int (o : Nat)), .own M2, .un, .un]) (by simp [mCall1, tupleD, mBind, mPure, mPeek, mLift, f4])
      rw [decide_eq_false y3] at e3
      -- one step otherwise
      have hxa := t_ix stD xa
      have s7 : mAsgN (mCallN1 listD (mBinL ixD 1 (mPeek 3))) 7 (OS b2 ss f a .un .un .un .un .un) = some (.ok .nx (OS b2 ss f a .un .un .un (.own (.str ss[a].1 :: ss[a].2.map PyData.int)) .un)) := by
        have hpl := hpa.l2
        have fS : fit (PyData.str ss[a].1 :: ss[a].2.map PyData.int).length = true := fit_of2 (by rw [List.length_cons, List.length_map]; omega)
        have ll : listD [stD ss[a]] = some (.str ss[a].1 :: ss[a].2.map PyData.int) := by
          unfold stD
          generalize (PyData.str ss[a].1 :: ss[a].2.map PyData.int) = M at *
          simp [listD, fS]
        unfold OS
        generalize stD ss[a] = P at *
        generalize (PyData.str ss[a].1 :: ss[a].2.map PyData.int) = M at *
        generalize PyData.tuple (ss.map stD) = S at *
        simp [mAsgN, mCallN1, mBinL, mStoreO, mDone, mBind, mPure, mPeek, mLift, hxa, ll]
      have fin : ∃ p b3 a8, StOk p ∧ Bx b3 ∧ (mIf (mBol (mBinL eqD 2 (mPure (.int 4)))) (mAsg (mBin ixD (mLst (mCons (mPure (.str "same")) (mCons (mPure (.str "unlike")) (mCons (mPure (.str "lack")) (mCons (mPure (.str "more")) (mCons (mPure (.str "")) (mCons (mPure (.str "miss")) (mPure [])))))))) (mCallB 0 2 fn__law_take (mCons (mPure (.int 6)) (mPure [])))) (gSet 7 (mPure (.int 0)))) (mSeq (mAsg (mBin addA (mPure (.int 1)) (mCallB 0 2 fn__law_take (mCons (mBin subD (mCall1 lenD (mPeek 7)) (mPure (.int 1))) (mPure [])))) (mStore 8))
          (mAsg (mBin addA (mBinL ixD 7 (mPeek 8)) (mBin ixD (mLst (mCons (mPure (.int 1)) (mCons (mBin subD (mPure (.int 0)) (mPure (.int 1))) (mCons (mPure (.int 2)) (mCons (mBin powD (mPure (.int 10)) (mPure (.int 30))) (mPure [])))))) (mCallB 0 2 fn__law_take (mCons (mPure (.int 4)) (mPure []))))) (gSet 7 (mVar 8))))) (OS b2 ss f a .un .un .un (.own (.str ss[a].1 :: ss[a].2.map PyData.int)) .un) = some (.ok .nx (OS b3 ss f a .un .un .un (.own (.str p.1 :: p.2.map PyData.int)) a8)) := by
        have hpl := hpa.l2
        have hpl1 := hpa.l1
        have e4 := eq2 (bs := b2) (ss := ss) (f := f) (a := a) (a4 := .un) (a5 := .un) (a6 := .un) (a7 := .own (.str ss[a].1 :: ss[a].2.map PyData.int)) (a8 := .un) (k := 4)
        by_cases y4 : f = 4
        · rw [decide_eq_true y4] at e4
          obtain ⟨r, b3, ht3, r0, r1, hb3⟩ := take_ok (m := 6) hb2 (by omega) (by omega)
          obtain ⟨w, hw, hx⟩ := words_at r0 r1
          refine ⟨(w, ss[a].2), b3, .un, ⟨hw, hpl1, hpl⟩, hb3, ?_⟩
          have f6 : fit 6 = true := rfl
          have sd : setD (.str ss[a].1 :: ss[a].2.map PyData.int) (.int 0) (.str w) = some (.str w :: ss[a].2.map PyData.int) := by
            show (ixN (PyData.str ss[a].1 :: ss[a].2.map PyData.int).length 0).map _ = _
            rw [show ixN (PyData.str ss[a].1 :: ss[a].2.map PyData.int).length 0 = some 0 from ixN_nat (i := 0) (by rw [List.length_cons]; omega)]; rfl
          unfold mIf
          rw [bind_is e4, if_pos rfl]
          show _ = some (R.ok Fl.nx (OS b3 ss f a .un .un .un (.own (.str w :: ss[a].2.map PyData.int)) .un))
          clear e4 s7
          generalize hLL : PyData.list [.str "same", .str "unlike", .str "lack", .str "more", .str "", .str "miss"] = LL at *
          unfold OS
          generalize (PyData.str ss[a].1 :: ss[a].2.map PyData.int) = M at *
          generalize (PyData.str w :: ss[a].2.map PyData.int) = M' at *
          generalize PyData.tuple (ss.map stD) = S at *
          simp [mAsg, mBin, mLst, mCallB, mOwn, mPut, mRs, mCons, gSet, mDone, mBind, mPure, mPeek, mLift, f6, hLL, ht3, hx, sd]
        · rw [decide_eq_false y4] at e4
          obtain ⟨ri, b3, ht3, r0, r1, hb3⟩ := take_ok (m := (ss[a].2.length : Nat)) hb2 (by omega) (by omega)
          obtain ⟨r, rfl⟩ : ∃ r : Nat, ri = r := ⟨ri.toNat, by omega⟩
          obtain ⟨q, b4, ht4, q0, q1, hb4⟩ := take_ok (m := 4) hb3 (by omega) (by omega)
          obtain ⟨pw, hpw⟩ : ∃ v : Int, powD (.int 10) (.int 30) = some (.int v) := ⟨_, rfl⟩
          obtain ⟨dl, hdl⟩ : ∃ v : Int, ixD (.list [PyData.int 1, .int (-1), .int 2, .int pw]) (.int q) = some (.int v) := by
            have : q = 0 ∨ q = 1 ∨ q = 2 ∨ q = 3 := by omega
            rcases this with rfl | rfl | rfl | rfl
            · exact ⟨1, rfl⟩
            · exact ⟨-1, rfl⟩
            · exact ⟨2, rfl⟩
            · exact ⟨pw, rfl⟩
          have hr : r < ss[a].2.length := by omega
          have xr : ss[a].2[r]? = some ss[a].2[r] := List.getElem?_eq_getElem hr
          refine ⟨(ss[a].1, ss[a].2.set r (ss[a].2[r] + dl)), b4, .val (.int ((1 + r : Nat) : Int)), ⟨hpa.k, by rw [List.length_set]; exact hpl1, by rw [List.length_set]; exact hpl⟩, hb4, ?_⟩
          have f4 : fit 4 = true := rfl
          have lM : lenD [.list (.str ss[a].1 :: ss[a].2.map PyData.int)] = some (.int ((ss[a].2.length + 1 : Nat) : Int)) := by
            have f : fit (PyData.str ss[a].1 :: ss[a].2.map PyData.int).length = true := fit_of2 (by rw [List.length_cons, List.length_map]; omega)
            have e : (PyData.str ss[a].1 :: ss[a].2.map PyData.int).length = ss[a].2.length + 1 := by rw [List.length_cons, List.length_map]
            rw [← e]
            generalize (PyData.str ss[a].1 :: ss[a].2.map PyData.int) = M at *
            simp [lenD, f]
          have sb : subD (.int ((ss[a].2.length + 1 : Nat) : Int)) (.int 1) = some (.int (ss[a].2.length : Nat)) := by
            show some (PyData.int (((ss[a].2.length + 1 : Nat) : Int) - 1)) = _
            rw [show ((ss[a].2.length + 1 : Nat) : Int) - 1 = (ss[a].2.length : Int) by omega]
          have a1 : addA (.int 1) (.int (r : Nat)) = some (.int ((1 + r : Nat) : Int)) := by
            show some (PyData.int (1 + (r : Int))) = _
            rw [show 1 + (r : Int) = ((1 + r : Nat) : Int) by omega]
          have xM : ixD (.list (.str ss[a].1 :: ss[a].2.map PyData.int)) (.int ((1 + r : Nat) : Int)) = some (.int ss[a].2[r]) := by
            refine atI_nat' (by omega) ?_
            rw [Int.toNat_natCast, show 1 + r = r + 1 by omega, List.getElem?_cons_succ, List.getElem?_map, xr]; rfl
          have a2 : addA (.int ss[a].2[r]) (.int dl) = some (.int (ss[a].2[r] + dl)) := rfl
          have s1' : subD (.int 0) (.int 1) = some (.int (-1)) := rfl
          have sd : setD (.str ss[a].1 :: ss[a].2.map PyData.int) (.int ((1 + r : Nat) : Int)) (.int (ss[a].2[r] + dl)) = some (.str ss[a].1 :: (ss[a].2.set r (ss[a].2[r] + dl)).map PyData.int) := by
            show (ixN (PyData.str ss[a].1 :: ss[a].2.map PyData.int).length ((1 + r : Nat) : Int)).map _ = _
            rw [ixN_nat (by rw [List.length_cons, List.length_map]; omega), Option.map_some, show 1 + r = r + 1 by omega, List.set_cons_succ, List.map_set]
          unfold mIf
          rw [bind_is e4, if_neg Bool.false_ne_true]
          show _ = some (R.ok Fl.nx (OS b4 ss f a .un .un .un (.own (.str ss[a].1 :: (ss[a].2.set r (ss[a].2[r] + dl)).map PyData.int)) (.val (.int ((1 + r : Nat) : Int)))))
          clear e4 s7
          generalize hLL : PyData.list [PyData.int 1, .int (-1), .int 2, .int pw] = LL at *
          unfold OS
          generalize (PyData.str ss[a].1 :: (ss[a].2.set r (ss[a].2[r] + dl)).map PyData.int) = M' at *
          generalize (PyData.str ss[a].1 :: ss[a].2.map PyData.int) = M at *
          generalize PyData.tuple (ss.map stD) = S at *
          generalize ss[a].2[r] + dl = V2 at *
          generalize ss[a].2[r] = V1 at *
          generalize ((1 + r : Nat) : Int) = R1 at *
          generalize ((ss[a].2.length + 1 : Nat) : Int) = L1 at *
          generalize ((ss[a].2.length : Nat) : Int) = L0 at *
          rw [seq_nx (ρ' := [.io b3, .val S, .val (.int f), .val (.int (a : Nat)), .un, .un, .un, .own M, .val (.int R1)]) (by simp [mAsg, mStore, mDone, mBin, mCallB, mCall1, mOwn, mPut, mRs, mCons, mBind, mPure, mPeek, mLift, lM, sb, ht3, a1])]
          simp [mAsg, mBin, mBinL, mLst, mCallB, mOwn, mPut, mRs, mCons, mVar, gSet, mDone, mBind, mPure, mPeek, mLift, f4, s1', hpw, hLL, ht4, hdl, xM, a2, sd]
      obtain ⟨p, b3, a8, hp, hb3, ep⟩ := fin
      refine ⟨ss.take a ++ [p] ++ ss.drop (a + 1), b3, mk (mem_ap (mem_ap (mem_tk h.st) (mem_1 hp)) (mem_dr h.st)) (by rw [List.length_append, List.length_append, List.length_singleton, List.length_take, List.length_drop]; omega), hb3, ?_⟩
      exact RtB.nx s1 (RtB.if_f hc (RtB.if_f e1 (RtB.if_f e2 (RtB.if_f e3 (RtB.nx s7 (RtB.nx ep (os_put rfl hp.l2 (by omega))))))))
  obtain ⟨ss', bs', ho, hb', hr⟩ := main
  exact ⟨ss', bs', ho, hb', RtB.fnB hr⟩
end

def rwT (r : List Int) : D := .tuple (r.map PyData.int)
theorem rowsD_rw (rows : List (List Int)) : rowsD rows = .tuple (rows.map rwT) := rfl
section
variable {bs : List D} {rows : List (List Int)}
def OR (bs : List D) (rows : List (List Int)) (f : Int) (a : Nat) (a4 a5 a6 : Sl) : En := [.io bs, .val (.tuple (rows.map rwT)), .val (.int f), .val (.int (a : Nat)), a4, a5, a6]
variable {f : Int} {a : Nat} {a4 a5 a6 : Sl}
theorem or_eq {k : Int} : mBol (mBinL eqD 2 (mPure (.int k))) (OR bs rows f a a4 a5 a6) = some (.ok (decide (f = k)) (OR bs rows f a a4 a5 a6)) := by
  have e := eq_int f k
  unfold OR
  generalize PyData.tuple (rows.map rwT) = S
  simp [mBol, bolD, mBinL, mBind, mPure, mPeek, mLift, e]
theorem or_front : mSlL 1 mNoPart (mPart (mVar 3)) (OR bs rows f a a4 a5 a6) = some (.ok (.tuple ((rows.take a).map rwT)) (OR bs rows f a a4 a5 a6)) := by
  have h := t_take rwT rows a
  unfold OR
  generalize PyData.tuple (rows.map rwT) = S at *
  simp [mSlL, mNoPart, mPart, intO, mVar, mBind, mPure, mPeek, mLift, h]
theorem or_back : mSlL 1 (mPart (mVar 3)) mNoPart (OR bs rows f a a4 a5 a6) = some (.ok (.tuple ((rows.drop a).map rwT)) (OR bs rows f a a4 a5 a6)) := by
  have h := t_drop rwT rows a
  unfold OR
  generalize PyData.tuple (rows.map rwT) = S at *
  simp [mSlL, mNoPart, mPart, intO, mVar, mBind, mPure, mPeek, mLift, h]
theorem or_back1 : mSlL 1 (mPart (mBinL addA 3 (mPure (.int 1)))) mNoPart (OR bs rows f a a4 a5 a6) = some (.ok (.tuple ((rows.drop (a + 1)).map rwT)) (OR bs rows f a a4 a5 a6)) := by
  have h := t_drop rwT rows (a + 1)
  have ad := addA1 a
  unfold OR
  generalize PyData.tuple (rows.map rwT) = S at *
  generalize ((a + 1 : Nat) : Int) = A1 at *
  simp [mSlL, mNoPart, mPart, intO, mBinL, mVar, mBind, mPure, mPeek, mLift, ad, h]
/-- each number of a row, one of them perhaps by some more -/
theorem or_comp {row : List Int} {n : Nat} (hb : Bx bs) (hl : row.length ≤ 1000) : ∃ (row' : List Int) (bs' : List D), row'.length = row.length ∧ Bx bs' ∧ C__law_odd_rows_0 (OR bs rows f a (.val (rwT row)) (.val (.int (n : Nat))) .un) = some (.ok (row'.map PyData.int) (OR bs' rows f a (.val (rwT row)) (.val (.int (n : Nat))) .un)) := by
  have hlen := t_len PyData.int (L := row) (by omega)
  have hlen : lenD [rwT row] = some (.int (row.length : Nat)) := hlen
  obtain ⟨ys, b2, hb2, hp, hl2, hg⟩ := go_box (vs := [6]) (g := mStore 6) (te := mBin addA (mBinL ixD 4 (mPeek 6)) (mBin mulD (mCall1 intD (mBinL eqD 6 (mPeek 5))) (mBin ixD (mLst (mCons (mPure (.int 1)) (mCons (mBin subD (mPure (.int 0)) (mPure (.int 1))) (mCons (mBin subD (mPure (.int 0)) (mPure (.int 3))) (mCons (mPure (.int 9)) (mPure [])))))) (mCallB 0 2 fn__law_take (mCons (mPure (.int 4)) (mPure [])))))) (fun bs => OR bs rows f a (.val (rwT row)) (.val (.int (n : Nat))) .un) (fun y => ∃ n : Int, 0 ≤ (0 : Int) ∧ y = .int n) (rngL 0 (row.length : Int)) bs hb (by
    intro x hx bs hb
    obtain ⟨t, rfl, t0, t1⟩ := rngL_mem hx
    obtain ⟨i, rfl⟩ : ∃ i : Nat, t = i := ⟨t.toNat, by omega⟩
    obtain ⟨q, b1, ht, q0, q1, hb1⟩ := take_ok (m := 4) hb (by omega) (by omega)
    have xi : row[i]? = some row[i] := List.getElem?_eq_getElem (by omega)
    have hx : ixD (rwT row) (.int (i : Nat)) = some (.int row[i]) := t_ix PyData.int xi
    obtain ⟨c, hc, cs⟩ : ∃ c : Int, intD [.bool (decide ((i : Int) = (n : Int)))] = some (.int c) ∧ c.natAbs < 1000000 := by
      by_cases z : (i : Int) = (n : Int)
      · rw [decide_eq_true z]; exact ⟨1, rfl, by decide⟩
      · rw [decide_eq_false z]; exact ⟨0, rfl, by decide⟩
    have he := eq_int (i : Int) (n : Int)
    obtain ⟨dl, hdl⟩ : ∃ v : Int, ixD (.list [PyData.int 1, .int (-1), .int (-3), .int 9]) (.int q) = some (.int v) := by
      have : q = 0 ∨ q = 1 ∨ q = 2 ∨ q = 3 := by omega
      rcases this with rfl | rfl | rfl | rfl
      · exact ⟨1, rfl⟩
      · exact ⟨-1, rfl⟩
      · exact ⟨-3, rfl⟩
      · exact ⟨9, rfl⟩
    have hm : mulD (.int c) (.int dl) = some (.int (c * dl)) := mul_ok cs
    have ha : addA (.int row[i]) (.int (c * dl)) = some (.int (row[i] + c * dl)) := rfl
    have s1 : subD (.int 0) (.int 1) = some (.int (-1)) := rfl
    have s2 : subD (.int 0) (.int 3) = some (.int (-3)) := rfl
    have f4 : fit 4 = true := rfl
    refine ⟨.int (row[i] + c * dl), b1, [.io bs, .val (.tuple (rows.map rwT)), .val (.int f), .val (.int (a : Nat)), .val (rwT row), .val (.int (n : Nat)), .val (.int (i : Nat))], [.io b1, .val (.tuple (rows.map rwT)), .val (.int f), .val (.int (a : Nat)), .val (rwT row), .val (.int (n : Nat)), .val (.int (i : Nat))], ⟨_, by omega, rfl⟩, hb1, rfl, ?_, by unfold OR; generalize PyData.tuple (rows.map rwT) = S; generalize rwT row = R; simp [unsE]⟩
    clear xi
    generalize hLL : PyData.list [PyData.int 1, .int (-1), .int (-3), .int 9] = LL at *
    generalize PyData.tuple (rows.map rwT) = S at *
    generalize row[i] + c * dl = V2 at *
    generalize c * dl = V1 at *
    generalize row[i] = V0 at *
    generalize decide ((i : Int) = (n : Int)) = dd at *
    generalize rwT row = R at *
    simp [mBin, mBinL, mLst, mCall1, mCallB, mOwn, mPut, mRs, mCons, mBind, mPure, mPeek, mLift, hx, he, hc, s1, s2, f4, hLL, ht, hdl, hm, ha])
  obtain ⟨row', rfl⟩ : ∃ row' : List Int, ys = row'.map PyData.int := by
    clear hg hl2
    induction ys with
    | nil => exact ⟨[], rfl⟩
    | cons y ys ih =>
      obtain ⟨n, _, rfl⟩ := hp y List.mem_cons_self
      obtain ⟨r, rfl⟩ := ih fun z hz => hp z (List.mem_cons_of_mem _ hz)
      exact ⟨n :: r, rfl⟩
  rw [rngL_len, List.length_map] at hl2
  refine ⟨row', b2, hl2, hb2, ?_⟩
  exact comp_is (vs := [6]) (ds := rngL 0 (row.length : Int)) (ρ1 := OR bs rows f a (.val (rwT row)) (.val (.int (n : Nat))) .un) (ρe := OR b2 rows f a (.val (rwT row)) (.val (.int (n : Nat))) .un) (rng1_is (by unfold OR; generalize PyData.tuple (rows.map rwT) = S; generalize rwT row = R at *; simp [mCons, mCall1, mBind, mPure, mPeek, mLift, hlen]) (rngOk_le (by omega) (by omega))) (by rw [rngL_len]; exact fit_of2 (by omega)) hg
theorem odd_rows_ok {n : Nat} {ss : List (Str × List Int)} (hb : Bx bs) (h : Oc n ss rows) (hn : n ≤ 900) (hne : 1 ≤ rows.length) : ∃ rows' bs', Oc (n + 1) ss rows' ∧ Bx bs' ∧ fn__law_odd_rows bs [rowsD rows] = some (.ok (rowsD rows'), bs') := by
  have hl := h.l2
  have h3 := h.l3
  have h3' : ∀ r ∈ rows, r.length ≤ n + 1 := fun r hr => Nat.le_succ_of_le (h3 r hr)
  have mk : ∀ {rows' : List (List Int)}, (∀ r ∈ rows', r.length ≤ n + 1) → rows'.length ≤ n + 1 → Oc (n + 1) ss rows' := fun h1 h2 => ⟨h.st, Nat.le_succ_of_le h.l1, h2, h1⟩
  obtain ⟨f, b1, ht, f0, f1, hb1⟩ := take_ok (m := 6) hb (by omega) (by omega)
  obtain ⟨ai, b2, ht2, a0, a1, hb2⟩ := take_ok (m := (rows.length : Nat)) hb1 (by omega) (by omega)
  obtain ⟨a, rfl⟩ : ∃ a : Nat, ai = a := ⟨ai.toNat, by omega⟩
  have ham : a < rows.length := by omega
  have xa : rows[a]? = some rows[a] := List.getElem?_eq_getElem ham
  have hra := h3 _ (List.getElem_mem ham)
  have ln := t_len rwT (L := rows) (by omega)
  have l1 : (rows.take a).length ≤ 900 := by rw [List.length_take]; omega
  have l2 : (rows.drop a).length ≤ 900 := by rw [List.length_drop]; omega
  have l3 : (rows.drop (a + 1)).length ≤ 900 := by rw [List.length_drop]; omega
  have hxa := t_ix rwT xa
  rw [rowsD_rw]
  have s1 : mParEE 2 3 (mCallB 0 2 fn__law_take (mCons (mPure (.int 6)) (mPure []))) (mCallB 0 2 fn__law_take (mCons (mCall1 lenD (mPeek 1)) (mPure []))) [.io bs, .val (.tuple (rows.map rwT)), .un, .un, .un, .un, .un] = some (.ok .nx (OR b2 rows f a .un .un .un)) := by
    unfold OR
    generalize PyData.tuple (rows.map rwT) = S at *
    generalize ((rows.length : Nat) : Int) = N at *
    simp [mParEE, mCallB, mCall1, mOwn, mPut, mRs, mCons, mStore, mDone, mBind, mPure, mPeek, mLift, ht, ht2, ln]
  have e0 := or_eq (bs := b2) (rows := rows) (f := f) (a := a) (a4 := .un) (a5 := .un) (a6 := .un) (k := 0)
  have e1 := or_eq (bs := b2) (rows := rows) (f := f) (a := a) (a4 := .un) (a5 := .un) (a6 := .un) (k := 1)
  have main : ∃ rows' bs', Oc (n + 1) ss rows' ∧ Bx bs' ∧ RtB m__law_odd_rows (env0B 7 bs [.tuple (rows.map rwT)]) (.tuple (rows'.map rwT)) bs' := by
    by_cases y0 : f = 0
    · rw [decide_eq_true y0] at e0
      refine ⟨rows.take a ++ rows.drop (a + 1), b2, mk (mem_ap (mem_tk h3') (mem_dr h3')) (by rw [List.length_append, List.length_take, List.length_drop]; omega), hb2, ?_⟩
      refine RtB.nx s1 (RtB.if_r e0 ?_)
      exact RtB.ret (r := [.val (.tuple (rows.map rwT)), .val (.int f), .val (.int (a : Nat)), .un, .un, .un]) (bin_is or_front or_back1 (t_add rwT _ _ (by omega)))
    rw [decide_eq_false y0] at e0
    by_cases y1 : f = 1
    · rw [decide_eq_true y1] at e1
      refine ⟨rows.take a ++ [rows[a]] ++ rows.drop a, b2, mk (mem_ap (mem_ap (mem_tk h3') (mem_1 (by omega))) (mem_dr h3')) (by rw [List.length_append, List.length_append, List.length_singleton, List.length_take, List.length_drop]; omega), hb2, ?_⟩
      refine RtB.nx s1 (RtB.if_f e0 (RtB.if_r e1 ?_))
      have tp : mTup (mCons (mBinL ixD 1 (mPeek 3)) (mPure [])) (OR b2 rows f a .un .un .un) = some (.ok (.tuple ([rows[a]].map rwT)) (OR b2 rows f a .un .un .un)) := by
        refine tup1_is ?_
        unfold OR
        generalize PyData.tuple (rows.map rwT) = S at *
        generalize rwT rows[a] = P at *
        simp [mBinL, mBind, mPure, mPeek, mLift, hxa]
      exact RtB.ret (r := [.val (.tuple (rows.map rwT)), .val (.int f), .val (.int (a : Nat)), .un, .un, .un]) (bin_is (bin_is or_front tp (t_add rwT _ _ (by rw [List.length_singleton]; omega))) or_back (t_add rwT _ _ (by rw [List.length_append, List.length_singleton]; omega)))
    rw [decide_eq_false y1] at e1
    have lr := t_len PyData.int (L := rows[a]) (by omega)
    have lr : lenD [rwT rows[a]] = some (.int (rows[a].length : Nat)) := lr
    obtain ⟨ni, b3, ht3, n0, n1, hb3⟩ := take_ok (m := ((rows[a].length + 1 : Nat) : Int)) hb2 (by omega) (by omega)
    obtain ⟨k, rfl⟩ : ∃ k : Nat, ni = k := ⟨ni.toNat, by omega⟩
    have ad := addA1 rows[a].length
    have f2 : fit 2 = true := rfl
    have s4 : mAsg (mTup (mCons (mBinL ixD 1 (mPeek 3)) (mCons (mCallB 0 2 fn__law_take (mCons (mBin addA (mCall1 lenD (mBinL ixD 1 (mPeek 3))) (mPure (.int 1))) (mPure []))) (mPure [])))) (gTupD 2 (gCons2 (mStore 4) (gCons2 (mStore 5) gsNil))) (OR b2 rows f a .un .un .un) = some (.ok .nx (OR b3 rows f a (.val (rwT rows[a])) (.val (.int (k : Nat))) .un)) := by
      unfold OR
      generalize PyData.tuple (rows.map rwT) = S at *
      generalize rwT rows[a] = P at *
      generalize ((rows[a].length + 1 : Nat) : Int) = L1 at *
      simp [mAsg, mTup, mBin, mBinL, mCall1, mCallB, mOwn, mPut, mRs, mCons, gTupD, gCons2, gsNil, mStore, mDone, mBind, mPure, mPeek, mLift, hxa, lr, ad, ht3, f2]
    have e2 := or_eq (bs := b3) (rows := rows) (f := f) (a := a) (a4 := .val (rwT rows[a])) (a5 := .val (.int (k : Nat))) (a6 := .un) (k := 2)
    have e3 := or_eq (bs := b3) (rows := rows) (f := f) (a := a) (a4 := .val (rwT rows[a])) (a5 := .val (.int (k : Nat))) (a6 := .un) (k := 3)
    have tk := t_take PyData.int rows[a] k
    have dr := t_drop PyData.int rows[a] k
    have dr1 := t_drop PyData.int rows[a] (k + 1)
    have tk : slD (rwT rows[a]) none (some (k : Nat)) = some (rwT (rows[a].take k)) := tk
    have dr : slD (rwT rows[a]) (some (k : Nat)) none = some (rwT (rows[a].drop k)) := dr
    have dr1 : slD (rwT rows[a]) (some ((k + 1 : Nat) : Int)) none = some (rwT (rows[a].drop (k + 1))) := dr1
    have k1 : (rows[a].take k).length ≤ 900 := by rw [List.length_take]; omega
    have k2 : (rows[a].drop k).length ≤ 900 := by rw [List.length_drop]; omega
    have k3 : (rows[a].drop (k + 1)).length ≤ 900 := by rw [List.length_drop]; omega
    have fin : ∃ row b4, row.length ≤ n + 1 ∧ Bx b4 ∧ (mIf (mBol (mBinL eqD 2 (mPure (.int 2)))) (mAsg (mBin addA (mBin addA (mSlL 4 mNoPart (mPart (mVar 5))) (mTup (mCons (mCallB 0 2 fn__law_take (mCons (mPure (.int 4)) (mPure []))) (mPure [])))) (mSlL 4 (mPart (mVar 5)) mNoPart)) (mStore 4)) (mIf (mBol (mBinL eqD 2 (mPure (.int 3)))) (mAsg (mBin addA (mSlL 4 mNoPart (mPart (mVar 5))) (mSlL 4 (mPart (mBinL addA 5 (mPure (.int 1)))) mNoPart)) (mStore 4)) (mAsg (mCall1 tupleD (mVal C__law_odd_rows_0)) (mStore 4)))) (OR b3 rows f a (.val (rwT rows[a])) (.val (.int (k : Nat))) .un) = some (.ok .nx (OR b4 rows f a (.val (rwT row)) (.val (.int (k : Nat))) .un)) := by
      by_cases y2 : f = 2
      · rw [decide_eq_true y2] at e2
        obtain ⟨q, b4, ht4, q0, q1, hb4⟩ := take_ok (m := 4) hb3 (by omega) (by omega)
        refine ⟨rows[a].take k ++ [q] ++ rows[a].drop k, b4, by rw [List.length_append, List.length_append, List.length_singleton, List.length_take, List.length_drop]; omega, hb4, ?_⟩
        have u1 : addA (rwT (rows[a].take k)) (.tuple [.int q]) = some (rwT (rows[a].take k ++ [q])) := t_add PyData.int _ [q] (by rw [List.length_singleton]; omega)
        have u2 : addA (rwT (rows[a].take k ++ [q])) (rwT (rows[a].drop k)) = some (rwT (rows[a].take k ++ [q] ++ rows[a].drop k)) := t_add PyData.int _ _ (by rw [List.length_append, List.length_singleton]; omega)
        have f1 : fit 1 = true := rfl
        unfold mIf
        rw [bind_is e2, if_pos rfl]
        clear e2 e3
        generalize rwT (rows[a].take k ++ [q] ++ rows[a].drop k) = R3 at *
        generalize rwT (rows[a].take k ++ [q]) = R2 at *
        generalize rwT (rows[a].take k) = R1 at *
        generalize rwT (rows[a].drop k) = R0 at *
        generalize rwT rows[a] = R at *
        unfold OR
        generalize PyData.tuple (rows.map rwT) = S at *
        simp [mAsg, mStore, mDone, mBin, mSlL, mNoPart, mPart, intO, mTup, mCallB, mOwn, mPut, mRs, mCons, mVar, mBind, mPure, mPeek, mLift, tk, dr, ht4, u1, u2, f1]
      · rw [decide_eq_false y2] at e2
        by_cases y3 : f = 3
        · rw [decide_eq_true y3] at e3
          refine ⟨rows[a].take k ++ rows[a].drop (k + 1), b3, by rw [List.length_append, List.length_take, List.length_drop]; omega, hb3, ?_⟩
          have u1 : addA (rwT (rows[a].take k)) (rwT (rows[a].drop (k + 1))) = some (rwT (rows[a].take k ++ rows[a].drop (k + 1))) := t_add PyData.int _ _ (by omega)
          have ak := addA1 k
          unfold mIf
          rw [bind_is e2, if_neg Bool.false_ne_true, bind_is e3, if_pos rfl]
          clear e2 e3
          generalize rwT (rows[a].take k ++ rows[a].drop (k + 1)) = R3 at *
          generalize rwT (rows[a].take k) = R1 at *
          generalize rwT (rows[a].drop (k + 1)) = R0 at *
          generalize rwT rows[a] = R at *
          unfold OR
          generalize PyData.tuple (rows.map rwT) = S at *
          generalize ((k + 1 : Nat) : Int) = K1 at *
          simp [mAsg, mStore, mDone, mBin, mBinL, mSlL, mNoPart, mPart, intO, mVar, mBind, mPure, mPeek, mLift, tk, dr1, ak, u1]
        · rw [decide_eq_false y3] at e3
          obtain ⟨row', b4, hl4, hb4, hc⟩ := or_comp (rows := rows) (f := f) (a := a) (row := rows[a]) (n := k) hb3 (by omega)
          refine ⟨row', b4, by omega, hb4, ?_⟩
          have hv := mVal_is hc
          have tt : tupleD [.list (row'.map PyData.int)] = some (rwT row') := by
            have fx : fit (row'.map PyData.int).length = true := fit_of2 (by rw [List.length_map]; omega)
            unfold rwT
            generalize row'.map PyData.int = M at *
            simp [tupleD, fx]
          unfold mIf
          rw [bind_is e2, if_neg Bool.false_ne_true, bind_is e3, if_neg Bool.false_ne_true]
          clear e2 e3 hc
          generalize PyData.list (row'.map PyData.int) = M at *
          generalize rwT row' = R1 at *
          generalize rwT rows[a] = R at *
          generalize mVal C__law_odd_rows_0 = mv at *
          unfold OR at *
          generalize PyData.tuple (rows.map rwT) = S at *
          simp [mAsg, mStore, mDone, mCall1, mBind, mPure, mLift, hv, tt]
    obtain ⟨row, b4, hrl, hb4, er⟩ := fin
    refine ⟨rows.take a ++ [row] ++ rows.drop (a + 1), b4, mk (mem_ap (mem_ap (mem_tk h3') (mem_1 hrl)) (mem_dr h3')) (by rw [List.length_append, List.length_append, List.length_singleton, List.length_take, List.length_drop]; omega), hb4, ?_⟩
    refine RtB.nx s1 (RtB.if_f e0 (RtB.if_f e1 (RtB.nx s4 (RtB.nx er ?_))))
    have tp : mTup (mCons (mVar 4) (mPure [])) (OR b4 rows f a (.val (rwT row)) (.val (.int (k : Nat))) .un) = some (.ok (.tuple ([row].map rwT)) (OR b4 rows f a (.val (rwT row)) (.val (.int (k : Nat))) .un)) := by
      refine tup1_is ?_
      unfold OR
      generalize PyData.tuple (rows.map rwT) = S at *
      generalize rwT row = P at *
      simp [mVar]
    exact RtB.ret (r := [.val (.tuple (rows.map rwT)), .val (.int f), .val (.int (a : Nat)), .val (rwT row), .val (.int (k : Nat)), .un]) (bin_is (bin_is or_front tp (t_add rwT _ _ (by rw [List.length_singleton]; omega))) or_back1 (t_add rwT _ _ (by rw [List.length_append, List.length_singleton]; omega)))
  obtain ⟨rows', bs', ho, hb', hr⟩ := main
  exact ⟨rows', bs', ho, hb', RtB.fnB hr⟩
end

theorem pow64 : ∃ v : Int, powW (.int 10) (.int 64) = some (.int (10 ^ 64)) ∧ powW (.int (10 ^ 64)) (.int 7) = some (.int v) := by
  have h1 : cPowW 10 64 = true := by decide +kernel
  have h2 : cPowW (10 ^ 64) 7 = true := by decide +kernel
  refine ⟨(10 ^ 64) ^ 7, ?_, ?_⟩
  · show (if cPowW 10 64 = true then some (PyData.int (10 ^ (64 : Int).toNat)) else none) = _
    rw [if_pos h1]; rfl
  · show (if cPowW (10 ^ 64) 7 = true then some (PyData.int ((10 ^ 64) ^ (7 : Int).toNat)) else none) = _
    rw [if_pos h2]; rfl
def OddC (n : Nat) (d : D) : Prop := ∃ c ss rows, d = oddD c ss rows ∧ Oc n ss rows
theorem odd_ok {bs : List D} {n : Nat} {d : D} (hb : Bx bs) (h : OddC n d) (hn : n ≤ 900) : ∃ d' bs', OddC (n + 1) d' ∧ Bx bs' ∧ fn__law_odd bs [d] = some (.ok d', bs') := by
  obtain ⟨c, ss, rows, rfl, ho⟩ := h
  have up : Oc (n + 1) ss rows := ⟨ho.st, Nat.le_succ_of_le ho.l1, Nat.le_succ_of_le ho.l2, fun r hr => Nat.le_succ_of_le (ho.l3 r hr)⟩
  obtain ⟨f, b1, ht, f0, f1, hb1⟩ := take_ok (m := 5) hb (by omega) (by omega)
  have f3' : fit 3 = true := rfl
  have s1 : mAsg (mVar 1) (gTupD 3 (gCons2 (mStore 2) (gCons2 (mStore 3) (gCons2 (mStore 4) gsNil)))) [.io bs, .val (oddD c ss rows), .un, .un, .un, .un] = some (.ok .nx [.io bs, .val (oddD c ss rows), .val (.int c), .val (.tuple (ss.map stD)), .val (rowsD rows), .un]) := by
    unfold oddD
    generalize PyData.tuple (ss.map stD) = S
    generalize rowsD rows = R
    simp [mAsg, mVar, gTupD, gCons2, gsNil, mStore, mDone, mBind, mPure]
  have s2 : mAsg (mCallB 0 2 fn__law_take (mCons (mPure (.int 5)) (mPure []))) (mStore 5) [.io bs, .val (oddD c ss rows), .val (.int c), .val (.tuple (ss.map stD)), .val (rowsD rows), .un] = some (.ok .nx [.io b1, .val (oddD c ss rows), .val (.int c), .val (.tuple (ss.map stD)), .val (rowsD rows), .val (.int f)]) := by
    generalize PyData.tuple (ss.map stD) = S
    generalize rowsD rows = R
    generalize oddD c ss rows = O
    simp [mAsg, mCallB, mOwn, mPut, mRs, mCons, mStore, mDone, mBind, mPure, mLift, ht]
  have e0 := eq_int f 0
  have main : ∃ d' bs', OddC (n + 1) d' ∧ Bx bs' ∧ RtB m__law_odd (env0B 6 bs [oddD c ss rows]) d' bs' := by
    by_cases y0 : f = 0
    · rw [decide_eq_true y0] at e0
      obtain ⟨q, b2, ht2, q0, q1, hb2⟩ := take_ok (m := 5) hb1 (by omega) (by omega)
      obtain ⟨pw, hpw⟩ : ∃ v : Int, powD (.int 10) (.int 30) = some (.int v) := ⟨_, rfl⟩
      obtain ⟨v, h1, h2⟩ := pow64
      obtain ⟨dl, hdl⟩ : ∃ x : Int, ixD (.list [PyData.int 1, .int (-1), .int 5, .int pw, .int (0 - v)]) (.int q) = some (.int x) := by
        have : q = 0 ∨ q = 1 ∨ q = 2 ∨ q = 3 ∨ q = 4 := by omega
        rcases this with rfl | rfl | rfl | rfl | rfl
        · exact ⟨1, rfl⟩
        · exact ⟨-1, rfl⟩
        · exact ⟨5, rfl⟩
        · exact ⟨pw, rfl⟩
        · exact ⟨0 - v, rfl⟩
      have pw30 : powW (.int 10) (.int 30) = powD (.int 10) (.int 30) := by
        have h1 : cPowW 10 30 = true := by decide +kernel
        have h2 : cPow 10 30 = true := by decide +kernel
        show (if cPowW 10 30 = true then some (PyData.int (10 ^ (30 : Int).toNat)) else none) = (if cPow 10 30 = true then some (PyData.int (10 ^ (30 : Int).toNat)) else none)
        rw [h1, h2]
      have hpw2 := pw30.trans hpw
      have sb : subD (.int 0) (.int 1) = some (.int (-1)) := rfl
      have sb2 : subD (.int 0) (.int v) = some (.int (0 - v)) := rfl
      have ad : addD (.int c) (.int dl) = some (.int (c + dl)) := rfl
      have f5 : fit 5 = true := rfl
      refine ⟨oddD (c + dl) ss rows, b2, ⟨_, _, _, rfl, up⟩, hb2, RtB.nx s1 (RtB.nx s2 ?_)⟩
      clear s1 s2 pw30
      have hc : mBol (mBinL eqD 5 (mPure (.int 0))) [.io b1, .val (oddD c ss rows), .val (.int c), .val (.tuple (ss.map stD)), .val (rowsD rows), .val (.int f)] = some (.ok true [.io b1, .val (oddD c ss rows), .val (.int c), .val (.tuple (ss.map stD)), .val (rowsD rows), .val (.int f)]) := by
        generalize PyData.tuple (ss.map stD) = S
        generalize rowsD rows = R
        generalize oddD c ss rows = O
        simp [mBol, bolD, mBinL, mBind, mPure, mPeek, mLift, e0]
      refine RtB.if_r hc ?_
      refine RtB.ret (r := [.val (oddD c ss rows), .val (.int c), .val (.tuple (ss.map stD)), .val (rowsD rows), .val (.int f)]) ?_
      show _ = some (R.ok (PyData.tuple [.int (c + dl), .tuple (ss.map stD), rowsD rows]) _)
      generalize PyData.tuple (ss.map stD) = S
      generalize rowsD rows = R
      generalize oddD c ss rows = O
      generalize c + dl = C2 at *
      generalize (10 : Int) ^ 64 = T64 at *
      generalize (0 : Int) - v = NV at *
      generalize hLL : PyData.list [PyData.int 1, .int (-1), .int 5, .int pw, .int NV] = LL at *
      simp [mTup, mBin, mBinL, mLst, mCallB, mOwn, mPut, mRs, mCons, mVar, mBind, mPure, mPeek, mLift, sb, hpw2, h1, h2, sb2, f5, hLL, ht2, hdl, ad, f3']
    · rw [decide_eq_false y0] at e0
      have hc : mBol (mBinL eqD 5 (mPure (.int 0))) [.io b1, .val (oddD c ss rows), .val (.int c), .val (.tuple (ss.map stD)), .val (rowsD rows), .val (.int f)] = some (.ok false [.io b1, .val (oddD c ss rows), .val (.int c), .val (.tuple (ss.map stD)), .val (rowsD rows), .val (.int f)]) := by
        generalize PyData.tuple (ss.map stD) = S
        generalize rowsD rows = R
        generalize oddD c ss rows = O
        simp [mBol, bolD, mBinL, mBind, mPure, mPeek, mLift, e0]
      have ln := t_len rwT (L := rows) (by have := ho.l2; omega)
      rw [← rowsD_rw] at ln
      have el := eq_int (rows.length : Int) 0
      have lt3 : ltD (.int f) (.int 3) = some (.bool (decide (f < 3))) := rfl
      obtain ⟨b, hcond, hb0⟩ : ∃ b : Bool, mOrT (mBol (mBinL ltD 5 (mPure (.int 3)))) (mOrT (mBol (mBin eqD (mCall1 lenD (mPeek 4)) (mPure (.int 0)))) ((mBol (mBin eqD (mCall1 lenD (mBinL ixD 4 (mPure (.int 0)))) (mPure (.int 0)))))) [.io b1, .val (oddD c ss rows), .val (.int c), .val (.tuple (ss.map stD)), .val (rowsD rows), .val (.int f)] = some (.ok b [.io b1, .val (oddD c ss rows), .val (.int c), .val (.tuple (ss.map stD)), .val (rowsD rows), .val (.int f)]) ∧ (b = false → 1 ≤ rows.length) := by
        by_cases y3 : f < 3
        · rw [decide_eq_true y3] at lt3
          refine ⟨true, ?_, fun h => (by cases h)⟩
          generalize PyData.tuple (ss.map stD) = S
          generalize rowsD rows = R
          generalize oddD c ss rows = O
          simp [mOrT, mBol, bolD, mBinL, mBind, mPure, mPeek, mLift, lt3]
        · rw [decide_eq_false y3] at lt3
          by_cases z : rows.length = 0
          · rw [decide_eq_true (by omega)] at el
            refine ⟨true, ?_, fun h => (by cases h)⟩
            generalize PyData.tuple (ss.map stD) = S
            generalize rowsD rows = R at *
            generalize oddD c ss rows = O
            generalize ((rows.length : Nat) : Int) = N at *
            simp [mOrT, mBol, bolD, mBin, mBinL, mCall1, mBind, mPure, mPeek, mLift, lt3, ln, el]
          · rw [decide_eq_false (by omega)] at el
            have x0 : rows[0]? = some rows[0] := List.getElem?_eq_getElem (by omega)
            have hx : ixD (rowsD rows) (.int 0) = some (rwT rows[0]) := t_ix rwT (i := 0) x0
            have hr := ho.l3 _ (List.getElem_mem (show 0 < rows.length by omega))
            have l0 : lenD [rwT rows[0]] = some (.int (rows[0].length : Nat)) := t_len PyData.int (by omega)
            have e2 := eq_int (rows[0].length : Int) 0
            refine ⟨decide ((rows[0].length : Int) = 0), ?_, fun _ => by omega⟩
            generalize PyData.tuple (ss.map stD) = S
            generalize rowsD rows = R at *
            generalize oddD c ss rows = O
            generalize ((rows.length : Nat) : Int) = N at *
            generalize rwT rows[0] = R0 at *
            generalize decide ((rows[0].length : Int) = 0) = dd at *
            generalize ((rows[0].length : Nat) : Int) = N0 at *
            simp [mOrT, mBol, bolD, mBin, mBinL, mCall1, mBind, mPure, mPeek, mLift, lt3, ln, el, hx, l0, e2]
      cases b with
      | true =>
        obtain ⟨ss', b2, ho', hb2, hs⟩ := odd_steps_ok hb1 ho hn
        refine ⟨oddD c ss' rows, b2, ⟨_, _, _, rfl, ho'⟩, hb2, RtB.nx s1 (RtB.nx s2 (RtB.if_f hc (RtB.if_r hcond ?_)))⟩
        refine RtB.ret (r := [.val (oddD c ss rows), .val (.int c), .val (.tuple (ss.map stD)), .val (rowsD rows), .val (.int f)]) ?_
        clear s1 s2 hc hcond
        show _ = some (R.ok (PyData.tuple [.int c, .tuple (ss'.map stD), rowsD rows]) _)
        generalize PyData.tuple (ss'.map stD) = S' at *
        generalize PyData.tuple (ss.map stD) = S at *
        generalize rowsD rows = R at *
        generalize oddD c ss rows = O
        simp [mTup, mCallB, mOwn, mPut, mRs, mCons, mVar, mBind, mPure, mLift, hs, f3']
      | false =>
        obtain ⟨rows', b2, ho', hb2, hs⟩ := odd_rows_ok hb1 ho hn (hb0 rfl)
        refine ⟨oddD c ss rows', b2, ⟨_, _, _, rfl, ho'⟩, hb2, RtB.nx s1 (RtB.nx s2 (RtB.if_f hc (RtB.if_f hcond ?_)))⟩
        refine RtB.ret (r := [.val (oddD c ss rows), .val (.int c), .val (.tuple (ss.map stD)), .val (rowsD rows), .val (.int f)]) ?_
        clear s1 s2 hc hcond
        show _ = some (R.ok (PyData.tuple [.int c, .tuple (ss.map stD), rowsD rows']) _)
        generalize PyData.tuple (ss.map stD) = S at *
        generalize rowsD rows' = R' at *
        generalize rowsD rows = R at *
        generalize oddD c ss rows = O
        simp [mTup, mCallB, mOwn, mPut, mRs, mCons, mVar, mBind, mPure, mLift, hs, f3']
  obtain ⟨d', bs', hd, hb', hr⟩ := main
  exact ⟨d', bs', hd, hb', RtB.fnB hr⟩
/-- what held tells is of this form -/
theorem held_odd {u l m : Int} {xs ys : List Int} (h1 : xs.length ≤ 60) (h2 : ys.length ≤ 60) : ∃ R, OddC 200 R ∧ fn_held [sqI false xs, sqI false ys, .int u, .int l, .int m] = some (.ok R) := by
  obtain ⟨ss, hf, hh⟩ := held_okA (u := u) (l := l) (m := m) (xs := xs) (ys := ys) (by omega) (by omega)
  have hlen := hf.len
  refine ⟨_, ⟨Ed.dist u l m xs ys xs.length ys.length, ss.map (spS xs ys), (List.range (xs.length + 1)).map fun i => (List.range (ys.length + 1)).map fun j => Ed.dist u l m xs ys i j, ?_, ?_⟩, hh false false⟩
  · unfold oddD rowsD tabD_ rowT
    rw [List.map_map, List.map_map]
    congr 3
    · congr 1
      refine List.map_congr_left fun s _ => ?_
      exact spS_D.symm
    · congr 3
      funext i
      show _ = PyData.tuple (((List.range (ys.length + 1)).map fun j => Ed.dist u l m xs ys i j).map PyData.int)
      rw [List.map_map]; rfl
  · refine ⟨fun p hp => ?_, by rw [List.length_map]; omega, by rw [List.length_map, List.length_range]; omega, fun r hr => ?_⟩
    · obtain ⟨s, _, rfl⟩ := List.mem_map.mp hp
      exact spS_ok
    · obtain ⟨i, _, rfl⟩ := List.mem_map.mp hr
      rw [List.length_map, List.length_range]; omega

section
variable {ns : List Int} {k : Int} {a3 a4 a5 a6 a7 a8 a9 a10 a11 a12 a13 a14 a15 a16 a17 a18 : Sl} {bs : List D}
def SP (ns : List Int) (k : Int) (bs : List D) (a3 a4 a5 a6 a7 a8 a9 a10 a11 a12 a13 a14 a15 a16 a17 a18 : Sl) : En := [.scr ns, .val (.int k), .own bs, a3, a4, a5, a6, a7, a8, a9, a10, a11, a12, a13, a14, a15, a16, a17, a18]
theorem lw_dear (hb : Bx bs) : ∃ (sp : Int) (bs' : List D), 0 < sp ∧ sp < 1152921504606846976 ∧ Bx bs' ∧ mAsg (mBin ixD (mLst (mCons (mPure (.int 5)) (mCons (mPure (.int 5)) (mCons (mBin addD (mBin powD (mPure (.int 10)) (mPure (.int 9))) (mPure (.int 1))) (mPure []))))) (mCallB 2 2 fn__law_take (mCons (mPure (.int 3)) (mPure [])))) (mStore 5) (SP ns k bs a3 a4 a5 a6 a7 a8 a9 a10 a11 a12 a13 a14 a15 a16 a17 a18) = some (.ok .nx (SP ns k bs' a3 a4 (.val (.int sp)) a6 a7 a8 a9 a10 a11 a12 a13 a14 a15 a16 a17 a18)) := by
  obtain ⟨r, b1, ht, r0, r1, hb1⟩ := take_ok (m := 3) hb (by omega) (by omega)
  obtain ⟨m, hm, hmm⟩ := pick3 (a := 5) (b := 5) (c := 1000000001) r0 r1
  have hx : ixD (.list [PyData.int 5, .int 5, .int 1000000001]) (.int r) = some (.int m) := hm
  have pw : powD (.int 10) (.int 9) = some (.int 1000000000) := rfl
  have ad : addD (.int 1000000000) (.int 1) = some (.int 1000000001) := rfl
  have f3 : fit 3 = true := rfl
  refine ⟨m, b1, by omega, by omega, hb1, ?_⟩
  generalize hL : PyData.list [PyData.int 5, .int 5, .int 1000000001] = LL at *
  unfold SP
  simp [mAsg, mStore, mDone, mBin, mLst, mCallB, mOwn, mPut, mRs, mCons, mBind, mPure, mLift, pw, ad, f3, hL, ht, hx]
theorem lw_abc {dear : Int} (hb : Bx bs) (h0 : 0 < dear) (h1 : dear < 1152921504606846976) : ∃ (u l m : Int) (bs' : List D), Bx bs' ∧ mAsg (mCall1 tupleD (mVal C_law_0)) (mStore 6) (SP ns k bs a3 a4 (.val (.int dear)) a6 a7 a8 a9 a10 a11 a12 a13 a14 a15 a16 a17 a18) = some (.ok .nx (SP ns k bs' a3 a4 (.val (.int dear)) (.val (cD u l m)) a7 a8 a9 a10 a11 .un a13 a14 a15 a16 a17 a18)) := by
  obtain ⟨ys, b2, hb2, hp, hl, hg⟩ := go_box (vs := [12]) (g := mStore 12) (te := mCallB 2 2 fn__law_take (mCons (mVar 5) (mPure []))) (fun bs => SP ns k bs a3 a4 (.val (.int dear)) a6 a7 a8 a9 a10 a11 .un a13 a14 a15 a16 a17 a18) (fun y => ∃ n : Int, y = .int n) (rngL 0 ((3 : Nat) : Int)) bs hb (by
    intro x _ bs hb
    obtain ⟨r, b1, ht, r0, r1, hb1⟩ := take_ok (m := dear) hb h0 h1
    exact ⟨.int r, b1, SP ns k bs a3 a4 (.val (.int dear)) a6 a7 a8 a9 a10 a11 (.val x) a13 a14 a15 a16 a17 a18, SP ns k b1 a3 a4 (.val (.int dear)) a6 a7 a8 a9 a10 a11 (.val x) a13 a14 a15 a16 a17 a18, ⟨r, rfl⟩, hb1, rfl, by unfold SP; simp [mCallB, mOwn, mPut, mRs, mCons, mVar, mBind, mPure, mLift, ht], by unfold SP; simp [unsE]⟩)
  rw [rngL_len] at hl
  obtain ⟨u, l, m, rfl⟩ : ∃ u l m : Int, ys = [.int u, .int l, .int m] := by
    match ys, hl, hp with
    | [a, b, c], _, hp =>
      obtain ⟨u, rfl⟩ := hp a (by simp)
      obtain ⟨l, rfl⟩ := hp b (by simp)
      obtain ⟨m, rfl⟩ := hp c (by simp)
      exact ⟨u, l, m, rfl⟩
  refine ⟨u, l, m, b2, hb2, ?_⟩
  have hc : C_law_0 (SP ns k bs a3 a4 (.val (.int dear)) a6 a7 a8 a9 a10 a11 a12 a13 a14 a15 a16 a17 a18) = some (.ok [.int u, .int l, .int m] (SP ns k b2 a3 a4 (.val (.int dear)) a6 a7 a8 a9 a10 a11 .un a13 a14 a15 a16 a17 a18)) :=
    comp_is (vs := [12]) (ds := rngL 0 ((3 : Nat) : Int)) (ρ1 := SP ns k bs a3 a4 (.val (.int dear)) a6 a7 a8 a9 a10 a11 a12 a13 a14 a15 a16 a17 a18) (ρe := SP ns k b2 a3 a4 (.val (.int dear)) a6 a7 a8 a9 a10 a11 .un a13 a14 a15 a16 a17 a18) (rng1_is (by unfold SP; simp [mCons, mBind, mPure]) (rngOk_le (by omega) (by omega))) (by rw [rngL_len]; exact fit_of2 (by omega)) hg
  have hv := mVal_is hc
  have ht : tupleD [.list [.int u, .int l, .int m]] = some (cD u l m) := rfl
  generalize PyData.list [PyData.int u, .int l, .int m] = M at *
  generalize cD u l m = CD at *
  generalize mVal C_law_0 = mv at *
  unfold SP at *
  simp [mAsg, mStore, mDone, mCall1, mBind, mPure, mLift, hv, ht]
/-- one to three things otherwise -/
theorem lw_odds {d0 : D} {S : Sl} (hb : Bx bs) (h : OddC 200 d0) : ∃ d' bs' a14', OddC 203 d' ∧ Bx bs' ∧ R_law_0 (SP ns k bs a3 a4 a5 a6 a7 a8 a9 a10 a11 a12 (.val d0) a14 a15 a16 a17 a18) = some (.ok .nx (SP ns k bs' a3 a4 a5 a6 a7 a8 a9 a10 a11 a12 (.val d') a14' a15 a16 a17 a18)) := by
  obtain ⟨r, b1, ht, r0, r1, hb1⟩ := take_ok (m := 3) hb (by omega) (by omega)
  obtain ⟨n, hn⟩ : ∃ n : Nat, 1 + r = (n : Int) := ⟨(1 + r).toNat, by omega⟩
  have ad : addD (.int 1) (.int r) = some (.int (n : Int)) := by rw [← hn]; rfl
  obtain ⟨ρ', hlp, b2, d', a14', hb2, hd, rfl⟩ := forL_ix (g := mStore 14) (body := L_law_0) (fun j ρ => ∃ (bs : List D) (d : D) (a14 : Sl), Bx bs ∧ OddC (200 + j) d ∧ ρ = SP ns k bs a3 a4 a5 a6 a7 a8 a9 a10 a11 a12 (.val d) a14 a15 a16 a17 a18) (rngL 0 (n : Int)) 0 (SP ns k b1 a3 a4 a5 a6 a7 a8 a9 a10 a11 a12 (.val d0) a14 a15 a16 a17 a18) ⟨b1, d0, a14, hb1, h, rfl⟩ (by
    rintro j x ρ hx ⟨bs, d, a14, hb, hd, rfl⟩
    have hj : j < n := by
      have := (List.getElem?_eq_some_iff.mp hx).1
      rw [rngL_len] at this
      exact this
    obtain ⟨d', b', hd', hb', e⟩ := odd_ok hb hd (by omega)
    exact ⟨SP ns k bs a3 a4 a5 a6 a7 a8 a9 a10 a11 a12 (.val d) (.val x) a15 a16 a17 a18, SP ns k b' a3 a4 a5 a6 a7 a8 a9 a10 a11 a12 (.val d') (.val x) a15 a16 a17 a18, rfl, .inl (by unfold SP; simp [L_law_0, mAsg, mStore, mDone, mCallB, mOwn, mPut, mRs, mCons, mVar, mBind, mPure, mLift, e]), b', d', _, hb', hd', rfl⟩)
  rw [rngL_len] at hd
  obtain ⟨c, ss, rows, rfl, ho⟩ := hd
  refine ⟨_, b2, a14', ⟨c, ss, rows, rfl, ⟨ho.st, by have := ho.l1; omega, by have := ho.l2; omega, fun r hr => by have := ho.l3 r hr; omega⟩⟩, hb2, ?_⟩
  unfold R_law_0 mFor
  rw [bind_is (rng1_is (show mCons (mBin addD (mPure (.int 1)) (mCallB 2 2 fn__law_take (mCons (mPure (.int 3)) (mPure [])))) (mPure []) (SP ns k bs a3 a4 a5 a6 a7 a8 a9 a10 a11 a12 (.val d0) a14 a15 a16 a17 a18) = some (.ok [.int (n : Int)] (SP ns k b1 a3 a4 a5 a6 a7 a8 a9 a10 a11 a12 (.val d0) a14 a15 a16 a17 a18)) by unfold SP; simp [mCons, mBin, mCallB, mOwn, mPut, mRs, mBind, mPure, mLift, ht, ad]) (rngOk_le (by omega) (by omega)))]
  exact hlp
/-- six of them -/
theorem lw_six {d0 : D} {F0 : List D} (hb : Bx bs) (h : OddC 200 d0) (hF : ∀ d ∈ F0, OddC 203 d) (hl : F0.length ≤ 100) : ∃ F bs' b12 b13 b14, (∀ d ∈ F, OddC 203 d) ∧ F.length ≤ 200 ∧ Bx bs' ∧ R_law_1 (SP ns k bs a3 a4 a5 a6 a7 a8 a9 (.val d0) (.own F0) a12 a13 a14 a15 a16 a17 a18) = some (.ok .nx (SP ns k bs' a3 a4 a5 a6 a7 a8 a9 (.val d0) (.own F) b12 b13 b14 a15 a16 a17 a18)) := by
  obtain ⟨ρ', hlp, b2, F, b12, b13, b14, hb2, hF2, hl2, rfl⟩ := for_rng (g := mStore 12) (body := L_law_1) (fun j ρ => ∃ (bs : List D) (F : List D) (a12 a13 a14 : Sl), Bx bs ∧ (∀ d ∈ F, OddC 203 d) ∧ F.length ≤ 100 + j ∧ ρ = SP ns k bs a3 a4 a5 a6 a7 a8 a9 (.val d0) (.own F) a12 a13 a14 a15 a16 a17 a18) 6 (ms := mCons (mPure (.int 6)) (mPure [])) (ρ := SP ns k bs a3 a4 a5 a6 a7 a8 a9 (.val d0) (.own F0) a12 a13 a14 a15 a16 a17 a18) rfl (by omega) ⟨bs, F0, a12, a13, a14, hb, hF, hl, rfl⟩ (by
    rintro j ρ hj ⟨bs, F, a12, a13, a14, hb, hF, hl, rfl⟩
    obtain ⟨d', b', a14', hd', hb', e⟩ := lw_odds (ns := ns) (k := k) (a3 := a3) (a4 := a4) (a5 := a5) (a6 := a6) (a7 := a7) (a8 := a8) (a9 := a9) (a10 := .val d0) (a11 := .own F) (a12 := .val (.int (j : Nat))) (a14 := a14) (a15 := a15) (a16 := a16) (a17 := a17) (a18 := a18) (S := .un) hb h
    have fF : fit F.length = true := fit_of2 (by omega)
    refine ⟨SP ns k bs a3 a4 a5 a6 a7 a8 a9 (.val d0) (.own F) (.val (.int (j : Nat))) a13 a14 a15 a16 a17 a18, SP ns k b' a3 a4 a5 a6 a7 a8 a9 (.val d0) (.own (F ++ [d'])) (.val (.int (j : Nat))) (.val d') a14' a15 a16 a17 a18, rfl, ?_, b', F ++ [d'], _, _, _, hb', mem_ap hF (mem_1 hd'), by rw [List.length_append, List.length_singleton]; omega, rfl⟩
    unfold L_law_1
    rw [seq_nx (ρ' := SP ns k bs a3 a4 a5 a6 a7 a8 a9 (.val d0) (.own F) (.val (.int (j : Nat))) (.val d0) a14 a15 a16 a17 a18) (by unfold SP; simp [mAsg, mVar, mStore, mDone, mBind, mPure]), seq_nx e]
    unfold SP
    simp [mDrop, mMut, mOwn, mPut, appD, mCons, mVar, mBind, mPure, mLift, fF])
  exact ⟨F, b2, b12, b13, b14, hF2, by omega, hb2, hlp⟩
variable {u l m : Int} {xs ys : List Int}
theorem lw_look {d : D} (hb : Bx bs) (tw : Two xs ys) (h : OddC 203 d) : ∃ bs' b15 b16 b17 b18, Bx bs' ∧ L_law_2 (SP ns k bs (.val (sqI false xs)) (.val (sqI false ys)) a5 (.val (cD u l m)) (.val (.int u)) (.val (.int l)) (.val (.int m)) a10 a11 a12 (.val d) a14 a15 a16 a17 a18) = some (.ok .nx (SP ns k bs' (.val (sqI false xs)) (.val (sqI false ys)) a5 (.val (cD u l m)) (.val (.int u)) (.val (.int l)) (.val (.int m)) a10 a11 a12 (.val d) a14 b15 b16 b17 b18)) := by
  obtain ⟨c, ss, rows, rfl, ho⟩ := h
  have q1 := tw.l1
  have q2 := tw.l2
  obtain ⟨t1, b1, hb1, e1⟩ := kind_ok (xs := xs) hb (by omega)
  obtain ⟨t2, b2, hb2, e2⟩ := kind_ok (xs := ys) hb1 (by omega)
  obtain ⟨z, kz, rz⟩ := repr_two (t1 := t1) (t2 := t2) tw.v1 tw.v2 (by omega) (by omega)
  have hl3 : ∀ r ∈ rows, r.length ≤ 10000 := fun r hr => by have := ho.l3 r hr; omega
  have hl2 : rows.length ≤ 10000 := by have := ho.l2; omega
  have hl1 : ss.length ≤ 10000 := by have := ho.l1; omega
  have hd := dueO (u := u) (l := l) (m := m) (xs := xs) (ys := ys) (c := c) (by omega) (by omega) ho.st hl2 hl3
  have hr := held_rightO (u := u) (l := l) (m := m) (xs := xs) (ys := ys) (t1 := t1) (t2 := t2) (c := c) (by omega) (by omega) ho.st hl1 hl2 hl3
  have nz := ne_shw kz
  have f2 : fit 2 = true := rfl
  obtain ⟨s, hs, ks⟩ : ∃ s : Str, reprG [.bool (dueB u l m xs ys c ss rows)] = some (.str s) ∧ PyData.strOk s = true := by
    cases dueB u l m xs ys c ss rows
    · exact ⟨"False", rfl, strOk_of _⟩
    · exact ⟨"True", rfl, strOk_of _⟩
  have ns' := ne_shw ks
  refine ⟨b2, .val (.bool (dueB u l m xs ys c ss rows)), .val (sqI t1 xs), .val (sqI t2 ys), .val (.str z), hb2, ?_⟩
  generalize hT : PyData.tuple [sqI t1 xs, sqI t2 ys] = TT at *
  generalize dueB u l m xs ys c ss rows = db at *
  generalize oddD c ss rows = O at *
  generalize hX1 : sqI t1 xs = X1 at *
  generalize hY1 : sqI t2 ys = Y1 at *
  generalize hX : sqI false xs = X at *
  generalize hY : sqI false ys = Y at *
  generalize cD u l m = CD at *
  unfold L_law_2
  rw [seq_nx (ρ' := SP ns k b2 (.val X) (.val Y) a5 (.val CD) (.val (.int u)) (.val (.int l)) (.val (.int m)) a10 a11 a12 (.val O) a14 (.val (.bool db)) (.val X1) (.val Y1) a18) (by unfold SP; simp [mPar3, mStore, mDone, mCallV, mCallB, mOwn, mPut, mRs, mCons, mVar, mBind, mPure, mLift, hd, e1, e2])]
  rw [seq_nx (ρ' := SP ns k b2 (.val X) (.val Y) a5 (.val CD) (.val (.int u)) (.val (.int l)) (.val (.int m)) a10 a11 a12 (.val O) a14 (.val (.bool db)) (.val X1) (.val Y1) (.val (.str z))) (by unfold SP; simp [mAsg, mStore, mDone, mCall1, mTup, mCons, mVar, mBind, mPure, mLift, f2, hT, rz])]
  rw [seq_nx (ρ' := SP ns k b2 (.val X) (.val Y) a5 (.val CD) (.val (.int u)) (.val (.int l)) (.val (.int m)) a10 a11 a12 (.val O) a14 (.val (.bool db)) (.val X1) (.val Y1) (.val (.str z))) (by unfold SP; simp [mIf, mBol, bolD, mBin, mCall1, mCallK, mRs, mCons, mVar, mBind, mPure, mPeek, mLift, hr, hs, ns'])]
  unfold SP
  simp [mIf, mBol, bolD, mBin, mCall1, mTup, mCons, mVar, mBind, mPure, mPeek, mLift, f2, hT, rz, nz]
theorem cell_turn (a2 : Sl) (h0 : 0 ≤ k) (h1 : k < 1000) : ∃ b2 b3 b4 b5 b6 b7 b8 b9 b10 b11 b12 b13 b14 b15 b16 b17 b18, L_law_3 [.scr ns, .val (.int k), a2, a3, a4, a5, a6, a7, a8, a9, a10, a11, a12, a13, a14, a15, a16, a17, a18] = some (.ok .nx [.scr ns, .val (.int k), b2, b3, b4, b5, b6, b7, b8, b9, b10, b11, b12, b13, b14, b15, b16, b17, b18]) := by
  obtain ⟨x0, e0, hx0⟩ := box_ok ns k h0 h1
  have s0 : mAsgS 2 0 2 fn__law_box (mCons (mVar 1) (mPure [])) [.scr ns, .val (.int k), a2, a3, a4, a5, a6, a7, a8, a9, a10, a11, a12, a13, a14, a15, a16, a17, a18] = some (.ok .nx (SP ns k x0 a3 a4 a5 a6 a7 a8 a9 a10 a11 a12 a13 a14 a15 a16 a17 a18)) := by
    unfold SP
    simp [mAsgS, mSeq, mIf, mBol, mBin, mBinL, mBind, mLift, mPure, mPeek, mVar, ixD, iI, bolD, mAsg, mCall1, mCallN, intD, modD, iIc, cMod, mStore, mStoreO, mDone, gSet, mOwn, mPut, setD, mRet, mDrop, mStuck, mTru, truD, mOrT, mAndT, mNotT, mAnd, mOr, mNot, mIsi, isiT_eq, typD, lenD, mCons, mTup, mLst, mLstN, mVal, oOr, addD, subD, mulD, mulI, iIc, cMul, ltD, leD, gtD, geD, gTupD, gCons2, gsNil, mCallV, mCallB, mRs, tupleD, mRetF, mChain, mScr, mScrLen, mScrIx, mMut, appD, max2D, min2D, mRng1, mRng2, rngD1, rngD2, rngOk, mItems, itemsD, mAsgN, mParEE, mParEN, mUn, negD, mCallN1, listD, unsE, powD, cPow, divD, cDiv, mFor, mSl, mSlL, slD, mNoPart, mPart, intO, mSlN, mSlNL, slN, mRevN, revO, mParNC, andD, orD, xorD, shrD, shlD, cShr, mStepN, mStepNL, stepO, mCatN, mCatNL, catN, e0]
  obtain ⟨xs, ys, x1, tw, hx1, et⟩ := two_rows_ok (k := k) hx0
  have q1 := tw.l1
  have q2 := tw.l2
  have s1 : mAsg (mCallB 2 2 fn__law_two_rows (mCons (mVar 1) (mPure []))) (gTupD 2 (gCons2 (mStore 3) (gCons2 (mStore 4) gsNil))) (SP ns k x0 a3 a4 a5 a6 a7 a8 a9 a10 a11 a12 a13 a14 a15 a16 a17 a18) = some (.ok .nx (SP ns k x1 (.val (sqI false xs)) (.val (sqI false ys)) a5 a6 a7 a8 a9 a10 a11 a12 a13 a14 a15 a16 a17 a18)) := by
    generalize sqI false xs = X at *
    generalize sqI false ys = Y at *
    unfold SP
    simp [mAsg, mCallB, mOwn, mPut, mRs, mCons, mVar, mBind, mPure, mLift, gTupD, gCons2, gsNil, mStore, mDone, et]
  obtain ⟨dr, x2, d0, d1, hx2, s2⟩ := lw_dear (ns := ns) (k := k) (a3 := .val (sqI false xs)) (a4 := .val (sqI false ys)) (a5 := a5) (a6 := a6) (a7 := a7) (a8 := a8) (a9 := a9) (a10 := a10) (a11 := a11) (a12 := a12) (a13 := a13) (a14 := a14) (a15 := a15) (a16 := a16) (a17 := a17) (a18 := a18) hx1
  obtain ⟨u, l, m, x3, hx3, s3⟩ := lw_abc (ns := ns) (k := k) (a3 := .val (sqI false xs)) (a4 := .val (sqI false ys)) (a6 := a6) (a7 := a7) (a8 := a8) (a9 := a9) (a10 := a10) (a11 := a11) (a12 := a12) (a13 := a13) (a14 := a14) (a15 := a15) (a16 := a16) (a17 := a17) (a18 := a18) hx2 d0 d1
  obtain ⟨RA, oA, hA⟩ := held_odd (u := u) (l := l) (m := m) q1 q2
  obtain ⟨RB, oB, hB⟩ := held_odd (u := 1) (l := 1) (m := 1) q1 q2
  obtain ⟨RC, oC, hC⟩ := held_odd (u := u) (l := l) (m := m) q2 q1
  have up : ∀ {d : D}, OddC 200 d → OddC 203 d := fun {d} h => by
    obtain ⟨c, ss, rows, rfl, ho⟩ := h
    exact ⟨c, ss, rows, rfl, ⟨ho.st, by have := ho.l1; omega, by have := ho.l2; omega, fun r hr => by have := ho.l3 r hr; omega⟩⟩
  have f3 : fit 3 = true := rfl
  have f1 : fit 1 = true := rfl
  have s4 : mAsg (mVar 6) (gTupD 3 (gCons2 (mStore 7) (gCons2 (mStore 8) (gCons2 (mStore 9) gsNil)))) (SP ns k x3 (.val (sqI false xs)) (.val (sqI false ys)) (.val (.int dr)) (.val (cD u l m)) a7 a8 a9 a10 a11 .un a13 a14 a15 a16 a17 a18) = some (.ok .nx (SP ns k x3 (.val (sqI false xs)) (.val (sqI false ys)) (.val (.int dr)) (.val (cD u l m)) (.val (.int u)) (.val (.int l)) (.val (.int m)) a10 a11 .un a13 a14 a15 a16 a17 a18)) := by
    generalize sqI false xs = X at *
    generalize sqI false ys = Y at *
    unfold SP cD
    simp [mAsg, mVar, gTupD, gCons2, gsNil, mStore, mDone, mBind, mPure]
  have s5 : mAsg (mCallK 2 3 [] [] fn_held (mCons (mVar 3) (mCons (mVar 4) (mPure []))) (mCons (mVar 7) (mCons (mVar 8) (mCons (mVar 9) (mPure []))))) (mStore 10) (SP ns k x3 (.val (sqI false xs)) (.val (sqI false ys)) (.val (.int dr)) (.val (cD u l m)) (.val (.int u)) (.val (.int l)) (.val (.int m)) a10 a11 .un a13 a14 a15 a16 a17 a18) = some (.ok .nx (SP ns k x3 (.val (sqI false xs)) (.val (sqI false ys)) (.val (.int dr)) (.val (cD u l m)) (.val (.int u)) (.val (.int l)) (.val (.int m)) (.val RA) a11 .un a13 a14 a15 a16 a17 a18)) := by
    generalize sqI false xs = X at *
    generalize sqI false ys = Y at *
    generalize cD u l m = CD at *
    unfold SP
    simp [mAsg, mStore, mDone, mCallK, mRs, mCons, mVar, mBind, mPure, mLift, hA]
  have s6 : mAsgN (mLstN (mCons (mVar 10) (mCons (mCallK 2 0 [] [.int 1, .int 1, .int 1] fn_held (mCons (mVar 3) (mCons (mVar 4) (mPure []))) (mPure [])) (mCons (mCallK 2 3 [] [] fn_held (mCons (mVar 4) (mCons (mVar 3) (mPure []))) (mCons (mVar 7) (mCons (mVar 8) (mCons (mVar 9) (mPure []))))) (mPure []))))) 11 (SP ns k x3 (.val (sqI false xs)) (.val (sqI false ys)) (.val (.int dr)) (.val (cD u l m)) (.val (.int u)) (.val (.int l)) (.val (.int m)) (.val RA) a11 .un a13 a14 a15 a16 a17 a18) = some (.ok .nx (SP ns k x3 (.val (sqI false xs)) (.val (sqI false ys)) (.val (.int dr)) (.val (cD u l m)) (.val (.int u)) (.val (.int l)) (.val (.int m)) (.val RA) (.own [RA, RB, RC]) .un a13 a14 a15 a16 a17 a18)) := by
    generalize sqI false xs = X at *
    generalize sqI false ys = Y at *
    generalize cD u l m = CD at *
    unfold SP
    simp [mAsgN, mLstN, mStoreO, mDone, mCallK, mRs, mCons, mVar, mBind, mPure, mLift, hB, hC, f3]
  obtain ⟨F, x4, b12, b13, b14, hF, lF, hx4, s7⟩ := lw_six (ns := ns) (k := k) (a3 := .val (sqI false xs)) (a4 := .val (sqI false ys)) (a5 := .val (.int dr)) (a6 := .val (cD u l m)) (a7 := .val (.int u)) (a8 := .val (.int l)) (a9 := .val (.int m)) (a12 := .un) (a13 := a13) (a14 := a14) (a15 := a15) (a16 := a16) (a17 := a17) (a18 := a18) hx3 oA (F0 := [RA, RB, RC]) (fun d hd => by
    simp only [List.mem_cons, List.not_mem_nil, or_false] at hd
    rcases hd with rfl | rfl | rfl
    · exact up oA
    · exact up oB
    · exact up oC) (by simp)
  obtain ⟨ρ', hlp, x5, c13, c15, c16, c17, c18, hx5, rfl⟩ := forL_inv (g := mStore 13) (body := L_law_2) (fun ρ => ∃ (bs : List D) (c13 c15 c16 c17 c18 : Sl), Bx bs ∧ ρ = SP ns k bs (.val (sqI false xs)) (.val (sqI false ys)) (.val (.int dr)) (.val (cD u l m)) (.val (.int u)) (.val (.int l)) (.val (.int m)) (.val RA) (.own F) b12 c13 b14 c15 c16 c17 c18) (F ++ [RA]) (SP ns k x4 (.val (sqI false xs)) (.val (sqI false ys)) (.val (.int dr)) (.val (cD u l m)) (.val (.int u)) (.val (.int l)) (.val (.int m)) (.val RA) (.own F) b12 b13 b14 a15 a16 a17 a18) ⟨x4, _, _, _, _, _, hx4, rfl⟩ (by
    rintro d ρ hd ⟨bs, c13, c15, c16, c17, c18, hb, rfl⟩
    obtain ⟨b', e15, e16, e17, e18, hb', e⟩ := lw_look (ns := ns) (k := k) (u := u) (l := l) (m := m) (a5 := .val (.int dr)) (a10 := .val RA) (a11 := .own F) (a12 := b12) (a14 := b14) (a15 := c15) (a16 := c16) (a17 := c17) (a18 := c18) hb tw (mem_ap hF (mem_1 (up oA)) d hd)
    exact ⟨_, _, rfl, .inl e, b', _, _, _, _, _, hb', rfl⟩)
  have s8 : R_law_2 (SP ns k x4 (.val (sqI false xs)) (.val (sqI false ys)) (.val (.int dr)) (.val (cD u l m)) (.val (.int u)) (.val (.int l)) (.val (.int m)) (.val RA) (.own F) b12 b13 b14 a15 a16 a17 a18) = some (.ok .nx (SP ns k x5 (.val (sqI false xs)) (.val (sqI false ys)) (.val (.int dr)) (.val (cD u l m)) (.val (.int u)) (.val (.int l)) (.val (.int m)) (.val RA) (.own F) b12 c13 b14 c15 c16 c17 c18)) := by
    have ca : addD (.list F) (.list [RA]) = some (.list (F ++ [RA])) := by
      have f : fit (F.length + 1) = true := fit_of2 (by omega)
      simp [addD, oOr, iI, catL, f]
    unfold R_law_2 mFor
    rw [bind_is (show mItems (mBinL addD 11 (mLst (mCons (mVar 10) (mPure [])))) (SP ns k x4 (.val (sqI false xs)) (.val (sqI false ys)) (.val (.int dr)) (.val (cD u l m)) (.val (.int u)) (.val (.int l)) (.val (.int m)) (.val RA) (.own F) b12 b13 b14 a15 a16 a17 a18) = some (.ok (F ++ [RA]) (SP ns k x4 (.val (sqI false xs)) (.val (sqI false ys)) (.val (.int dr)) (.val (cD u l m)) (.val (.int u)) (.val (.int l)) (.val (.int m)) (.val RA) (.own F) b12 b13 b14 a15 a16 a17 a18)) by
      clear hlp s7
      have it : itemsD (.list (F ++ [RA])) = some (F ++ [RA]) := rfl
      generalize F ++ [RA] = FF at *
      unfold SP
      generalize sqI false xs = X at *
      generalize sqI false ys = Y at *
      generalize cD u l m = CD at *
      simp [mItems, mBinL, mLst, mCons, mVar, mBind, mPure, mPeek, mLift, f1, ca, it])]
    exact hlp
  refine ⟨.own x5, .val (sqI false xs), .val (sqI false ys), .val (.int dr), .val (cD u l m), .val (.int u), .val (.int l), .val (.int m), .val RA, .own F, b12, c13, b14, c15, c16, c17, c18, ?_⟩
  unfold L_law_3
  exact (seq_nx s0).trans ((seq_nx s1).trans ((seq_nx s2).trans ((seq_nx s3).trans ((seq_nx s4).trans ((seq_nx s5).trans ((seq_nx s6).trans ((seq_nx s7).trans s8)))))))
end
theorem law_true (ns : List Int) (hn : ns.length ≤ 63) : fn_law ns = some (.ok (.bool true)) := by
  obtain ⟨M, h1, h2, hr⟩ := cells_rng (lo := 2) (hi := 5) (by omega) (by omega) (by omega) ns [.un, .un, .un, .un, .un, .un, .un, .un, .un, .un, .un, .un, .un, .un, .un, .un, .un, .un]
  obtain ⟨ρ', h, _⟩ := forL_inv (g := mStore 1) (body := L_law_3) (fun ρ => ∃ z a2 a3 a4 a5 a6 a7 a8 a9 a10 a11 a12 a13 a14 a15 a16 a17 a18, ρ = [.scr ns, z, a2, a3, a4, a5, a6, a7, a8, a9, a10, a11, a12, a13, a14, a15, a16, a17, a18]) (rngL 0 M) [.scr ns, .un, .un, .un, .un, .un, .un, .un, .un, .un, .un, .un, .un, .un, .un, .un, .un, .un, .un] ⟨_, _, _, _, _, _, _, _, _, _, _, _, _, _, _, _, _, _, rfl⟩ (by
    rintro x ρ hd ⟨z, a2, a3, a4, a5, a6, a7, a8, a9, a10, a11, a12, a13, a14, a15, a16, a17, a18, rfl⟩
    obtain ⟨t, rfl, t0, t1⟩ := rngL_mem hd
    obtain ⟨b2, b3, b4, b5, b6, b7, b8, b9, b10, b11, b12, b13, b14, b15, b16, b17, b18, q⟩ := cell_turn (ns := ns) (k := t) (a3 := a3) (a4 := a4) (a5 := a5) (a6 := a6) (a7 := a7) (a8 := a8) (a9 := a9) (a10 := a10) (a11 := a11) (a12 := a12) (a13 := a13) (a14 := a14) (a15 := a15) (a16 := a16) (a17 := a17) (a18 := a18) a2 t0 (by omega)
    exact ⟨_, _, by simp [mStore], Or.inl q, _, _, _, _, _, _, _, _, _, _, _, _, _, _, _, _, _, _, rfl⟩)
  have hR : R_law_3 [.scr ns, .un, .un, .un, .un, .un, .un, .un, .un, .un, .un, .un, .un, .un, .un, .un, .un, .un, .un] = some (.ok .nx ρ') := by
    unfold R_law_3 mFor
    rw [bind_is hr]
    exact h
  simp [fn_law, runL, m_law, env0S, mSeq, mIf, mBol, mBin, mBinL, mBind, mLift, mPure, mPeek, mVar, ixD, iI, bolD, mAsg, mCall1, mCallN, intD, modD, iIc, cMod, mStore, mStoreO, mDone, gSet, mOwn, mPut, setD, mRet, mDrop, mStuck, mTru, truD, mOrT, mAndT, mNotT, mAnd, mOr, mNot, mIsi, isiT_eq, typD, lenD, mCons, mTup, mLst, mLstN, mVal, oOr, addD, subD, mulD, mulI, iIc, cMul, ltD, leD, gtD, geD, gTupD, gCons2, gsNil, mCallV, mCallB, mRs, tupleD, mRetF, mChain, mScr, mScrLen, mScrIx, mMut, appD, max2D, min2D, mRng1, mRng2, rngD1, rngD2, rngOk, mItems, itemsD, mAsgN, mParEE, mParEN, mUn, negD, mCallN1, listD, unsE, powD, cPow, divD, cDiv, mFor, mSl, mSlL, slD, mNoPart, mPart, intO, mSlN, mSlNL, slN, mRevN, revO, mParNC, andD, orD, xorD, shrD, shlD, cShr, mStepN, mStepNL, stepO, mCatN, mCatNL, catN, hR]

end Pf
namespace Pf
open PySem PySem.Spec L2 Dd
theorem all_mk {l : PySem.W.OpenLaw} {w : World} {K : PySem.W.Frag} {h : Heap} {mg : Str → Option Value} {fa f1 f2 f3 f4 f5 f6 f7 f8 f9 f10 f11 f12 f13 f14 f15 f16 f17 f18 f19 f20 f21 f22 f23 f24 f25 : Addr} (X : K.In h) (G : h.Ns mainGlobals mg) (hfa : mg "law" = some (.ref fa))
    {od1 an1 od2 an2 od3 an3 od4 an4 od5 an5 od6 an6 od7 an7 od8 an8 od9 an9 od10 an10 od11 an11 od12 an12 od13 an13 od14 an14 od15 an15 od16 an16 od17 an17 od18 an18 od19 an19 od20 an20 od21 an21 od22 an22 od23 an23 od24 an24 od25 an25 : Option Addr} {sl1 sl2 sl3 sl4 sl5 sl6 sl7 sl8 sl9 sl10 sl11 sl12 sl13 sl14 sl15 sl16 sl17 sl18 sl19 sl20 sl21 sl22 sl23 sl24 sl25 : Array (Option Value)} {oc1 kV1 dc1 pm1 cd1 ct1 oc2 kV2 dc2 pm2 cd2 ct2 oc3 kV3 dc3 pm3 cd3 ct3 oc4 kV4 dc4 pm4 cd4 ct4 oc5 kV5 dc5 pm5 cd5 ct5 oc6 kV6 dc6 pm6 cd6 ct6 oc7  dc7 pm7 cd7 ct7 oc8 kV8 dc8 pm8 cd8 ct8 oc9 kV9 dc9 pm9 cd9 ct9 oc10 kV10 dc10 pm10 cd10 ct10 oc11 kV11 dc11 pm11 cd11 ct11 oc12 kV12 dc12 pm12 cd12 ct12 oc13  dc13 pm13 cd13 ct13 oc14 kV14 dc14 pm14 cd14 ct14 oc15 kV15 dc15 pm15 cd15 ct15 oc16 kV16 dc16 pm16 cd16 ct16 oc17 kV17 dc17 pm17 cd17 ct17 oc18 kV18 dc18 pm18 cd18 ct18 oc19 kV19 dc19 pm19 cd19 ct19 oc20 kV20 dc20 pm20 cd20 ct20 oc21 kV21 dc21 pm21 cd21 ct21 oc22 kV22 dc22 pm22 cd22 ct22 oc23 kV23 dc23 pm23 cd23 ct23 oc24 kV24 dc24 pm24 cd24 ct24 oc25 kV25 dc25 pm25 cd25 ct25 : Value} {gd_GOES : Addr} {es_GOES : Array DictEntry} {en_GOES : Nat} {tk_DGOES_0_0 : Tok} {tk_DGOES_0_1 : Tok} {a_DGOES_0 : Addr} {od_DGOES_0 : Option Addr} {n_DGOES_0 : Nat} {sl_DGOES_0 : Array (Option Value)} {tk_DGOES_1_0 : Tok} {tk_DGOES_1_1 : Tok} {a_DGOES_1 : Addr} {od_DGOES_1 : Option Addr} {n_DGOES_1 : Nat} {sl_DGOES_1 : Array (Option Value)} {tk_DGOES_2_0 : Tok} {tk_DGOES_2_1 : Tok} {a_DGOES_2 : Addr} {od_DGOES_2 : Option Addr} {n_DGOES_2 : Nat} {sl_DGOES_2 : Array (Option Value)} {tk_DGOES_3_0 : Tok} {tk_DGOES_3_1 : Tok} {a_DGOES_3 : Addr} {od_DGOES_3 : Option Addr} {n_DGOES_3 : Nat} {sl_DGOES_3 : Array (Option Value)} {kD7 : Addr} {tk7_unlike : Tok} {tk7_lack : Tok} {tk7_more : Tok} {kD13 : Addr} {tk13_unlike : Tok} {tk13_lack : Tok} {tk13_more : Tok}
    (a1 : PySem.W.nsIn K mainGlobals "is_whole" = some (some (.ref f1))) (l1 : K.lookup f1 = some ⟨oc1, od1, .func (PySem.W.fnOf "is_whole" "is_whole" (defArgs s_is_whole) (defBody s_is_whole) (defScope s_is_whole) .none kV1 dc1 pm1 an1 cd1 ct1), sl1⟩) (c1 : PySem.W.codeIn K cd1 "is_whole" = true) (k1 : PySem.W.keepIn K (.ref f1) = true)
    (a2 : PySem.W.nsIn K mainGlobals "word_of" = some (some (.ref f2))) (l2 : K.lookup f2 = some ⟨oc2, od2, .func (PySem.W.fnOf "word_of" "word_of" (defArgs s_word_of) (defBody s_word_of) (defScope s_word_of) .none kV2 dc2 pm2 an2 cd2 ct2), sl2⟩) (c2 : PySem.W.codeIn K cd2 "word_of" = true) (k2 : PySem.W.keepIn K (.ref f2) = true)
    (a3 : PySem.W.nsIn K mainGlobals "_behind" = some (some (.ref f3))) (l3 : K.lookup f3 = some ⟨oc3, od3, .func (PySem.W.fnOf "_behind" "_behind" (defArgs s__behind) (defBody s__behind) (defScope s__behind) .none kV3 dc3 pm3 an3 cd3 ct3), sl3⟩) (c3 : PySem.W.codeIn K cd3 "_behind" = true) (k3 : PySem.W.keepIn K (.ref f3) = true)
    (a4 : PySem.W.nsIn K mainGlobals "_steps_to" = some (some (.ref f4))) (l4 : K.lookup f4 = some ⟨oc4, od4, .func (PySem.W.fnOf "_steps_to" "_steps_to" (defArgs s__steps_to) (defBody s__steps_to) (defScope s__steps_to) .none kV4 dc4 pm4 an4 cd4 ct4), sl4⟩) (c4 : PySem.W.codeIn K cd4 "_steps_to" = true) (k4 : PySem.W.keepIn K (.ref f4) = true)
    (a5 : PySem.W.nsIn K mainGlobals "_table_of" = some (some (.ref f5))) (l5 : K.lookup f5 = some ⟨oc5, od5, .func (PySem.W.fnOf "_table_of" "_table_of" (defArgs s__table_of) (defBody s__table_of) (defScope s__table_of) .none kV5 dc5 pm5 an5 cd5 ct5), sl5⟩) (c5 : PySem.W.codeIn K cd5 "_table_of" = true) (k5 : PySem.W.keepIn K (.ref f5) = true)
    (a6 : PySem.W.nsIn K mainGlobals "_steps_by" = some (some (.ref f6))) (l6 : K.lookup f6 = some ⟨oc6, od6, .func (PySem.W.fnOf "_steps_by" "_steps_by" (defArgs s__steps_by) (defBody s__steps_by) (defScope s__steps_by) .none kV6 dc6 pm6 an6 cd6 ct6), sl6⟩) (c6 : PySem.W.codeIn K cd6 "_steps_by" = true) (k6 : PySem.W.keepIn K (.ref f6) = true)
    (a7 : PySem.W.nsIn K mainGlobals "held" = some (some (.ref f7))) (l7 : K.lookup f7 = some ⟨oc7, od7, .func (PySem.W.fnOf "held" "held" (defArgs s_held) (defBody s_held) (defScope s_held) .none (.ref kD7) dc7 pm7 an7 cd7 ct7), sl7⟩) (c7 : PySem.W.codeIn K cd7 "held" = true) (k7 : PySem.W.keepIn K (.ref f7) = true)
    (a8 : PySem.W.nsIn K mainGlobals "_are_whole" = some (some (.ref f8))) (l8 : K.lookup f8 = some ⟨oc8, od8, .func (PySem.W.fnOf "_are_whole" "_are_whole" (defArgs s__are_whole) (defBody s__are_whole) (defScope s__are_whole) .none kV8 dc8 pm8 an8 cd8 ct8), sl8⟩) (c8 : PySem.W.codeIn K cd8 "_are_whole" = true) (k8 : PySem.W.keepIn K (.ref f8) = true)
    (a9 : PySem.W.nsIn K mainGlobals "_is_step" = some (some (.ref f9))) (l9 : K.lookup f9 = some ⟨oc9, od9, .func (PySem.W.fnOf "_is_step" "_is_step" (defArgs s__is_step) (defBody s__is_step) (defScope s__is_step) .none kV9 dc9 pm9 an9 cd9 ct9), sl9⟩) (c9 : PySem.W.codeIn K cd9 "_is_step" = true) (k9 : PySem.W.keepIn K (.ref f9) = true)
    (a10 : PySem.W.nsIn K mainGlobals "_has_form" = some (some (.ref f10))) (l10 : K.lookup f10 = some ⟨oc10, od10, .func (PySem.W.fnOf "_has_form" "_has_form" (defArgs s__has_form) (defBody s__has_form) (defScope s__has_form) .none kV10 dc10 pm10 an10 cd10 ct10), sl10⟩) (c10 : PySem.W.codeIn K cd10 "_has_form" = true) (k10 : PySem.W.keepIn K (.ref f10) = true)
    (a11 : PySem.W.nsIn K mainGlobals "_rises_right" = some (some (.ref f11))) (l11 : K.lookup f11 = some ⟨oc11, od11, .func (PySem.W.fnOf "_rises_right" "_rises_right" (defArgs s__rises_right) (defBody s__rises_right) (defScope s__rises_right) .none kV11 dc11 pm11 an11 cd11 ct11), sl11⟩) (c11 : PySem.W.codeIn K cd11 "_rises_right" = true) (k11 : PySem.W.keepIn K (.ref f11) = true)
    (a12 : PySem.W.nsIn K mainGlobals "_go_through" = some (some (.ref f12))) (l12 : K.lookup f12 = some ⟨oc12, od12, .func (PySem.W.fnOf "_go_through" "_go_through" (defArgs s__go_through) (defBody s__go_through) (defScope s__go_through) .none kV12 dc12 pm12 an12 cd12 ct12), sl12⟩) (c12 : PySem.W.codeIn K cd12 "_go_through" = true) (k12 : PySem.W.keepIn K (.ref f12) = true)
    (a13 : PySem.W.nsIn K mainGlobals "held_right" = some (some (.ref f13))) (l13 : K.lookup f13 = some ⟨oc13, od13, .func (PySem.W.fnOf "held_right" "held_right" (defArgs s_held_right) (defBody s_held_right) (defScope s_held_right) .none (.ref kD13) dc13 pm13 an13 cd13 ct13), sl13⟩) (c13 : PySem.W.codeIn K cd13 "held_right" = true) (k13 : PySem.W.keepIn K (.ref f13) = true)
    (a14 : PySem.W.nsIn K mainGlobals "_law_box" = some (some (.ref f14))) (l14 : K.lookup f14 = some ⟨oc14, od14, .func (PySem.W.fnOf "_law_box" "_law_box" (defArgs s__law_box) (defBody s__law_box) (defScope s__law_box) .none kV14 dc14 pm14 an14 cd14 ct14), sl14⟩) (c14 : PySem.W.codeIn K cd14 "_law_box" = true) (k14 : PySem.W.keepIn K (.ref f14) = true)
    (a15 : PySem.W.nsIn K mainGlobals "_law_take" = some (some (.ref f15))) (l15 : K.lookup f15 = some ⟨oc15, od15, .func (PySem.W.fnOf "_law_take" "_law_take" (defArgs s__law_take) (defBody s__law_take) (defScope s__law_take) .none kV15 dc15 pm15 an15 cd15 ct15), sl15⟩) (c15 : PySem.W.codeIn K cd15 "_law_take" = true) (k15 : PySem.W.keepIn K (.ref f15) = true)
    (a16 : PySem.W.nsIn K mainGlobals "_law_pool" = some (some (.ref f16))) (l16 : K.lookup f16 = some ⟨oc16, od16, .func (PySem.W.fnOf "_law_pool" "_law_pool" (defArgs s__law_pool) (defBody s__law_pool) (defScope s__law_pool) .none kV16 dc16 pm16 an16 cd16 ct16), sl16⟩) (c16 : PySem.W.codeIn K cd16 "_law_pool" = true) (k16 : PySem.W.keepIn K (.ref f16) = true)
    (a17 : PySem.W.nsIn K mainGlobals "_law_kind" = some (some (.ref f17))) (l17 : K.lookup f17 = some ⟨oc17, od17, .func (PySem.W.fnOf "_law_kind" "_law_kind" (defArgs s__law_kind) (defBody s__law_kind) (defScope s__law_kind) .none kV17 dc17 pm17 an17 cd17 ct17), sl17⟩) (c17 : PySem.W.codeIn K cd17 "_law_kind" = true) (k17 : PySem.W.keepIn K (.ref f17) = true)
    (a18 : PySem.W.nsIn K mainGlobals "_law_two_rows" = some (some (.ref f18))) (l18 : K.lookup f18 = some ⟨oc18, od18, .func (PySem.W.fnOf "_law_two_rows" "_law_two_rows" (defArgs s__law_two_rows) (defBody s__law_two_rows) (defScope s__law_two_rows) .none kV18 dc18 pm18 an18 cd18 ct18), sl18⟩) (c18 : PySem.W.codeIn K cd18 "_law_two_rows" = true) (k18 : PySem.W.keepIn K (.ref f18) = true)
    (a19 : PySem.W.nsIn K mainGlobals "_law_cost" = some (some (.ref f19))) (l19 : K.lookup f19 = some ⟨oc19, od19, .func (PySem.W.fnOf "_law_cost" "_law_cost" (defArgs s__law_cost) (defBody s__law_cost) (defScope s__law_cost) .none kV19 dc19 pm19 an19 cd19 ct19), sl19⟩) (c19 : PySem.W.codeIn K cd19 "_law_cost" = true) (k19 : PySem.W.keepIn K (.ref f19) = true)
    (a20 : PySem.W.nsIn K mainGlobals "_law_table_right" = some (some (.ref f20))) (l20 : K.lookup f20 = some ⟨oc20, od20, .func (PySem.W.fnOf "_law_table_right" "_law_table_right" (defArgs s__law_table_right) (defBody s__law_table_right) (defScope s__law_table_right) .none kV20 dc20 pm20 an20 cd20 ct20), sl20⟩) (c20 : PySem.W.codeIn K cd20 "_law_table_right" = true) (k20 : PySem.W.keepIn K (.ref f20) = true)
    (a21 : PySem.W.nsIn K mainGlobals "_law_due" = some (some (.ref f21))) (l21 : K.lookup f21 = some ⟨oc21, od21, .func (PySem.W.fnOf "_law_due" "_law_due" (defArgs s__law_due) (defBody s__law_due) (defScope s__law_due) .none kV21 dc21 pm21 an21 cd21 ct21), sl21⟩) (c21 : PySem.W.codeIn K cd21 "_law_due" = true) (k21 : PySem.W.keepIn K (.ref f21) = true)
    (a22 : PySem.W.nsIn K mainGlobals "_law_odd_steps" = some (some (.ref f22))) (l22 : K.lookup f22 = some ⟨oc22, od22, .func (PySem.W.fnOf "_law_odd_steps" "_law_odd_steps" (defArgs s__law_odd_steps) (defBody s__law_odd_steps) (defScope s__law_odd_steps) .none kV22 dc22 pm22 an22 cd22 ct22), sl22⟩) (c22 : PySem.W.codeIn K cd22 "_law_odd_steps" = true) (k22 : PySem.W.keepIn K (.ref f22) = true)
    (a23 : PySem.W.nsIn K mainGlobals "_law_odd_rows" = some (some (.ref f23))) (l23 : K.lookup f23 = some ⟨oc23, od23, .func (PySem.W.fnOf "_law_odd_rows" "_law_odd_rows" (defArgs s__law_odd_rows) (defBody s__law_odd_rows) (defScope s__law_odd_rows) .none kV23 dc23 pm23 an23 cd23 ct23), sl23⟩) (c23 : PySem.W.codeIn K cd23 "_law_odd_rows" = true) (k23 : PySem.W.keepIn K (.ref f23) = true)
    (a24 : PySem.W.nsIn K mainGlobals "_law_odd" = some (some (.ref f24))) (l24 : K.lookup f24 = some ⟨oc24, od24, .func (PySem.W.fnOf "_law_odd" "_law_odd" (defArgs s__law_odd) (defBody s__law_odd) (defScope s__law_odd) .none kV24 dc24 pm24 an24 cd24 ct24), sl24⟩) (c24 : PySem.W.codeIn K cd24 "_law_odd" = true) (k24 : PySem.W.keepIn K (.ref f24) = true)
    (a25 : PySem.W.nsIn K mainGlobals "law" = some (some (.ref f25))) (l25 : K.lookup f25 = some ⟨oc25, od25, .func (PySem.W.fnOf "law" "law" (defArgs s_law) (defBody s_law) (defScope s_law) .none kV25 dc25 pm25 an25 cd25 ct25), sl25⟩) (c25 : PySem.W.codeIn K cd25 "law" = true) (k25 : PySem.W.keepIn K (.ref f25) = true)
    (z1 : PySem.W.nsIn K mainGlobals "all" = some none)
    (z2 : PySem.W.nsIn K mainGlobals "bool" = some none)
    (z3 : PySem.W.nsIn K mainGlobals "int" = some none)
    (z4 : PySem.W.nsIn K mainGlobals "isinstance" = some none)
    (z5 : PySem.W.nsIn K mainGlobals "len" = some none)
    (z6 : PySem.W.nsIn K mainGlobals "list" = some none)
    (z7 : PySem.W.nsIn K mainGlobals "max" = some none)
    (z8 : PySem.W.nsIn K mainGlobals "min" = some none)
    (z9 : PySem.W.nsIn K mainGlobals "range" = some none)
    (z10 : PySem.W.nsIn K mainGlobals "repr" = some none)
    (z11 : PySem.W.nsIn K mainGlobals "str" = some none)
    (z12 : PySem.W.nsIn K mainGlobals "sum" = some none)
    (z13 : PySem.W.nsIn K mainGlobals "tuple" = some none)
    (ng_GOES : PySem.W.nsIn K mainGlobals "GOES" = some (some (.ref gd_GOES))) (dl_GOES : K.lookup gd_GOES = some ⟨.type "dict", none, .dict es_GOES en_GOES, #[]⟩) (dk_GOES : PySem.W.KeysLit w.params es_GOES.toList) (dn_GOES : es_GOES.toList.map (fun e => keyTx e.key) = tb_GOES.map (fun q => some q.1)) (dz_GOES : (gd_GOES == sysModules) = false)
    (de_GOES_0 : PySem.W.nsIn K gd_GOES "same" = some (some (.ref a_DGOES_0)))
    (lk_DGOES_0 : K.lookup a_DGOES_0 = some ⟨.type "tuple", od_DGOES_0, .seq #[.int 1 tk_DGOES_0_0, .int 1 tk_DGOES_0_1] n_DGOES_0, sl_DGOES_0⟩)
    (de_GOES_1 : PySem.W.nsIn K gd_GOES "unlike" = some (some (.ref a_DGOES_1)))
    (lk_DGOES_1 : K.lookup a_DGOES_1 = some ⟨.type "tuple", od_DGOES_1, .seq #[.int 1 tk_DGOES_1_0, .int 1 tk_DGOES_1_1] n_DGOES_1, sl_DGOES_1⟩)
    (de_GOES_2 : PySem.W.nsIn K gd_GOES "lack" = some (some (.ref a_DGOES_2)))
    (lk_DGOES_2 : K.lookup a_DGOES_2 = some ⟨.type "tuple", od_DGOES_2, .seq #[.int 1 tk_DGOES_2_0, .int 0 tk_DGOES_2_1] n_DGOES_2, sl_DGOES_2⟩)
    (de_GOES_3 : PySem.W.nsIn K gd_GOES "more" = some (some (.ref a_DGOES_3)))
    (lk_DGOES_3 : K.lookup a_DGOES_3 = some ⟨.type "tuple", od_DGOES_3, .seq #[.int 0 tk_DGOES_3_0, .int 1 tk_DGOES_3_1] n_DGOES_3, sl_DGOES_3⟩)
    (kd7_unlike : PySem.W.nsIn K kD7 "unlike" = some (some (.int 1 tk7_unlike)))
    (kd7_lack : PySem.W.nsIn K kD7 "lack" = some (some (.int 1 tk7_lack)))
    (kd7_more : PySem.W.nsIn K kD7 "more" = some (some (.int 1 tk7_more)))
    (kd13_unlike : PySem.W.nsIn K kD13 "unlike" = some (some (.int 1 tk13_unlike)))
    (kd13_lack : PySem.W.nsIn K kD13 "lack" = some (some (.int 1 tk13_lack)))
    (kd13_more : PySem.W.nsIn K kD13 "more" = some (some (.int 1 tk13_more))) :
    ∃ fd : FuncData, (∀ (s : Shared) (v : Value), BindsTo s fd ⟨[v], []⟩ [("_law_script", v)]) ∧ ∀ base : Heap, K.In base → base.Ns mainGlobals mg → LawFn l.prog w K mg base fa fd "_law_script" 6 fn_law := by
  have e := hfa.symm.trans (PySem.W.mg_of X G a25)
  cases e
  have F1 := fun_mk (st := s_is_whole) l1 c1 k1
  have b1 := F1.binds (ps := ["thing"]) fun _ _ _ _ _ _ us hl => match us, hl with | [_], _ => rfl
  have F2 := fun_mk (st := s_word_of) l2 c2 k2
  have b2 := F2.binds (ps := ["thing"]) fun _ _ _ _ _ _ us hl => match us, hl with | [_], _ => rfl
  have F3 := fun_mk (st := s__behind) l3 c3 k3
  have b3 := F3.binds (ps := ["table", "costs", "step", "i", "j"]) fun _ _ _ _ _ _ us hl => match us, hl with | [_, _, _, _, _], _ => rfl
  have F4 := fun_mk (st := s__steps_to) l4 c4 k4
  have b4 := F4.binds (ps := ["one", "other", "i", "j"]) fun _ _ _ _ _ _ us hl => match us, hl with | [_, _, _, _], _ => rfl
  have F5 := fun_mk (st := s__table_of) l5 c5 k5
  have b5 := F5.binds (ps := ["one", "other", "costs"]) fun _ _ _ _ _ _ us hl => match us, hl with | [_, _, _], _ => rfl
  have F6 := fun_mk (st := s__steps_by) l6 c6 k6
  have b6 := F6.binds (ps := ["one", "other", "table", "costs"]) fun _ _ _ _ _ _ us hl => match us, hl with | [_, _, _, _], _ => rfl
  have F7 := fun_mk (st := s_held) l7 c7 k7
  have kb7_0 : KBn K (PySem.W.fnOf "held" "held" (defArgs s_held) (defBody s_held) (defScope s_held) .none (.ref kD7) dc7 pm7 an7 cd7 ct7) ["one", "other", "unlike", "lack", "more"] 2 ["unlike", "lack", "more"] (fun us ws => us ++ ([] ++ (ws ++ []))) (fun vs zs => vs ++ ([] ++ (zs ++ []))) := kbn_of (D := kD7) (ms := []) (fun q h => by cases h) (fun us ws h1 h2 => match us, ws, h1, h2 with | [_, _], [_, _, _], _, _ => rfl) (fun r1 r2 => r1.append (Vals.append (.nil : Vals [] []) (r2.append (.nil : Vals [] []))))
  have kb7_1 : KBn K (PySem.W.fnOf "held" "held" (defArgs s_held) (defBody s_held) (defScope s_held) .none (.ref kD7) dc7 pm7 an7 cd7 ct7) ["one", "other", "unlike", "lack", "more"] 2 [] (fun us ws => us ++ ([] ++ (ws ++ [.int 1 tk7_unlike, .int 1 tk7_lack, .int 1 tk7_more]))) (fun vs zs => vs ++ ([] ++ (zs ++ [.int 1, .int 1, .int 1]))) := kbn_of (D := kD7) (ms := [("unlike", .int 1 tk7_unlike), ("lack", .int 1 tk7_lack), ("more", .int 1 tk7_more)]) (fun q h => by
      simp only [List.mem_cons, List.not_mem_nil, or_false] at h
      rcases h with rfl | rfl | rfl <;> assumption) (fun us ws h1 h2 => match us, ws, h1, h2 with | [_, _], [], _, _ => ⟨_, _, _, _, _, _, rfl, rfl, ⟨_, _, _, _, _, _, rfl, rfl, ⟨_, _, _, _, _, _, rfl, rfl, rfl⟩⟩⟩) (fun r1 r2 => r1.append (Vals.append (.nil : Vals [] []) (r2.append ((.cons ⟨_, rfl⟩ (.cons ⟨_, rfl⟩ (.cons ⟨_, rfl⟩ .nil))) : Vals [.int 1, .int 1, .int 1] [.int 1 tk7_unlike, .int 1 tk7_lack, .int 1 tk7_more]))))
  have F8 := fun_mk (st := s__are_whole) l8 c8 k8
  have b8 := F8.binds (ps := ["things"]) fun _ _ _ _ _ _ us hl => match us, hl with | [_], _ => rfl
  have F9 := fun_mk (st := s__is_step) l9 c9 k9
  have b9 := F9.binds (ps := ["thing"]) fun _ _ _ _ _ _ us hl => match us, hl with | [_], _ => rfl
  have F10 := fun_mk (st := s__has_form) l10 c10 k10
  have b10 := F10.binds (ps := ["thing"]) fun _ _ _ _ _ _ us hl => match us, hl with | [_], _ => rfl
  have F11 := fun_mk (st := s__rises_right) l11 c11 k11
  have b11 := F11.binds (ps := ["one", "other", "table", "costs"]) fun _ _ _ _ _ _ us hl => match us, hl with | [_, _, _, _], _ => rfl
  have F12 := fun_mk (st := s__go_through) l12 c12 k12
  have b12 := F12.binds (ps := ["one", "other", "steps"]) fun _ _ _ _ _ _ us hl => match us, hl with | [_, _, _], _ => rfl
  have F13 := fun_mk (st := s_held_right) l13 c13 k13
  have kb13_2 : KBn K (PySem.W.fnOf "held_right" "held_right" (defArgs s_held_right) (defBody s_held_right) (defScope s_held_right) .none (.ref kD13) dc13 pm13 an13 cd13 ct13) ["one", "other", "some", "unlike", "lack", "more"] 3 ["unlike", "lack", "more"] (fun us ws => us ++ ([] ++ (ws ++ []))) (fun vs zs => vs ++ ([] ++ (zs ++ []))) := kbn_of (D := kD13) (ms := []) (fun q h => by cases h) (fun us ws h1 h2 => match us, ws, h1, h2 with | [_, _, _], [_, _, _], _, _ => rfl) (fun r1 r2 => r1.append (Vals.append (.nil : Vals [] []) (r2.append (.nil : Vals [] []))))
  have F14 := fun_mk (st := s__law_box) l14 c14 k14
  have b14 := F14.binds (ps := ["_law_script", "_law_k"]) fun _ _ _ _ _ _ us hl => match us, hl with | [_, _], _ => rfl
  have F15 := fun_mk (st := s__law_take) l15 c15 k15
  have b15 := F15.binds (ps := ["_law_box_here", "_law_many"]) fun _ _ _ _ _ _ us hl => match us, hl with | [_, _], _ => rfl
  have F16 := fun_mk (st := s__law_pool) l16 c16 k16
  have b16 := F16.binds (ps := ["_law_box_here"]) fun _ _ _ _ _ _ us hl => match us, hl with | [_], _ => rfl
  have F17 := fun_mk (st := s__law_kind) l17 c17 k17
  have b17 := F17.binds (ps := ["_law_box_here", "_law_row"]) fun _ _ _ _ _ _ us hl => match us, hl with | [_, _], _ => rfl
  have F18 := fun_mk (st := s__law_two_rows) l18 c18 k18
  have b18 := F18.binds (ps := ["_law_box_here", "_law_k"]) fun _ _ _ _ _ _ us hl => match us, hl with | [_, _], _ => rfl
  have F19 := fun_mk (st := s__law_cost) l19 c19 k19
  have b19 := F19.binds (ps := ["_law_one", "_law_other", "_law_steps", "_law_costs"]) fun _ _ _ _ _ _ us hl => match us, hl with | [_, _, _, _], _ => rfl
  have F20 := fun_mk (st := s__law_table_right) l20 c20 k20
  have b20 := F20.binds (ps := ["_law_one", "_law_other", "_law_rows", "_law_cost_here", "_law_costs"]) fun _ _ _ _ _ _ us hl => match us, hl with | [_, _, _, _, _], _ => rfl
  have F21 := fun_mk (st := s__law_due) l21 c21 k21
  have b21 := F21.binds (ps := ["_law_one", "_law_other", "_law_told", "_law_costs"]) fun _ _ _ _ _ _ us hl => match us, hl with | [_, _, _, _], _ => rfl
  have F22 := fun_mk (st := s__law_odd_steps) l22 c22 k22
  have b22 := F22.binds (ps := ["_law_box_here", "_law_steps"]) fun _ _ _ _ _ _ us hl => match us, hl with | [_, _], _ => rfl
  have F23 := fun_mk (st := s__law_odd_rows) l23 c23 k23
  have b23 := F23.binds (ps := ["_law_box_here", "_law_rows"]) fun _ _ _ _ _ _ us hl => match us, hl with | [_, _], _ => rfl
  have F24 := fun_mk (st := s__law_odd) l24 c24 k24
  have b24 := F24.binds (ps := ["_law_box_here", "_law_told"]) fun _ _ _ _ _ _ us hl => match us, hl with | [_, _], _ => rfl
  have F25 := fun_mk (st := s_law) l25 c25 k25
  have b25 := F25.binds (ps := ["_law_script"]) fun _ _ _ _ _ _ us hl => match us, hl with | [_], _ => rfl
  let T : Tx K mg w := ⟨_, _, F1, PySem.W.mg_of X G a1, b1, _, _, F2, PySem.W.mg_of X G a2, b2, _, _, F3, PySem.W.mg_of X G a3, b3, _, _, F4, PySem.W.mg_of X G a4, b4, _, _, F5, PySem.W.mg_of X G a5, b5, _, _, F6, PySem.W.mg_of X G a6, b6, _, _, F7, PySem.W.mg_of X G a7, _, kb7_0, _, kb7_1, _, _, F8, PySem.W.mg_of X G a8, b8, _, _, F9, PySem.W.mg_of X G a9, b9, _, _, F10, PySem.W.mg_of X G a10, b10, _, _, F11, PySem.W.mg_of X G a11, b11, _, _, F12, PySem.W.mg_of X G a12, b12, _, _, F13, PySem.W.mg_of X G a13, _, kb13_2, _, _, F14, PySem.W.mg_of X G a14, b14, _, _, F15, PySem.W.mg_of X G a15, b15, _, _, F16, PySem.W.mg_of X G a16, b16, _, _, F17, PySem.W.mg_of X G a17, b17, _, _, F18, PySem.W.mg_of X G a18, b18, _, _, F19, PySem.W.mg_of X G a19, b19, _, _, F20, PySem.W.mg_of X G a20, b20, _, _, F21, PySem.W.mg_of X G a21, b21, _, _, F22, PySem.W.mg_of X G a22, b22, _, _, F23, PySem.W.mg_of X G a23, b23, _, _, F24, PySem.W.mg_of X G a24, b24, _, _, F25, PySem.W.mg_of X G a25, b25, _, PySem.W.mg_of X G ng_GOES, (ktab_cons ⟨.ref a_DGOES_0, ⟨_, _, _, dl_GOES, dk_GOES, de_GOES_0, rfl⟩, (dp_ktup (xs := [.int 1, .int 1]) lk_DGOES_0 rfl rfl (by rw [sizeLine_eq]; exact Nat.le_of_ble_eq_true rfl) (show Vals [.int 1, .int 1] [.int 1 tk_DGOES_0_0, .int 1 tk_DGOES_0_1] from (.cons ⟨_, rfl⟩ (.cons ⟨_, rfl⟩ .nil))) (fun F => (.cons ((fun _ => .int _) F) (.cons ((fun _ => .int _) F) .nil))))⟩ (ktab_cons ⟨.ref a_DGOES_1, ⟨_, _, _, dl_GOES, dk_GOES, de_GOES_1, rfl⟩, (dp_ktup (xs := [.int 1, .int 1]) lk_DGOES_1 rfl rfl (by rw [sizeLine_eq]; exact Nat.le_of_ble_eq_true rfl) (show Vals [.int 1, .int 1] [.int 1 tk_DGOES_1_0, .int 1 tk_DGOES_1_1] from (.cons ⟨_, rfl⟩ (.cons ⟨_, rfl⟩ .nil))) (fun F => (.cons ((fun _ => .int _) F) (.cons ((fun _ => .int _) F) .nil))))⟩ (ktab_cons ⟨.ref a_DGOES_2, ⟨_, _, _, dl_GOES, dk_GOES, de_GOES_2, rfl⟩, (dp_ktup (xs := [.int 1, .int 0]) lk_DGOES_2 rfl rfl (by rw [sizeLine_eq]; exact Nat.le_of_ble_eq_true rfl) (show Vals [.int 1, .int 0] [.int 1 tk_DGOES_2_0, .int 0 tk_DGOES_2_1] from (.cons ⟨_, rfl⟩ (.cons ⟨_, rfl⟩ .nil))) (fun F => (.cons ((fun _ => .int _) F) (.cons ((fun _ => .int _) F) .nil))))⟩ (ktab_cons ⟨.ref a_DGOES_3, ⟨_, _, _, dl_GOES, dk_GOES, de_GOES_3, rfl⟩, (dp_ktup (xs := [.int 0, .int 1]) lk_DGOES_3 rfl rfl (by rw [sizeLine_eq]; exact Nat.le_of_ble_eq_true rfl) (show Vals [.int 0, .int 1] [.int 0 tk_DGOES_3_0, .int 1 tk_DGOES_3_1] from (.cons ⟨_, rfl⟩ (.cons ⟨_, rfl⟩ .nil))) (fun F => (.cons ((fun _ => .int _) F) (.cons ((fun _ => .int _) F) .nil))))⟩ ktab_nil)))), ⟨_, _, dl_GOES, dk_GOES, dn_GOES, dz_GOES⟩, PySem.W.mg_none_of X G z1, PySem.W.mg_none_of X G z2, PySem.W.mg_none_of X G z3, PySem.W.mg_none_of X G z4, PySem.W.mg_none_of X G z5, PySem.W.mg_none_of X G z6, PySem.W.mg_none_of X G z7, PySem.W.mg_none_of X G z8, PySem.W.mg_none_of X G z9, PySem.W.mg_none_of X G z10, PySem.W.mg_none_of X G z11, PySem.W.mg_none_of X G z12, PySem.W.mg_none_of X G z13⟩
  exact ⟨_, fun s v => .of_eq rfl, fun base _ _ => ok_law T⟩
end Pf
open PySem PySem.W PyProof.Rows
set_option maxRecDepth 100000 in
set_option maxHeartbeats 0 in
theorem PySem.Challenge.cw_wirelooker_k59_held_spoilt_holds : PySem.Challenge.rw_wirelooker_k59_held_spoilt.Holds := by
  w_on; o_law; k_head; (case hw => w_witness2)
  k_fill
  refine Dd.walk_ofG (l := PySem.Challenge.rw_wirelooker_k59_held_spoilt) (n := 63) (k := 6) (p := "_law_script") (g := Pf.fn_law) rfl (by decide) rfl ⟨rfl, by decide, by decide⟩ (fun w h Y => PySem.W.kIn_of Y) ?F (fun ns hl => Pf.law_true ns hl)
  case F =>
    intro w mg fa h KX G hmg
    refine' Pf.all_mk KX G hmg ?a1 ?l1 ?c1 ?k1 ?a2 ?l2 ?c2 ?k2 ?a3 ?l3 ?c3 ?k3 ?a4 ?l4 ?c4 ?k4 ?a5 ?l5 ?c5 ?k5 ?a6 ?l6 ?c6 ?k6 ?a7 ?l7 ?c7 ?k7 ?a8 ?l8 ?c8 ?k8 ?a9 ?l9 ?c9 ?k9 ?a10 ?l10 ?c10 ?k10 ?a11 ?l11 ?c11 ?k11 ?a12 ?l12 ?c12 ?k12 ?a13 ?l13 ?c13 ?k13 ?a14 ?l14 ?c14 ?k14 ?a15 ?l15 ?c15 ?k15 ?a16 ?l16 ?c16 ?k16 ?a17 ?l17 ?c17 ?k17 ?a18 ?l18 ?c18 ?k18 ?a19 ?l19 ?c19 ?k19 ?a20 ?l20 ?c20 ?k20 ?a21 ?l21 ?c21 ?k21 ?a22 ?l22 ?c22 ?k22 ?a23 ?l23 ?c23 ?k23 ?a24 ?l24 ?c24 ?k24 ?a25 ?l25 ?c25 ?k25 ?z1 ?z2 ?z3 ?z4 ?z5 ?z6 ?z7 ?z8 ?z9 ?z10 ?z11 ?z12 ?z13 ?ng_GOES ?dl_GOES ?dk_GOES ?dn_GOES ?dz_GOES ?de_GOES_0 ?lk_DGOES_0 ?de_GOES_1 ?lk_DGOES_1 ?de_GOES_2 ?lk_DGOES_2 ?de_GOES_3 ?lk_DGOES_3 ?kd7_unlike ?kd7_lack ?kd7_more ?kd13_unlike ?kd13_lack ?kd13_more
    (case a1 => k_is); (case l1 => k_is); (case c1 => k_is); (case k1 => k_is); (case a2 => k_is); (case l2 => k_is); (case c2 => k_is); (case k2 => k_is); (case a3 => k_is); (case l3 => k_is); (case c3 => k_is); (case k3 => k_is); (case a4 => k_is); (case l4 => k_is); (case c4 => k_is); (case k4 => k_is); (case a5 => k_is); (case l5 => k_is); (case c5 => k_is); (case k5 => k_is); (case a6 => k_is); (case l6 => k_is); (case c6 => k_is); (case k6 => k_is); (case a7 => k_is); (case l7 => k_is); (case c7 => k_is); (case k7 => k_is); (case a8 => k_is); (case l8 => k_is); (case c8 => k_is); (case k8 => k_is); (case a9 => k_is); (case l9 => k_is); (case c9 => k_is); (case k9 => k_is); (case a10 => k_is); (case l10 => k_is); (case c10 => k_is); (case k10 => k_is); (case a11 => k_is); (case l11 => k_is); (case c11 => k_is); (case k11 => k_is); (case a12 => k_is); (case l12 => k_is); (case c12 => k_is); (case k12 => k_is); (case a13 => k_is); (case l13 => k_is); (case c13 => k_is); (case k13 => k_is); (case a14 => k_is); (case l14 => k_is); (case c14 => k_is); (case k14 => k_is); (case a15 => k_is); (case l15 => k_is); (case c15 => k_is); (case k15 => k_is); (case a16 => k_is); (case l16 => k_is); (case c16 => k_is); (case k16 => k_is); (case a17 => k_is); (case l17 => k_is); (case c17 => k_is); (case k17 => k_is); (case a18 => k_is); (case l18 => k_is); (case c18 => k_is); (case k18 => k_is); (case a19 => k_is); (case l19 => k_is); (case c19 => k_is); (case k19 => k_is); (case a20 => k_is); (case l20 => k_is); (case c20 => k_is); (case k20 => k_is); (case a21 => k_is); (case l21 => k_is); (case c21 => k_is); (case k21 => k_is); (case a22 => k_is); (case l22 => k_is); (case c22 => k_is); (case k22 => k_is); (case a23 => k_is); (case l23 => k_is); (case c23 => k_is); (case k23 => k_is); (case a24 => k_is); (case l24 => k_is); (case c24 => k_is); (case k24 => k_is); (case a25 => k_is); (case l25 => k_is); (case c25 => k_is); (case k25 => k_is); (case z1 => k_is); (case z2 => k_is); (case z3 => k_is); (case z4 => k_is); (case z5 => k_is); (case z6 => k_is); (case z7 => k_is); (case z8 => k_is); (case z9 => k_is); (case z10 => k_is); (case z11 => k_is); (case z12 => k_is); (case z13 => k_is); (case ng_GOES => first | k_is | rfl | decide +kernel); (case dl_GOES => first | k_is | rfl | decide +kernel); (case dk_GOES => first | k_is | rfl | decide +kernel | (repeat first | exact trivial | refine ⟨⟨_, _, rfl, rfl⟩, ?_⟩)); (case dn_GOES => first | rfl | k_is | rfl | decide +kernel); (case dz_GOES => first | k_is | rfl | decide +kernel); (case de_GOES_0 => first | k_is | rfl | decide +kernel); (case lk_DGOES_0 => first | k_is | rfl | decide +kernel); (case de_GOES_1 => first | k_is | rfl | decide +kernel); (case lk_DGOES_1 => first | k_is | rfl | decide +kernel); (case de_GOES_2 => first | k_is | rfl | decide +kernel); (case lk_DGOES_2 => first | k_is | rfl | decide +kernel); (case de_GOES_3 => first | k_is | rfl | decide +kernel); (case lk_DGOES_3 => first | k_is | rfl | decide +kernel); (case kd7_unlike => first | k_is | rfl | decide +kernel); (case kd7_lack => first | k_is | rfl | decide +kernel); (case kd7_more => first | k_is | rfl | decide +kernel); (case kd13_unlike => first | k_is | rfl | decide +kernel); (case kd13_lack => first | k_is | rfl | decide +kernel); (case kd13_more => first | k_is | rfl | decide +kernel)
