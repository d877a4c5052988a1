import PyProof.Rows.All
import PySem.Challenge.RW_wirelooker_k15_whole_any_words_of_protoc
import Wide.All
import OpenK.AllK
import Wide.FinOn
import PyProof.EqAt
import PyProof.EqKinds
import PyProof.TupleCall
import HandS.Base
import HandS.Call
import HandS.List
import HandS.Comp
import HandS.Iter
import HandS.Text
import HandS.Words
import HandS.Exc
import HandS.Dict
import HandS.IsInst
import HandS.Flow
import HandS.Wide
import HandS.RaiseMore
import HandS.Zip
import HandS.CallSlots
import HandS.WordsExc
import HandS.ExcOwn
import HandS.SortInts
import HandS.TupMul
import HandS.Star
import HandS.Conv
import HandS.More
import HandS.SortRule
import HandS.TryOnly
import HandS.SortKw
import KE.DataMinMax
import ObjForm.LawKit
import HandS.TupAny
import HandS.Style
import PyProof.ReprRoads
import HandS.Ends
import PyProof.WalksMore
import PyProof.Rows.SumAny
import KE.GoesMore
import KE.GoesZip
import HandS.ExcField
import KE.KExcInit
import KE.KExcIs
import KE.KIsAll
import PyProof.ExcBaseAll.IndexError
import PyProof.ExcBaseAll.LookupError
import HandS.Defaults
import KE.KRevSl
import KE.GoesEnum
import HandS.ExcInit
import PyProof.ExcBaseAll.ValueError
import HandS.Steps
import HandS.StrSplit
import KE.KDictZip
import HandS.OwnIter
import HandS.Rev
import HandS.SetFor
import HandS.Strs
import KE.KExcPX
import KE.GoesRaise
import KE.KDictCopyH
import PyProof.StrOps2
import HandS.Deep
import HandS.Flt
import HandS.Small
set_option Elab.async false
set_option linter.all false
set_option maxRecDepth 100000
set_option maxHeartbeats 4000000
namespace Dd
open PySem PySem.Spec L2
abbrev D := PyData
inductive Sl where
  | un
  | val (d : D)
  | own (ds : List D)
  | io (ds : List D)
  | scr (ns : List Int)
  | dct (kvs : Option (Str × Addr) × List (Key × D))
  | nst (dss : List (List D))
abbrev En := List Sl
/-- a dict's entries (none) or an object's fields (its class and where it stands) -/
abbrev DK := Option (Str × Addr) × List (Key × D)
/-- isinstance of an object by the built-in types -/
structure InsOk (K : PySem.W.Frag) (C : Addr) : Prop where
  cl : Cls K C
  ha : PySem.W.findIn K (.ref C) "__class__" = some (some (.builtin "object.__class__"))
  hn : PySem.W.specialIn K (.builtin "object.__class__") "__get__" = some (some (.builtin "getset_descriptor.__get__"))
  htk : PySem.W.takesIn K (.builtin "object.__class__") = some true
  hm : PySem.W.mroIn K C (.type "object") = some true
  ki : ∀ T ∈ (["bool", "int", "str", "list", "tuple", "dict"] : List String), PySem.W.kitOne K (.ref C) (.type T) = some false
/-- fields by keys -/
def fldK (fs : List (Str × V)) : List (Key × V) := fs.map fun p => (.inr p.1, p.2)
/-- a key as data -/
def keyPD : Key → D
  | .inl n => .int n
  | .inr s => .str s
mutual
inductive Dp (K : PySem.W.Frag) (H : Hp) : V → D → Prop
  | non : Dp K H .non .none
  | bl (b : Bool) : Dp K H (.bl b) (.bool b)
  | int (i : Int) : Dp K H (.int i) (.int i)
  | str (x : Str) : Dp K H (.str x) (.str x)
  | lst {a : Addr} {xs : List V} {ds : List D} : Rd H a (.lst xs) → DpAll K H xs ds → Dp K H (.ref a) (.list ds)
  | tup {a : Addr} {xs : List V} {ds : List D} : SqT K H a xs → DpAll K H xs ds → Dp K H (.ref a) (.tuple ds)
  | dct {a : Addr} {ws : List (Key × V)} {kvs : List (D × D)} : Rd H a (.dK ws) → DpKV K H ws kvs → Dp K H (.ref a) (.dict kvs)
  | ins {a C dx : Addr} {fs : List (Str × V)} {cn : Str} {kvs : List (D × D)} : H a = some (.ins C dx fs) → PySem.W.nsIn K mainGlobals cn = some (some (.ref C)) → InsOk K C → DpKV K H (fldK fs) kvs → Dp K H (.ref a) (.dict ((.none, .str cn) :: kvs))
inductive DpAll (K : PySem.W.Frag) (H : Hp) : List V → List D → Prop
  | nil : DpAll K H [] []
  | cons {v : V} {vs : List V} {d : D} {ds : List D} : Dp K H v d → DpAll K H vs ds → DpAll K H (v :: vs) (d :: ds)
inductive DpKV (K : PySem.W.Frag) (H : Hp) : List (Key × V) → List (D × D) → Prop
  | nil : DpKV K H [] []
  | cons {k : Key} {v : V} {d : D} {ws : List (Key × V)} {kvs : List (D × D)} : Dp K H v d → DpKV K H ws kvs → DpKV K H ((k, v) :: ws) ((keyPD k, d) :: kvs)
end
mutual
theorem Dp.l2 {K : PySem.W.Frag} {F : Hp} : ∀ {v : V} {d : D}, Dp K F v d → d.hasDict = false → L2.Dp K F v d
  | _, _, .non, _ => .non
  | _, _, .bl b, _ => .bl b
  | _, _, .int i, _ => .int i
  | _, _, .str x, _ => .str x
  | _, _, .lst h t, n => .lst (.inl h) (DpAll.l2 t n)
  | _, _, .tup h t, n => .tup h (DpAll.l2 t n)
  | _, _, .dct h t, n => by cases n
  | _, _, .ins _ _ _ _, n => by cases n
theorem DpAll.l2 {K : PySem.W.Frag} {F : Hp} : ∀ {vs : List V} {ds : List D}, DpAll K F vs ds → PyData.hasDictAll ds = false → L2.DpAll K F vs ds
  | _, _, .nil, _ => .nil
  | _, _, .cons (d := d) (ds := ds) h t, n => by
    have n : (d.hasDict || PyData.hasDictAll ds) = false := n
    rw [Bool.or_eq_false_iff] at n
    exact .cons (Dp.l2 h n.1) (DpAll.l2 t n.2)
end
structure Ct where
  F0 : Hp
  H0 : Hp
  io : Option Addr
  pr : Hp
/-- a dict's entries -/
inductive KVs (K : PySem.W.Frag) (F : Hp) : List (Key × V) → List (Key × D) → Prop
  | nil : KVs K F [] []
  | cons {k : Key} {v : V} {d : D} {ws : List (Key × V)} {kvs : List (Key × D)} : Dp K F v d → KVs K F ws kvs → KVs K F ((k, v) :: ws) ((k, d) :: kvs)
/-- what a slot's dict or object is in the heap -/
def HK (K : PySem.W.Frag) (F : Hp) (p : Addr) (o : HO) (l : DK) : Prop := match l.1 with
  | none => ∃ ws, o = .dK ws ∧ KVs K F ws l.2
  | some (cn, q) => p = q ∧ ∃ C dx fs, o = .ins C dx fs ∧ PySem.W.nsIn K mainGlobals cn = some (some (.ref C)) ∧ InsOk K C ∧ KVs K F (fldK fs) l.2
theorem HK.dct {K : PySem.W.Frag} {F : Hp} {p : Addr} {ws : List (Key × V)} {kvs : List (Key × D)} (h : KVs K F ws kvs) : HK K F p (.dK ws) (none, kvs) := ⟨ws, rfl, h⟩
theorem HK.noLst {K : PySem.W.Frag} {F : Hp} {p : Addr} {l : DK} {vs : List V} (h : HK K F p (.lst vs) l) : False := by
  obtain ⟨t, kvs⟩ := l
  cases t with
  | none => obtain ⟨_, e, _⟩ := h; cases e
  | some cn => obtain ⟨_, _, _, _, e, _⟩ := h; cases e
/-- what this def alone holds -/
def Mine (F H0 pr : Hp) (q : Addr) : Prop := F q = none ∧ H0 q = none ∧ pr q = none
/-- the lists of an own list of lists -/
inductive Inn (K : PySem.W.Frag) (F H H0 pr : Hp) : List Addr → List (List D) → Prop
  | nil : Inn K F H H0 pr [] []
  | cons {q : Addr} {vs : List V} {ds : List D} {qs : List Addr} {dss : List (List D)} : H q = some (.lst vs) → DpAll K F vs ds → Mine F H0 pr q → Inn K F H H0 pr qs dss → Inn K F H H0 pr (q :: qs) (ds :: dss)
/-- q is one of the lists of the list of lists at v -/
def Cells (H : Hp) (v : Option (Option V)) (q : Addr) : Prop := ∃ (p : Addr) (ps : List Addr), v = some (some (.ref p)) ∧ H p = some (.lst (ps.map V.ref)) ∧ (q = p ∨ q ∈ ps)
/-- a slot's own dicts, own lists of lists -/
structure Dcs (K : PySem.W.Frag) (F H H0 pr : Hp) (σ : St) (ρ : En) : Prop where
  at' : ∀ (i : Nat) (kvs : DK), ρ[i]? = some (.dct kvs) → ∃ p o, σ[i]? = some (some (.ref p)) ∧ H p = some o ∧ HK K F p o kvs ∧ F p = none ∧ H0 p = none ∧ pr p = none
  sep : ∀ (i j : Nat) (k l : DK) (p : Addr), ρ[i]? = some (.dct k) → ρ[j]? = some (.dct l) → σ[i]? = some (some (.ref p)) → σ[j]? = some (some (.ref p)) → i = j
  nat : ∀ (i : Nat) (dss : List (List D)), ρ[i]? = some (.nst dss) → ∃ (p : Addr) (ps : List Addr), σ[i]? = some (some (.ref p)) ∧ H p = some (.lst (ps.map V.ref)) ∧ Mine F H0 pr p ∧ Inn K F H H0 pr ps dss ∧ p ∉ ps ∧ ps.Nodup
  nown : ∀ (i j : Nat) (dss : List (List D)) (es : List D) (q : Addr), ρ[i]? = some (.nst dss) → ρ[j]? = some (.own es) → σ[j]? = some (some (.ref q)) → Cells H σ[i]? q → False
  nsep : ∀ (i j : Nat) (dss ess : List (List D)) (q : Addr), ρ[i]? = some (.nst dss) → ρ[j]? = some (.nst ess) → Cells H σ[i]? q → Cells H σ[j]? q → i = j
  down : ∀ (i j : Nat) (kvs : DK) (es : List D) (q : Addr), ρ[i]? = some (.dct kvs) → ρ[j]? = some (.own es) → σ[i]? = some (some (.ref q)) → σ[j]? = some (some (.ref q)) → False
structure Ok (K : PySem.W.Frag) (c : Ct) (σ : St) (H F : Hp) (ρ : En) : Prop where
  len : σ.length = ρ.length
  sub : Same F H
  ge : Same c.F0 F
  fe : ∀ b o, F b = some o → c.F0 b = some o ∨ c.H0 b = none
  keep : ∀ b o, c.H0 b = some o → c.io ≠ some b → H b = some o
  iod : ∀ p, c.io = some p → F p = none ∧ c.H0 p ≠ none ∧ c.pr p = none ∧ ∃ xs, H p = some (.lst xs)
  prt : ∀ b o, c.pr b = some o → H b = some o ∧ F b = none ∧ c.H0 b = none
  val : ∀ (i : Nat) (d : D), ρ[i]? = some (.val d) → ∃ v, σ[i]? = some (some v) ∧ Dp K F v d
  own : ∀ (i : Nat) (ds : List D), ρ[i]? = some (.own ds) → ∃ p vs, σ[i]? = some (some (.ref p)) ∧ H p = some (.lst vs) ∧ DpAll K F vs ds ∧ F p = none ∧ c.H0 p = none ∧ c.pr p = none
  ios : ∀ (i : Nat) (ds : List D), ρ[i]? = some (.io ds) → i = 0 ∧ ∃ p vs, c.io = some p ∧ σ[i]? = some (some (.ref p)) ∧ H p = some (.lst vs) ∧ DpAll K F vs ds
  scr : ∀ (i : Nat) (ns : List Int), ρ[i]? = some (.scr ns) → c.io = none ∧ ∃ a, σ[i]? = some (some (.ref a)) ∧ SqL K c.H0 a (ns.map V.int)
  sep : ∀ (i j : Nat) (ds es : List D) (p : Addr), ρ[i]? = some (.own ds) → ρ[j]? = some (.own es) → σ[i]? = some (some (.ref p)) → σ[j]? = some (some (.ref p)) → i = j
  dcs : Dcs K F H c.H0 c.pr σ ρ

section
variable {K : PySem.W.Frag} {F F' : Hp}
theorem Rd.mono {a : Addr} {u : HO} (s : Same F F') (h : Rd F a u) : Rd F' a u := by
  rcases h with h | ⟨o, h⟩
  · exact .inl (s _ _ h)
  · exact .inr ⟨o, s _ _ h⟩
theorem SqL.mono {a : Addr} {xs : List V} (s : Same F F') (h : SqL K F a xs) : SqL K F' a xs := h.imp (Rd.mono s) id
theorem SqT.mono {a : Addr} {xs : List V} (s : Same F F') (h : SqT K F a xs) : SqT K F' a xs := h.imp (Rd.mono s) id
mutual
theorem Dp.mono (s : Same F F') : ∀ {v : V} {d : D}, Dp K F v d → Dp K F' v d
  | _, _, .non => .non
  | _, _, .bl b => .bl b
  | _, _, .int i => .int i
  | _, _, .str x => .str x
  | _, _, .lst h t => .lst (Rd.mono s h) (DpAll.mono s t)
  | _, _, .tup h t => .tup (SqT.mono s h) (DpAll.mono s t)
  | _, _, .dct h t => .dct (Rd.mono s h) (DpKV.mono s t)
  | _, _, .ins h c i t => .ins (s _ _ h) c i (DpKV.mono s t)
theorem DpAll.mono (s : Same F F') : ∀ {vs : List V} {ds : List D}, DpAll K F vs ds → DpAll K F' vs ds
  | _, _, .nil => .nil
  | _, _, .cons h t => .cons (Dp.mono s h) (DpAll.mono s t)
theorem DpKV.mono (s : Same F F') : ∀ {ws : List (Key × V)} {kvs : List (D × D)}, DpKV K F ws kvs → DpKV K F' ws kvs
  | _, _, .nil => .nil
  | _, _, .cons h t => .cons (Dp.mono s h) (DpKV.mono s t)
end
theorem DpAll.length : ∀ {vs : List V} {ds : List D}, DpAll K F vs ds → vs.length = ds.length
  | _, _, .nil => rfl
  | _, _, .cons _ t => by simp [DpAll.length t]
theorem DpAll.get : ∀ {vs : List V} {ds : List D} {i : Nat} {v : V}, DpAll K F vs ds → vs[i]? = some v → ∃ d, ds[i]? = some d ∧ Dp K F v d
  | _, _, _, _, .nil, e => by simp at e
  | _, _, 0, v, .cons h t, e => by
    simp at e; subst e
    exact ⟨_, rfl, h⟩
  | _, _, i + 1, v, .cons h t, e => by
    obtain ⟨d, q, r⟩ := DpAll.get (i := i) (v := v) t (by simpa using e)
    exact ⟨d, by simpa using q, r⟩
theorem DpAll.getd : ∀ {vs : List V} {ds : List D} {i : Nat} {d : D}, DpAll K F vs ds → ds[i]? = some d → ∃ v, vs[i]? = some v ∧ Dp K F v d
  | _, _, _, _, .nil, e => by simp at e
  | _, _, 0, v, .cons h t, e => by
    simp at e; subst e
    exact ⟨_, rfl, h⟩
  | _, _, i + 1, v, .cons h t, e => by
    obtain ⟨d, q, r⟩ := DpAll.getd (i := i) (d := v) t (by simpa using e)
    exact ⟨d, by simpa using q, r⟩
theorem DpAll.append : ∀ {vs ws : List V} {ds es : List D}, DpAll K F vs ds → DpAll K F ws es → DpAll K F (vs ++ ws) (ds ++ es)
  | _, _, _, _, .nil, s => s
  | _, _, _, _, .cons h t, s => .cons h (DpAll.append t s)
theorem DpAll.set {v : V} {d : D} (r : Dp K F v d) : ∀ {vs : List V} {ds : List D} (i : Nat), DpAll K F vs ds → DpAll K F (vs.set i v) (ds.set i d)
  | _, _, _, .nil => .nil
  | _, _, 0, .cons _ t => .cons r t
  | _, _, i + 1, .cons h t => .cons h (DpAll.set r i t)
theorem DpAll.take : ∀ {vs : List V} {ds : List D} (n : Nat), DpAll K F vs ds → DpAll K F (vs.take n) (ds.take n)
  | _, _, 0, _ => .nil
  | _, _, _ + 1, .nil => .nil
  | _, _, n + 1, .cons h t => .cons h (DpAll.take n t)
theorem DpAll.drop : ∀ {vs : List V} {ds : List D} (n : Nat), DpAll K F vs ds → DpAll K F (vs.drop n) (ds.drop n)
  | _, _, 0, h => h
  | _, _, _ + 1, .nil => .nil
  | _, _, n + 1, .cons _ t => DpAll.drop n t
theorem DpAll.eraseIdx : ∀ {vs : List V} {ds : List D} (i : Nat), DpAll K F vs ds → DpAll K F (vs.eraseIdx i) (ds.eraseIdx i)
  | _, _, _, .nil => .nil
  | _, _, 0, .cons _ t => t
  | _, _, i + 1, .cons h t => .cons h (DpAll.eraseIdx i t)
theorem DpAll.one {v : V} {d : D} (h : Dp K F v d) : DpAll K F [v] [d] := .cons h .nil
theorem DpAll.reverse : ∀ {vs : List V} {ds : List D}, DpAll K F vs ds → DpAll K F vs.reverse ds.reverse
  | _, _, .nil => .nil
  | _, _, .cons h t => by
    rw [List.reverse_cons, List.reverse_cons]
    exact DpAll.append (DpAll.reverse t) (DpAll.one h)
theorem DpAll.ints : ∀ {vs : List V} {ns : List Int}, DpAll K F vs (ns.map PyData.int) → vs = ns.map V.int
  | _, [], .nil => rfl
  | _, n :: ns, .cons h t => by
    cases h
    rw [DpAll.ints t]; rfl
theorem DpAll.bls : ∀ {vs : List V} {ns : List Bool}, DpAll K F vs (ns.map PyData.bool) → vs = ns.map V.bl
  | _, [], .nil => rfl
  | _, n :: ns, .cons h t => by
    cases h
    rw [DpAll.bls t]; rfl
theorem Same.updN {p : Addr} {o : HO} (h : F p = none) : Same F (upd F p o) := fun b u e => by
  rw [upd_ne (ne_of_none e h)]; exact e
theorem Same.upd2 {H : Hp} {p : Addr} {o : HO} (h : Same F H) : Same (upd F p o) (upd H p o) := fun b u e => by
  by_cases hb : b = p
  · subst hb; rw [upd_same] at e ⊢; exact e
  · rw [upd_ne hb] at e ⊢; exact h _ _ e
end

/-! ### own dicts -/
section
variable {K : PySem.W.Frag} {F F' H H' H0 pr pr' : Hp} {σ : St} {ρ : En}
theorem KVs.mono (s : Same F F') : ∀ {ws : List (Key × V)} {kvs : List (Key × D)}, KVs K F ws kvs → KVs K F' ws kvs
  | _, _, .nil => .nil
  | _, _, .cons h t => .cons (Dp.mono s h) (KVs.mono s t)
theorem HK.mono (s : Same F F') {p : Addr} {o : HO} {l : DK} (h : HK K F p o l) : HK K F' p o l := by
  obtain ⟨t, kvs⟩ := l
  cases t with
  | none => obtain ⟨ws, e, k⟩ := h; exact ⟨ws, e, KVs.mono s k⟩
  | some cn => obtain ⟨q, C, dx, fs, e, n, i, k⟩ := h; exact ⟨q, C, dx, fs, e, n, i, KVs.mono s k⟩
theorem refs_inj : ∀ {ps qs : List Addr}, ps.map V.ref = qs.map V.ref → ps = qs
  | [], [], _ => rfl
  | [], _ :: _, h => by cases h
  | _ :: _, [], h => by cases h
  | p :: ps, q :: qs, h => by
    rw [List.map_cons, List.map_cons] at h
    injection h with h1 h2
    injection h1 with h1
    rw [h1, refs_inj h2]
theorem Inn.cell : ∀ {qs : List Addr} {dss : List (List D)} {q : Addr}, Inn K F H H0 pr qs dss → q ∈ qs → (∃ vs, H q = some (.lst vs)) ∧ Mine F H0 pr q
  | _, _, _, .cons h _ m t, hq => by
    rcases List.mem_cons.mp hq with rfl | hq
    · exact ⟨⟨_, h⟩, m⟩
    · exact Inn.cell t hq
theorem Inn.tr (s : Same F F') : ∀ {qs : List Addr} {dss : List (List D)}, Inn K F H H0 pr qs dss → (∀ q ∈ qs, ∀ o, H q = some o → Mine F H0 pr q → H' q = some o ∧ F' q = none ∧ pr' q = none) → Inn K F' H' H0 pr' qs dss
  | _, _, .nil, _ => .nil
  | _, _, .cons h d m t, k => by
    obtain ⟨a, b, c⟩ := k _ List.mem_cons_self _ h m
    exact .cons a (DpAll.mono s d) ⟨b, m.2.1, c⟩ (Inn.tr s t fun q hq => k q (List.mem_cons_of_mem _ hq))
/-- q is held by a slot's dict or list of lists -/
def XC (H : Hp) (σ : St) (ρ : En) (q : Addr) : Prop := (∃ (j : Nat) (kvs : DK), ρ[j]? = some (.dct kvs) ∧ σ[j]? = some (some (.ref q))) ∨ (∃ (j : Nat) (dss : List (List D)), ρ[j]? = some (.nst dss) ∧ Cells H σ[j]? q)
theorem Dcs.cell {i : Nat} {dss : List (List D)} {q : Addr} (h : Dcs K F H H0 pr σ ρ) (e : ρ[i]? = some (.nst dss)) (c : Cells H σ[i]? q) : (∃ vs, H q = some (.lst vs)) ∧ Mine F H0 pr q := by
  obtain ⟨p, ps, a1, a2, a3, a4, _⟩ := h.nat i dss e
  obtain ⟨p', ps', b1, b2, b3⟩ := c
  rw [a1] at b1
  cases b1
  rw [a2] at b2
  have z := refs_inj (HO.lst.inj (Option.some.inj b2))
  subst z
  rcases b3 with rfl | hq
  · exact ⟨⟨_, a2⟩, a3⟩
  · exact Inn.cell a4 hq
theorem Dcs.tr (h : Dcs K F H H0 pr σ ρ) (s : Same F F') (k : ∀ q o, H q = some o → F q = none → H0 q = none → pr q = none → (∀ (j : Nat) (es : List D), ρ[j]? = some (.own es) → σ[j]? = some (some (.ref q)) → False) → XC H σ ρ q → H' q = some o ∧ F' q = none ∧ pr' q = none) : Dcs K F' H' H0 pr' σ ρ := by
  have kn : ∀ {i : Nat} {dss : List (List D)}, ρ[i]? = some (.nst dss) → ∀ {q : Addr} {o : HO}, Cells H σ[i]? q → H q = some o → H' q = some o ∧ F' q = none ∧ pr' q = none := fun {i dss} e {q o} c hq => by
    obtain ⟨_, m⟩ := h.cell e c
    exact k q o hq m.1 m.2.1 m.2.2 (fun j es x y => h.nown i j dss es q e x y c) (.inr ⟨i, dss, e, c⟩)
  have back : ∀ {i : Nat} {dss : List (List D)}, ρ[i]? = some (.nst dss) → ∀ {q : Addr}, Cells H' σ[i]? q → Cells H σ[i]? q := fun {i dss} e {q} c => by
    obtain ⟨p, ps, a1, a2, _⟩ := h.nat i dss e
    obtain ⟨c1, _, _⟩ := kn e ⟨p, ps, a1, a2, .inl rfl⟩ a2
    obtain ⟨p', ps', b1, b2, b3⟩ := c
    have ep : p' = p := by rw [a1] at b1; cases b1; rfl
    subst ep
    rw [c1] at b2
    have z := refs_inj (HO.lst.inj (Option.some.inj b2))
    subst z
    exact ⟨p', ps, a1, a2, b3⟩
  refine ⟨fun i kvs e => ?_, h.sep, fun i dss e => ?_, fun i j dss es q e f y c => h.nown i j dss es q e f y (back e c), fun i j dss ess q e f c d => h.nsep i j dss ess q e f (back e c) (back f d), h.down⟩
  · obtain ⟨p, ws, a1, a2, a3, a4, a5, a6⟩ := h.at' i kvs e
    obtain ⟨b1, b2, b3⟩ := k p _ a2 a4 a5 a6 (fun j es x y => h.down i j kvs es p e x a1 y) (.inl ⟨i, kvs, e, a1⟩)
    exact ⟨p, ws, a1, b1, HK.mono s a3, b2, a5, b3⟩
  · obtain ⟨p, ps, a1, a2, a3, a4, a5, a6⟩ := h.nat i dss e
    obtain ⟨b1, b2, b3⟩ := kn e ⟨p, ps, a1, a2, .inl rfl⟩ a2
    exact ⟨p, ps, a1, b1, ⟨b2, a3.2.1, b3⟩, Inn.tr s a4 (fun q hq o ho _ => kn e ⟨p, ps, a1, a2, .inr hq⟩ ho), a5, a6⟩
theorem Dcs.xmine (h : Dcs K F H H0 pr σ ρ) {q : Addr} (x : XC H σ ρ q) : Mine F H0 pr q ∧ ∃ o, H q = some o := by
  rcases x with ⟨j, kvs, a, b⟩ | ⟨j, dss, a, b⟩
  · obtain ⟨p, ws, a1, a2, a3, a4, a5, a6⟩ := h.at' j kvs a
    rw [b] at a1
    cases a1
    exact ⟨⟨a4, a5, a6⟩, _, a2⟩
  · obtain ⟨⟨vs, e⟩, m⟩ := h.cell a b
    exact ⟨m, _, e⟩
theorem Dcs.xback (h : Dcs K F H H0 pr σ ρ) (k : ∀ q o, H q = some o → H' q = some o) {q : Addr} (x : XC H' σ ρ q) : XC H σ ρ q := by
  rcases x with ⟨j, kvs, a, b⟩ | ⟨j, dss, a, p, ps, b1, b2, b3⟩
  · exact .inl ⟨j, kvs, a, b⟩
  · obtain ⟨p0, ps0, a1, a2, _⟩ := h.nat j dss a
    have ep : p0 = p := by rw [b1] at a1; cases a1; rfl
    subst ep
    have q2 := k _ _ a2
    rw [b2] at q2
    have z := refs_inj (HO.lst.inj (Option.some.inj q2))
    subst z
    exact .inr ⟨j, dss, a, p0, ps, b1, a2, b3⟩
theorem Dcs.sub {σ' : St} {ρ' : En} (h : Dcs K F H H0 pr σ ρ) (kd : ∀ (i : Nat) (kvs : DK), ρ'[i]? = some (.dct kvs) → ρ[i]? = some (.dct kvs) ∧ σ'[i]? = σ[i]?)
    (kn : ∀ (i : Nat) (dss : List (List D)), ρ'[i]? = some (.nst dss) → ρ[i]? = some (.nst dss) ∧ σ'[i]? = σ[i]?)
    (ko : ∀ (j : Nat) (es : List D) (q : Addr), ρ'[j]? = some (.own es) → σ'[j]? = some (some (.ref q)) → XC H σ ρ q → False) : Dcs K F H H0 pr σ' ρ' :=
  ⟨fun i kvs e => by
    obtain ⟨e1, e2⟩ := kd i kvs e
    rw [e2]; exact h.at' i kvs e1, fun i j a b p e f x y => by
    obtain ⟨e1, e2⟩ := kd i a e
    obtain ⟨f1, f2⟩ := kd j b f
    rw [e2] at x; rw [f2] at y
    exact h.sep i j a b p e1 f1 x y, fun i dss e => by
    obtain ⟨e1, e2⟩ := kn i dss e
    rw [e2]; exact h.nat i dss e1, fun i j dss es q e f y c => by
    obtain ⟨e1, e2⟩ := kn i dss e
    rw [e2] at c
    exact ko j es q f y (.inr ⟨i, dss, e1, c⟩), fun i j a b q e f x y => by
    obtain ⟨e1, e2⟩ := kn i a e
    obtain ⟨f1, f2⟩ := kn j b f
    rw [e2] at x; rw [f2] at y
    exact h.nsep i j a b q e1 f1 x y, fun i j kvs es q e f x y => by
    obtain ⟨e1, e2⟩ := kd i kvs e
    rw [e2] at x
    exact ko j es q f y (.inl ⟨i, kvs, e1, x⟩)⟩
theorem Dcs.no (k : ∀ (i : Nat) (kvs : DK), ρ[i]? = some (.dct kvs) → False) (kn : ∀ (i : Nat) (dss : List (List D)), ρ[i]? = some (.nst dss) → False) : Dcs K F H H0 pr σ ρ :=
  ⟨fun i kvs e => (k i kvs e).elim, fun i _ a _ _ e _ _ _ => (k i a e).elim, fun i dss e => (kn i dss e).elim, fun i _ dss _ _ e _ _ _ => (kn i dss e).elim, fun i _ dss _ _ e _ _ _ => (kn i dss e).elim, fun i _ a _ _ e _ _ _ => (k i a e).elim⟩
theorem Dcs.xown (h : Dcs K F H H0 pr σ ρ) {j : Nat} {es : List D} {q : Addr} (e : ρ[j]? = some (.own es)) (y : σ[j]? = some (some (.ref q))) (x : XC H σ ρ q) : False := by
  rcases x with ⟨i, kvs, a, b⟩ | ⟨i, dss, a, b⟩
  · exact h.down i j kvs es q a e b y
  · exact h.nown i j dss es q a e y b
theorem Dcs.set {u : Sl} {v : Option V} {i : Nat} (h : Dcs K F H H0 pr σ ρ) (hi : i < ρ.length) (hs : i < σ.length) (hu : ∀ kvs : DK, u ≠ .dct kvs) (hn : ∀ dss : List (List D), u ≠ .nst dss) (ho : ∀ (es : List D) (q : Addr), u = .own es → v = some (.ref q) → XC H σ ρ q → False) : Dcs K F H H0 pr (σ.set i v) (ρ.set i u) := by
  refine h.sub (fun j kvs e => ?_) (fun j kvs e => ?_) fun j es q e y x => ?_
  · by_cases q : i = j
    · subst q
      rw [List.getElem?_set_self hi] at e
      exact absurd (Option.some.inj e) (hu kvs)
    · rw [List.getElem?_set_ne q] at e ⊢
      exact ⟨e, rfl⟩
  · by_cases q : i = j
    · subst q
      rw [List.getElem?_set_self hi] at e
      exact absurd (Option.some.inj e) (hn kvs)
    · rw [List.getElem?_set_ne q] at e ⊢
      exact ⟨e, rfl⟩
  · by_cases z : i = j
    · subst z
      rw [List.getElem?_set_self hi] at e
      rw [List.getElem?_set_self hs] at y
      exact ho es q (Option.some.inj e) (Option.some.inj y) x
    · rw [List.getElem?_set_ne z] at e y
      exact h.xown e y x
theorem Dcs.setE {u : Sl} {i : Nat} (h : Dcs K F H H0 pr σ ρ) (hi : i < ρ.length) (hu : ∀ kvs : DK, u ≠ .dct kvs := by intro _ z; cases z) (hn : ∀ dss : List (List D), u ≠ .nst dss := by intro _ z; cases z) (ho : ∀ es : List D, u = .own es → ∃ es' : List D, ρ[i]? = some (.own es') := by intro _ z; cases z) : Dcs K F H H0 pr σ (ρ.set i u) := by
  refine h.sub (fun j kvs e => ?_) (fun j kvs e => ?_) fun j es q e y x => ?_
  · by_cases q : i = j
    · subst q
      rw [List.getElem?_set_self hi] at e
      exact absurd (Option.some.inj e) (hu kvs)
    · rw [List.getElem?_set_ne q] at e
      exact ⟨e, rfl⟩
  · by_cases q : i = j
    · subst q
      rw [List.getElem?_set_self hi] at e
      exact absurd (Option.some.inj e) (hn kvs)
    · rw [List.getElem?_set_ne q] at e
      exact ⟨e, rfl⟩
  · by_cases z : i = j
    · subst z
      rw [List.getElem?_set_self hi] at e
      obtain ⟨es', e'⟩ := ho es (Option.some.inj e)
      exact h.xown e' y x
    · rw [List.getElem?_set_ne z] at e
      exact h.xown e y x
end

/-! ### the heap grows -/
section
variable {K : PySem.W.Frag} {c : Ct} {σ : St} {H F : Hp} {ρ : En} {p : Addr} {o : HO}
theorem Ok.new (ok : Ok K c σ H F ρ) (h : H p = none) : F p = none ∧ c.H0 p = none ∧ c.pr p = none ∧ c.F0 p = none ∧ c.io ≠ some p := by
  have hF : F p = none := ok.sub.free h
  have hio : c.io ≠ some p := fun e => by
    obtain ⟨_, _, _, xs, q⟩ := ok.iod p e
    rw [h] at q; cases q
  refine ⟨hF, ?_, ?_, ok.ge.free hF, hio⟩
  · cases q : c.H0 p with
    | none => rfl
    | some u => rw [ok.keep p u q hio] at h; cases h
  · cases q : c.pr p with
    | none => rfl
    | some u => rw [(ok.prt p u q).1] at h; cases h
/-- a new object, seen by all -/
theorem Ok.alloc (ok : Ok K c σ H F ρ) (h : H p = none) : Ok K c σ (upd H p o) (upd F p o) ρ := by
  obtain ⟨hF, h0, hp, hF0, hio⟩ := ok.new h
  have s : Same F (upd F p o) := Same.updN hF
  have k : ∀ b u, H b = some u → upd H p o b = some u := Same.updN h
  refine ⟨ok.len, Same.upd2 ok.sub, ok.ge.trans s, fun b u e => ?_, fun b u e n => k _ _ (ok.keep b u e n), fun q e => ?_, fun b u e => ?_, fun i d e => ?_, fun i ds e => ?_, fun i ds e => ?_, ok.scr, ok.sep, ok.dcs.tr s fun q ws a1 a2 a3 a4 _ _ => ⟨k _ _ a1, by rw [upd_ne (ne_of_none a1 h)]; exact a2, a4⟩⟩
  · by_cases hb : b = p
    · subst hb; exact .inr h0
    · rw [upd_ne hb] at e; exact ok.fe b u e
  · obtain ⟨a1, a2, a3, xs, a4⟩ := ok.iod q e
    refine ⟨?_, a2, a3, xs, k _ _ a4⟩
    rw [upd_ne (ne_of_none a4 h)]; exact a1
  · obtain ⟨a1, a2, a3⟩ := ok.prt b u e
    refine ⟨k _ _ a1, ?_, a3⟩
    rw [upd_ne (ne_of_none a1 h)]; exact a2
  · obtain ⟨v, a1, a2⟩ := ok.val i d e
    exact ⟨v, a1, Dp.mono s a2⟩
  · obtain ⟨q, vs, a1, a2, a3, a4, a5, a6⟩ := ok.own i ds e
    refine ⟨q, vs, a1, k _ _ a2, DpAll.mono s a3, ?_, a5, a6⟩
    rw [upd_ne (ne_of_none a2 h)]; exact a4
  · obtain ⟨z, q, vs, a1, a2, a3, a4⟩ := ok.ios i ds e
    exact ⟨z, q, vs, a1, a2, k _ _ a3, DpAll.mono s a4⟩
abbrev Ct.put (c : Ct) (p : Addr) (o : HO) : Ct := { c with pr := upd c.pr p o }
/-- a new object, kept apart -/
theorem Ok.allocP (ok : Ok K c σ H F ρ) (h : H p = none) : Ok K (c.put p o) σ (upd H p o) F ρ := by
  obtain ⟨hF, h0, hp, hF0, hio⟩ := ok.new h
  have k : ∀ b u, H b = some u → upd H p o b = some u := Same.updN h
  refine ⟨ok.len, fun b u e => k _ _ (ok.sub b u e), ok.ge, ok.fe, fun b u e n => k _ _ (ok.keep b u e n), fun q e => ?_, fun b u e => ?_, ok.val, fun i ds e => ?_, fun i ds e => ?_, ok.scr, ok.sep, ok.dcs.tr (Same.refl F) fun q ws a1 a2 a3 a4 _ _ => ⟨k _ _ a1, a2, (upd_ne (ne_of_none a1 h)).trans a4⟩⟩
  · obtain ⟨a1, a2, a3, xs, a4⟩ := ok.iod q e
    refine ⟨a1, a2, ?_, xs, k _ _ a4⟩
    show upd c.pr p o q = none
    rw [upd_ne (ne_of_none a4 h)]; exact a3
  · by_cases hb : b = p
    · subst hb
      refine ⟨?_, hF, h0⟩
      rw [upd_same]; exact (upd_same (H := c.pr)).symm.trans e
    · have e' : c.pr b = some u := by rw [← e]; exact (upd_ne hb).symm
      obtain ⟨a1, a2, a3⟩ := ok.prt b u e'
      exact ⟨k _ _ a1, a2, a3⟩
  · obtain ⟨q, vs, a1, a2, a3, a4, a5, a6⟩ := ok.own i ds e
    refine ⟨q, vs, a1, k _ _ a2, a3, a4, a5, ?_⟩
    show upd c.pr p o q = none
    rw [upd_ne (ne_of_none a2 h)]; exact a6
  · obtain ⟨z, q, vs, a1, a2, a3, a4⟩ := ok.ios i ds e
    exact ⟨z, q, vs, a1, a2, k _ _ a3, a4⟩
/-- what is kept apart is changed -/
theorem Ok.putP {o' : HO} (ok : Ok K (c.put p o) σ H F ρ) : Ok K (c.put p o') σ (upd H p o') F ρ := by
  obtain ⟨hH, hF, h0⟩ := ok.prt p o upd_same
  have hio : c.io ≠ some p := fun e => by
    obtain ⟨_, a2, _⟩ := ok.iod p e
    exact a2 h0
  refine ⟨ok.len, fun b u e => ?_, ok.ge, ok.fe, fun b u e n => ?_, fun q e => ?_, fun b u e => ?_, ok.val, fun i ds e => ?_, fun i ds e => ?_, ok.scr, ok.sep, ok.dcs.tr (Same.refl F) fun q ws a1 a2 a3 a4 _ _ => by
    have ne : q ≠ p := fun z => by
      subst z
      have a4' : upd c.pr q o q = none := a4
      rw [upd_same] at a4'; cases a4'
    exact ⟨by rw [upd_ne ne]; exact a1, a2, (upd_ne ne).trans ((upd_ne ne).symm.trans a4)⟩⟩
  · rw [upd_ne (ne_of_none e hF)]; exact ok.sub b u e
  · rw [upd_ne (ne_of_none e h0)]; exact ok.keep b u e n
  · obtain ⟨a1, a2, a3, xs, a4⟩ := ok.iod q e
    have ne : q ≠ p := fun z => by subst z; exact a2 h0
    refine ⟨a1, a2, ?_, xs, by rw [upd_ne ne]; exact a4⟩
    show upd c.pr p o' q = none
    rw [upd_ne ne]; exact (upd_ne ne).symm.trans a3
  · by_cases hb : b = p
    · subst hb
      refine ⟨?_, hF, h0⟩
      rw [upd_same]; exact (upd_same (H := c.pr)).symm.trans e
    · have e' : (c.put p o).pr b = some u := (upd_ne hb).trans ((upd_ne hb).symm.trans e)
      obtain ⟨a1, a2, a3⟩ := ok.prt b u e'
      exact ⟨by rw [upd_ne hb]; exact a1, a2, a3⟩
  · obtain ⟨q, vs, a1, a2, a3, a4, a5, a6⟩ := ok.own i ds e
    have ne : q ≠ p := fun z => by
      subst z
      have a6' : upd c.pr q o q = none := a6
      rw [upd_same] at a6'; cases a6'
    refine ⟨q, vs, a1, by rw [upd_ne ne]; exact a2, a3, a4, a5, ?_⟩
    show upd c.pr p o' q = none
    rw [upd_ne ne]; exact (upd_ne ne).symm.trans a6
  · obtain ⟨z, q, vs, a1, a2, a3, a4⟩ := ok.ios i ds e
    have ne : q ≠ p := fun z => by subst z; exact hio a1
    exact ⟨z, q, vs, a1, a2, by rw [upd_ne ne]; exact a3, a4⟩
/-- what was kept apart is seen by all -/
theorem Ok.freeP (ok : Ok K (c.put p o) σ H F ρ) (hp : c.pr p = none) : Ok K c σ H (upd F p o) ρ := by
  obtain ⟨hH, hF, h0⟩ := ok.prt p o upd_same
  have s : Same F (upd F p o) := Same.updN hF
  refine ⟨ok.len, fun b u e => ?_, ok.ge.trans s, fun b u e => ?_, ok.keep, fun q e => ?_, fun b u e => ?_, fun i d e => ?_, fun i ds e => ?_, fun i ds e => ?_, ok.scr, ok.sep, ok.dcs.tr s fun q ws a1 a2 a3 a4 _ _ => by
    have ne : q ≠ p := fun z => by
      subst z
      have a4' : upd c.pr q o q = none := a4
      rw [upd_same] at a4'; cases a4'
    exact ⟨a1, by rw [upd_ne ne]; exact a2, (upd_ne ne).symm.trans a4⟩⟩
  · by_cases hb : b = p
    · subst hb; rw [upd_same] at e; cases e; exact hH
    · rw [upd_ne hb] at e; exact ok.sub b u e
  · by_cases hb : b = p
    · subst hb; exact .inr h0
    · rw [upd_ne hb] at e; exact ok.fe b u e
  · obtain ⟨a1, a2, a3, xs, a4⟩ := ok.iod q e
    have ne : q ≠ p := fun z => by subst z; exact a2 h0
    exact ⟨by rw [upd_ne ne]; exact a1, a2, (upd_ne ne).symm.trans a3, xs, a4⟩
  · have ne : b ≠ p := fun z => by subst z; rw [hp] at e; cases e
    obtain ⟨a1, a2, a3⟩ := ok.prt b u ((upd_ne ne).trans e)
    exact ⟨a1, by rw [upd_ne ne]; exact a2, a3⟩
  · obtain ⟨v, a1, a2⟩ := ok.val i d e
    exact ⟨v, a1, Dp.mono s a2⟩
  · obtain ⟨q, vs, a1, a2, a3, a4, a5, a6⟩ := ok.own i ds e
    have ne : q ≠ p := fun z => by
      subst z
      have a6' : upd c.pr q o q = none := a6
      rw [upd_same] at a6'; cases a6'
    exact ⟨q, vs, a1, a2, DpAll.mono s a3, by rw [upd_ne ne]; exact a4, a5, (upd_ne ne).symm.trans a6⟩
  · obtain ⟨z, q, vs, a1, a2, a3, a4⟩ := ok.ios i ds e
    exact ⟨z, q, vs, a1, a2, a3, DpAll.mono s a4⟩

theorem get_set {α : Type} {l : List α} {i j : Nat} {a : α} (h : i < l.length) : (l.set i a)[j]? = if i = j then some a else l[j]? := by
  by_cases e : i = j
  · subst e; simp [h]
  · rw [List.getElem?_set_ne e, if_neg e]
/-- slot i gets any value; u says what is known of it -/
theorem Ok.set {v : Option V} {u : Sl} {i : Nat} (ok : Ok K c σ H F ρ) (hi : i < ρ.length)
    (hv : ∀ d, u = .val d → ∃ w, v = some w ∧ Dp K F w d)
    (ho : ∀ ds, u = .own ds → ∃ p vs, v = some (.ref p) ∧ H p = some (.lst vs) ∧ DpAll K F vs ds ∧ F p = none ∧ c.H0 p = none ∧ c.pr p = none ∧ ∀ (j : Nat) (es : List D), ρ[j]? = some (.own es) → σ[j]? = some (some (.ref p)) → j = i)
    (hio : ∀ ds, u ≠ .io ds) (hsc : ∀ ns, u ≠ .scr ns) (hdc : ∀ kvs : DK, u ≠ .dct kvs := by intro _ z; cases z) (hns : ∀ dss : List (List D), u ≠ .nst dss := by intro _ z; cases z) (hxo : ∀ (es : List D) (q : Addr), u = .own es → v = some (.ref q) → XC H σ ρ q → False := by intro _ _ z; cases z) : Ok K c (σ.set i v) H F (ρ.set i u) := by
  have hs : i < σ.length := by rw [ok.len]; exact hi
  refine ⟨by rw [List.length_set, List.length_set]; exact ok.len, ok.sub, ok.ge, ok.fe, ok.keep, ok.iod, ok.prt, fun j d e => ?_, fun j ds e => ?_, fun j ds e => ?_, fun j ns e => ?_, fun j k ds es p a b x y => ?_, ok.dcs.set hi hs hdc hns hxo⟩
  · rw [get_set hi] at e
    rw [get_set hs]
    by_cases q : i = j
    · rw [if_pos q] at e ⊢
      obtain ⟨w, e1, e2⟩ := hv d (Option.some.inj e)
      exact ⟨w, by rw [e1], e2⟩
    · rw [if_neg q] at e ⊢
      exact ok.val j d e
  · rw [get_set hi] at e
    rw [get_set hs]
    by_cases q : i = j
    · rw [if_pos q] at e ⊢
      obtain ⟨p, vs, e1, e2, e3, e4, e5, e6, _⟩ := ho ds (Option.some.inj e)
      exact ⟨p, vs, by rw [e1], e2, e3, e4, e5, e6⟩
    · rw [if_neg q] at e ⊢
      exact ok.own j ds e
  · rw [get_set hi] at e
    rw [get_set hs]
    by_cases q : i = j
    · rw [if_pos q] at e
      exact absurd (Option.some.inj e) (hio ds)
    · rw [if_neg q] at e ⊢
      exact ok.ios j ds e
  · rw [get_set hi] at e
    rw [get_set hs]
    by_cases q : i = j
    · rw [if_pos q] at e
      exact absurd (Option.some.inj e) (hsc ns)
    · rw [if_neg q] at e ⊢
      exact ok.scr j ns e
  · rw [get_set hi] at a b
    rw [get_set hs] at x y
    by_cases q : i = j
    · rw [if_pos q] at a x
      obtain ⟨p', vs, e1, _, _, _, _, _, e7⟩ := ho ds (Option.some.inj a)
      have ep : p' = p := by
        have z := Option.some.inj x
        rw [e1] at z
        cases z; rfl
      subst ep
      by_cases q2 : i = k
      · rw [← q, q2]
      · rw [if_neg q2] at b y
        rw [e7 k es b y]; exact q.symm
    · rw [if_neg q] at a x
      by_cases q2 : i = k
      · rw [if_pos q2] at b y
        obtain ⟨p', vs, e1, _, _, _, _, _, e7⟩ := ho es (Option.some.inj b)
        have ep : p' = p := by
          have z := Option.some.inj y
          rw [e1] at z
          cases z; rfl
        subst ep
        rw [e7 j ds a x]; exact q2
      · rw [if_neg q2] at b y
        exact ok.sep j k ds es p a b x y
theorem Ok.setV {v : V} {d : D} {i : Nat} (ok : Ok K c σ H F ρ) (hi : i < ρ.length) (h : Dp K F v d) : Ok K c (σ.set i (some v)) H F (ρ.set i (.val d)) :=
  ok.set hi (fun d' e => ⟨v, rfl, by cases e; exact h⟩) (fun _ e => by cases e) (fun _ e => by cases e) (fun _ e => by cases e)
theorem Ok.setU {v : Option V} {i : Nat} (ok : Ok K c σ H F ρ) (hi : i < ρ.length) : Ok K c (σ.set i v) H F (ρ.set i .un) :=
  ok.set hi (fun d' e => by cases e) (fun _ e => by cases e) (fun _ e => by cases e) (fun _ e => by cases e)
/-- what was kept apart becomes a slot's own -/
theorem Ok.ownP {xs : List V} {ds : List D} {i : Nat} (ok : Ok K (c.put p (.lst xs)) σ H F ρ) (hp : c.pr p = none) (hd : DpAll K F xs ds) (hi : i < ρ.length) : Ok K c (σ.set i (some (.ref p))) H F (ρ.set i (.own ds)) := by
  obtain ⟨hH, hF, h0⟩ := ok.prt p _ upd_same
  have nown : ∀ {q : Addr}, (c.put p (.lst xs)).pr q = none → q ≠ p := fun {q} a z => by
    subst z
    have a' : upd c.pr q (.lst xs) q = none := a
    rw [upd_same] at a'; cases a'
  have ok' : Ok K c σ H F ρ := by
    refine ⟨ok.len, ok.sub, ok.ge, ok.fe, ok.keep, fun q e => ?_, fun b u e => ?_, ok.val, fun j es e => ?_, ok.ios, ok.scr, ok.sep, ok.dcs.tr (Same.refl F) fun q ws a1 a2 a3 a4 _ _ => ⟨a1, a2, (upd_ne (nown a4)).symm.trans a4⟩⟩
    · obtain ⟨a1, a2, a3, a4⟩ := ok.iod q e
      exact ⟨a1, a2, (upd_ne (nown a3)).symm.trans a3, a4⟩
    · have ne : b ≠ p := fun z => by subst z; rw [hp] at e; cases e
      exact ok.prt b u ((upd_ne ne).trans e)
    · obtain ⟨q, vs, a1, a2, a3, a4, a5, a6⟩ := ok.own j es e
      exact ⟨q, vs, a1, a2, a3, a4, a5, (upd_ne (nown a6)).symm.trans a6⟩
  refine ok'.set hi (fun d' e => by cases e) (fun es e => ?_) (fun _ e => by cases e) (fun _ e => by cases e) (hxo := fun _ q _ y x => by cases y; exact nown (ok.dcs.xmine x).1.2.2 rfl)
  cases e
  refine ⟨p, xs, rfl, hH, hd, hF, h0, hp, fun j es a b => ?_⟩
  obtain ⟨q, vs, a1, _, _, _, _, a6⟩ := ok.own j es a
  rw [b] at a1
  have z : p = q := by cases a1; rfl
  exact absurd z.symm (nown a6)
/-- a slot's own list is from now on seen by all -/
theorem Ok.frz {i : Nat} {ds : List D} (ok : Ok K c σ H F ρ) (e : ρ[i]? = some (.own ds)) : ∃ (F' : Hp) (p : Addr), Same F F' ∧ σ[i]? = some (some (.ref p)) ∧ Dp K F' (.ref p) (.list ds) ∧ Ok K c σ H F' (ρ.set i (.val (.list ds))) := by
  obtain ⟨p, vs, a1, a2, a3, a4, a5, a6⟩ := ok.own i ds e
  have hi : i < ρ.length := by
    rcases Nat.lt_or_ge i ρ.length with h | h
    · exact h
    · rw [List.getElem?_eq_none h] at e; cases e
  have s : Same F (upd F p (.lst vs)) := Same.updN a4
  have dp : Dp K (upd F p (.lst vs)) (.ref p) (.list ds) := .lst (.inl upd_same) (DpAll.mono s a3)
  refine ⟨upd F p (.lst vs), p, s, a1, dp, ?_⟩
  refine ⟨by rw [List.length_set]; exact ok.len, fun b u q => ?_, ok.ge.trans s, fun b u q => ?_, ok.keep, fun q z => ?_, fun b u q => ?_, fun j d q => ?_, fun j es q => ?_, fun j es q => ?_, fun j ns q => ?_, fun j k es fs q x y u w => ?_, (ok.dcs.tr s fun q ws b1 b2 b3 b4 b5 _ => ⟨b1, by
    have ne : q ≠ p := fun z => by subst z; exact b5 i ds e a1
    rw [upd_ne ne]; exact b2, b4⟩).setE hi⟩
  · by_cases hb : b = p
    · subst hb; rw [upd_same] at q; cases q; exact a2
    · rw [upd_ne hb] at q; exact ok.sub b u q
  · by_cases hb : b = p
    · subst hb; exact .inr a5
    · rw [upd_ne hb] at q; exact ok.fe b u q
  · obtain ⟨b1, b2, b3, b4⟩ := ok.iod q z
    have ne : q ≠ p := fun z => by subst z; exact b2 a5
    exact ⟨by rw [upd_ne ne]; exact b1, b2, b3, b4⟩
  · have ne : b ≠ p := fun z => by subst z; rw [a6] at q; cases q
    obtain ⟨b1, b2, b3⟩ := ok.prt b u q
    exact ⟨b1, by rw [upd_ne ne]; exact b2, b3⟩
  · rw [get_set hi] at q
    by_cases z : i = j
    · rw [if_pos z] at q
      subst z
      cases q
      exact ⟨_, a1, dp⟩
    · rw [if_neg z] at q
      obtain ⟨v, b1, b2⟩ := ok.val j d q
      exact ⟨v, b1, Dp.mono s b2⟩
  · rw [get_set hi] at q
    by_cases z : i = j
    · rw [if_pos z] at q; cases q
    · rw [if_neg z] at q
      obtain ⟨r, ws, b1, b2, b3, b4, b5, b6⟩ := ok.own j es q
      have ne : r ≠ p := fun y => by
        subst y
        exact z (ok.sep i j ds es r e q a1 b1)
      exact ⟨r, ws, b1, b2, DpAll.mono s b3, by rw [upd_ne ne]; exact b4, b5, b6⟩
  · rw [get_set hi] at q
    by_cases z : i = j
    · rw [if_pos z] at q; cases q
    · rw [if_neg z] at q
      obtain ⟨y, r, ws, b1, b2, b3, b4⟩ := ok.ios j es q
      exact ⟨y, r, ws, b1, b2, b3, DpAll.mono s b4⟩
  · rw [get_set hi] at q
    by_cases z : i = j
    · rw [if_pos z] at q; cases q
    · rw [if_neg z] at q
      exact ok.scr j ns q
  · rw [get_set hi] at x y
    by_cases z : i = j
    · rw [if_pos z] at x; cases x
    · rw [if_neg z] at x
      by_cases z2 : i = k
      · rw [if_pos z2] at y; cases y
      · rw [if_neg z2] at y
        exact ok.sep j k es fs q x y u w
/-- a slot's own list is changed -/
theorem Ok.change {i : Nat} {ds ds' : List D} {vs' : List V} (ok : Ok K c σ H F ρ) (e : ρ[i]? = some (.own ds)) (p : Addr) (hp : σ[i]? = some (some (.ref p))) (hd : DpAll K F vs' ds') : Ok K c σ (upd H p (.lst vs')) F (ρ.set i (.own ds')) := by
  obtain ⟨p', vs, a1, a2, a3, a4, a5, a6⟩ := ok.own i ds e
  have hpp : p' = p := by rw [hp] at a1; cases a1; rfl
  subst hpp
  have hi : i < ρ.length := by
    rcases Nat.lt_or_ge i ρ.length with h | h
    · exact h
    · rw [List.getElem?_eq_none h] at e; cases e
  refine ⟨by rw [List.length_set]; exact ok.len, fun b u q => ?_, ok.ge, ok.fe, fun b u q n => ?_, fun q z => ?_, fun b u q => ?_, fun j d q => ?_, fun j es q => ?_, fun j es q => ?_, fun j ns q => ?_, fun j k es fs q x y u w => ?_, (ok.dcs.tr (Same.refl F) fun q ws b1 b2 b3 b4 b5 _ => ⟨by
    have ne : q ≠ p' := fun z => by subst z; exact b5 i ds e a1
    rw [upd_ne ne]; exact b1, b2, b4⟩).setE hi (ho := fun _ _ => ⟨ds, e⟩)⟩
  · rw [upd_ne (ne_of_none q a4)]; exact ok.sub b u q
  · rw [upd_ne (ne_of_none q a5)]; exact ok.keep b u q n
  · obtain ⟨b1, b2, b3, xs, b4⟩ := ok.iod q z
    have ne : q ≠ p' := fun z => by subst z; exact b2 a5
    exact ⟨b1, b2, b3, xs, by rw [upd_ne ne]; exact b4⟩
  · have ne : b ≠ p' := fun z => by subst z; rw [a6] at q; cases q
    obtain ⟨b1, b2, b3⟩ := ok.prt b u q
    exact ⟨by rw [upd_ne ne]; exact b1, b2, b3⟩
  · rw [get_set hi] at q
    by_cases z : i = j
    · rw [if_pos z] at q; cases q
    · rw [if_neg z] at q
      exact ok.val j d q
  · rw [get_set hi] at q
    by_cases z : i = j
    · rw [if_pos z] at q
      subst z
      cases q
      exact ⟨p', vs', a1, upd_same, hd, a4, a5, a6⟩
    · rw [if_neg z] at q
      obtain ⟨r, ws, b1, b2, b3, b4, b5, b6⟩ := ok.own j es q
      have ne : r ≠ p' := fun y => by
        subst y
        exact z (ok.sep i j ds es r e q a1 b1)
      exact ⟨r, ws, b1, by rw [upd_ne ne]; exact b2, b3, b4, b5, b6⟩
  · rw [get_set hi] at q
    by_cases z : i = j
    · rw [if_pos z] at q; cases q
    · rw [if_neg z] at q
      obtain ⟨y, r, ws, b1, b2, b3, b4⟩ := ok.ios j es q
      have ne : r ≠ p' := fun y => by
        subst y
        obtain ⟨_, c2, _⟩ := ok.iod r b1
        exact c2 a5
      exact ⟨y, r, ws, b1, b2, by rw [upd_ne ne]; exact b3, b4⟩
  · rw [get_set hi] at q
    by_cases z : i = j
    · rw [if_pos z] at q; cases q
    · rw [if_neg z] at q
      exact ok.scr j ns q
  · rw [get_set hi] at x y
    by_cases z : i = j
    · subst z
      by_cases z2 : i = k
      · exact z2
      · rw [if_neg z2] at y
        exact ok.sep i k ds fs q e y u w
    · rw [if_neg z] at x
      by_cases z2 : i = k
      · subst z2
        exact ok.sep j i es ds q x e u w
      · rw [if_neg z2] at y
        exact ok.sep j k es fs q x y u w
/-- the caller's list is changed -/
theorem Ok.changeI {i : Nat} {ds ds' : List D} {vs' : List V} (ok : Ok K c σ H F ρ) (e : ρ[i]? = some (.io ds)) (p : Addr) (hp : σ[i]? = some (some (.ref p))) (hd : DpAll K F vs' ds') : Ok K c σ (upd H p (.lst vs')) F (ρ.set i (.io ds')) := by
  obtain ⟨i0, p', vs, a1, a2, a3, a4⟩ := ok.ios i ds e
  have hpp : p' = p := by rw [hp] at a2; cases a2; rfl
  subst hpp
  obtain ⟨b1, b2, b3, xs, b4⟩ := ok.iod p' a1
  have hi : i < ρ.length := by
    rcases Nat.lt_or_ge i ρ.length with h | h
    · exact h
    · rw [List.getElem?_eq_none h] at e; cases e
  have noi : ∀ {q : Addr}, c.io = some q → q = p' := fun {q} z => by rw [a1] at z; cases z; rfl
  refine ⟨by rw [List.length_set]; exact ok.len, fun b u q => ?_, ok.ge, ok.fe, fun b u q n => ?_, fun q z => ?_, fun b u q => ?_, fun j d q => ?_, fun j es q => ?_, fun j es q => ?_, fun j ns q => ?_, fun j k es fs q x y u w => ?_, (ok.dcs.tr (Same.refl F) fun q ws e1 e2 e3 e4 _ _ => ⟨by
    have ne : q ≠ p' := fun z => by subst z; exact b2 e3
    rw [upd_ne ne]; exact e1, e2, e4⟩).setE hi⟩
  · rw [upd_ne (ne_of_none q b1)]; exact ok.sub b u q
  · have ne : b ≠ p' := fun z => by subst z; exact n a1
    rw [upd_ne ne]; exact ok.keep b u q n
  · have := noi z
    subst this
    exact ⟨b1, b2, b3, vs', upd_same⟩
  · have ne : b ≠ p' := fun z => by subst z; rw [b3] at q; cases q
    obtain ⟨c1, c2, c3⟩ := ok.prt b u q
    exact ⟨by rw [upd_ne ne]; exact c1, c2, c3⟩
  · rw [get_set hi] at q
    by_cases z : i = j
    · rw [if_pos z] at q; cases q
    · rw [if_neg z] at q
      exact ok.val j d q
  · rw [get_set hi] at q
    by_cases z : i = j
    · rw [if_pos z] at q; cases q
    · rw [if_neg z] at q
      obtain ⟨r, ws, c1, c2, c3, c4, c5, c6⟩ := ok.own j es q
      have ne : r ≠ p' := fun y => by
        subst y
        exact b2 c5
      exact ⟨r, ws, c1, by rw [upd_ne ne]; exact c2, c3, c4, c5, c6⟩
  · rw [get_set hi] at q
    by_cases z : i = j
    · rw [if_pos z] at q
      subst z
      cases q
      exact ⟨i0, p', vs', a1, a2, upd_same, hd⟩
    · rw [if_neg z] at q
      obtain ⟨y, _⟩ := ok.ios j es q
      exact absurd (i0.trans y.symm) z
  · rw [get_set hi] at q
    by_cases z : i = j
    · rw [if_pos z] at q; cases q
    · rw [if_neg z] at q
      exact ok.scr j ns q
  · rw [get_set hi] at x y
    by_cases z : i = j
    · rw [if_pos z] at x; cases x
    · rw [if_neg z] at x
      by_cases z2 : i = k
      · rw [if_pos z2] at y; cases y
      · rw [if_neg z2] at y
        exact ok.sep j k es fs q x y u w
end
end Dd

namespace Dd
open PySem PySem.Spec L2
/-- an error: its class, its fields -/
structure Ex where
  C : Str
  fs : List (Str × D)
inductive R (α : Type) where
  | ok (a : α) (ρ : En)
  | ex (e : Ex) (ρ : En)
abbrev M (α : Type) := En → Option (R α)
def mPure {α : Type} (a : α) : M α := fun ρ => some (.ok a ρ)
def mBind {α β : Type} (m : M α) (f : α → M β) : M β := fun ρ => match m ρ with
  | none => none
  | some (.ok a ρ') => f a ρ'
  | some (.ex e ρ') => some (.ex e ρ')
def mLift {α : Type} (o : Option α) : M α := fun ρ => match o with
  | none => none
  | some a => some (.ok a ρ)
def mStuck {α : Type} : M α := fun _ => none

def ExR (K : PySem.W.Frag) (e : Ex) (cls : Value) (x : Option Addr) (F' H' : Hp) : Prop :=
  ∃ Ca : Addr, PySem.W.nsIn K mainGlobals e.C = some (some (.ref Ca)) ∧ cls = .ref Ca ∧ ∃ (dd : Addr) (vs : List (Str × V)), x = some dd ∧ F' dd = some (.xd vs) ∧ vs.map (·.1) = e.fs.map (·.1) ∧ DpAll K F' (vs.map (·.2)) (e.fs.map (·.2))

def post {α : Type} (K : PySem.W.Frag) (W : WX) (c : Ct) (σ : St) (F : Hp) (G : α → Hp → Hp → Prop) : Option (R α) → Prop
  | none => False
  | some (.ok a ρ') => ∀ H' F', Ok K c σ H' F' ρ' → Same F F' → G a H' F'
  | some (.ex e ρ') => ∀ cls x H' F', Ok K c σ H' F' ρ' → Same F F' → ExR K e cls x F' H' → W cls x σ H'
section
variable {α β : Type} {K : PySem.W.Frag} {W : WX} {c : Ct} {σ : St} {F H : Hp} {ρ : En}
theorem post_weak {G : α → Hp → Hp → Prop} {F1 : Hp} (s : Same F F1) : ∀ {r : Option (R α)}, post K W c σ F G r → post K W c σ F1 G r
  | some (.ok a ρ'), h => fun H' F' ok s' => h H' F' ok (s.trans s')
  | some (.ex e ρ'), h => fun cls x H' F' ok s' => h cls x H' F' ok (s.trans s')
theorem post_mono {G G' : α → Hp → Hp → Prop} (k : ∀ a H' F', Same F F' → G a H' F' → G' a H' F') : ∀ {r : Option (R α)}, post K W c σ F G r → post K W c σ F G' r
  | some (.ok a ρ'), h => fun H' F' ok s => k a H' F' s (h H' F' ok s)
  | some (.ex e ρ'), h => h
theorem post_bind {G : β → Hp → Hp → Prop} {m : M α} {f : α → M β} (h : post K W c σ F G (mBind m f ρ)) :
    post K W c σ F (fun a H1 F1 => ∃ ρ1, Ok K c σ H1 F1 ρ1 ∧ Same F F1 ∧ post K W c σ F1 G (f a ρ1)) (m ρ) := by
  unfold mBind at h
  cases e : m ρ with
  | none => rw [e] at h; exact h
  | some r =>
    rw [e] at h
    cases r with
    | ok a ρ' => exact fun H' F' ok s => ⟨ρ', ok, s, post_weak s h⟩
    | ex x ρ' => exact h
theorem post_ok {G : α → Hp → Hp → Prop} {a : α} (h : post K W c σ F G (some (.ok a ρ))) (ok : Ok K c σ H F ρ) : G a H F := h H F ok (Same.refl F)
theorem post_lift {G : α → Hp → Hp → Prop} {o : Option α} (h : post K W c σ F G (mLift o ρ)) : ∃ a, o = some a ∧ post K W c σ F G (some (.ok a ρ)) := by
  unfold mLift at h
  cases o with
  | none => exact h.elim
  | some a => exact ⟨a, rfl, h⟩
end
/-! ### the judgements -/
abbrev qE (K : PySem.W.Frag) (Q : VK) : D → Hp → Hp → Prop := fun d H' F' => ∀ v, Dp K F' v d → Q v H'
abbrev qT (Q : Bool → Hp → Prop) : Bool → Hp → Hp → Prop := fun b H' _ => Q b H'
abbrev qA (K : PySem.W.Frag) (Q : List V → Hp → Prop) : List D → Hp → Hp → Prop := fun ds H' F' => ∀ vs, DpAll K F' vs ds → Q vs H'
def Pk (K : PySem.W.Frag) (H F : Hp) (x : V) (a : D) : Prop := Dp K F x a ∨ ∃ (p : Addr) (vs : List V) (ds : List D), x = .ref p ∧ a = .list ds ∧ H p = some (.lst vs) ∧ DpAll K F vs ds
abbrev qP (K : PySem.W.Frag) (Q : VK) : D → Hp → Hp → Prop := fun d H' F' => ∀ v, Pk K H' F' v d → Q v H'
def tE (K : PySem.W.Frag) (W : WX) (m : M D) : TE := fun σ H Q => ∃ c F ρ, Ok K c σ H F ρ ∧ post K W c σ F (qE K Q) (m ρ)
/-- a value that may be a slot's own list: looked at, then gone -/
def tP (K : PySem.W.Frag) (W : WX) (m : M D) : TE := fun σ H Q => ∃ c F ρ, Ok K c σ H F ρ ∧ post K W c σ F (qP K Q) (m ρ)
def tT (K : PySem.W.Frag) (W : WX) (m : M Bool) : TT := fun σ H Q => ∃ c F ρ, Ok K c σ H F ρ ∧ post K W c σ F (qT Q) (m ρ)
def tA (K : PySem.W.Frag) (W : WX) (m : M (List D)) : TA := fun σ H Q => ∃ c F ρ, Ok K c σ H F ρ ∧ post K W c σ F (qA K Q) (m ρ)
inductive Fl where
  | nx | bk | ct
  | rt (d : D)
  | rf (ds : List D)
def postS (K : PySem.W.Frag) (W : WX) (c : Ct) (F : Hp) (Dn : Ends) : Option (R Fl) → Prop
  | none => False
  | some (.ok .nx ρ') => ∀ σ' H' F', Ok K c σ' H' F' ρ' → Same F F' → Dn.nx σ' H'
  | some (.ok .bk ρ') => ∀ σ' H' F', Ok K c σ' H' F' ρ' → Same F F' → Dn.bk σ' H'
  | some (.ok .ct ρ') => ∀ σ' H' F', Ok K c σ' H' F' ρ' → Same F F' → Dn.ct σ' H'
  | some (.ok (.rt d) ρ') => ∀ σ' v H' F', Ok K c σ' H' F' ρ' → Same F F' → Dp K F' v d → Dn.rt v H'
  | some (.ok (.rf ds) ρ') => ∀ σ' p vs H' F', Ok K c σ' H' F' ρ' → Same F F' → H' p = some (.lst vs) → DpAll K F' vs ds → F' p = none → c.H0 p = none → Dn.rt (.ref p) H'
  | some (.ex e ρ') => ∀ σ' cls x H' F', Ok K c σ' H' F' ρ' → Same F F' → ExR K e cls x F' H' → W cls x σ' H'
def tS (K : PySem.W.Frag) (W : WX) (m : M Fl) : TS := fun Dn σ H => ∃ c F ρ, Ok K c σ H F ρ ∧ postS K W c F Dn (m ρ)
/-- a store: of a value, by a target -/
def postG (K : PySem.W.Frag) (W : WX) (c : Ct) (F : Hp) (Q : St → Hp → Prop) : Option (R Unit) → Prop
  | none => False
  | some (.ok _ ρ') => ∀ σ' H' F', Ok K c σ' H' F' ρ' → Same F F' → Q σ' H'
  | some (.ex e ρ') => ∀ σ' cls x H' F', Ok K c σ' H' F' ρ' → Same F F' → ExR K e cls x F' H' → W cls x σ' H'
def tG (K : PySem.W.Frag) (W : WX) (g : D → M Unit) : TG := fun v σ H Q => ∃ c F ρ d, Ok K c σ H F ρ ∧ Dp K F v d ∧ postG K W c F Q (g d ρ)
def tGs (K : PySem.W.Frag) (W : WX) (g : List D → M Unit) : TGs := fun vs σ H Q => ∃ c F ρ ds, Ok K c σ H F ρ ∧ DpAll K F vs ds ∧ postG K W c F Q (g ds ρ)
section
variable {X : Cx} {e : Expr} {es : List Expr} {st : Stmt} {sts : List Stmt}
theorem PE.imp {t t' : TE} (h : PE X e t) (k : ∀ σ H Q, t' σ H Q → t σ H Q) : PE X e t' := ⟨fun pins s σ H Q I q => h.run pins s σ H Q I (k σ H Q q)⟩
theorem PT.imp {t t' : TT} (h : PT X e t) (k : ∀ σ H Q, t' σ H Q → t σ H Q) : PT X e t' := ⟨fun pins s σ H Q I q => h.run pins s σ H Q I (k σ H Q q)⟩
theorem PA.imp {t t' : TA} (h : PA X es t) (k : ∀ σ H Q, t' σ H Q → t σ H Q) : PA X es t' := ⟨fun pos pins s σ H Q I q => h.run pos pins s σ H Q I (k σ H Q q)⟩
theorem PS.imp {t t' : TS} (h : PS X st t) (k : ∀ Dn σ H, t' Dn σ H → t Dn σ H) : PS X st t' := ⟨fun pins s σ H Dn I q => h.run pins s σ H Dn I (k Dn σ H q)⟩
theorem PSs.imp {t t' : TS} (h : PSs X sts t) (k : ∀ Dn σ H, t' Dn σ H → t Dn σ H) : PSs X sts t' := ⟨fun pins s σ H Dn I q => h.run pins s σ H Dn I (k Dn σ H q)⟩
theorem PG.imp {t t' : TG} (h : PG X e t) (k : ∀ v σ H Q, t' v σ H Q → t v σ H Q) : PG X e t' := ⟨fun pins s σ H v u Q I r q => h.run pins s σ H v u Q I r (k v σ H Q q)⟩
theorem PGs.imp {t t' : TGs} (h : PGs X es t) (k : ∀ v σ H Q, t' v σ H Q → t v σ H Q) : PGs X es t' := ⟨fun pins s σ H v u Q I r q => h.run pins s σ H v u Q I r (k v σ H Q q)⟩
theorem PI.imp {tg : Expr} {t t' : TI} (h : PI X tg e t) (k : ∀ σ H Q, t' σ H Q → t σ H Q) : PI X tg e t' := ⟨fun pins s σ H Q I q => h.run pins s σ H Q I (k σ H Q q)⟩
end
section
variable {K : PySem.W.Frag} {W : WX} {c : Ct} {σ : St} {F H : Hp} {ρ : En}
theorem postS_weak {Dn : Ends} {F1 : Hp} (s : Same F F1) : ∀ {r : Option (R Fl)}, postS K W c F Dn r → postS K W c F1 Dn r
  | some (.ok .nx ρ'), h => fun σ' H' F' ok s' => h σ' H' F' ok (s.trans s')
  | some (.ok .bk ρ'), h => fun σ' H' F' ok s' => h σ' H' F' ok (s.trans s')
  | some (.ok .ct ρ'), h => fun σ' H' F' ok s' => h σ' H' F' ok (s.trans s')
  | some (.ok (.rt d) ρ'), h => fun σ' v H' F' ok s' => h σ' v H' F' ok (s.trans s')
  | some (.ok (.rf d) ρ'), h => fun σ' p v H' F' ok s' => h σ' p v H' F' ok (s.trans s')
  | some (.ex e ρ'), h => fun σ' cls x H' F' ok s' => h σ' cls x H' F' ok (s.trans s')
theorem postG_weak {Q : St → Hp → Prop} {F1 : Hp} (s : Same F F1) : ∀ {r : Option (R Unit)}, postG K W c F Q r → postG K W c F1 Q r
  | some (.ok _ ρ'), h => fun σ' H' F' ok s' => h σ' H' F' ok (s.trans s')
  | some (.ex e ρ'), h => fun σ' cls x H' F' ok s' => h σ' cls x H' F' ok (s.trans s')
/-- an expression ahead of what is stated of a statement -/
theorem postS_bind {α : Type} {Dn : Ends} {m : M α} {f : α → M Fl} (h : postS K W c F Dn (mBind m f ρ)) :
    post K W c σ F (fun a H1 F1 => ∃ ρ1, Ok K c σ H1 F1 ρ1 ∧ Same F F1 ∧ postS K W c F1 Dn (f a ρ1)) (m ρ) := by
  unfold mBind at h
  cases e : m ρ with
  | none => rw [e] at h; exact h.elim
  | some r =>
    rw [e] at h
    cases r with
    | ok a ρ' => exact fun H' F' ok s => ⟨ρ', ok, s, postS_weak s h⟩
    | ex x ρ' => exact fun cls y H' F' ok s q => h σ cls y H' F' ok s q
theorem postG_bind {α : Type} {Q : St → Hp → Prop} {m : M α} {f : α → M Unit} (h : postG K W c F Q (mBind m f ρ)) :
    post K W c σ F (fun a H1 F1 => ∃ ρ1, Ok K c σ H1 F1 ρ1 ∧ Same F F1 ∧ postG K W c F1 Q (f a ρ1)) (m ρ) := by
  unfold mBind at h
  cases e : m ρ with
  | none => rw [e] at h; exact h.elim
  | some r =>
    rw [e] at h
    cases r with
    | ok a ρ' => exact fun H' F' ok s => ⟨ρ', ok, s, postG_weak s h⟩
    | ex x ρ' => exact fun cls y H' F' ok s q => h σ cls y H' F' ok s q
/-- a store ahead of what is stated of a statement, of a store -/
theorem postG_mono {Q Q' : St → Hp → Prop} (k : ∀ σ' H', Q σ' H' → Q' σ' H') : ∀ {r : Option (R Unit)}, postG K W c F Q r → postG K W c F Q' r
  | some (.ok _ ρ'), h => fun σ' H' F' ok s' => k _ _ (h σ' H' F' ok s')
  | some (.ex e ρ'), h => h
theorem postS_bindG {Dn : Ends} {m : M Unit} {f : Unit → M Fl} (h : postS K W c F Dn (mBind m f ρ)) :
    postG K W c F (fun σ1 H1 => ∃ F1 ρ1, Ok K c σ1 H1 F1 ρ1 ∧ Same F F1 ∧ postS K W c F1 Dn (f () ρ1)) (m ρ) := by
  unfold mBind at h
  cases e : m ρ with
  | none => rw [e] at h; exact h.elim
  | some r =>
    rw [e] at h
    cases r with
    | ok a ρ' => exact fun σ' H' F' ok s => ⟨F', ρ', ok, s, postS_weak s h⟩
    | ex x ρ' => exact h
theorem postG_bindG {Q : St → Hp → Prop} {m : M Unit} {f : Unit → M Unit} (h : postG K W c F Q (mBind m f ρ)) :
    postG K W c F (fun σ1 H1 => ∃ F1 ρ1, Ok K c σ1 H1 F1 ρ1 ∧ Same F F1 ∧ postG K W c F1 Q (f () ρ1)) (m ρ) := by
  unfold mBind at h
  cases e : m ρ with
  | none => rw [e] at h; exact h.elim
  | some r =>
    rw [e] at h
    cases r with
    | ok a ρ' => exact fun σ' H' F' ok s => ⟨F', ρ', ok, s, postG_weak s h⟩
    | ex x ρ' => exact h
end

/-! ### what a looked-at value is -/
section
variable {K : PySem.W.Frag} {c : Ct} {σ : St} {F H : Hp} {ρ : En} {x : V}
theorem Pk.of {a : D} (h : Dp K F x a) : Pk K H F x a := .inl h
theorem Pk.dp {a : D} (s : Same F H) (h : Pk K H F x a) (hd : a.hasDict = false) : L2.Dp K H x a := by
  rcases h with h | ⟨p, vs, ds, rfl, rfl, h, r⟩
  · exact Dp.l2 (Dp.mono s h) hd
  · exact .lst (SqL.of h) (DpAll.l2 (DpAll.mono s r) hd)
theorem Pk.rd {ds : List D} (s : Same F H) (h : Pk K H F x (.list ds)) : ∃ p vs, x = .ref p ∧ Rd H p (.lst vs) ∧ DpAll K F vs ds := by
  rcases h with h | ⟨p, vs, es, rfl, e, h, r⟩
  · cases h with
    | lst h r => exact ⟨_, _, rfl, Rd.mono s h, r⟩
  · cases e
    exact ⟨p, vs, rfl, .inl h, r⟩
theorem Pk.lst {ds : List D} (s : Same F H) (h : Pk K H F x (.list ds)) : ∃ p vs, x = .ref p ∧ SqL K H p vs ∧ DpAll K F vs ds := by
  rcases h with h | ⟨p, vs, es, rfl, e, h, r⟩
  · cases h with
    | lst h r => exact ⟨_, _, rfl, .inl (Rd.mono s h), r⟩
  · cases e
    exact ⟨p, vs, rfl, SqL.of h, r⟩
theorem Pk.tup {ds : List D} (s : Same F H) (h : Pk K H F x (.tuple ds)) : ∃ p vs, x = .ref p ∧ SqT K H p vs ∧ DpAll K F vs ds := by
  rcases h with h | ⟨p, vs, es, rfl, e, h, r⟩
  · cases h with
    | tup h r => exact ⟨_, _, rfl, SqT.mono s h, r⟩
  · cases e
theorem Pk.int {i : Int} (h : Pk K H F x (.int i)) : x = .int i := by
  rcases h with h | ⟨p, vs, es, rfl, e, h, r⟩
  · cases h; rfl
  · cases e
theorem Pk.bool {i : Bool} (h : Pk K H F x (.bool i)) : x = .bl i := by
  rcases h with h | ⟨p, vs, es, rfl, e, h, r⟩
  · cases h; rfl
  · cases e
theorem Pk.str {i : Str} (h : Pk K H F x (.str i)) : x = .str i := by
  rcases h with h | ⟨p, vs, es, rfl, e, h, r⟩
  · cases h; rfl
  · cases e
theorem Pk.none (h : Pk K H F x .none) : x = .non := by
  rcases h with h | ⟨p, vs, es, rfl, e, h, r⟩
  · cases h; rfl
  · cases e
end

/-! ### names -/
def mVar (i : Nat) : M D := fun ρ => match ρ[i]? with
  | some (.val d) => some (.ok d ρ)
  | some (.own ds) => some (.ok (.list ds) (ρ.set i (.val (.list ds))))
  | _ => none
def mPeek (i : Nat) : M D := fun ρ => match ρ[i]? with
  | some (.val d) => some (.ok d ρ)
  | some (.own ds) => some (.ok (.list ds) ρ)
  | some (.io ds) => some (.ok (.list ds) ρ)
  | _ => none
section
variable {X : Cx} {K : PySem.W.Frag} {W : WX} {c : Ct} {σ : St} {F H : Hp} {ρ : En}
theorem peek_at {i : Nat} {Q : VK} (ok : Ok K c σ H F ρ) (h : post K W c σ F (qP K Q) (mPeek i ρ)) : ∃ v d, σ[i]? = some (some v) ∧ Pk K H F v d ∧ mPeek i ρ = some (.ok d ρ) ∧ Q v H := by
  unfold mPeek at h ⊢
  split at h
  · rename_i d e
    obtain ⟨v, a1, a2⟩ := ok.val i d e
    exact ⟨v, d, a1, .inl a2, rfl, h H F ok (Same.refl F) v (.inl a2)⟩
  · rename_i ds e
    obtain ⟨p, vs, a1, a2, a3, _⟩ := ok.own i ds e
    have q : Pk K H F (.ref p) (.list ds) := .inr ⟨p, vs, ds, rfl, rfl, a2, a3⟩
    exact ⟨.ref p, _, a1, q, rfl, h H F ok (Same.refl F) _ q⟩
  · rename_i ds e
    obtain ⟨_, p, vs, _, a1, a2, a3⟩ := ok.ios i ds e
    have q : Pk K H F (.ref p) (.list ds) := .inr ⟨p, vs, ds, rfl, rfl, a2, a3⟩
    exact ⟨.ref p, _, a1, q, rfl, h H F ok (Same.refl F) _ q⟩
  · exact h.elim
theorem tVar_of {i : Nat} {Q : VK} (h : tE K W (mVar i) σ H Q) : tVar i σ H Q := by
  obtain ⟨c, F, ρ, ok, h⟩ := h
  unfold mVar at h
  split at h
  · rename_i d e
    obtain ⟨v, a1, a2⟩ := ok.val i d e
    exact ⟨v, a1, h H F ok (Same.refl F) v a2⟩
  · rename_i ds e
    obtain ⟨F', p, s, a1, a2, ok'⟩ := ok.frz e
    exact ⟨.ref p, a1, h H F' ok' s _ a2⟩
  · exact h.elim
theorem tVar_ofP {i : Nat} {Q : VK} (h : tP K W (mPeek i) σ H Q) : tVar i σ H Q := by
  obtain ⟨c, F, ρ, ok, h⟩ := h
  obtain ⟨v, d, a1, _, _, q⟩ := peek_at ok h
  exact ⟨v, a1, q⟩
theorem tP_of {m : M D} {Q : VK} (h : tP K W m σ H Q) : tE K W m σ H Q := by
  obtain ⟨c, F, ρ, ok, h⟩ := h
  exact ⟨c, F, ρ, ok, post_mono (fun a H' F' _ q v r => q v (.inl r)) h⟩
theorem dv (i : Nat) {x : Str} {pos : Pos} (hN : X.N[i]? = some x := by rfl) (hv : Vis X.env.scope x := by first | exact Or.inl rfl | exact Or.inr (Or.inl rfl) | exact Or.inr (Or.inr rfl)) (hd : (x == ("__debug__" : Str)) = false := by decide)
    (hcd : (x == ("__classdict__" : Str)) = false := by decide) : PE X (.Name x pos) (tE K W (mVar i)) := PE.imp (pe_var hN hv hd hcd) fun _ _ _ => tVar_of
theorem dpk (i : Nat) {x : Str} {pos : Pos} (hN : X.N[i]? = some x := by rfl) (hv : Vis X.env.scope x := by first | exact Or.inl rfl | exact Or.inr (Or.inl rfl) | exact Or.inr (Or.inr rfl)) (hd : (x == ("__debug__" : Str)) = false := by decide)
    (hcd : (x == ("__classdict__" : Str)) = false := by decide) : PE X (.Name x pos) (tP K W (mPeek i)) := PE.imp (pe_var hN hv hd hcd) fun _ _ _ => tVar_ofP
/-- any value may be looked at -/
theorem dP {e : Expr} {m : M D} (h : PE X e (tE K W m)) : PE X e (tP K W m) := PE.imp h fun _ _ _ => tP_of
/-! constants -/
theorem tC_of {v : V} {d : D} {Q : VK} (r : ∀ F, Dp K F v d) (h : tE K W (mPure d) σ H Q) : tC v σ H Q := by
  obtain ⟨c, F, ρ, ok, h⟩ := h
  exact h H F ok (Same.refl F) v (r F)
theorem dInt {i : Int} {j pos} : PE X (.Constant (.int i) j pos) (tE K W (mPure (.int i))) := PE.imp pe_int fun _ _ _ => tC_of fun _ => .int i
theorem dBl {b : Bool} {j pos} : PE X (.Constant (.bool b) j pos) (tE K W (mPure (.bool b))) := PE.imp pe_bl fun _ _ _ => tC_of fun _ => .bl b
theorem dNon {j pos} : PE X (.Constant .none j pos) (tE K W (mPure .none)) := PE.imp pe_non fun _ _ _ => tC_of fun _ => .non
theorem dStr {x : Str} {j pos} : PE X (.Constant (.str x) j pos) (tE K W (mPure (.str x))) := PE.imp pe_str fun _ _ _ => tC_of fun _ => .str x
/-! ### two values, and what comes of them -/
/-- a rule of the layer serves g -/
def OpD (K : PySem.W.Frag) (r : R2) (g : D → D → Option D) : Prop :=
  ∀ {W : WX} {c : Ct} {σ : St} {H F : Hp} {ρ : En} {x y : V} {a b d : D} {Q : VK}, Ok K c σ H F ρ → Pk K H F x a → Pk K H F y b → g a b = some d → post K W c σ F (qE K Q) (some (.ok d ρ)) → r x y H Q
def mBin (g : D → D → Option D) (ma mb : M D) : M D := mBind ma fun a => mBind mb fun b => mLift (g a b)
theorem post_peek {α : Type} {i : Nat} {G : α → Hp → Hp → Prop} {f : D → M α} (ok : Ok K c σ H F ρ) (h : post K W c σ F G (mBind (mPeek i) f ρ)) : ∃ v d, σ[i]? = some (some v) ∧ Pk K H F v d ∧ post K W c σ F G (f d ρ) := by
  unfold mBind mPeek at h
  cases e : ρ[i]? with
  | none => rw [e] at h; exact h.elim
  | some u =>
    rw [e] at h
    cases u with
    | un => exact h.elim
    | val d =>
      obtain ⟨v, a1, a2⟩ := ok.val i d e
      exact ⟨v, d, a1, .inl a2, h⟩
    | own ds =>
      obtain ⟨p, vs, a1, a2, a3, _⟩ := ok.own i ds e
      exact ⟨.ref p, _, a1, .inr ⟨p, vs, ds, rfl, rfl, a2, a3⟩, h⟩
    | io ds =>
      obtain ⟨_, p, vs, _, a1, a2, a3⟩ := ok.ios i ds e
      exact ⟨.ref p, _, a1, .inr ⟨p, vs, ds, rfl, rfl, a2, a3⟩, h⟩
    | scr ns => exact h.elim
    | dct _ => exact h.elim
    | nst _ => exact h.elim
/-- the left one is a slot, read behind the right one -/
def mBinL (g : D → D → Option D) (i : Nat) (mb : M D) : M D := mBind (mPeek i) fun _ => mBind mb fun b => mBind (mPeek i) fun a => mLift (g a b)
theorem tOp_of {r : R2} {g : D → D → Option D} (ho : OpD K r g) {ma mb : M D} {Q : VK} (h : tE K W (mBin g ma mb) σ H Q) : tOp r (tE K W ma) (tP K W mb) σ H Q := by
  obtain ⟨c, F, ρ, ok, h⟩ := h
  refine ⟨c, F, ρ, ok, post_mono ?_ (post_bind h)⟩
  rintro a H1 F1 _ ⟨ρ1, ok1, s1, h1⟩ x rx
  refine ⟨c, F1, ρ1, ok1, post_mono ?_ (post_bind h1)⟩
  rintro b H2 F2 s2' ⟨ρ2, ok2, s2, h2⟩ y ry
  obtain ⟨d, e, h3⟩ := post_lift h2
  exact ho ok2 (.inl (Dp.mono s2 rx)) ry e h3
theorem tOp_ofL {r : R2} {g : D → D → Option D} (ho : OpD K r g) {i : Nat} {mb : M D} {Q : VK} (h : tE K W (mBinL g i mb) σ H Q) : tOp r (tVar i) (tP K W mb) σ H Q := by
  obtain ⟨c, F, ρ, ok, h⟩ := h
  obtain ⟨v, _, ev, _, h⟩ := post_peek ok h
  refine ⟨v, ev, c, F, ρ, ok, post_mono ?_ (post_bind h)⟩
  rintro b H2 F2 _ ⟨ρ2, ok2, s2, h2⟩ y ry
  obtain ⟨v', a, ev', pk, h3⟩ := post_peek ok2 h2
  obtain ⟨d, e, h4⟩ := post_lift h3
  have ee : v' = v := by rw [ev] at ev'; cases ev'; rfl
  subst ee
  exact ho ok2 pk ry e h4
end
end Dd

namespace Dd
open PySem PySem.Spec L2
section
variable {K : PySem.W.Frag}
/-! ### operators -/
def fit (n : Nat) : Bool := decide (n ≤ 16000000)
theorem fit_le {n : Nat} (h : fit n = true) : n ≤ sizeLine := by
  have := of_decide_eq_true h
  rw [sizeLine_eq]; omega
theorem fit_lt {n : Nat} (h : fit n = true) : n < sizeLine := by
  have := of_decide_eq_true h
  rw [sizeLine_eq]; omega
/-- ints -/
def iI (f : Int → Int → D) : D → D → Option D
  | .int i, .int j => some (f i j)
  | _, _ => none
def iIc (C : Int → Int → Bool) (f : Int → Int → D) : D → D → Option D
  | .int i, .int j => if C i j = true then some (f i j) else none
  | _, _ => none
theorem opD_I {g : Int → Int → V} {f : Int → Int → D} (h : ∀ F i j, Dp K F (g i j) (f i j)) : OpD K (rI0 g) (iI f) := by
  intro W c σ H F ρ x y a b d Q ok rx ry e q
  unfold iI at e
  split at e
  · rename_i i j
    cases e
    exact ⟨i, j, rx.int, ry.int, post_ok q ok _ (h F i j)⟩
  · cases e
theorem opD_Ic {Cp : Int → Int → Prop} {C : Int → Int → Bool} {g : Int → Int → V} {f : Int → Int → D} (hC : ∀ i j, C i j = true → Cp i j) (h : ∀ F i j, Dp K F (g i j) (f i j)) : OpD K (rI Cp g) (iIc C f) := by
  intro W c σ H F ρ x y a b d Q ok rx ry e q
  unfold iIc at e
  split at e
  · rename_i i j
    split at e
    · rename_i hc
      cases e
      exact ⟨i, j, rx.int, ry.int, hC i j hc, post_ok q ok _ (h F i j)⟩
    · cases e
  · cases e
/-- one rule or another -/
def oOr (g g' : D → D → Option D) : D → D → Option D := fun a b => match g a b with
  | some d => some d
  | none => g' a b
theorem opD_or {r r' : R2} {g g' : D → D → Option D} (h : OpD K r g) (h' : OpD K r' g') : OpD K (fun x y H Q => r x y H Q ∨ r' x y H Q) (oOr g g') := by
  intro W c σ H F ρ x y a b d Q ok rx ry e q
  unfold oOr at e
  split at e
  · rename_i d' e'
    cases e
    exact .inl (h ok rx ry e' q)
  · exact .inr (h' ok rx ry e q)
/-- a new list, a new tuple -/
theorem new_lst {W : WX} {c : Ct} {σ : St} {H F : Hp} {ρ : En} {Q : VK} {vs : List V} {ds : List D} (ok : Ok K c σ H F ρ) (hd : DpAll K F vs ds) (q : post K W c σ F (qE K Q) (some (.ok (.list ds) ρ))) (p : Addr) (hp : H p = none) :
    Q (.ref p) (upd H p (.lst vs)) :=
  q _ _ (ok.alloc hp) (Same.updN (ok.new hp).1) _ (.lst (.inl upd_same) (DpAll.mono (Same.updN (ok.new hp).1) hd))
theorem new_tup {W : WX} {c : Ct} {σ : St} {H F : Hp} {ρ : En} {Q : VK} {vs : List V} {ds : List D} (ok : Ok K c σ H F ρ) (hd : DpAll K F vs ds) (q : post K W c σ F (qE K Q) (some (.ok (.tuple ds) ρ))) (p : Addr) (hp : H p = none) :
    Q (.ref p) (upd H p (.tup vs)) :=
  q _ _ (ok.alloc hp) (Same.updN (ok.new hp).1) _ (.tup (SqT.of upd_same) (DpAll.mono (Same.updN (ok.new hp).1) hd))

theorem sq_raw {X : Cx} {pins : List (Addr × Obj)} {σ : St} {H : Hp} {s : Shared} {a : Addr} {xs : List V} (I : Inv X pins σ H s) (h : Rd H a (.lst xs)) :
    xs.length ≤ sizeLine ∧ ∃ (its : List Value) (n : Nat), Vals xs its ∧ xs.length = its.length ∧ s.heap.get? a = some { cls := .type "list", data := .seq its.toArray n } := by
  have q : ObjOk X.prog X.w H s.heap a (.lst xs) := h.ok I.hok
  obtain ⟨z, its, n, r, e⟩ := q
  exact ⟨z, its, n, r, r.length, e⟩
/-- list + list, any -/
def rCatS : R2 := fun x y H Q => ∃ l b xs zs, x = .ref l ∧ y = .ref b ∧ Rd H l (.lst xs) ∧ Rd H b (.lst zs) ∧ xs.length + zs.length ≤ sizeLine ∧ ∀ p, H p = none → Q (.ref p) (upd H p (.lst (xs ++ zs)))
theorem op_catS {X : Cx} : OpR X (binaryOp .Add) rCatS := by
  intro pins s σ H x y v u Q I rx ry h
  obtain ⟨l, b, xs, zs, rfl, rfl, hH, hB, hz, q⟩ := h
  cases rx
  cases ry
  obtain ⟨z, its, n, r, hl, e⟩ := sq_raw I hH
  obtain ⟨z2, its2, n2, r2, hl2, e2⟩ := sq_raw I hB
  refine PySem.P.add_list e e2 ?_ (by rw [List.size_toArray, List.size_toArray]; omega)
  have ea : its.toArray ++ its2.toArray = (its ++ its2).toArray := by simp
  rw [ea]
  exact ⟨.ref _, _, I.lnew (t' := s.toks) (r.append r2) (by rw [List.length_append]; omega), rfl, q _ I.fresh⟩
def catL : D → D → Option D
  | .list xs, .list ys => if fit (xs.length + ys.length) = true then some (.list (xs ++ ys)) else none
  | _, _ => none
def catT : D → D → Option D
  | .tuple xs, .tuple ys => if (!xs.isEmpty && fit (xs.length + ys.length)) = true then some (.tuple (xs ++ ys)) else none
  | _, _ => none
def catS : D → D → Option D
  | .str x, .str y => if fit (x.length + y.length) = true then some (.str (x ++ y)) else none
  | _, _ => none
theorem opD_catL : OpD K rCatS catL := by
  intro W c σ H F ρ x y a b d Q ok rx ry e q
  unfold catL at e
  split at e
  · rename_i xs ys
    split at e
    · rename_i hc
      cases e
      obtain ⟨p, vs, rfl, hp, dp⟩ := Pk.rd ok.sub rx
      obtain ⟨p2, vs2, rfl, hp2, dp2⟩ := Pk.rd ok.sub ry
      exact ⟨p, p2, vs, vs2, rfl, rfl, hp, hp2, by rw [DpAll.length dp, DpAll.length dp2]; exact fit_le hc, fun p hp => new_lst ok (DpAll.append dp dp2) q p hp⟩
    · cases e
  · cases e
theorem opD_catT : OpD K (rCatT K) catT := by
  intro W c σ H F ρ x y a b d Q ok rx ry e q
  unfold catT at e
  split at e
  · rename_i xs ys
    split at e
    · rename_i hc
      cases e
      obtain ⟨p, vs, rfl, hp, dp⟩ := Pk.tup ok.sub rx
      obtain ⟨p2, vs2, rfl, hp2, dp2⟩ := Pk.tup ok.sub ry
      rw [Bool.and_eq_true] at hc
      refine ⟨p, p2, vs, vs2, rfl, rfl, hp, hp2, fun z => ?_, by rw [DpAll.length dp, DpAll.length dp2]; exact fit_le hc.2, fun z => ?_, fun z p hp => new_tup ok (DpAll.append dp dp2) q p hp⟩
      · subst z
        cases dp
        simp at hc
      · subst z
        cases dp2
        rw [List.append_nil] at q
        rcases rx with rx | ⟨_, _, _, _, e, _⟩
        · exact post_ok q ok _ rx
        · cases e
    · cases e
  · cases e
def rAddStr : R2 := fun x y H Q => ∃ i j, x = .str i ∧ y = .str j ∧ i.length + j.length ≤ sizeLine ∧ Q (.str (i ++ j)) H
theorem opD_catS : OpD K rAddStr catS := by
  intro W c σ H F ρ x y a b d Q ok rx ry e q
  unfold catS at e
  split at e
  · rename_i i j
    split at e
    · rename_i hc
      cases e
      exact ⟨i, j, rx.str, ry.str, fit_le hc, post_ok q ok _ (.str _)⟩
    · cases e
  · cases e
def addD : D → D → Option D := oOr (iI fun i j => .int (i + j)) (oOr catL (oOr catT catS))
def rAddA (K : PySem.W.Frag) : R2 := fun x y H Q => rI0 (fun i j => .int (i + j)) x y H Q ∨ (rCatS x y H Q ∨ (rCatT K x y H Q ∨ rAddStr x y H Q))
theorem opD_add : OpD K (rAddA K) addD := opD_or (opD_I fun _ _ _ => .int _) (opD_or opD_catL (opD_or opD_catT opD_catS))
theorem or_addA {X : Cx} : OpR X (binaryOp .Add) (rAddA X.K) := OpR.or op_add (OpR.or op_catS (OpR.or op_catT op_add_str))
def subD : D → D → Option D := iI fun i j => .int (i - j)
theorem opD_sub : OpD K (rI0 fun i j => .int (i - j)) subD := opD_I fun _ _ _ => .int _
/-- * of ints, one of them small; of a list by an int -/
def cMul (i j : Int) : Bool := decide (i.natAbs < 18446744073709551616) || decide (j.natAbs < 18446744073709551616)
theorem cMul_ok (i j : Int) (h : cMul i j = true) : CMul i j := by
  unfold cMul at h
  simp only [Bool.or_eq_true, decide_eq_true_eq] at h
  exact h.imp (fun q => by omega) (fun q => by omega)
def mulI : D → D → Option D := iIc cMul fun i j => .int (i * j)
def cDiv (_ j : Int) : Bool := decide (0 < j) && decide (j.natAbs < 1152921504606846976)
theorem cDiv_ok (i j : Int) (h : cDiv i j = true) : CDivW i j := by
  unfold cDiv at h
  simp only [Bool.and_eq_true, decide_eq_true_eq] at h
  exact wide_div (b := 60) h.1 h.2 (by decide) (by decide)
def divD : D → D → Option D := iIc cDiv fun i j => .int (i / j)
theorem opD_div : OpD K (rI CDivW fun i j => .int (i / j)) divD := opD_Ic cDiv_ok fun _ _ _ => .int _
def cMod (_ j : Int) : Bool := decide (0 < j)
def modD : D → D → Option D := iIc cMod fun i j => .int (i % j)
theorem opD_mod : OpD K (rI (fun _ j => 0 < j) fun i j => .int (i % j)) modD := opD_Ic (fun _ _ h => of_decide_eq_true h) fun _ _ _ => .int _
def cPow (i j : Int) : Bool := decide (0 ≤ j) && decide (j ≤ 1000000) && decide (i.natAbs < 2 ^ 64)
def powD : D → D → Option D := iIc cPow fun i j => .int (i ^ j.toNat)
theorem opD_pow : OpD K (rI CPow fun i j => .int (i ^ j.toNat)) powD := opD_Ic (fun i j h => by
  unfold cPow at h
  simp only [Bool.and_eq_true, decide_eq_true_eq] at h
  exact ⟨h.1.1, h.1.2, h.2⟩) fun _ _ _ => .int _
/-- comparing -/
def ltD : D → D → Option D := iI fun i j => .bool (decide (i < j))
def leD : D → D → Option D := iI fun i j => .bool (decide (i ≤ j))
def gtD : D → D → Option D := iI fun i j => .bool (decide (j < i))
def geD : D → D → Option D := iI fun i j => .bool (decide (j ≤ i))
theorem opD_lt : OpD K (rI0 fun i j => .bl (decide (i < j))) ltD := opD_I fun _ _ _ => .bl _
theorem opD_le : OpD K (rI0 fun i j => .bl (decide (i ≤ j))) leD := opD_I fun _ _ _ => .bl _
theorem opD_gt : OpD K (rI0 fun i j => .bl (decide (j < i))) gtD := opD_I fun _ _ _ => .bl _
theorem opD_ge : OpD K (rI0 fun i j => .bl (decide (j ≤ i))) geD := opD_I fun _ _ _ => .bl _
def eqD (a b : D) : Option D := if (SeqAt.shaped a && SeqAt.shaped b) = true then some (.bool (PyData.eqv a b)) else none
def neD (a b : D) : Option D := if (SeqAt.shaped a && SeqAt.shaped b) = true then some (.bool (!PyData.eqv a b)) else none
mutual
theorem lay_nd : ∀ d : D, d.canLay0 = true → d.hasDict = false
  | .none, _ => rfl
  | .bool _, _ => rfl
  | .int _, _ => rfl
  | .str _, _ => rfl
  | .list xs, h => lays_nd xs h
  | .tuple xs, h => lays_nd xs h
  | .dict _, h => by cases h
theorem lays_nd : ∀ xs : List D, PyData.canLayAll0 xs = true → PyData.hasDictAll xs = false
  | [], _ => rfl
  | x :: xs, h => by
    have h : (x.canLay0 && PyData.canLayAll0 xs) = true := h
    rw [Bool.and_eq_true] at h
    show (x.hasDict || PyData.hasDictAll xs) = false
    rw [lay_nd x h.1, lays_nd xs h.2]; rfl
end
theorem shaped_nd {d : D} (h : SeqAt.shaped d = true) : d.hasDict = false := lay_nd d (Bool.and_eq_true_iff.mp h).1
theorem opD_eq : OpD K (rEqD K) eqD := by
  intro W c σ H F ρ x y a b d Q ok rx ry e q
  unfold eqD at e
  split at e
  · rename_i hc
    cases e
    rw [Bool.and_eq_true] at hc
    exact ⟨a, b, Pk.dp ok.sub rx (shaped_nd hc.1), Pk.dp ok.sub ry (shaped_nd hc.2), hc.1, hc.2, post_ok q ok _ (.bl _)⟩
  · cases e
theorem opD_ne : OpD K (rNeD K) neD := by
  intro W c σ H F ρ x y a b d Q ok rx ry e q
  unfold neD at e
  split at e
  · rename_i hc
    cases e
    rw [Bool.and_eq_true] at hc
    exact ⟨a, b, Pk.dp ok.sub rx (shaped_nd hc.1), Pk.dp ok.sub ry (shaped_nd hc.2), hc.1, hc.2, post_ok q ok _ (.bl _)⟩
  · cases e
def isNon : D → Bool
  | .none => true
  | _ => false
theorem isNon_of {H F : Hp} {x : V} {a : D} (h : Pk K H F x a) : decide (x = .non) = isNon a := by
  rcases h with h | ⟨p, vs, es, rfl, rfl, h, r⟩
  · cases h <;> rfl
  · rfl
def isD : D → D → Option D
  | a, .none => some (.bool (isNon a))
  | _, _ => none
def isntD : D → D → Option D
  | a, .none => some (.bool (!isNon a))
  | _, _ => none
theorem opD_is : OpD K (fun x y H Q => y = .non ∧ Q (.bl (decide (x = .non))) H) isD := by
  intro W c σ H F ρ x y a b d Q ok rx ry e q
  unfold isD at e
  split at e
  · cases e
    refine ⟨ry.none, post_ok q ok _ ?_⟩
    rw [isNon_of rx]; exact .bl _
  · cases e
theorem opD_isnt : OpD K (fun x y H Q => y = .non ∧ Q (.bl (!decide (x = .non))) H) isntD := by
  intro W c σ H F ρ x y a b d Q ok rx ry e q
  unfold isntD at e
  split at e
  · cases e
    refine ⟨ry.none, post_ok q ok _ ?_⟩
    rw [isNon_of rx]; exact .bl _
  · cases e
/-- in a list, a tuple of plain things -/
def toV : D → V
  | .none => .non
  | .bool b => .bl b
  | .int i => .int i
  | .str x => .str x
  | _ => .non
def flatD : D → Bool
  | .none | .bool _ | .int _ | .str _ => true
  | _ => false
theorem flat_of {F : Hp} {x : V} {a : D} (h : Dp K F x a) (f : flatD a = true) : x = toV a := by
  cases h <;> first | rfl | cases f
theorem flats_of {F : Hp} : ∀ {vs : List V} {ds : List D}, DpAll K F vs ds → ds.all flatD = true → vs = ds.map toV
  | _, _, .nil, _ => rfl
  | _, _, .cons h t, f => by
    simp only [List.all_cons, Bool.and_eq_true] at f
    rw [flat_of h f.1, flats_of t f.2]; rfl
def inFlat (a : D) (ds : List D) : Bool := inV (toV a) (ds.map toV)
def inOk (a : D) (ds : List D) : Bool := flatD a && ds.all flatD && flatV (toV a) && (ds.map toV).all flatV
def inD (neg : Bool) : D → D → Option D
  | a, .list ds => if inOk a ds = true then some (.bool (if neg then !inFlat a ds else inFlat a ds)) else none
  | a, .tuple ds => if inOk a ds = true then some (.bool (if neg then !inFlat a ds else inFlat a ds)) else none
  | _, _ => none
theorem opD_in (neg : Bool) : OpD K (rIn K neg) (inD neg) := by
  intro W c σ H F ρ x y a b d Q ok rx ry e q
  have go : ∀ (ds : List D) (p : Addr) (vs : List V), inOk a ds = true → DpAll K F vs ds → d = .bool (if neg then !inFlat a ds else inFlat a ds) → (SqL K H p vs ∨ SqT K H p vs) → y = .ref p → rIn K neg x y H Q := by
    intro ds p vs hc dp ed hs ey
    unfold inOk at hc
    simp only [Bool.and_eq_true] at hc
    obtain ⟨⟨⟨h1, h2⟩, h3⟩, h4⟩ := hc
    have ex : x = toV a := by
      rcases rx with rx | ⟨_, _, _, _, e', _⟩
      · exact flat_of rx h1
      · subst e'; cases h1
    have ev : vs = ds.map toV := flats_of dp h2
    subst ex ev ed
    exact ⟨p, _, ey, hs, h3, h4, post_ok q ok _ (.bl _)⟩
  unfold inD at e
  split at e
  · split at e
    · rename_i hc
      cases e
      obtain ⟨p, vs, ey, hp, dp⟩ := Pk.lst ok.sub ry
      exact go _ p vs hc dp rfl (.inl hp) ey
    · cases e
  · split at e
    · rename_i hc
      cases e
      obtain ⟨p, vs, ey, hp, dp⟩ := Pk.tup ok.sub ry
      exact go _ p vs hc dp rfl (.inr hp) ey
    · cases e
  · cases e
/-- an item by its place -/
def ixD : D → D → Option D
  | .list ds, .int i => atI ds i
  | .tuple ds, .int i => atI ds i
  | .str z, .int i => if fit z.length = true then (atI z.cps.toList i).map fun c => .str ⟨#[c]⟩ else none
  | _, _ => none
theorem atI_D {F : Hp} {vs : List V} {ds : List D} {i : Int} {d : D} (h : DpAll K F vs ds) (e : atI ds i = some d) : ∃ v, atI vs i = some v ∧ Dp K F v d := by
  unfold atI at e ⊢
  rw [DpAll.length h]
  cases q : ixN ds.length i with
  | none => rw [q] at e; cases e
  | some j =>
    rw [q] at e
    exact DpAll.getd h e
theorem opD_ix : OpD K (rIx K) ixD := by
  intro W c σ H F ρ x y a b d Q ok rx ry e q
  unfold ixD at e
  split at e
  · rename_i ds i
    obtain ⟨p, vs, rfl, hp, dp⟩ := Pk.lst ok.sub rx
    obtain ⟨v, e1, e2⟩ := atI_D dp e
    exact .inl ⟨p, vs, i, v, rfl, ry.int, hp, e1, post_ok q ok _ e2⟩
  · rename_i ds i
    obtain ⟨p, vs, rfl, hp, dp⟩ := Pk.tup ok.sub rx
    obtain ⟨v, e1, e2⟩ := atI_D dp e
    exact .inr (.inl ⟨p, vs, i, v, rfl, ry.int, hp, e1, post_ok q ok _ e2⟩)
  · rename_i z i
    split at e
    · rename_i hf
      cases q' : atI z.cps.toList i with
      | none => rw [q'] at e; cases e
      | some c' =>
        rw [q'] at e
        cases e
        exact .inr (.inr ⟨z, i, c', rx.str, ry.int, fit_le hf, q', post_ok q ok _ (.str _)⟩)
    · cases e
  · cases e
end
end Dd

namespace Dd
open PySem PySem.Spec L2
section
variable {X : Cx} {W : WX} {a b c' : Expr} {ma mb mc : M D} {pos : Pos} {σ : St} {H : Hp} {K : PySem.W.Frag}
/-! ### operators in an expression -/
theorem dOp {op : Operator} {r : R2} {g : D → D → Option D} (ho : OpR X (binaryOp op) r) (hd : OpD X.K r g) (ha : PE X a (tE X.K W ma)) (hb : PE X b (tP X.K W mb)) : PE X (.BinOp a op b pos) (tE X.K W (mBin g ma mb)) :=
  PE.imp (pe_op ho ha hb) fun _ _ _ => tOp_of hd
theorem dOpL {op : Operator} {r : R2} {g : D → D → Option D} {i : Nat} (ho : OpR X (binaryOp op) r) (hd : OpD X.K r g) (ha : PE X a (tVar i)) (hb : PE X b (tP X.K W mb)) : PE X (.BinOp a op b pos) (tE X.K W (mBinL g i mb)) :=
  PE.imp (pe_op ho ha hb) fun _ _ _ => tOp_ofL hd
theorem dCmp {op : CmpOp} {r : R2} {g : D → D → Option D} (ho : OpR X (compareOp op) r) (hd : OpD X.K r g) (hm : behindInMarks op b = false) (ha : PE X a (tE X.K W ma)) (hb : PE X b (tP X.K W mb)) : PE X (.Compare a [op] [b] pos) (tE X.K W (mBin g ma mb)) :=
  PE.imp (pe_cmpR ho ha hb hm) fun _ _ _ => tOp_of hd
theorem dCmpL {op : CmpOp} {r : R2} {g : D → D → Option D} {i : Nat} (ho : OpR X (compareOp op) r) (hd : OpD X.K r g) (hm : behindInMarks op b = false) (ha : PE X a (tVar i)) (hb : PE X b (tP X.K W mb)) : PE X (.Compare a [op] [b] pos) (tE X.K W (mBinL g i mb)) :=
  PE.imp (pe_cmpR ho ha hb hm) fun _ _ _ => tOp_ofL hd
theorem dIx (ha : PE X a (tE X.K W ma)) (hb : PE X b (tP X.K W mb)) (hs : PlainIx b := by exact fun _ _ => rfl) : PE X (.Subscript a b pos) (tE X.K W (mBin ixD ma mb)) := PE.imp (pe_ix ix_seq ha hb hs) fun _ _ _ => tOp_of opD_ix
theorem dIxL {i : Nat} (ha : PE X a (tVar i)) (hb : PE X b (tP X.K W mb)) (hs : PlainIx b := by exact fun _ _ => rfl) : PE X (.Subscript a b pos) (tE X.K W (mBinL ixD i mb)) := PE.imp (pe_ix ix_seq ha hb hs) fun _ _ _ => tOp_ofL opD_ix
/-- one value -/
def mUn (g : D → Option D) (ma : M D) : M D := mBind ma fun a => mLift (g a)
def negD : D → Option D
  | .int i => some (.int (-i))
  | _ => none
theorem dNeg (ha : PE X a (tE X.K W ma)) : PE X (.UnaryOp .USub a pos) (tE X.K W (mUn negD ma)) := by
  refine PE.imp (pe_un un_neg ha) ?_
  rintro σ H Q ⟨c, F, ρ, ok, h⟩
  refine ⟨c, F, ρ, ok, post_mono ?_ (post_bind h)⟩
  rintro d H1 F1 _ ⟨ρ1, ok1, s1, h1⟩ x rx
  obtain ⟨d', e, h2⟩ := post_lift h1
  unfold negD at e
  split at e
  · cases e
    cases rx
    exact ⟨_, rfl, post_ok (W := W) h2 ok1 _ (.int _)⟩
  · cases e
/-! ### truth -/
def truD : D → Option Bool
  | .none => some false
  | .bool b => some b
  | .int i => some (i != 0)
  | .str x => if fit x.length = true then some ((x.length : Int) != 0) else none
  | .list ds => some (!ds.isEmpty)
  | .tuple ds => some (!ds.isEmpty)
  | .dict _ => none
theorem isEmpty_dp {F : Hp} {vs : List V} {ds : List D} (h : DpAll K F vs ds) : vs.isEmpty = ds.isEmpty := by cases h <;> rfl
theorem tru_of {c : Ct} {F : Hp} {ρ : En} (ok : Ok K c σ H F ρ) {x : V} {d : D} {k : Bool} (r : Pk K H F x d) (e : truD d = some k) : TruV K x H k := by
  cases d with
  | none => cases r.none; cases e; rfl
  | bool b => cases r.bool; cases e; rfl
  | int i => cases r.int; cases e; rfl
  | str z =>
    cases r.str
    have e : (if fit z.length = true then some ((z.length : Int) != 0) else none) = some k := e
    split at e
    · rename_i hf
      cases e
      exact ⟨fit_le hf, rfl⟩
    · cases e
  | list ds =>
    obtain ⟨p, vs, rfl, hp, dp⟩ := Pk.lst ok.sub r
    cases e
    exact .inl ⟨vs, hp, by rw [isEmpty_dp dp]⟩
  | tuple ds =>
    obtain ⟨p, vs, rfl, hp, dp⟩ := Pk.tup ok.sub r
    cases e
    exact .inr (.inl ⟨vs, hp, by rw [isEmpty_dp dp]⟩)
  | dict _ => cases e
def mTru (m : M D) : M Bool := mBind m fun d => mLift (truD d)
/-- any expression but comparisons, and, or, not: by its value's truth -/
theorem dTru (ha : PE X a (tP X.K W ma)) (he : ∀ whole, isTrue a X.env whole = (do let v ← whole; standAt a.pos; holding [v] (truthy v)) := by exact fun _ => rfl) : PT X a (tT X.K W (mTru ma)) := by
  refine PT.imp (pt_truth ha he) ?_
  rintro σ H Q ⟨c, F, ρ, ok, h⟩
  refine ⟨c, F, ρ, ok, post_mono ?_ (post_bind h)⟩
  rintro d H1 F1 _ ⟨ρ1, ok1, s1, h1⟩ x rx
  obtain ⟨k, e, h2⟩ := post_lift h1
  exact ⟨k, tru_of ok1 rx e, post_ok (W := W) h2 ok1⟩
def bolD : D → Option Bool
  | .bool b => some b
  | _ => none
def mBol (m : M D) : M Bool := mBind m fun d => mLift (bolD d)
theorem tTest_of {t : TE} {m : M D} (ht : ∀ σ H Q, tE K W m σ H Q → t σ H Q) {Q : Bool → Hp → Prop} (h : tT K W (mBol m) σ H Q) : tTest t σ H Q := by
  obtain ⟨c, F, ρ, ok, h⟩ := h
  refine ht _ _ _ ⟨c, F, ρ, ok, post_mono ?_ (post_bind h)⟩
  rintro d H1 F1 _ ⟨ρ1, ok1, s1, h1⟩ x rx
  obtain ⟨k, e, h2⟩ := post_lift h1
  unfold bolD at e
  split at e
  · cases e
    cases rx
    exact ⟨_, rfl, post_ok (W := W) h2 ok1⟩
  · cases e
theorem dtCmp {op : CmpOp} {r : R2} {g : D → D → Option D} (ho : OpR X (compareOp op) r) (hd : OpD X.K r g) (hm : behindInMarks op b = false) (ha : PE X a (tE X.K W ma)) (hb : PE X b (tP X.K W mb)) : PT X (.Compare a [op] [b] pos) (tT X.K W (mBol (mBin g ma mb))) :=
  PT.imp (pt_cmpR ho ha hb hm) fun _ _ _ => tTest_of fun _ _ _ => tOp_of hd
theorem dtCmpL {op : CmpOp} {r : R2} {g : D → D → Option D} {i : Nat} (ho : OpR X (compareOp op) r) (hd : OpD X.K r g) (hm : behindInMarks op b = false) (ha : PE X a (tVar i)) (hb : PE X b (tP X.K W mb)) : PT X (.Compare a [op] [b] pos) (tT X.K W (mBol (mBinL g i mb))) :=
  PT.imp (pt_cmpR ho ha hb hm) fun _ _ _ => tTest_of fun _ _ _ => tOp_ofL hd
/-- a < b < c -/
def mChain (g g' : D → D → Option D) (ma mb mc : M D) : M D := mBind ma fun a => mBind mb fun b => mBind (mLift (g a b)) fun r => mBind (mLift (bolD r)) fun k => if k = true then mBind mc fun c => mLift (g' b c) else mPure (.bool false)
theorem tChain_of {r r' : R2} {g g' : D → D → Option D} (ho : OpD K r g) (ho' : OpD K r' g') {Q : VK} (h : tE K W (mChain g g' ma mb mc) σ H Q) : tChain r r' (tE K W ma) (tE K W mb) (tP K W mc) σ H Q := by
  obtain ⟨c, F, ρ, ok, h⟩ := h
  refine ⟨c, F, ρ, ok, post_mono ?_ (post_bind h)⟩
  rintro a H1 F1 _ ⟨ρ1, ok1, s1, h1⟩ x rx
  refine ⟨c, F1, ρ1, ok1, post_mono ?_ (post_bind h1)⟩
  rintro b H2 F2 s2' ⟨ρ2, ok2, s2, h2⟩ y ry
  obtain ⟨d, e, h3⟩ := post_lift (o := g a b) (by exact post_mono (fun _ _ _ _ q => q) (post_bind h2))
  obtain ⟨ρ3, ok3, s3, h4⟩ := post_ok (W := W) h3 ok2
  refine ho (W := W) ok3 (.inl (Dp.mono (s2.trans s3) rx)) (.inl (Dp.mono s3 ry)) e ?_
  obtain ⟨k, ek, h5⟩ := post_lift (o := bolD d) (by exact post_mono (fun _ _ _ _ q => q) (post_bind h4))
  unfold bolD at ek
  split at ek
  · rename_i k'
    cases ek
    intro H' F' ok' s' v rv
    obtain ⟨ρ4, ok4, s4, h6⟩ := h5 H' F' ok' s'
    cases rv
    refine ⟨k, rfl, ?_⟩
    cases k with
    | false =>
      rw [if_neg (by decide)] at h6 ⊢
      exact post_ok (W := W) h6 ok4 _ (.bl _)
    | true =>
      rw [if_pos rfl] at h6 ⊢
      refine ⟨c, F', ρ4, ok4, post_mono ?_ (post_bind h6)⟩
      rintro z H5 F5 _ ⟨ρ5, ok5, s5, h7⟩ w' rw'
      obtain ⟨d', e', h8⟩ := post_lift h7
      exact ho' ok5 (.inl (Dp.mono ((s3.trans s').trans s5) ry)) rw' e' h8
  · cases ek
theorem dChain {op op' : CmpOp} {r r' : R2} {g g' : D → D → Option D} (ho : OpR X (compareOp op) r) (hd : OpD X.K r g) (ho' : OpR X (compareOp op') r') (hd' : OpD X.K r' g') (ha : PE X a (tE X.K W ma)) (hb : PE X b (tE X.K W mb)) (hc : PE X c' (tP X.K W mc)) (hm : lastMarks [op, op'] [b, c'] = false := by with_unfolding_all rfl) :
    PE X (.Compare a [op, op'] [b, c'] pos) (tE X.K W (mChain g g' ma mb mc)) := PE.imp (pe_chain ho ho' ha hb hc hm) fun _ _ _ => tChain_of hd hd'
theorem dtChain {op op' : CmpOp} {r r' : R2} {g g' : D → D → Option D} (ho : OpR X (compareOp op) r) (hd : OpD X.K r g) (ho' : OpR X (compareOp op') r') (hd' : OpD X.K r' g') (ha : PE X a (tE X.K W ma)) (hb : PE X b (tE X.K W mb)) (hc : PE X c' (tP X.K W mc)) (hm : lastMarks [op, op'] [b, c'] = false := by with_unfolding_all rfl) :
    PT X (.Compare a [op, op'] [b, c'] pos) (tT X.K W (mBol (mChain g g' ma mb mc))) := PT.imp (pt_chain ho ho' ha hb hc hm) fun _ _ _ => tTest_of fun _ _ _ => tChain_of hd hd'
/-! ### and, or, not -/
def mIf {α : Type} (mc : M Bool) (ma mb : M α) : M α := mBind mc fun k => if k = true then ma else mb
def mAndT (ma mb : M Bool) : M Bool := mBind ma fun k => if k = true then mb else mPure false
def mOrT (ma mb : M Bool) : M Bool := mBind ma fun k => if k = true then mPure true else mb
def mNotT (ma : M Bool) : M Bool := mBind ma fun k => mPure (!k)
variable {ta tb : M Bool} {rest : List Expr}
theorem dtNot (ha : PT X a (tT X.K W ta)) : PT X (.UnaryOp .Not a pos) (tT X.K W (mNotT ta)) := by
  refine PT.imp (pt_not ha) ?_
  rintro σ H Q ⟨c, F, ρ, ok, h⟩
  refine ⟨c, F, ρ, ok, post_mono ?_ (post_bind h)⟩
  rintro k H1 F1 _ ⟨ρ1, ok1, s1, h1⟩
  exact post_ok (W := W) h1 ok1
theorem PW.imp {e : Expr} {t t' : TT} (h : PW X e t) (k : ∀ σ H Q, t' σ H Q → t σ H Q) : PW X e t' := ⟨fun wh pins s σ H Q I q => h.run wh pins s σ H Q I (k σ H Q q)⟩
theorem dwAnd1 (ha : PT X a (tT X.K W ta)) : PW X (.BoolOp .And [a] pos) (tT X.K W ta) := pw_and1 ha
theorem dwOr1 (ha : PT X a (tT X.K W ta)) : PW X (.BoolOp .Or [a] pos) (tT X.K W ta) := pw_or1 ha
theorem dwAnd (ha : PT X a (tT X.K W ta)) (hb : PW X (.BoolOp .And (b :: rest) pos) (tT X.K W tb)) : PW X (.BoolOp .And (a :: b :: rest) pos) (tT X.K W (mAndT ta tb)) := by
  refine PW.imp (pw_and ha hb) ?_
  rintro σ H Q ⟨c, F, ρ, ok, h⟩
  refine ⟨c, F, ρ, ok, post_mono ?_ (post_bind h)⟩
  rintro k H1 F1 _ ⟨ρ1, ok1, s1, h1⟩
  cases k with
  | true => exact ⟨c, F1, ρ1, ok1, h1⟩
  | false => exact post_ok (W := W) h1 ok1
theorem dwOr (ha : PT X a (tT X.K W ta)) (hb : PW X (.BoolOp .Or (b :: rest) pos) (tT X.K W tb)) : PW X (.BoolOp .Or (a :: b :: rest) pos) (tT X.K W (mOrT ta tb)) := by
  refine PW.imp (pw_or ha hb) ?_
  rintro σ H Q ⟨c, F, ρ, ok, h⟩
  refine ⟨c, F, ρ, ok, post_mono ?_ (post_bind h)⟩
  rintro k H1 F1 _ ⟨ρ1, ok1, s1, h1⟩
  cases k with
  | true => exact post_ok (W := W) h1 ok1
  | false => exact ⟨c, F1, ρ1, ok1, h1⟩
/-- .. as values -/
def mAnd (ma mb : M D) : M D := mBind ma fun a => mBind (mLift (truD a)) fun k => if k = true then mb else mPure a
def mOr (ma mb : M D) : M D := mBind ma fun a => mBind (mLift (truD a)) fun k => if k = true then mPure a else mb
def mNot (ma : M D) : M D := mBind ma fun a => mBind (mLift (truD a)) fun k => mPure (.bool (!k))
theorem dOne {op : BoolOp} (ha : PE X a (tE X.K W ma)) : PE X (.BoolOp op [a] pos) (tE X.K W ma) := pe_one ha
theorem dAnd (ha : PE X a (tE X.K W ma)) (hb : PE X (.BoolOp .And (b :: rest) pos) (tE X.K W mb)) : PE X (.BoolOp .And (a :: b :: rest) pos) (tE X.K W (mAnd ma mb)) := by
  refine PE.imp (pe_andT ha hb) ?_
  rintro σ H Q ⟨c, F, ρ, ok, h⟩
  refine ⟨c, F, ρ, ok, post_mono ?_ (post_bind h)⟩
  rintro a H1 F1 _ ⟨ρ1, ok1, s1, h1⟩ x rx
  obtain ⟨k, e, h2⟩ := post_lift (o := truD a) (by exact post_mono (fun _ _ _ _ q => q) (post_bind h1))
  obtain ⟨ρ2, ok2, s2, h3⟩ := post_ok (W := W) h2 ok1
  refine ⟨k, tru_of ok1 (.inl rx) e, ?_⟩
  cases k with
  | true => exact ⟨c, F1, ρ2, ok2, h3⟩
  | false => exact post_ok (W := W) h3 ok2 _ rx
theorem dOr (ha : PE X a (tE X.K W ma)) (hb : PE X (.BoolOp .Or (b :: rest) pos) (tE X.K W mb)) : PE X (.BoolOp .Or (a :: b :: rest) pos) (tE X.K W (mOr ma mb)) := by
  refine PE.imp (pe_orT ha hb) ?_
  rintro σ H Q ⟨c, F, ρ, ok, h⟩
  refine ⟨c, F, ρ, ok, post_mono ?_ (post_bind h)⟩
  rintro a H1 F1 _ ⟨ρ1, ok1, s1, h1⟩ x rx
  obtain ⟨k, e, h2⟩ := post_lift (o := truD a) (by exact post_mono (fun _ _ _ _ q => q) (post_bind h1))
  obtain ⟨ρ2, ok2, s2, h3⟩ := post_ok (W := W) h2 ok1
  refine ⟨k, tru_of ok1 (.inl rx) e, ?_⟩
  cases k with
  | true => exact post_ok (W := W) h3 ok2 _ rx
  | false => exact ⟨c, F1, ρ2, ok2, h3⟩
theorem dNot (ha : PE X a (tP X.K W ma)) : PE X (.UnaryOp .Not a pos) (tE X.K W (mNot ma)) := by
  refine PE.imp (pe_notT ha) ?_
  rintro σ H Q ⟨c, F, ρ, ok, h⟩
  refine ⟨c, F, ρ, ok, post_mono ?_ (post_bind h)⟩
  rintro a H1 F1 _ ⟨ρ1, ok1, s1, h1⟩ x rx
  obtain ⟨k, e, h2⟩ := post_lift (o := truD a) (by exact post_mono (fun _ _ _ _ q => q) (post_bind h1))
  obtain ⟨ρ2, ok2, s2, h3⟩ := post_ok (W := W) h2 ok1
  exact ⟨k, tru_of ok1 rx e, post_ok (W := W) h3 ok2 _ (.bl _)⟩
theorem dIf {cnd : Expr} {mc : M Bool} (hc : PT X cnd (tT X.K W mc)) (ha : PE X a (tE X.K W ma)) (hb : PE X b (tE X.K W mb)) : PE X (.IfExp cnd a b pos) (tE X.K W (mIf mc ma mb)) := by
  refine PE.imp (pe_ifExp hc ha hb) ?_
  rintro σ H Q ⟨c, F, ρ, ok, h⟩
  refine ⟨c, F, ρ, ok, post_mono ?_ (post_bind h)⟩
  rintro k H1 F1 _ ⟨ρ1, ok1, s1, h1⟩
  cases k with
  | true => exact ⟨c, F1, ρ1, ok1, h1⟩
  | false => exact ⟨c, F1, ρ1, ok1, h1⟩
/-! ### argument lists, displays -/
variable {es : List Expr} {ms : M (List D)}
def mCons (m : M D) (ms : M (List D)) : M (List D) := mBind m fun d => mBind ms fun ds => mPure (d :: ds)
theorem dNil : PA X [] (tA X.K W (mPure [])) := PA.imp pa_nil (by
  rintro σ H Q ⟨c, F, ρ, ok, h⟩
  exact post_ok (W := W) h ok _ .nil)
theorem dCons (ha : PE X a (tE X.K W ma)) (hr : PA X es (tA X.K W ms)) (hs : starEach (a :: es) X.env = (false, eval a X.env) :: starEach es X.env := by rfl) : PA X (a :: es) (tA X.K W (mCons ma ms)) := by
  refine PA.imp (pa_cons ha hr hs) ?_
  rintro σ H Q ⟨c, F, ρ, ok, h⟩
  refine ⟨c, F, ρ, ok, post_mono ?_ (post_bind h)⟩
  rintro d H1 F1 _ ⟨ρ1, ok1, s1, h1⟩ x rx
  refine ⟨c, F1, ρ1, ok1, post_mono ?_ (post_bind h1)⟩
  rintro ds H2 F2 _ ⟨ρ2, ok2, s2, h2⟩ xs rxs
  exact post_ok (W := W) h2 ok2 _ (.cons (Dp.mono s2 rx) rxs)
def mTup (ms : M (List D)) : M D := mBind ms fun ds => mLift (if fit ds.length = true then some (.tuple ds) else none)
def mLst (ms : M (List D)) : M D := mBind ms fun ds => mLift (if fit ds.length = true then some (.list ds) else none)
theorem dTup {x1} (h : PA X es (tA X.K W ms)) : PE X (.Tuple es x1 pos) (tE X.K W (mTup ms)) := by
  refine PE.imp (pe_tup h) ?_
  rintro σ H Q ⟨c, F, ρ, ok, h⟩
  refine ⟨c, F, ρ, ok, post_mono ?_ (post_bind h)⟩
  rintro ds H1 F1 _ ⟨ρ1, ok1, s1, h1⟩ xs rx
  obtain ⟨d, e, h2⟩ := post_lift h1
  split at e
  · rename_i hf
    cases e
    exact ⟨by rw [DpAll.length rx]; exact fit_le hf, fun p hp => new_tup ok1 rx h2 p hp⟩
  · cases e
theorem dLst (h : PA X es (tA X.K W ms)) : PE X (.List es pos) (tE X.K W (mLst ms)) := by
  refine PE.imp (pe_lst h) ?_
  rintro σ H Q ⟨c, F, ρ, ok, h⟩
  refine ⟨c, F, ρ, ok, post_mono ?_ (post_bind h)⟩
  rintro ds H1 F1 _ ⟨ρ1, ok1, s1, h1⟩ xs rx
  obtain ⟨d, e, h2⟩ := post_lift h1
  split at e
  · rename_i hf
    cases e
    exact ⟨by rw [DpAll.length rx]; exact fit_le hf, fun p hp => new_lst ok1 rx h2 p hp⟩
  · cases e
/-! ### built-ins by name -/
inductive PkAll (K : PySem.W.Frag) (H F : Hp) : List V → List D → Prop
  | nil : PkAll K H F [] []
  | cons {v : V} {vs : List V} {d : D} {ds : List D} : Pk K H F v d → PkAll K H F vs ds → PkAll K H F (v :: vs) (d :: ds)
theorem PkAll.of {F : Hp} : ∀ {vs : List V} {ds : List D}, DpAll K F vs ds → PkAll K H F vs ds
  | _, _, .nil => .nil
  | _, _, .cons h t => .cons (.inl h) (PkAll.of t)
def CallD (K : PySem.W.Frag) (r : List V → Hp → VK → Prop) (g : List D → Option D) : Prop :=
  ∀ {W : WX} {c : Ct} {σ : St} {H F : Hp} {ρ : En} {xs : List V} {ds : List D} {d : D} {Q : VK}, Ok K c σ H F ρ → PkAll K H F xs ds → g ds = some d → post K W c σ F (qE K Q) (some (.ok d ρ)) → r xs H Q
def mCall1 (g : List D → Option D) (m : M D) : M D := mBind m fun d => mLift (g [d])
def mCallN (g : List D → Option D) (ms : M (List D)) : M D := mBind ms fun ds => mLift (g ds)
variable {x : Str} {p : Pos} {id T : String} {r : List V → Hp → VK → Prop} {g : List D → Option D}
theorem tCB1 (hd : CallD K r g) {Q : VK} (h : tE K W (mCall1 g ma) σ H Q) : tCB r (tCons (tP K W ma) tNil) σ H Q := by
  obtain ⟨c, F, ρ, ok, h⟩ := h
  refine ⟨c, F, ρ, ok, post_mono ?_ (post_bind h)⟩
  rintro d H1 F1 _ ⟨ρ1, ok1, s1, h1⟩ x rx
  obtain ⟨d', e, h2⟩ := post_lift h1
  exact hd ok1 (.cons rx .nil) e h2
theorem tCBn (hd : CallD K r g) {Q : VK} (h : tE K W (mCallN g ms) σ H Q) : tCB r (tA K W ms) σ H Q := by
  obtain ⟨c, F, ρ, ok, h⟩ := h
  refine ⟨c, F, ρ, ok, post_mono ?_ (post_bind h)⟩
  rintro ds H1 F1 _ ⟨ρ1, ok1, s1, h1⟩ xs rx
  obtain ⟨d', e, h2⟩ := post_lift h1
  exact hd ok1 (.of rx) e h2
theorem dB1 (hc : CallR X (.builtin id) r) (hd : CallD X.K r g) (hm : X.mg x = none) (hv : bootBuiltins x = some (.builtin id)) (ha : PE X a (tP X.K W ma)) (hg : Gl X x := by rfl) (hs : starEach (a :: []) X.env = (false, eval a X.env) :: starEach [] X.env := by rfl) (hn : x ≠ "__name__" := by decide) (hdb : (x == ("__debug__" : Str)) = false := by decide)
    (hpl : (backTo pos (starEach [] X.env)).any (·.1) = false := by rfl) : PE X (.Call (.Name x p) [a] [] pos) (tE X.K W (mCall1 g ma)) :=
  PE.imp (pe_callB hc hg hm hv (pa_cons ha pa_nil hs) hn hdb hs hpl) fun _ _ _ => tCB1 hd
theorem dTy1 (hc : CallR X (.type T) r) (hd : CallD X.K r g) (hm : X.mg x = none) (hv : bootBuiltins x = some (.type T)) (ha : PE X a (tP X.K W ma)) (hg : Gl X x := by rfl) (hs : starEach (a :: []) X.env = (false, eval a X.env) :: starEach [] X.env := by rfl) (hn : x ≠ "__name__" := by decide) (hdb : (x == ("__debug__" : Str)) = false := by decide)
    (hpl : (backTo pos (starEach [] X.env)).any (·.1) = false := by rfl) : PE X (.Call (.Name x p) [a] [] pos) (tE X.K W (mCall1 g ma)) :=
  PE.imp (pe_callTy hc hg hm hv (pa_cons ha pa_nil hs) hn hdb hs hpl) fun _ _ _ => tCB1 hd
theorem dBn (hc : CallR X (.builtin id) r) (hd : CallD X.K r g) (hm : X.mg x = none) (hv : bootBuiltins x = some (.builtin id)) (ha : PA X (a :: es) (tA X.K W ms)) (hg : Gl X x := by rfl) (hs : starEach (a :: es) X.env = (false, eval a X.env) :: starEach es X.env := by rfl) (hn : x ≠ "__name__" := by decide) (hdb : (x == ("__debug__" : Str)) = false := by decide)
    (hpl : (backTo pos (starEach es X.env)).any (·.1) = false := by rfl) : PE X (.Call (.Name x p) (a :: es) [] pos) (tE X.K W (mCallN g ms)) :=
  PE.imp (pe_callB hc hg hm hv ha hn hdb hs hpl) fun _ _ _ => tCBn hd
end
end Dd

namespace Dd
open PySem PySem.Spec L2
section
variable {X : Cx} {W : WX} {K : PySem.W.Frag} {e tg : Expr} {st : Stmt} {sts : List Stmt} {m : M D} {pos : Pos} {m1 m2 : M Fl}
/-! ### statements -/
def mSeq (m1 m2 : M Fl) : M Fl := mBind m1 fun f => match f with
  | .nx => m2
  | o => mPure o
theorem bind_ok {α β : Type} {m : M α} {f : α → M β} {ρ ρ' : En} {b : β} (h : mBind m f ρ = some (.ok b ρ')) : ∃ a ρ1, m ρ = some (.ok a ρ1) ∧ f a ρ1 = some (.ok b ρ') := by
  unfold mBind at h
  cases e : m ρ with
  | none => rw [e] at h; cases h
  | some r =>
    rw [e] at h
    cases r with
    | ok a ρ1 => exact ⟨a, ρ1, rfl, h⟩
    | ex x ρ1 => cases h
theorem seq_post {c : Ct} {F : Hp} {Dn : Ends} {ρ : En} (h : postS K W c F Dn (mSeq m1 m2 ρ)) : postS K W c F { Dn with nx := tS K W m2 Dn } (m1 ρ) := by
  unfold mSeq mBind at h
  cases e : m1 ρ with
  | none => rw [e] at h; exact h
  | some r =>
    rw [e] at h
    cases r with
    | ex x ρ1 => exact h
    | ok f ρ1 =>
      cases f with
      | nx => exact fun σ' H' F' ok s => ⟨c, F', ρ1, ok, postS_weak s h⟩
      | bk => exact h
      | ct => exact h
      | rt d => exact h
      | rf ds => exact h
theorem dsCons (h1 : PS X st (tS X.K W m1)) (h2 : PSs X sts (tS X.K W m2)) : PSs X (st :: sts) (tS X.K W (mSeq m1 m2)) :=
  PSs.imp (pss_cons h1 h2) fun Dn σ H ⟨c, F, ρ, ok, h⟩ => ⟨c, F, ρ, ok, seq_post h⟩
theorem dsOne (h1 : PS X st (tS X.K W m1)) : PSs X [st] (tS X.K W m1) := pss_one h1
theorem dsNil : PSs X [] (tS X.K W (mPure .nx)) := PSs.imp pss_nil fun Dn σ H ⟨c, F, ρ, ok, h⟩ => h σ H F ok (Same.refl F)
def mRet (m : M D) : M Fl := mBind m fun d => mPure (.rt d)
theorem dRet (he : PE X e (tE X.K W m)) : PS X (.Return (some e) pos) (tS X.K W (mRet m)) := PS.imp (ps_ret he) (by
  rintro Dn σ H ⟨c, F, ρ, ok, h⟩
  refine ⟨c, F, ρ, ok, post_mono ?_ (postS_bind h)⟩
  rintro d H1 F1 _ ⟨ρ1, ok1, s1, h1⟩ v rv
  exact h1 σ v H1 F1 ok1 (Same.refl F1) rv)
/-- a new list is handed back, the caller's own -/
def mRetF (ms : M (List D)) : M Fl := mBind ms fun ds => mBind (mLift (if fit ds.length = true then some ds else none)) fun ds => mPure (.rf ds)
theorem dRetF {es : List Expr} {lp : Pos} {ms : M (List D)} (h : PA X es (tA X.K W ms)) : PS X (.Return (some (.List es lp)) pos) (tS X.K W (mRetF ms)) := PS.imp (ps_ret (pe_lst h)) (by
  rintro Dn σ H ⟨c, F, ρ, ok, h⟩
  refine ⟨c, F, ρ, ok, post_mono ?_ (postS_bind h)⟩
  rintro ds H1 F1 _ ⟨ρ1, ok1, s1, h1⟩ xs rx
  have h2 := postS_bind (σ := σ) h1
  obtain ⟨d, e, h3⟩ := post_lift h2
  split at e
  · rename_i hf
    cases e
    refine ⟨by rw [DpAll.length rx]; exact fit_le hf, fun p hp => ?_⟩
    obtain ⟨a1, a2, a3, a4, a5⟩ := ok1.new hp
    have k : Same H1 (upd H1 p (.lst xs)) := Same.updN hp
    have ok2 : Ok X.K c σ (upd H1 p (.lst xs)) F1 ρ1 := by
      obtain ok' := ok1.allocP (o := .lst xs) hp
      refine ⟨ok'.len, ok'.sub, ok'.ge, ok'.fe, ok'.keep, fun q z => ?_, fun b u z => ?_, ok'.val, fun i es z => ?_, ok'.ios, ok'.scr, ok'.sep, ok1.dcs.tr (Same.refl F1) fun q ws b1 b2 b3 b4 _ _ => ⟨k _ _ b1, b2, b4⟩⟩
      · obtain ⟨b1, b2, b3, xs', b4⟩ := ok1.iod q z
        exact ⟨b1, b2, b3, xs', k _ _ b4⟩
      · obtain ⟨b1, b2, b3⟩ := ok1.prt b u z
        exact ⟨k _ _ b1, b2, b3⟩
      · obtain ⟨q, vs, b1, b2, b3, b4, b5, b6⟩ := ok1.own i es z
        exact ⟨q, vs, b1, k _ _ b2, b3, b4, b5, b6⟩
    obtain ⟨ρ2, ok3, s3, h4⟩ := h3 _ _ ok2 (Same.refl F1)
    exact h4 σ p xs _ _ ok3 (Same.refl F1) upd_same rx a1 a2
  · cases e)
def mDrop (m : M D) : M Fl := mBind m fun _ => mPure .nx
theorem dExpr (he : PE X e (tE X.K W m)) (hs : swapsWith e none pos.line X.env = pure false := by rfl) : PS X (.Expr e pos) (tS X.K W (mDrop m)) := PS.imp (ps_expr he hs) (by
  rintro Dn σ H ⟨c, F, ρ, ok, h⟩
  refine ⟨c, F, ρ, ok, post_mono ?_ (postS_bind h)⟩
  rintro d H1 F1 _ ⟨ρ1, ok1, s1, h1⟩ v rv
  exact h1 σ H1 F1 ok1 (Same.refl F1))
theorem dIfS {cnd : Expr} {a b : List Stmt} {mc : M Bool} (hc : PT X cnd (tT X.K W mc)) (ha : PSs X a (tS X.K W m1)) (hb : PSs X b (tS X.K W m2)) : PS X (.If cnd a b pos) (tS X.K W (mIf mc m1 m2)) := PS.imp (ps_if hc ha hb) (by
  rintro Dn σ H ⟨c, F, ρ, ok, h⟩
  refine ⟨c, F, ρ, ok, post_mono ?_ (postS_bind h)⟩
  rintro k H1 F1 _ ⟨ρ1, ok1, s1, h1⟩
  cases k with
  | true => exact ⟨c, F1, ρ1, ok1, h1⟩
  | false => exact ⟨c, F1, ρ1, ok1, h1⟩)
/-! ### stores -/
def mStore (i : Nat) (d : D) : M Unit := fun ρ => if i < ρ.length then some (.ok () (ρ.set i (.val d))) else none
def mDone : M Fl := mPure .nx
theorem dgName {i : Nat} {x : Str} {p : Pos} (hN : X.N.Nodup) (hi : X.N[i]? = some x := by rfl) (hx : Loc X.env.scope x := by first | exact Or.inl rfl | exact Or.inr rfl) (hf : X.fn x = true ∨ X.env.scope.names.lookup x = some .local := by first | exact .inl rfl | exact .inr rfl) : PG X (.Name x p) (tG X.K W (mStore i)) := PG.imp (pg_name hN hi hx hf) (by
  rintro v σ H Q ⟨c, F, ρ, d, ok, r, h⟩
  unfold mStore at h
  split at h
  · rename_i hl
    exact h _ H F (ok.setV hl r) (Same.refl F)
  · exact h.elim)
def gCons2 (g : D → M Unit) (gs : List D → M Unit) : List D → M Unit
  | [] => mStuck
  | d :: ds => mBind (g d) fun _ => gs ds
theorem dgsCons {es : List Expr} {g : D → M Unit} {gs : List D → M Unit} (h1 : PG X e (tG X.K W g)) (h2 : PGs X es (tGs X.K W gs)) (hs : (assignEach (e :: es) X.env).map (·.2) = assign e X.env :: (assignEach es X.env).map (·.2) := by rfl) : PGs X (e :: es) (tGs X.K W (gCons2 g gs)) :=
  PGs.imp (pgs_cons h1 h2 hs) (by
  rintro vs σ H Q ⟨c, F, ρ, ds, ok, r, h⟩
  cases r with
  | nil => exact h.elim
  | cons r rr =>
    refine ⟨_, _, rfl, c, F, ρ, _, ok, r, postG_mono ?_ (postG_bindG h)⟩
    rintro σ1 H1 ⟨F1, ρ1, ok1, s1, h1⟩
    exact ⟨c, F1, ρ1, _, ok1, DpAll.mono s1 rr, h1⟩)
def gTupD (n : Nat) (gs : List D → M Unit) : D → M Unit
  | .tuple ds => if ds.length = n then gs ds else mStuck
  | _ => mStuck
theorem dgTup {es : List Expr} {k : Nat} {gs : List D → M Unit} {n : Nat} (hc : X.calm = true) (h : PGs X es (tGs X.K W gs)) (hn : (assignEach es X.env).length = n := by rfl) (hst : (assignEach es X.env).findIdx? (·.1) = none := by rfl) : PG X (.Tuple es k pos) (tG X.K W (gTupD n gs)) :=
  PG.imp (pg_tup hc h hn hst) (by
  rintro v σ H Q ⟨c, F, ρ, d, ok, r, h⟩
  unfold gTupD at h
  split at h
  · split at h
    · rename_i hl
      obtain ⟨p, vs, rfl, hp, dp⟩ := Pk.tup ok.sub (.inl r)
      exact ⟨p, vs, rfl, hp, by rw [DpAll.length dp]; exact hl, c, F, ρ, _, ok, dp, h⟩
    · exact h.elim
  · exact h.elim)
/-- a slot's own list (or the caller's): what it holds; it is changed -/
def mOwn (i : Nat) : M (List D) := fun ρ => match ρ[i]? with
  | some (.own ds) => some (.ok ds ρ)
  | some (.io ds) => some (.ok ds ρ)
  | _ => none
def mPut (i : Nat) (ds : List D) : M Unit := fun ρ => match ρ[i]? with
  | some (.own _) => some (.ok () (ρ.set i (.own ds)))
  | some (.io _) => some (.ok () (ρ.set i (.io ds)))
  | _ => none
theorem own_at {c : Ct} {σ : St} {H F : Hp} {ρ : En} {i : Nat} {α : Type} {G : α → Hp → Hp → Prop} {f : List D → M α} (ok : Ok K c σ H F ρ) (h : post K W c σ F G (mBind (mOwn i) f ρ)) :
    ∃ p vs ds, σ[i]? = some (some (.ref p)) ∧ H p = some (.lst vs) ∧ DpAll K F vs ds ∧ F p = none ∧ post K W c σ F G (f ds ρ) := by
  unfold mBind mOwn at h
  cases e : ρ[i]? with
  | none => rw [e] at h; exact h.elim
  | some u =>
    rw [e] at h
    cases u with
    | own ds =>
      obtain ⟨p, vs, a1, a2, a3, a4, _⟩ := ok.own i ds e
      exact ⟨p, vs, ds, a1, a2, a3, a4, h⟩
    | io ds =>
      obtain ⟨_, p, vs, a0, a1, a2, a3⟩ := ok.ios i ds e
      exact ⟨p, vs, ds, a1, a2, a3, (ok.iod p a0).1, h⟩
    | un => exact h.elim
    | val _ => exact h.elim
    | scr _ => exact h.elim
    | dct _ => exact h.elim
    | nst _ => exact h.elim
theorem own_atG {c : Ct} {σ : St} {H F : Hp} {ρ : En} {i : Nat} {Q : St → Hp → Prop} {f : List D → M Unit} (ok : Ok K c σ H F ρ) (h : postG K W c F Q (mBind (mOwn i) f ρ)) :
    ∃ p vs ds, σ[i]? = some (some (.ref p)) ∧ H p = some (.lst vs) ∧ DpAll K F vs ds ∧ F p = none ∧ postG K W c F Q (f ds ρ) := by
  unfold mBind mOwn at h
  cases e : ρ[i]? with
  | none => rw [e] at h; exact h.elim
  | some u =>
    rw [e] at h
    cases u with
    | own ds =>
      obtain ⟨p, vs, a1, a2, a3, a4, _⟩ := ok.own i ds e
      exact ⟨p, vs, ds, a1, a2, a3, a4, h⟩
    | io ds =>
      obtain ⟨_, p, vs, a0, a1, a2, a3⟩ := ok.ios i ds e
      exact ⟨p, vs, ds, a1, a2, a3, (ok.iod p a0).1, h⟩
    | un => exact h.elim
    | val _ => exact h.elim
    | scr _ => exact h.elim
    | dct _ => exact h.elim
    | nst _ => exact h.elim
theorem put_ok {c : Ct} {σ : St} {H F : Hp} {ρ : En} {i : Nat} {ds : List D} {vs' : List V} {p : Addr} {α : Type} {G : α → Hp → Hp → Prop} {f : Unit → M α} (ok : Ok K c σ H F ρ) (hp : σ[i]? = some (some (.ref p))) (hd : DpAll K F vs' ds)
    (h : post K W c σ F G (mBind (mPut i ds) f ρ)) : ∃ ρ', Ok K c σ (upd H p (.lst vs')) F ρ' ∧ post K W c σ F G (f () ρ') := by
  unfold mBind mPut at h
  cases e : ρ[i]? with
  | none => rw [e] at h; exact h.elim
  | some u =>
    rw [e] at h
    cases u with
    | own es => exact ⟨_, ok.change e p hp hd, h⟩
    | io es => exact ⟨_, ok.changeI e p hp hd, h⟩
    | un => exact h.elim
    | val _ => exact h.elim
    | scr _ => exact h.elim
    | dct _ => exact h.elim
    | nst _ => exact h.elim
theorem put_okG {c : Ct} {σ : St} {H F : Hp} {ρ : En} {i : Nat} {ds : List D} {vs' : List V} {p : Addr} {Q : St → Hp → Prop} (ok : Ok K c σ H F ρ) (hp : σ[i]? = some (some (.ref p))) (hd : DpAll K F vs' ds)
    (h : postG K W c F Q (mPut i ds ρ)) : Q σ (upd H p (.lst vs')) := by
  unfold mPut at h
  cases e : ρ[i]? with
  | none => rw [e] at h; exact h.elim
  | some u =>
    rw [e] at h
    cases u with
    | own es => exact h _ _ _ (ok.change e p hp hd) (Same.refl F)
    | io es => exact h _ _ _ (ok.changeI e p hp hd) (Same.refl F)
    | un => exact h.elim
    | val _ => exact h.elim
    | scr _ => exact h.elim
    | dct _ => exact h.elim
    | nst _ => exact h.elim
/-- x[k] = value, x a slot's own list -/
def setD : List D → D → D → Option (List D)
  | ds, .int k, d => (ixN ds.length k).map fun j => ds.set j d
  | _, _, _ => none
def gSet (i : Nat) (mk : M D) (d : D) : M Unit := mBind (mOwn i) fun _ => mBind mk fun k => mBind (mOwn i) fun ds => mBind (mLift (setD ds k d)) fun es => mPut i es
theorem dgSet {i : Nat} {o k : Expr} {mk : M D} (ho : PE X o (tVar i)) (hk : PE X k (tE X.K W mk))
    (ha : ∀ v, assign (.Subscript o k pos) X.env v = (do
      let ov ← holding [v] (eval o X.env)
      let iv ← holding [v, ov] (eval k X.env)
      standAt pos
      holding [v, ov, iv] (setItem ov iv v)
      release [v, ov, iv] []) := by exact fun _ => rfl) : PG X (.Subscript o k pos) (tG X.K W (gSet i mk)) := PG.imp (pg_sub ho hk set_list ha) (by
  rintro v σ H Q ⟨c, F, ρ, d, ok, r, h⟩
  obtain ⟨p, vs, ds, a1, a2, a3, a4, h⟩ := own_atG ok h
  refine ⟨.ref p, a1, c, F, ρ, ok, post_mono ?_ (postG_bind h)⟩
  rintro kd H1 F1 _ ⟨ρ1, ok1, s1, h1⟩ kv rk
  obtain ⟨p', vs1, ds1, b1, b2, b3, b4, h1⟩ := own_atG ok1 h1
  have ep : p' = p := by rw [a1] at b1; cases b1; rfl
  subst ep
  have h2 := postG_bind (σ := σ) h1
  obtain ⟨es, e, h3⟩ := post_lift h2
  obtain ⟨ρ2, ok2, s2, h4⟩ := h3 H1 F1 ok1 (Same.refl F1)
  cases kd with
  | int z =>
    cases rk
    have e : (ixN ds1.length z).map (fun j => ds1.set j d) = some es := e
    cases q : ixN ds1.length z with
    | none => rw [q] at e; cases e
    | some j =>
      rw [q] at e
      cases e
      refine ⟨p', vs1, z, j, rfl, rfl, b2, by rw [DpAll.length b3]; exact q, ?_⟩
      exact put_okG ok2 b1 (DpAll.set (Dp.mono s1 r) j b3) h4
  | none => cases e
  | bool _ => cases e
  | str _ => cases e
  | list _ => cases e
  | tuple _ => cases e
  | dict _ => cases e)
def mAsg (m : M D) (g : D → M Unit) : M Fl := mBind m fun d => mBind (g d) fun _ => mDone
theorem asg_of {Dn : Ends} {σ : St} {H : Hp} {g : D → M Unit} (h : tS K W (mAsg m g) Dn σ H) : tAsg (tE K W m) (tG K W g) Dn σ H := by
  obtain ⟨c, F, ρ, ok, h⟩ := h
  refine ⟨c, F, ρ, ok, post_mono ?_ (postS_bind h)⟩
  rintro d H1 F1 _ ⟨ρ1, ok1, s1, h1⟩ v rv
  refine ⟨c, F1, ρ1, d, ok1, rv, postG_mono ?_ (postS_bindG h1)⟩
  rintro σ2 H2 ⟨F2, ρ2, ok2, s2, h2⟩
  exact h2 σ2 H2 F2 ok2 (Same.refl F2)
theorem dAsg {g : D → M Unit} (he : PE X e (tE X.K W m)) (hg : PG X tg (tG X.K W g)) (hs : swapsWithSole [tg] e pos.line X.env = pure false := by rfl) (hw : swappedStores [tg] e X.env = pure none := by rfl)
    (h1 : (assignEach [tg] X.env).map (·.2) = [assign tg X.env] := by rfl) : PS X (.Assign [tg] e pos) (tS X.K W (mAsg m g)) := PS.imp (ps_asg he hg hs hw h1) fun _ _ _ => asg_of
/-- name = value -/
theorem dSet {i : Nat} {x : Str} {pos' : Pos} (hN : X.N.Nodup) (he : PE X e (tE X.K W m)) (hi : X.N[i]? = some x := by rfl) (hx : Loc X.env.scope x := by first | exact Or.inl rfl | exact Or.inr rfl) (hs : swapsWith e (some (.Name x pos')) pos.line X.env = pure false := by rfl)
    (hf : X.fn x = true ∨ X.env.scope.names.lookup x = some .local := by first | exact .inl rfl | exact .inr rfl) : PS X (.Assign [.Name x pos'] e pos) (tS X.K W (mAsg m (mStore i))) := PS.imp (ps_set hN hi hx he hs hf) (by
  rintro Dn σ H h
  obtain ⟨c, F, ρ, ok, h⟩ := h
  refine ⟨c, F, ρ, ok, post_mono ?_ (postS_bind h)⟩
  rintro d H1 F1 _ ⟨ρ1, ok1, s1, h1⟩ v rv
  have h2 := postS_bindG h1
  unfold mStore at h2
  split at h2
  · rename_i hl
    obtain ⟨F2, ρ2, ok2, s2, h3⟩ := h2 _ H1 F1 (ok1.setV hl rv) (Same.refl F1)
    exact h3 _ _ _ ok2 (Same.refl F2)
  · exact h2.elim)
/-- name = [..], its own -/
def mStoreO (i : Nat) (ds : List D) : M Unit := fun ρ => if i < ρ.length then some (.ok () (ρ.set i (.own ds))) else none
/-! ### methods that change a slot's own list -/
def MutD (K : PySem.W.Frag) (r : V → List V → Hp → VK → Prop) (g : List D → List D → Option (List D × D)) : Prop :=
  ∀ {H F : Hp} {l : Addr} {xs vs : List V} {ds as ds' : List D} {d : D} {Q : VK}, Same F H → F l = none → H l = some (.lst xs) → DpAll K F xs ds → DpAll K F vs as → g ds as = some (ds', d) →
    (∀ xs' v, DpAll K F xs' ds' → Dp K F v d → Q v (upd H l (.lst xs'))) → r (.ref l) vs H Q
def mMut (i : Nat) (g : List D → List D → Option (List D × D)) (ms : M (List D)) : M D := mBind (mOwn i) fun _ => mBind ms fun as => mBind (mOwn i) fun ds => mBind (mLift (g ds as)) fun q => mBind (mPut i q.1) fun _ => mPure q.2
theorem mut_of {i : Nat} {r : V → List V → Hp → VK → Prop} {g : List D → List D → Option (List D × D)} (hd : MutD K r g) {ms : M (List D)} {σ : St} {H : Hp} {Q : VK} (h : tE K W (mMut i g ms) σ H Q) : tBM K "list" r (tVar i) (tA K W ms) σ H Q := by
  obtain ⟨c, F, ρ, ok, h⟩ := h
  obtain ⟨p, vs, ds, a1, a2, a3, a4, h⟩ := own_at ok h
  refine ⟨.ref p, a1, .inl ⟨rfl, vs, SqL.of a2⟩, c, F, ρ, ok, post_mono ?_ (post_bind h)⟩
  rintro as H1 F1 _ ⟨ρ1, ok1, s1, h1⟩ ws rw'
  obtain ⟨p', vs1, ds1, b1, b2, b3, b4, h1⟩ := own_at ok1 h1
  have ep : p' = p := by rw [a1] at b1; cases b1; rfl
  subst ep
  obtain ⟨⟨ds', d⟩, e, h2⟩ := post_lift (post_bind h1)
  obtain ⟨ρ2, ok2, s2, h3⟩ := h2 H1 F1 ok1 (Same.refl F1)
  refine hd ok1.sub b4 b2 b3 rw' e fun xs' v dx dv => ?_
  obtain ⟨ρ3, ok3, h4⟩ := put_ok ok2 b1 dx h3
  exact h4 _ _ ok3 (Same.refl F1) v dv
def appD : List D → List D → Option (List D × D)
  | ds, [d] => if fit ds.length = true then some (ds ++ [d], .none) else none
  | _, _ => none
theorem mut_app : MutD K rAppend appD := by
  intro H F l xs vs ds as ds' d Q s hF hl hx hv e k
  cases hv with
  | nil => cases e
  | cons h t =>
    cases t with
    | cons _ _ => cases e
    | nil =>
      rename_i v0 d0
      have e : (if fit ds.length = true then some (ds ++ [d0], PyData.none) else none) = some (ds', d) := e
      by_cases hf : fit ds.length = true
      · rw [if_pos hf] at e
        cases e
        exact ⟨l, xs, _, rfl, rfl, hl, by rw [DpAll.length hx]; exact fit_lt hf, k _ _ (DpAll.append hx (.one h)) .non⟩
      · rw [if_neg hf] at e
        cases e
def popAtD : List D → List D → Option (List D × D)
  | ds, [.int i] => if decide (i.natAbs < 9223372036854775808) = true then (seqIndex? i ds.length).bind fun k => (ds[k]?).map fun d => (ds.eraseIdx k, d) else none
  | _, _ => none
theorem mut_popAt : MutD K rPopAt popAtD := by
  intro H F l xs vs ds as ds' d Q s hF hl hx hv e k
  unfold popAtD at e
  split at e
  · rename_i i
    cases hv with
    | cons h t =>
      cases t
      cases h
      split at e
      · rename_i hb
        have hb := of_decide_eq_true hb
        cases q : seqIndex? i ds.length with
        | none => rw [q] at e; cases e
        | some j =>
          rw [q] at e
          cases q2 : ds[j]? with
          | none => simp only [Option.bind_some] at e; rw [q2] at e; cases e
          | some y =>
            simp only [Option.bind_some] at e
            rw [q2] at e
            cases e
            obtain ⟨v, e1, e2⟩ := DpAll.getd hx q2
            exact ⟨l, xs, i, j, v, rfl, rfl, hl, by omega, by omega, by rw [DpAll.length hx]; exact q, e1, k _ _ (DpAll.eraseIdx j hx) e2⟩
      · cases e
  · cases e
end
end Dd

namespace Dd
open PySem PySem.Spec L2
section
variable {X : Cx} {W : WX} {K : PySem.W.Frag} {e tg : Expr} {m : M D} {pos : Pos}
/-! ### what is walked -/
structure ItD (K : PySem.W.Frag) (F : Hp) (J : It) (ds : List D) : Prop where
  go : ∀ H i, Same F H → i < ds.length → J.go i H
  stop : ∀ H i, Same F H → ds.length ≤ i → J.stop i H
  yld : ∀ H i x H' d, Same F H → ds[i]? = some d → J.yld i H x H' → (H' = H ∧ Dp K F x d) ∨ (∃ T xs es, d = .tuple es ∧ x = .ref T ∧ H T = none ∧ H' = upd H T (.tup xs) ∧ DpAll K F xs es)
def tI (K : PySem.W.Frag) (W : WX) (m : M (List D)) : TI := fun σ H R => ∃ c F ρ, Ok K c σ H F ρ ∧ post K W c σ F (fun ds H1 F1 => ∀ J, ItD K F1 J ds → R J H1) (m ρ)
/-- a list or a tuple -/
def iSeq (K : PySem.W.Frag) (tl : TE) : TI := fun σ H R => tl σ H fun x H1 => ∃ a, x = .ref a ∧ (((∃ xs, SqL K H1 a xs) ∧ R (Itl K a) H1) ∨ ((∃ xs, SqT K H1 a xs) ∧ R (Itt K a) H1))
theorem pi_seq {l : Expr} {tl : TE} (hl : PE X l tl) : PI X tg l (iSeq X.K tl) := by
  refine ⟨fun pins s σ H R I h => ?_⟩
  refine thn (hl.run pins s σ H _ I h) fun v s1 ⟨x, H1, I1, r1, q1⟩ => ?_
  obtain ⟨a, e, ⟨⟨xs, hq⟩, q⟩ | ⟨⟨xs, hq⟩, q⟩⟩ := q1
  · subst e
    cases r1
    obtain ⟨its, rv, p, hz⟩ := I1.list hq
    refine wpAny_pyIter_list p.isList ?_
    refine ⟨s1.heap.objs.size, [s1.heap.objs.size], _, _, H1, rfl, I1.kept (t' := s1.toks) fun b o e => Heap.get?_push_of_some _ e, turn_list a _, ⟨_, Heap.get?_push_size _ rfl, rfl, rfl⟩, fun b hb => ?_, q⟩
    have e : b = s1.heap.objs.size := by simpa using hb
    subst e
    exact I1.fpOk (Nat.le_refl _) (I1.hok.fresh (Nat.le_refl _))
  · subst e
    cases r1
    obtain ⟨its, rv, p, hz⟩ := I1.tuple hq
    refine wpAny_pyIter_tuple (show s1.heap.IsTuple a its.toArray from p) ?_
    refine ⟨s1.heap.objs.size, [s1.heap.objs.size], _, _, H1, rfl, I1.kept (t' := s1.toks) fun b o e => Heap.get?_push_of_some _ e, turn_tuple a _, ⟨_, Heap.get?_push_size _ rfl, rfl, rfl⟩, fun b hb => ?_, q⟩
    have e : b = s1.heap.objs.size := by simpa using hb
    subst e
    exact I1.fpOk (Nat.le_refl _) (I1.hok.fresh (Nat.le_refl _))
/-- a value that is walked: a list's, a tuple's items -/
def itemsD : D → Option (List D)
  | .list ds => some ds
  | .tuple ds => some ds
  | _ => none
def mItems (m : M D) : M (List D) := mBind m fun d => mLift (itemsD d)
end
section
variable {X : Cx} {W : WX} {K : PySem.W.Frag} {e tg : Expr} {m : M D} {pos : Pos}
/-- two readings of one sequence agree: by the machine's own heap -/
theorem itl_D {F : Hp} {a : Addr} {xs : List V} {ds : List D} (h : Rd F a (.lst xs)) (hd : DpAll K F xs ds) : ItD K F (Itl K a) ds where
  go := fun H i s hi => by
    obtain ⟨x, q⟩ : ∃ x, xs[i]? = some x := ⟨xs[i]'(by rw [DpAll.length hd]; exact hi), by simp⟩
    exact ⟨xs, x, .inl (Rd.mono s h), q⟩
  stop := fun H i s hi => ⟨xs, .inl (Rd.mono s h), by rw [DpAll.length hd]; exact hi⟩
  yld := fun H i x H' d s q y => by
    obtain ⟨e, y⟩ := y
    obtain ⟨v, q1, q2⟩ := DpAll.getd hd q
    have q3 := y xs (.inl (Rd.mono s h))
    rw [q3] at q1
    cases q1
    exact .inl ⟨e, q2⟩
theorem itt_D {F : Hp} {a : Addr} {xs : List V} {ds : List D} (h : SqT K F a xs) (hd : DpAll K F xs ds) : ItD K F (Itt K a) ds where
  go := fun H i s hi => by
    obtain ⟨x, q⟩ : ∃ x, xs[i]? = some x := ⟨xs[i]'(by rw [DpAll.length hd]; exact hi), by simp⟩
    exact ⟨xs, x, SqT.mono s h, q⟩
  stop := fun H i s hi => ⟨xs, SqT.mono s h, by rw [DpAll.length hd]; exact hi⟩
  yld := fun H i x H' d s q y => by
    obtain ⟨e, y⟩ := y
    obtain ⟨v, q1, q2⟩ := DpAll.getd hd q
    have q3 := y xs (SqT.mono s h)
    rw [q3] at q1
    cases q1
    exact .inl ⟨e, q2⟩
theorem diSeq (he : PE X e (tE X.K W m)) : PI X tg e (tI X.K W (mItems m)) := PI.imp (pi_seq he) (by
  rintro σ H R ⟨c, F, ρ, ok, h⟩
  refine ⟨c, F, ρ, ok, post_mono ?_ (post_bind h)⟩
  rintro d H1 F1 _ ⟨ρ1, ok1, s1, h1⟩ v rv
  obtain ⟨ds, e, h2⟩ := post_lift h1
  unfold itemsD at e
  split at e
  · cases e
    cases rv with
    | lst hr hd => exact ⟨_, rfl, .inl ⟨⟨_, .inl (Rd.mono ok1.sub hr)⟩, h2 H1 F1 ok1 (Same.refl F1) _ (itl_D hr hd)⟩⟩
  · cases e
    cases rv with
    | tup hr hd => exact ⟨_, rfl, .inr ⟨⟨_, SqT.mono ok1.sub hr⟩, h2 H1 F1 ok1 (Same.refl F1) _ (itt_D hr hd)⟩⟩
  · cases e)
/-- range -/
def rngL (lo hi : Int) : List D := (List.range (hi - lo).toNat).map fun i => .int (lo + (i : Nat))
def rngOk (i : Int) : Bool := decide (i.natAbs < 4611686018427387904)
def rngD1 : List D → Option (List D)
  | [.int j] => if rngOk j = true then some (rngL 0 j) else none
  | _ => none
def rngD2 : List D → Option (List D)
  | [.int i, .int j] => if (rngOk i && rngOk j) = true then some (rngL i j) else none
  | _ => none
theorem rngL_get {lo hi : Int} {i : Nat} {d : D} (h : (rngL lo hi)[i]? = some d) : d = .int (lo + (i : Nat)) ∧ i < (hi - lo).toNat := by
  unfold rngL at h
  rw [List.getElem?_map] at h
  by_cases q : i < (hi - lo).toNat
  · rw [List.getElem?_range q] at h
    cases h
    exact ⟨rfl, q⟩
  · rw [List.getElem?_eq_none (by simpa using q)] at h
    cases h
theorem rngL_length (lo hi : Int) : (rngL lo hi).length = (hi - lo).toNat := by simp [rngL]
theorem itr_D {F : Hp} {lo hi : Int} : ItD K F (Itr lo (hi - lo).toNat) (rngL lo hi) where
  go := fun H i s hi => by rw [rngL_length] at hi; exact hi
  stop := fun H i s hi => by rw [rngL_length] at hi; exact hi
  yld := fun H i x H' d s q y => by
    obtain ⟨e1, e2⟩ := y
    obtain ⟨e3, _⟩ := rngL_get q
    subst e1 e2 e3
    exact .inl ⟨rfl, .int _⟩
def mRng1 (ms : M (List D)) : M (List D) := mBind ms fun ds => mLift (rngD1 ds)
def mRng2 (ms : M (List D)) : M (List D) := mBind ms fun ds => mLift (rngD2 ds)
variable {a b : Expr} {ms : M (List D)} {p : Pos}
theorem rngOk_of {i : Int} (h : rngOk i = true) : -(2 ^ 62) ≤ i ∧ i < 2 ^ 62 := by
  unfold rngOk at h
  have h := of_decide_eq_true h
  exact ⟨by omega, by omega⟩
theorem diRng1 (hm : X.mg "range" = none) (ha : PA X [a] (tA X.K W ms)) (hg : Gl X "range" := by rfl) (hs : starEach [a] X.env = [(false, eval a X.env)] := by rfl) : PI X tg (.Call (.Name "range" p) [a] [] pos) (tI X.K W (mRng1 ms)) := PI.imp (pi_range1 hg hm ha hs) (by
  rintro σ H R ⟨c, F, ρ, ok, h⟩
  refine ⟨c, F, ρ, ok, post_mono ?_ (post_bind h)⟩
  rintro ds H1 F1 _ ⟨ρ1, ok1, s1, h1⟩ vs rv
  obtain ⟨out, e, h2⟩ := post_lift h1
  unfold rngD1 at e
  split at e
  · rename_i j
    split at e
    · rename_i hb
      cases e
      cases rv with
      | cons r t =>
        cases t
        cases r
        obtain ⟨b1, b2⟩ := rngOk_of hb
        refine ⟨j, rfl, b1, b2, h2 H1 F1 ok1 (Same.refl F1) _ ?_⟩
        have q := itr_D (K := X.K) (F := F1) (lo := 0) (hi := j)
        rw [Int.sub_zero] at q
        exact q
    · cases e
  · cases e)
variable {elts : List Expr} {kk : Nat} {tpos : Pos}
def zipL (ds es : List D) : List D := List.zipWith (fun x y => .tuple [x, y]) ds es
theorem zipL_get {ds es : List D} {i : Nat} {d : D} (h : (zipL ds es)[i]? = some d) : ∃ y z, ds[i]? = some y ∧ es[i]? = some z ∧ d = .tuple [y, z] := by
  unfold zipL at h
  rw [List.getElem?_zipWith] at h
  cases q1 : ds[i]? with
  | none => rw [q1] at h; cases h
  | some y =>
    cases q2 : es[i]? with
    | none => rw [q1, q2] at h; cases h
    | some z =>
      rw [q1, q2] at h
      cases h
      exact ⟨y, z, rfl, rfl, rfl⟩
end
/-! ### for, while -/
def mForL (g : D → M Unit) (body : M Fl) : List D → M Fl
  | [] => mPure .nx
  | d :: ds => mBind (g d) fun _ => mBind body fun f => match f with
    | .nx => mForL g body ds
    | .ct => mForL g body ds
    | .bk => mPure .nx
    | o => mPure o
def mFor (mi : M (List D)) (g : D → M Unit) (body : M Fl) : M Fl := mBind mi fun ds => mForL g body ds
section
variable {X : Cx} {W : WX} {K : PySem.W.Frag} {e tg : Expr} {pos : Pos}
theorem yld_ok {c : Ct} {σ : St} {H F : Hp} {ρ : En} {J : It} {ds : List D} {i : Nat} {x : V} {H' : Hp} {d : D} (ok : Ok K c σ H F ρ) (hJ : ∀ H x H' d, Same F H → ds[i]? = some d → J.yld i H x H' → (H' = H ∧ Dp K F x d) ∨ (∃ T xs es, d = .tuple es ∧ x = .ref T ∧ H T = none ∧ H' = upd H T (.tup xs) ∧ DpAll K F xs es)) (e : ds[i]? = some d) (y : J.yld i H x H') :
    ∃ F', Ok K c σ H' F' ρ ∧ Same F F' ∧ Dp K F' x d := by
  rcases hJ H x H' d ok.sub e y with ⟨rfl, r⟩ | ⟨T, xs, es, rfl, rfl, hT, rfl, r⟩
  · exact ⟨F, ok, Same.refl F, r⟩
  · have s : Same F (upd F T (.tup xs)) := Same.updN (ok.new hT).1
    exact ⟨_, ok.alloc hT, s, .tup (SqT.of upd_same) (DpAll.mono s r)⟩
theorem ItD.mono {F F' : Hp} {J : It} {ds : List D} (s : Same F F') (h : ItD K F J ds) : ∀ (i : Nat) H x H' d, Same F' H → ds[i]? = some d → J.yld i H x H' → (H' = H ∧ Dp K F' x d) ∨ (∃ T xs es, d = .tuple es ∧ x = .ref T ∧ H T = none ∧ H' = upd H T (.tup xs) ∧ DpAll K F' xs es) := fun i H x H' d s' e y => by
  rcases h.yld H i x H' d (s.trans s') e y with ⟨a1, a2⟩ | ⟨T, xs, es, a1, a2, a3, a4, a5⟩
  · exact .inl ⟨a1, Dp.mono s a2⟩
  · exact .inr ⟨T, xs, es, a1, a2, a3, a4, DpAll.mono s a5⟩
theorem for_post {c : Ct} {F : Hp} {Dn : Ends} {ρ : En} {mb rest : M Fl} {N : St → Hp → Prop} (h : postS K W c F Dn (mBind mb (fun f => match f with
    | .nx => rest
    | .ct => rest
    | .bk => mPure .nx
    | o => mPure o) ρ)) (hN : ∀ σ' H' F' ρ', Ok K c σ' H' F' ρ' → Same F F' → postS K W c F' Dn (rest ρ') → N σ' H') : postS K W c F { Dn with nx := N, ct := N, bk := Dn.nx } (mb ρ) := by
  unfold mBind at h
  cases e : mb ρ with
  | none => rw [e] at h; exact h
  | some r =>
    rw [e] at h
    cases r with
    | ex x ρ1 => exact h
    | ok f ρ1 =>
      cases f with
      | nx => exact fun σ' H' F' ok s => hN σ' H' F' ρ1 ok s (postS_weak s h)
      | ct => exact fun σ' H' F' ok s => hN σ' H' F' ρ1 ok s (postS_weak s h)
      | bk => exact h
      | rt d => exact h
      | rf ds => exact h
theorem dFor {iter : Expr} {body : List Stmt} {mi : M (List D)} {g : D → M Unit} {mb : M Fl} (hp : PassesOwn (model X.prog X.w) X.A X.env X.xe) (hc : X.calm = true) (hi : PI X tg iter (tI X.K W mi)) (hg : PG X tg (tG X.K W g)) (hb : PSs X body (tS X.K W mb))
    (hs : ∀ x, foldedSetIterable iter X.env x = pure x := by exact fun _ => rfl) : PS X (.For tg iter body [] pos) (tS X.K W (mFor mi g mb)) := PS.imp (ps_for hp hc hi hg hb hs) (by
  rintro Dn σ H ⟨c, F, ρ, ok, h⟩
  refine ⟨c, F, ρ, ok, post_mono ?_ (postS_bind h)⟩
  rintro ds H1 F1 _ ⟨ρ1, ok1, s1, h1⟩ J hJ
  refine ⟨fun i n σ' H' => i + n = ds.length ∧ ∃ F' ρ', Ok X.K c σ' H' F' ρ' ∧ Same F1 F' ∧ postS X.K W c F' Dn (mForL g mb (ds.drop i) ρ'), ⟨ds.length, by omega, F1, ρ1, ok1, Same.refl F1, h1⟩, ?_⟩
  rintro i n σ' H' ⟨en, F', ρ', ok', s', h'⟩
  by_cases hi : i < ds.length
  · obtain ⟨d, ed⟩ : ∃ d, ds[i]? = some d := ⟨ds[i], List.getElem?_eq_getElem hi⟩
    have edr : ds.drop i = d :: ds.drop (i + 1) := by
      rw [List.drop_eq_getElem_cons hi]
      have := List.getElem?_eq_getElem hi
      rw [ed] at this
      rw [Option.some.inj this]
    rw [edr] at h'
    refine .inr ⟨hJ.go H' i (s'.trans ok'.sub) hi, fun σ3 H3 => ∃ F3 ρ3, Ok X.K c σ3 H3 F3 ρ3 ∧ Same F1 F3 ∧ postS X.K W c F3 Dn (mForL g mb (ds.drop (i + 1)) ρ3), fun σ3 H3 w => ⟨n - 1, by omega, by omega, w⟩, fun x H2 y => ?_⟩
    obtain ⟨F2, ok2, s2, r2⟩ := yld_ok ok' (hJ.mono s' i) ed y
    refine ⟨c, F2, ρ', d, ok2, r2, postG_mono ?_ (postG_weak s2 (postS_bindG h'))⟩
    rintro σ4 H4 ⟨F4, ρ4, ok4, s4, h4⟩
    exact ⟨c, F4, ρ4, ok4, for_post h4 fun σ5 H5 F5 ρ5 ok5 s5 h5 => ⟨F5, ρ5, ok5, (s'.trans s4).trans s5, h5⟩⟩
  · have ei : ds.drop i = [] := List.drop_eq_nil_of_le (by omega)
    rw [ei] at h'
    exact .inl ⟨hJ.stop H' i (s'.trans ok'.sub) (by omega), h' σ' H' F' ok' (Same.refl F')⟩)
end
end Dd

namespace Dd
open PySem PySem.Spec L2
section
variable {X : Cx} {W : WX} {K : PySem.W.Frag} {e tg : Expr} {pos : Pos}
/-! ### comprehensions -/
def WF : WX := fun _ _ _ _ => False
/-- the stores of a comprehension's target: one name, or a tuple of names -/
def unsE (ρ : En) : List Nat → En
  | [] => ρ
  | i :: is => (unsE ρ is).set i .un
def mUn_ (vs : List Nat) : M Unit := fun ρ => some (.ok () (unsE ρ vs))
theorem unsE_length (ρ : En) : ∀ vs, (unsE ρ vs).length = ρ.length
  | [] => rfl
  | v :: vs => by unfold unsE; rw [List.length_set, unsE_length ρ vs]
theorem ok_wipe {c : Ct} {σ : St} {H F : Hp} {ρ : En} (ok : Ok K c σ H F ρ) : ∀ vs : List Nat, Ok K c (wipe σ vs) H F (unsE ρ vs)
  | [] => ok
  | v :: vs => by
    have ok' := ok_wipe ok vs
    unfold wipe unsE
    by_cases h : v < (unsE ρ vs).length
    · exact ok'.setU h
    · have h1 : (unsE ρ vs).set v .un = unsE ρ vs := List.set_eq_of_length_le (by omega)
      have h2 : (wipe σ vs).set v none = wipe σ vs := List.set_eq_of_length_le (by rw [ok'.len]; omega)
      rw [h1, h2]; exact ok'
theorem unsE_at {ρ : En} {i : Nat} : ∀ {vs : List Nat}, i ∈ vs → (unsE ρ vs)[i]? = some .un ∨ (unsE ρ vs)[i]? = none
  | v :: vs, h => by
    unfold unsE
    by_cases e : v = i
    · subst e
      by_cases hl : v < (unsE ρ vs).length
      · left; simp [hl]
      · right; simp only [List.getElem?_eq_none_iff, List.length_set]; omega
    · rw [List.getElem?_set_ne e]
      exact unsE_at (by cases h with
        | head => exact absurd rfl e
        | tail _ h => exact h)
/-- nothing is known of the wiped slots: they may be what they were -/
theorem ok_unwipe {c : Ct} {σ : St} {H F : Hp} {ρ : En} {vs : List Nat} (ok : Ok K c (wipe σ vs) H F (unsE ρ vs)) : Ok K c σ H F (unsE ρ vs) := by
  have out : ∀ {i : Nat} {u : Sl}, (unsE ρ vs)[i]? = some u → u ≠ .un → (wipe σ vs)[i]? = σ[i]? := fun {i u} e n => by
    by_cases h : i ∈ vs
    · rcases unsE_at (ρ := ρ) h with q | q
      · rw [q] at e; exact absurd (Option.some.inj e).symm n
      · rw [q] at e; cases e
    · exact wipe_out h
  refine ⟨by rw [← ok.len, wipe_length], ok.sub, ok.ge, ok.fe, ok.keep, ok.iod, ok.prt, fun i d e => ?_, fun i ds e => ?_, fun i ds e => ?_, fun i ns e => ?_, fun i j ds es p a b x y => ?_, ok.dcs.sub (fun i kvs e => ⟨e, (out e (by intro z; cases z)).symm⟩) (fun i kvs e => ⟨e, (out e (by intro z; cases z)).symm⟩) fun j es q e y x => ok.dcs.xown e (by rw [out e (by intro z; cases z)]; exact y) x⟩
  · obtain ⟨v, a1, a2⟩ := ok.val i d e
    exact ⟨v, by rw [← out e (by intro z; cases z)]; exact a1, a2⟩
  · obtain ⟨p, w, a1, a2⟩ := ok.own i ds e
    exact ⟨p, w, by rw [← out e (by intro z; cases z)]; exact a1, a2⟩
  · obtain ⟨z, p, w, a0, a1, a2⟩ := ok.ios i ds e
    exact ⟨z, p, w, a0, by rw [← out e (by intro z; cases z)]; exact a1, a2⟩
  · obtain ⟨z, p, a1, a2⟩ := ok.scr i ns e
    exact ⟨z, p, by rw [← out e (by intro z; cases z)]; exact a1, a2⟩
  · exact ok.sep i j ds es p a b (by rw [out a (by intro z; cases z)]; exact x) (by rw [out b (by intro z; cases z)]; exact y)
theorem unsE_self {ρ : En} : ∀ {vs : List Nat}, unsE (unsE ρ vs) vs = unsE ρ vs := fun {vs} => by
  apply List.ext_getElem?
  intro i
  by_cases h : i ∈ vs
  · rcases unsE_at (ρ := unsE ρ vs) h with q | q <;> rcases unsE_at (ρ := ρ) h with q' | q' <;> rw [q, q']
    · have := List.getElem?_eq_none_iff.mp q'
      have h2 : i < (unsE (unsE ρ vs) vs).length := by
        rcases Nat.lt_or_ge i (unsE (unsE ρ vs) vs).length with z | z
        · exact z
        · rw [List.getElem?_eq_none z] at q; cases q
      rw [unsE_length] at h2
      omega
    · have := List.getElem?_eq_none_iff.mp q
      rw [unsE_length] at this
      have h2 : i < (unsE ρ vs).length := by
        rcases Nat.lt_or_ge i (unsE ρ vs).length with z | z
        · exact z
        · rw [List.getElem?_eq_none z] at q'; cases q'
      omega
  · have o : ∀ (ρ : En) (vs : List Nat), i ∉ vs → (unsE ρ vs)[i]? = ρ[i]? := fun ρ vs => by
      induction vs with
      | nil => intro _; rfl
      | cons v vs ih =>
        intro h
        unfold unsE
        rw [List.getElem?_set_ne (fun z => h (by rw [z]; exact List.mem_cons_self)), ih fun z => h (List.mem_cons_of_mem _ z)]
    rw [o _ _ h]
/-- the target of a comprehension's for: where it stores, and that it stores nowhere else -/
structure CTg (K : PySem.W.Frag) (vs : List Nat) (g : TG) (gD : D → M Unit) : Prop where
  run : ∀ {c : Ct} {σ : St} {H F : Hp} {ρ : En} {v : V} {d : D} {u : Unit} {ρ' : En} {Q : St → Hp → Prop}, Ok K c σ H F ρ → Dp K F v d → gD d ρ = some (.ok u ρ') →
    (∀ σ', Ok K c σ' H F ρ' → wipe σ' vs = wipe σ vs → Q σ' H) → g v σ H Q
theorem wipe_set {σ : St} {i : Nat} {v : Option V} : ∀ {vs : List Nat}, i ∈ vs → wipe (σ.set i v) vs = wipe σ vs := fun {vs} h => by
  have o : ∀ (vs : List Nat) (σ : St), (wipe (σ.set i v) vs) = (wipe σ vs).set i v ∨ i ∈ vs := fun vs => by
    induction vs with
    | nil => intro σ; exact .inl rfl
    | cons w vs ih =>
      intro σ
      by_cases e : i = w
      · exact .inr (e ▸ List.mem_cons_self)
      · rcases ih σ with q | q
        · left; unfold wipe; rw [q, List.set_comm _ _ e]
        · exact .inr (List.mem_cons_of_mem _ q)
  induction vs with
  | nil => cases h
  | cons w vs ih =>
    unfold wipe
    by_cases e : i = w
    · subst e
      by_cases h' : i ∈ vs
      · rw [ih h']
      · rcases o vs σ with q | q
        · rw [q, List.set_set]
        · exact absurd q h'
    · have h' : i ∈ vs := by cases h with
        | head => exact absurd rfl e
        | tail _ h => exact h
      rw [ih h']
theorem ctName {vs : List Nat} {i : Nat} (h : i ∈ vs) : CTg K vs (gName i) (mStore i) := ⟨fun {c σ H F ρ v d u ρ' Q} ok r e k => by
  unfold mStore at e
  split at e
  · rename_i hl
    cases e
    exact k _ (ok.setV hl r) (wipe_set h)
  · cases e⟩
def gNamesT : List Nat → TGs
  | [] => gNil
  | i :: is => gCons (gName i) (gNamesT is)
def gNamesD : List Nat → List D → M Unit
  | [], [] => mPure ()
  | i :: is, d :: ds => mBind (mStore i d) fun _ => gNamesD is ds
  | _, _ => mStuck
theorem names_run {vs : List Nat} {c : Ct} {H F : Hp} : ∀ {is : List Nat} {xs : List V} {ds : List D} {σ : St} {ρ : En} {u : Unit} {ρ' : En} {Q : St → Hp → Prop}, (∀ i ∈ is, i ∈ vs) → Ok K c σ H F ρ → DpAll K F xs ds → gNamesD is ds ρ = some (.ok u ρ') →
    (∀ σ', Ok K c σ' H F ρ' → wipe σ' vs = wipe σ vs → Q σ' H) → gNamesT is xs σ H Q
  | [], _, _, σ, ρ, u, ρ', Q, hv, ok, .nil, e, k => by
    cases e
    exact ⟨rfl, k σ ok rfl⟩
  | [], _, _, σ, ρ, u, ρ', Q, hv, ok, .cons _ _, e, k => by cases e
  | i :: is, _, _, σ, ρ, u, ρ', Q, hv, ok, .nil, e, k => by cases e
  | i :: is, _, _, σ, ρ, u, ρ', Q, hv, ok, .cons (v := x) (vs := xs) (d := d) (ds := ds) r rr, e, k => by
    obtain ⟨_, ρ1, e1, e2⟩ := bind_ok e
    refine ⟨x, xs, rfl, ?_⟩
    unfold mStore at e1
    split at e1
    · rename_i hl
      cases e1
      refine names_run (vs := vs) (fun j hj => hv j (List.mem_cons_of_mem _ hj)) (ok.setV hl r) rr e2 fun σ' ok' w => k σ' ok' ?_
      rw [w, wipe_set (hv i List.mem_cons_self)]
    · cases e1
theorem ctTup {vs is : List Nat} (h : ∀ i ∈ is, i ∈ vs) : CTg K vs (gTup K is.length (gNamesT is)) (gTupD is.length (gNamesD is)) := ⟨fun {c σ H F ρ v d u ρ' Q} ok r e k => by
  unfold gTupD at e
  split at e
  · split at e
    · rename_i hl
      obtain ⟨p, xs, rfl, hp, dp⟩ := Pk.tup ok.sub (.inl r)
      exact ⟨p, xs, rfl, hp, by rw [DpAll.length dp]; exact hl, names_run h ok dp e k⟩
    · cases e
  · cases e⟩
def mGo (vs : List Nat) (g : D → M Unit) (tt : M Bool) (te : M D) : List D → M (List D)
  | [] => mPure []
  | d :: ds => mBind (g d) fun _ => mBind tt fun k => mBind (if k = true then mBind te fun y => mPure [y] else mPure []) fun es => mBind (mUn_ vs) fun _ => mBind (mGo vs g tt te ds) fun rest => mPure (es ++ rest)
/-- nothing is raised out of a comprehension -/
def mRest (vs : List Nat) (g : D → M Unit) (tt : M Bool) (te : M D) (ds : List D) : M (List D) := fun ρ => match mGo vs g tt te ds (unsE ρ vs) with
  | some (.ok out ρe) => if fit ds.length = true then some (.ok out (unsE ρe vs)) else none
  | _ => none
def mComp (vs : List Nat) (mi : M (List D)) (g : D → M Unit) (tt : M Bool) (te : M D) : M (List D) := mBind mi (mRest vs g tt te)
theorem wipe_wipe {σ : St} {vs : List Nat} : wipe (wipe σ vs) vs = wipe σ vs := by
  have o : ∀ (ws : List Nat), (∀ i ∈ ws, i ∈ vs) → wipe (wipe σ ws) vs = wipe σ vs := fun ws => by
    induction ws with
    | nil => intro _; rfl
    | cons w ws ih =>
      intro h
      show wipe ((wipe σ ws).set w none) vs = _
      rw [wipe_set (h w List.mem_cons_self), ih fun i hi => h i (List.mem_cons_of_mem _ hi)]
  exact o vs fun _ h => h
/-- the heart: the loop of a comprehension, the new list kept apart -/
theorem comp_core {mi : M (List D)} {vs : List Nat} {g : TG} {gD : D → M Unit} {mt : M Bool} {me : M D} (hg : CTg K vs g gD) {σ : St} {H : Hp} {Q : VK}
    {tt : TT} (ht : ∀ σ H Q, tT K WF mt σ H Q → tt σ H Q) {c : Ct} {F : Hp} {ρ : En} (ok : Ok K c σ H F ρ)
    (h : post K W c σ F (fun ds H1 F1 => ∃ ρ1, Ok K c σ H1 F1 ρ1 ∧ fit ds.length = true ∧ ∃ out ρe, mGo vs gD mt me ds (unsE ρ1 vs) = some (.ok out ρe) ∧
      ∀ p acc H2 F2, c.pr p = none → Ok K (c.put p (.lst acc)) σ H2 F2 (unsE ρe vs) → Same F1 F2 → DpAll K F2 acc out → Q (.ref p) H2) (mi ρ)) : tLc (tI K W mi) g tt (tE K WF me) vs σ H Q := by
  refine ⟨c, F, ρ, ok, post_mono ?_ h⟩
  rintro ds H1 F1 _ ⟨ρ1, ok1, hf, out, ρe, hgo, k⟩ J hJ p hp
  have hpr : c.pr p = none := (ok1.new hp).2.2.1
  refine ⟨fun i n H => i + n = ds.length ∧ ∃ acc o1 F2 ρ2 rest, Ok K (c.put p (.lst acc)) (wipe σ vs) H F2 (unsE ρ2 vs) ∧ Same F1 F2 ∧ DpAll K F2 acc o1 ∧ o1.length ≤ i ∧ mGo vs gD mt me (ds.drop i) (unsE ρ2 vs) = some (.ok rest ρe) ∧ out = o1 ++ rest,
    ⟨ds.length, by omega, [], [], F1, ρ1, out, ok_wipe (ok1.allocP hp) vs, Same.refl F1, .nil, Nat.le_refl _, hgo, rfl⟩, ?_⟩
  rintro i n H2 ⟨en, acc, o1, F2, ρ2, rest, ok2, s2, da, hl, hgo2, eo⟩
  by_cases hi : i < ds.length
  · obtain ⟨d, ed⟩ : ∃ d, ds[i]? = some d := ⟨ds[i], List.getElem?_eq_getElem hi⟩
    have edr : ds.drop i = d :: ds.drop (i + 1) := by
      rw [List.drop_eq_getElem_cons hi]
      have := List.getElem?_eq_getElem hi
      rw [ed] at this
      rw [Option.some.inj this]
    rw [edr] at hgo2
    obtain ⟨_, ρa, e1, g1⟩ := bind_ok hgo2
    obtain ⟨b, ρb, e2, g2⟩ := bind_ok g1
    obtain ⟨es, ρc, e3, g3⟩ := bind_ok g2
    obtain ⟨_, ρd, e4, g4⟩ := bind_ok g3
    obtain ⟨rest', ρf, e5, g5⟩ := bind_ok g4
    cases e4
    cases g5
    have hz : acc.length < sizeLine := by
      rw [DpAll.length da]
      have := of_decide_eq_true hf
      rw [sizeLine_eq]; omega
    refine .inr ⟨hJ.go H2 i (s2.trans ok2.sub) hi, fun H' => ∃ acc o1 F2 ρ2 rest, Ok K (c.put p (.lst acc)) (wipe σ vs) H' F2 (unsE ρ2 vs) ∧ Same F1 F2 ∧ DpAll K F2 acc o1 ∧ o1.length ≤ i + 1 ∧ mGo vs gD mt me (ds.drop (i + 1)) (unsE ρ2 vs) = some (.ok rest ρe) ∧ out = o1 ++ rest,
      fun H' w => ⟨n - 1, by omega, by omega, w⟩, fun x H' y => ?_⟩
    obtain ⟨F3, ok3, s3, r3⟩ := yld_ok ok2 (hJ.mono s2 i) ed y
    refine hg.run ok3 r3 e1 fun σ' ok4 hw => ?_
    rw [wipe_wipe] at hw
    refine ⟨hw, ht _ _ _ ⟨_, F3, ρa, ok4, ?_⟩⟩
    rw [e2]
    intro H5 F5 ok5 s5
    cases b with
    | false =>
      rw [if_neg (by decide)] at e3
      cases e3
      refine iteF ?_
      refine ⟨acc, o1, F5, ρb, rest', ?_, (s2.trans s3).trans s5, DpAll.mono (s3.trans s5) da, by omega, e5, by rw [eo]; rfl⟩
      have q := ok_wipe ok5 vs
      rw [hw] at q
      exact q
    | true =>
      rw [if_pos rfl] at e3
      obtain ⟨yd, ρy, e6, e7⟩ := bind_ok e3
      cases e7
      refine iteT ?_
      refine ⟨_, F5, ρb, ok5, ?_⟩
      rw [e6]
      intro H6 F6 ok6 s6 v rv
      refine ⟨acc, (ok6.prt p _ upd_same).1, hz, acc ++ [v], o1 ++ [yd], F6, _, rest', ?_, ((s2.trans s3).trans s5).trans s6, DpAll.append (DpAll.mono ((s3.trans s5).trans s6) da) (.one rv), by rw [List.length_append]; exact Nat.succ_le_succ hl, e5, by rw [eo]; simp⟩
      have q := ok_wipe (ok6.putP (o' := .lst (acc ++ [v]))) vs
      rw [hw] at q
      exact q
  · have ei : ds.drop i = [] := List.drop_eq_nil_of_le (by omega)
    rw [ei] at hgo2
    cases hgo2
    refine .inl ⟨hJ.stop H2 i (s2.trans ok2.sub) (by omega), ?_⟩
    rw [List.append_nil] at eo
    subst eo
    refine k p acc H2 F2 hpr ?_ s2 da
    rw [unsE_self]
    exact ok_unwipe ok2
theorem bind_assoc {α β γ : Type} (m : M α) (f : α → M β) (g : β → M γ) (ρ : En) : mBind (mBind m f) g ρ = mBind m (fun a => mBind (f a) g) ρ := by
  unfold mBind
  cases m ρ with
  | none => rfl
  | some r => cases r <;> rfl
theorem tYes_of {σ : St} {H : Hp} {Q : Bool → Hp → Prop} (h : tT K WF (mPure true) σ H Q) : tYes σ H Q := by
  obtain ⟨c, F, ρ, ok, h⟩ := h
  exact h H F ok (Same.refl F)
end
end Dd

namespace Dd
open PySem PySem.Spec L2
/-! ### what a def promises -/
structure Ext (F H F' H' : Hp) : Prop where
  ff : Same F F'
  fh : Same F' H'
  fe : ∀ b o, F' b = some o → F b = some o ∨ H b = none
  hh : Same H H'
structure ExtB (p : Addr) (F H F' H' : Hp) : Prop where
  ff : Same F F'
  fh : Same F' H'
  fe : ∀ b o, F' b = some o → F b = some o ∨ H b = none
  hh : ∀ b o, b ≠ p → H b = some o → H' b = some o
  fp : F' p = none
abbrev Rs (α : Type) := Except Ex α
def spV (K : PySem.W.Frag) (n : Nat) (f : List D → Option (Rs D)) : Sp := fun vs H Q E => ∃ F ds, Same F H ∧ DpAll K F vs ds ∧ ds.length = n ∧ match f ds with
  | none => False
  | some (.ok d) => ∀ v F' H', Ext F H F' H' → Dp K F' v d → Q v H'
  | some (.error e) => ∀ cls x F' H', Ext F H F' H' → ExR K e cls x F' H' → E cls x H'
def spB (K : PySem.W.Frag) (n : Nat) (f : List D → List D → Option (Rs D × List D)) : Sp := fun vs H Q E => ∃ F p bs0 bs rest ds, vs = .ref p :: rest ∧ Same F H ∧ F p = none ∧ H p = some (.lst bs0) ∧ DpAll K F bs0 bs ∧ DpAll K F rest ds ∧ ds.length + 1 = n ∧ match f bs ds with
  | none => False
  | some (.ok d, bs') => ∀ v bs1 F' H', ExtB p F H F' H' → H' p = some (.lst bs1) → DpAll K F' bs1 bs' → Dp K F' v d → Q v H'
  | some (.error e, bs') => ∀ cls x bs1 F' H', ExtB p F H F' H' → H' p = some (.lst bs1) → DpAll K F' bs1 bs' → ExR K e cls x F' H' → E cls x H'
def spS (K : PySem.W.Frag) (n : Nat) (f : List Int → List D → Option (Rs (List D))) : Sp := fun vs H Q E => ∃ F a ns rest ds, vs = .ref a :: rest ∧ Same F H ∧ SqL K H a (ns.map V.int) ∧ DpAll K F rest ds ∧ ds.length + 1 = n ∧ match f ns ds with
  | none => False
  | some (.ok es) => ∀ p xs F' H', Ext F H F' H' → H p = none → F' p = none → H' p = some (.lst xs) → DpAll K F' xs es → Q (.ref p) H'
  | some (.error e) => ∀ cls x F' H', Ext F H F' H' → ExR K e cls x F' H' → E cls x H'
def env0 (n : Nat) (ds : List D) : En := ds.map .val ++ List.replicate (n - ds.length) .un
def runV (m : M Fl) (n : Nat) (ds : List D) : Option (Rs D) := match m (env0 n ds) with
  | some (.ok (.rt d) _) => some (.ok d)
  | some (.ok .nx _) => some (.ok .none)
  | some (.ex e _) => some (.error e)
  | _ => none
def env0B (n : Nat) (bs : List D) (ds : List D) : En := .io bs :: (ds.map .val ++ List.replicate (n - (ds.length + 1)) .un)
def runB (m : M Fl) (n : Nat) (bs : List D) (ds : List D) : Option (Rs D × List D) := match m (env0B n bs ds) with
  | some (.ok (.rt d) (.io bs' :: _)) => some (.ok d, bs')
  | some (.ok .nx (.io bs' :: _)) => some (.ok .none, bs')
  | some (.ex e (.io bs' :: _)) => some (.error e, bs')
  | _ => none
def env0S (n : Nat) (ns : List Int) (ds : List D) : En := .scr ns :: (ds.map .val ++ List.replicate (n - (ds.length + 1)) .un)
def runS (m : M Fl) (n : Nat) (ns : List Int) (ds : List D) : Option (Rs (List D)) := match m (env0S n ns ds) with
  | some (.ok (.rf d) _) => some (.ok d)
  | some (.ex e _) => some (.error e)
  | _ => none
def runL (m : M Fl) (n : Nat) (ns : List Int) : Option (Rs D) := match m (env0S n ns []) with
  | some (.ok (.rt d) _) => some (.ok d)
  | some (.ex e _) => some (.error e)
  | _ => none
section
variable {K : PySem.W.Frag} {F H : Hp}
abbrev noPr : Hp := fun _ => none
theorem start_get {N : List Str} {vs : List V} {i : Nat} {v : V} (h : vs[i]? = some v) : (L2.start N vs)[i]? = some (some v) := by
  unfold L2.start
  have hl : i < vs.length := by
    rcases Nat.lt_or_ge i vs.length with z | z
    · exact z
    · rw [List.getElem?_eq_none z] at h; cases h
  rw [List.getElem?_append_left (by simpa using hl), List.getElem?_map, h]; rfl
theorem start_len {N : List Str} {vs : List V} (h : vs.length ≤ N.length) : (L2.start N vs).length = N.length := by
  unfold L2.start
  rw [List.length_append, List.length_map, List.length_replicate]; omega
theorem env0_get {n : Nat} {ds : List D} {i : Nat} {u : Sl} (h : (env0 n ds)[i]? = some u) : (∃ d, ds[i]? = some d ∧ u = .val d) ∨ u = .un := by
  unfold env0 at h
  rcases Nat.lt_or_ge i ds.length with z | z
  · rw [List.getElem?_append_left (by simpa using z), List.getElem?_map] at h
    obtain ⟨d, e⟩ : ∃ d, ds[i]? = some d := ⟨ds[i], List.getElem?_eq_getElem z⟩
    rw [e] at h
    cases h
    exact .inl ⟨d, e, rfl⟩
  · rw [List.getElem?_append_right (by simpa using z)] at h
    rw [List.getElem?_replicate] at h
    split at h
    · cases h; exact .inr rfl
    · cases h
theorem start_ok {N : List Str} {vs : List V} {ds : List D} (s : Same F H) (r : DpAll K F vs ds) (h : ds.length ≤ N.length) : Ok K ⟨F, H, none, noPr⟩ (L2.start N vs) H F (env0 N.length ds) := by
  have hl := DpAll.length r
  refine ⟨?_, s, Same.refl F, fun b o e => .inl e, fun b o e _ => e, fun p e => (by cases e), fun b o e => (by cases e), fun i d e => ?_, fun i es e => ?_, fun i es e => ?_, fun i es e => ?_, fun i j es fs p e _ _ _ => ?_, .no (fun i es e => ?_) (fun i es e => ?_)⟩
  · rw [start_len (by omega)]
    unfold env0
    rw [List.length_append, List.length_map, List.length_replicate]; omega
  · rcases env0_get e with ⟨d', e1, e2⟩ | e2
    · cases e2
      obtain ⟨v, q1, q2⟩ := DpAll.getd r e1
      exact ⟨v, start_get q1, q2⟩
    · cases e2
  all_goals
    rcases env0_get e with ⟨d', e1, e2⟩ | e2 <;> cases e2
theorem env0B_get {n : Nat} {u0 : Sl} {ds : List D} {i : Nat} {u : Sl} (h : (u0 :: (ds.map Sl.val ++ List.replicate (n - (ds.length + 1)) Sl.un))[i]? = some u) : (i = 0 ∧ u = u0) ∨ (∃ j d, i = j + 1 ∧ ds[j]? = some d ∧ u = .val d) ∨ u = .un := by
  cases i with
  | zero =>
    have h' : u0 = u := by simpa using h
    exact .inl ⟨rfl, h'.symm⟩
  | succ j =>
    have h' : (env0 (n - 1) ds)[j]? = some u := by
      unfold env0
      have e : n - 1 - ds.length = n - (ds.length + 1) := by omega
      rw [e]
      simpa using h
    rcases env0_get h' with ⟨d, e1, e2⟩ | e2
    · exact .inr (.inl ⟨j, d, rfl, e1, e2⟩)
    · exact .inr (.inr e2)
theorem startB_ok {N : List Str} {p : Addr} {bs0 rest : List V} {bs ds : List D} (s : Same F H) (hF : F p = none) (hp : H p = some (.lst bs0)) (rb : DpAll K F bs0 bs) (r : DpAll K F rest ds) (h : ds.length + 1 ≤ N.length) :
    Ok K ⟨F, H, some p, noPr⟩ (L2.start N (.ref p :: rest)) H F (env0B N.length bs ds) := by
  have hl := DpAll.length r
  refine ⟨?_, s, Same.refl F, fun b o e => .inl e, fun b o e _ => e, fun q e => ?_, fun b o e => (by cases e), fun i d e => ?_, fun i es e => ?_, fun i es e => ?_, fun i es e => ?_, fun i j es fs q e _ _ _ => ?_, .no (fun i es e => ?_) (fun i es e => ?_)⟩
  · rw [start_len (by simp only [List.length_cons]; omega)]
    unfold env0B
    rw [List.length_cons, List.length_append, List.length_map, List.length_replicate]; omega
  · have e' : some p = some q := e
    cases e'
    exact ⟨hF, by show H p ≠ none; rw [hp]; exact Option.some_ne_none _, rfl, bs0, hp⟩
  · rcases env0B_get e with ⟨_, e2⟩ | ⟨j, d', rfl, e1, e2⟩ | e2 <;> cases e2
    obtain ⟨v, q1, q2⟩ := DpAll.getd r e1
    exact ⟨v, start_get (by simpa using q1), q2⟩
  · rcases env0B_get e with ⟨_, e2⟩ | ⟨j, d', rfl, e1, e2⟩ | e2 <;> cases e2
  · rcases env0B_get e with ⟨rfl, e2⟩ | ⟨j, d', rfl, e1, e2⟩ | e2 <;> cases e2
    exact ⟨rfl, p, bs0, rfl, start_get rfl, hp, rb⟩
  · rcases env0B_get e with ⟨_, e2⟩ | ⟨j, d', rfl, e1, e2⟩ | e2 <;> cases e2
  · rcases env0B_get e with ⟨_, e2⟩ | ⟨j, d', rfl, e1, e2⟩ | e2 <;> cases e2
  · rcases env0B_get e with ⟨_, e2⟩ | ⟨j, d', rfl, e1, e2⟩ | e2 <;> cases e2
  · rcases env0B_get e with ⟨_, e2⟩ | ⟨j, d', rfl, e1, e2⟩ | e2 <;> cases e2
theorem startS_ok {N : List Str} {a : Addr} {ns : List Int} {rest : List V} {ds : List D} (s : Same F H) (hp : SqL K H a (ns.map V.int)) (r : DpAll K F rest ds) (h : ds.length + 1 ≤ N.length) :
    Ok K ⟨F, H, none, noPr⟩ (L2.start N (.ref a :: rest)) H F (env0S N.length ns ds) := by
  have hl := DpAll.length r
  refine ⟨?_, s, Same.refl F, fun b o e => .inl e, fun b o e _ => e, fun q e => (by cases e), fun b o e => (by cases e), fun i d e => ?_, fun i es e => ?_, fun i es e => ?_, fun i es e => ?_, fun i j es fs q e _ _ _ => ?_, .no (fun i es e => ?_) (fun i es e => ?_)⟩
  · rw [start_len (by simp only [List.length_cons]; omega)]
    unfold env0S
    rw [List.length_cons, List.length_append, List.length_map, List.length_replicate]; omega
  · rcases env0B_get e with ⟨_, e2⟩ | ⟨j, d', rfl, e1, e2⟩ | e2 <;> cases e2
    obtain ⟨v, q1, q2⟩ := DpAll.getd r e1
    exact ⟨v, start_get (by simpa using q1), q2⟩
  · rcases env0B_get e with ⟨_, e2⟩ | ⟨j, d', rfl, e1, e2⟩ | e2 <;> cases e2
  · rcases env0B_get e with ⟨_, e2⟩ | ⟨j, d', rfl, e1, e2⟩ | e2 <;> cases e2
  · rcases env0B_get e with ⟨rfl, e2⟩ | ⟨j, d', rfl, e1, e2⟩ | e2 <;> cases e2
    exact ⟨rfl, a, start_get rfl, hp⟩
  · rcases env0B_get e with ⟨_, e2⟩ | ⟨j, d', rfl, e1, e2⟩ | e2 <;> cases e2
  · rcases env0B_get e with ⟨_, e2⟩ | ⟨j, d', rfl, e1, e2⟩ | e2 <;> cases e2
  · rcases env0B_get e with ⟨_, e2⟩ | ⟨j, d', rfl, e1, e2⟩ | e2 <;> cases e2
theorem Ok.ext {σ : St} {F' H' : Hp} {ρ : En} {pr : Hp} (ok : Ok K ⟨F, H, none, pr⟩ σ H' F' ρ) : Ext F H F' H' := ⟨ok.ge, ok.sub, ok.fe, fun b o e => ok.keep b o e (by simp)⟩
theorem Ok.extB {σ : St} {F' H' : Hp} {ρ : En} {pr : Hp} {p : Addr} (ok : Ok K ⟨F, H, some p, pr⟩ σ H' F' ρ) : ExtB p F H F' H' :=
  ⟨ok.ge, ok.sub, ok.fe, fun b o n e => ok.keep b o e (by intro z; cases z; exact n rfl), (ok.iod p rfl).1⟩
/-! ### behind a call -/
theorem Ok.call {c : Ct} {σ : St} {F' H' : Hp} {ρ : En} (ok : Ok K c σ H F ρ) (x : Ext F H F' H') : Ok K c σ H' F' ρ := by
  have nf : ∀ {b o}, H b = some o → F b = none → F' b = none := fun {b o} h n => by
    cases q : F' b with
    | none => rfl
    | some u =>
      rcases x.fe b u q with z | z
      · rw [n] at z; cases z
      · rw [h] at z; cases z
  refine ⟨ok.len, x.fh, ok.ge.trans x.ff, fun b o e => ?_, fun b o e n => x.hh _ _ (ok.keep b o e n), fun p e => ?_, fun b o e => ?_, fun i d e => ?_, fun i ds e => ?_, fun i ds e => ?_, ok.scr, ok.sep, ok.dcs.tr x.ff fun p ws a1 a2 a3 a4 _ _ => ⟨x.hh _ _ a1, nf a1 a2, a4⟩⟩
  · rcases x.fe b o e with z | z
    · exact ok.fe b o z
    · exact .inr (ok.new z).2.1
  · obtain ⟨a1, a2, a3, xs, a4⟩ := ok.iod p e
    exact ⟨nf a4 a1, a2, a3, xs, x.hh _ _ a4⟩
  · obtain ⟨a1, a2, a3⟩ := ok.prt b o e
    exact ⟨x.hh _ _ a1, nf a1 a2, a3⟩
  · obtain ⟨v, a1, a2⟩ := ok.val i d e
    exact ⟨v, a1, Dp.mono x.ff a2⟩
  · obtain ⟨p, vs, a1, a2, a3, a4, a5, a6⟩ := ok.own i ds e
    exact ⟨p, vs, a1, x.hh _ _ a2, DpAll.mono x.ff a3, nf a2 a4, a5, a6⟩
  · obtain ⟨z, p, vs, a0, a1, a2, a3⟩ := ok.ios i ds e
    exact ⟨z, p, vs, a0, a1, x.hh _ _ a2, DpAll.mono x.ff a3⟩
/-- the list at p, a slot's own or the caller's, was changed by a call -/
theorem Ok.callB {c : Ct} {σ : St} {F' H' : Hp} {ρ : En} {i : Nat} {p : Addr} {bs0 bs1 : List V} {bs bs' : List D} (ok : Ok K c σ H F ρ) (hi : ρ[i]? = some (.own bs) ∨ ρ[i]? = some (.io bs)) (hp : σ[i]? = some (some (.ref p))) (x : ExtB p F H F' H') (hb : H' p = some (.lst bs1)) (rb : DpAll K F' bs1 bs') :
    ∃ ρ', mPut i bs' ρ = some (.ok () ρ') ∧ Ok K c σ H' F' ρ' := by
  -- the heap with p as it was ahead of the call
  have nf : ∀ {b o}, H b = some o → F b = none → F' b = none := fun {b o} h n => by
    cases q : F' b with
    | none => rfl
    | some u =>
      rcases x.fe b u q with z | z
      · rw [n] at z; cases z
      · rw [h] at z; cases z
  have hpH : ∃ vs, H p = some (.lst vs) ∧ DpAll K F vs bs := by
    rcases hi with hi | hi
    · obtain ⟨q, vs, a1, a2, a3, _⟩ := ok.own i bs hi
      rw [hp] at a1; cases a1; exact ⟨vs, a2, a3⟩
    · obtain ⟨_, q, vs, _, a1, a2, a3⟩ := ok.ios i bs hi
      rw [hp] at a1; cases a1; exact ⟨vs, a2, a3⟩
  obtain ⟨vs0, hpH, r0⟩ := hpH
  have x0 : Ext F H F' (upd H' p (.lst vs0)) := ⟨x.ff, fun b o e => by rw [upd_ne (ne_of_none e x.fp)]; exact x.fh b o e, x.fe, fun b o e => by
    by_cases hb' : b = p
    · subst hb'; rw [upd_same]; rw [hpH] at e; exact e
    · rw [upd_ne hb']; exact x.hh b o hb' e⟩
  have ok1 := ok.call x0
  have back : upd (upd H' p (.lst vs0)) p (.lst bs1) = H' := by
    rw [upd_upd]
    funext b
    unfold upd
    split
    · rename_i h; rw [h, hb]
    · rfl
  rcases hi with hi | hi
  · have q := ok1.change hi p hp rb
    rw [back] at q
    exact ⟨_, by unfold mPut; rw [hi], q⟩
  · have q := ok1.changeI hi p hp rb
    rw [back] at q
    exact ⟨_, by unfold mPut; rw [hi], q⟩
end
/-! ### calls of defs -/
section
variable {X : Cx} {W : WX} {K : PySem.W.Frag} {ms : M (List D)} {n : Nat} {σ : St} {H : Hp}
def mRs (o : Option (Rs D)) : M D := fun ρ => match o with
  | none => none
  | some (.ok d) => some (.ok d ρ)
  | some (.error e) => some (.ex e ρ)
def mCallV (n : Nat) (f : List D → Option (Rs D)) (ms : M (List D)) : M D := mBind ms fun ds => if ds.length = n then mRs (f ds) else mStuck
theorem callV_of {f : List D → Option (Rs D)} {Q : VK} (h : tE K W (mCallV n f ms) σ H Q) : tCallS (spV K n f) (WE W) (tA K W ms) σ H Q := by
  obtain ⟨c, F, ρ, ok, h⟩ := h
  refine ⟨c, F, ρ, ok, post_mono ?_ (post_bind h)⟩
  rintro ds H1 F1 _ ⟨ρ1, ok1, s1, h1⟩ vs rv
  split at h1
  · rename_i hl
    refine ⟨F1, ds, ok1.sub, rv, hl, ?_⟩
    unfold mRs at h1
    cases e : f ds with
    | none => rw [e] at h1; exact h1
    | some r =>
      rw [e] at h1
      cases r with
      | ok d => exact fun v F' H' x r => h1 H' F' (ok1.call x) x.ff v r
      | error e => exact fun cls y F' H' x r => h1 cls y H' F' (ok1.call x) x.ff r
  · exact h1.elim
/-- a call that changes a slot's own list -/
def mCallB (i n : Nat) (f : List D → List D → Option (Rs D × List D)) (ms : M (List D)) : M D := mBind (mOwn i) fun _ => mBind ms fun ds => mBind (mOwn i) fun bs => if ds.length + 1 = n then (match f bs ds with
  | none => mStuck
  | some (r, bs') => mBind (mPut i bs') fun _ => mRs (some r)) else mStuck
theorem own_is {α : Type} {ρ : En} {i : Nat} {r : R (List D)} (h : mOwn i ρ = some r) : ∃ ds, r = .ok ds ρ ∧ (ρ[i]? = some (.own ds) ∨ ρ[i]? = some (.io ds)) := by
  unfold mOwn at h
  split at h
  · rename_i ds e; cases h; exact ⟨ds, rfl, .inl e⟩
  · rename_i ds e; cases h; exact ⟨ds, rfl, .inr e⟩
  · cases h
theorem callB_of {i : Nat} {f : List D → List D → Option (Rs D × List D)} {Q : VK} (h : tE K W (mCallB i n f ms) σ H Q) : tCallS (spB K n f) (WE W) (tCons (tVar i) (tA K W ms)) σ H Q := by
  obtain ⟨c, F, ρ, ok, h⟩ := h
  obtain ⟨p, vs, ds0, a1, a2, a3, a4, h⟩ := own_at ok h
  refine ⟨.ref p, a1, c, F, ρ, ok, post_mono ?_ (post_bind h)⟩
  rintro ds H1 F1 _ ⟨ρ1, ok1, s1, h1⟩ ws rw'
  have hw : ∃ bs, (ρ1[i]? = some (.own bs) ∨ ρ1[i]? = some (.io bs)) ∧ post K W c σ F1 (qE K Q) ((if ds.length + 1 = n then (match f bs ds with
      | none => mStuck
      | some (r, bs') => mBind (mPut i bs') fun _ => mRs (some r)) else mStuck) ρ1) := by
    unfold mBind at h1
    cases e : mOwn i ρ1 with
    | none => rw [e] at h1; exact h1.elim
    | some r =>
      obtain ⟨bs, rfl, e2⟩ := own_is (α := D) e
      rw [e] at h1
      exact ⟨bs, e2, h1⟩
  obtain ⟨bs, hi, h2⟩ := hw
  obtain ⟨p', vs1, b1, b2, b3, b4⟩ : ∃ p vs, σ[i]? = some (some (.ref p)) ∧ H1 p = some (.lst vs) ∧ DpAll K F1 vs bs ∧ F1 p = none := by
    rcases hi with hi | hi
    · obtain ⟨q, vs, c1, c2, c3, c4, _⟩ := ok1.own i bs hi
      exact ⟨q, vs, c1, c2, c3, c4⟩
    · obtain ⟨_, q, vs, c0, c1, c2, c3⟩ := ok1.ios i bs hi
      exact ⟨q, vs, c1, c2, c3, (ok1.iod q c0).1⟩
  have ep : p' = p := by rw [a1] at b1; cases b1; rfl
  subst ep
  split at h2
  · rename_i hl
    refine ⟨F1, p', vs1, bs, ws, ds, rfl, ok1.sub, b4, b2, b3, rw', hl, ?_⟩
    cases e : f bs ds with
    | none => rw [e] at h2; exact h2
    | some q =>
      rw [e] at h2
      obtain ⟨r, bs'⟩ := q
      cases r with
      | ok d =>
        intro v bs1 F' H' x hb rb rv
        obtain ⟨ρ2, e2, ok2⟩ := ok1.callB (bs0 := vs1) hi b1 x hb rb
        have h3 := post_bind h2
        rw [e2] at h3
        obtain ⟨ρ3, ok3, s3, h4⟩ := h3 H' F' ok2 x.ff
        exact h4 H' F' ok3 (Same.refl F') v rv
      | error ex =>
        intro cls y bs1 F' H' x hb rb rv
        obtain ⟨ρ2, e2, ok2⟩ := ok1.callB (bs0 := vs1) hi b1 x hb rb
        have h3 := post_bind h2
        rw [e2] at h3
        obtain ⟨ρ3, ok3, s3, h4⟩ := h3 H' F' ok2 x.ff
        exact h4 cls y H' F' ok3 (Same.refl F') rv
  · exact h2.elim
theorem ok_fresh {c : Ct} {F F' H' : Hp} {ρ : En} {p : Addr} {xs : List V} {es : List D} {i : Nat} (ok : Ok K c σ H F ρ) (x : Ext F H F' H') (hp : H p = none) (hf : F' p = none) (hl : H' p = some (.lst xs)) (r : DpAll K F' xs es) (hi : i < ρ.length) :
    Ok K c (σ.set i (some (.ref p))) H' F' (ρ.set i (.own es)) := by
  have ok1 := ok.call x
  obtain ⟨b1, b2, b3, b4, b5⟩ := ok.new hp
  refine ok1.set hi (fun d' e => by cases e) (fun fs e => ?_) (fun _ e => by cases e) (fun _ e => by cases e) (hxo := fun _ q _ y x' => by
    cases y
    exact absurd hp (by
      obtain ⟨o, ho⟩ := (ok.dcs.xmine (ok.dcs.xback (fun _ _ => x.hh _ _) x')).2
      rw [ho]; exact Option.some_ne_none _))
  cases e
  refine ⟨p, xs, rfl, hl, r, hf, b2, b3, fun j fs a b => ?_⟩
  obtain ⟨q, vs, a1, a2, _⟩ := ok.own j fs a
  rw [b] at a1
  have z : p = q := by cases a1; rfl
  subst z
  rw [hp] at a2; cases a2
/-- name = _law_box(script, ..) -/
def mScr (j : Nat) : M (List Int) := fun ρ => match ρ[j]? with
  | some (.scr ns) => some (.ok ns ρ)
  | _ => none
def mAsgS (i j n : Nat) (f : List Int → List D → Option (Rs (List D))) (ms : M (List D)) : M Fl := mBind (mScr j) fun ns => mBind ms fun ds => if ds.length + 1 = n then (match f ns ds with
  | none => mStuck
  | some (.ok es) => mBind (mStoreO i es) fun _ => mDone
  | some (.error e) => fun ρ => some (.ex e ρ)) else mStuck
theorem Ok.scrH {c : Ct} {F : Hp} {ρ : En} {j : Nat} {ns : List Int} (ok : Ok K c σ H F ρ) (e : ρ[j]? = some (.scr ns)) : c.io = none ∧ ∃ a, σ[j]? = some (some (.ref a)) ∧ SqL K c.H0 a (ns.map V.int) ∧ SqL K H a (ns.map V.int) := by
  obtain ⟨a0, a, a1, a2⟩ := ok.scr j ns e
  exact ⟨a0, a, a1, a2, SqL.mono (fun b o q => ok.keep b o q (by rw [a0]; simp)) a2⟩
theorem asgS_of {i j : Nat} {f : List Int → List D → Option (Rs (List D))} {Dn : Ends} (h : tS K W (mAsgS i j n f ms) Dn σ H) : tAsg (tCallS (spS K n f) (WE W) (tCons (tVar j) (tA K W ms))) (gName i) Dn σ H := by
  obtain ⟨c, F, ρ, ok, h⟩ := h
  have hj : ∃ ns, ρ[j]? = some (.scr ns) ∧ postS K W c F Dn (mBind ms (fun ds => if ds.length + 1 = n then (match f ns ds with
      | none => mStuck
      | some (.ok es) => mBind (mStoreO i es) fun _ => mDone
      | some (.error e) => fun ρ => some (.ex e ρ)) else mStuck) ρ) := by
    unfold mAsgS mBind mScr at h
    cases e : ρ[j]? with
    | none => rw [e] at h; exact h.elim
    | some u =>
      rw [e] at h
      cases u with
      | scr ns => exact ⟨ns, rfl, h⟩
      | un => exact h.elim
      | val _ => exact h.elim
      | own _ => exact h.elim
      | io _ => exact h.elim
      | dct _ => exact h.elim
      | nst _ => exact h.elim
  obtain ⟨ns, ej, h⟩ := hj
  obtain ⟨a0, a, a1, a2, a3⟩ := ok.scrH ej
  refine ⟨.ref a, a1, c, F, ρ, ok, post_mono ?_ (postS_bind h)⟩
  rintro ds H1 F1 _ ⟨ρ1, ok1, s1, h1⟩ vs rv
  have a4 : SqL K H1 a (ns.map V.int) := SqL.mono (fun b o q => ok1.keep b o q (by rw [a0]; simp)) a2
  split at h1
  · rename_i hl
    refine ⟨F1, a, ns, vs, ds, rfl, ok1.sub, a4, rv, hl, ?_⟩
    cases e : f ns ds with
    | none => rw [e] at h1; exact h1
    | some r =>
      rw [e] at h1
      cases r with
      | error e => exact fun cls y F' H' x r => h1 σ cls y H' F' (ok1.call x) x.ff r
      | ok es =>
        intro p xs F' H' x hp hf hl' rx
        have h2 := postS_bindG h1
        unfold mStoreO at h2
        split at h2
        · rename_i hi
          obtain ⟨F3, ρ3, ok3, s3, h6⟩ := h2 _ H' F' (ok_fresh ok1 x hp hf hl' rx hi) x.ff
          exact h6 _ _ _ ok3 (Same.refl F3)
        · exact h2.elim
  · exact h1.elim
/-- len(script), script[..] -/
def mScrLen (j : Nat) : M D := mBind (mScr j) fun ns => mPure (.int (ns.length : Nat))
def mScrIx (j : Nat) (m : M D) : M D := mBind (mScr j) fun ns => mBind m fun d => mLift (match d with
  | .int i => (atI ns i).map PyData.int
  | _ => none)
theorem scr_at {α : Type} {c : Ct} {F : Hp} {ρ : En} {j : Nat} {G : α → Hp → Hp → Prop} {f : List Int → M α} (h : post K W c σ F G (mBind (mScr j) f ρ)) : ∃ ns, ρ[j]? = some (.scr ns) ∧ post K W c σ F G (f ns ρ) := by
  unfold mBind mScr at h
  cases e : ρ[j]? with
  | none => rw [e] at h; exact h.elim
  | some u =>
    rw [e] at h
    cases u with
    | scr ns => exact ⟨ns, rfl, h⟩
    | un => exact h.elim
    | val _ => exact h.elim
    | own _ => exact h.elim
    | io _ => exact h.elim
    | dct _ => exact h.elim
    | nst _ => exact h.elim
variable {pos p : Pos} {a : Expr} {m : M D}
theorem dScrLen {j : Nat} (hm : X.mg "len" = none) (ha : PE X a (tVar j)) (hg : Gl X "len" := by rfl) (hs : starEach (a :: []) X.env = (false, eval a X.env) :: starEach [] X.env := by rfl) (hpl : (backTo pos (starEach [] X.env)).any (·.1) = false := by rfl) : PE X (.Call (.Name "len" p) [a] [] pos) (tE X.K W (mScrLen j)) :=
  PE.imp (pe_callB call_len_seq hg hm PySem.boot_len (pa_cons ha pa_nil hs) (by decide) (by decide) hs hpl) (by
  rintro σ H Q ⟨c, F, ρ, ok, h⟩
  obtain ⟨ns, ej, h⟩ := scr_at h
  obtain ⟨a0, a, a1, a2, a3⟩ := ok.scrH ej
  refine ⟨.ref a, a1, a, _, rfl, .inl a3, ?_⟩
  rw [List.length_map]
  exact h H F ok (Same.refl F) _ (.int _))
theorem dScrIx {j : Nat} {b : Expr} (ha : PE X a (tVar j)) (hb : PE X b (tE X.K W m)) (hs : PlainIx b := by exact fun _ _ => rfl) : PE X (.Subscript a b pos) (tE X.K W (mScrIx j m)) := PE.imp (pe_ix ix_list ha hb hs) (by
  rintro σ H Q ⟨c, F, ρ, ok, h⟩
  obtain ⟨ns, ej, h⟩ := scr_at h
  obtain ⟨a0, a, a1, a2, a3⟩ := ok.scrH ej
  refine ⟨.ref a, a1, c, F, ρ, ok, post_mono ?_ (post_bind h)⟩
  rintro d H1 F1 _ ⟨ρ1, ok1, s1, h1⟩ v rv
  obtain ⟨d', e, h2⟩ := post_lift h1
  split at e
  · rename_i i
    cases rv
    cases q : atI ns i with
    | none => rw [q] at e; cases e
    | some z =>
      rw [q] at e
      cases e
      refine ⟨a, _, i, .int z, rfl, rfl, SqL.mono (fun b o q => ok1.keep b o q (by rw [a0]; simp)) a2, ?_, h2 H1 F1 ok1 (Same.refl F1) _ (.int z)⟩
      unfold atI at q ⊢
      rw [List.length_map]
      cases q2 : ixN ns.length i with
      | none => rw [q2] at q; cases q
      | some k =>
        rw [q2] at q
        show (ns.map V.int)[k]? = _
        rw [List.getElem?_map, show ns[k]? = some z from q]; rfl
  · cases e)
end
/-! ### a def by its body -/
section
variable {P : Program} {w : World} {K : PySem.W.Frag} {mg : Str → Option Value} {base : Heap} {x qual : Str} {st : Stmt} {f : Addr} {fd : FuncData} {N ps : List Str} {k : Nat} {m : M Fl}
theorem FnScope.le {sc : Scope} (S : FnScope N ps sc) : ps.length ≤ N.length := by
  have := congrArg List.length S.pre
  rw [List.length_take] at this
  omega
end
end Dd

namespace Dd
open PySem PySem.Spec L2
section
variable {X : Cx} {W : WX} {K : PySem.W.Frag}
/-! ### built-ins -/
def rOr (r r' : List V → Hp → VK → Prop) : List V → Hp → VK → Prop := fun xs H Q => r xs H Q ∨ r' xs H Q
theorem pk1 {H F : Hp} {xs : List V} {d : D} (h : PkAll K H F xs [d]) : ∃ x, xs = [x] ∧ Pk K H F x d := by
  cases h with
  | cons r t => cases t; exact ⟨_, rfl, r⟩
theorem pk2 {H F : Hp} {xs : List V} {d e : D} (h : PkAll K H F xs [d, e]) : ∃ x y, xs = [x, y] ∧ Pk K H F x d ∧ Pk K H F y e := by
  cases h with
  | cons r t =>
    obtain ⟨y, rfl, r'⟩ := pk1 t
    exact ⟨_, y, rfl, r, r'⟩
def lenD : List D → Option D
  | [.list ds] => some (.int (ds.length : Nat))
  | [.tuple ds] => some (.int (ds.length : Nat))
  | [.str z] => if fit z.length = true then some (.int (z.length : Nat)) else none
  | _ => none
def rLen (K : PySem.W.Frag) : List V → Hp → VK → Prop := rOr (fun xs H Q => ∃ p ys, xs = [.ref p] ∧ (SqL K H p ys ∨ SqT K H p ys) ∧ Q (.int ys.length) H) (fun xs H Q => ∃ z, xs = [.str z] ∧ z.length ≤ sizeLine ∧ Q (.int z.length) H)
theorem cr_len : CallR X (.builtin "len") (rLen X.K) := CallR.or call_len_seq call_len_str
theorem cd_len : CallD K (rLen K) lenD := by
  intro W c σ H F ρ xs ds d Q ok rx e q
  unfold lenD at e
  split at e
  · cases e
    obtain ⟨x, rfl, r⟩ := pk1 rx
    obtain ⟨p, vs, rfl, hp, dp⟩ := Pk.lst ok.sub r
    exact .inl ⟨p, vs, rfl, .inl hp, by rw [DpAll.length dp]; exact post_ok q ok _ (.int _)⟩
  · cases e
    obtain ⟨x, rfl, r⟩ := pk1 rx
    obtain ⟨p, vs, rfl, hp, dp⟩ := Pk.tup ok.sub r
    exact .inl ⟨p, vs, rfl, .inr hp, by rw [DpAll.length dp]; exact post_ok q ok _ (.int _)⟩
  · split at e
    · rename_i hf
      cases e
      obtain ⟨x, rfl, r⟩ := pk1 rx
      cases r.str
      exact .inr ⟨_, rfl, fit_le hf, post_ok q ok _ (.int _)⟩
    · cases e
  · cases e
def intD : List D → Option D
  | [.int i] => some (.int i)
  | [.bool k] => some (.int (if k then 1 else 0))
  | _ => none
theorem cd_int : CallD K (fun xs H Q => (∃ i, xs = [.int i] ∧ Q (.int i) H) ∨ ∃ k, xs = [.bl k] ∧ Q (.int (if k then 1 else 0)) H) intD := by
  intro W c σ H F ρ xs ds d Q ok rx e q
  unfold intD at e
  split at e
  · cases e
    obtain ⟨x, rfl, r⟩ := pk1 rx
    cases r.int
    exact .inl ⟨_, rfl, post_ok q ok _ (.int _)⟩
  · cases e
    obtain ⟨x, rfl, r⟩ := pk1 rx
    cases r.bool
    exact .inr ⟨_, rfl, post_ok q ok _ (.int _)⟩
  · cases e
def max2D : List D → Option D
  | [.int i, .int j] => some (.int (if j > i then j else i))
  | _ => none
def min2D : List D → Option D
  | [.int i, .int j] => some (.int (if j < i then j else i))
  | _ => none
theorem cd_max2 : CallD K (fun xs H Q => ∃ i j, xs = [.int i, .int j] ∧ Q (.int (if j > i then j else i)) H) max2D := by
  intro W c σ H F ρ xs ds d Q ok rx e q
  unfold max2D at e
  split at e
  · cases e
    obtain ⟨x, y, rfl, r, r'⟩ := pk2 rx
    cases r.int
    cases r'.int
    exact ⟨_, _, rfl, post_ok q ok _ (.int _)⟩
  · cases e
theorem cd_min2 : CallD K (fun xs H Q => ∃ i j, xs = [.int i, .int j] ∧ Q (.int (if j < i then j else i)) H) min2D := by
  intro W c σ H F ρ xs ds d Q ok rx e q
  unfold min2D at e
  split at e
  · cases e
    obtain ⟨x, y, rfl, r, r'⟩ := pk2 rx
    cases r.int
    cases r'.int
    exact ⟨_, _, rfl, post_ok q ok _ (.int _)⟩
  · cases e
def tupleD : List D → Option D
  | [.list ds] => some (.tuple ds)
  | [.tuple ds] => some (.tuple ds)
  | _ => none
theorem cd_tuple : CallD K (fun xs H Q => ∃ p ys, xs = [.ref p] ∧ ((SqL K H p ys ∧ ∀ l, H l = none → Q (.ref l) (upd H l (.tup ys))) ∨ (SqT K H p ys ∧ Q (.ref p) H))) tupleD := by
  intro W c σ H F ρ xs ds d Q ok rx e q
  unfold tupleD at e
  split at e
  · cases e
    obtain ⟨x, rfl, r⟩ := pk1 rx
    obtain ⟨p, vs, rfl, hp, dp⟩ := Pk.lst ok.sub r
    exact ⟨p, vs, rfl, .inl ⟨hp, fun l hl => new_tup ok dp q l hl⟩⟩
  · cases e
    obtain ⟨x, rfl, r⟩ := pk1 rx
    obtain ⟨p, vs, rfl, hp, dp⟩ := Pk.tup ok.sub r
    refine ⟨p, vs, rfl, .inr ⟨hp, ?_⟩⟩
    rcases r with r | ⟨_, _, _, _, e, _⟩
    · exact post_ok q ok _ r
    · cases e
  · cases e
def toBools : List D → Option (List Bool)
  | [] => some []
  | .bool i :: ds => (toBools ds).map (i :: ·)
  | _ => none
theorem toBools_eq : ∀ {ds : List D} {ns : List Bool}, toBools ds = some ns → ds = ns.map PyData.bool
  | [], ns, h => by cases h; rfl
  | d :: ds, ns, h => by
    cases d with
    | bool i =>
      have h : (toBools ds).map (i :: ·) = some ns := h
      cases q : toBools ds with
      | none => rw [q] at h; cases h
      | some ms =>
        rw [q] at h
        cases h
        rw [toBools_eq q]; rfl
    | none => cases h
    | int _ => cases h
    | str _ => cases h
    | list _ => cases h
    | tuple _ => cases h
    | dict _ => cases h
def allD : List D → Option D
  | [.list ds] => (toBools ds).map fun bs => .bool (bs.all id)
  | _ => none
theorem cd_all : CallD K (rAll K) allD := by
  intro W c σ H F ρ xs ds d Q ok rx e q
  unfold allD at e
  split at e
  · rename_i es
    cases q2 : toBools es with
    | none => rw [q2] at e; cases e
    | some ns =>
      rw [q2] at e
      cases e
      obtain ⟨x, rfl, r⟩ := pk1 rx
      obtain ⟨p, vs, rfl, hp, dp⟩ := Pk.lst ok.sub r
      rw [toBools_eq q2] at dp
      rw [DpAll.bls dp] at hp
      exact ⟨p, ns, rfl, hp, post_ok q ok _ (.bl _)⟩
  · cases e
/-! ### isinstance -/
/-- an object stands as a dict whose first key is None -/
def objD : D → Bool
  | .dict ((.none, _) :: _) => true
  | _ => false
def dictT (kvs : List (D × D)) : String := if objD (.dict kvs) = true then "object" else "dict"
def typD : D → String
  | .none => "NoneType"
  | .bool _ => "bool"
  | .int _ => "int"
  | .str _ => "str"
  | .list _ => "list"
  | .tuple _ => "tuple"
  | .dict kvs => dictT kvs
def TyD (K : PySem.W.Frag) (d : D) (ty : Value) : Prop := (objD d = false ∧ ty = .type (typD d)) ∨ (objD d = true ∧ ∃ C, ty = .ref C ∧ InsOk K C)
theorem objD_kv {K : PySem.W.Frag} {H : Hp} {ws : List (Key × V)} {kvs : List (D × D)} (h : DpKV K H ws kvs) : objD (.dict kvs) = false := by
  cases h with
  | nil => rfl
  | cons r t => rename_i k _ _ _ _; cases k <;> rfl
theorem objD_key {K : PySem.W.Frag} {H : Hp} {ws : List (Key × V)} {kvs : List (D × D)} (h : DpKV K H ws kvs) : dictT kvs = "dict" := by
  unfold dictT; rw [objD_kv h]; rfl
theorem typ_of {c : Ct} {σ : St} {H F : Hp} {ρ : En} (ok : Ok K c σ H F ρ) {x : V} {d : D} (r : Pk K H F x d) : ∃ ty, TyX K H x ty ∧ TyD K d ty := by
  cases d with
  | none => cases r.none; exact ⟨_, .base .non, .inl ⟨rfl, rfl⟩⟩
  | bool b => cases r.bool; exact ⟨_, .base (.bl b), .inl ⟨rfl, rfl⟩⟩
  | int i => cases r.int; exact ⟨_, .base (.int i), .inl ⟨rfl, rfl⟩⟩
  | str z => cases r.str; exact ⟨_, .base (.str z), .inl ⟨rfl, rfl⟩⟩
  | list ds =>
    obtain ⟨p, vs, rfl, hp, dp⟩ := Pk.rd ok.sub r
    rcases hp with hp | ⟨o, hp⟩
    · exact ⟨_, .base (.lst hp), .inl ⟨rfl, rfl⟩⟩
    · exact ⟨_, .base (.frz hp), .inl ⟨rfl, rfl⟩⟩
  | tuple ds =>
    obtain ⟨p, vs, rfl, hp, dp⟩ := Pk.tup ok.sub r
    rcases hp with (hp | ⟨o, hp⟩) | ⟨o, its, n, h1, h2, _⟩
    · exact ⟨_, .base (.tup hp), .inl ⟨rfl, rfl⟩⟩
    · exact ⟨_, .fTuple hp, .inl ⟨rfl, rfl⟩⟩
    · exact ⟨_, .kTuple h1 h2, .inl ⟨rfl, rfl⟩⟩
  | dict _ =>
    rcases r with r | ⟨_, _, _, _, e, _⟩
    · cases r with
      | dct hr hk =>
        have e := objD_key hk
        have ty : TyD K (.dict _) (.type "dict") := .inl ⟨objD_kv hk, by show Value.type "dict" = Value.type (dictT _); rw [e]⟩
        rcases Rd.mono ok.sub hr with hp | ⟨o, hp⟩
        · exact ⟨_, .base (.dK hp), ty⟩
        · exact ⟨_, .fDict hp, ty⟩
      | ins hp _ hi _ => exact ⟨_, .base (.ins (ok.sub _ _ hp) hi.cl hi.ha hi.hn hi.htk hi.hm), .inr ⟨rfl, _, rfl, hi⟩⟩
    · cases e
def isiT (T : String) (d : D) : Bool := match kitB (typD d) T with
  | some b => b
  | none => false
def isiOk (T : String) : Bool := (["bool", "int", "str", "list", "tuple", "dict"] : List String).contains T && ((kitB "NoneType" T).isSome && (kitB "bool" T).isSome && (kitB "int" T).isSome && (kitB "str" T).isSome && (kitB "list" T).isSome && (kitB "tuple" T).isSome && (kitB "dict" T).isSome)
theorem isi_kit {T : String} (h : isiOk T = true) (d : D) {ty : Value} (hy : TyD K d ty) : PySem.W.kitOne K ty (.type T) = some (isiT T d) := by
  unfold isiOk at h
  rw [Bool.and_eq_true] at h
  obtain ⟨h0, h⟩ := h
  have h0 := List.contains_iff_mem.mp h0
  simp only [Bool.and_eq_true] at h
  obtain ⟨⟨⟨⟨⟨⟨h1, h2⟩, h3⟩, h4⟩, h5⟩, h6⟩, h7⟩ := h
  rcases hy with ⟨hi, rfl⟩ | ⟨hi, C, rfl, hk⟩
  · refine kit_ty ?_
    unfold isiT
    cases d with
    | dict kvs =>
      have e : typD (.dict kvs) = "dict" := by
        show dictT kvs = "dict"
        unfold dictT; rw [hi]; rfl
      rw [e]
      obtain ⟨b, e⟩ := Option.isSome_iff_exists.mp h7; rw [e]
    | _ => unfold typD; first
        | (obtain ⟨b, e⟩ := Option.isSome_iff_exists.mp h1; rw [e])
        | (obtain ⟨b, e⟩ := Option.isSome_iff_exists.mp h2; rw [e])
        | (obtain ⟨b, e⟩ := Option.isSome_iff_exists.mp h3; rw [e])
        | (obtain ⟨b, e⟩ := Option.isSome_iff_exists.mp h4; rw [e])
        | (obtain ⟨b, e⟩ := Option.isSome_iff_exists.mp h5; rw [e])
        | (obtain ⟨b, e⟩ := Option.isSome_iff_exists.mp h6; rw [e])
  · rw [hk.ki T h0]
    have e : isiT T d = false := by
      have ed : typD d = "object" := by
        cases d with
        | dict kvs => show dictT kvs = "object"; unfold dictT; rw [hi]; rfl
        | _ => cases hi
      unfold isiT
      rw [ed]
      simp only [List.mem_cons, List.not_mem_nil, or_false] at h0
      rcases h0 with rfl | rfl | rfl | rfl | rfl | rfl <;> decide +kernel
    rw [e]
def mIsi (T : String) (m : M D) : M D := mBind m fun d => mPure (.bool (isiT T d))
variable {a : Expr} {m : M D} {p q pos : Pos} {tn : Str} {T : String}
theorem dIsi (hm : X.mg "isinstance" = none) (hmT : X.mg tn = none) (hT : isiOk T = true) (ha : PE X a (tP X.K W m)) (hv : bootBuiltins tn = some (.type T)) (hg : Gl X "isinstance" := by rfl) (hgT : Gl X tn := by rfl)
    (hn : tn ≠ "__name__" := by decide) (hdb : (tn == ("__debug__" : Str)) = false := by decide) (hs : starEach [a, .Name tn q] X.env = (false, eval a X.env) :: starEach [.Name tn q] X.env := by rfl) (hs2 : starEach [.Name tn q] X.env = (false, eval (.Name tn q) X.env) :: starEach [] X.env := by rfl) (hpl : (backTo pos (starEach [.Name tn q] X.env)).any (·.1) = false := by rfl)
    (hbi : bootBuiltins "isinstance" = some (.builtin "isinstance") := by decide +kernel) : PE X (.Call (.Name "isinstance" p) [a, .Name tn q] [] pos) (tE X.K W (mIsi T m)) :=
  PE.imp (pe_callB call_isi hg hm hbi (pa_cons ha (pa_cons (pe_bltn hgT hmT hv (hn := hn) (hd := hdb) (r := (show RelV (V.ty T) (Value.type T) from rfl))) pa_nil hs2) hs) (by decide) (by decide) hs hpl) (by
  rintro σ H Q ⟨c, F, ρ, ok, h⟩
  refine ⟨c, F, ρ, ok, post_mono ?_ (post_bind h)⟩
  rintro d H1 F1 _ ⟨ρ1, ok1, s1, h1⟩ v rv
  obtain ⟨ty, t1, t2⟩ := typ_of ok1 rv
  exact ⟨v, _, _, _, _, rfl, .ty T, t1, isi_kit hT d t2, h1 H1 F1 ok1 (Same.refl F1) _ (.bl _)⟩)
end
/-! ### a new list, not yet anyone's -/
def postN (K : PySem.W.Frag) (W : WX) (c : Ct) (σ : St) (F : Hp) (Q : VK) : Option (R (List D)) → Prop
  | none => False
  | some (.ok out ρ') => ∀ p xs H' F', Ok K (c.put p (.lst xs)) σ H' F' ρ' → c.pr p = none → Same F F' → DpAll K F' xs out → Q (.ref p) H'
  | some (.ex e ρ') => ∀ cls x H' F', Ok K c σ H' F' ρ' → Same F F' → ExR K e cls x F' H' → W cls x σ H'
def tN (K : PySem.W.Frag) (W : WX) (m : M (List D)) : TE := fun σ H Q => ∃ c F ρ, Ok K c σ H F ρ ∧ postN K W c σ F Q (m ρ)
section
variable {X : Cx} {W : WX} {K : PySem.W.Frag} {σ : St} {H F : Hp} {ρ : En} {c : Ct}
theorem postN_weak {Q : VK} {F1 : Hp} (s : Same F F1) : ∀ {r : Option (R (List D))}, postN K W c σ F Q r → postN K W c σ F1 Q r
  | some (.ok a ρ'), h => fun p xs H' F' ok hp s' => h p xs H' F' ok hp (s.trans s')
  | some (.ex e ρ'), h => fun cls x H' F' ok s' => h cls x H' F' ok (s.trans s')
theorem postN_bind {α : Type} {Q : VK} {m : M α} {f : α → M (List D)} (h : postN K W c σ F Q (mBind m f ρ)) :
    post K W c σ F (fun a H1 F1 => ∃ ρ1, Ok K c σ H1 F1 ρ1 ∧ Same F F1 ∧ postN K W c σ F1 Q (f a ρ1)) (m ρ) := by
  unfold mBind at h
  cases e : m ρ with
  | none => rw [e] at h; exact h
  | some r =>
    rw [e] at h
    cases r with
    | ok a ρ' => exact fun H' F' ok s => ⟨ρ', ok, s, postN_weak s h⟩
    | ex x ρ' => exact h
theorem new_N {Q : VK} {vs : List V} {ds : List D} (ok : Ok K c σ H F ρ) (hd : DpAll K F vs ds) (q : postN K W c σ F Q (some (.ok ds ρ))) (p : Addr) (hp : H p = none) : Q (.ref p) (upd H p (.lst vs)) :=
  q p vs _ F (ok.allocP hp) (ok.new hp).2.2.1 (Same.refl F) hd
theorem postN_lift {Q : VK} {o : Option (List D)} (h : postN K W c σ F Q (mLift o ρ)) : ∃ a, o = some a ∧ postN K W c σ F Q (some (.ok a ρ)) := by
  unfold mLift at h
  cases o with
  | none => exact h.elim
  | some a => exact ⟨a, rfl, h⟩
def mVal (m : M (List D)) : M D := mBind m fun ds => mPure (.list ds)
theorem tE_N {m : M (List D)} {Q : VK} (h : tE K W (mVal m) σ H Q) : tN K W m σ H Q := by
  obtain ⟨c, F, ρ, ok, h⟩ := h
  refine ⟨c, F, ρ, ok, ?_⟩
  unfold mVal mBind at h
  cases e : m ρ with
  | none => rw [e] at h; exact h
  | some r =>
    rw [e] at h
    cases r with
    | ex x ρ' => exact h
    | ok out ρ' =>
      intro p xs H' F' ok' hp s' r
      obtain ⟨hH, hF, h0⟩ := ok'.prt p _ upd_same
      have s : Same F' (upd F' p (.lst xs)) := Same.updN hF
      exact h H' _ (ok'.freeP hp) (s'.trans s) _ (.lst (.inl upd_same) (DpAll.mono s r))
theorem dVal {e : Expr} {m : M (List D)} (h : PE X e (tN X.K W m)) : PE X e (tE X.K W (mVal m)) := PE.imp h fun _ _ _ => tE_N
def mAsgN (m : M (List D)) (i : Nat) : M Fl := mBind m fun ds => mBind (mStoreO i ds) fun _ => mDone
theorem asgN_of {m : M (List D)} {i : Nat} {Dn : Ends} (h : tS K W (mAsgN m i) Dn σ H) : tAsg (tN K W m) (gName i) Dn σ H := by
  obtain ⟨c, F, ρ, ok, h⟩ := h
  refine ⟨c, F, ρ, ok, ?_⟩
  unfold mAsgN mBind at h
  cases e : m ρ with
  | none => rw [e] at h; exact h.elim
  | some r =>
    rw [e] at h
    cases r with
    | ex x ρ' => exact fun cls y H' F' ok s r => h σ cls y H' F' ok s r
    | ok out ρ' =>
      intro p xs H' F' ok' hp s' r
      have h5 : postS K W c F Dn (mBind (mStoreO i out) (fun _ => mDone) ρ') := h
      have h6 := postS_bindG h5
      unfold mStoreO at h6
      split at h6
      · rename_i hl
        obtain ⟨F3, ρ3, ok3, s3, h7⟩ := h6 _ H' F' (ok'.ownP hp r hl) s'
        exact h7 _ _ _ ok3 (Same.refl F3)
      · exact h6.elim
theorem dsN {i : Nat} {x : Str} {pos pos' : Pos} {e : Expr} {m : M (List D)} (hN : X.N.Nodup) (he : PE X e (tN X.K W m)) (hi : X.N[i]? = some x := by rfl) (hx : Loc X.env.scope x := by first | exact Or.inl rfl | exact Or.inr rfl)
    (hs : swapsWith e (some (.Name x pos')) pos.line X.env = pure false := by rfl)
    (hf : X.fn x = true ∨ X.env.scope.names.lookup x = some .local := by first | exact .inl rfl | exact .inr rfl) : PS X (.Assign [.Name x pos'] e pos) (tS X.K W (mAsgN m i)) := PS.imp (ps_set hN hi hx he hs hf) fun _ _ _ => asgN_of
/-- a comprehension, as a new list; on one line with its name -/
theorem comp_N {mi : M (List D)} {vs : List Nat} {g : TG} {gD : D → M Unit} {mt : M Bool} {me : M D} (hg : CTg K vs g gD) {Q : VK}
    {tt : TT} (ht : ∀ σ H Q, tT K WF mt σ H Q → tt σ H Q) (h : tN K W (mComp vs mi gD mt me) σ H Q) : tLc (tI K W mi) g tt (tE K WF me) vs σ H Q := by
  obtain ⟨c, F, ρ, ok, h⟩ := h
  refine comp_core hg ht ok ?_
  unfold mComp at h
  refine post_mono ?_ (postN_bind h)
  rintro ds H1 F1 _ ⟨ρ1, ok1, s1, h1⟩
  unfold mRest at h1
  cases q : mGo vs gD mt me ds (unsE ρ1 vs) with
  | none => rw [q] at h1; exact h1.elim
  | some r =>
    rw [q] at h1
    cases r with
    | ex x ρ' => exact h1.elim
    | ok out ρe =>
      by_cases hf : fit ds.length = true
      · simp only [if_pos hf] at h1
        exact ⟨ρ1, ok1, hf, out, ρe, q, fun p acc H2 F2 hpr ok2 s2 da => h1 p acc H2 F2 ok2 hpr s2 da⟩
      · simp only [if_neg hf] at h1
        exact h1.elim
theorem dCompN {elt iter tg : Expr} {ifs : List Expr} {scope : Scope} {own : List (Str × Nat)} {pos : Pos} {mi : M (List D)} {g : TG} {gD : D → M Unit} {mt : M Bool} {me : M D} {tt : TT} (hc : X.calm = true) (hN : X.N.Nodup) (hi : PI X tg iter (tI X.K W mi)) (ok : BlkOk X.N X.env.scope scope own)
    (hg : ∀ (s : Shared) (H : Hp) (C : Addr) (cl : List (Str × Addr)) (fp : List Addr), PG (X.blk s H scope (compEnvC scope cl C X.env) fp) tg g) (ht : ∀ (s : Shared) (H : Hp) (C : Addr) (cl : List (Str × Addr)) (fp : List Addr), PTs (X.blk s H scope (compEnvC scope cl C X.env) fp) ifs tt)
    (he : ∀ (s : Shared) (H : Hp) (C : Addr) (cl : List (Str × Addr)) (fp : List Addr), PE (X.blk s H scope (compEnvC scope cl C X.env) fp) elt (tE X.K WF me)) (hG : CTg X.K (own.map (·.2)) g gD) (hT : ∀ σ H Q, tT X.K WF mt σ H Q → tt σ H Q)
    (hs : ∀ x, foldedSetIterable iter X.env x = pure x := by exact fun _ => rfl) : PE X (.ListComp elt [⟨tg, iter, ifs, 0⟩] scope pos) (tN X.K W (mComp (own.map (·.2)) mi gD mt me)) :=
  PE.imp (pe_lc hc hN hi ok hg ht he hs) fun _ _ _ => comp_N hG hT
theorem dsCompN {i : Nat} {y : Str} {py spos : Pos} {elt iter tg : Expr} {ifs : List Expr} {scope : Scope} {own : List (Str × Nat)} {pos : Pos} {mi : M (List D)} {g : TG} {gD : D → M Unit} {mt : M Bool} {me : M D} {tt : TT} (hc : X.calm = true) (hN : X.N.Nodup)
    (hsw : swapsWith (.ListComp elt [⟨tg, iter, ifs, 0⟩] scope pos) (some (.Name y py)) spos.line X.env = pure true) (hi : PI X tg iter (tI X.K W mi)) (ok : BlkOk X.N X.env.scope scope own)
    (hg : ∀ (s : Shared) (H : Hp) (C : Addr) (cl : List (Str × Addr)) (fp : List Addr), PG (X.blk s H scope (compEnvC scope cl C X.env) fp) tg g) (ht : ∀ (s : Shared) (H : Hp) (C : Addr) (cl : List (Str × Addr)) (fp : List Addr), PTs (X.blk s H scope (compEnvC scope cl C X.env) fp) ifs tt)
    (he : ∀ (s : Shared) (H : Hp) (C : Addr) (cl : List (Str × Addr)) (fp : List Addr), PE (X.blk s H scope (compEnvC scope cl C X.env) fp) elt (tE X.K WF me)) (hG : CTg X.K (own.map (·.2)) g gD) (hT : ∀ σ H Q, tT X.K WF mt σ H Q → tt σ H Q)
    (hy : X.N[i]? = some y := by rfl) (hyl : X.env.scope.names.lookup y = some .local := by rfl)
    (hs : ∀ x, foldedSetIterable iter X.env x = pure x := by exact fun _ => rfl) : PS X (.Assign [.Name y py] (.ListComp elt [⟨tg, iter, ifs, 0⟩] scope pos) spos) (tS X.K W (mAsgN (mComp (own.map (·.2)) mi gD mt me) i)) :=
  PS.imp (ps_setLc hc hN hy hyl hsw hi ok hg ht he hs) fun Dn σ H h => by
    have q := asgN_of h
    exact comp_N hG hT q
def mCallN1 (g : List D → Option (List D)) (m : M D) : M (List D) := mBind m fun d => mLift (g [d])
variable {a : Expr} {ma mb : M D} {x : Str} {p pos : Pos} {id T : String} {r : List V → Hp → VK → Prop} {g : List D → Option (List D)}
def listD : List D → Option (List D)
  | [.list ds] => some ds
  | [.tuple ds] => some ds
  | _ => none
end
end Dd

namespace Dd
open PySem PySem.Spec L2
section
variable {X : Cx} {W : WX} {K : PySem.W.Frag} {σ : St} {H F : Hp} {ρ : En} {c : Ct}
/-! ### a tuple by 0, by 1 -/
theorem tuple_mul0 (l : Addr) (items : Array Value) (n : Nat) (dd : Option Addr) (sl : Array (Option Value)) (u : Tok) (c1 : items.isEmpty = false) :
    Meets (Builtin.«tuple.__mul__» ⟨[.ref l, .int 0 u], []⟩) (fun _ R s => s.heap.get? l = some { cls := .type "tuple", dict := dd, data := .seq items n, slots := sl } ∧
      R (.ok (.ret (Value.ref s.heap.objs.size))) { s with heap := s.heap.push { cls := Value.type "tuple", data := Data.seq #[] }, toks := s.toks }) :=
  .of_wp fun prog w A R s h => by
    obtain ⟨hp, g, d, tk, os⟩ := s
    obtain ⟨hl, h⟩ := h
    have f1 := AutoSeq1.idx_int
    have c1' : (items.isEmpty || (0 : Int) == 1) = false := by rw [c1]; rfl
    wp_walk using wpAny_loadPart' hl
    repeat (first
      | (refine wpAny_ite_false (decide_eq_false (by rw [c1']; exact Bool.false_ne_true)) ?_; wp_walk using wpAny_loadPart' hl))
    exact ⟨_, rfl, h⟩
theorem tuple_mul1 (l : Addr) (items : Array Value) (n : Nat) (dd : Option Addr) (sl : Array (Option Value)) (u : Tok) :
    Meets (Builtin.«tuple.__mul__» ⟨[.ref l, .int 1 u], []⟩) (fun _ R s => s.heap.get? l = some { cls := .type "tuple", dict := dd, data := .seq items n, slots := sl } ∧
      R (.ok (.ret (Value.ref l))) s) :=
  .of_wp fun prog w A R s h => by
    obtain ⟨hp, g, d, tk, os⟩ := s
    obtain ⟨hl, h⟩ := h
    have f1 := AutoSeq1.idx_int
    have c1' : (items.isEmpty || (1 : Int) == 1) = true := by simp
    wp_walk using wpAny_loadPart' hl
    repeat (first
      | (refine wpAny_ite_true (decide_eq_true (by rw [c1'])) ?_; wp_walk using wpAny_loadPart' hl))
    exact ⟨_, rfl, h⟩

def rRep01 (K : PySem.W.Frag) : R2 := fun x y H Q => ∃ l xs, x = .ref l ∧ SqT K H l xs ∧ xs ≠ [] ∧ ((y = .int 0 ∧ ∀ p, H p = none → Q (.ref p) (upd H p (.tup []))) ∨ (y = .int 1 ∧ Q (.ref l) H))
theorem op_rep01 : OpR X (binaryOp .Mult) (rRep01 X.K) := by
  intro pins s σ H vx vy v u Q I rx ry hh
  obtain ⟨l, xs, rfl, hT, hne, hh⟩ := hh
  cases rx
  obtain ⟨its, rr, ⟨⟨cls, dd, data, sl⟩, hob, hcl, n, hdt⟩, hsz⟩ := I.tuple hT
  simp only at hcl hdt
  subst hcl hdt
  have hemp : its.toArray.isEmpty = false := by
    cases its with
    | nil => exact absurd (List.eq_nil_of_length_eq_zero (by rw [rr.length]; rfl)) hne
    | cons _ _ => rfl
  rcases hh with ⟨rfl, q⟩ | ⟨rfl, q⟩
  · obtain ⟨t, rfl⟩ := ry
    refine wpAny_binaryOp_repeat_ref (T := "tuple") (U := "int") (by decide) ⟨_, hob, rfl⟩ (fun s' => typeIs_int s' 0 t) noFill_tuple_mul F.fills_int_mul F.slot_int_rmul repeat_tuple F.slot_int_index.lookup
      (call_meets F.slot_int_rmul (typeIs_int s 0 t) F.entry_int_rmul (F.args_int_rmul_2 _ _) (int_rmul_tuple 0 t l its.toArray n dd sl)
        ⟨hob, rfl, ⟨_, hob, rfl⟩, call_meets F.slot_tuple_mul ⟨_, hob, rfl⟩ F.entry_tuple_mul (F.args_tuple_mul_2 _ _) (tuple_mul0 l its.toArray n dd sl t hemp) ⟨hob, ?_⟩⟩)
    refine ⟨.ref s.heap.objs.size, _, I.laid (t' := s.toks) (o := .tup []) (fun b ob qq => Heap.get?_push_of_some _ qq) (Nat.le_refl _) ?_, rfl, q _ (I.hok.fresh (Nat.le_refl _))⟩
    exact ⟨Nat.zero_le _, [], .nil, PyProof.Rows.IsTup.new _ _⟩
  · obtain ⟨t, rfl⟩ := ry
    refine wpAny_binaryOp_repeat_ref (T := "tuple") (U := "int") (by decide) ⟨_, hob, rfl⟩ (fun s' => typeIs_int s' 1 t) noFill_tuple_mul F.fills_int_mul F.slot_int_rmul repeat_tuple F.slot_int_index.lookup
      (call_meets F.slot_int_rmul (typeIs_int s 1 t) F.entry_int_rmul (F.args_int_rmul_2 _ _) (int_rmul_tuple 1 t l its.toArray n dd sl)
        ⟨hob, rfl, ⟨_, hob, rfl⟩, call_meets F.slot_tuple_mul ⟨_, hob, rfl⟩ F.entry_tuple_mul (F.args_tuple_mul_2 _ _) (tuple_mul1 l its.toArray n dd sl t) ⟨hob, ?_⟩⟩)
    exact ⟨.ref l, H, I.tok _, rfl, q⟩
def repT : D → D → Option D
  | .tuple ds, .int k => if ds.isEmpty = true then none else if k = 0 then some (.tuple []) else if k = 1 then some (.tuple ds) else none
  | _, _ => none
theorem opD_repT : OpD K (rRep01 K) repT := by
  intro W c σ H F ρ x y a b d Q ok rx ry e q
  unfold repT at e
  split at e
  · rename_i ds k
    obtain ⟨p, vs, rfl, hp, dp⟩ := Pk.tup ok.sub rx
    by_cases he : ds.isEmpty = true
    · rw [if_pos he] at e; cases e
    · rw [if_neg he] at e
      have hne : vs ≠ [] := fun z => by
        subst z
        cases dp
        exact he rfl
      by_cases h0 : k = 0
      · rw [if_pos h0] at e
        cases e
        subst h0
        exact ⟨p, vs, rfl, hp, hne, .inl ⟨ry.int, fun l hl => new_tup ok .nil q l hl⟩⟩
      · rw [if_neg h0] at e
        by_cases h1 : k = 1
        · rw [if_pos h1] at e
          cases e
          subst h1
          refine ⟨p, vs, rfl, hp, hne, .inr ⟨ry.int, ?_⟩⟩
          rcases rx with rx | ⟨_, _, _, _, e, _⟩
          · exact post_ok q ok _ rx
          · cases e
        · rw [if_neg h1] at e
          cases e
  · cases e
/-- a list by an int -/
theorem DpAll.rep {vs : List V} {ds : List D} (h : DpAll K F vs ds) : ∀ k : Nat, DpAll K F (List.replicate k vs).flatten (List.replicate k ds).flatten
  | 0 => .nil
  | k + 1 => by
    rw [List.replicate_succ, List.replicate_succ, List.flatten_cons, List.flatten_cons]
    exact DpAll.append h (DpAll.rep h k)
def repLD : D → D → Option (List D)
  | .list ds, .int k => if (decide (k.natAbs < 9223372036854775808) && fit (ds.length * k.toNat)) = true then some (List.replicate k.toNat ds).flatten else none
  | _, _ => none
/-- [..] * k: the list is a display -/
def mRepN (ms : M (List D)) (mk : M D) : M (List D) := mBind ms fun ds => mBind (mLift (if fit ds.length = true then some ds else none)) fun ds => mBind mk fun k => mLift (repLD (.list ds) k)
theorem ok_unput {p : Addr} {o : HO} (ok : Ok K (c.put p o) σ H F ρ) (hp : c.pr p = none) : Ok K c σ H F ρ := by
  have nown : ∀ {q : Addr}, (c.put p o).pr q = none → q ≠ p := fun {q} a z => by
    subst z
    have a' : upd c.pr q o q = none := a
    rw [upd_same] at a'; cases a'
  refine ⟨ok.len, ok.sub, ok.ge, ok.fe, ok.keep, fun q e => ?_, fun b u e => ?_, ok.val, fun j es e => ?_, ok.ios, ok.scr, ok.sep, ok.dcs.tr (Same.refl F) fun q ws a1 a2 a3 a4 _ _ => ⟨a1, a2, (upd_ne (nown a4)).symm.trans a4⟩⟩
  · obtain ⟨a1, a2, a3, a4⟩ := ok.iod q e
    exact ⟨a1, a2, (upd_ne (nown a3)).symm.trans a3, a4⟩
  · have ne : b ≠ p := fun z => by subst z; rw [hp] at e; cases e
    exact ok.prt b u ((upd_ne ne).trans e)
  · obtain ⟨q, vs, a1, a2, a3, a4, a5, a6⟩ := ok.own j es e
    exact ⟨q, vs, a1, a2, a3, a4, a5, (upd_ne (nown a6)).symm.trans a6⟩
theorem rep_of {ms : M (List D)} {mk : M D} {Q : VK} (h : tN K W (mRepN ms mk) σ H Q) : tOp rRep (tLst (tA K W ms)) (tE K W mk) σ H Q := by
  obtain ⟨c, F, ρ, ok, h⟩ := h
  refine ⟨c, F, ρ, ok, post_mono ?_ (postN_bind h)⟩
  rintro ds H1 F1 _ ⟨ρ1, ok1, s1, h1⟩ xs rx
  obtain ⟨ds', e, h2⟩ := post_lift (postN_bind h1)
  split at e
  · rename_i hf
    cases e
    refine ⟨by rw [DpAll.length rx]; exact fit_le hf, fun p hp => ?_⟩
    obtain ⟨ρ2, ok2, s2, h3⟩ := h2 H1 F1 ok1 (Same.refl F1)
    have hpr := (ok2.new hp).2.2.1
    refine ⟨c.put p (.lst xs), F1, ρ2, ok2.allocP hp, ?_⟩
    have h4 := postN_bind h3
    cases e2 : mk ρ2 with
    | none => rw [e2] at h4; exact h4.elim
    | some r =>
      rw [e2] at h4
      cases r with
      | ex y ρ3 => exact fun cls z H' F' ok' s' r => h4 cls z H' F' (ok_unput ok' hpr) s' r
      | ok kd ρ3 =>
        intro H' F' ok' s' kv rk
        obtain ⟨ρ4, ok4, s4, h5⟩ := h4 H' F' (ok_unput ok' hpr) s'
        obtain ⟨out, e3, h6⟩ := postN_lift h5
        cases kd with
        | int k =>
          cases rk
          unfold repLD at e3
          simp only at e3
          split at e3
          · rename_i hb
            cases e3
            simp only [Bool.and_eq_true] at hb
            refine ⟨p, k, xs, rfl, rfl, (ok'.prt p _ upd_same).1, by have := of_decide_eq_true hb.1; omega, by have := of_decide_eq_true hb.1; omega, by rw [DpAll.length rx]; exact fit_le hb.2, fun l hl => ?_⟩
            exact new_N ok4 (DpAll.rep (DpAll.mono s' rx) k.toNat) h6 l hl
          · cases e3
        | none => cases e3
        | bool _ => cases e3
        | str _ => cases e3
        | list _ => cases e3
        | tuple _ => cases e3
        | dict _ => cases e3
  · cases e
theorem dRepN {es : List Expr} {lp pos : Pos} {b : Expr} {ms : M (List D)} {mk : M D} (ha : PA X es (tA X.K W ms)) (hb : PE X b (tE X.K W mk)) : PE X (.BinOp (.List es lp) .Mult b pos) (tN X.K W (mRepN ms mk)) := PE.imp (pe_op op_rep (pe_lst ha) hb) fun _ _ _ => rep_of
def mulD : D → D → Option D := oOr mulI repT
def rMulA (K : PySem.W.Frag) : R2 := fun x y H Q => rI CMul (fun i j => .int (i * j)) x y H Q ∨ rRep01 K x y H Q
theorem opD_mul : OpD K (rMulA K) mulD := opD_or (opD_Ic cMul_ok fun _ _ _ => .int _) opD_repT
theorem or_mulA : OpR X (binaryOp .Mult) (rMulA X.K) := OpR.or op_mul op_rep01
/-! ### a, b = x, y -/
variable {i j : Nat} {x y : Str} {a b : Expr} {ma mb : M D} {px py pt pos : Pos} {kt k2 : Nat} {pt2 : Pos}
def mParEE (i j : Nat) (ma mb : M D) : M Fl := mBind ma fun a => mBind mb fun b => mBind (mStore i a) fun _ => mBind (mStore j b) fun _ => mDone
/-- .. the second a new list -/
def mParEN (i j : Nat) (ma : M D) (mb : M (List D)) : M Fl := mBind ma fun a => mBind mb fun b => mBind (mStore i a) fun _ => mBind (mStoreO j b) fun _ => mDone
/-- a new list, written -/
theorem dLstN {es : List Expr} {ms : M (List D)} {pos : Pos} (h : PA X es (tA X.K W ms)) : PE X (.List es pos) (tN X.K W (mBind ms fun ds => mLift (if fit ds.length = true then some ds else none))) := PE.imp (pe_lst h) (by
  rintro σ H Q ⟨c, F, ρ, ok, h⟩
  refine ⟨c, F, ρ, ok, post_mono ?_ (postN_bind h)⟩
  rintro ds H1 F1 _ ⟨ρ1, ok1, s1, h1⟩ xs rx
  obtain ⟨d, e, h2⟩ := postN_lift h1
  split at e
  · rename_i hf
    cases e
    exact ⟨by rw [DpAll.length rx]; exact fit_le hf, fun p hp => new_N ok1 rx h2 p hp⟩
  · cases e)
end
/-! ### calls, in short -/
section
variable {X : Cx} {W : WX} {k n : Nat} {f : Addr} {fd : FuncData} {ps : List Str} {x : Str} {p pos : Pos} {e : Expr} {es : List Expr} {ms : M (List D)}
end
theorem hCX0 {P : Program} {w : World} {H : Hp} {s : Shared} {e : Value} {s' : Shared} (h : L2.CX P w [] H s (fun _ _ _ => False) e s') : False := by
  obtain ⟨_, _, _, _, _, _, _, _, _, _, _, _, z⟩ := h
  exact z
theorem b_len : bootBuiltins "len" = some (.builtin "len") := by decide +kernel
theorem b_int : bootBuiltins "int" = some (.type "int") := by decide +kernel
theorem b_bool : bootBuiltins "bool" = some (.type "bool") := by decide +kernel
theorem b_str : bootBuiltins "str" = some (.type "str") := by decide +kernel
theorem b_tuple : bootBuiltins "tuple" = some (.type "tuple") := by decide +kernel
theorem b_all : bootBuiltins "all" = some (.builtin "all") := by decide +kernel
theorem b_min : bootBuiltins "min" = some (.builtin "min") := by decide +kernel
theorem b_max : bootBuiltins "max" = some (.builtin "max") := by decide +kernel
theorem i_int : isiOk "int" = true := by decide +kernel
theorem i_bool : isiOk "bool" = true := by decide +kernel
theorem i_str : isiOk "str" = true := by decide +kernel
theorem i_tuple : isiOk "tuple" = true := by decide +kernel
end Dd

namespace Dd
open PySem PySem.Spec L2
def gsNil : List D → M Unit
  | [] => mPure ()
  | _ => mStuck
def mLstN (ms : M (List D)) : M (List D) := mBind ms fun ds => mLift (if fit ds.length = true then some ds else none)
section
variable {X : Cx} {W : WX} {K : PySem.W.Frag}
theorem dgsNil2 : PGs X [] (tGs X.K W gsNil) := PGs.imp pgs_nil (by
  rintro vs σ H Q ⟨c, F, ρ, ds, ok, r, h⟩
  cases r with
  | nil => exact ⟨rfl, h σ H F ok (Same.refl F)⟩
  | cons _ _ => exact h.elim)
end
end Dd

namespace Dd
open PySem PySem.Spec L2
/-! ### a def by its body, its scope and its statements spelled out -/
section
variable {P : Program} {w : World} {K : PySem.W.Frag} {mg : Str → Option Value} {base : Heap} {x qual : Str} {st : Stmt} {f : Addr} {fd : FuncData} {N ps : List Str} {k : Nat} {m : M Fl} {sc : Scope} {bd : List Stmt}
end
end Dd

namespace Dd
open PySem PySem.Spec L2
/-! ### reasoning about runs -/
theorem bind_is {α β : Type} {m : M α} {f : α → M β} {ρ ρ' : En} {a : α} (h : m ρ = some (.ok a ρ')) : mBind m f ρ = f a ρ' := by
  unfold mBind; rw [h]
theorem seq_nx {m1 m2 : M Fl} {ρ ρ' : En} (h : m1 ρ = some (.ok .nx ρ')) : mSeq m1 m2 ρ = m2 ρ' := bind_is h
/-- a loop by an invariant over its turns; no turn leaves it -/
theorem forL_ix {g : D → M Unit} {body : M Fl} (P : Nat → En → Prop) : ∀ (ds : List D) (i : Nat) (ρ : En), P i ρ →
    (∀ j d ρ, ds[j]? = some d → P (i + j) ρ → ∃ ρ1 ρ2, g d ρ = some (.ok () ρ1) ∧ (body ρ1 = some (.ok .nx ρ2) ∨ body ρ1 = some (.ok .ct ρ2)) ∧ P (i + j + 1) ρ2) →
    ∃ ρ', mForL g body ds ρ = some (.ok .nx ρ') ∧ P (i + ds.length) ρ'
  | [], i, ρ, p, _ => ⟨ρ, rfl, p⟩
  | d :: ds, i, ρ, p, h => by
    obtain ⟨ρ1, ρ2, e1, e2, p2⟩ := h 0 d ρ rfl p
    obtain ⟨ρ', e3, p3⟩ := forL_ix P ds (i + 1) ρ2 p2 fun j d' ρ' e q => by
      obtain ⟨a, b, c1, c2, c3⟩ := h (j + 1) d' ρ' (by simpa using e) (by rw [show i + (j + 1) = i + 1 + j from by omega]; exact q)
      exact ⟨a, b, c1, c2, by rw [show i + 1 + j + 1 = i + (j + 1) + 1 from by omega]; exact c3⟩
    refine ⟨ρ', ?_, by rw [List.length_cons, show i + (ds.length + 1) = i + 1 + ds.length from by omega]; exact p3⟩
    unfold mForL
    rw [bind_is e1]
    rcases e2 with e2 | e2 <;> (rw [bind_is e2]; exact e3)
theorem forL_inv {g : D → M Unit} {body : M Fl} (P : En → Prop) (ds : List D) (ρ : En) (p : P ρ)
    (h : ∀ d ρ, d ∈ ds → P ρ → ∃ ρ1 ρ2, g d ρ = some (.ok () ρ1) ∧ (body ρ1 = some (.ok .nx ρ2) ∨ body ρ1 = some (.ok .ct ρ2)) ∧ P ρ2) :
    ∃ ρ', mForL g body ds ρ = some (.ok .nx ρ') ∧ P ρ' := by
  obtain ⟨ρ', e, q⟩ := forL_ix (fun _ => P) ds 0 ρ p fun j d ρ e q => h d ρ (List.mem_of_getElem? e) q
  exact ⟨ρ', e, q⟩
theorem comp_is {vs : List Nat} {mi : M (List D)} {g : D → M Unit} {tt : M Bool} {te : M D} {ρ ρ1 ρe : En} {ds out : List D} (h1 : mi ρ = some (.ok ds ρ1)) (h2 : fit ds.length = true) (h3 : mGo vs g tt te ds (unsE ρ1 vs) = some (.ok out ρe)) :
    mComp vs mi g tt te ρ = some (.ok out (unsE ρe vs)) := by
  unfold mComp
  rw [bind_is h1]
  unfold mRest
  rw [h3]
  simp only [if_pos h2]
theorem atI_nat' {α : Type} {xs : List α} {i : Int} {v : α} (h0 : 0 ≤ i) (h : xs[i.toNat]? = some v) : atI xs i = some v := by
  have := atI_nat h
  rwa [Int.toNat_of_nonneg h0] at this
theorem rngL_mem {lo hi : Int} {d : D} (h : d ∈ rngL lo hi) : ∃ i : Int, d = .int i ∧ lo ≤ i ∧ i < hi := by
  obtain ⟨i, e⟩ := List.getElem?_of_mem h
  obtain ⟨e1, e2⟩ := rngL_get e
  exact ⟨_, e1, by omega, by omega⟩
def isiS (T t : String) : Bool := match kitB t T with
  | some b => b
  | none => false
theorem isiT_eq {T : String} {d : D} : isiT T d = isiS T (typD d) := rfl
theorem isi_int_NoneType : isiS "int" "NoneType" = false := by decide +kernel
theorem isi_int_bool : isiS "int" "bool" = true := by decide +kernel
theorem isi_int_int : isiS "int" "int" = true := by decide +kernel
theorem isi_int_str : isiS "int" "str" = false := by decide +kernel
theorem isi_int_list : isiS "int" "list" = false := by decide +kernel
theorem isi_int_tuple : isiS "int" "tuple" = false := by decide +kernel
theorem isi_int_dict : isiS "int" "dict" = false := by decide +kernel
theorem isi_int_dictT {kvs : List (D × D)} : isiS "int" (dictT kvs) = false := by
  unfold dictT
  split <;> decide +kernel
theorem isi_bool_NoneType : isiS "bool" "NoneType" = false := by decide +kernel
theorem isi_bool_bool : isiS "bool" "bool" = true := by decide +kernel
theorem isi_bool_int : isiS "bool" "int" = false := by decide +kernel
theorem isi_bool_str : isiS "bool" "str" = false := by decide +kernel
theorem isi_bool_list : isiS "bool" "list" = false := by decide +kernel
theorem isi_bool_tuple : isiS "bool" "tuple" = false := by decide +kernel
theorem isi_bool_dict : isiS "bool" "dict" = false := by decide +kernel
theorem isi_bool_dictT {kvs : List (D × D)} : isiS "bool" (dictT kvs) = false := by
  unfold dictT
  split <;> decide +kernel
theorem isi_str_NoneType : isiS "str" "NoneType" = false := by decide +kernel
theorem isi_str_bool : isiS "str" "bool" = false := by decide +kernel
theorem isi_str_int : isiS "str" "int" = false := by decide +kernel
theorem isi_str_str : isiS "str" "str" = true := by decide +kernel
theorem isi_str_list : isiS "str" "list" = false := by decide +kernel
theorem isi_str_tuple : isiS "str" "tuple" = false := by decide +kernel
theorem isi_str_dict : isiS "str" "dict" = false := by decide +kernel
theorem isi_str_dictT {kvs : List (D × D)} : isiS "str" (dictT kvs) = false := by
  unfold dictT
  split <;> decide +kernel
theorem isi_list_NoneType : isiS "list" "NoneType" = false := by decide +kernel
theorem isi_list_bool : isiS "list" "bool" = false := by decide +kernel
theorem isi_list_int : isiS "list" "int" = false := by decide +kernel
theorem isi_list_str : isiS "list" "str" = false := by decide +kernel
theorem isi_list_list : isiS "list" "list" = true := by decide +kernel
theorem isi_list_tuple : isiS "list" "tuple" = false := by decide +kernel
theorem isi_list_dict : isiS "list" "dict" = false := by decide +kernel
theorem isi_list_dictT {kvs : List (D × D)} : isiS "list" (dictT kvs) = false := by
  unfold dictT
  split <;> decide +kernel
theorem isi_tuple_NoneType : isiS "tuple" "NoneType" = false := by decide +kernel
theorem isi_tuple_bool : isiS "tuple" "bool" = false := by decide +kernel
theorem isi_tuple_int : isiS "tuple" "int" = false := by decide +kernel
theorem isi_tuple_str : isiS "tuple" "str" = false := by decide +kernel
theorem isi_tuple_list : isiS "tuple" "list" = false := by decide +kernel
theorem isi_tuple_tuple : isiS "tuple" "tuple" = true := by decide +kernel
theorem isi_tuple_dict : isiS "tuple" "dict" = false := by decide +kernel
theorem isi_tuple_dictT {kvs : List (D × D)} : isiS "tuple" (dictT kvs) = false := by
  unfold dictT
  split <;> decide +kernel
theorem isi_dict_NoneType : isiS "dict" "NoneType" = false := by decide +kernel
theorem isi_dict_bool : isiS "dict" "bool" = false := by decide +kernel
theorem isi_dict_int : isiS "dict" "int" = false := by decide +kernel
theorem isi_dict_str : isiS "dict" "str" = false := by decide +kernel
theorem isi_dict_list : isiS "dict" "list" = false := by decide +kernel
theorem isi_dict_tuple : isiS "dict" "tuple" = false := by decide +kernel
theorem isi_dict_dict : isiS "dict" "dict" = true := by decide +kernel
theorem sh_int (i : Int) : SeqAt.shaped (.int i) = true := by simp [SeqAt.shaped, PyData.canLay0, PyData.depth]
theorem eq_int (i j : Int) : eqD (.int i) (.int j) = some (.bool (decide (i = j))) := by
  have e : PyData.eqv (.int i) (.int j) = decide (i = j) := by
    simp only [PyData.eqv]
    by_cases h : i = j <;> simp [h]
  simp [eqD, sh_int, e]
/-- data whose lists go at most n deep, all texts laid -/
def Sh (n : Nat) (d : D) : Prop := d.canLay0 = true ∧ d.depth ≤ n
theorem Sh.shaped {n : Nat} {d : D} (h : Sh n d) (hn : n ≤ 64) : SeqAt.shaped d = true := by
  simp only [SeqAt.shaped, Bool.and_eq_true, decide_eq_true_eq]
  exact ⟨h.1, by have := h.2; omega⟩
theorem Sh.mono {n m : Nat} {d : D} (h : Sh n d) (hn : n ≤ m) : Sh m d := ⟨h.1, Nat.le_trans h.2 hn⟩
theorem Sh.int (i : Int) : Sh 0 (.int i) := ⟨by simp [PyData.canLay0], by simp [PyData.depth]⟩
theorem Sh.bool (i : Bool) : Sh 0 (.bool i) := ⟨by simp [PyData.canLay0], by simp [PyData.depth]⟩
theorem Sh.none : Sh 0 .none := ⟨by simp [PyData.canLay0], by simp [PyData.depth]⟩
theorem sh_all {n : Nat} : ∀ {ds : List D}, (∀ d ∈ ds, Sh n d) → PyData.canLayAll0 ds = true ∧ PyData.depthAll ds ≤ n
  | [], _ => ⟨by simp [PyData.canLayAll0], by simp [PyData.depthAll]⟩
  | d :: ds, h => by
    obtain ⟨a, b⟩ := h d List.mem_cons_self
    obtain ⟨a', b'⟩ := sh_all (ds := ds) fun x hx => h x (List.mem_cons_of_mem _ hx)
    refine ⟨by simp only [PyData.canLayAll0, a, a', Bool.and_self], ?_⟩
    simp only [PyData.depthAll]
    omega
theorem Sh.list {n : Nat} {ds : List D} (h : ∀ d ∈ ds, Sh n d) : Sh (n + 1) (.list ds) := by
  obtain ⟨a, b⟩ := sh_all h
  exact ⟨by simp only [PyData.canLay0, a], by simp only [PyData.depth]; omega⟩
theorem Sh.tuple {n : Nat} {ds : List D} (h : ∀ d ∈ ds, Sh n d) : Sh (n + 1) (.tuple ds) := by
  obtain ⟨a, b⟩ := sh_all h
  exact ⟨by simp only [PyData.canLay0, a], by simp only [PyData.depth]; omega⟩
theorem Sh.ints (ns : List Int) : Sh 1 (.list (ns.map PyData.int)) := Sh.list fun d hd => by
  obtain ⟨i, _, rfl⟩ := List.mem_map.mp hd
  exact Sh.int i
theorem eq_sh {n m : Nat} {a b : D} (ha : Sh n a) (hb : Sh m b) (hn : n ≤ 64) (hm : m ≤ 64) : eqD a b = some (.bool (PyData.eqv a b)) := by
  simp [eqD, ha.shaped hn, hb.shaped hm]
theorem ne_sh {n m : Nat} {a b : D} (ha : Sh n a) (hb : Sh m b) (hn : n ≤ 64) (hm : m ≤ 64) : neD a b = some (.bool (!PyData.eqv a b)) := by
  simp [neD, ha.shaped hn, hb.shaped hm]
theorem rng1_is {ms : M (List D)} {ρ ρ1 : En} {j : Int} (h : ms ρ = some (.ok [.int j] ρ1)) (hj : rngOk j = true) : mRng1 ms ρ = some (.ok (rngL 0 j) ρ1) := by
  unfold mRng1
  rw [bind_is h]
  have e : rngD1 [.int j] = some (rngL 0 j) := by
    show (if rngOk j = true then some (rngL 0 j) else none) = _
    rw [hj]; rfl
  rw [e]; rfl
theorem rngOk_le {i : Int} (h0 : -1000000000000 ≤ i) (h1 : i ≤ 1000000000000) : rngOk i = true := by
  unfold rngOk
  exact decide_eq_true (by omega)
end Dd

namespace Dd
open PySem PySem.Spec L2
section
variable {X : Cx} {W : WX} {K : PySem.W.Frag}
variable {a : Expr} {m : M D} {p pos tpos : Pos} {es : List Expr} {Ts : List String} {k : Nat}
end
/-! ### a def that calls itself -/
section
variable {P : Program} {w : World} {K : PySem.W.Frag} {mg : Str → Option Value} {base : Heap} {j n : Nat} {f : Addr} {fd : FuncData} {ps : List Str}
end
end Dd

namespace Dd
open PySem PySem.Spec L2
open Classical in
section
variable {X : Cx} {K : PySem.W.Frag}
end
section
variable {K : PySem.W.Frag}
end
end Dd

namespace Dd
open PySem PySem.Spec L2
/-! ### a, b = a new list, a constant -/
section
variable {X : Cx} {W : WX} {K : PySem.W.Frag} {σ : St} {H : Hp} {i j : Nat} {x y : Str} {a b : Expr} {mn : M (List D)} {px py pt pos : Pos} {kt k2 : Nat} {pt2 : Pos} {v : V} {d : D}
def mParNC (i j : Nat) (mn : M (List D)) (d : D) : M Fl := mBind mn fun out => mBind (mStoreO i out) fun _ => mBind (mStore j d) fun _ => mDone
end
/-! ### range, downwards -/
section
variable {X : Cx} {W : WX} {K : PySem.W.Frag} {tg a b e : Expr} {ms : M (List D)} {p pos : Pos}
end
end Dd

namespace Dd
open PySem PySem.Spec L2
/-! ### *e in a display -/
section
variable {X : Cx} {W : WX} {K : PySem.W.Frag} {a : Expr} {es : List Expr} {p : Pos} {ma : M D} {mr : M (List D)}
def mStar (ma : M D) (mr : M (List D)) : M (List D) := mBind ma fun d => mBind (mLift (itemsD d)) fun xs => mBind mr fun ys => mPure (xs ++ ys)
theorem dStar (ha : PE X a (tP X.K W ma)) (hr : PA X es (tA X.K W mr)) (hs : starEach (.Starred a p :: es) X.env = (true, eval a X.env) :: starEach es X.env := by rfl) : PA X (.Starred a p :: es) (tA X.K W (mStar ma mr)) := by
  refine PA.imp (StX.pa_star ha hr hs) ?_
  rintro σ H Q ⟨c, F, ρ, ok, h⟩
  refine ⟨c, F, ρ, ok, post_mono ?_ (post_bind h)⟩
  rintro d H1 F1 _ ⟨ρ1, ok1, s1, h1⟩ v rv
  have main : ∀ (q : Addr) (vs : List V) (ds : List D), v = .ref q → (SqT X.K H1 q vs ∨ SqL X.K H1 q vs) → DpAll X.K F1 vs ds → post X.K W c σ F1 (qA X.K Q) ((mBind mr fun ys => mPure (ds ++ ys)) ρ1) → ∃ p xs, v = V.ref p ∧ (SqT X.K H1 p xs ∨ SqL X.K H1 p xs) ∧ tA X.K W mr σ H1 fun ys H2 => Q (xs ++ ys) H2 := by
    intro q vs ds hv hq hd h2
    refine ⟨q, vs, hv, hq, c, F1, ρ1, ok1, post_mono ?_ (post_bind h2)⟩
    rintro ys H2 F2 _ ⟨ρ2, ok2, s2, h3⟩ ws rw'
    exact post_ok (W := W) h3 ok2 _ (DpAll.append (DpAll.mono s2 hd) rw')
  cases d with
  | list ds =>
    obtain ⟨q, vs, rfl, hp, dp⟩ := Pk.lst ok1.sub rv
    exact main q vs ds rfl (.inr hp) dp h1
  | tuple ds =>
    obtain ⟨q, vs, rfl, hp, dp⟩ := Pk.tup ok1.sub rv
    exact main q vs ds rfl (.inl hp) dp h1
  | _ => exact (h1 : False).elim
end
end Dd

namespace Dd
open PySem PySem.Spec L2
/-! ### a, b, .. = a list -/
section
variable {X : Cx} {W : WX} {pos : Pos}
end
end Dd

namespace Dd
open PySem PySem.Spec L2 PySem.W
section
variable {X : Cx}
variable {W : WX} {a : Expr} {m : M D} {p pos kp np : Pos} {jj : Nat}
end
end Dd

namespace Dd
open PySem PySem.Spec L2
/-! ### slices -/
def cutL (ds : List D) (lo hi : Option Int) : List D := (ds.drop (HT.sIx ds.length 0 lo)).take (HT.sIx ds.length ds.length hi - HT.sIx ds.length 0 lo)
def slD : D → Option Int → Option Int → Option D
  | .list ds, lo, hi => some (.list (cutL ds lo hi))
  | .tuple ds, lo, hi => some (.tuple (cutL ds lo hi))
  | .str z, lo, hi => if fit z.length = true then some (.str (cutS z lo hi)) else none
  | _, _, _ => none
def intO : D → Option (Option Int)
  | .int i => some (some i)
  | _ => none
def mNoPart : M (Option Int) := mPure none
def mPart (m : M D) : M (Option Int) := mBind m fun d => mLift (intO d)
section
variable {X : Cx} {W : WX} {K : PySem.W.Frag} {σ : St} {H F : Hp} {ρ : En} {c : Ct}
def tO (K : PySem.W.Frag) (W : WX) (m : M (Option Int)) : TO := fun σ H Q => ∃ c F ρ, Ok K c σ H F ρ ∧ post K W c σ F (fun o H' _ => Q o H') (m ρ)
theorem PO.imp {e : Option Expr} {t t' : TO} (h : PO X e t) (k : ∀ σ H Q, t' σ H Q → t σ H Q) : PO X e t' := ⟨fun pins s σ H Q I q => h.run pins s σ H Q I (k σ H Q q)⟩
theorem dNoPart : PO X none (tO X.K W mNoPart) := PO.imp po_none (by
  rintro σ H Q ⟨c, F, ρ, ok, h⟩
  exact post_ok h ok)
theorem dPart {e : Expr} {m : M D} (h : PE X e (tE X.K W m)) : PO X (some e) (tO X.K W (mPart m)) := PO.imp (po_some h) (by
  rintro σ H Q ⟨c, F, ρ, ok, h⟩
  refine ⟨c, F, ρ, ok, post_mono ?_ (post_bind h)⟩
  rintro d H1 F1 _ ⟨ρ1, ok1, s1, h1⟩ v rv
  obtain ⟨o, e, h2⟩ := post_lift h1
  cases d with
  | int i =>
    cases e
    cases rv
    exact ⟨i, rfl, post_ok h2 ok1⟩
  | _ => cases e)
theorem DpAll.cut {vs : List V} {ds : List D} (h : DpAll K F vs ds) (lo hi : Option Int) : DpAll K F (cutV vs lo hi) (cutL ds lo hi) := by
  unfold cutV cutL
  rw [DpAll.length h]
  exact DpAll.take _ (DpAll.drop _ h)
def rSlAll (K : PySem.W.Frag) : V → Option Int → Option Int → Hp → VK → Prop := fun x lo hi H Q => rSlL K x lo hi H Q ∨ (rSlA K x lo hi H Q ∨ rSlS x lo hi H Q)
theorem sl_all' : SlR X (rSlAll X.K) := SlR.or sl_list (SlR.or sl_tupA sl_str)
theorem cutL_whole {ds : List D} {lo hi : Option Int} (h : HT.sIx ds.length 0 lo = 0 ∧ HT.sIx ds.length ds.length hi = ds.length) : cutL ds lo hi = ds := by
  unfold cutL
  rw [h.1, h.2]
  simp
theorem sl_of {W : WX} {x : V} {a d : D} {lo hi : Option Int} {Q : VK} (ok : Ok K c σ H F ρ) (rx : Pk K H F x a) (e : slD a lo hi = some d) (q : post K W c σ F (qE K Q) (some (.ok d ρ))) : rSlAll K x lo hi H Q := by
  cases a with
  | list ds =>
    cases e
    obtain ⟨p, vs, rfl, hp, dp⟩ := Pk.lst ok.sub rx
    exact .inl ⟨p, vs, rfl, hp, fun p hp => new_lst ok (DpAll.cut dp lo hi) q p hp⟩
  | tuple ds =>
    cases e
    obtain ⟨p, vs, rfl, hp, dp⟩ := Pk.tup ok.sub rx
    refine .inr (.inl ⟨p, vs, rfl, hp, fun z => ?_, fun _ p hp => new_tup ok (DpAll.cut dp lo hi) q p hp⟩)
    rw [DpAll.length dp] at z
    rw [cutL_whole z] at q
    rcases rx with rx | ⟨_, _, _, _, e, _⟩
    · exact post_ok q ok _ rx
    · cases e
  | str z =>
    unfold slD at e
    dsimp only at e
    split at e
    · rename_i hf
      cases e
      exact .inr (.inr ⟨z, rx.str, fit_le hf, post_ok q ok _ (.str _)⟩)
    · cases e
  | _ => cases e
def mSl (ma : M D) (ml mh : M (Option Int)) : M D := mBind ma fun a => mBind ml fun l => mBind mh fun h => mLift (slD a l h)
def mSlL (i : Nat) (ml mh : M (Option Int)) : M D := mBind (mPeek i) fun _ => mBind ml fun l => mBind mh fun h => mBind (mPeek i) fun a => mLift (slD a l h)
variable {ma : M D} {ml mh : M (Option Int)} {a : Expr} {lo hi : Option Expr} {pos p2 : Pos}
theorem tSl_ofL {i : Nat} {Q : VK} (h : tE K W (mSlL i ml mh) σ H Q) : tSl (rSlAll K) (tVar i) (tO K W ml) (tO K W mh) σ H Q := by
  obtain ⟨c, F, ρ, ok, h⟩ := h
  obtain ⟨v, _, ev, _, h⟩ := post_peek ok h
  refine ⟨v, ev, c, F, ρ, ok, post_mono ?_ (post_bind h)⟩
  rintro l H2 F2 _ ⟨ρ2, ok2, s2, h2⟩
  refine ⟨c, F2, ρ2, ok2, post_mono ?_ (post_bind h2)⟩
  rintro u H3 F3 _ ⟨ρ3, ok3, s3, h3⟩
  obtain ⟨v', a, ev', pk, h3⟩ := post_peek ok3 h3
  obtain ⟨d, e, h4⟩ := post_lift h3
  have ee : v' = v := by rw [ev] at ev'; cases ev'; rfl
  subst ee
  exact sl_of ok3 pk e h4
theorem dSlL {i : Nat} (ha : PE X a (tVar i)) (hl : PO X lo (tO X.K W ml)) (hh : PO X hi (tO X.K W mh)) : PE X (.Subscript a (.Slice lo hi none p2) pos) (tE X.K W (mSlL i ml mh)) := PE.imp (pe_slice sl_all' ha hl hh) fun _ _ _ => tSl_ofL
/-! .. of a list, a new one -/
def slN : D → Option Int → Option Int → Option (List D)
  | .list ds, lo, hi => some (cutL ds lo hi)
  | _, _, _ => none
def mSlN (ma : M D) (ml mh : M (Option Int)) : M (List D) := mBind ma fun a => mBind ml fun l => mBind mh fun h => mLift (slN a l h)
def mSlNL (i : Nat) (ml mh : M (Option Int)) : M (List D) := mBind (mPeek i) fun _ => mBind ml fun l => mBind mh fun h => mBind (mPeek i) fun a => mLift (slN a l h)
/-! ### a list turned round -/
def revO : D → Option (List D)
  | .list ds => some ds.reverse
  | _ => none
def mRevN (m : M D) : M (List D) := mBind m fun d => mLift (revO d)
variable {k : Nat} {p1 p3 : Pos}
theorem dRevN (ha : PE X a (tP X.K W ma)) : PE X (.Subscript a (.Slice none none (some (.UnaryOp .USub (.Constant (.int 1) k p1) p2)) p3) pos) (tN X.K W (mRevN ma)) := PE.imp (pe_revL ha) (by
  rintro σ H Q ⟨c, F, ρ, ok, h⟩
  refine ⟨c, F, ρ, ok, post_mono ?_ (postN_bind h)⟩
  rintro a H1 F1 _ ⟨ρ1, ok1, s1, h1⟩ x rx
  obtain ⟨ds, e, h2⟩ := postN_lift h1
  cases a with
  | list es =>
    cases e
    obtain ⟨p, vs, rfl, hp, dp⟩ := Pk.lst ok1.sub rx
    exact ⟨p, vs, rfl, hp, fun p hp => new_N ok1 (DpAll.reverse dp) h2 p hp⟩
  | _ => cases e)
end
end Dd

namespace Dd
open PySem PySem.Spec L2 PyProof.Rows
/-! ### the law's own def, at the caller that calls it: there nothing is being shown (no guard stands) -/
def LawFn (P : Program) (w : World) (K : PySem.W.Frag) (mg : Str → Option Value) (base : Heap) (f : Addr) (fd : FuncData) (p : Str) (k : Nat) (g : List Int → Option (Rs D)) : Prop :=
  ∀ (s : Shared) (H : Hp) (a : Addr) (ns : List Int), Room k callerA → Env0 P w K mg base callerA [] s H → BindsTo s fd ⟨[.ref a], []⟩ [(p, .ref a)] → SqL K H a (ns.map V.int) → g ns = some (.ok (.bool true)) →
    codeAny (model P w) callerA (.call (.ref f) ⟨[.ref a], []⟩) (CR (L2.CX P w) [] P w H s (fun v _ => v = .bl true) fun _ _ _ => False) s
section
variable {P : Program} {w : World} {K : PySem.W.Frag} {mg : Str → Option Value} {base : Heap} {x qual p : Str} {st : Stmt} {f : Addr} {fd : FuncData} {N : List Str} {k : Nat} {m : M Fl} {sc : Scope} {bd : List Stmt}
abbrev BodyG (P : Program) (w : World) (K : PySem.W.Frag) (mg : Str → Option Value) (base : Heap) (qual : Str) (sc : Scope) (bd : List Stmt) (f : Addr) (N : List Str) (k : Nat) (m : M Fl) : Prop :=
  ∀ (cdv : Value) (s : Shared) (H : Hp) (E : XK), Room k (callerA.deeper (envOfC qual sc s.heap.objs.size f cdv)) →
    PSs (cxOf (L2.CX P w) P w K mg base N qual sc f cdv callerA [] s H E) bd (tS K (fun cls d _ H => E cls d H) m)
theorem lawFn_of (Fn : Fun K x qual st f fd) (S : FnScope N [p] (defScope st)) (h1 : defScope st = sc) (h2 : defBody st = bd) (hb : BodyG P w K mg base qual sc bd f N k m) : LawFn P w K mg base f fd p (k + 1) (runL m N.length) := by
  subst h1 h2
  intro s H a ns room e0 bind sq done
  obtain ⟨oc, od, kV, doc, pm, an, cdv, ct, osl, rfl, at_f, code⟩ := Fn.ex
  have inK : K.In s.heap := e0.mod.kin.keeps fun b o e => (e0.bs b o e).1
  have par : ∀ y ∈ [(p, Value.ref a)], (defScope st).names.lookup y.1 = some .local ∨ ((defScope st).names.lookup y.1 = some .cell ∧ ((cellsFrom (s.heap.objs.size + 1) (defScope st).names []).lookup y.1).isSome = true) := by
    intro y hy
    rw [List.mem_singleton.mp hy]
    exact (S.par p (by simp)).imp id fun z => ⟨z, PySem.W.cellsFrom_some _ _ _ (.inl z)⟩
  refine codeAny_call_function room.depth (inK _ _ at_f) rfl S.co S.gen rfl (PySem.W.codeRec_of inK code) (bind _ _ _ _ ?_)
  refine wpAny_newFunctionEnv_cells S.kind par ?_
  rintro env rfl s1 y
  have nolim : s.heap.NoLimit := e0.mod.nolimit.keeps fun b o e => (e0.bs b o e).1
  refine ⟨nolim.keeps y.toInCall.keep, codeAny_func ?_⟩
  have run := hb cdv s H (fun _ _ _ => False) (room.deeper _)
  have J := inv_start (CX := L2.CX P w) (qual := qual) (f := f) (cd := cdv) (E := fun _ _ _ => False) (vs := [V.ref a]) S room.hd e0 rfl (.cons rfl .nil) y
  have goal : tS K (fun cls d _ H => (fun _ _ _ => False : XK) cls d H) m { nx := fun _ H' => (fun v (_ : Hp) => v = V.bl true) .non H', rt := fun v _ => v = V.bl true } (L2.start N [V.ref a]) H := by
    refine ⟨_, fun _ => none, _, startS_ok (F := fun _ => none) (ds := []) (fun b o e => by cases e) sq .nil (FnScope.le S), ?_⟩
    unfold runL at done
    cases e : m (env0S N.length ns []) with
    | none => rw [e] at done; cases done
    | some q =>
      rw [e] at done
      match q, done with
      | .ok (.rt d) ρ', done =>
        cases done
        intro σ' v H' F' _ _ rv
        cases rv
        rfl
      | .ok .nx ρ', done => cases done
      | .ok .bk ρ', done => cases done
      | .ok .ct ρ', done => cases done
      | .ok (.rf es) ρ', done => cases done
      | .ex z ρ', done => cases done
  refine wpAny_mono (run.run [] s1 _ H _ J goal) ?_ fun e s' hs => hs
  intro fl s' hs
  match fl, hs with
  | .ret u, ⟨v, σ', H', J', rv, q⟩ => exact ⟨v, H', J'.os, J'.bare, J'.base, J'.hok, rv, q⟩
  | .next, ⟨σ', H', J', q⟩ => exact ⟨V.non, H', J'.os, J'.bare, J'.base, J'.hok, rfl, q⟩
  | .brk, ⟨_, _, _, q⟩ => exact q.elim
  | .cont, ⟨_, _, _, q⟩ => exact q.elim
end
section
variable {P : Program} {w : World} {K : PySem.W.Frag} {mg mb : Str → Option Value} {f a : Addr} {fd : FuncData} {p : Str} {k : Nat} {g : List Int → Option (Rs D)} {s : Shared} {us : List Value} {ns : List Int}
/-- the script's object -/
def scrO (us : List Value) : Obj := { cls := .type "list", data := .seq us.toArray }
/-- what is tracked: nothing, or the script alone -/
structure Trk (K : PySem.W.Frag) (h : Heap) (a : Addr) (us : List Value) (ns : List Int) (H : Hp) : Prop where
  only : ∀ b u, H b = some u → b = a ∧ u = .frz (scrO us) (.lst (ns.map V.int)) ∧ K.lookup a = none
  seq : SqL K H a (ns.map V.int)
theorem trk_free {h : Heap} {H : Hp} (T : Trk K h a us ns H) {b : Addr} (e : b ≠ a ∨ K.lookup a ≠ none) : H b = none := by
  cases q : H b with
  | none => rfl
  | some u =>
    obtain ⟨z, _, l⟩ := T.only b u q
    rcases e with e | e
    · exact absurd z e
    · exact absurd l e
theorem trk_ex (inK : K.In s.heap) (obj : s.heap.get? a = some (scrO us)) (hints : IntsAre us ns) (fits : ns.length ≤ sizeLine) : ∃ H, Trk K s.heap a us ns H ∧ HOk P w H s.heap := by
  have vals := vals_ints hints
  have len := hints.length
  by_cases hk : K.lookup a = none
  · refine ⟨fun b => if b = a then some (.frz (scrO us) (.lst (ns.map V.int))) else none, ⟨fun b u e => ?_, .inl (.inr ⟨scrO us, if_pos rfl⟩)⟩, fun b u e => ?_⟩
    · by_cases hb : b = a
      · rw [if_pos hb] at e
        exact ⟨hb, (Option.some.inj e).symm, hk⟩
      · rw [if_neg hb] at e; cases e
    · by_cases hb : b = a
      · subst hb
        dsimp only at e
        rw [if_pos rfl] at e
        cases e
        exact ⟨obj, by rw [List.length_map]; exact fits, us, _, vals, obj⟩
      · dsimp only at e
        rw [if_neg hb] at e; cases e
  · obtain ⟨o, ho⟩ := Option.ne_none_iff_exists'.mp hk
    have e := inK a o ho
    rw [obj] at e
    cases e
    exact ⟨fun _ => none, ⟨fun b u e => (by cases e), .inr ⟨_, us.toArray, _, ho, rfl, rfl, rfl, by rw [List.size_toArray, len]; exact fits, by simpa using vals⟩⟩, fun b u e => (by cases e)⟩
theorem law_run (inK : K.In s.heap) (main : s.heap.Ns mainGlobals mg) (blt : s.heap.Ns builtinsNs mb) (boot : ∀ x : Str, x ≠ "__name__" → mb x = bootBuiltins x) (lim : s.heap.NoLimit) (gens : s.gens = #[])
    (obj : s.heap.get? a = some (scrO us)) (hints : IntsAre us ns) (fits : ns.length ≤ sizeLine) (room : Room k callerA)
    (F : ∀ base : Heap, K.In base → base.Ns mainGlobals mg → LawFn P w K mg base f fd p k g) (bind : ∀ (s : Shared) (u : Value), BindsTo s fd ⟨[u], []⟩ [(p, u)]) (done : g ns = some (.ok (.bool true))) :
    codeAny (model P w) callerA (.call (.ref f) ⟨[.ref a], []⟩) (fun r s' => r = .ok (.ret (.bool true)) ∧ OldK s.heap s'.heap ∧ s'.os = s.os ∧ AllBare s'.gens) s := by
  obtain ⟨H, T, ok⟩ := trk_ex (P := P) (w := w) inK obj hints fits
  have isList : ∀ {o : Obj}, s.heap.get? a = some o → ∀ es n, o.data ≠ .dict es n := fun {o} e es n d => by
    rw [obj] at e; cases e; cases d
  have shown : ∀ {b : Addr} {m : Str → Option Value}, s.heap.Ns b m → (hidT s.heap H).Ns b m := by
    rintro b m ⟨o, es, n, e, d, r⟩
    exact ⟨o, es, n, hidT_get e (trk_free T (.inl fun z => isList (z ▸ e) es n d)), d, r⟩
  have inKb : K.In (hidT s.heap H) := fun b o e => by
    refine hidT_get (inK b o e) (trk_free T ?_)
    by_cases z : b = a
    · exact .inr fun y => by rw [← z, e] at y; cases y
    · exact .inl z
  obtain ⟨mc, n1, n2⟩ := lim
  have mod : Mod K mg (hidT s.heap H) := ⟨inKb, shown main, ⟨mb, shown blt, boot⟩, ⟨mc, shown n1, n2⟩⟩
  have e0 : Env0 P w K mg (hidT s.heap H) callerA [] s H := ⟨rfl, mod, fun b o e => of_hidT e, (by rw [hidT_size]; exact Nat.le_refl _), trivial, fun b z => (by cases z), ok, .of_eq gens⟩
  refine codeAny_mono (F _ inKb (shown main) s H a ns room e0 (bind s (.ref a)) T.seq done) fun r s' h => ?_
  match r, h with
  | .error e, h => exact (hCX0 h).elim
  | .ok .next, h => exact h.elim
  | .ok .brk, h => exact h.elim
  | .ok .cont, h => exact h.elim
  | .ok (.ret u), ⟨v, H', os, bare, un, ok', rv, q⟩ =>
    subst q
    obtain rfl : u = Value.bool true := rv
    refine ⟨rfl, OldK.of_keep fun b o e => ?_, os, bare⟩
    cases y : H b with
    | none => exact un.keep b o e y (fun z => by cases z) fun z => by cases z
    | some u =>
      obtain ⟨rfl, rfl, _⟩ := T.only b u y
      have z := (ok' b _ (un.frzs b _ _ y)).1
      rw [obj] at e
      cases e
      exact z
end
theorem walk_ofG {l : PySem.W.OpenLaw} {n k : Nat} {q : Program} {loose : List Str} {XP : (Str → Option Value) → Heap → Prop} {YP : World → Heap → Prop} {d : DefRec} {K : Params → PySem.W.Frag} {p : Str} {g : List Int → Option (Rs D)}
    (most : l.most = some n) (small : n ≤ sizeLine) (noDef : d.params.defaults = []) (room : Room k callerA) (inK : ∀ (w : World) (h : Heap), YP w h → (K w.params).In h)
    (F : ∀ (w : World) (mg : Str → Option Value) (f : Addr) (h : Heap), (K w.params).In h → h.Ns mainGlobals mg → mg d.name = some (.ref f) →
      ∃ fd : FuncData, (∀ (s : Shared) (u : Value), BindsTo s fd ⟨[u], []⟩ [(p, u)]) ∧ ∀ base : Heap, (K w.params).In base → base.Ns mainGlobals mg → LawFn l.prog w (K w.params) mg base f fd p k g)
    (done : ∀ ns : List Int, ns.length ≤ n → g ns = some (.ok (.bool true))) : PySem.W.WalkO q loose XP YP l.row.toRowW d [] (fun f vs => PySem.call f vs) := by
  refine Att.attach_call most noDef ?_
  intro w s₀ s₁ mg mb f o pm cd doc a vs ns G Y _ _ _ hmg hobj hints hlen hg
  obtain ⟨fd, bind, hF⟩ := F w mg f _ (inK w _ Y) G.T.g hmg
  exact law_run (inK w _ Y) G.T.g G.T.b G.T.builtins G.T.nolimit hg hobj hints (Nat.le_trans hlen small) room hF bind (done ns hlen)
/-! ### what is shown: repr of anything that is read -/
section
variable {X : Cx} {K : PySem.W.Frag}
end
end Dd

namespace Dd
open PySem PySem.Spec L2 PyProof.Rows
/-! ### bits -/
section
variable {K : PySem.W.Frag}
def andD : D → D → Option D := iI fun i j => .int (Builtin.bitAnd i j)
def orD : D → D → Option D := iI fun i j => .int (Builtin.bitOr i j)
def xorD : D → D → Option D := iI fun i j => .int (Builtin.bitXor i j)
def cShr (_ j : Int) : Bool := decide (0 ≤ j)
def shrD : D → D → Option D := iIc cShr fun i j => .int (i / 2 ^ j.toNat)
def shlD : D → D → Option D := iIc cPow fun i j => .int (i * 2 ^ j.toNat)
end
/-! ### a slice by steps, of a list -/
def pickL {α : Type} (ds : List α) (lo hi st : Option Int) : List α := (sliceRange (sliceBounds lo hi st ds.length).1 (sliceBounds lo hi st ds.length).2.1 (sliceBounds lo hi st ds.length).2.2).filterMap (ds[·]?)
section
variable {K : PySem.W.Frag} {F : Hp}
end
section
variable {X : Cx} {e : Expr} {te : TE} {tl : TO} {lo : Option Expr} {k : Int} {j : Option Str} {p1 p3 pos : Pos}
end
def stepO (k : Int) : D → Option Int → Option (List D)
  | .list ds, lo => if fit (pickL ds lo none (some k)).length = true then some (pickL ds lo none (some k)) else none
  | _, _ => none
def mStepN (k : Int) (m : M D) (ml : M (Option Int)) : M (List D) := mBind m fun d => mBind ml fun l => mLift (stepO k d l)
section
variable {X : Cx} {W : WX} {e : Expr} {lo : Option Expr} {m : M D} {ml : M (Option Int)} {k : Int} {p1 p3 pos : Pos} {kk : Nat}
end
/-! ### list + list, a new one -/
def catN : D → D → Option (List D)
  | .list xs, .list ys => if fit (xs.length + ys.length) = true then some (xs ++ ys) else none
  | _, _ => none
def mCatN (ma mb : M D) : M (List D) := mBind ma fun a => mBind mb fun b => mLift (catN a b)
def mCatNL (i : Nat) (mb : M D) : M (List D) := mBind (mPeek i) fun _ => mBind mb fun b => mBind (mPeek i) fun a => mLift (catN a b)
section
variable {X : Cx} {W : WX} {K : PySem.W.Frag} {c : Ct} {σ : L2.St} {F H : Hp} {ρ : En} {ma mb : M D} {a b : Expr} {pos : Pos}
end
end Dd

namespace Dd
open PySem PySem.Spec L2 PyProof.Rows
section
variable {X : Cx} {K : PySem.W.Frag}
end
/-! ### a slice by steps of a list that stands in a slot -/
def mStepNL (k : Int) (i : Nat) (ml : M (Option Int)) : M (List D) := mBind (mPeek i) fun _ => mBind ml fun l => mBind (mPeek i) fun d => mLift (stepO k d l)
section
variable {X : Cx} {W : WX} {e : Expr} {lo : Option Expr} {ml : M (Option Int)} {k : Int} {p1 p3 pos : Pos} {kk : Nat}
end
end Dd

namespace Dd
open PySem PySem.Spec L2 PyProof.Rows
variable {K : PySem.W.Frag}
/-! ### zip of a list and a tuple, whichever is first -/
/-- a list (false) or a tuple (true), and an iterator of it -/
def SqB (K : PySem.W.Frag) : Bool → Hp → Addr → List V → Prop
  | false, H, a, xs => SqL K H a xs
  | true, H, a, xs => SqT K H a xs
def IsB : Bool → Heap → Addr → Array Value → Prop
  | false, h, a, its => h.IsList a its
  | true, h, a, its => h.IsTuple a its
def ItB : Bool → Heap → Addr → Addr → Nat → Prop
  | false, h, i, a, k => h.IsListIter i a k
  | true, h, i, a, k => h.IsTupleIter i a k
theorem ItB.at {b : Bool} {h h' : Heap} {i a : Addr} {k : Nat} (t : ItB b h i a k) (e : ∀ o, h.get? i = some o → h'.get? i = some o) : ItB b h' i a k := by
  cases b
  · exact Heap.IsListIter.at t e
  · exact Heap.IsTupleIter.at t e
theorem ItB.obj {b : Bool} {h : Heap} {i a : Addr} {k : Nat} (t : ItB b h i a k) : ∃ o, h.get? i = some o ∧ ∀ v, o.data ≠ .cell v := by
  cases b
  · obtain ⟨o, e, _, d⟩ := t
    exact ⟨o, e, fun v q => by rw [d] at q; cases q⟩
  · obtain ⟨o, e, _, d⟩ := t
    exact ⟨o, e, fun v q => by rw [d] at q; cases q⟩
theorem IsB.lt {b : Bool} {h : Heap} {a : Addr} {its : Array Value} (t : IsB b h a its) : a < h.objs.size := by
  cases b
  · obtain ⟨o, e, _⟩ := t
    exact Heap.lt_size e
  · obtain ⟨o, e, _⟩ := t
    exact Heap.lt_size e
theorem sqB_inv {X : Cx} {pins : List (Addr × Obj)} {σ : L2.St} {H : Hp} {s : Shared} {b : Bool} {a : Addr} {xs : List V} (I : Inv X pins σ H s) (h : SqB X.K b H a xs) : ∃ its : List Value, Vals xs its ∧ IsB b s.heap a its.toArray := by
  cases b
  · obtain ⟨its, rv, p, _⟩ := I.list h
    exact ⟨its, rv, p.isList⟩
  · obtain ⟨its, rv, p, _⟩ := I.tuple h
    exact ⟨its, rv, p⟩
theorem sqB_inj {X : Cx} {pins : List (Addr × Obj)} {σ : L2.St} {H : Hp} {s : Shared} {b : Bool} {a : Addr} {xs ys : List V} (I : Inv X pins σ H s) (h : SqB X.K b H a xs) (h' : SqB X.K b H a ys) : xs = ys := by
  cases b
  · exact I.list_inj h h'
  · exact I.tuple_inj h h'
theorem drawsB {prog : Program} {w : World} {A : Around} (hh : A.handled = none) (b : Bool) (it l : Addr) (hne : l ≠ it) (items : Array Value) :
    Draws prog w A it [it, l] items.size (fun i v => items[i]? = some v) (fun i h => ItB b h it l i ∧ IsB b h l items) := by
  cases b
  · exact Draws.list hh it l hne items
  · exact Draws.tuple hh it l hne items
theorem sepB {z TI TO i1 i2 a b : Addr} (D : ZipApart z TI TO i1 i2 a b) : ZipSep2 z TI TO i1 i2 [i1, a] [i2, b] where
  TIz := D.TIz
  TOz := D.TOz
  TITO := D.TITO
  TIi1 := D.TIi1
  mem1 := by simp
  zf1 := by simp [D.i1z.symm, D.l1z.symm]
  Tf1 := by simp [D.TOi1, D.l1TO.symm]
  TIi2 := D.TIi2
  mem2 := by simp
  zf2 := by simp [D.i2z.symm, D.l2z.symm]
  Tf2 := by simp [D.TOi2, D.l2TO.symm]
  sep1_2 := by simp [D.i12, D.l2i1.symm]
  sep2_1 := by simp [D.i12.symm, D.l1i2.symm]
/-- the items of both in new pairs -/
def Itzb (K : PySem.W.Frag) (b1 b2 : Bool) (a b : Addr) (n1 n2 : Nat) : It :=
  ⟨fun i H => ∃ (xs ys : List V) (x y : V), SqB K b1 H a xs ∧ SqB K b2 H b ys ∧ xs.length = n1 ∧ ys.length = n2 ∧ xs[i]? = some x ∧ ys[i]? = some y,
    fun i H v H' => ∃ T x y, v = .ref T ∧ H T = none ∧ H' = upd H T (.tup [x, y]) ∧ (∀ xs, SqB K b1 H a xs → xs[i]? = some x) ∧ ∀ ys, SqB K b2 H b ys → ys[i]? = some y,
    fun i H => ∃ xs ys : List V, SqB K b1 H a xs ∧ SqB K b2 H b ys ∧ xs.length = n1 ∧ ys.length = n2 ∧ (n1 ≤ i ∨ n2 ≤ i)⟩
theorem in1_handled {A : Around} (h : A.handled = none) : A.in1.handled = none := h
theorem turn_zipB {P : Program} {w : World} {elts : List Expr} {kk : Nat} {tpos : Pos} {b1 b2 : Bool} {a b z TI TO i1 i2 : Addr} {n1 n2 : Nat} (D : ZipApart z TI TO i1 i2 a b) :
    Turn P w K (.Tuple elts kk tpos) (Itzb K b1 b2 a b n1 n2) [z, TI, TO, i1, i2] z (fun i h => IsZip h z TI TO .none ∧ IsTupOf2 h TI (.ref i1) (.ref i2) ∧ (∃ x y, IsTupOf2 h TO x y) ∧ ItB b1 h i1 a i ∧ ItB b2 h i2 b i ∧ i ≤ n1 ∧ i ≤ n2) where
  mem := by simp
  obj := fun i h st c hc => by
    obtain ⟨hz, hTI, ⟨x, y, hTO⟩, h1, h2, hn1, hn2⟩ := st
    have e' : c = z ∨ c = TI ∨ c = TO ∨ c = i1 ∨ c = i2 := by simpa using hc
    rcases e' with rfl | rfl | rfl | rfl | rfl
    · exact ⟨_, hz, fun v q => nomatch q⟩
    · exact ⟨_, hTI, fun v q => nomatch q⟩
    · exact ⟨_, hTO, fun v q => nomatch q⟩
    · exact h1.obj
    · exact h2.obj
  keep := fun i h h' st k => by
    obtain ⟨hz, hTI, ⟨x, y, hTO⟩, h1, h2, hn1, hn2⟩ := st
    exact ⟨k z (by simp) _ hz, k TI (by simp) _ hTI, ⟨x, y, k TO (by simp) _ hTO⟩, h1.at fun o q => k i1 (by simp) o q, h2.at fun o q => k i2 (by simp) o q, hn1, hn2⟩
  item := by
    intro X hP hw hK hc i pins s σ H E I hf st hg
    subst hP hw hK
    obtain ⟨hz, hTI, ⟨x0, y0, hTO⟩, h1, h2, hn1, hn2⟩ := st
    obtain ⟨xs, ys, x, y, hqx, hqy, ln1, ln2, hx, hy⟩ := hg
    obtain ⟨its, rv, p⟩ := sqB_inv I hqx
    obtain ⟨its2, rv2, p2⟩ := sqB_inv I hqy
    obtain ⟨u, hu, ru⟩ := rv.get hx
    obtain ⟨u2, hu2, ru2⟩ := rv2.get hy
    have hzl : z < s.heap.objs.size := Heap.lt_size hz
    have hh := in1_handled (I.ok.hd hc)
    have lt1 : i < its.toArray.size := by
      have := (List.getElem?_eq_some_iff.mp hu).1
      simpa using this
    have lt2 : i < its2.toArray.size := by
      have := (List.getElem?_eq_some_iff.mp hu2).1
      simpa using this
    refine wpAny_pyNext_zipD2_item (sepB D) (drawsB hh b1 i1 a D.l1i1 its.toArray) (drawsB hh b2 i2 b D.l2i2 its2.toArray) hz hTI hTO ⟨h1, p⟩ ⟨h2, p2⟩ lt1 lt2 fun x1 x2 h' tk q1 q2 z' TO' d1 d2 hT hsz hk => ?_
    have ex1 : x1 = u := by
      have : its.toArray[i]? = some u := by simpa using hu
      rw [this] at q1
      exact (Option.some.inj q1).symm
    have ex2 : x2 = u2 := by
      have : its2.toArray[i]? = some u2 := by simpa using hu2
      rw [this] at q2
      exact (Option.some.inj q2).symm
    subst ex1 ex2
    refine ⟨_, rfl, wpAny_letOwnedTupleGo_zip (s := { s with heap := h', toks := tk }) z' fun h'' z'' sb => ?_⟩
    have hT2 : h''.get? s.heap.objs.size = some { cls := .type "tuple", data := .seq #[x1, x2] } := (sb.2 _ (Nat.ne_of_gt hzl)).trans hT
    have new : ObjOk X.prog X.w (upd H s.heap.objs.size (.tup [x, y])) h'' s.heap.objs.size (.tup [x, y]) :=
      ⟨by show 2 ≤ sizeLine; decide, [x1, x2], .cons ru (.cons ru2 .nil), ⟨_, hT2, rfl, _, rfl⟩⟩
    have I1 : Inv X pins σ (upd H s.heap.objs.size (.tup [x, y])) { s with heap := h'', toks := tk } :=
      I.turnedNew (t' := tk) (ch := [z, TI, TO, i1, i2]) (fun c o hb q => (sb.2 c (fun q' => hb (by simp [q']))).trans (hk c o (fun q' => hb (by simp [q'])) (fun q' => hb (by simp [q'])) (fun q' => hb (by simp [q'])) (fun q' => hb (by simp [q'])) q)) hf (Nat.le_refl _) new
    refine ⟨.ref s.heap.objs.size, _, I1, rfl, ⟨_, x, y, rfl, I.hok.fresh (Nat.le_refl _), rfl, fun l hl => by rw [sqB_inj I hl hqx]; exact hx, fun l hl => by rw [sqB_inj I hl hqy]; exact hy⟩, ⟨z'', ?_, ⟨x1, x2, ?_⟩, ?_, ?_, ?_, ?_⟩, fun c hcm => ?_⟩
    · exact (sb.2 _ D.TIz).trans (hk _ _ D.TIz D.TITO D.TIi1 D.TIi2 hTI)
    · exact (sb.2 _ D.TOz).trans TO'
    · exact d1.1.at fun o q => (sb.2 _ D.i1z).trans q
    · exact d2.1.at fun o q => (sb.2 _ D.i2z).trans q
    · have := (List.getElem?_eq_some_iff.mp hx).1; omega
    · have := (List.getElem?_eq_some_iff.mp hy).1; omega
    · have hlt : c < s.heap.objs.size := by
        have e' : c = z ∨ c = TI ∨ c = TO ∨ c = i1 ∨ c = i2 := by simpa using hcm
        rcases e' with rfl | rfl | rfl | rfl | rfl
        · exact hzl
        · exact Heap.lt_size hTI
        · exact Heap.lt_size hTO
        · obtain ⟨_, e1, _⟩ := h1.obj; exact Heap.lt_size e1
        · obtain ⟨_, e2, _⟩ := h2.obj; exact Heap.lt_size e2
      rw [upd_ne (Nat.ne_of_lt hlt)]
      exact (hf c hcm).1
  done := by
    intro X hP hw hK hc i pins s σ H E I hf st hg
    subst hP hw hK
    obtain ⟨hz, hTI, ⟨x0, y0, hTO⟩, h1, h2, hn1, hn2⟩ := st
    obtain ⟨xs, ys, hqx, hqy, ln1, ln2, hend⟩ := hg
    obtain ⟨its, rv, p⟩ := sqB_inv I hqx
    obtain ⟨its2, rv2, p2⟩ := sqB_inv I hqy
    have l1 := rv.length
    have l2 := rv2.length
    have hh := in1_handled (I.ok.hd hc)
    refine wpAny_pyNext_zipD2_end (sepB D) (drawsB hh b1 i1 a D.l1i1 its.toArray) (drawsB hh b2 i2 b D.l2i2 its2.toArray) hz hTI hTO ⟨h1, p⟩ ⟨h2, p2⟩ (by simp; omega) (by simp; omega) (by simp; omega) fun h' tk hk => ⟨rfl, I.turnedL (t' := tk) (ch := [z, TI, TO, i1, i2]) (fun c o hb q =>
      hk c o (fun q' => hb (by simp [q'])) (fun q' => hb (by simp [q'])) (fun q' => hb (by simp [q'])) (fun q' => hb (by simp [q'])) q) hf⟩
  self := fun A i s Q E st h => wpAny_pyIter_zip st.1 h
/-- iter of a list or a tuple -/
def objB : Bool → Addr → Obj
  | false, l => { cls := .type "list_iterator", data := .fields #[.ref l, .int 0 0] }
  | true, l => { cls := .type "tuple_iterator", data := .fields #[.ref l, .int 0 0] }
theorem beginsB (b : Bool) (l : Addr) (items : Array Value) : Begins (.ref l) (objB b l) fun h => IsB b h l items := by
  cases b
  · exact begins_list l items
  · exact begins_tuple l items
theorem itB_of {b : Bool} {h : Heap} {i l : Addr} (e : h.get? i = some (objB b l)) : ItB b h i l 0 := by
  cases b
  · exact ⟨_, e, rfl, rfl⟩
  · exact ⟨_, e, rfl, rfl⟩
def iZipB (K : PySem.W.Frag) (ta : TA) : TI := fun σ H R => ta σ H fun vs H1 => ∃ b1 b2 a b xs ys, vs = [.ref a, .ref b] ∧ SqB K b1 H1 a xs ∧ SqB K b2 H1 b ys ∧ R (Itzb K b1 b2 a b xs.length ys.length) H1
theorem pi_zipB {X : Cx} {e e2 : Expr} {ta : TA} {p pos tpos : Pos} {elts : List Expr} {kk : Nat} (hg : Gl X "zip") (hm : X.mg "zip" = none) (ha : PA X [e, e2] ta)
    (hs : starEach [e, e2] X.env = (false, eval e X.env) :: starEach [e2] X.env := by rfl) (hpl : (backTo pos (starEach [e2] X.env)).any (·.1) = false := by rfl) :
    PI X (.Tuple elts kk tpos) (.Call (.Name "zip" p) [e, e2] [] pos) (iZipB X.K ta) := by
  refine ⟨fun pins s σ H R I h => ?_⟩
  refine Call_ (ld_blt I hg hm PyProof.Rows.boot_zip (PyProof.Rows.callWith_type1 (thn (ha.run pos pins s σ H _ I h) fun us s1 ⟨vs, H1, I1, r1, q1⟩ => ?_) hs hpl))
  obtain ⟨b1, b2, a, b, xs, ys, ex, hqx, hqy, q⟩ := q1
  subst ex
  cases r1 with
  | cons r rr =>
    cases rr with
    | cons r' rr =>
      cases rr
      cases r
      cases r'
      have fresh5 : ∀ c, c ∈ [s1.heap.objs.size + 4, s1.heap.objs.size + 2, s1.heap.objs.size + 3, s1.heap.objs.size, s1.heap.objs.size + 1] → FpOk X pins H1 c := fun c hcm => by
        have e' : c = s1.heap.objs.size + 4 ∨ c = s1.heap.objs.size + 2 ∨ c = s1.heap.objs.size + 3 ∨ c = s1.heap.objs.size ∨ c = s1.heap.objs.size + 1 := by simpa using hcm
        have hle : s1.heap.objs.size ≤ c := by
          rcases e' with rfl | rfl | rfl | rfl | rfl
          · exact Nat.le_add_right _ _
          · exact Nat.le_add_right _ _
          · exact Nat.le_add_right _ _
          · exact Nat.le_refl _
          · exact Nat.le_add_right _ _
        exact I1.fpOk hle (I1.hok.fresh hle)
      obtain ⟨its, rv, p1⟩ := sqB_inv I1 hqx
      obtain ⟨its2, rv2, p2⟩ := sqB_inv I1 hqy
      refine zip_begins2 (beginsB b1 a its.toArray) (beginsB b2 b its2.toArray) p1 p2 fun h' hz hTI hTO h1 h2 hsz hk => wpAny_pyIter_zip hz ?_
      have I2 : Inv X pins σ H1 { s1 with heap := h' } := I1.kept (t' := s1.toks) hk
      exact ⟨s1.heap.objs.size + 4, [s1.heap.objs.size + 4, s1.heap.objs.size + 2, s1.heap.objs.size + 3, s1.heap.objs.size, s1.heap.objs.size + 1], _, _, H1, rfl, I2, turn_zipB (PySem.W.ktu_apart s1.heap.objs.size a b p1.lt p2.lt), ⟨hz, hTI, ⟨_, _, hTO⟩, itB_of h1, itB_of h2, Nat.zero_le _, Nat.zero_le _⟩, fresh5, q⟩
theorem sqB_mono {F H : Hp} {b : Bool} {a : Addr} {xs : List V} (s : Same F H) (h : SqB K b F a xs) : SqB K b H a xs := by
  cases b
  · rcases h with h | h
    · exact .inl (Rd.mono s h)
    · exact .inr h
  · exact SqT.mono s h
theorem itzB_D {F : Hp} {b1 b2 : Bool} {a b : Addr} {xs ys : List V} {ds es : List D} (h : SqB K b1 F a xs) (hd : DpAll K F xs ds) (h2 : SqB K b2 F b ys) (hd2 : DpAll K F ys es) : ItD K F (Itzb K b1 b2 a b xs.length ys.length) (zipL ds es) where
  go := fun H i s hi => by
    have hl : i < ds.length ∧ i < es.length := by simp [zipL] at hi; omega
    obtain ⟨x, q⟩ : ∃ x, xs[i]? = some x := ⟨xs[i]'(by rw [DpAll.length hd]; exact hl.1), by simp⟩
    obtain ⟨y, q'⟩ : ∃ x, ys[i]? = some x := ⟨ys[i]'(by rw [DpAll.length hd2]; exact hl.2), by simp⟩
    exact ⟨xs, ys, x, y, sqB_mono s h, sqB_mono s h2, rfl, rfl, q, q'⟩
  stop := fun H i s hi => ⟨xs, ys, sqB_mono s h, sqB_mono s h2, rfl, rfl, by rw [DpAll.length hd, DpAll.length hd2]; simp [zipL] at hi; omega⟩
  yld := fun H i x H' d s q y => by
    obtain ⟨T, z, z2, e1, e2, e3, y, y2⟩ := y
    obtain ⟨yd, zd, q1, q1', e4⟩ := zipL_get q
    obtain ⟨v, q2, q3⟩ := DpAll.getd hd q1
    obtain ⟨v2, q2', q3'⟩ := DpAll.getd hd2 q1'
    have q4 := y xs (sqB_mono s h)
    have q5 := y2 ys (sqB_mono s h2)
    rw [q4] at q2
    rw [q5] at q2'
    cases q2
    cases q2'
    exact .inr ⟨T, _, _, e4, e1, e2, e3, .cons q3 (.one q3')⟩
def zipBD : List D → Option (List D)
  | [.list ds, .list es] => some (zipL ds es)
  | [.tuple ds, .tuple es] => some (zipL ds es)
  | [.list ds, .tuple es] => some (zipL ds es)
  | [.tuple ds, .list es] => some (zipL ds es)
  | _ => none
def mZipB (ms : M (List D)) : M (List D) := mBind ms fun ds => mLift (zipBD ds)
def sqOf : D → Option (Bool × List D)
  | .list ds => some (false, ds)
  | .tuple ds => some (true, ds)
  | _ => none
theorem sqOf_dp {F : Hp} {x : V} {d : D} {b : Bool} {ds : List D} (h : Dp K F x d) (e : sqOf d = some (b, ds)) : ∃ a xs, x = .ref a ∧ SqB K b F a xs ∧ DpAll K F xs ds := by
  cases h with
  | lst hr hd => cases e; exact ⟨_, _, rfl, .inl hr, hd⟩
  | tup hr hd => cases e; exact ⟨_, _, rfl, hr, hd⟩
  | _ => cases e
theorem zipBD_of {ds : List D} {out : List D} (e : zipBD ds = some out) : ∃ d d' b b' es es', ds = [d, d'] ∧ sqOf d = some (b, es) ∧ sqOf d' = some (b', es') ∧ out = zipL es es' := by
  unfold zipBD at e
  split at e
  · cases e; exact ⟨_, _, _, _, _, _, rfl, rfl, rfl, rfl⟩
  · cases e; exact ⟨_, _, _, _, _, _, rfl, rfl, rfl, rfl⟩
  · cases e; exact ⟨_, _, _, _, _, _, rfl, rfl, rfl, rfl⟩
  · cases e; exact ⟨_, _, _, _, _, _, rfl, rfl, rfl, rfl⟩
  · cases e
variable {X : Cx} {W : WX} {a b : Expr} {elts : List Expr} {kk : Nat} {p pos tpos : Pos} {ms : M (List D)}
theorem diZipB (hm : X.mg "zip" = none) (ha : PA X [a, b] (tA X.K W ms)) (hg : Gl X "zip" := by rfl) (hs : starEach [a, b] X.env = (false, eval a X.env) :: starEach [b] X.env := by rfl) (hpl : (backTo pos (starEach [b] X.env)).any (·.1) = false := by rfl) :
    PI X (.Tuple elts kk tpos) (.Call (.Name "zip" p) [a, b] [] pos) (tI X.K W (mZipB ms)) := PI.imp (pi_zipB hg hm ha hs hpl) (by
  rintro σ H R ⟨c, F, ρ, ok, h⟩
  refine ⟨c, F, ρ, ok, post_mono ?_ (post_bind h)⟩
  rintro ds H1 F1 _ ⟨ρ1, ok1, s1, h1⟩ vs rv
  obtain ⟨out, e, h2⟩ := post_lift h1
  obtain ⟨d, d', b, b', es, es', e1, e2, e3, e4⟩ := zipBD_of e
  subst e1 e4
  cases rv with
  | cons r t =>
    cases t with
    | cons r' t' =>
      cases t'
      obtain ⟨a, xs, rfl, q1, q2⟩ := sqOf_dp r e2
      obtain ⟨a', xs', rfl, q1', q2'⟩ := sqOf_dp r' e3
      exact ⟨b, b', a, a', xs, xs', rfl, sqB_mono ok1.sub q1, sqB_mono ok1.sub q1', h2 H1 F1 ok1 (Same.refl F1) _ (itzB_D q1 q2 q1' q2')⟩)
end Dd

namespace Dd
open PySem PySem.Spec L2 PyProof.Rows
/-! ### defs that are called where nothing is being shown: what a def promises there -/
structure FnG (P : Program) (w : World) (K : PySem.W.Frag) (mg : Str → Option Value) (base : Heap) (CX : CXT) (k : Nat) (f : Addr) (fd : FuncData) (ps : List Str) (sp : Sp) : Prop where
  len : ∀ vs H Q E, sp vs H Q E → vs.length = ps.length
  run : ∀ (A : Around) (outer : List Env) (s : Shared) (H : Hp) (args : Args) (us : List Value) (vs : List V) (Q : VK) (E : XK), A.guards = some [] → Room k A → Env0 P w K mg base A outer s H → BindsTo s fd args (ps.zip us) → Vals vs us → sp vs H Q E →
    codeAny (model P w) A (.call (.ref f) args) (CR CX outer P w H s Q E) s
theorem FnG.mono {P : Program} {w : World} {K : PySem.W.Frag} {mg : Str → Option Value} {base : Heap} {CX : CXT} {j k : Nat} {f : Addr} {fd : FuncData} {ps : List Str} {sp : Sp} (F : FnG P w K mg base CX j f fd ps sp) (h : j ≤ k) : FnG P w K mg base CX k f fd ps sp :=
  ⟨F.len, fun A outer s H args us vs Q E hg hr => F.run A outer s H args us vs Q E hg (hr.mono h)⟩
section
variable {P : Program} {w : World} {K : PySem.W.Frag} {mg : Str → Option Value} {base : Heap} {x qual : Str} {st : Stmt} {f : Addr} {fd : FuncData} {N ps : List Str} {k : Nat} {m : M Fl} {sc : Scope} {bd : List Stmt}
/-- a def whose defaults may stand (any value where they are kept) -/
structure FunA (K : PySem.W.Frag) (x qual : Str) (st : Stmt) (f : Addr) (fd : FuncData) : Prop where
  ex : ∃ (oc : Value) (od : Option Addr) (dV kV doc pm : Value) (an : Option Addr) (cdv ct : Value) (osl : Array (Option Value)),
    fd = PySem.W.fnOf x qual (defArgs st) (defBody st) (defScope st) dV kV doc pm an cdv ct ∧ K.lookup f = some ⟨oc, od, .func fd, osl⟩ ∧ PySem.W.codeIn K cdv qual = true
  kp : PySem.W.keepIn K (.ref f) = true
theorem toA (Fn : Fun K x qual st f fd) : FunA K x qual st f fd := by
  obtain ⟨⟨oc, od, kV, doc, pm, an, cdv, ct, osl, e, l, c⟩, k⟩ := Fn
  exact ⟨⟨oc, od, .none, kV, doc, pm, an, cdv, ct, osl, e, l, c⟩, k⟩
theorem okXA {sp : Sp} (Fn : FunA K x qual st f fd) (S : FnScope N ps (defScope st)) (len : ∀ vs H Q E, sp vs H Q E → vs.length = ps.length)
    (hbody : ∀ (cdv : Value) (A : Around) (outer : List Env) (s : Shared) (H : Hp) (vs : List V) (Q : VK) (E : XK), A.guards = some [] → Room k (A.deeper (envOfC qual (defScope st) s.heap.objs.size f cdv)) → sp vs H Q E →
      ∃ t, PSs (cxOf (L2.CX P w) P w K mg base N qual (defScope st) f cdv A outer s H E) (defBody st) t ∧ t { nx := fun _ H' => Q .non H', rt := Q } (L2.start N vs) H) : FnG P w K mg base (L2.CX P w) (k + 1) f fd ps sp := by
  obtain ⟨oc, od, dV, kV, doc, pm, an, cdv, ct, osl, rfl, at_f, code⟩ := Fn.ex
  refine ⟨len, fun A outer s H args us vs Q E hgd room e0 bind rv done => ?_⟩
  have inK : K.In s.heap := e0.mod.kin.keeps fun b o e => (e0.bs b o e).1
  have nolim : s.heap.NoLimit := e0.mod.nolimit.keeps fun b o e => (e0.bs b o e).1
  have par : ∀ y ∈ ps.zip us, (defScope st).names.lookup y.1 = some .local ∨ ((defScope st).names.lookup y.1 = some .cell ∧ ((cellsFrom (s.heap.objs.size + 1) (defScope st).names []).lookup y.1).isSome = true) := fun y hy =>
    (S.par y.1 (List.of_mem_zip (a := y.1) (b := y.2) hy).1).imp id fun z => ⟨z, PySem.W.cellsFrom_some _ _ _ (.inl z)⟩
  refine codeAny_call_function room.depth (inK _ _ at_f) rfl S.co S.gen rfl (PySem.W.codeRec_of inK code) (bind _ _ _ _ ?_)
  refine wpAny_newFunctionEnv_cells S.kind par ?_
  rintro env rfl s1 y
  refine ⟨nolim.keeps y.toInCall.keep, codeAny_func ?_⟩
  obtain ⟨t, run, goal⟩ := hbody cdv A outer s H vs Q E hgd (room.deeper _) done
  have J := inv_start (CX := L2.CX P w) (qual := qual) (f := f) (cd := cdv) (E := E) S room.hd e0 (len _ _ _ _ done) rv y
  refine wpAny_mono (run.run [] s1 _ H _ J goal) ?_ fun e s' hs => hs
  intro fl s' hs
  match fl, hs with
  | .ret u, ⟨v, σ', H', J', rv, q⟩ => exact ⟨v, H', J'.os, J'.bare, J'.base, J'.hok, rv, q⟩
  | .next, ⟨σ', H', J', q⟩ => exact ⟨V.non, H', J'.os, J'.bare, J'.base, J'.hok, rfl, q⟩
  | .brk, ⟨_, _, _, q⟩ => exact q.elim
  | .cont, ⟨_, _, _, q⟩ => exact q.elim
theorem okXG {sp : Sp} (Fn : Fun K x qual st f fd) (S : FnScope N ps (defScope st)) (len : ∀ vs H Q E, sp vs H Q E → vs.length = ps.length)
    (hbody : ∀ (cdv : Value) (A : Around) (outer : List Env) (s : Shared) (H : Hp) (vs : List V) (Q : VK) (E : XK), A.guards = some [] → Room k (A.deeper (envOfC qual (defScope st) s.heap.objs.size f cdv)) → sp vs H Q E →
      ∃ t, PSs (cxOf (L2.CX P w) P w K mg base N qual (defScope st) f cdv A outer s H E) (defBody st) t ∧ t { nx := fun _ H' => Q .non H', rt := Q } (L2.start N vs) H) : FnG P w K mg base (L2.CX P w) (k + 1) f fd ps sp := okXA (toA Fn) S len hbody
abbrev BodyC (P : Program) (w : World) (K : PySem.W.Frag) (mg : Str → Option Value) (base : Heap) (qual : Str) (sc : Scope) (bd : List Stmt) (f : Addr) (N : List Str) (k : Nat) (m : M Fl) : Prop :=
  ∀ (cdv : Value) (A : Around) (outer : List Env) (s : Shared) (H : Hp) (E : XK), A.guards = some [] → Room k (A.deeper (PyProof.Rows.envOfC qual sc s.heap.objs.size f cdv)) →
    PSs (cxOf (L2.CX P w) P w K mg base N qual sc f cdv A outer s H E) bd (tS K (fun cls d _ H => E cls d H) m)
theorem okV2A (Fn : FunA K x qual st f fd) (S : FnScope N ps (defScope st)) (h1 : defScope st = sc) (h2 : defBody st = bd) (hb : BodyC P w K mg base qual sc bd f N k m) : FnG P w K mg base (L2.CX P w) (k + 1) f fd ps (spV K ps.length (runV m N.length)) := by
  subst h1 h2
  refine okXA Fn S (fun vs H Q E h => ?_) (fun cdv A outer s H vs Q E hgd hr h => ⟨_, hb cdv A outer s H E hgd hr, ?_⟩)
  · obtain ⟨F, ds, _, r, hl, _⟩ := h
    rw [DpAll.length r]; exact hl
  · obtain ⟨F, ds, s', r, hl, h⟩ := h
    refine ⟨_, F, _, start_ok s' r (by rw [hl]; exact FnScope.le S), ?_⟩
    unfold runV at h
    cases e : m (env0 N.length ds) with
    | none => rw [e] at h; exact h
    | some q =>
      rw [e] at h
      cases q with
      | ex y ρ' => exact fun σ' cls z H' F' ok _ r' => h cls z F' H' ok.ext r'
      | ok fl ρ' =>
        cases fl with
        | nx => exact fun σ' H' F' ok _ => h .non F' H' ok.ext .non
        | rt d => exact fun σ' v H' F' ok _ r' => h v F' H' ok.ext r'
        | bk => exact h.elim
        | ct => exact h.elim
        | rf _ => exact h.elim
theorem okV2G (Fn : Fun K x qual st f fd) (S : FnScope N ps (defScope st)) (h1 : defScope st = sc) (h2 : defBody st = bd) (hb : BodyC P w K mg base qual sc bd f N k m) : FnG P w K mg base (L2.CX P w) (k + 1) f fd ps (spV K ps.length (runV m N.length)) := okV2A (toA Fn) S h1 h2 hb
theorem okB2A (Fn : FunA K x qual st f fd) (S : FnScope N ps (defScope st)) (h1 : defScope st = sc) (h2 : defBody st = bd) (hb : BodyC P w K mg base qual sc bd f N k m) : FnG P w K mg base (L2.CX P w) (k + 1) f fd ps (spB K ps.length (runB m N.length)) := by
  subst h1 h2
  refine okXA Fn S (fun vs H Q E h => ?_) (fun cdv A outer s H vs Q E hgd hr h => ⟨_, hb cdv A outer s H E hgd hr, ?_⟩)
  · obtain ⟨F, p, bs0, bs, rest, ds, rfl, _, _, _, _, r, hl, _⟩ := h
    rw [List.length_cons, DpAll.length r]; exact hl
  · obtain ⟨F, p, bs0, bs, rest, ds, rfl, s', hF, hp, rb, r, hl, h⟩ := h
    refine ⟨_, F, _, startB_ok s' hF hp rb r (by rw [hl]; exact FnScope.le S), ?_⟩
    have fin : ∀ {σ' H' F' ρ' bs'}, Ok K ⟨F, H, some p, noPr⟩ σ' H' F' (.io bs' :: ρ') → ∃ bs1, H' p = some (.lst bs1) ∧ DpAll K F' bs1 bs' := fun {σ' H' F' ρ' bs'} ok => by
      obtain ⟨_, q, vs, c0, c1, c2, c3⟩ := ok.ios 0 bs' rfl
      have e : some p = some q := c0
      cases e
      exact ⟨vs, c2, c3⟩
    unfold runB at h
    cases e : m (env0B N.length bs ds) with
    | none => rw [e] at h; exact h
    | some q =>
      rw [e] at h
      cases q with
      | ex y ρ' =>
        intro σ' cls z H' F' ok _ r'
        cases ρ' with
        | nil => exact h.elim
        | cons u ρ' =>
          cases u with
          | io bs' =>
            obtain ⟨bs1, b1, b2⟩ := fin ok
            exact h cls z bs1 F' H' ok.extB b1 b2 r'
          | un => exact h.elim
          | val _ => exact h.elim
          | own _ => exact h.elim
          | scr _ => exact h.elim
          | dct _ => exact h.elim
          | nst _ => exact h.elim
      | ok fl ρ' =>
        cases fl with
        | nx =>
          intro σ' H' F' ok _
          cases ρ' with
          | nil => exact h.elim
          | cons u ρ' =>
            cases u with
            | io bs' =>
              obtain ⟨bs1, b1, b2⟩ := fin ok
              exact h .non bs1 F' H' ok.extB b1 b2 .non
            | un => exact h.elim
            | val _ => exact h.elim
            | own _ => exact h.elim
            | scr _ => exact h.elim
            | dct _ => exact h.elim
            | nst _ => exact h.elim
        | rt d =>
          intro σ' v H' F' ok _ r'
          cases ρ' with
          | nil => exact h.elim
          | cons u ρ' =>
            cases u with
            | io bs' =>
              obtain ⟨bs1, b1, b2⟩ := fin ok
              exact h v bs1 F' H' ok.extB b1 b2 r'
            | un => exact h.elim
            | val _ => exact h.elim
            | own _ => exact h.elim
            | scr _ => exact h.elim
            | dct _ => exact h.elim
            | nst _ => exact h.elim
        | bk => exact h.elim
        | ct => exact h.elim
        | rf _ => exact h.elim
theorem okB2G (Fn : Fun K x qual st f fd) (S : FnScope N ps (defScope st)) (h1 : defScope st = sc) (h2 : defBody st = bd) (hb : BodyC P w K mg base qual sc bd f N k m) : FnG P w K mg base (L2.CX P w) (k + 1) f fd ps (spB K ps.length (runB m N.length)) := okB2A (toA Fn) S h1 h2 hb
theorem okS2G (Fn : Fun K x qual st f fd) (S : FnScope N ps (defScope st)) (h1 : defScope st = sc) (h2 : defBody st = bd) (hb : BodyC P w K mg base qual sc bd f N k m) : FnG P w K mg base (L2.CX P w) (k + 1) f fd ps (spS K ps.length (runS m N.length)) := by
  subst h1 h2
  refine okXG Fn S (fun vs H Q E h => ?_) (fun cdv A outer s H vs Q E hgd hr h => ⟨_, hb cdv A outer s H E hgd hr, ?_⟩)
  · obtain ⟨F, a, ns, rest, ds, rfl, _, _, r, hl, _⟩ := h
    rw [List.length_cons, DpAll.length r]; exact hl
  · obtain ⟨F, a, ns, rest, ds, rfl, s', hp, r, hl, h⟩ := h
    refine ⟨_, F, _, startS_ok s' hp r (by rw [hl]; exact FnScope.le S), ?_⟩
    unfold runS at h
    cases e : m (env0S N.length ns ds) with
    | none => rw [e] at h; exact h
    | some q =>
      rw [e] at h
      cases q with
      | ex y ρ' => exact fun σ' cls z H' F' ok _ r' => h cls z F' H' ok.ext r'
      | ok fl ρ' =>
        cases fl with
        | nx => exact h.elim
        | rt d => exact h.elim
        | bk => exact h.elim
        | ct => exact h.elim
        | rf es => exact fun σ' p xs H' F' ok _ hp r' hf h0 => h p xs F' H' ok.ext h0 hf hp r'
end
section
variable {P : Program} {w : World} {K : PySem.W.Frag} {mg : Str → Option Value} {base : Heap} {j n : Nat} {f : Addr} {fd : FuncData} {ps : List Str}
end
section
variable {X : Cx} {CX : CXT} {W : WX} {k n : Nat} {f : Addr} {fd : FuncData} {ps : List Str} {sp : Sp} {E : L2.St → XK} {t : TA} {x : Str} {p pos : Pos} {e : Expr} {es : List Expr} {ms : M (List D)}
theorem run_fnG {pins : List (Addr × Obj)} {σ : L2.St} {H : Hp} {s : Shared} {Q : VK} {us : List Value} {vs : List V} (F : FnG X.prog X.w X.K X.mg X.base CX k f fd ps sp) (hgd : X.A.guards = some []) (hr : Room k X.A) (hb : Binds X.K fd ps []) (hx : PassesAt CX X σ (E σ))
    (I : Inv X pins σ H s) (r : Vals vs us) (h : sp vs H Q (E σ)) : wpAny (model X.prog X.w) X.A (call (.ref f) us) (EP X pins σ Q) X.xe s := by
  have b := hb s us I.kIn (by rw [List.append_nil, ← r.length]; exact F.len _ _ _ _ h)
  rw [List.append_nil] at b
  refine wpAny_call (codeAny_mono (F.run X.A X.stack s H ⟨us, []⟩ us vs Q (E σ) hgd hr I.env0 b r h) fun q s' hq => ?_)
  match q, hq with
  | .error e, hq => exact hx pins H s e s' I hq
  | .ok (.ret u), hq => exact I.after hq
  | .ok .next, hq => exact False.elim hq
  | .ok .brk, hq => exact False.elim hq
  | .ok .cont, hq => exact False.elim hq
theorem pe_callG (F : FnG X.prog X.w X.K X.mg X.base CX k f fd ps sp) (hgd : X.A.guards = some []) (hr : Room k X.A) (hg : Gl X x) (hm : X.mg x = some (.ref f)) (hk : PySem.W.keepIn X.K (.ref f) = true) (hb : Binds X.K fd ps []) (hx : ∀ σ, PassesAt CX X σ (E σ))
    (ha : PA X (e :: es) t) (hdb : (x == ("__debug__" : Str)) = false := by decide) (he : starEach (e :: es) X.env = (false, eval e X.env) :: starEach es X.env := by rfl) (hpl : (backTo pos (starEach es X.env)).any (·.1) = false := by rfl) :
    PE X (.Call (.Name x p) (e :: es) [] pos) (tCallS sp E t) :=
  ⟨fun pins s σ H Q I h => wpAny_Call_Name_kw (ld_glob I hg hm (PySem.W.callWith_K (h₀ := X.base) I.ok.mod.kin hk (thn (ha.run pos pins s σ H _ I h) fun us s1 ⟨vs, H1, I1, r, q⟩ => ⟨I1.kIn, run_fnG F hgd hr hb (hx σ) I1 r q⟩) he hpl) hdb)⟩
theorem dCallVG {g : List D → Option (Rs D)} (hgd : X.A.guards = some []) (F : FnG X.prog X.w X.K X.mg X.base (L2.CX X.prog X.w) k f fd ps (spV X.K n g)) (hr : Room k X.A) (hm : X.mg x = some (.ref f)) (hk : PySem.W.keepIn X.K (.ref f) = true) (hb : Binds X.K fd ps []) (tk : Takes X W)
    (ha : PA X (e :: es) (tA X.K W ms)) (hg : Gl X x := by rfl) (hdb : (x == ("__debug__" : Str)) = false := by decide) (he : starEach (e :: es) X.env = (false, eval e X.env) :: starEach es X.env := by rfl) (hpl : (backTo pos (starEach es X.env)).any (·.1) = false := by rfl) :
    PE X (.Call (.Name x p) (e :: es) [] pos) (tE X.K W (mCallV n g ms)) := PE.imp (pe_callG F hgd hr hg hm hk hb (fun σ => passAt tk σ) ha hdb he hpl) fun _ _ _ => callV_of
theorem dCallBG {i : Nat} {g : List D → List D → Option (Rs D × List D)} (hgd : X.A.guards = some []) (F : FnG X.prog X.w X.K X.mg X.base (L2.CX X.prog X.w) k f fd ps (spB X.K n g)) (hr : Room k X.A) (hm : X.mg x = some (.ref f)) (hk : PySem.W.keepIn X.K (.ref f) = true) (hb : Binds X.K fd ps []) (tk : Takes X W)
    (h1 : PE X e (tVar i)) (ha : PA X es (tA X.K W ms)) (hg : Gl X x := by rfl) (hdb : (x == ("__debug__" : Str)) = false := by decide) (he : starEach (e :: es) X.env = (false, eval e X.env) :: starEach es X.env := by rfl) (hpl : (backTo pos (starEach es X.env)).any (·.1) = false := by rfl) :
    PE X (.Call (.Name x p) (e :: es) [] pos) (tE X.K W (mCallB i n g ms)) := PE.imp (pe_callG F hgd hr hg hm hk hb (fun σ => passAt tk σ) (pa_cons h1 ha he) hdb he hpl) fun _ _ _ => callB_of
theorem dCallStG {i j : Nat} {y : Str} {pos' spos : Pos} {g : List Int → List D → Option (Rs (List D))} (hgd : X.A.guards = some []) (F : FnG X.prog X.w X.K X.mg X.base (L2.CX X.prog X.w) k f fd ps (spS X.K n g)) (hr : Room k X.A) (hm : X.mg x = some (.ref f)) (hk : PySem.W.keepIn X.K (.ref f) = true) (hb : Binds X.K fd ps []) (tk : Takes X W) (hN : X.N.Nodup)
    (h1 : PE X e (tVar j)) (ha : PA X es (tA X.K W ms)) (hg : Gl X x := by rfl) (hdb : (x == ("__debug__" : Str)) = false := by decide) (he : starEach (e :: es) X.env = (false, eval e X.env) :: starEach es X.env := by rfl) (hpl : (backTo pos (starEach es X.env)).any (·.1) = false := by rfl)
    (hi : X.N[i]? = some y := by rfl) (hx : Loc X.env.scope y := by first | exact Or.inl rfl | exact Or.inr rfl)
    (hs : swapsWith (.Call (.Name x p) (e :: es) [] pos) (some (.Name y pos')) spos.line X.env = pure false := by rfl)
    (hf : X.fn y = true ∨ X.env.scope.names.lookup y = some .local := by first | exact .inl rfl | exact .inr rfl) :
    PS X (.Assign [.Name y pos'] (.Call (.Name x p) (e :: es) [] pos) spos) (tS X.K W (mAsgS i j n g ms)) := PS.imp (ps_set hN hi hx (pe_callG F hgd hr hg hm hk hb (fun σ => passAt tk σ) (pa_cons h1 ha he) hdb he hpl) hs hf) fun _ _ _ => asgS_of
end
end Dd

/-! ### an own exception's first field, whatever built-in class it is under -/
namespace PySem
namespace OwnE
open PySem.W PySem.Calls PyProof.Rows PySem.HandSPX
open Builtin Builtin.ObjectAttr
variable {prog : Program} {w : World} {A : Around} {E : Value → Shared → Prop} {R : Result → Shared → Prop} {hp : Heap} {g : Array GenState} {d : Drawn} {t : Nat} {os : OsState} {K : Frag} {B : String} {bmB : List Value}
theorem first_field {name : Str} {tk : Tok} {v : Value} {x C : Addr} {fv : Array Value} {cd : ClassData} (SF : StoreFacts B bmB "object.__setattr__" "object")
    (X : K.In hp) (hx : hp.get? x = some { cls := .ref C, data := .fields fv }) (hcd : clsIn K C = some cd) (hh : cd.hasDict = true) (ho : excOver K C bmB = true) (ha : takerIn K C name = some none)
    (hq : ∀ h' tk' dx, (∀ b o, b ≠ x → hp.get? b = some o → h'.get? b = some o) → hp.objs.size ≤ dx → dx ≠ x → h'.get? x = some { cls := .ref C, dict := some dx, data := .fields fv } →
      h'.Ns1 dx (fun y => if y = name then some v else none) → R (.ok (.ret .none)) ⟨h', g, d, tk', os⟩) :
    codeAny (model prog w) A (.call (.builtin "object.__setattr__") ⟨[.ref x, .str name tk, v], []⟩) R ⟨hp, g, d, t, os⟩ := by
  have I : InstAt hp x { cls := .ref C, data := .fields fv } C none := ⟨hx, rfl, rfl, trivial⟩
  refine osa_openX SF X I ho ha fun b => ?_
  have apart : x ≠ hp.objs.size := Nat.ne_of_lt (Heap.lt_size hx)
  have known : Looks (model prog w) hp (classData C) cd := looks_clsIn X hcd
  obtain ⟨nm, bs, mro, ns, qn, hd, sn, sb, ab, col, del⟩ := cd
  obtain rfl : hd = true := hh
  dsimp only
  unfold storeInOwnDict ownDictForStores
  repeat (first | with_reducible refine store_in_new ?_ ?_ | with_reducible refine wpAny_loadPart_at hx ?_ | with_reducible refine known.at ?_ | wp_step)
  · exact ⟨_, #[], _, (Heap.get?_update_ne _ _ _ _ apart.symm).trans (Heap.get?_push_at rfl rfl), rfl, fun e he => absurd he (by simp), fun _ => rfl⟩
  · intro h' tk' hn' hs
    have x1 : (hp.push { cls := .type "dict", data := .dict #[] }).get? x = some { cls := .ref C, data := .fields fv } := Heap.get?_push_of_some _ hx
    exact hq h' tk' hp.objs.size (fun c o hb ho => (hs.2 c (Nat.ne_of_lt (Heap.lt_size ho))).trans ((Heap.get?_update_ne _ _ _ _ hb).trans (Heap.get?_push_of_some _ ho)))
      (Nat.le_refl _) apart.symm ((hs.2 x apart).trans (Heap.get?_update_self _ x1 rfl)) hn'
end OwnE
end PySem

namespace Dd
open PySem PySem.Spec L2 PyProof.Rows
/-! ### raise C(e) -/
def mRaise (cn : Str) (fns : List Str) (ms : M (List D)) : M Fl := mBind ms fun ds ρ => if ds.length = fns.length then some (.ex ⟨cn, fns.zip ds⟩ ρ) else none
section
variable {X : Cx} {W : WX} {e : Expr} {cn f : Str} {C : Addr} {ms : M (List D)} {pos : Pos}
theorem dRaise1 (hc : X.calm = true) (n : PySem.W.nsIn X.K mainGlobals cn = some (some (.ref C))) (tk : Takes X W)
    (hp : PMk X e fun σ H Q => tA X.K W ms σ H fun vs H1 => ∃ v, vs = [v] ∧ ∀ d, H1 d = none → Q (.ref C) (some d) (upd H1 d (.xd [(f, v)]))) :
    PS X (.Raise (some e) none pos) (tS X.K W (mRaise cn [f] ms)) := PS.imp (ps_raise hc tk hp) (by
  rintro Dn σ H ⟨c, F, ρ, ok, h⟩
  refine ⟨c, F, ρ, ok, post_mono ?_ (postS_bind h)⟩
  rintro ds H1 F1 _ ⟨ρ1, ok1, s1, h1⟩ vs rv
  by_cases hl : ds.length = ([f] : List Str).length
  · rw [if_pos hl] at h1
    match ds, vs, rv, hl with
    | [y], [v], .cons r .nil, _ =>
      exact ⟨v, rfl, fun d hd => h1 σ _ _ _ _ (ok1.alloc hd) (Same.updN (ok1.new hd).1) ⟨C, n, rfl, d, [(f, v)], rfl, upd_same, rfl, .one (Dp.mono (Same.updN (ok1.new hd).1) r)⟩⟩
  · rw [if_neg hl] at h1
    exact h1.elim)
end
/-! ### a caught exception, in a suite -/
/-- what an own class must have for its fields to be read and its class to be asked for -/
structure ExTxt (K : PySem.W.Frag) (cn : Str) (C : Addr) : Prop where
  nm : PySem.W.nsIn K mainGlobals cn = some (some (.ref C))
  xf : XfC K C
  kt : ∀ x ox od, PySem.W.KitX K (.ref x) (.ref C) fun h => PySem.W.InstAt h x ox C od
/-- a part of a display in a suite: a text, a field, whether it is of a class -/
inductive Pt where
  | txt (x : Str)
  | fld (f : Str)
  | isi (b : Bool)
def ptV (fs : List (Str × V)) : Pt → Option V
  | .txt x => some (.str x)
  | .fld f => fs.lookup f
  | .isi b => some (.bl b)
def ptD (fs : List (Str × D)) : Pt → Option D
  | .txt x => some (.str x)
  | .fld f => fs.lookup f
  | .isi b => some (.bool b)
theorem lookup_rel {K : PySem.W.Frag} {F : Hp} {f : Str} {d : D} : ∀ {vs : List (Str × V)} {ds : List (Str × D)}, vs.map (·.1) = ds.map (·.1) → DpAll K F (vs.map (·.2)) (ds.map (·.2)) → ds.lookup f = some d → ∃ v, vs.lookup f = some v ∧ Dp K F v d
  | [], [], _, _, h => by cases h
  | [], _ :: _, e, _, _ => by cases e
  | _ :: _, [], e, _, _ => by cases e
  | (g, v) :: vs, (g', y) :: ds, e, r, h => by
    obtain ⟨rfl, e2⟩ := List.cons.inj e
    cases r with
    | cons r1 r2 =>
      by_cases hg : f = g
      · subst hg
        have : ((f, y) :: ds).lookup f = some y := by simp [List.lookup]
        rw [this] at h
        cases h
        exact ⟨v, by simp [List.lookup], r1⟩
      · have eb : (f == g) = false := by simpa using hg
        have e1 : ((g, y) :: ds).lookup f = ds.lookup f := by simp [List.lookup, eb]
        have e3 : ((g, v) :: vs).lookup f = vs.lookup f := by simp [List.lookup, eb]
        rw [e1] at h
        rw [e3]
        exact lookup_rel e2 r2 h
theorem pt_rel {K : PySem.W.Frag} {F : Hp} {vs : List (Str × V)} {ds : List (Str × D)} (e : vs.map (·.1) = ds.map (·.1)) (r : DpAll K F (vs.map (·.2)) (ds.map (·.2))) {d : D} : ∀ {p : Pt}, ptD ds p = some d → ∃ v, ptV vs p = some v ∧ Dp K F v d
  | .txt x, h => by cases h; exact ⟨_, rfl, .str x⟩
  | .fld f, h => lookup_rel e r h
  | .isi b, h => by cases h; exact ⟨_, rfl, .bl b⟩
section
variable {X : Cx} {a C dd : Addr} {i : Nat} {cls : Value} {d : Option Addr} {oe : Obj} {pn : List (Addr × Obj)} {cn f : Str} {pos p : Pos} {e ec : Expr} {es : List Expr}
def tPt (a C : Addr) (i : Nat) (cls : Value) (d : Option Addr) (p : Pt) : TE := fun σ H Q => ∃ dd fs v, σ[i]? = some (some (.ref a)) ∧ cls = .ref C ∧ d = some dd ∧ H dd = some (.xd fs) ∧ ptV fs p = some v ∧ Q v H
theorem pt_fld (T : ExTxt X.K cn C) (hno : PySem.W.findIn X.K (.ref C) f = some none) (hz : Zc cls d oe) (hf : ∃ vs, oe.data = .fields vs) (he : PE (X.suite a ((a, oe) :: pn)) e (tVar i)) (hb : attributeBase e f X.env (eval e X.env) = eval e X.env := by rfl) :
    PE (X.suite a ((a, oe) :: pn)) (.Attribute e f pos) (tPt a C i cls d (.fld f)) := PE.imp (pe_xf T.xf hno hz hf he hb) fun σ H Q ⟨dd, fs, v, hi, hc, hd, hx, ev, q⟩ =>
  ⟨.ref a, hi, rfl, hc, dd, fs, v, hd, hx, ev, q⟩
end
def mTry (cn : Str) (i : Nat) (mb : M Fl) (hs : Ex → M Fl) : M Fl := fun ρ => match mb ρ with
  | some (.ex e ρ') => if e.C = cn ∧ i < ρ'.length then (match hs e (ρ'.set i .un) with
    | some (.ok .nx ρ2) => some (.ok .nx (ρ2.set i .un))
    | _ => none) else none
  | r => r
section
variable {X : Cx} {Wout : WX} {x n cn y : Str} {c : Value} {C : Addr} {i v : Nat} {body : List Stmt} {es : List Expr} {np pos pos' yp tp sp : Pos} {kk : Nat} {mb : M Fl} {ps : List Pt}
end
end Dd

namespace Dd
open PySem PySem.Spec L2 PyProof.Rows
section
variable {X : Cx} {W : WX} {a b : Expr} {ma mb : M D} {p p2 pos pos2 : Pos}
end
end Dd

namespace Dd
open PySem PySem.Spec L2 PyProof.Rows
section
variable {X : Cx} {CX : CXT} {W : WX} {k n : Nat} {f : Addr} {fd : FuncData} {ps ks : List Str} {sp : Sp} {E : L2.St → XK} {x : Str} {p pos : Pos} {e : Expr} {es : List Expr} {kws : List Keyword} {t tk : TA} {g : List Value → List Value → List Value} {gV : List V → List V → List V}
theorem PK.imp {t t' : TA} (h : PK X kws t) (k : ∀ σ H Q, t' σ H Q → t σ H Q) : PK X kws t' := ⟨fun pos pins s σ H Q I q => h.run pos pins s σ H Q I (k σ H Q q)⟩
end
end Dd

namespace Dd
open PySem PySem.Spec L2 PyProof.Rows
section
variable {X : Cx} {W : WX} {K : PySem.W.Frag} {σ : L2.St} {H F : Hp} {ρ : En} {c : Ct} {Dn : Ends} {i j l : Nat} {ma mb mc : M D}
variable {x y z : Str} {a b cc : Expr} {px py pz pt pt2 pos : Pos} {kt k2 : Nat}
end
end Dd

namespace Dd
open PySem PySem.Spec L2 PyProof.Rows
/-! ### a, *b = a list -/
section
variable {prog : Program} {w : World} {A : Around} {E : Value → Shared → Prop} {s : Shared}
end
section
variable {X : Cx} {pos : Pos} {W : WX}
end
/-! ### a def that hands back a new list -/
section
variable {K : PySem.W.Frag} {W : WX} {c : Ct} {σ : L2.St} {H F : Hp} {ρ : En}
theorem Ok.dropP {p : Addr} {xs : List V} (ok : Ok K (c.put p (.lst xs)) σ H F ρ) (hp : c.pr p = none) : Ok K c σ H F ρ := by
  have nown : ∀ {q : Addr}, (c.put p (.lst xs)).pr q = none → q ≠ p := fun {q} a z => by
    subst z
    have a' : upd c.pr q (.lst xs) q = none := a
    rw [upd_same] at a'; cases a'
  refine ⟨ok.len, ok.sub, ok.ge, ok.fe, ok.keep, fun q e => ?_, fun b u e => ?_, ok.val, fun j es e => ?_, ok.ios, ok.scr, ok.sep, ok.dcs.tr (Same.refl F) fun q ws a1 a2 a3 a4 _ _ => ⟨a1, a2, (upd_ne (nown a4)).symm.trans a4⟩⟩
  · obtain ⟨a1, a2, a3, a4⟩ := ok.iod q e
    exact ⟨a1, a2, (upd_ne (nown a3)).symm.trans a3, a4⟩
  · have ne : b ≠ p := fun z => by subst z; rw [hp] at e; cases e
    exact ok.prt b u ((upd_ne ne).trans e)
  · obtain ⟨q, vs, a1, a2, a3, a4, a5, a6⟩ := ok.own j es e
    exact ⟨q, vs, a1, a2, a3, a4, a5, (upd_ne (nown a6)).symm.trans a6⟩
end
section
variable {X : Cx} {W : WX} {pos : Pos}
def mRetFN (m : M (List D)) : M Fl := mBind m fun ds => mPure (.rf ds)
theorem dRetFN {e : Expr} {m : M (List D)} (h : PE X e (tN X.K W m)) : PS X (.Return (some e) pos) (tS X.K W (mRetFN m)) := PS.imp (ps_ret h) (by
  rintro Dn σ H ⟨c, F, ρ, ok, h⟩
  refine ⟨c, F, ρ, ok, ?_⟩
  unfold mRetFN mBind at h
  cases e : m ρ with
  | none => rw [e] at h; exact h.elim
  | some r =>
    rw [e] at h
    cases r with
    | ex x ρ' => exact fun cls y H' F' ok s r => h σ cls y H' F' ok s r
    | ok out ρ' =>
      intro p xs H' F' ok' hp s' r
      obtain ⟨hH, hF, h0⟩ := ok'.prt p _ upd_same
      exact h σ p xs H' F' (ok'.dropP hp) s' hH r hF h0)
end
section
variable {K : PySem.W.Frag} {W : WX} {σ : L2.St} {H : Hp} {n : Nat} {ms : M (List D)}
end
section
variable {X : Cx} {W : WX} {k n : Nat} {f : Addr} {fd : FuncData} {ps : List Str} {x : Str} {p pos : Pos} {e : Expr} {es : List Expr} {ms : M (List D)}
end
end Dd

namespace Dd
open PySem PySem.Spec L2 PyProof.Rows HT
/-! ### t[::-1] of a tuple -/
section
variable {prog : Program} {w : World} {A : Around} {E : Value → Shared → Prop} {s : Shared}
end
section
variable {X : Cx} {W : WX} {a : Expr} {ma : M D} {pos p1 p2 p3 : Pos} {k : Nat}
end
end Dd

namespace Dd
open PySem PySem.Spec L2 PyProof.Rows
variable {K : PySem.W.Frag}
variable {X : Cx} {W : WX} {e : Expr} {elts : List Expr} {kk : Nat} {p pos tpos : Pos} {ms : M (List D)}
end Dd

namespace Dd
open PySem PySem.Spec L2
/-! ### a slot's own dict -/
def valD : List (Key × D) → Key → Option D
  | [], _ => none
  | (k, d) :: r, x => if k = x then some d else valD r x
def keyD : D → Option Key
  | .int i => some (.inl i)
  | .str x => some (.inr x)
  | _ => none
section
variable {K : PySem.W.Frag} {F H : Hp}
theorem KVs.length : ∀ {ws : List (Key × V)} {kvs : List (Key × D)}, KVs K F ws kvs → ws.length = kvs.length
  | _, _, .nil => rfl
  | _, _, .cons _ t => by rw [List.length_cons, List.length_cons, KVs.length t]
theorem KVs.valv : ∀ {ws : List (Key × V)} {kvs : List (Key × D)} (k : Key), KVs K F ws kvs → (valV ws k = none ∧ valD kvs k = none) ∨ (∃ v d, valV ws k = some v ∧ valD kvs k = some d ∧ Dp K F v d)
  | _, _, k, .nil => .inl ⟨rfl, rfl⟩
  | _, _, k, .cons (k := k') (v := v) (d := d) (ws := ws) (kvs := kvs) h t => by
    by_cases e : k' = k
    · exact .inr ⟨v, d, by simp [valV, List.find?, e], by simp [valD, e], h⟩
    · have e1 : valV ((k', v) :: ws) k = valV ws k := by simp [valV, List.find?, e]
      have e2 : valD ((k', d) :: kvs) k = valD kvs k := by simp [valD, e]
      rw [e1, e2]
      exact KVs.valv k t
theorem KVs.snoc {k : Key} {v : V} {d : D} (h0 : Dp K F v d) : ∀ {ws : List (Key × V)} {kvs : List (Key × D)}, KVs K F ws kvs → KVs K F (ws ++ [(k, v)]) (kvs ++ [(k, d)])
  | _, _, .nil => .cons h0 .nil
  | _, _, .cons h t => .cons h (KVs.snoc h0 t)
theorem KVs.repl {k : Key} {v : V} {d : D} (h0 : Dp K F v d) : ∀ {ws : List (Key × V)} {kvs : List (Key × D)}, KVs K F ws kvs → KVs K F (ws.map fun kv => if kv.1 = k then (kv.1, v) else kv) (kvs.map fun kv => if kv.1 = k then (kv.1, d) else kv)
  | _, _, .nil => .nil
  | _, _, .cons (k := k') h t => by
    have q := KVs.repl (k := k) h0 t
    by_cases e : k' = k
    · simp only [List.map_cons, if_pos e]; exact .cons h0 q
    · simp only [List.map_cons, if_neg e]; exact .cons h q
theorem KVs.any : ∀ {ws : List (Key × V)} {kvs : List (Key × D)} (k : Key), KVs K F ws kvs → (ws.any fun kv => decide (kv.1 = k)) = (kvs.any fun kv => decide (kv.1 = k))
  | _, _, k, .nil => rfl
  | _, _, k, .cons h t => by rw [List.any_cons, List.any_cons, KVs.any k t]
theorem KVs.items : ∀ {ws : List (Key × V)} {kvs : List (Key × D)}, KVs K F ws kvs → DpAll K F (ws.map (·.2)) (kvs.map (·.2))
  | _, _, .nil => .nil
  | _, _, .cons h t => .cons h (KVs.items t)
/-- d[k] = v -/
def setKD (kvs : List (Key × D)) (k : Key) (d : D) : List (Key × D) := if (kvs.any fun kv => decide (kv.1 = k)) = true then kvs.map fun kv => if kv.1 = k then (kv.1, d) else kv else kvs ++ [(k, d)]
theorem KVs.putk {ws : List (Key × V)} {kvs : List (Key × D)} {k : Key} {v : V} {d : D} (h : KVs K F ws kvs) (h0 : Dp K F v d) : KVs K F (putK ws k v) (setKD kvs k d) := by
  unfold putK setKD
  rw [KVs.any k h]
  split
  · exact KVs.repl h0 h
  · exact KVs.snoc h0 h
theorem key_is {y : V} {d : D} {k : Key} (r : Dp K F y d) (e : keyD d = some k) : y = kV k := by
  cases r <;> first | (cases e; rfl) | cases e
end
section
variable {K : PySem.W.Frag} {W : WX} {c : Ct} {σ : L2.St} {H F : Hp} {ρ : En}
theorem lt_of_get {α : Type} {l : List α} {i : Nat} {a : α} (e : l[i]? = some a) : i < l.length := by
  rcases Nat.lt_or_ge i l.length with h | h
  · exact h
  · rw [List.getElem?_eq_none h] at e; cases e
/-- the dict is kept apart, the slot empty -/
theorem Ok.lockO {i : Nat} {kvs : DK} (ok : Ok K c σ H F ρ) (e : ρ[i]? = some (.dct kvs)) :
    ∃ p o, σ[i]? = some (some (.ref p)) ∧ H p = some o ∧ HK K F p o kvs ∧ c.pr p = none ∧ Ok K (c.put p o) σ H F (ρ.set i .un) := by
  obtain ⟨p, ws, a1, a2, a3, a4, a5, a6⟩ := ok.dcs.at' i kvs e
  have nl : ∀ {vs : List V}, H p ≠ some (.lst vs) := fun {vs} z => by rw [a2] at z; cases z; exact a3.noLst
  have hi := lt_of_get e
  have oth : ∀ {j : Nat} {u : Sl}, (ρ.set i .un)[j]? = some u → u ≠ .un → i ≠ j ∧ ρ[j]? = some u := fun {j u} q n => by
    rw [get_set hi] at q
    by_cases z : i = j
    · rw [if_pos z] at q; exact absurd (Option.some.inj q).symm n
    · rw [if_neg z] at q; exact ⟨z, q⟩
  refine ⟨p, ws, a1, a2, a3, a6, ?_⟩
  refine ⟨by rw [List.length_set]; exact ok.len, ok.sub, ok.ge, ok.fe, ok.keep, fun q z => ?_, fun b u q => ?_, fun j d q => ?_, fun j es q => ?_, fun j es q => ?_, fun j ns q => ?_, fun j k es fs q x y u w => ?_, ?_⟩
  · obtain ⟨b1, b2, b3, b4⟩ := ok.iod q z
    have ne : q ≠ p := fun z => by subst z; exact b2 a5
    exact ⟨b1, b2, (upd_ne ne).trans b3, b4⟩
  · by_cases z : b = p
    · subst z
      have q' : upd c.pr b ws b = some u := q
      rw [upd_same] at q'; cases q'
      exact ⟨a2, a4, a5⟩
    · exact ok.prt b u ((upd_ne z).symm.trans q)
  · exact ok.val j d (oth q (by intro z; cases z)).2
  · obtain ⟨r, vs, b1, b2, b3, b4, b5, b6⟩ := ok.own j es (oth q (by intro z; cases z)).2
    have ne : r ≠ p := fun z => by subst z; exact nl b2
    exact ⟨r, vs, b1, b2, b3, b4, b5, (upd_ne ne).trans b6⟩
  · exact ok.ios j es (oth q (by intro z; cases z)).2
  · exact ok.scr j ns (oth q (by intro z; cases z)).2
  · exact ok.sep j k es fs q (oth x (by intro z; cases z)).2 (oth y (by intro z; cases z)).2 u w
  · refine (ok.dcs.setE hi).tr (Same.refl F) fun q o b1 b2 b3 b4 _ x => ⟨b1, b2, ?_⟩
    have ne : q ≠ p := fun z => by
      subst z
      rcases x with ⟨j, l, e1, e2⟩ | ⟨j, dss, e1, e2⟩
      · obtain ⟨ne0, q'⟩ := oth e1 (by intro z; cases z)
        exact ne0 (ok.dcs.sep i j kvs l q e q' a1 e2)
      · obtain ⟨⟨vs, h2⟩, _⟩ := (ok.dcs.setE (u := .un) hi).cell e1 e2
        exact nl h2
    exact (upd_ne ne).trans b4
theorem Dcs.atD {H0 pr : Hp} (h : Dcs K F H H0 pr σ ρ) (i : Nat) (kvs : List (Key × D)) (e : ρ[i]? = some (.dct (none, kvs))) : ∃ p ws, σ[i]? = some (some (.ref p)) ∧ H p = some (.dK ws) ∧ KVs K F ws kvs ∧ F p = none ∧ H0 p = none ∧ pr p = none := by
  obtain ⟨p, o, a1, a2, ⟨ws, rfl, a3⟩, a4⟩ := h.at' i _ e
  exact ⟨p, ws, a1, a2, a3, a4⟩
theorem Ok.lockD {i : Nat} {kvs : List (Key × D)} (ok : Ok K c σ H F ρ) (e : ρ[i]? = some (.dct (none, kvs))) :
    ∃ p ws, σ[i]? = some (some (.ref p)) ∧ H p = some (.dK ws) ∧ KVs K F ws kvs ∧ c.pr p = none ∧ Ok K (c.put p (.dK ws)) σ H F (ρ.set i .un) := by
  obtain ⟨p, o, a1, a2, ⟨ws, rfl, a3⟩, a4⟩ := ok.lockO e
  exact ⟨p, ws, a1, a2, a3, a4⟩
/-- the dict that was kept apart is slot i's -/
theorem Ok.asO {p : Addr} {ws : HO} {kvs : DK} {i : Nat} (ok : Ok K (c.put p ws) σ H F ρ) (hpr : c.pr p = none) (hi : i < ρ.length) (hs : σ[i]? = some (some (.ref p))) (hk : HK K F p ws kvs) : Ok K c σ H F (ρ.set i (.dct kvs)) := by
  obtain ⟨hH, hF, h0⟩ := ok.prt p _ upd_same
  have nown : ∀ {q : Addr}, (c.put p ws).pr q = none → q ≠ p := fun {q} a z => by
    subst z
    have a' : upd c.pr q ws q = none := a
    rw [upd_same] at a'; cases a'
  have ok' := ok_unput ok hpr
  have oth : ∀ {j : Nat} {u : Sl}, (ρ.set i (.dct kvs))[j]? = some u → (∀ l, u ≠ .dct l) → ρ[j]? = some u := fun {j u} q n => by
    rw [get_set hi] at q
    by_cases z : i = j
    · rw [if_pos z] at q; exact absurd (Option.some.inj q).symm (n kvs)
    · rw [if_neg z] at q; exact q
  refine ⟨by rw [List.length_set]; exact ok.len, ok'.sub, ok'.ge, ok'.fe, ok'.keep, ok'.iod, ok'.prt, fun j d q => ok'.val j d (oth q (by intro _ z; cases z)), fun j es q => ok'.own j es (oth q (by intro _ z; cases z)), fun j es q => ok'.ios j es (oth q (by intro _ z; cases z)), fun j ns q => ok'.scr j ns (oth q (by intro _ z; cases z)),
    fun j k es fs q x y u w => ok'.sep j k es fs q (oth x (by intro _ z; cases z)) (oth y (by intro _ z; cases z)) u w, ?_⟩
  refine ⟨fun j l q => ?_, fun j k l m q x y u w => ?_, fun j l q => ok'.dcs.nat j l (oth q (by intro _ z; cases z)), fun j k l es q x y u w => ok'.dcs.nown j k l es q (oth x (by intro _ z; cases z)) (oth y (by intro _ z; cases z)) u w,
    fun j k l m q x y u w => ok'.dcs.nsep j k l m q (oth x (by intro _ z; cases z)) (oth y (by intro _ z; cases z)) u w, fun j k l es q x y u w => ?_⟩
  · rw [get_set hi] at q
    by_cases z : i = j
    · rw [if_pos z] at q
      subst z
      cases q
      exact ⟨p, ws, hs, hH, hk, hF, h0, hpr⟩
    · rw [if_neg z] at q
      exact ok'.dcs.at' j l q
  · rw [get_set hi] at x y
    have dif : ∀ {j : Nat} {l : DK}, ρ[j]? = some (.dct l) → σ[j]? = some (some (.ref p)) → False := fun {j l} a b => by
      obtain ⟨r, vs, b1, _, _, _, _, b6⟩ := ok.dcs.at' j l a
      rw [b] at b1
      cases b1
      exact nown b6 rfl
    by_cases z : i = j
    · by_cases z2 : i = k
      · rw [← z, z2]
      · rw [if_neg z2] at y
        rw [← z, hs] at u
        cases u
        exact (dif y w).elim
    · rw [if_neg z] at x
      by_cases z2 : i = k
      · rw [← z2, hs] at w
        cases w
        exact (dif x u).elim
      · rw [if_neg z2] at y
        exact ok'.dcs.sep j k l m q x y u w
  · rw [get_set hi] at x
    have y' := oth y (by intro _ z; cases z)
    by_cases z : i = j
    · rw [← z, hs] at u
      cases u
      obtain ⟨r, vs, b1, _, _, _, _, b6⟩ := ok.own k es y'
      rw [w] at b1
      cases b1
      exact nown b6 rfl
    · rw [if_neg z] at x
      exact ok'.dcs.down j k l es q x y' u w
theorem Ok.asD {p : Addr} {ws : List (Key × V)} {kvs : List (Key × D)} {i : Nat} (ok : Ok K (c.put p (.dK ws)) σ H F ρ) (hpr : c.pr p = none) (hi : i < ρ.length) (hs : σ[i]? = some (some (.ref p))) (hk : KVs K F ws kvs) : Ok K c σ H F (ρ.set i (.dct (none, kvs))) := ok.asO hpr hi hs (.dct hk)
def mDct (i : Nat) : M (List (Key × D)) := fun ρ => match ρ[i]? with
  | some (.dct (none, kvs)) => some (.ok kvs ρ)
  | _ => none
def mPutD (i : Nat) (kvs : List (Key × D)) : M Unit := fun ρ => match ρ[i]? with
  | some (.dct (none, _)) => some (.ok () (ρ.set i (.dct (none, kvs))))
  | _ => none
theorem dct_at {α : Type} {i : Nat} {G : α → Hp → Hp → Prop} {f : List (Key × D) → M α} (h : post K W c σ F G (mBind (mDct i) f ρ)) : ∃ kvs, ρ[i]? = some (.dct (none, kvs)) ∧ post K W c σ F G (f kvs ρ) := by
  unfold mBind mDct at h
  cases e : ρ[i]? with
  | none => rw [e] at h; exact h.elim
  | some u =>
    rw [e] at h
    cases u with
    | dct l =>
      obtain ⟨t, kvs⟩ := l
      cases t with
      | none => exact ⟨kvs, rfl, h⟩
      | some _ => exact h.elim
    | un => exact h.elim
    | val _ => exact h.elim
    | own _ => exact h.elim
    | io _ => exact h.elim
    | scr _ => exact h.elim
    | nst _ => exact h.elim
theorem dct_atS {i : Nat} {Dn : Ends} {f : List (Key × D) → M Fl} (h : postS K W c F Dn (mBind (mDct i) f ρ)) : ∃ kvs, ρ[i]? = some (.dct (none, kvs)) ∧ postS K W c F Dn (f kvs ρ) := by
  unfold mBind mDct at h
  cases e : ρ[i]? with
  | none => rw [e] at h; exact h.elim
  | some u =>
    rw [e] at h
    cases u with
    | dct l =>
      obtain ⟨t, kvs⟩ := l
      cases t with
      | none => exact ⟨kvs, rfl, h⟩
      | some _ => exact h.elim
    | un => exact h.elim
    | val _ => exact h.elim
    | own _ => exact h.elim
    | io _ => exact h.elim
    | scr _ => exact h.elim
    | nst _ => exact h.elim
theorem Ok.chgD {i : Nat} {kvs kvs' : List (Key × D)} {ws' : List (Key × V)} {p : Addr} (ok : Ok K c σ H F ρ) (e : ρ[i]? = some (.dct (none, kvs))) (hp : σ[i]? = some (some (.ref p))) (hk : KVs K F ws' kvs') : Ok K c σ (upd H p (.dK ws')) F (ρ.set i (.dct (none, kvs'))) := by
  obtain ⟨p', ws, a1, a2, a3, a4, ok1⟩ := ok.lockD e
  have ep : p' = p := by rw [hp] at a1; cases a1; rfl
  subst ep
  have q := (ok1.putP (o' := .dK ws')).asD a4 (by rw [List.length_set]; exact lt_of_get e) a1 hk
  rw [List.set_set] at q
  exact q
theorem putD_okS {i : Nat} {kvs : List (Key × D)} {ws' : List (Key × V)} {p : Addr} {Dn : Ends} {f : Unit → M Fl} (ok : Ok K c σ H F ρ) (hp : σ[i]? = some (some (.ref p))) (hk : KVs K F ws' kvs)
    (h : postS K W c F Dn (mBind (mPutD i kvs) f ρ)) : ∃ ρ', Ok K c σ (upd H p (.dK ws')) F ρ' ∧ postS K W c F Dn (f () ρ') := by
  unfold mBind mPutD at h
  cases e : ρ[i]? with
  | none => rw [e] at h; exact h.elim
  | some u =>
    rw [e] at h
    cases u with
    | dct l =>
      obtain ⟨t, es⟩ := l
      cases t with
      | none => exact ⟨_, ok.chgD e hp hk, h⟩
      | some _ => exact h.elim
    | un => exact h.elim
    | val _ => exact h.elim
    | own _ => exact h.elim
    | io _ => exact h.elim
    | scr _ => exact h.elim
    | nst _ => exact h.elim
/-- d[k] = v -/
def mSetDict (i : Nat) (mk mv : M D) : M Fl := mBind mv fun d => mBind (mDct i) fun _ => mBind mk fun k => mBind (mDct i) fun kvs => mBind (mLift ((keyD k).bind fun k => if fit kvs.length = true then some (setKD kvs k d) else none)) fun q => mBind (mPutD i q) fun _ => mDone
theorem sDPut_of {i : Nat} {mk mv : M D} {Dn : Ends} (h : tS K W (mSetDict i mk mv) Dn σ H) : sDPut (tVar i) (tE K W mk) (tE K W mv) Dn σ H := by
  obtain ⟨c, F, ρ, ok, h⟩ := h
  refine ⟨c, F, ρ, ok, post_mono ?_ (postS_bind h)⟩
  rintro d H1 F1 _ ⟨ρ1, ok1, s1, h1⟩ v rv
  obtain ⟨kvs0, e0, h1⟩ := dct_atS h1
  obtain ⟨p, ws0, a1, a2, a3, _⟩ := ok1.dcs.atD i kvs0 e0
  refine ⟨.ref p, a1, c, F1, ρ1, ok1, post_mono ?_ (postS_bind h1)⟩
  rintro k H2 F2 _ ⟨ρ2, ok2, s2, h2⟩ y ry
  obtain ⟨kvs, e, h2⟩ := dct_atS h2
  obtain ⟨p', ws, b1, b2, b3, _⟩ := ok2.dcs.atD i kvs e
  have ep : p' = p := by rw [a1] at b1; cases b1; rfl
  subst ep
  obtain ⟨kvs', e2, h3⟩ := post_lift (postS_bind (σ := σ) h2)
  obtain ⟨ρ3, ok3, s3, h4⟩ := h3 H2 F2 ok2 (Same.refl F2)
  cases ek : keyD k with
  | none => rw [ek] at e2; cases e2
  | some kk =>
    rw [ek] at e2
    have e2 : (if fit kvs.length = true then some (setKD kvs kk d) else none) = some kvs' := e2
    have ey := key_is ry ek
    subst ey
    by_cases hf : fit kvs.length = true
    · rw [if_pos hf] at e2
      cases e2
      refine ⟨p', _, rfl, DPut.k b2 (by rw [KVs.length b3]; have := of_decide_eq_true hf; rw [sizeLine_eq]; omega), ?_⟩
      obtain ⟨ρ4, ok4, h5⟩ := putD_okS (ws' := putK ws kk v) ok3 b1 (KVs.putk b3 (Dp.mono s2 rv)) h4
      exact h5 _ _ _ ok4 (Same.refl F2)
    · rw [if_neg hf] at e2; cases e2
end
end Dd

namespace Dd
open PySem PySem.Spec L2
section
variable {K : PySem.W.Frag} {W : WX} {σ : L2.St} {H : Hp}
end
section
variable {X : Cx} {W : WX}
end
end Dd
namespace Dd
open PySem PySem.Spec L2
section
variable {X : Cx} {W : WX}
theorem dSetDict {i : Nat} {o k e : Expr} {mk mv : M D} {pos pos' : Pos} (hu : X.A.units + 1 < cLine) (ho : PE X o (tVar i)) (hk : PE X k (tE X.K W mk)) (he : PE X e (tE X.K W mv)) (hs : swapsWith e (some (.Subscript o k pos')) pos.line X.env = pure false := by rfl) : PS X (.Assign [.Subscript o k pos'] e pos) (tS X.K W (mSetDict i mk mv)) :=
  PS.imp (ps_dput hu ho hk he hs) fun _ _ _ => sDPut_of
end
end Dd

namespace Dd
open PySem PySem.Spec L2
/-! ### a slot's own list of own lists -/
section
variable {K : PySem.W.Frag} {W : WX} {c : Ct} {σ : L2.St} {H F H' : Hp} {ρ : En}
theorem Inn.mono2 {F H H1 H0 pr : Hp} : ∀ {qs : List Addr} {dss : List (List D)}, Inn K F H H0 pr qs dss → (∀ q ∈ qs, H1 q = H q) → Inn K F H1 H0 pr qs dss
  | _, _, .nil, _ => .nil
  | _, _, .cons h d m t, k => .cons (by rw [k _ List.mem_cons_self]; exact h) d m (Inn.mono2 t fun q hq => k q (List.mem_cons_of_mem _ hq))
theorem Inn.get {F H H0 pr : Hp} : ∀ {qs : List Addr} {dss : List (List D)} {k : Nat} {ds : List D}, Inn K F H H0 pr qs dss → dss[k]? = some ds → ∃ q vs, qs[k]? = some q ∧ H q = some (.lst vs) ∧ DpAll K F vs ds
  | _, _, _, _, .nil, e => by simp at e
  | _, _, 0, _, .cons h d m t, e => by
    simp at e; subst e
    exact ⟨_, _, rfl, h, d⟩
  | _, _, k + 1, _, .cons h d m t, e => by
    obtain ⟨q, vs, a, b, c⟩ := Inn.get (k := k) t (by simpa using e)
    exact ⟨q, vs, by simpa using a, b, c⟩
theorem Inn.length {F H H0 pr : Hp} : ∀ {qs : List Addr} {dss : List (List D)}, Inn K F H H0 pr qs dss → qs.length = dss.length
  | _, _, .nil => rfl
  | _, _, .cons _ _ _ t => by rw [List.length_cons, List.length_cons, Inn.length t]
/-- one of the lists is another now -/
theorem Inn.put {F H H0 pr : Hp} {vs' : List V} {ds' : List D} (hd : DpAll K F vs' ds') : ∀ {qs : List Addr} {dss : List (List D)} {k : Nat} {q : Addr}, Inn K F H H0 pr qs dss → qs[k]? = some q → qs.Nodup → Inn K F (upd H q (.lst vs')) H0 pr qs (dss.set k ds')
  | _, _, _, _, .nil, e, _ => by simp at e
  | _, _, 0, q, .cons h d m t, e, hn => by
    simp at e; subst e
    obtain ⟨n1, _⟩ := List.nodup_cons.mp hn
    exact .cons upd_same hd m (Inn.mono2 t fun q hq => upd_ne fun z => by subst z; exact n1 hq)
  | _, _, k + 1, q, .cons h d m t, e, hn => by
    obtain ⟨n1, n2⟩ := List.nodup_cons.mp hn
    have e' := (by simpa using e : _[k]? = some q)
    exact .cons (by rw [upd_ne fun z => by subst z; exact n1 (List.mem_of_getElem? e')]; exact h) d m (Inn.put hd t e' n2)
theorem Inn.snoc {F H H0 pr : Hp} {q : Addr} {vs : List V} {ds : List D} (h0 : H q = some (.lst vs)) (hd : DpAll K F vs ds) (hm : Mine F H0 pr q) : ∀ {qs : List Addr} {dss : List (List D)}, Inn K F H H0 pr qs dss → Inn K F H H0 pr (qs ++ [q]) (dss ++ [ds])
  | _, _, .nil => .cons h0 hd hm .nil
  | _, _, .cons h d m t => .cons h d m (Inn.snoc h0 hd hm t)
theorem Inn.dp {F H H0 pr F' : Hp} (s : Same F F') : ∀ {qs : List Addr} {dss : List (List D)}, Inn K F H H0 pr qs dss → (∀ q ∈ qs, ∀ o, H q = some o → F' q = some o) → DpAll K F' (qs.map V.ref) (dss.map PyData.list)
  | _, _, .nil, _ => .nil
  | _, _, .cons h d m t, k => .cons (.lst (.inl (k _ List.mem_cons_self _ h)) (DpAll.mono s d)) (Inn.dp s t fun q hq => k q (List.mem_cons_of_mem _ hq))
end
end Dd

namespace Dd
open PySem PySem.Spec L2
section
variable {K : PySem.W.Frag} {W : WX} {c : Ct} {σ : L2.St} {H F H2 F2 : Hp} {ρ ρ2 : En}
open Classical in
open Classical in
end
end Dd

namespace Dd
open PySem PySem.Spec L2
section
variable {K : PySem.W.Frag} {W : WX} {σ : L2.St} {H : Hp} {Dn : Ends} {i n : Nat}
end
end Dd

/-! ### an own exception's further fields, whatever built-in class it is under -/
namespace PySem
namespace OwnE
open PySem.W PySem.Calls PyProof.Rows PySem.HandSPX
open Builtin Builtin.ObjectAttr
variable {prog : Program} {w : World} {A : Around} {E : Value → Shared → Prop} {R : Result → Shared → Prop} {hp : Heap} {g : Array GenState} {d : Drawn} {t : Nat} {os : OsState} {K : Frag} {B : String} {bmB : List Value}
end OwnE
end PySem

namespace Dd
open PySem PySem.Spec L2 PyProof.Rows
/-! ### raise C(e, f): two fields -/
section
variable {X : Cx} {W : WX} {e : Expr} {cn f g : Str} {C : Addr} {ms : M (List D)} {pos : Pos}
end
/-! ### a suite with an if: which class is it -/
section
variable {X : Cx} {a C dd : Addr} {i : Nat} {cls : Value} {d : Option Addr} {oe : Obj} {pn : List (Addr × Obj)} {cn f : Str} {pos p : Pos} {e ec : Expr} {es : List Expr}
end
section
variable {X : Cx} {Wout : WX} {x n cn y : Str} {c : Value} {C : Addr} {i v : Nat} {body : List Stmt} {es : List Expr} {np pos pos' yp tp sp ip : Pos} {kk : Nat} {mb : M Fl} {ps : List Pt} {test : Expr}
end
end Dd

namespace Dd
open PySem PySem.Spec L2
section
variable {K : PySem.W.Frag} {W : WX} {σ : L2.St} {H F : Hp} {c : Ct} {ρ : En} {i n : Nat}
end
end Dd

namespace Dd
open PySem PySem.Spec L2
section
variable {K : PySem.W.Frag} {W : WX} {σ : L2.St} {H F : Hp} {c : Ct} {ρ : En} {i n : Nat}
/-- the lists and what they hold, the last first -/
inductive Lay (K : PySem.W.Frag) (F : Hp) : List (Addr × List V) → List (List D) → Prop
  | nil : Lay K F [] []
  | cons {q : Addr} {vs : List V} {ds : List D} {l : List (Addr × List V)} {dss : List (List D)} : DpAll K F vs ds → Lay K F l dss → Lay K F ((q, vs) :: l) (dss ++ [ds])
theorem Lay.mono {F' : Hp} (s : Same F F') : ∀ {l : List (Addr × List V)} {dss : List (List D)}, Lay K F l dss → Lay K F' l dss
  | _, _, .nil => .nil
  | _, _, .cons h t => .cons (DpAll.mono s h) (Lay.mono s t)
theorem Lay.length : ∀ {l : List (Addr × List V)} {dss : List (List D)}, Lay K F l dss → l.length = dss.length
  | _, _, .nil => rfl
  | _, _, .cons _ t => by rw [List.length_cons, List.length_append, Lay.length t]; rfl
end
end Dd

namespace Dd
open PySem PySem.Spec L2
section
variable {K : PySem.W.Frag} {W : WX} {σ : L2.St} {H : Hp} {i j : Nat} {Dn : Ends}
end
section
variable {X : Cx} {W : WX} {i j : Nat} {x y : Str} {px py pt pt2 pos lp : Pos} {kt k2 : Nat}
end
end Dd

namespace Dd
open PySem PySem.Spec L2
section
variable {K : PySem.W.Frag} {W : WX} {σ : L2.St} {H : Hp} {i kk : Nat} {Dn : Ends}
end
end Dd

namespace Dd
open PySem PySem.Spec L2
section
variable {X : Cx} {W : WX} {K : PySem.W.Frag} {i kk : Nat} {o k b v : Expr} {mk mj mb : M D} {pos p p1 p2 p3 p4 p5 p6 p7 lp : Pos}
end
end Dd

namespace Dd
open PySem PySem.Spec L2 PyProof.Rows
section
variable {X : Cx} {W : WX} {K : PySem.W.Frag} {σ : L2.St} {H F : Hp} {ρ : En} {c : Ct} {Dn : Ends} {i j l : Nat} {ma mb mc : M D}
variable {x y z : Str} {a b cc : Expr} {px py pz pt pt2 pos : Pos} {kt k2 : Nat}
end
end Dd

namespace Dd
open PySem PySem.Spec L2 PyProof.Rows
/-! ### texts: join, split, <=, in, sign by sign -/
def strD : D → Option Str
  | .str z => some z
  | _ => none
def strsD : List D → Option (List Str)
  | [] => some []
  | .str z :: r => (strsD r).map (z :: ·)
  | _ => none
theorem strsD_is {K : PySem.W.Frag} {F : Hp} : ∀ {vs : List V} {ds : List D} {ys : List Str}, DpAll K F vs ds → strsD ds = some ys → vs = ys.map V.str
  | _, _, _, .nil, e => by cases e; rfl
  | _, _, ys, .cons (v := v) (vs := vs) (d := d) (ds := ds) h t, e => by
    cases d with
    | str z =>
      have e : (strsD ds).map (z :: ·) = some ys := e
      cases q : strsD ds with
      | none => rw [q] at e; cases e
      | some zs =>
        rw [q] at e
        cases e
        cases h
        rw [strsD_is t q]; rfl
    | none => cases e
    | bool b => cases e
    | int i => cases e
    | list l => cases e
    | tuple l => cases e
    | dict l => cases e
theorem Dp.strV {K : PySem.W.Frag} {F : Hp} {x : V} {z : Str} (h : Dp K F x (.str z)) : x = .str z := by cases h; rfl
theorem strD_is {d : D} {z : Str} (h : strD d = some z) : d = .str z := by
  unfold strD at h
  split at h
  · cases h; rfl
  · cases h
def joinOk (z : Str) (ys : List Str) : Bool := decide ((ys.map (·.length)).sum + ys.length * z.length ≤ 16777216)
def joinS (z : Str) (b : D) : Option D := (itemsD b).bind fun ds => (strsD ds).bind fun ys => if joinOk z ys = true then some (.str (Txt.join z ys)) else none
def mJoin (mo me : M D) : M D := mBind mo fun a => mBind (mLift (strD a)) fun z => mBind me fun b => mLift (joinS z b)
def splitS (z : Str) (b : D) : Option (List D) := (strD b).bind fun y => if (!(y.length == 0) && fit (z.length + 2)) = true then some ((Txt.split z y).map PyData.str) else none
def mSplitN (mo me : M D) : M (List D) := mBind mo fun a => mBind (mLift (strD a)) fun z => mBind me fun b => mLift (splitS z b)
section
variable {X : Cx} {W : WX} {K : PySem.W.Frag} {σ : L2.St} {H F : Hp} {ρ : En} {c : Ct} {mo me m : M D} {o e tg : Expr} {p pos apos : Pos}
def rJoin (K : PySem.W.Frag) : V → List V → Hp → VK → Prop := fun x xs H Q => ∃ a p, ∃ ys : List Str, x = .str a ∧ xs = [.ref p] ∧ (SqL K H p (ys.map V.str) ∨ SqT K H p (ys.map V.str)) ∧ (ys.map (·.length)).sum + ys.length * a.length ≤ 16777216 ∧ Q (.str (Txt.join a ys)) H
theorem join_of {Q : VK} (h : tE K W (mJoin mo me) σ H Q) : tM1 (rJoin K) (tE K W mo) (tP K W me) σ H Q := by
  obtain ⟨c, F, ρ, ok, h⟩ := h
  refine ⟨c, F, ρ, ok, post_mono ?_ (post_bind h)⟩
  rintro a H1 F1 _ ⟨ρ1, ok1, s1, h1⟩ x rx
  unfold mBind at h1
  cases ez : strD a with
  | none => rw [ez] at h1; exact h1.elim
  | some z =>
    rw [ez] at h1
    have ea := strD_is ez
    subst ea
    obtain rfl := rx.strV
    have h1' : post K W c σ F1 (qE K Q) (mBind me (fun b => mLift (joinS z b)) ρ1) := h1
    refine ⟨⟨z, rfl⟩, c, F1, ρ1, ok1, post_mono ?_ (post_bind h1')⟩
    rintro b H2 F2 _ ⟨ρ2, ok2, s2, h2⟩ y ry
    obtain ⟨d, e, h3⟩ := post_lift h2
    unfold joinS at e
    cases ei : itemsD b with
    | none => rw [ei] at e; cases e
    | some ds =>
      rw [ei] at e
      have e : ((strsD ds).bind fun ys => if joinOk z ys = true then some (PyData.str (Txt.join z ys)) else none) = some d := e
      cases es : strsD ds with
      | none => rw [es] at e; cases e
      | some ys =>
        rw [es] at e
        have e : (if joinOk z ys = true then some (PyData.str (Txt.join z ys)) else none) = some d := e
        split at e
        · rename_i hj
          cases e
          have hj' := of_decide_eq_true hj
          unfold itemsD at ei
          split at ei
          · cases ei
            obtain ⟨p, vs, rfl, hp, dp⟩ := Pk.lst ok2.sub ry
            obtain rfl := strsD_is dp es
            exact ⟨z, p, ys, rfl, rfl, .inl hp, hj', post_ok h3 ok2 _ (.str _)⟩
          · cases ei
            obtain ⟨p, vs, rfl, hp, dp⟩ := Pk.tup ok2.sub ry
            obtain rfl := strsD_is dp es
            exact ⟨z, p, ys, rfl, rfl, .inr hp, hj', post_ok h3 ok2 _ (.str _)⟩
          · cases ei
        · cases e
theorem dJoin (ho : PE X o (tE X.K W mo)) (he : PE X e (tP X.K W me)) (hs : starEach [e] X.env = [(false, eval e X.env)] := by rfl) (hbase : attributeBase o "join" X.env (eval o X.env) = eval o X.env := by rfl) (hline : (apos.endLine == pos.line) = true := by rfl) :
    PE X (.Call (.Attribute o "join" apos) [e] [] pos) (tE X.K W (mJoin mo me)) := PE.imp (pe_join ho he hs hbase hline) fun _ _ _ => join_of
theorem vals_strs : ∀ ys : List Str, DpAll K F (ys.map V.str) (ys.map PyData.str)
  | [] => .nil
  | y :: ys => .cons (.str y) (vals_strs ys)
theorem split_of {Q : VK} (h : tN K W (mSplitN mo me) σ H Q) : tM1 (fun x xs H Q => ∃ a b, x = .str a ∧ xs = [.str b] ∧ (b.length == 0) = false ∧ a.length + 2 ≤ sizeLine ∧ rNewStrs (Txt.split a b) H Q) (tE K W mo) (tE K W me) σ H Q := by
  obtain ⟨c, F, ρ, ok, h⟩ := h
  refine ⟨c, F, ρ, ok, post_mono ?_ (postN_bind h)⟩
  rintro a H1 F1 _ ⟨ρ1, ok1, s1, h1⟩ x rx
  unfold mBind at h1
  cases ez : strD a with
  | none => rw [ez] at h1; exact h1.elim
  | some z =>
    rw [ez] at h1
    have ea := strD_is ez
    subst ea
    obtain rfl := rx.strV
    have h1' : postN K W c σ F1 Q (mBind me (fun b => mLift (splitS z b)) ρ1) := h1
    refine ⟨⟨z, rfl⟩, c, F1, ρ1, ok1, post_mono ?_ (postN_bind h1')⟩
    rintro b H2 F2 _ ⟨ρ2, ok2, s2, h2⟩ y ry
    obtain ⟨out, e, h3⟩ := postN_lift h2
    unfold splitS at e
    cases eb : strD b with
    | none => rw [eb] at e; cases e
    | some t =>
      rw [eb] at e
      have e : (if (!(t.length == 0) && fit (z.length + 2)) = true then some ((Txt.split z t).map PyData.str) else none) = some out := e
      have ea := strD_is eb
      subst ea
      obtain rfl := ry.strV
      split at e
      · rename_i hf
        cases e
        rw [Bool.and_eq_true] at hf
        refine ⟨z, t, rfl, rfl, by simpa using hf.1, fit_le hf.2, fun p hp => new_N ok2 (vals_strs _) h3 p hp⟩
      · cases e
theorem dSplitN (ho : PE X o (tE X.K W mo)) (he : PE X e (tE X.K W me)) (hs : starEach [e] X.env = [(false, eval e X.env)] := by rfl) (hbase : attributeBase o "split" X.env (eval o X.env) = eval o X.env := by rfl) (hline : (apos.endLine == pos.line) = true := by rfl) :
    PE X (.Call (.Attribute o "split" apos) [e] [] pos) (tN X.K W (mSplitN mo me)) := PE.imp (pe_split ho he hs hbase hline) fun _ _ _ => split_of
/-- s <= t -/
def leS : D → D → Option D
  | .str i, .str j => some (.bool (!decide (j.cps.toList < i.cps.toList)))
  | _, _ => none
def rLeS : R2 := fun x y H Q => ∃ i j, x = .str i ∧ y = .str j ∧ Q (.bl (!decide (j.cps.toList < i.cps.toList))) H
theorem or_leS : OpR X (compareOp .LtE) rLeS := op_le_str
theorem opD_leS : OpD K rLeS leS := by
  intro W c σ H F ρ x y a b d Q ok rx ry e q
  unfold leS at e
  split at e
  · cases e
    exact ⟨_, _, rx.str, ry.str, post_ok q ok _ (.bl _)⟩
  · cases e
/-- sign by sign -/
def signL (z : Str) : List D := z.cps.toList.map fun c => .str ⟨#[c]⟩
def signsD : D → Option (List D)
  | .str z => some (signL z)
  | _ => none
def mSigns (m : M D) : M (List D) := mBind m fun d => mLift (signsD d)
theorem its_D (z : Str) : ItD K F (Its z) (signL z) where
  go := fun H i s hi => by
    have : (signL z).length = z.cps.size := by unfold signL; rw [List.length_map, Array.length_toList]
    show i < z.cps.size
    omega
  stop := fun H i s hi => by
    have : (signL z).length = z.cps.size := by unfold signL; rw [List.length_map, Array.length_toList]
    show z.cps.size ≤ i
    omega
  yld := fun H i x H' d s q y => by
    obtain ⟨e, k, hk, rfl⟩ := y
    unfold signL at q
    rw [List.getElem?_map, Array.getElem?_toList, hk] at q
    cases q
    exact .inl ⟨e, .str _⟩
theorem diSigns (he : PE X e (tE X.K W m)) : PI X tg e (tI X.K W (mSigns m)) := PI.imp (pi_str he) (by
  rintro σ H R ⟨c, F, ρ, ok, h⟩
  refine ⟨c, F, ρ, ok, post_mono ?_ (post_bind h)⟩
  rintro d H1 F1 _ ⟨ρ1, ok1, s1, h1⟩ v rv
  obtain ⟨ds, e, h2⟩ := post_lift h1
  unfold signsD at e
  split at e
  · cases e
    exact ⟨_, rv.strV, h2 H1 F1 ok1 (Same.refl F1) _ (its_D _)⟩
  · cases e)
end
end Dd

namespace Dd
open PySem PySem.Spec L2 PyProof.Rows
/-! ### a zip whose last tuple is still held, over any two that are drawn from -/
section
variable {prog : Program} {w : World} {A : Around} {E : Value → Shared → Prop} {s : Shared}
variable {z TI TO T i1 i2 : Addr} {fp1 fp2 : List Addr} {n1 n2 i : Nat} {P1 P2 : Nat → Value → Prop} {St1 St2 : Nat → Heap → Prop} {f : Bool} {oT : Obj}
end
end Dd

namespace Dd
open PySem PySem.Spec L2 PyProof.Rows
/-! ### list(an iterator) -/
/-- an iterator at it whose items are kept in a list at q -/
structure ItW (P : Program) (w : World) (K : PySem.W.Frag) (J : It) (fp : List Addr) (it : Addr) (T : String) (q : Addr) (tn : Nat → Heap → Prop) : Prop where
  mem : it ∈ fp
  typ : ∀ i h, tn i h → ∃ o, h.get? it = some o ∧ o.cls = .type T
  obj : ∀ i h, tn i h → ∀ b ∈ fp, ∃ o, h.get? b = some o
  keep : ∀ i h h', tn i h → (∀ b o, b ≠ q → h.get? b = some o → h'.get? b = some o) → tn i h'
  item : ∀ (X : Cx), X.prog = P → X.w = w → X.K = K → X.calm = true → ∀ (i : Nat) (pins : List (Addr × Obj)) (s : Shared) (σ : L2.St) (H : Hp) (E : Value → Shared → Prop), Inv X pins σ H s → (∀ b ∈ fp, FpOk X pins H b) → tn i s.heap → (∃ o, s.heap.get? q = some o) → J.go i H →
    wpAny (model P w) X.A (pyNext (.ref it)) (fun r s1 => ∃ u x H', r = some u ∧ Inv X pins σ H' s1 ∧ RelV x u ∧ J.yld i H x H' ∧ tn (i + 1) s1.heap ∧ ∀ b ∈ fp, H' b = none) E s
  done : ∀ (X : Cx), X.prog = P → X.w = w → X.K = K → X.calm = true → ∀ (i : Nat) (pins : List (Addr × Obj)) (s : Shared) (σ : L2.St) (H : Hp) (E : Value → Shared → Prop), Inv X pins σ H s → (∀ b ∈ fp, FpOk X pins H b) → tn i s.heap → J.stop i H →
    wpAny (model P w) X.A (pyNext (.ref it)) (fun r s1 => r = none ∧ Inv X pins σ H s1) E s
  self : ∀ (A : Around) (i : Nat) (s : Shared) (Q : Value → Shared → Prop) (E : Value → Shared → Prop), tn i s.heap → Q (.ref it) s → wpAny (model P w) A (pyIter (.ref it)) Q E s
  notL : T ≠ "list" ∧ T ≠ "tuple"
  hint : ∀ (A : Around) (i : Nat) (s : Shared) (Q : Bool → Shared → Prop) (E : Value → Shared → Prop), tn i s.heap → (∀ b, Q b s) → wpAny (model P w) A (Builtin.List.listLengthHint (.ref it)) Q E s
section
variable {X : Cx} {pins : List (Addr × Obj)} {σ : L2.St} {H : Hp} {s : Shared} {A1 : Around} {J : It} {fp : List Addr} {it q : Addr} {T : String} {tn : Nat → Heap → Prop} {n : Nat} {Pv : Nat → List V → Hp → Prop} {R : List V → Hp → Prop} {Rs : Result → Shared → Prop}
end
/-- an expression whose value is an iterator -/
def PIV (X : Cx) (e : Expr) (wi : TI) : Prop := ∀ (pins : List (Addr × Obj)) (s : Shared) (σ : L2.St) (H : Hp) (R : It → Hp → Prop), Inv X pins σ H s → wi σ H R →
  wpAny (model X.prog X.w) X.A (eval e X.env) (fun v s2 => ∃ (it : Addr) (fp : List Addr) (T : String) (J : It) (H' : Hp), v = .ref it ∧ Inv X pins σ H' s2 ∧ (∀ b ∈ fp, FpOk X pins H' b) ∧ (∀ b ∈ fp, b < s2.heap.objs.size) ∧ R J H' ∧
    ∀ q, s2.heap.objs.size ≤ q → ∃ tn, ItW X.prog X.w X.K J fp it T q tn ∧ tn 0 s2.heap) X.xe s
section
variable {X : Cx} {e : Expr} {p pos : Pos} {wi : TI}
end
end Dd

namespace Dd
open PySem PySem.Spec L2 PyProof.Rows
section
variable {K : PySem.W.Frag}
end
theorem PIV.imp {X : Cx} {e : Expr} {wi wi' : TI} (h : PIV X e wi) (k : ∀ σ H R, wi' σ H R → wi σ H R) : PIV X e wi' := fun pins s σ H R I q => h pins s σ H R I (k σ H R q)
section
variable {X : Cx} {W : WX} {K : PySem.W.Frag} {σ : L2.St} {H : Hp} {mi : M (List D)}
variable {a b : Expr} {p pos p2 pos2 : Pos} {ms : M (List D)}
end
end Dd

namespace Dd
open PySem PySem.Spec L2 PyProof.Rows
/-! ### dicts as values: displays with text keys, d[k], d.get(k, x), k in d -/
def lookD (k : D) : List (D × D) → Option D
  | [] => none
  | (k', d) :: r => if keyD k' = keyD k then some d else lookD k r
section
variable {K : PySem.W.Frag} {F H : Hp}
theorem keyD_PD (k : Key) : keyD (keyPD k) = some k := by cases k <;> rfl
theorem DpKV.val {ws : List (Key × V)} {kvs : List (D × D)} (h : DpKV K F ws kvs) {k : Key} {kd : D} (e : keyD kd = some k) : (valV ws k = none ∧ lookD kd kvs = none) ∨ (∃ v d, valV ws k = some v ∧ lookD kd kvs = some d ∧ Dp K F v d) := by
  revert ws
  induction kvs with
  | nil =>
    intro ws h
    cases h
    exact .inl ⟨rfl, rfl⟩
  | cons p kvs ih =>
    intro ws h
    cases h with
    | cons hv ht =>
      rename_i k' v d ws
      by_cases q : k' = k
      · refine .inr ⟨v, d, by simp [valV, List.find?, q], ?_, hv⟩
        unfold lookD
        rw [keyD_PD, e, if_pos (by rw [q])]
      · have e1 : valV ((k', v) :: ws) k = valV ws k := by simp [valV, List.find?, q]
        have e2 : lookD kd ((keyPD k', d) :: kvs) = lookD kd kvs := by
          show (if keyD (keyPD k') = keyD kd then some d else lookD kd kvs) = _
          rw [keyD_PD, e, if_neg (fun z => q (Option.some.inj z))]
        rw [e1, e2]
        exact ih ht
theorem Rd.dget {a : Addr} {ws : List (Key × V)} {k : Key} (h : Rd H a (.dK ws)) : DGet H a (kV k) (valV ws k) := .inl ⟨ws, k, h, rfl, rfl⟩
end
def dgetE (a k z : D) : Option D := match a with
  | .dict kvs => if (keyD k).isSome = true then some ((lookD k kvs).getD z) else none
  | _ => none
def isDict : D → Option Unit
  | .dict kvs => if objD (.dict kvs) = true then none else some ()
  | _ => none
def mDGetE (mo mk mz : M D) : M D := mBind mo fun a => mBind (mLift (isDict a)) fun _ => mBind mk fun k => mBind mz fun z => mLift (dgetE a k z)
/-- the pairs of a display -/
def mPairN : M (List (Str × D)) := mPure []
def mPairC (k : Str) (m : M D) (r : M (List (Str × D))) : M (List (Str × D)) := mBind m fun d => mBind r fun ds => mPure ((k, d) :: ds)
def strKeys (kds : List (Str × D)) : List (D × D) := kds.map fun p => (.str p.1, p.2)
def mDisp (m : M (List (Str × D))) : M D := mBind m fun kds => mLift (if kds.length ≤ 15 ∧ (kds.map (·.1)).Nodup then some (.dict (strKeys kds)) else none)
section
variable {X : Cx} {W : WX} {K : PySem.W.Frag} {σ : L2.St} {H F : Hp} {ρ : En} {c : Ct} {mo mk mz m : M D} {o e f : Expr} {pos apos cpos : Pos}
theorem dgetE_of {Q : VK} (h : tE K W (mDGetE mo mk mz) σ H Q) : tDGet2 (tE K W mo) (tE K W mk) (tE K W mz) σ H Q := by
  obtain ⟨c, F, ρ, ok, h⟩ := h
  refine ⟨c, F, ρ, ok, post_mono ?_ (post_bind h)⟩
  rintro a H1 F1 _ ⟨ρ1, ok1, s1, h1⟩ x rx
  unfold mBind at h1
  cases a with
  | dict kvs =>
    cases rx with
    | ins _ _ _ _ => exact h1.elim
    | dct hr hkv =>
      have hin := objD_kv hkv
      have h1' : post K W c σ F1 (qE K Q) (mBind mk (fun k => mBind mz fun z => mLift (dgetE (.dict kvs) k z)) ρ1) := by
        have q := h1
        unfold isDict at q
        dsimp only at q
        rw [hin] at q
        exact q
      rename_i a ws
      refine ⟨a, rfl, .inl ⟨ws, Rd.mono ok1.sub hr⟩, c, F1, ρ1, ok1, post_mono ?_ (post_bind h1')⟩
      rintro k H2 F2 _ ⟨ρ2, ok2, s2, h2⟩ y ry
      refine ⟨c, F2, ρ2, ok2, post_mono ?_ (post_bind h2)⟩
      rintro z H3 F3 _ ⟨ρ3, ok3, s3, h3⟩ w rw'
      obtain ⟨d, e, h4⟩ := post_lift h3
      unfold dgetE at e
      dsimp only at e
      split at e
      · rename_i hk
        obtain ⟨kk, ek⟩ := Option.isSome_iff_exists.mp hk
        obtain rfl := key_is ry ek
        have g := Rd.dget (k := kk) (Rd.mono (s2.trans (s3.trans ok3.sub)) hr)
        refine ⟨_, g, ?_⟩
        rcases hkv.val ek with ⟨e1, e2⟩ | ⟨v, d', e1, e2, dv⟩
        · rw [e2] at e
          cases e
          rw [e1]
          exact post_ok h4 ok3 _ rw'
        · rw [e2] at e
          cases e
          rw [e1]
          exact post_ok h4 ok3 _ (Dp.mono (s2.trans s3) dv)
      · cases e
  | _ => exact h1.elim
theorem dDGetE (hu : X.A.units + 1 < cLine) (ho : PE X o (tE X.K W mo)) (he : PE X e (tE X.K W mk)) (hf : PE X f (tE X.K W mz)) (m2 : M2 X o "get" apos e f cpos := by exact ⟨rfl, rfl, rfl, rfl⟩) : PE X (.Call (.Attribute o "get" apos) [e, f] [] cpos) (tE X.K W (mDGetE mo mk mz)) := PE.imp (pe_dget2 hu ho he hf m2) fun _ _ _ => dgetE_of
/-- keys and values of a display, as rules -/
def PDs (X : Cx) (W : WX) (pos : Pos) (keys : List (Option Expr)) (values : List Expr) (m : M (List (Str × D))) : Prop := ∃ trs, PPs X pos keys values trs ∧ ∀ (σ : L2.St) (H : Hp) (Q : List (V × V) → Hp → Prop) (c : Ct) (F : Hp) (ρ : En), Ok X.K c σ H F ρ →
  post X.K W c σ F (fun kds H' F' => ∀ ws, DpAll X.K F' ws (kds.map (·.2)) → Q ((kds.map (·.1)).zipWith (fun k v => (V.str k, v)) ws) H') (m ρ) → tPairs trs σ H Q
theorem pdNil : PDs X W pos [] [] mPairN := ⟨[], pps_nil, fun σ H Q c F ρ ok h => (h H F ok (Same.refl F)) [] .nil⟩
theorem pdCons {k : Str} {ke ve : Expr} {ks : List (Option Expr)} {vs : List Expr} {m : M D} {r : M (List (Str × D))} (hk : PE X ke (fun σ H Q => Q (.str k) H)) (hv : PE X ve (tE X.K W m)) (hr : PDs X W pos ks vs r) : PDs X W pos (some ke :: ks) (ve :: vs) (mPairC k m r) := by
  obtain ⟨trs, hp, ht⟩ := hr
  refine ⟨_, pps_cons hk hv hp, fun σ H Q c F ρ ok h => ?_⟩
  refine ⟨c, F, ρ, ok, post_mono ?_ (post_bind h)⟩
  rintro d H1 F1 _ ⟨ρ1, ok1, s1, h1⟩ v rv
  refine ht σ H1 _ c F1 ρ1 ok1 (post_mono ?_ (post_bind h1))
  rintro kds H2 F2 _ ⟨ρ2, ok2, s2, h2⟩ ws rws
  exact h2 H2 F2 ok2 (Same.refl F2) (v :: ws) (.cons (Dp.mono s2 rv) rws)
theorem merge_nodup : ∀ (more acc : List (Key × V)), ((acc ++ more).map (·.1)).Nodup → mergeK acc more = acc ++ more
  | [], acc, _ => by rw [List.append_nil]; rfl
  | p :: more, acc, h => by
    have hn : (acc.any fun kv => decide (kv.1 = p.1)) = false := by
      rw [List.any_eq_false]
      intro q hq
      rw [List.map_append, List.map_cons] at h
      have := (List.nodup_append.mp h).2.2 q.1 (List.mem_map_of_mem hq) p.1 List.mem_cons_self
      simpa using this
    have e : putK acc p.1 p.2 = acc ++ [p] := by
      unfold putK
      rw [if_neg (by rw [hn]; decide)]
    show mergeK (putK acc p.1 p.2) more = acc ++ p :: more
    rw [e, merge_nodup more (acc ++ [p]) (by rw [List.append_assoc]; exact h), List.append_assoc]; rfl
theorem zip_keys : ∀ (kds : List (Str × D)) (ws : List V), ws.length = kds.length → (kds.map (·.1)).zipWith (fun k v => (V.str k, v)) ws = ((kds.map (·.1)).zipWith (fun k v => ((Sum.inr k : Key), v)) ws).map fun kv => (kV kv.1, kv.2)
  | [], [], _ => rfl
  | [], _ :: _, h => by cases h
  | _ :: _, [], h => by cases h
  | p :: kds, w :: ws, h => by
    have ih := zip_keys kds ws (by simpa using h)
    simp only [List.map_cons, List.zipWith_cons_cons]
    rw [ih]; rfl
theorem keys_fst : ∀ (kds : List (Str × D)) (ws : List V), ws.length = kds.length → ((kds.map (·.1)).zipWith (fun k v => ((Sum.inr k : Key), v)) ws).map (·.1) = kds.map fun p => (Sum.inr p.1 : Key)
  | [], [], _ => rfl
  | [], _ :: _, h => by cases h
  | _ :: _, [], h => by cases h
  | p :: kds, w :: ws, h => by
    have ih := keys_fst kds ws (by simpa using h)
    simp only [List.map_cons, List.zipWith_cons_cons]
    rw [ih]
theorem dpkv_of : ∀ {kds : List (Str × D)} {ws : List V}, DpAll K F ws (kds.map (·.2)) → DpKV K F ((kds.map (·.1)).zipWith (fun k v => ((Sum.inr k : Key), v)) ws) (strKeys kds)
  | [], _, .nil => .nil
  | _ :: _, _, .cons h t => .cons (k := Sum.inr _) h (dpkv_of t)
theorem disp_of {trs : List (TE × TE)} {m : M (List (Str × D))} {Q : VK} (ht : ∀ (σ : L2.St) (H : Hp) (Q : List (V × V) → Hp → Prop) (c : Ct) (F : Hp) (ρ : En), Ok K c σ H F ρ → post K W c σ F (fun kds H' F' => ∀ ws, DpAll K F' ws (kds.map (·.2)) → Q ((kds.map (·.1)).zipWith (fun k v => (V.str k, v)) ws) H') (m ρ) → tPairs trs σ H Q)
    (h : tE K W (mDisp m) σ H Q) : tDisp trs σ H Q := by
  obtain ⟨c, F, ρ, ok, h⟩ := h
  intro p hp
  have okp := ok.allocP (o := .dK []) hp
  have hpr := (ok.new hp).2.2.1
  refine ht σ _ _ (c.put p (.dK [])) F ρ okp ?_
  unfold mDisp at h
  have h2 := post_bind h
  cases em : m ρ with
  | none => rw [em] at h2; exact h2.elim
  | some r =>
    rw [em] at h2
    cases r with
    | ex z ρ1 => exact fun cls x H' F' ok' s er => h2 cls x H' F' (ok_unput ok' hpr) s er
    | ok kds ρ1 =>
      intro H' F' ok' s' ws rws
      have hH := ok'.prt p _ upd_same
      refine ⟨hH.1, (kds.map (·.1)).zipWith (fun k v => ((Sum.inr k : Key), v)) ws, ?_⟩
      have hwl : ws.length = kds.length := by rw [DpAll.length rws, List.length_map]
      have hdone : ∀ (hk : kds.length ≤ 15 ∧ (kds.map (·.1)).Nodup), Q (.ref p) (upd H' p (.dK (mergeK [] ((kds.map (·.1)).zipWith (fun k v => ((Sum.inr k : Key), v)) ws)))) := fun hk => by
        have em' : mergeK [] ((kds.map (·.1)).zipWith (fun k v => ((Sum.inr k : Key), v)) ws) = (kds.map (·.1)).zipWith (fun k v => ((Sum.inr k : Key), v)) ws := by
          rw [merge_nodup, List.nil_append]
          rw [List.nil_append, keys_fst _ _ hwl]
          have := hk.2
          clear h2 h ht em ok' rws hwl
          induction kds with
          | nil => exact List.nodup_nil
          | cons q kds ih =>
            rw [List.map_cons, List.nodup_cons] at this ⊢
            refine ⟨fun hm => this.1 ?_, ih ⟨by have := hk.1; rw [List.length_cons] at this; omega, this.2⟩ this.2⟩
            obtain ⟨q', h1, h2⟩ := List.mem_map.mp hm
            injection h2 with h2
            rw [← h2]
            exact List.mem_map_of_mem h1
        rw [em']
        have ok2 := ok'.putP (o' := .dK ((kds.map (·.1)).zipWith (fun k v => ((Sum.inr k : Key), v)) ws))
        have ok3 := ok2.freeP hpr
        have sF : Same F' (upd F' p (.dK ((kds.map (·.1)).zipWith (fun k v => ((Sum.inr k : Key), v)) ws))) := Same.updN hH.2.1
        obtain ⟨d, e, h3⟩ := post_lift (h2 (upd H' p (.dK ((kds.map (·.1)).zipWith (fun k v => ((Sum.inr k : Key), v)) ws))) _ ok3 (s'.trans sF)).choose_spec.2.2
        rw [if_pos hk] at e
        cases e
        exact post_ok h3 (h2 _ _ ok3 (s'.trans sF)).choose_spec.1 _ (.dct (.inl upd_same) (DpKV.mono sF (dpkv_of rws)))
      have hk : kds.length ≤ 15 ∧ (kds.map (·.1)).Nodup := by
        have ok3 := (ok'.putP (o' := .dK [])).freeP hpr
        have sF : Same F' (upd F' p (.dK [])) := Same.updN hH.2.1
        obtain ⟨d, e, h3⟩ := post_lift (h2 (upd H' p (.dK [])) _ ok3 (s'.trans sF)).choose_spec.2.2
        split at e
        · assumption
        · cases e
      refine ⟨zip_keys kds ws hwl, ?_, hdone hk⟩
      rw [List.length_zipWith, List.length_map, hwl, Nat.min_self]
      exact hk.1
theorem dDisp {keys : List (Option Expr)} {values : List Expr} {m : M (List (Str × D))} (h : PDs X W pos keys values m) (hall : keys.all (·.isSome) = true := by rfl) (hl : keys.length = values.length := by rfl) (h0 : keys ≠ [] := by exact fun z => by cases z) (h15 : keys.length ≤ 15 := by decide) : PE X (.Dict keys values pos) (tE X.K W (mDisp m)) := by
  obtain ⟨trs, hp, ht⟩ := h
  exact PE.imp (pe_disp hp hall hl h0 h15) fun _ _ _ => disp_of ht
end
end Dd

namespace Dd
open PySem PySem.Spec L2 PyProof.Rows
/-! ### constants of the module: tuples, dicts with text keys -/
def tabD (tbl : List (Str × D)) : D → Option D
  | .str z => tbl.lookup z
  | _ => none
def mGIx (tbl : List (Str × D)) (mk : M D) : M D := mBind mk fun k => mLift (tabD tbl k)
/-- a written dict at p -/
def KTab (K : PySem.W.Frag) (w : World) (p : Addr) (tbl : List (Str × D)) : Prop := ∀ z d, tbl.lookup z = some d → ∃ v, KDct K w p z v ∧ ∀ F, Dp K F v d
theorem ktab_nil {K : PySem.W.Frag} {w : World} {p : Addr} : KTab K w p [] := fun z d h => by cases h
theorem ktab_cons {K : PySem.W.Frag} {w : World} {p : Addr} {tbl : List (Str × D)} {z0 : Str} {d0 : D} (h0 : ∃ v, KDct K w p z0 v ∧ ∀ F, Dp K F v d0) (h : KTab K w p tbl) : KTab K w p ((z0, d0) :: tbl) := fun z d e => by
  by_cases q : z = z0
  · subst q
    have e : (match z == z with | true => some d0 | false => tbl.lookup z) = some d := e
    rw [beq_self_eq_true] at e
    cases e
    exact h0
  · have e : (match z == z0 with | true => some d0 | false => tbl.lookup z) = some d := e
    rw [beq_eq_false_iff_ne.mpr q] at e
    exact h z d e
/-- values of the written part -/
theorem dp_ktup {K : PySem.W.Frag} {a : Addr} {o : Obj} {its : Array Value} {n : Nat} {xs : List V} {ds : List D} (hl : K.lookup a = some o) (hc : o.cls = .type "tuple") (hd : o.data = .seq its n) (hz : its.size ≤ sizeLine) (hv : Vals xs its.toList) (hx : ∀ F, DpAll K F xs ds) : ∀ F, Dp K F (.ref a) (.tuple ds) :=
  fun F => .tup (.inr ⟨o, its, n, hl, hc, hd, hz, hv⟩) (hx F)
section
variable {X : Cx} {W : WX} {K : PySem.W.Frag} {w : World} {σ : L2.St} {H F : Hp} {mk : M D} {e : Expr} {pos p2 : Pos} {x : Str} {a p : Addr} {d : D} {tbl : List (Str × D)}
theorem dGlobD (hm : X.mg x = some (.ref a)) (hd : ∀ F, Dp X.K F (.ref a) d) (hg : Gl X x := by rfl) (hdb : (x == ("__debug__" : Str)) = false := by decide) : PE X (.Name x pos) (tE X.K W (mPure d)) :=
  PE.imp (pe_glob (v := .ref a) hg hm rfl hdb) fun _ _ _ => tC_of hd
theorem gix_of {Q : VK} (T : KTab K w p tbl) (h : tE K W (mGIx tbl mk) σ H Q) : tOp (rIxD K w) (tC (.ref p)) (tE K W mk) σ H Q := by
  obtain ⟨c, F, ρ, ok, h⟩ := h
  refine ⟨c, F, ρ, ok, post_mono ?_ (post_bind h)⟩
  rintro k H1 F1 _ ⟨ρ1, ok1, s1, h1⟩ y ry
  obtain ⟨d, e, h2⟩ := post_lift h1
  unfold tabD at e
  split at e
  · rename_i z
    obtain ⟨v, h3, h4⟩ := T z d e
    exact ⟨p, z, v, rfl, ry.strV, h3, post_ok h2 ok1 _ (h4 F1)⟩
  · cases e
theorem dGIx (T : KTab X.K X.w p tbl) (hm : X.mg x = some (.ref p)) (he : PE X e (tE X.K W mk)) (hg : Gl X x := by rfl) (hdb : (x == ("__debug__" : Str)) = false := by decide) (hs : PlainIx e := by exact fun _ _ => rfl) :
    PE X (.Subscript (.Name x p2) e pos) (tE X.K W (mGIx tbl mk)) := PE.imp (pe_ix ix_kdict (pe_glob (v := .ref p) hg hm rfl hdb) he hs) fun _ _ _ => gix_of T
end
end Dd

namespace Dd
open PySem PySem.Spec L2 PyProof.Rows
section
variable {X : Cx} {W : WX} {K : PySem.W.Frag} {σ : L2.St} {H F : Hp} {ρ : En} {c : Ct} {Dn : Ends} {i j l : Nat} {ma mb mc : M D}
variable {x y z : Str} {a b cc : Expr} {px py pz pt pt2 pos : Pos} {kt k2 : Nat}
end
end Dd

namespace Dd
open PySem PySem.Spec L2
/-! ### a comprehension over a list of one's own, that stays one's own -/
section
variable {K : PySem.W.Frag} {W : WX} {c : Ct} {σ : L2.St} {H F : Hp} {ρ : En}
end
section
variable {K : PySem.W.Frag} {W : WX} {σ : L2.St} {H : Hp}
end
section
variable {X : Cx} {W : WX}
end
end Dd

namespace Dd
open PySem PySem.Spec L2 PyProof.Rows
/-! ### a suite of two: s = isinstance(e, (..)); if isinstance(e, A) and isinstance(e, B) and not s: v = (text, (e.f, ..)) -/
section
variable {X : Cx} {a C dd : Addr} {i : Nat} {cls : Value} {d : Option Addr} {oe : Obj} {pn : List (Addr × Obj)} {cn f : Str} {pos p : Pos} {e ec : Expr} {es : List Expr}
end
section
variable {X : Cx} {Wout : WX} {x n cn y ys : Str} {c : Value} {C : Addr} {i v s : Nat} {body : List Stmt} {es : List Expr} {np pos pos' yp tp sp ip sp1 ysp : Pos} {kk : Nat} {mb : M Fl} {ps : List Pt} {test strange : Expr} {w : Str}
end
end Dd

namespace Dd
open PySem PySem.Spec L2 PyProof.Rows
/-! ### a suite with an if: is it this class, and none of those -/
section
variable {X : Cx} {a C : Addr} {i : Nat} {cls : Value} {d : Option Addr} {oe : Obj} {pn : List (Addr × Obj)} {cn : Str} {pos : Pos} {e ec any : Expr}
end
end Dd

namespace Dd
open PySem PySem.Spec L2 PyProof.Rows RT
/-! ### list(reversed(a list)) -/
section
variable {prog : Program} {w : World} {A : Around} {E : Value → Shared → Prop} {s : Shared}
end
section
variable {X : Cx}
end
section
variable {X : Cx} {W : WX} {a : Expr} {ma : M D} {p p2 pos pos2 : Pos}
end
end Dd

namespace Dd
open PySem PySem.Spec L2 PyProof.Rows
section
variable {P : Program} {w : World} {A : Around} {E : Value → Shared → Prop} {s : Shared}
end
end Dd

namespace Dd
open PySem PySem.Spec L2 PyProof.Rows
section
variable {X : Cx}
end
section
variable {X : Cx} {W : WX} {a : Expr} {ma : M D} {p p2 pos pos2 : Pos}
end
end Dd

namespace Dd
open PySem PySem.Spec L2 PyProof.Rows
end Dd

namespace Dd
open PySem PySem.Spec L2 PyProof.Rows
end Dd

namespace Dd
open PySem PySem.Spec L2 PyProof.Rows
/-! ### a comprehension's target within a target -/
section
variable {K : PySem.W.Frag}
end
/-! ### try .. except C as e: if ..: v = e.f -/
def mSuiteF (v : Nat) (p : Pt) (e : Ex) : M Fl := fun ρ => match ptD e.fs p with
  | some d => if v < ρ.length then some (.ok .nx (ρ.set v (.val d))) else none
  | none => none
section
variable {X : Cx} {Wout : WX} {x n cn y : Str} {c : Value} {C : Addr} {i v : Nat} {body : List Stmt} {ea : Expr} {np pos pos' yp sp ip : Pos} {mb : M Fl} {q0 : Pt} {test : Expr}
end
end Dd

namespace PySem.OwnL
open PySem PySem.W PySem.Calls PyProof.Rows PySem.HandSPX PySem.OwnE
/-! ### own classes whose __new__ stands further up (KeyError's is LookupError's) -/
section
variable {M : Model} {A : Around} {E : Value → Shared → Prop} {h : Heap} {g : Array GenState} {d : Drawn} {t : Nat} {os : OsState} {nm q : Str} {C N : Addr} {bs bm bmB : List Value} {hdct : Bool} {sn : List Str} {sub : List Value} {ab : Bool} {col : Option Bool} {dd : Option Addr} {k0 k1 k2 k3 k5 : Option Value} {B nw ini : String}
end
section
variable {prog : Program} {w : World} {A : Around} {E : Value → Shared → Prop} {R : Result → Shared → Prop} {h : Heap} {g : Array GenState} {d : Drawn} {t : Nat} {os : OsState} {nm q : Str} {C N : Addr} {bs bm bmB : List Value} {hdct : Bool} {sn : List Str} {sub : List Value} {ab : Bool} {col : Option Bool} {dd : Option Addr} {k0 k1 k2 k3 k5 : Option Value} {B nw ini : String}
end
end PySem.OwnL

namespace PySem.BlkX
open PySem PySem.HandSPX PyProof.Rows
section
variable {M : Model} {A : Around} {E : Value → Shared → Prop} {s : Shared} {base : Heap} {env : Env} {outer l : List Env} {e L : Addr} {Z : Obj → Prop}
end
end PySem.BlkX
namespace L2
open PySem PySem.Spec PyProof.Rows PySem.HandSPX
section
variable {X : Cx} {pins : List (Addr × Obj)} {σ : St} {H : Hp} {s : Shared} {W : WX}
end
section
variable {X : Cx} {Wo : WX}
end
end L2

namespace Dd
open PySem PySem.Spec L2 PyProof.Rows
section
variable {K : PySem.W.Frag} {W : WX}
end
section
variable {X : Cx} {W : WX} {elt iter tg : Expr} {scope : Scope} {own : List (Str × Nat)} {pos : Pos} {mi : M (List D)} {g : TG} {gD : D → M Unit} {me : M D}
end
end Dd

/-! ### len(set(texts)): how many different texts a list holds -/
namespace Dd
open PySem
/-- each text once, in the order of its first place -/
def uniq (xs : List Str) : List Str := xs.foldl (fun acc x => if acc.contains x = true then acc else acc ++ [x]) []
theorem uniq_snoc (xs : List Str) (x : Str) : uniq (xs ++ [x]) = if (uniq xs).contains x = true then uniq xs else uniq xs ++ [x] := by
  unfold uniq; rw [List.foldl_append]; rfl
theorem uniq_len : ∀ (n : Nat) (xs : List Str), xs.length = n → (uniq xs).length ≤ n
  | 0, xs, h => by
    have : xs = [] := List.length_eq_zero_iff.mp h
    subst this; exact Nat.le_refl _
  | n + 1, xs, h => by
    rcases List.eq_nil_or_concat xs with rfl | ⟨ys, y, rfl⟩
    · cases h
    · have hl : ys.length = n := by simpa using h
      have ih := uniq_len n ys hl
      rw [List.concat_eq_append, uniq_snoc]
      split
      · omega
      · rw [List.length_append, List.length_singleton]; omega
end Dd
namespace Dd.Sets
open PySem PySem.Spec PyProof.Rows
section
variable {prog : Program} {w : World} {A : Around} {R : Result → Shared → Prop} {I : Addr} {fp wr : List Addr} {G : Array GenState → Array GenState → Prop} {n : Nat} {Pv : Nat → Value → Prop} {St : Nat → Shared → Prop}
/-- what the set at S knows behind i turns -/
abbrev Knows (prog : Program) (w : World) (S : Addr) (xs : List Str) (h : Heap) : Prop := h.SetOf (PySem.strKind prog w) S (fun k => (uniq xs).contains k) (uniq xs).length
theorem Knows.kept {S : Addr} {xs : List Str} {h h' : Heap} (q : Knows prog w S xs h) (k : ∀ o, h.get? S = some o → h'.get? S = some o) : Knows prog w S xs h' := by
  obtain ⟨o, es, ep, t, ho, r⟩ := q
  exact ⟨o, es, ep, t, k o ho, r⟩
theorem upd_texts (W : WalksS prog w A.in1 I fp wr G n Pv St) (S : Addr) (out : S ∉ fp) (xs : List Str) (hl : xs.length = n) (room : n + 1 < scanBound) (hv : ∀ i v, Pv i v → ∃ t, v = .str (xs.getD i Str.empty) t) :
    ∀ (m i : Nat) (s : Shared), n - i = m → i ≤ n → St i s → Knows prog w S (xs.take i) s.heap → (∀ s', Moved (S :: wr) G s s' → Knows prog w S xs s'.heap → R (.ok (.ret .none)) s') → codeAny (model prog w) A (.builtin "set.update.loop" ⟨[.ref S, .ref I], []⟩) R s := by
  have nw : S ∉ wr := fun h => out (W.sub _ h); have sub : ∀ b ∈ wr, b ∈ S :: wr := fun b hb => List.mem_cons_of_mem _ hb
  intro m
  induction m with
  | zero =>
    intro i s hm hi st kn fin
    obtain rfl : i = n := by omega
    rw [List.take_of_length_le (by omega)] at kn
    refine codeAny_builtin F.entry_set_update_loop ?_; rw [Around.under_plainId F.plain_set_update_loop _]
    show wpAny _ A.in1 (pyNext (.ref I) >>= _) _ _ s
    refine wpAny_bind (W.done s _ _ st fun s' mv => ?_); show wpAny _ A.in1 (ret Value.none) _ _ s'
    exact wpAny_pure (fin s' (mv.mono sub) (kn.kept fun o e => mv.heap S o nw e))
  | succ m ih =>
    intro i s hm hi st kn fin
    have lt : i < n := by omega
    refine codeAny_builtin F.entry_set_update_loop ?_; rw [Around.under_plainId F.plain_set_update_loop _]
    show wpAny _ A.in1 (pyNext (.ref I) >>= _) _ _ s
    refine wpAny_bind (W.item i s _ _ lt st fun v s' pv st' mv => ?_)
    obtain ⟨t, rfl⟩ := hv i v pv
    have kn1 : Knows prog w S (xs.take i) s'.heap := kn.kept fun o e => mv.heap S o nw e
    show wpAny _ A.in1 (holding [Value.str (xs.getD i Str.empty) t] (setAdd S (.str (xs.getD i Str.empty) t)) >>= _) _ _ s'
    refine wpAny_bind (wpAny_holding ?_); unfold setAdd; refine wpAny_holding (wpAny_bind ((PySem.strKind prog w).pyHash (k := xs.getD i Str.empty) (strKind_is _ _ _ _) ?_))
    have cnt := uniq_len _ (xs.take i) rfl
    rw [List.length_take] at cnt
    refine wpAny_setAddHashed_of (knd := PySem.strKind prog w) (s := { s' with toks := s'.toks + 1 }) (strKind_is _ _ _ _) rfl kn1 (by omega) fun h' sb kn2 => ?_
    have kn3 : Knows prog w S (xs.take (i + 1)) h' := by
      have hx : xs[i]? = some (xs.getD i Str.empty) := by
        rw [List.getD_eq_getElem?_getD, List.getElem?_eq_getElem (by omega)]; rfl
      have ht : xs.take (i + 1) = xs.take i ++ [xs.getD i Str.empty] := by rw [List.take_add_one, hx]; rfl
      unfold Knows
      rw [ht, uniq_snoc]
      generalize xs.getD i Str.empty = x at *
      cases c : (uniq (xs.take i)).contains x with
      | true =>
        rw [c] at kn2
        rw [if_pos rfl]
        refine SetOf_congr kn2 (fun k => ?_) (by rw [if_pos rfl])
        by_cases e : k = x
        · subst e; rw [c]; rfl
        · rw [decide_eq_false e, Bool.or_false]
      | false =>
        rw [c] at kn2
        rw [if_neg (by decide)]
        refine SetOf_congr kn2 (fun k => ?_) (by rw [if_neg (by decide), List.length_append, List.length_singleton])
        rw [List.contains_append]
        congr 1
        by_cases e : k = x
        · subst e; simp
        · rw [decide_eq_false e]; simp [e]
    refine wpAny_pure ⟨plainId_quiet F.plain_set_update_loop _, ih (i + 1) _ (by omega) lt (W.frame _ s' _ _ st' (Nat.le_succ _) fun b hb o e => ?_) kn3 fun s'' mv2 kn4 => fin s'' (Moved.trans W.gtrans ((mv.mono sub).then_heap (Nat.le_succ _) fun b o hb e => ?_) mv2) kn4⟩
    · rw [sb.2 b (fun h : b = S => out (by rw [← h]; exact hb))]; exact e
    · rw [sb.2 b (fun h : b = S => hb (by rw [h]; exact List.mem_cons_self))]; exact e
end
section
variable {prog : Program} {w : World} {A : Around} {E : Value → Shared → Prop} {s : Shared}
/-- set(a list of texts) -/
theorem set_texts {l : Addr} {items : Array Value} {xs : List Str} {Q : Value → Shared → Prop} (hh : A.handled = none) (hl : s.heap.IsList l items) (hi : StrsAre items.toList xs) (room : xs.length + 1 < scanBound)
    (h : ∀ (h' : Heap) (tk : Nat), Knows prog w s.heap.objs.size xs h' → (∀ b o, b < s.heap.objs.size → s.heap.get? b = some o → h'.get? b = some o) → Q (.ref s.heap.objs.size) { s with heap := h', toks := tk }) :
    wpAny (model prog w) A (call (.type "set") [.ref l]) Q E s := by
  obtain ⟨c, tl, hmro⟩ := PySem.F.called_set.mro; have y1 := PySem.F.called_set.made; have y2 := PySem.F.called_set.sub
  refine wpAny_call (codeAny_of_tree ?_); show wpAny _ _ (callAny (.type "set") _) _ _ _
  refine wpAny_pure ⟨Code.quiet_builtin _ (by decide +kernel), codeAny_builtin PySem.F.entry_type_call ?_⟩
  rw [Around.under_plain (weight_type_call_type "set" [.ref l] []) rfl]
  have y3 := PySem.F.called_set.notType; have y4 := PySem.F.called_set.canCreate; have y5 := PySem.F.typeCall_set_1 (.ref l)
  repeat (any_goals (first | assumption | wp_step))
  refine codeAny_mono (code_set_new_1 (.ref l) (E := E) (Q₁ := fun obj s1 => ∃ led : Bool, obj = .ref s.heap.objs.size ∧ s1 = { s with heap := s.heap.push { cls := .type "set", dict := none, data := .set #[] 0 (.fresh 0 0 led) } }) fun led => ⟨led, rfl, rfl⟩) fun r s1 hr => ?_
  cases r with
  | error e => exact hr
  | ok fl =>
  cases fl with
  | ret obj =>
    obtain ⟨led, rfl, rfl⟩ := hr
    generalize hN : s.heap.push { cls := .type "set", dict := none, data := .set #[] 0 (.fresh 0 0 led) } = N
    have nS : N.get? s.heap.objs.size = some { cls := .type "set", dict := none, data := .set #[] 0 (.fresh 0 0 led) } := by rw [← hN]; exact Heap.get?_push_size _ rfl
    have nsz : N.objs.size = s.heap.objs.size + 1 := by rw [← hN]; exact Heap.size_push ..
    have nk : ∀ b o, s.heap.get? b = some o → N.get? b = some o := fun b o e => by rw [← hN]; exact Heap.get?_push_of_some _ e
    have hT : Shared.TypeIs { s with heap := N } (.ref s.heap.objs.size) "set" := ⟨_, nS, rfl⟩
    have y6 := PySem.F.called_set.init.lookup; have y7 := PySem.F.called_set.init.bind (.ref s.heap.objs.size)
    repeat (any_goals (first | assumption | wp_step))
    refine codeAny_mono (codeAny_call_builtin (R := wants (fun r s2 => r = .none ∧ ∃ h' tk, s2 = { s with heap := h', toks := tk } ∧ Knows prog w s.heap.objs.size xs h' ∧ (∀ b o, b < s.heap.objs.size → s.heap.get? b = some o → h'.get? b = some o)) E) PySem.F.called_set.init.plain PySem.F.entry_set_init (check_set_init_1 hT ?_)) fun r2 s2 hr2 => ?_
    · obtain ⟨⟨oc, od, odata, osl⟩, hol, hcl, nl, hdl⟩ := hl
      simp only at hcl hdl
      subst hcl; subst hdl
      have hol1 := nk l _ hol
      have z1 := PySem.F.sub_list_set; have z2 := PySem.F.sub_list_frozenset; have z3 : (Value.type "list" == Value.type "dict") = false := by decide
      have hl1 : N.IsList l items := ⟨_, hol1, rfl, nl, rfl⟩
      unfold Builtin.«set.__init__» noKeywords Builtin.Frozenset.updateFrom
      generalize hPI : pyIter = PI
      wp_walk
      subst hPI
      refine wpAny_pyIter_list hl1 (wpAny_bind (wpAny_runValue ?_))
      have hlt : l < s.heap.objs.size := Heap.lt_size hol
      have hq : A.in1.in1.in1.handled = none := by simp [hh]
      have ne1 : l ≠ N.objs.size := by rw [nsz]; exact Nat.ne_of_lt (Nat.lt_succ_of_lt hlt)
      have nin : s.heap.objs.size ∉ [N.objs.size, l] := by
        rw [nsz]; simp only [List.mem_cons, List.mem_singleton, List.not_mem_nil, or_false, not_or]
        exact ⟨Nat.ne_of_lt (Nat.lt_succ_self _), Nat.ne_of_gt hlt⟩
      have hsz : xs.length = items.size := by rw [← StrsAre.len_eq hi, Array.length_toList]
      refine upd_texts ((Walks.list hq _ l ne1 items).toS) s.heap.objs.size nin xs hsz (by rw [← hsz]; exact room) (fun i v e => SS.strs_at hi i v (by rw [Array.getElem?_toList]; exact e)) (items.size - 0) 0 _ (by omega) (Nat.zero_le _) ⟨⟨_, Heap.get?_push_size _ rfl, rfl, rfl⟩, (hl1.push _)⟩ ?k0 ?k1
      case k0 =>
        have g : (N.push { cls := .type "list_iterator", data := .fields #[.ref l, .int 0 0] }).get? s.heap.objs.size = some { cls := .type "set", dict := none, data := .set #[] 0 (.fresh 0 0 led) } := Heap.get?_push_of_some _ nS
        exact SetOf_congr ((setObjOf_fresh (knd := PySem.strKind prog w) led).setOf g (by unfold scanBound; omega)) (fun _ => rfl) rfl
      case k1 =>
        intro s' mv kn
        obtain ⟨h', g', d', tk', os'⟩ := s'
        obtain rfl : g' = s.gens := mv.gens
        obtain rfl : d' = s.drawn := mv.drawn
        obtain rfl : os' = s.os := mv.os
        show wpAny _ _ _ _ _ _
        refine wpAny_pure ?_
        show wpAny _ _ (ret Value.none) _ _ _
        refine wpAny_pure ⟨rfl, h', tk', rfl, kn, fun b o hb e => mv.heap b o ?_ (Heap.get?_push_of_some _ (nk b o e))⟩
        simp only [List.mem_cons, List.mem_singleton, List.not_mem_nil, or_false, not_or]
        exact ⟨Nat.ne_of_lt hb, by rw [nsz]; exact Nat.ne_of_lt (Nat.lt_succ_of_lt hb)⟩
    · cases r2 with
      | error e => exact hr2
      | ok fl2 =>
      cases fl2 with
      | ret r =>
        obtain ⟨rfl, h', tk, rfl, kn, kk⟩ := hr2
        repeat (any_goals (first | assumption | wp_step))
        exact h _ _ kn kk
      | _ => exact hr2.elim
  | _ => exact hr.elim
end
end Dd.Sets

namespace Dd
open PySem PySem.Spec L2 PyProof.Rows
section
variable {X : Cx} {W : WX} {a : Expr} {ma : M D} {p p2 pos pos2 : Pos}
/-! ### len(set(a list of texts)) -/
def tLenU (K : PySem.W.Frag) (ta : TE) : TE := fun σ H Q => ta σ H fun x H1 => ∃ l, ∃ xs : List Str, x = .ref l ∧ SqL K H1 l (xs.map V.str) ∧ xs.length < 1000 ∧ Q (.int (uniq xs).length) H1
theorem pe_lenU {ta : TE} {q : Pos} (hc : X.calm = true) (hg : Gl X "len") (hm : X.mg "len" = none) (hg2 : Gl X "set") (hm2 : X.mg "set" = none) (ha : PE X a ta)
    (na : starEach [a] X.env = (false, eval a X.env) :: starEach [] X.env := by rfl) : PE X (.Call (.Name "len" p) [.Call (.Name "set" p2) [a] [] q] [] pos) (tLenU X.K ta) := by
  constructor; intro pins s σ H Q I h
  refine Call_ (ld_blt I hg hm boot_len (PyProof.Rows.callWith_builtin1 (PyProof.Rows.args_cons ?_ rfl) rfl rfl))
  refine Call_ (ld_blt I hg2 hm2 boot_set (PyProof.Rows.callWith_type1 (PyProof.Rows.args_cons (thn (ha.run pins s σ H _ I h) fun v s1 ⟨x, H1, I1, r1, l, xs, ex, hq, hl, q1⟩ => PyProof.Rows.args_nil ?_) na) na rfl))
  subst ex; cases r1
  obtain ⟨its, rv, pl, hz⟩ := I1.list hq
  refine Dd.Sets.set_texts (xs := xs) (I1.ok.hd hc) pl.isList (by simpa using strsAre_of rv) (by unfold scanBound; omega) fun h' tk kn hk => PyProof.Rows.args_nil ?_
  obtain ⟨o, es, ep, t, ho, hex, hd, _, _, _, hf, hn⟩ := kn
  have hu : (uniq xs).length ≤ xs.length := uniq_len _ xs rfl
  have I2 : Inv X pins σ H1 { s1 with heap := h', toks := tk } := I1.kept fun b o e => hk b o (Heap.lt_size e) e
  exact call_len_set ho hex hd hf (by rw [hn]; omega) ⟨.int (uniq xs).length, H1, I2.tok _, ⟨_, by rw [hn]⟩, q1⟩
def lenUD : D → Option D
  | .list ds => (strsD ds).bind fun xs => if xs.length < 1000 then some (.int (uniq xs).length) else none
  | _ => none
def mLenU (m : M D) : M D := mBind m fun d => mLift (lenUD d)
theorem dLenU (hc : X.calm = true) (hm : X.mg "len" = none) (hm2 : X.mg "set" = none) (ha : PE X a (tP X.K W ma)) (hg : Gl X "len" := by rfl) (hg2 : Gl X "set" := by rfl)
    (hs : starEach [a] X.env = (false, eval a X.env) :: starEach [] X.env := by rfl) : PE X (.Call (.Name "len" p) [.Call (.Name "set" p2) [a] [] pos2] [] pos) (tE X.K W (mLenU ma)) :=
  PE.imp (pe_lenU hc hg hm hg2 hm2 ha hs) (by
  rintro σ H Q ⟨c, F, ρ, ok, h⟩
  refine ⟨c, F, ρ, ok, post_mono ?_ (post_bind h)⟩
  rintro d H1 F1 _ ⟨ρ1, ok1, s1, h1⟩ x rx
  obtain ⟨out, e, h2⟩ := post_lift h1
  cases d with
  | list ds =>
    obtain ⟨q, vs, rfl, hq, dp⟩ := Pk.lst ok1.sub rx
    replace e : ((strsD ds).bind fun xs => if xs.length < 1000 then some (PyData.int (uniq xs).length) else none) = some out := e
    cases et : strsD ds with
    | none => rw [et] at e; cases e
    | some ns =>
      rw [et] at e
      have e : (if ns.length < 1000 then some (PyData.int (uniq ns).length) else none) = some out := e
      by_cases hl : ns.length < 1000
      · rw [if_pos hl] at e
        cases e
        obtain rfl := strsD_is dp et
        exact ⟨q, ns, rfl, hq, hl, post_ok h2 ok1 _ (.int _)⟩
      · rw [if_neg hl] at e; cases e
  | _ => cases e)
end
end Dd

namespace Dd
open PySem PySem.Spec L2 PyProof.Rows
/-! ### constants of the module that are dicts of text keys: in, get -/
def keyTx : Value → Option Str
  | .str x _ => some x
  | _ => none
/-- the keys of the written dict at p are those of the table -/
def KNam (K : PySem.W.Frag) (w : World) (p : Addr) (tbl : List (Str × D)) : Prop :=
  ∃ (es : Array DictEntry) (n : Nat), K.lookup p = some ⟨.type "dict", none, .dict es n, #[]⟩ ∧ PySem.W.KeysLit w.params es.toList ∧ es.toList.map (fun e => keyTx e.key) = tbl.map (fun q => some q.1) ∧ (p == sysModules) = false
theorem keys_any {z : Str} : ∀ (l : List DictEntry) (tbl : List (Str × D)), l.map (fun e => keyTx e.key) = tbl.map (fun q => some q.1) → (l.find? fun e => Value.isStrOf z e.key).isSome = (tbl.lookup z).isSome
  | [], [], _ => rfl
  | [], q :: tbl, h => by cases h
  | e :: l, [], h => by cases h
  | e :: l, (y, d) :: tbl, h => by
    rw [List.map_cons, List.map_cons] at h
    obtain ⟨h1, h2⟩ := List.cons.inj h
    have ek : ∃ t, e.key = .str y t := by
      revert h1
      cases e.key <;> intro h1 <;> first | (cases h1; exact ⟨_, rfl⟩) | cases h1
    obtain ⟨t, ek⟩ := ek
    rw [List.find?_cons]
    show _ = (match z == y with | true => some d | false => tbl.lookup z).isSome
    rw [ek]
    show (match (y == z) with | true => some e | false => l.find? fun e => Value.isStrOf z e.key).isSome = _
    rw [show (y == z) = (z == y) from BEq.comm]
    cases z == y
    · exact keys_any l tbl h2
    · rfl
theorem find_arr {z : Str} (es : Array DictEntry) : (findBy Value.isStrOf es z).isSome = (es.toList.find? fun e => Value.isStrOf z e.key).isSome := by
  obtain ⟨l⟩ := es
  unfold findBy
  rw [List.find?_toArray, Option.isSome_map]
section
variable {X : Cx} {p : Addr} {tbl : List (Str × D)}
theorem kmap {pins : List (Addr × Obj)} {σ : L2.St} {H : Hp} {s : Shared} {es : Array DictEntry} {n : Nat} (I : Inv X pins σ H s) (hl : X.K.lookup p = some ⟨.type "dict", none, .dict es n, #[]⟩) (hk : PySem.W.KeysLit X.w.params es.toList) :
    s.heap.MapOf (leafKind X.prog X.w) p (fun k => match k with | .text z => findBy Value.isStrOf es z | _ => none) :=
  ⟨_, es, n, I.kIn _ _ hl, ⟨rfl, rfl, rfl⟩, rfl, fun e he => by
    obtain ⟨x, t, e1, e2⟩ := hk.all e (Array.mem_toList_iff.mpr he)
    exact ⟨.text x, by rw [e1]; exact beq_self_eq_true x, e2⟩, fun k => by
    have no : ∀ k : Leaf, (∀ x t, Leaf.isOf k (.str x t) = false) → findBy (leafKind X.prog X.w).is es k = none := fun k hf => by
      obtain ⟨l⟩ := es
      unfold findBy
      rw [List.find?_toArray, Option.map_eq_none_iff, List.find?_eq_none]
      intro e he
      obtain ⟨x, t, e1, _⟩ := hk.all e he
      show ¬ Leaf.isOf k e.key = true
      rw [e1, hf x t]
      decide
    cases k with
    | text z => rfl
    | none => exact no _ fun _ _ => rfl
    | num i => exact no _ fun _ _ => rfl⟩
def leafV : V → Option Leaf
  | .non => some .none
  | .str z => some (.text z)
  | _ => none
theorem leaf_is {v : V} {u : Value} {k : Leaf} (e : leafV v = some k) (r : RelV v u) : Leaf.isOf k u = true := by
  cases v with
  | non => cases e; cases (show u = Value.none from r); rfl
  | str z => cases e; obtain ⟨t, rfl⟩ := (show ∃ t, u = Value.str z t from r); exact beq_self_eq_true z
  | _ => cases e
def inKV (tbl : List (Str × D)) : Leaf → Bool
  | .text z => (tbl.lookup z).isSome
  | _ => false
theorem op_gin (T : KNam X.K X.w p tbl) : OpR X (compareOp .In) (fun x y H Q => ∃ k, leafV x = some k ∧ y = .ref p ∧ Q (.bl (inKV tbl k)) H) := by
  intro pins s σ H x y v u Q I rx ry h
  obtain ⟨k, ek, rfl, q⟩ := h
  obtain ⟨es, n, hl, hk, hkeys, low⟩ := T
  cases ry
  refine wpAny_in_of (knd := leafKind X.prog X.w) (leaf_is ek rx) low (kmap I hl hk) ?_
  refine ⟨.bl (inKV tbl k), H, I.tok _, ?_, q⟩
  cases k with
  | text z =>
    show Value.bool (findBy Value.isStrOf es z).isSome = Value.bool (tbl.lookup z).isSome
    rw [← keys_any _ _ hkeys, ← find_arr]
  | none => rfl
  | num i => rfl
end
def leafD : D → Option Leaf
  | .none => some .none
  | .str z => some (.text z)
  | _ => none
theorem leafD_V {K : PySem.W.Frag} {F : Hp} {d : D} {v : V} {k : Leaf} (e : leafD d = some k) (h : Dp K F v d) : leafV v = some k := by
  cases d with
  | none => cases h; exact e
  | str z => cases h; exact e
  | _ => cases e
def ginD (neg : Bool) (tbl : List (Str × D)) (d : D) : Option D := (leafD d).bind fun k => some (.bool (if neg then !inKV tbl k else inKV tbl k))
def mGIn (neg : Bool) (tbl : List (Str × D)) (mk : M D) : M D := mBind mk fun k => mLift (ginD neg tbl k)
def ggetD (tbl : List (Str × D)) (d : D) : Option D := (leafD d).bind fun k => some (match k with | .text z => (tbl.lookup z).getD .none | _ => .none)
def mGGet (tbl : List (Str × D)) (mk : M D) : M D := mBind mk fun k => mLift (ggetD tbl k)
section
variable {X : Cx} {W : WX} {mk : M D} {e : Expr} {pos p2 apos cpos : Pos} {x : Str} {p : Addr} {tbl : List (Str × D)} {neg : Bool}
theorem gin_of {R : R2} {Q : VK} {σ : L2.St} {H : Hp} (hR : ∀ (k : Leaf) (v : V) (H : Hp) (Q : VK), leafV v = some k → Q (.bl (if neg then !inKV tbl k else inKV tbl k)) H → R v (.ref p) H Q) (h : tE X.K W (mGIn neg tbl mk) σ H Q) : tOp R (tE X.K W mk) (tC (.ref p)) σ H Q := by
  obtain ⟨c, F, ρ, ok, h⟩ := h
  refine ⟨c, F, ρ, ok, post_mono ?_ (post_bind h)⟩
  rintro d H1 F1 _ ⟨ρ1, ok1, s1, h1⟩ v rv
  obtain ⟨d2, e2, h2⟩ := post_lift h1
  unfold ginD at e2
  cases ek : leafD d with
  | none => rw [ek] at e2; cases e2
  | some k =>
    rw [ek] at e2
    cases e2
    exact hR k v H1 Q (leafD_V ek rv) (post_ok h2 ok1 _ (.bl _))
theorem dtGIn (T : KNam X.K X.w p tbl) (hm : X.mg x = some (.ref p)) (he : PE X e (tE X.K W mk)) (hg : Gl X x := by rfl) (hdb : (x == ("__debug__" : Str)) = false := by decide) (hb : behindInMarks .In (.Name x p2) = false := by rfl) :
    PT X (.Compare e [.In] [.Name x p2] pos) (tT X.K W (mBol (mGIn false tbl mk))) := PT.imp (pt_cmpR (op_gin T) he (pe_glob (v := .ref p) hg hm rfl hdb) hb) fun _ _ _ => tTest_of fun _ _ _ => gin_of fun k v H Q e q => ⟨k, e, rfl, q⟩
/-! NAME.get(e) -/
theorem gget_v {K : PySem.W.Frag} {w : World} (T : KTab K w p tbl) (N : KNam K w p tbl) {es : Array DictEntry} {n : Nat} (hl : K.lookup p = some ⟨.type "dict", none, .dict es n, #[]⟩) (k : Leaf) :
    ∃ v : V, RelV v ((match k with | .text z => findBy Value.isStrOf es z | _ => none : Option Value).getD .none) ∧ ∀ F, Dp K F v (match k with | .text z => (tbl.lookup z).getD .none | _ => .none) := by
  cases k with
  | text z =>
    show ∃ v : V, RelV v ((findBy Value.isStrOf es z).getD .none) ∧ ∀ F, Dp K F v ((tbl.lookup z).getD .none)
    cases el : tbl.lookup z with
    | some d =>
      obtain ⟨v, ⟨es2, n2, u, hl2, hk2, hn, rv⟩, hd⟩ := T z d el
      rw [hl] at hl2
      cases hl2
      refine ⟨v, ?_, hd⟩
      rw [PySem.W.find_K hl hn]
      exact rv
    | none =>
      obtain ⟨es2, n2, hl2, hk2, hkeys, low⟩ := N
      rw [hl] at hl2
      cases hl2
      have h0 : (findBy Value.isStrOf es z).isSome = false := by rw [find_arr, keys_any _ _ hkeys, el]; rfl
      refine ⟨.non, ?_, fun F => .non⟩
      have h1 : findBy Value.isStrOf es z = none := Option.not_isSome_iff_eq_none.mp (by rw [h0]; decide)
      rw [h1]
      rfl
  | none => exact ⟨.non, rfl, fun F => .non⟩
  | num i => exact ⟨.non, rfl, fun F => .non⟩
theorem dGGet (T : KTab X.K X.w p tbl) (N : KNam X.K X.w p tbl) (hm : X.mg x = some (.ref p)) (he : PE X e (tE X.K W mk)) (hg : Gl X x := by rfl) (hdb : (x == ("__debug__" : Str)) = false := by decide) (m : M1 X (.Name x p2) "get" apos e cpos := by exact ⟨rfl, rfl, rfl, rfl⟩) :
    PE X (.Call (.Attribute (.Name x p2) "get" apos) [e] [] cpos) (tE X.K W (mGGet tbl mk)) := by
  have ho : PE X (.Name x p2) (tC (.ref p)) := pe_glob (v := .ref p) hg hm rfl hdb
  constructor; rintro pins s σ H Q I ⟨c, F, ρ, ok, h⟩
  obtain ⟨es, n, hl, hk, hkeys, low⟩ := id N
  refine wpAny_Call_method m.base m.few m.line PySem.F.plainAttrs_dict PySem.F.slot_dict_get PySem.F.type_dict_get (thn (ho.run pins s σ H (fun y H' => y = .ref p ∧ H' = H) I ⟨rfl, rfl⟩) fun u s1 ⟨y, H1, I1, rx, ey, eH⟩ => ?_)
  subst ey; subst eH
  obtain rfl : u = Value.ref p := rx
  refine ⟨(kmap I1 hl hk).typeIs, (kmap I1 hl hk).noDict, ?_⟩
  rw [m.trees]
  have q1 : tE X.K W mk σ H1 (fun v H2 => ∃ k, leafV v = some k ∧ ∀ v2, RelV v2 ((match k with | .text z => findBy Value.isStrOf es z | _ => none : Option Value).getD .none) → (∀ F, Dp X.K F v2 (match k with | .text z => (tbl.lookup z).getD .none | _ => .none)) → Q v2 H2) := by
    refine ⟨c, F, ρ, ok, post_mono ?_ (post_bind h)⟩
    rintro d H2 F2 _ ⟨ρ1, ok1, s2, h1⟩ v rv
    obtain ⟨d2, e2, h2⟩ := post_lift h1
    unfold ggetD at e2
    cases ek : leafD d with
    | none => rw [ek] at e2; cases e2
    | some k =>
      rw [ek] at e2
      cases e2
      exact ⟨k, leafD_V ek rv, fun v2 _ hd => post_ok h2 ok1 _ (hd F2)⟩
  refine Calls.callWith_builtin rfl (Calls.evalArgs_plain (Calls.spliced_cons (thn (he.run pins s1 σ H1 _ I1 q1) fun iv s2 ⟨y, H2, I2, ry, k, ek, q2⟩ => Calls.spliced_nil ?_)))
  obtain ⟨v2, r2, hd2⟩ := gget_v T N hl k
  exact call_meetsIn PySem.F.slot_dict_get (kmap I2 hl hk).typeIs PySem.F.entry_dict_get (PySem.F.args_dict_get_2 _ _) (meets_dict_get (leafKind X.prog X.w) p (leaf_is ek ry) low) ⟨_, kmap I2 hl hk, v2, H2, I2.tok _, r2, q2 v2 r2 hd2⟩
end
end Dd

namespace Dd
open PySem PySem.Spec L2 PyProof.Rows
variable {K : PySem.W.Frag}
/-! ### zip where a text may be one of the two -/
inductive Sd where
  | sq (b : Bool) (a : Addr)
  | tx (x : Str)
def Sd.val (t : Tok) : Sd → Value
  | .sq _ a => .ref a
  | .tx x => .str x t
def Sd.v : Sd → V
  | .sq _ a => .ref a
  | .tx x => .str x
def SdI (t : Tok) (a0 : Addr) : Sd → Heap → Addr → Nat → Prop
  | .sq b a, h, i, k => ItB b h i a k
  | .tx x, h, i, k => h.IsStrIter i (strIterType x) x t k
variable {t : Tok} {a0 : Addr}
theorem SdI.at {sd : Sd} {h h' : Heap} {i : Addr} {k : Nat} (q : SdI t a0 sd h i k) (e : ∀ o, h.get? i = some o → h'.get? i = some o) : SdI t a0 sd h' i k := by
  cases sd with
  | sq b a => exact ItB.at q e
  | tx x => obtain ⟨o, ho, r⟩ := q; exact ⟨o, e o ho, r⟩
theorem SdI.obj {sd : Sd} {h : Heap} {i : Addr} {k : Nat} (q : SdI t a0 sd h i k) : ∃ o, h.get? i = some o ∧ ∀ v, o.data ≠ .cell v := by
  cases sd with
  | sq b a => exact ItB.obj q
  | tx x => obtain ⟨o, ho, _, d⟩ := q; exact ⟨o, ho, fun v z => by rw [d] at z; cases z⟩
variable {X : Cx} {W : WX} {a b : Expr} {elts : List Expr} {kk : Nat} {p pos tpos : Pos} {ms : M (List D)}
end Dd

namespace Dd
open PySem PySem.Spec L2 PyProof.Rows
section
variable {X : Cx} {W : WX} {o e : Expr} {mo me : M D} {apos pos : Pos}
end
end Dd

namespace Dd
open PySem PySem.Spec L2 PyProof.Rows
section
variable {X : Cx} {Wout : WX} {x n cn y ys : Str} {c : Value} {C : Addr} {i v s : Nat} {body : List Stmt} {es : List Expr} {np pos pos' yp tp sp ip sp1 ysp : Pos} {kk : Nat} {mb : M Fl} {ps : List Pt} {test strange : Expr} {w : Str}
end
end Dd

namespace Dd
open PySem PySem.Spec L2 PyProof.Rows
variable {K : PySem.W.Frag}
end Dd

namespace Dd
open PySem PySem.Spec L2 PyProof.Rows
/-! ### str of a number or a text; int of a number, a truth or a text -/
section
variable {X : Cx}
def rStrOf : List V → Hp → VK → Prop := fun xs H Q => (∃ i, xs = [.int i] ∧ i.natAbs.log2 < 1920 ∧ Q (.str (toString i)) H) ∨ ∃ a, xs = [.str a] ∧ Q (.str a) H
theorem call_strOf : CallR X (.type "str") rStrOf := by
  intro pins s σ H xs us Q I r h
  rcases h with h | h
  · exact call_str_int pins s σ H xs us Q I r h
  · exact SkE.call_str_str pins s σ H xs us Q I r h
def rIntOf : List V → Hp → VK → Prop := fun xs H Q => ((∃ i, xs = [.int i] ∧ Q (.int i) H) ∨ ∃ k, xs = [.bl k] ∧ Q (.int (if k then 1 else 0)) H) ∨ ∃ a n, xs = [.str a] ∧ PySem.intText? a = some n ∧ a.length ≤ 640 ∧ Q (.int n) H
theorem call_intOf : CallR X (.type "int") rIntOf := by
  intro pins s σ H xs us Q I r h
  rcases h with h | h
  · exact call_int1 pins s σ H xs us Q I r h
  · exact call_int_str pins s σ H xs us Q I r h
end
def strOfD : List D → Option D
  | [.int i] => if i.natAbs.log2 < 1920 then some (.str (toString i)) else none
  | [.str z] => some (.str z)
  | _ => none
def intOfD : List D → Option D
  | [.int i] => some (.int i)
  | [.bool k] => some (.int (if k then 1 else 0))
  | [.str z] => if z.length ≤ 640 then (PySem.intText? z).map PyData.int else none
  | _ => none
section
variable {K : PySem.W.Frag}
theorem cd_strOf : CallD K rStrOf strOfD := by
  intro W c σ H F ρ xs ds d Q ok rx e q
  unfold strOfD at e
  split at e
  · obtain ⟨x, rfl, r⟩ := pk1 rx
    cases r.int
    split at e
    · rename_i h
      cases e
      exact .inl ⟨_, rfl, h, post_ok q ok _ (.str _)⟩
    · cases e
  · cases e
    obtain ⟨x, rfl, r⟩ := pk1 rx
    cases r.str
    exact .inr ⟨_, rfl, post_ok q ok _ (.str _)⟩
  · cases e
theorem cd_intOf : CallD K rIntOf intOfD := by
  intro W c σ H F ρ xs ds d Q ok rx e q
  unfold intOfD at e
  split at e
  · cases e
    obtain ⟨x, rfl, r⟩ := pk1 rx
    cases r.int
    exact .inl (.inl ⟨_, rfl, post_ok q ok _ (.int _)⟩)
  · cases e
    obtain ⟨x, rfl, r⟩ := pk1 rx
    cases r.bool
    exact .inl (.inr ⟨_, rfl, post_ok q ok _ (.int _)⟩)
  · rename_i z
    obtain ⟨x, rfl, r⟩ := pk1 rx
    cases r.str
    by_cases h : z.length ≤ 640
    · rw [if_pos h] at e
      cases en : PySem.intText? z with
      | none => rw [en] at e; cases e
      | some n =>
        rw [en] at e
        cases e
        exact .inr ⟨_, _, rfl, en, h, post_ok q ok _ (.int _)⟩
    · rw [if_neg h] at e; cases e
  · cases e
end
end Dd

namespace Dd
open PySem PySem.Spec L2 PyProof.Rows
section
variable {X : Cx} {W : WX} {o : Expr} {mo : M D} {apos pos : Pos}
end
end Dd

namespace Dd
open PySem PySem.Spec L2 PyProof.Rows
/-! ### a text times a number from two on -/
def repS (z : Str) (n : Nat) : Str := ⟨(List.replicate n z.cps).foldl (· ++ ·) #[]⟩
theorem fold_size (a : Array Nat) : ∀ (n : Nat) (acc : Array Nat), ((List.replicate n a).foldl (· ++ ·) acc).size = acc.size + n * a.size
  | 0, acc => by simp
  | n + 1, acc => by
    rw [List.replicate_succ, List.foldl_cons, fold_size a n, Array.size_append, Nat.succ_mul]
    omega
theorem repS_len (z : Str) (n : Nat) : (repS z n).length = n * z.length := by
  show ((List.replicate n z.cps).foldl (· ++ ·) #[]).size = _
  rw [fold_size]
  show 0 + n * z.cps.size = n * z.cps.size
  omega
def rRepS : R2 := fun x y H Q => ∃ (z : Str) (n : Int), x = .str z ∧ y = .int n ∧ 2 ≤ n ∧ n ≤ 10000 ∧ 1 ≤ z.length ∧ z.length ≤ 100 ∧ Q (.str (repS z n.toNat)) H
section
variable {X : Cx}
theorem op_repS : OpR X (binaryOp .Mult) rRepS := by
  intro pins s σ H x y v u Q I rx ry h
  obtain ⟨z, n, rfl, rfl, h1, h2, h3, h4, q⟩ := h
  obtain ⟨t, rfl⟩ := rx
  obtain ⟨t2, rfl⟩ := ry
  have hm : (z.length : Int) * n ≤ 100 * 10000 := Int.mul_le_mul (by omega) h2 (by omega) (by omega)
  have hmn : z.length * n.toNat ≤ 1000000 := by
    have : ((z.length * n.toNat : Nat) : Int) = (z.length : Int) * n := by push_cast; rw [Int.toNat_of_nonneg (by omega)]
    omega
  refine PySem.P.mul_str ?_ (fun _ _ => ?_) (fun _ _ => ?_) ?_
  · rw [decide_eq_false (by omega), decide_eq_false (by omega)]; rfl
  · have : (z.length : Int) ≤ (2 ^ 63 - 1) / n := Int.le_ediv_of_mul_le (by omega) (by omega)
    omega
  · unfold Builtin.Str.tooLong
    rw [sizeLine_eq]
    exact decide_eq_false (by omega)
  · rw [if_neg (by omega)]
    have c : (n == 1 || z.length == 0) = false := by
      rw [beq_false_of_ne (by omega), beq_false_of_ne (by omega)]; rfl
    rw [c, if_neg (by decide)]
    refine ⟨?_, .str (repS z n.toNat), H, I.tok _, ⟨_, rfl⟩, q⟩
    show (repS z n.toNat).length ≤ sizeLine
    rw [repS_len, sizeLine_eq, Nat.mul_comm]
    omega
end
end Dd

namespace Dd
open PySem PySem.Spec L2 PyProof.Rows
section
variable {K : PySem.W.Frag} {F H : Hp}
end
section
variable {K : PySem.W.Frag} {W : WX} {c : Ct} {σ : L2.St} {H F : Hp} {ρ : En}
end
section
variable {K : PySem.W.Frag} {F H : Hp}
end
section
variable {P : Program} {w : World} {K : PySem.W.Frag} {mg : Str → Option Value} {base : Heap} {x qual : Str} {st : Stmt} {f : Addr} {fd : FuncData} {N ps : List Str} {k : Nat} {m : M Fl} {sc : Scope} {bd : List Stmt}
end
open Classical in
section
variable {K : PySem.W.Frag} {W : WX} {c : Ct} {σ : L2.St} {H F : Hp} {ρ : En}
end
section
variable {X : Cx} {CX : CXT} {W : WX} {k n : Nat} {f C : Addr} {fd : FuncData} {ps : List Str} {sp : Sp} {E : L2.St → XK} {t : TA} {ta : TE} {x m cn : Str} {p pos apos pos' : Pos} {o e value : Expr} {es : List Expr} {ms : M (List D)} {mo mv : M D} {i : Nat}
end
end Dd

namespace Dd
open PySem PySem.Spec L2 PyProof.Rows
/-! ### a, b, .. = x, [], ..: values and new lists -/
abbrev Itm := D ⊕ List D
inductive RX (K : PySem.W.Frag) (F : Hp) : List V → List Itm → List (Addr × List V) → Prop
  | nil : RX K F [] [] []
  | val {v : V} {d : D} {vs : List V} {is : List Itm} {ps : List (Addr × List V)} : Dp K F v d → RX K F vs is ps → RX K F (v :: vs) (.inl d :: is) ps
  | own {p : Addr} {xs : List V} {ds : List D} {vs : List V} {is : List Itm} {ps : List (Addr × List V)} : DpAll K F xs ds → RX K F vs is ps → RX K F (.ref p :: vs) (.inr ds :: is) ((p, xs) :: ps)
section
variable {X : Cx} {W : WX} {K : PySem.W.Frag} {σ : L2.St} {H F : Hp} {ρ : En} {c : Ct} {Dn : Ends}
theorem RX.mono {F F' : Hp} (s : Same F F') : ∀ {vs : List V} {is : List Itm} {ps : List (Addr × List V)}, RX K F vs is ps → RX K F' vs is ps
  | _, _, _, .nil => .nil
  | _, _, _, .val h t => .val (Dp.mono s h) (RX.mono s t)
  | _, _, _, .own h t => .own (DpAll.mono s h) (RX.mono s t)
variable {is : List Nat} {m : M (List Itm)} {tgs es : List Expr} {pos tp ep : Pos} {kt ke n i j l : Nat} {x y z : Str} {a b cc : Expr} {px py pz : Pos}
end
/-! ### defs that change their first list and hand back a new one -/
def spBF (K : PySem.W.Frag) (n : Nat) (f : List D → List D → Option (Rs (List D) × List D)) : Sp := fun vs H Q E => ∃ F p bs0 bs rest ds, vs = .ref p :: rest ∧ Same F H ∧ F p = none ∧ H p = some (.lst bs0) ∧ DpAll K F bs0 bs ∧ DpAll K F rest ds ∧ ds.length + 1 = n ∧ match f bs ds with
  | none => False
  | some (.ok es, bs') => ∀ q xs bs1 F' H', ExtB p F H F' H' → H' p = some (.lst bs1) → DpAll K F' bs1 bs' → q ≠ p → H q = none → F' q = none → H' q = some (.lst xs) → DpAll K F' xs es → Q (.ref q) H'
  | some (.error e, bs') => ∀ cls x bs1 F' H', ExtB p F H F' H' → H' p = some (.lst bs1) → DpAll K F' bs1 bs' → ExR K e cls x F' H' → E cls x H'
def runBF (m : M Fl) (n : Nat) (bs : List D) (ds : List D) : Option (Rs (List D) × List D) := match m (env0B n bs ds) with
  | some (.ok (.rf es) (.io bs' :: _)) => some (.ok es, bs')
  | some (.ex e (.io bs' :: _)) => some (.error e, bs')
  | _ => none
section
variable {P : Program} {w : World} {K : PySem.W.Frag} {mg : Str → Option Value} {base : Heap} {x qual : Str} {st : Stmt} {f : Addr} {fd : FuncData} {N ps : List Str} {k : Nat} {m : M Fl} {sc : Scope} {bd : List Stmt}
theorem okBF2G (Fn : Fun K x qual st f fd) (S : FnScope N ps (defScope st)) (h1 : defScope st = sc) (h2 : defBody st = bd) (hb : BodyC P w K mg base qual sc bd f N k m) : FnG P w K mg base (L2.CX P w) (k + 1) f fd ps (spBF K ps.length (runBF m N.length)) := by
  subst h1 h2
  refine okXG Fn S (fun vs H Q E h => ?_) (fun cdv A outer s H vs Q E hgd hr h => ⟨_, hb cdv A outer s H E hgd hr, ?_⟩)
  · obtain ⟨F, p, bs0, bs, rest, ds, rfl, _, _, _, _, r, hl, _⟩ := h
    rw [List.length_cons, DpAll.length r]; exact hl
  · obtain ⟨F, p, bs0, bs, rest, ds, rfl, s', hF, hp, rb, r, hl, h⟩ := h
    refine ⟨_, F, _, startB_ok s' hF hp rb r (by rw [hl]; exact FnScope.le S), ?_⟩
    have fin : ∀ {σ' H' F' ρ' bs'}, Ok K ⟨F, H, some p, noPr⟩ σ' H' F' (.io bs' :: ρ') → ∃ bs1, H' p = some (.lst bs1) ∧ DpAll K F' bs1 bs' := fun {σ' H' F' ρ' bs'} ok => by
      obtain ⟨_, q, vs, c0, c1, c2, c3⟩ := ok.ios 0 bs' rfl
      have e : some p = some q := c0
      cases e
      exact ⟨vs, c2, c3⟩
    unfold runBF at h
    cases e : m (env0B N.length bs ds) with
    | none => rw [e] at h; exact h
    | some q =>
      rw [e] at h
      cases q with
      | ex y ρ' =>
        intro σ' cls z H' F' ok _ r'
        cases ρ' with
        | nil => exact h.elim
        | cons u ρ' =>
          cases u with
          | io bs' =>
            obtain ⟨bs1, b1, b2⟩ := fin ok
            exact h cls z bs1 F' H' ok.extB b1 b2 r'
          | un => exact h.elim
          | val _ => exact h.elim
          | own _ => exact h.elim
          | scr _ => exact h.elim
          | dct _ => exact h.elim
          | nst _ => exact h.elim
      | ok fl ρ' =>
        cases fl with
        | nx => cases ρ' <;> exact h.elim
        | rt d => cases ρ' <;> exact h.elim
        | bk => exact h.elim
        | ct => exact h.elim
        | rf es =>
          intro σ' q xs H' F' ok _ hq r' hf h0
          cases ρ' with
          | nil => exact h.elim
          | cons u ρ' =>
            cases u with
            | io bs' =>
              obtain ⟨bs1, b1, b2⟩ := fin ok
              have ne : q ≠ p := fun z => by subst z; have h0' : H q = none := h0; rw [hp] at h0'; cases h0'
              exact h q xs bs1 F' H' ok.extB b1 b2 ne h0 hf hq r'
            | un => exact h.elim
            | val _ => exact h.elim
            | own _ => exact h.elim
            | scr _ => exact h.elim
            | dct _ => exact h.elim
            | nst _ => exact h.elim
end
/-- x = f(own list, ..), f hands back a new list -/
def mAsgBF (k i n : Nat) (f : List D → List D → Option (Rs (List D) × List D)) (ms : M (List D)) : M Fl := mBind (mOwn i) fun _ => mBind ms fun ds => mBind (mOwn i) fun bs => if ds.length + 1 = n ∧ k ≠ i then (match f bs ds with
  | none => mStuck
  | some (.ok es, bs') => mBind (mPut i bs') fun _ => mBind (mStoreO k es) fun _ => mDone
  | some (.error e, bs') => mBind (mPut i bs') fun _ => fun ρ => some (.ex e ρ)) else mStuck
section
variable {K : PySem.W.Frag} {W : WX} {σ : L2.St} {H : Hp} {n : Nat} {ms : M (List D)}
theorem own_atS {c : Ct} {F : Hp} {ρ : En} {i : Nat} {Dn : Ends} {f : List D → M Fl} (ok : Ok K c σ H F ρ) (h : postS K W c F Dn (mBind (mOwn i) f ρ)) :
    ∃ p vs ds, σ[i]? = some (some (.ref p)) ∧ H p = some (.lst vs) ∧ DpAll K F vs ds ∧ F p = none ∧ (ρ[i]? = some (.own ds) ∨ ρ[i]? = some (.io ds)) ∧ postS K W c F Dn (f ds ρ) := by
  unfold mBind at h
  cases e : mOwn i ρ with
  | none => rw [e] at h; exact h.elim
  | some r =>
    obtain ⟨ds, rfl, e2⟩ := own_is (α := D) e
    rw [e] at h
    rcases e2 with e2 | e2
    · obtain ⟨p, vs, a1, a2, a3, a4, _⟩ := ok.own i ds e2
      exact ⟨p, vs, ds, a1, a2, a3, a4, .inl e2, h⟩
    · obtain ⟨_, p, vs, a0, a1, a2, a3⟩ := ok.ios i ds e2
      exact ⟨p, vs, ds, a1, a2, a3, (ok.iod p a0).1, .inr e2, h⟩
theorem asgBF_of {k i : Nat} {f : List D → List D → Option (Rs (List D) × List D)} {Dn : Ends} (h : tS K W (mAsgBF k i n f ms) Dn σ H) : tAsg (tCallS (spBF K n f) (WE W) (tCons (tVar i) (tA K W ms))) (gName k) Dn σ H := by
  obtain ⟨c, F, ρ, ok, h⟩ := h
  obtain ⟨p, vs, ds0, a1, a2, a3, a4, _, h⟩ := own_atS ok h
  refine ⟨.ref p, a1, c, F, ρ, ok, post_mono ?_ (postS_bind h)⟩
  rintro ds H1 F1 _ ⟨ρ1, ok1, s1, h1⟩ ws rw'
  obtain ⟨p', vs1, bs, b1, b2, b3, b4, hi, h2⟩ := own_atS ok1 h1
  have ep : p' = p := by rw [a1] at b1; cases b1; rfl
  subst ep
  split at h2
  · rename_i hl
    obtain ⟨hl, hki⟩ := hl
    refine ⟨F1, p', vs1, bs, ws, ds, rfl, ok1.sub, b4, b2, b3, rw', hl, ?_⟩
    cases e : f bs ds with
    | none => rw [e] at h2; exact h2
    | some q =>
      rw [e] at h2
      obtain ⟨r, bs'⟩ := q
      cases r with
      | error ex =>
        intro cls y bs1 F' H' x hb rb rv
        obtain ⟨ρ2, e2, ok2⟩ := ok1.callB (bs0 := vs1) hi b1 x hb rb
        have h3 : postS K W c F1 Dn ((mBind (mPut i bs') fun _ => fun ρ => some (.ex ex ρ)) ρ1) := h2
        unfold mBind at h3
        rw [e2] at h3
        exact h3 σ cls y H' F' ok2 x.ff rv
      | ok es =>
        intro q xs bs1 F' H' x hb rb ne hq0 hqF hq rx
        obtain ⟨ρ2, e2, ok2⟩ := ok1.callB (bs0 := vs1) hi b1 x hb rb
        have h3 : postS K W c F1 Dn ((mBind (mPut i bs') fun _ => mBind (mStoreO k es) fun _ => mDone) ρ1) := h2
        have h4 : postS K W c F1 Dn ((mBind (mStoreO k es) fun _ => mDone) ρ2) := by
          unfold mBind at h3
          rw [e2] at h3
          exact h3
        have h5 := postS_bindG h4
        unfold mStoreO at h5
        split at h5
        · rename_i hk
          have ok3 : Ok K c (σ.set k (some (.ref q))) H' F' (ρ2.set k (.own es)) := by
            obtain ⟨n1, n2, n3, n4, n5⟩ := ok1.new hq0
            have hxq : ∀ {u : Sl} {j : Nat}, ρ2[j]? = some u → (∃ fs, u = .own fs) → σ[j]? = some (some (.ref q)) → False := by
              rintro u j e ⟨fs, rfl⟩ y
              have hj : ∃ gs, ρ1[j]? = some (.own gs) := by
                unfold mPut at e2
                rcases hi with hi | hi
                · rw [hi] at e2
                  cases e2
                  rw [get_set (lt_of_get hi)] at e
                  by_cases z : i = j
                  · subst z; exact ⟨_, hi⟩
                  · rw [if_neg z] at e; exact ⟨_, e⟩
                · rw [hi] at e2
                  cases e2
                  rw [get_set (lt_of_get hi)] at e
                  by_cases z : i = j
                  · rw [if_pos z] at e; cases e
                  · rw [if_neg z] at e; exact ⟨_, e⟩
              obtain ⟨gs, hg⟩ := hj
              obtain ⟨r, us, c1, c2, _⟩ := ok1.own j gs hg
              rw [y] at c1
              cases c1
              rw [hq0] at c2; cases c2
            refine ok2.set hk (fun d' e => by cases e) (fun fs e => ?_) (fun _ e => by cases e) (fun _ e => by cases e) (hxo := fun _ r _ y x' => ?_)
            · cases e
              refine ⟨q, xs, rfl, hq, rx, hqF, n2, n3, fun j fs a b => ?_⟩
              exact (hxq a ⟨fs, rfl⟩ b).elim
            · cases y
              rcases x' with ⟨j, l, e1, y⟩ | ⟨j, dss, e1, cc⟩
              · have e1' : ρ1[j]? = some (.dct l) := by
                  unfold mPut at e2
                  rcases hi with hi | hi
                  · rw [hi] at e2; cases e2
                    rw [get_set (lt_of_get hi)] at e1
                    by_cases z : i = j
                    · rw [if_pos z] at e1; cases e1
                    · rw [if_neg z] at e1; exact e1
                  · rw [hi] at e2; cases e2
                    rw [get_set (lt_of_get hi)] at e1
                    by_cases z : i = j
                    · rw [if_pos z] at e1; cases e1
                    · rw [if_neg z] at e1; exact e1
                obtain ⟨r, o, c1, c2, _⟩ := ok1.dcs.at' j l e1'
                rw [y] at c1
                cases c1
                rw [hq0] at c2; cases c2
              · have e1' : ρ1[j]? = some (.nst dss) := by
                  unfold mPut at e2
                  rcases hi with hi | hi
                  · rw [hi] at e2; cases e2
                    rw [get_set (lt_of_get hi)] at e1
                    by_cases z : i = j
                    · rw [if_pos z] at e1; cases e1
                    · rw [if_neg z] at e1; exact e1
                  · rw [hi] at e2; cases e2
                    rw [get_set (lt_of_get hi)] at e1
                    by_cases z : i = j
                    · rw [if_pos z] at e1; cases e1
                    · rw [if_neg z] at e1; exact e1
                obtain ⟨r, rs, c1, c2, _, c4, _⟩ := ok1.dcs.nat j dss e1'
                obtain ⟨r', rs', d1, d2, d3⟩ := cc
                have er : r' = r := by rw [c1] at d1; cases d1; rfl
                subst er
                have hne : r' ≠ p' := fun z => by
                  subst z
                  rcases hi with hi | hi
                  · exact ok1.dcs.nown j i dss bs r' e1' hi b1 ⟨r', rs, c1, c2, .inl rfl⟩
                  · obtain ⟨_, r2, us, g0, g1, _⟩ := ok1.ios i bs hi
                    rw [b1] at g1
                    cases g1
                    obtain ⟨_, z2, _⟩ := ok1.iod r' g0
                    obtain ⟨_, _, _, _, m, _⟩ := ok1.dcs.nat j dss e1'
                    obtain ⟨q5, q6, q7, q8, q9, _⟩ := ok1.dcs.nat j dss e1'
                    rw [c1] at q7
                    cases q7
                    exact z2 q9.2.1
                have d2' := x.hh r' _ hne c2
                rw [d2'] at d2
                have z := refs_inj (HO.lst.inj (Option.some.inj d2))
                subst z
                have hc : ∃ us, H1 q = some (.lst us) := by
                  rcases d3 with rfl | hm
                  · exact ⟨_, c2⟩
                  · exact (Inn.cell c4 hm).1
                obtain ⟨us, hc⟩ := hc
                rw [hq0] at hc; cases hc
          obtain ⟨F3, ρ3, ok4, s3, h6⟩ := h5 _ H' F' ok3 x.ff
          exact h6 _ _ _ ok4 (Same.refl F3)
        · exact h5.elim
  · exact h2.elim
end
section
variable {X : Cx} {W : WX} {k n : Nat} {f : Addr} {fd : FuncData} {ps : List Str} {x : Str} {p pos : Pos} {e : Expr} {es : List Expr} {ms : M (List D)}
theorem dAsgBFG {kk i : Nat} {y : Str} {pos' spos : Pos} {g : List D → List D → Option (Rs (List D) × List D)} (hgd : X.A.guards = some []) (F : FnG X.prog X.w X.K X.mg X.base (L2.CX X.prog X.w) k f fd ps (spBF X.K n g)) (hr : Room k X.A) (hm : X.mg x = some (.ref f)) (hk : PySem.W.keepIn X.K (.ref f) = true) (hb : Binds X.K fd ps []) (tk : Takes X W) (hN : X.N.Nodup)
    (h1 : PE X e (tVar i)) (ha : PA X es (tA X.K W ms)) (hg : Gl X x := by rfl) (hdb : (x == ("__debug__" : Str)) = false := by decide) (he : starEach (e :: es) X.env = (false, eval e X.env) :: starEach es X.env := by rfl) (hpl : (backTo pos (starEach es X.env)).any (·.1) = false := by rfl)
    (hi : X.N[kk]? = some y := by rfl) (hx : Loc X.env.scope y := by first | exact Or.inl rfl | exact Or.inr rfl)
    (hs : swapsWith (.Call (.Name x p) (e :: es) [] pos) (some (.Name y pos')) spos.line X.env = pure false := by rfl)
    (hf : X.fn y = true ∨ X.env.scope.names.lookup y = some .local := by first | exact .inl rfl | exact .inr rfl) :
    PS X (.Assign [.Name y pos'] (.Call (.Name x p) (e :: es) [] pos) spos) (tS X.K W (mAsgBF kk i n g ms)) := PS.imp (ps_set hN hi hx (pe_callG F hgd hr hg hm hk hb (fun σ => passAt tk σ) (pa_cons h1 ha he) hdb he hpl) hs hf) fun _ _ _ => asgBF_of
end
end Dd

namespace Dd
open PySem PySem.Spec L2
/-! ### range, upwards by steps -/
section
variable {X : Cx} {W : WX} {K : PySem.W.Frag} {tg a b e : Expr} {ms : M (List D)} {p pos : Pos}
end
end Dd

namespace Dd
open PySem PySem.Spec L2
/-! ### a new list times a written number -/
section
variable {X : Cx} {W : WX} {K : PySem.W.Frag} {σ : St} {H F : Hp} {ρ : En} {c : Ct} {mn : M (List D)} {k : Int}
end
end Dd

namespace Dd
open PySem PySem.Spec L2
/-! ### a comprehension over zip(a list, a list of one's own), that stays one's own -/
section
variable {K : PySem.W.Frag} {W : WX} {c : Ct} {σ : L2.St} {H F : Hp} {ρ : En}
end
section
variable {K : PySem.W.Frag} {W : WX} {σ : L2.St} {H : Hp}
end
section
variable {X : Cx} {W : WX}
end
end Dd

namespace Dd
open PySem PySem.Spec L2
/-! ### x[k].extend(a new list): x is a list of lists, all one's own -/
section
variable {K : PySem.W.Frag} {W : WX} {c : Ct} {σ : L2.St} {H F : Hp} {ρ : En} {i : Nat}
end
end Dd

namespace Dd
open PySem PySem.Spec L2
/-! ### x, y = [[], []], a value -/
section
variable {K : PySem.W.Frag} {W : WX} {σ : L2.St} {H : Hp} {i j : Nat} {Dn : Ends}
end
section
variable {X : Cx} {W : WX} {i j : Nat} {x y : Str} {px py pt pt2 pos lp lp1 lp2 : Pos} {kt k2 : Nat}
end
end Dd

namespace SrtS
open PySem PyProof.Rows Srt SrtO
variable {prog : Program} {w : World} {A : Around} {E : Value → Shared → Prop} {s : Shared}
/-- v is a tuple of a number and a text -/
def IsPS (h : Heap) (v : Value) (x : Int) (y : Str) : Prop := ∃ a o t u n, v = .ref a ∧ h.get? a = some o ∧ o.cls = .type "tuple" ∧ o.data = .seq #[.int x t, .str y u] n
theorem IsPS.keeps {h h' : Heap} {v : Value} {x : Int} {y : Str} (p : IsPS h v x y) (k : ∀ b o, h.get? b = some o → o.cls = .type "tuple" → h'.get? b = some o) : IsPS h' v x y := by
  obtain ⟨a, o, t, u, n, e, ho, hc, hd⟩ := p
  exact ⟨a, o, t, u, n, e, k _ _ ho hc, hc, hd⟩
end SrtS
namespace Dd
open PySem PySem.Spec L2
open Classical in
section
variable {X : Cx} {K : PySem.W.Frag}
end
section
variable {K : PySem.W.Frag}
end
end Dd

namespace Dd
open PySem PySem.Spec L2 PyProof.Rows
section
variable {X : Cx} {CX : CXT} {W : WX} {k n : Nat} {f : Addr} {fd : FuncData} {ps : List Str} {sp sp' : Sp} {E : L2.St → XK} {t : TA} {x : Str} {p pos : Pos} {e : Expr} {es : List Expr} {ms : M (List D)} {dvs : List V} {ds : List Value}
end
end Dd

namespace Dd
open PySem PySem.Spec L2 PyProof.Rows
section
variable {K : PySem.W.Frag} {F H : Hp}
end
end Dd

namespace Dd
open PySem PySem.Spec L2 PyProof.Rows
end Dd

namespace Dd
open PySem PySem.Spec L2
/-! ### x = [] to hold lists; a call that looks at a list of lists; min(a list of ints, default=a number) -/
section
variable {X : Cx} {W : WX} {i : Nat} {x : Str} {lp pos pos' : Pos}
end
section
variable {X : Cx} {W : WX} {k n : Nat} {f : Addr} {fd : FuncData} {ps : List Str} {x : Str} {p pos : Pos} {e : Expr} {es : List Expr} {ms : M (List D)}
end
section
variable {X : Cx} {W : WX} {a : Expr} {m : M D} {p pos kp np : Pos} {jj : Nat} {q : Int}
end
end Dd

namespace Dd
open PySem PySem.Spec L2 PyProof.Rows
/-! ### is not, of bools -/
def isntB : D → D → Option D
  | .bool a, .bool b => some (.bool (!decide (a = b)))
  | _, _ => none
theorem opD_isntB {K : PySem.W.Frag} : OpD K rNotB isntB := by
  intro W c σ H F ρ x y a b d Q ok rx ry e q
  unfold isntB at e
  split at e
  · cases e
    exact ⟨_, _, rx.bool, ry.bool, post_ok q ok _ (.bl _)⟩
  · cases e
end Dd

namespace Dd
open PySem PySem.Spec L2 PyProof.Rows
section
variable {X : Cx} {W : WX} {k n : Nat} {f : Addr} {fd : FuncData} {ps ks : List Str} {x : Str} {p pos : Pos} {e : Expr} {es : List Expr} {kws : List Keyword} {g : List Value → List Value → List Value}
end
end Dd

namespace Dd
open PySem PySem.Spec L2 PyProof.Rows
end Dd

namespace Dd
open PySem PySem.Spec L2 PyProof.Rows
/-! ### try .. except C as e: v = e.f -/
section
variable {X : Cx} {Wout : WX} {x n cn y : Str} {c : Value} {C : Addr} {i v : Nat} {body : List Stmt} {ea : Expr} {np pos pos' yp sp : Pos} {mb : M Fl} {q0 : Pt}
theorem dTryP (hs : X.stack = X.env :: X.outer) (hf : X.env.frame = some X.env.locals) (hN : X.N.Nodup) (hi : X.N[i]? = some n) (hln : X.env.kindOf n = some .local) (hc : Names X x c) (tk : Takes X Wout)
    (T : ExTxt X.K cn C) (te : PySem.W.exmOne X.K (.ref C) c = some true)
    (hb : ∀ (W : WX) (pn : List (Addr × Obj)) (xe : Value → Shared → Prop), Takes (X.tr pn xe) W → PassesOwn (model X.prog X.w) X.A X.env xe → PSs (X.tr pn xe) body (tS X.K W mb))
    (hsu : ∀ (a : Addr) (oe : Obj) (cls : Value) (d : Option Addr) (pn : List (Addr × Obj)), Zc cls d oe → (∃ vs, oe.data = .fields vs) → PE (X.suite a ((a, oe) :: pn)) ea (tPt a C i cls d q0))
    (hv : X.N[v]? = some y) (hy : Loc X.env.scope y := by first | exact Or.inl rfl | exact Or.inr rfl)
    (hsw : swapsWith ea (some (.Name y yp)) sp.line X.env = pure false := by rfl)
    (hfn : X.fn y = true ∨ X.env.scope.names.lookup y = some .local := by first | exact .inl rfl | exact .inr rfl) :
    PS X (.Try body [.ExceptHandler (some (.Name x np)) (some n) [.Assign [.Name y yp] ea sp] pos'] [] [] pos) (tS X.K Wout (mTry cn i mb (mSuiteF v q0))) := by
  refine PS.imp (ps_try_as (tb := fun W => tS X.K W mb) (ts := fun a cls d => tAsg (tPt a C i cls d q0) (gName v)) hs hf hN hi hln hc tk hb (fun a oe cls d pn hz hfl => pss_one (ps_set (X := X.suite a ((a, oe) :: pn)) hN hv hy (hsu a oe cls d pn hz hfl) hsw hfn))) ?_
  rintro D σ H ⟨cc, F, ρ, ok, h⟩; refine ⟨cc, F, ρ, ok, ?_⟩; unfold mTry at h
  cases em : mb ρ with
  | none => rw [em] at h; exact h.elim
  | some r =>
    rw [em] at h
    cases r with
    | ok fl ρ' => cases fl <;> exact h
    | ex e ρ' =>
      dsimp only at h
      split at h
      · rename_i hh; obtain ⟨hcn, hil⟩ := hh
        intro σ' cls z H' F' ok' s' er
        obtain ⟨Ca, n1, rfl, dd, vs, rfl, hF, hnm, hdp⟩ := er
        have eC : Ca = C := by rw [hcn, T.nm] at n1; exact (Value.ref.inj (Option.some.inj (Option.some.inj n1))).symm
        subst eC
        refine ⟨true, te, fun _ a ha => ?_, fun z => nomatch z⟩
        unfold mSuiteF at h
        cases ed : ptD e.fs q0 with
        | none => rw [ed] at h; exact h.elim
        | some d0 =>
          rw [ed] at h; dsimp only at h
          by_cases hvl : v < (ρ'.set i .un).length
          · rw [if_pos hvl] at h
            obtain ⟨x0, ev, rx⟩ := pt_rel hnm hdp ed
            have ok1 := ok'.setU (v := some (.ref a)) hil
            have hsi : (σ'.set i (some (.ref a)))[i]? = some (some (.ref a)) := by
              have : i < σ'.length := by rw [ok'.len]; exact hil
              simp [this]
            refine ⟨dd, vs, x0, hsi, rfl, rfl, ok'.sub _ _ hF, ev, ?_⟩
            have ok4 := (ok1.setV hvl rx).setU (v := none) (i := i) (by rw [List.length_set, List.length_set]; exact hil)
            exact h _ _ _ ok4 s'
          · rw [if_neg hvl] at h; exact h.elim
      · exact h.elim
end
/-! ### own dicts: made by a display, read by get, set within a target -/
def mSetDct (i : Nat) (q : List (Key × D)) : M Fl := fun ρ => if i < ρ.length then some (.ok .nx (ρ.set i (.dct (none, q)))) else none
def ownKeys (kds : List (Str × D)) : List (Key × D) := kds.map fun p => (.inr p.1, p.2)
def mDispO (i : Nat) (m : M (List (Str × D))) : M Fl := mBind m fun kds => mBind (mLift (if kds.length ≤ 15 ∧ (kds.map (·.1)).Nodup then some (ownKeys kds) else none)) fun q => mSetDct i q
def mGetDict (i : Nat) (mk mz : M D) : M D := mBind (mDct i) fun _ => mBind mk fun k => mBind mz fun z => mBind (mDct i) fun kvs => mLift ((keyD k).map fun k => (valD kvs k).getD z)
def gSetK (i : Nat) (mk : M D) : D → M Unit := fun d => mBind (mDct i) fun _ => mBind mk fun k => mBind (mDct i) fun kvs => mBind (mLift ((keyD k).bind fun k => if fit kvs.length = true then some (setKD kvs k d) else none)) fun q => mPutD i q
section
variable {K : PySem.W.Frag} {W : WX} {σ : L2.St} {H : Hp} {c : Ct} {F : Hp} {ρ : En}
theorem ownkv_of : ∀ {kds : List (Str × D)} {ws : List V}, DpAll K F ws (kds.map (·.2)) → KVs K F ((kds.map (·.1)).zipWith (fun k v => ((Sum.inr k : Key), v)) ws) (ownKeys kds)
  | [], _, h => by cases h; exact .nil
  | p :: kds, _, h => by cases h with | cons h1 h2 => exact .cons h1 (ownkv_of h2)
theorem nodup_inr {zs : List Str} (h : zs.Nodup) : (zs.map fun z => (Sum.inr z : Key)).Nodup := by
  induction zs with
  | nil => exact List.nodup_nil
  | cons z zs ih =>
    rw [List.nodup_cons] at h; rw [List.map_cons, List.nodup_cons]
    refine ⟨fun hm => h.1 ?_, ih h.2⟩
    obtain ⟨z', h1, h2⟩ := List.mem_map.mp hm
    injection h2 with h2
    rw [← h2]; exact h1
theorem dct_atG {i : Nat} {Q : L2.St → Hp → Prop} {f : List (Key × D) → M Unit} (h : postG K W c F Q (mBind (mDct i) f ρ)) : ∃ kvs, ρ[i]? = some (.dct (none, kvs)) ∧ postG K W c F Q (f kvs ρ) := by
  unfold mBind mDct at h
  cases e : ρ[i]? with
  | none => rw [e] at h; exact h.elim
  | some u =>
    rw [e] at h
    cases u with
    | dct l => obtain ⟨t, kvs⟩ := l; cases t with
      | none => exact ⟨kvs, rfl, h⟩
      | some _ => exact h.elim
    | _ => exact h.elim
theorem putD_okG {i : Nat} {kvs : List (Key × D)} {ws' : List (Key × V)} {p : Addr} {Q : L2.St → Hp → Prop} (ok : Ok K c σ H F ρ) (hp : σ[i]? = some (some (.ref p))) (hk : KVs K F ws' kvs)
    (h : postG K W c F Q (mPutD i kvs ρ)) : ∃ ρ', Ok K c σ (upd H p (.dK ws')) F ρ' ∧ postG K W c F Q (some (.ok () ρ')) := by
  unfold mPutD at h
  cases e : ρ[i]? with
  | none => rw [e] at h; exact h.elim
  | some u =>
    rw [e] at h
    cases u with
    | dct l => obtain ⟨t, es⟩ := l; cases t with
      | none => exact ⟨_, ok.chgD e hp hk, h⟩
      | some _ => exact h.elim
    | _ => exact h.elim
theorem dispO_of {trs : List (TE × TE)} {m : M (List (Str × D))} {i : Nat} {Dn : Ends} (ht : ∀ (σ : L2.St) (H : Hp) (Q : List (V × V) → Hp → Prop) (c : Ct) (F : Hp) (ρ : En), Ok K c σ H F ρ → post K W c σ F (fun kds H' F' => ∀ ws, DpAll K F' ws (kds.map (·.2)) → Q ((kds.map (·.1)).zipWith (fun k v => (V.str k, v)) ws) H') (m ρ) → tPairs trs σ H Q)
    (h : tS K W (mDispO i m) Dn σ H) : tAsg (tDisp trs) (gName i) Dn σ H := by
  obtain ⟨c, F, ρ, ok, h⟩ := h
  intro p hp
  have okp := ok.allocP (o := .dK []) hp
  have hpr := (ok.new hp).2.2.1
  refine ht σ _ _ (c.put p (.dK [])) F ρ okp ?_
  unfold mDispO at h
  have h2 := postS_bind (σ := σ) h
  cases em : m ρ with
  | none => rw [em] at h2; exact h2.elim
  | some r =>
    rw [em] at h2
    cases r with
    | ex z ρ1 => exact fun cls x H' F' ok' s er => h2 cls x H' F' (ok_unput ok' hpr) s er
    | ok kds ρ1 =>
      intro H' F' ok' s' ws rws
      have hH := ok'.prt p _ upd_same
      have hwl : ws.length = kds.length := by rw [DpAll.length rws, List.length_map]
      refine ⟨hH.1, (kds.map (·.1)).zipWith (fun k v => ((Sum.inr k : Key), v)) ws, zip_keys kds ws hwl, ?_⟩
      have h5 : postS K W c F Dn ((mBind (mLift (if kds.length ≤ 15 ∧ (kds.map (·.1)).Nodup then some (ownKeys kds) else none)) fun q => mSetDct i q) ρ1) := by
        have q := h
        unfold mBind at q; rw [em] at q
        exact q
      by_cases hk : kds.length ≤ 15 ∧ (kds.map (·.1)).Nodup
      · rw [if_pos hk] at h5
        refine ⟨by rw [List.length_zipWith, List.length_map, hwl, Nat.min_self]; exact hk.1, ?_⟩
        have em' : mergeK [] ((kds.map (·.1)).zipWith (fun k v => ((Sum.inr k : Key), v)) ws) = (kds.map (·.1)).zipWith (fun k v => ((Sum.inr k : Key), v)) ws := by
          rw [merge_nodup, List.nil_append]
          rw [List.nil_append, keys_fst _ _ hwl]
          have q : ((kds.map (·.1)).map fun z => (Sum.inr z : Key)).Nodup := nodup_inr hk.2
          rw [List.map_map] at q; exact q
        rw [em']
        have h6 : postS K W c F Dn (mSetDct i (ownKeys kds) ρ1) := h5
        unfold mSetDct at h6
        by_cases hi : i < ρ1.length
        · rw [if_pos hi] at h6
          have ok2 := (ok'.putP (o' := .dK ((kds.map (·.1)).zipWith (fun k v => ((Sum.inr k : Key), v)) ws))).setU (v := some (.ref p)) hi
          have q := ok2.asD hpr (by rw [List.length_set]; exact hi) (List.getElem?_set_self (by rw [ok'.len]; exact hi)) (ownkv_of rws)
          rw [List.set_set] at q
          exact h6 _ _ _ q s'
        · rw [if_neg hi] at h6; exact h6.elim
      · rw [if_neg hk] at h5; exact h5.elim
theorem getD_of {i : Nat} {mk mz : M D} {Q : VK} (h : tE K W (mGetDict i mk mz) σ H Q) : tDGet2 (tVar i) (tE K W mk) (tE K W mz) σ H Q := by
  obtain ⟨c, F, ρ, ok, h⟩ := h
  obtain ⟨kvs0, e0, h⟩ := dct_at h
  obtain ⟨p, ws0, a1, a2, a3, _⟩ := ok.dcs.atD i kvs0 e0
  refine ⟨.ref p, a1, p, rfl, .inl ⟨ws0, .inl a2⟩, c, F, ρ, ok, post_mono ?_ (post_bind h)⟩
  rintro k H1 F1 _ ⟨ρ1, ok1, s1, h1⟩ y ry
  refine ⟨c, F1, ρ1, ok1, post_mono ?_ (post_bind h1)⟩
  rintro z H2 F2 _ ⟨ρ2, ok2, s2, h2⟩ w rw'
  obtain ⟨kvs, e, h3⟩ := dct_at h2
  obtain ⟨p', ws, b1, b2, b3, _⟩ := ok2.dcs.atD i kvs e
  have ep : p' = p := by rw [a1] at b1; cases b1; rfl
  subst ep
  obtain ⟨d, e2, h4⟩ := post_lift h3
  cases ek : keyD k with
  | none => rw [ek] at e2; cases e2
  | some kk =>
    rw [ek] at e2; cases e2
    obtain rfl := key_is ry ek
    dsimp only at h4
    refine ⟨valV ws kk, DGet.k b2, ?_⟩
    rcases KVs.valv kk b3 with ⟨q1, q2⟩ | ⟨v, d, q1, q2, r⟩
    · rw [q1]; rw [q2] at h4; exact post_ok h4 ok2 _ rw'
    · rw [q1]; rw [q2] at h4; exact post_ok h4 ok2 _ r
theorem gsetK_of {i : Nat} {mk : M D} {v : V} {Q : L2.St → Hp → Prop} (h : tG K W (gSetK i mk) v σ H Q) : gSub (tVar i) (tE K W mk) rSetD v σ H Q := by
  obtain ⟨c, F, ρ, d, ok, r, h⟩ := h
  obtain ⟨kvs0, e0, h⟩ := dct_atG h
  obtain ⟨p, ws0, a1, a2, a3, _⟩ := ok.dcs.atD i kvs0 e0
  refine ⟨.ref p, a1, c, F, ρ, ok, post_mono ?_ (postG_bind h)⟩
  rintro k H1 F1 _ ⟨ρ1, ok1, s1, h1⟩ y ry
  obtain ⟨kvs, e, h1⟩ := dct_atG h1
  obtain ⟨p', ws, b1, b2, b3, _⟩ := ok1.dcs.atD i kvs e
  have ep : p' = p := by rw [a1] at b1; cases b1; rfl
  subst ep
  obtain ⟨kvs', e2, h3⟩ := post_lift (postG_bind (σ := σ) h1)
  obtain ⟨ρ3, ok3, s3, h4⟩ := h3 H1 F1 ok1 (Same.refl F1)
  cases ek : keyD k with
  | none => rw [ek] at e2; cases e2
  | some kk =>
    rw [ek] at e2
    have e2 : (if fit kvs.length = true then some (setKD kvs kk d) else none) = some kvs' := e2
    obtain rfl := key_is ry ek
    by_cases hf : fit kvs.length = true
    · rw [if_pos hf] at e2; cases e2
      refine ⟨p', _, rfl, DPut.k b2 (by rw [KVs.length b3]; have := of_decide_eq_true hf; rw [sizeLine_eq]; omega), ?_⟩
      obtain ⟨ρ4, ok4, h5⟩ := putD_okG (ws' := putK ws kk v) ok3 b1 (KVs.putk b3 (Dp.mono s1 r)) h4
      exact h5 _ _ _ ok4 (Same.refl F1)
    · rw [if_neg hf] at e2; cases e2
end
section
variable {X : Cx} {W : WX}
theorem dDispO {i : Nat} {x : Str} {keys : List (Option Expr)} {values : List Expr} {m : M (List (Str × D))} {dp pos pos' : Pos} (hN : X.N.Nodup) (h : PDs X W dp keys values m) (hi : X.N[i]? = some x := by rfl) (hx : Loc X.env.scope x := by first | exact Or.inl rfl | exact Or.inr rfl)
    (hall : keys.all (·.isSome) = true := by rfl) (hl : keys.length = values.length := by rfl) (h0 : keys ≠ [] := by exact fun z => by cases z) (h15 : keys.length ≤ 15 := by decide)
    (hs : swapsWith (.Dict keys values dp) (some (.Name x pos')) pos.line X.env = pure false := by rfl)
    (hf : X.fn x = true ∨ X.env.scope.names.lookup x = some .local := by first | exact .inl rfl | exact .inr rfl) : PS X (.Assign [.Name x pos'] (.Dict keys values dp) pos) (tS X.K W (mDispO i m)) := by
  obtain ⟨trs, hp, ht⟩ := h
  exact PS.imp (ps_set hN hi hx (pe_disp hp hall hl h0 h15) hs hf) fun _ _ _ => dispO_of ht
theorem dGetDict {i : Nat} {o e f : Expr} {mk mz : M D} {apos cpos : Pos} (hu : X.A.units + 1 < cLine) (ho : PE X o (tVar i)) (he : PE X e (tE X.K W mk)) (hf : PE X f (tE X.K W mz)) (m2 : M2 X o "get" apos e f cpos := by exact ⟨rfl, rfl, rfl, rfl⟩) :
    PE X (.Call (.Attribute o "get" apos) [e, f] [] cpos) (tE X.K W (mGetDict i mk mz)) := PE.imp (pe_dget2 hu ho he hf m2) fun _ _ _ => getD_of
theorem dgSetK {i : Nat} {o k : Expr} {mk : M D} {pos : Pos} (hu : X.A.units + 1 < cLine) (ho : PE X o (tVar i)) (hk : PE X k (tE X.K W mk))
    (ha : ∀ v, assign (.Subscript o k pos) X.env v = (do
      let ov ← holding [v] (eval o X.env)
      let iv ← holding [v, ov] (eval k X.env)
      standAt pos
      holding [v, ov, iv] (setItem ov iv v)
      release [v, ov, iv] []) := by exact fun _ => rfl) : PG X (.Subscript o k pos) (tG X.K W (gSetK i mk)) := PG.imp (pg_sub ho hk (set_dict hu) ha) fun _ _ _ _ => gsetK_of
end
end Dd

namespace Dd
open PySem PySem.Spec L2 PyProof.Rows
/-! ### a text times a number from one on -/
theorem repS_one (z : Str) : repS z 1 = z := by
  obtain ⟨a⟩ := z
  show (⟨#[] ++ a⟩ : Str) = ⟨a⟩
  rw [Array.empty_append]
def rRepS1 : R2 := fun x y H Q => ∃ (z : Str) (n : Int), x = .str z ∧ y = .int n ∧ 1 ≤ n ∧ n ≤ 10000 ∧ 1 ≤ z.length ∧ z.length ≤ 100 ∧ Q (.str (repS z n.toNat)) H
section
variable {X : Cx}
theorem op_repS1 : OpR X (binaryOp .Mult) rRepS1 := by
  intro pins s σ H x y v u Q I rx ry h
  obtain ⟨z, n, e1, e2, h1, h2, h3, h4, q⟩ := h
  by_cases hn : 2 ≤ n
  · exact op_repS pins s σ H x y v u Q I rx ry ⟨z, n, e1, e2, hn, h2, h3, h4, q⟩
  obtain rfl : n = 1 := by omega
  subst e1 e2
  obtain ⟨t, rfl⟩ := rx
  obtain ⟨t2, rfl⟩ := ry
  have hc : ((1 : Int) == 1 || z.length == 0) = true := rfl
  refine PySem.P.mul_str rfl (fun _ h => by rw [hc] at h; cases h) (fun _ h => by rw [hc] at h; cases h) ?_
  · rw [if_neg (by omega)]
    rw [if_pos hc]
    have e : repS z (1 : Int).toNat = z := repS_one z
    rw [e] at q
    exact ⟨.str z, H, I, ⟨_, rfl⟩, q⟩
end
def repS1D : D → D → Option D
  | .str z, .int n => if 1 ≤ n ∧ n ≤ 10000 ∧ 1 ≤ z.length ∧ z.length ≤ 100 then some (.str (repS z n.toNat)) else none
  | _, _ => none
theorem opD_repS1 {K : PySem.W.Frag} : OpD K rRepS1 repS1D := by
  intro W c σ H F ρ x y a b d Q ok rx ry e q
  unfold repS1D at e
  split at e
  · rename_i z n
    by_cases h : 1 ≤ n ∧ n ≤ 10000 ∧ 1 ≤ z.length ∧ z.length ≤ 100
    · rw [if_pos h] at e; cases e
      exact ⟨z, n, rx.str, ry.int, h.1, h.2.1, h.2.2.1, h.2.2.2, post_ok q ok _ (.str _)⟩
    · rw [if_neg h] at e; cases e
  · cases e
end Dd

namespace PySem
namespace NoProtocolX
open PySem.W PySem.Calls PyProof.Rows PySem.HandSPX PySem.OwnE
def iA (p1 p2 : Pos) : Arguments := { posonlyargs := [], args := [{ arg := "self", annotation := none, pos := p1 }, { arg := "word", annotation := none, pos := p2 }], vararg := none, kwonlyargs := [], kw_defaults := [], kwarg := none, defaults := [] }
def iB (q1 q2 q3 q4 : Pos) : List Stmt := [.Assign [.Attribute (.Name "self" q1) "word" q2] (.Name "word" q3) q4]
def iS : Scope := { kind := .function, names := [(PySem.Str.ofString "self", .local), (PySem.Str.ofString "word", .local)], isGenerator := false, isCoroutine := false, more := [] }
structure NoProtocolTxt (K : Frag) (mg : Str → Option Value) (C fI : Addr) : Prop where
  gC : mg "NoProtocol" = some (.ref C)
  cls : ∃ nm q N bs bm sn sub ab col dd k0 k1 k2 k3 k5, K.lookup C = some (excClassObj nm q C N bs bm true sn sub ab col dd k0 k1 k2 k3 k5 "ValueError.__new__") ∧ excTail [.type "ValueError", .type "Exception", .type "BaseException", .type "object"] bm = true
  sa : findIn K (.ref C) "__setattr__" = some (some (.builtin "object.__setattr__"))
  ga : findIn K (.ref C) "__getattribute__" = some (some (.builtin "BaseException.__getattribute__"))
  gg : findIn K (.ref C) "__getattr__" = some none
  noN : findIn K (.ref C) "word" = some none
  iC : findIn K (.ref C) "__init__" = some (some (.ref fI))
  tC : typeIn K (.ref fI) = some (.type "function")
  kC : keepIn K (.ref C) = true
  exC : subIn K (.ref C) (.type "BaseException") = some true
  tyC : typeIn K (.ref C) = some (.type "type")
  hdC : hasDictIn K C = true
  te : exmOne K (.ref C) (.ref C) = some true
  ov : excOver K C [.type "ValueError", .type "Exception", .type "BaseException", .type "object"] = true
  tk : takerIn K C "word" = some none
  fn : ∃ (oc : Value) (od : Option Addr) (doc pm : Value) (an : Option Addr) (cdv ct : Value) (osl : Array (Option Value)) (p1 p2 q1 q2 q3 q4 : Pos),
    K.lookup fI = some ⟨oc, od, .func (fnOf "__init__" "NoProtocol.__init__" (iA p1 p2) (iB q1 q2 q3 q4) iS .none .none doc pm an cdv ct), osl⟩ ∧ codeIn K cdv "NoProtocol.__init__" = true
theorem one_size (v : Value) : [v].length ≤ sizeLine := by
  rw [sizeLine_eq]
  exact (by decide : 1 ≤ 16777216)
theorem ldC {M : Model} {s : Shared} {name : Str} {scope : Scope} {L a : Addr} {cd : Value} {m : Str → Option Value} {x : Str} {pos : Pos} {v : Value} {Q : Value → Shared → Prop} {A : Around} {E : Value → Shared → Prop} (hn : s.heap.Ns L m) (hv : m x = some v) (h : Q v s)
    (hk : scope.kind = .function := by rfl) (hl : (envOfC name scope L a cd).kindOf x = some .local := by rfl) (hd : (x == ("__debug__" : Str)) = false := by decide) :
    wpAny M A (eval (.Name x pos) (envOfC name scope L a cd)) Q E s := wpAny_Name (wpAny_loadName_local hk hl hn hv h) hd
structure InitEnd (h h' : Heap) (x C dx t1 : Addr) (v : Value) : Prop where
  keep : ∀ b o, b ≠ x → h.get? b = some o → h'.get? b = some o
  obj : h'.get? x = some { cls := .ref C, dict := some dx, data := .fields #[.ref t1, .none, .none, .none, .bool false, .none] }
  dbig : h.objs.size ≤ dx
  dne : dx ≠ x
  ns : h'.Ns1 dx (fun y => if y = "word" then some v else none)
structure OwnMade (h h' : Heap) (e C d : Addr) (v : Value) : Prop where
  keep : ∀ b o, h.get? b = some o → h'.get? b = some o
  new : h.objs.size ≤ e
  obj : ∃ oe vs, h'.get? e = some oe ∧ oe.cls = .ref C ∧ oe.dict = some d ∧ oe.data = .fields vs ∧ vs[1]? = some .none
  dbig : h.objs.size ≤ d
  dne : d ≠ e
  ns : h'.Ns1 d (fun y => if y = "word" then some v else none)
section
variable {prog : Program} {w : World} {A : Around} {E : Value → Shared → Prop} {R : Result → Shared → Prop} {s : Shared} {K : Frag} {mg : Str → Option Value} {C fI : Addr}
theorem NoProtocol_init (T : NoProtocolTxt K mg C fI) {x t0 : Addr} {v : Value} (X : K.In s.heap) (hlim : s.heap.NoLimit) (hx : s.heap.get? x = some (excO C t0)) (hnx : K.lookup x = none) (hroom : A.depth < recursionLimit)
    (hq : ∀ h' tk dx, InitEnd s.heap h' x C dx t0 v → R (.ok (.ret .none)) { s with heap := h', toks := tk }) :
    codeAny (model prog w) A (.call (.ref fI) ⟨[.ref x, v], []⟩) R s := by
  obtain ⟨oc, od, doc, pm, an, cdv, ct, osl, p1, p2, q1, q2, q3, q4, ho, hcd⟩ := T.fn
  obtain ⟨nm, q, N, bs, bm, sn, sub, ab, col, dd, k0, k1, k2, k3, k5, hC, hbm⟩ := T.cls
  have hcl : clsIn K C = some { name := nm, bases := bs, mro := .ref C :: bm, ns := N, qualname := q, hasDict := true, slotNames := sn, subclasses := sub, abstract := ab, collection := col, hasDel := false } := by unfold clsIn; rw [hC] <;> rfl
  refine Att.call_fn (binds := [("self", .ref x), ("word", v)]) X hlim ho hcd hroom (BindsTo.of_eq (by first | rfl | with_unfolding_all rfl)) (by first | rfl | decide | with_unfolding_all rfl) (fun s₁ IC => ?_) rfl rfl rfl
  obtain ⟨h₁, tk₁, rfl⟩ := IC.toInCall.same
  have k : ∀ b o, s.heap.get? b = some o → h₁.get? b = some o := IC.toInCall.keep
  have hn := IC.toInCall.ns
  have hxL : s.heap.objs.size ≠ x := Nat.ne_of_gt (Heap.lt_size hx)
  have X₁ : K.In h₁ := X.keeps k
  have hx₁ := k _ _ hx
  show wpAny _ _ (execs _ _) _ _ _
  refine wpAny_execs_cons (plainObj_wpAny_Assign_Attribute ?_)
  refine ldC (v := v) hn (by first | rfl | with_unfolding_all rfl | kernel_rfl) (ldC (v := .ref x) hn (by first | rfl | with_unfolding_all rfl | kernel_rfl) ?_)
  refine set_plain X₁ (ox := excO C t0) (od := none) ⟨hx₁, rfl, rfl, trivial⟩ T.sa ?_
  refine first_field F.store_ValueError X₁ hx₁ hcl rfl T.ov T.tk (fun h₃ tk₃ dx k₃ dn dne hx₃ hn₃ => ?_)
  show wpAny _ _ (execs _ _) _ _ _
  have z : s.heap.objs.size < h₁.objs.size := hn.lt
  exact wpAny_execs_nil (hq h₃ tk₃ dx ⟨fun b o hb e => k₃ b o hb (k b o e), hx₃, Nat.le_of_lt (Nat.lt_of_lt_of_le z dn), dne, hn₃⟩)
theorem NoProtocol_made (T : NoProtocolTxt K mg C fI) {v : Value} (X : K.In s.heap) (hlim : s.heap.NoLimit) (hroom : A.depth + 1 < recursionLimit)
    (hq : ∀ h' tk e d, OwnMade s.heap h' e C d v → R (.ok (.ret (.ref e))) { s with heap := h', toks := tk }) :
    codeAny (model prog w) A (.call (.ref C) ⟨[v], []⟩) R s := by
  obtain ⟨nm, q, N, bs, bm, sn, sub, ab, col, dd, k0, k1, k2, k3, k5, hC, hbm⟩ := T.cls
  obtain ⟨hp, g, dr, tk, os⟩ := s
  have k : ∀ b o, hp.get? b = some o → ((hp.push (kdv_tup [v])).push (excO C hp.objs.size)).get? b = some o := fun b o e => Heap.get?_push_of_some _ (Heap.get?_push_of_some _ e)
  have hget : ((hp.push (kdv_tup [v])).push (excO C hp.objs.size)).get? (hp.objs.size + 1) = some (excO C hp.objs.size) := by heap_get
  have hnx : K.lookup (hp.objs.size + 1) = none := by
    cases e : K.lookup (hp.objs.size + 1) with
    | none => rfl
    | some o =>
      have z : hp.get? (hp.objs.size + 1) = some o := X _ _ e
      exact absurd (Nat.lt_of_succ_lt (Heap.lt_size z)) (Nat.lt_irrefl _)
  refine call_own F.excBase_ValueError (fun X => excTail_contains X bm hbm) (X _ _ hC) (looks_findIn X T.iC) (fun self => bind_fn X self T.tC) (one_size v) ?_
  refine NoProtocol_init (s := ⟨(hp.push (kdv_tup [v])).push (excO C hp.objs.size), g, dr, tk, os⟩) T (X.keeps k) (hlim.keeps k) hget hnx ?_ fun h' tk' dx ⟨k', hx, dn, dne, hns⟩ => ?_
  · show A.depth + 1 < recursionLimit
    exact hroom
  · have old : ∀ b o, hp.get? b = some o → h'.get? b = some o := fun b o e => k' b o (Nat.ne_of_lt (Nat.lt_succ_of_lt (Heap.lt_size e))) (k b o e)
    have z : hp.objs.size + 1 + 1 ≤ dx := by
      first
        | (simpa only [Heap.size_push] using dn)
        | exact dn
        | (have q := dn; rw [Heap.size_push, Heap.size_push] at q; exact q)
    exact ⟨rfl, hq h' tk' (hp.objs.size + 1) dx ⟨old, Nat.le_succ _, ⟨_, _, hx, rfl, rfl, rfl, rfl⟩, Nat.le_trans (Nat.le_trans (Nat.le_succ _) (Nat.le_succ _)) z, dne, hns⟩⟩
end
end NoProtocolX
end PySem
namespace L2
open PySem PySem.Spec PyProof.Rows
theorem relO_NoProtocol {v : V} {v' : Value} (r : RelV v v') (f : Str) : RelO (List.lookup f [(("word" : Str), v)]) (if f = "word" then some v' else none) := by
  by_cases hw : f = "word"
  · subst hw
    rw [if_pos rfl]
    have q : List.lookup ("word" : Str) [(("word" : Str), v)] = some v := by simp [List.lookup]
    rw [q]
    exact r
  · rw [if_neg hw]
    have qw : (f == ("word" : Str)) = false := by simpa using hw
    have q2 : List.lookup f [(("word" : Str), v)] = none := by simp [List.lookup, qw]
    rw [q2]
    trivial
section
variable {X : Cx} {C fI : Addr}
def tMkNoProtocol (C : Addr) (ta : TA) : St → Hp → XK → Prop := fun σ H Q => ta σ H fun vs H1 => ∃ v, vs = [v] ∧ ∀ d, H1 d = none → Q (.ref C) (some d) (upd H1 d (.xd [(("word" : Str), v)]))
theorem pmk_NoProtocol {a : Expr} {ta : TA} {p pos : Pos} {k : Nat} (T : PySem.NoProtocolX.NoProtocolTxt X.K X.mg C fI) (hr : Room k X.A) (ha : PA X [a] ta) (hg : Gl X "NoProtocol" := by rfl)
    (he : starEach (a :: []) X.env = (false, eval a X.env) :: starEach [] X.env := by rfl) (hpl : (backTo pos (starEach [] X.env)).any (·.1) = false := by rfl) :
    PMk X (.Call (.Name "NoProtocol" p) [a] [] pos) (tMkNoProtocol C ta) := by
  intro pins s σ H Q I h
  refine wpAny_Call_Name_kw (ld_glob I hg T.gC ?_)
  refine PySem.W.callWith_K (h₀ := X.base) I.ok.mod.kin T.kC (thn (ha.run pos pins s σ H _ I h) fun us s1 hh => ?_) he hpl
  obtain ⟨vs, H1, I1, r1, v, ev, q1⟩ := hh
  subst ev
  refine ⟨I1.kIn, ?_⟩
  cases r1 with
  | cons rv rn =>
    rename_i v' us'
    cases rn
    show wpAny _ _ (call (.ref C) [v']) _ _ _
    have hlim := I1.nolimit
    obtain ⟨hp, g, dr, tk, os⟩ := s1
    refine wpAny_call (PySem.NoProtocolX.NoProtocol_made T I1.kIn hlim (by have := hr.dp; omega) fun h' tk' e d M => ?_)
    show MkP X pins σ Q (.ref e) ⟨h', g, dr, tk', os⟩
    obtain ⟨oe, fv, hoe, hc, hd, hdat, h1⟩ := M.obj
    have hns := M.ns
    obtain ⟨G', g1, g2⟩ := restrict h' fun b => decide (b ≠ e)
    have gk : ∀ b, b ≠ e → G'.get? b = h'.get? b := fun b hb => g1 b (decide_eq_true hb)
    have ge : G'.get? e = none := g2 e (by simp)
    have old : ∀ b o, hp.get? b = some o → G'.get? b = some o := fun b o q => (gk b (Nat.ne_of_lt (Nat.lt_of_lt_of_le (Heap.lt_size q) M.new))).trans (M.keep b o q)
    have ob : ObjOk X.prog X.w (upd H1 d (.xd [(("word" : Str), v)])) G' d (.xd [(("word" : Str), v)]) :=
      ⟨_, hns.at (fun o q => (gk d M.dne).trans q), fun f => relO_NoProtocol rv f⟩
    have J : Inv X pins σ (upd H1 d (.xd [(("word" : Str), v)])) ⟨G', g, dr, tk', os⟩ := I1.laid (t' := tk') old M.dbig ob
    refine ⟨e, oe, fv, ⟨G', g, dr, tk', os⟩, _, .ref C, some d, rfl, J, fun b o q => ?_, ge, hoe, ⟨hc, hd⟩, hdat, h1, ?_, rfl, I1.bare, raises_own T.exC T.tyC, q1 d (I1.hok.fresh M.dbig)⟩
    · by_cases hb : b = e
      · have q' : G'.get? b = some o := q
        rw [hb, ge] at q'; cases q'
      · exact (gk b hb).symm.trans q
    · rw [upd_ne (Ne.symm M.dne)]
      exact I1.hok.fresh M.new
end
end L2
namespace PySem
namespace NoTextX
open PySem.W PySem.Calls PyProof.Rows PySem.HandSPX PySem.OwnE
def iA (p1 p2 : Pos) : Arguments := { posonlyargs := [], args := [{ arg := "self", annotation := none, pos := p1 }, { arg := "at", annotation := none, pos := p2 }], vararg := none, kwonlyargs := [], kw_defaults := [], kwarg := none, defaults := [] }
def iB (q1 q2 q3 q4 : Pos) : List Stmt := [.Assign [.Attribute (.Name "self" q1) "at" q2] (.Name "at" q3) q4]
def iS : Scope := { kind := .function, names := [(PySem.Str.ofString "self", .local), (PySem.Str.ofString "at", .local)], isGenerator := false, isCoroutine := false, more := [] }
structure NoTextTxt (K : Frag) (mg : Str → Option Value) (C fI : Addr) : Prop where
  gC : mg "NoText" = some (.ref C)
  cls : ∃ nm q N bs bm sn sub ab col dd k0 k1 k2 k3 k5, K.lookup C = some (excClassObj nm q C N bs bm true sn sub ab col dd k0 k1 k2 k3 k5 "ValueError.__new__") ∧ excTail [.type "ValueError", .type "Exception", .type "BaseException", .type "object"] bm = true
  sa : findIn K (.ref C) "__setattr__" = some (some (.builtin "object.__setattr__"))
  ga : findIn K (.ref C) "__getattribute__" = some (some (.builtin "BaseException.__getattribute__"))
  gg : findIn K (.ref C) "__getattr__" = some none
  noN : findIn K (.ref C) "at" = some none
  iC : findIn K (.ref C) "__init__" = some (some (.ref fI))
  tC : typeIn K (.ref fI) = some (.type "function")
  kC : keepIn K (.ref C) = true
  exC : subIn K (.ref C) (.type "BaseException") = some true
  tyC : typeIn K (.ref C) = some (.type "type")
  hdC : hasDictIn K C = true
  te : exmOne K (.ref C) (.ref C) = some true
  ov : excOver K C [.type "ValueError", .type "Exception", .type "BaseException", .type "object"] = true
  tk : takerIn K C "at" = some none
  fn : ∃ (oc : Value) (od : Option Addr) (doc pm : Value) (an : Option Addr) (cdv ct : Value) (osl : Array (Option Value)) (p1 p2 q1 q2 q3 q4 : Pos),
    K.lookup fI = some ⟨oc, od, .func (fnOf "__init__" "NoText.__init__" (iA p1 p2) (iB q1 q2 q3 q4) iS .none .none doc pm an cdv ct), osl⟩ ∧ codeIn K cdv "NoText.__init__" = true
theorem one_size (v : Value) : [v].length ≤ sizeLine := by
  rw [sizeLine_eq]
  exact (by decide : 1 ≤ 16777216)
theorem ldC {M : Model} {s : Shared} {name : Str} {scope : Scope} {L a : Addr} {cd : Value} {m : Str → Option Value} {x : Str} {pos : Pos} {v : Value} {Q : Value → Shared → Prop} {A : Around} {E : Value → Shared → Prop} (hn : s.heap.Ns L m) (hv : m x = some v) (h : Q v s)
    (hk : scope.kind = .function := by rfl) (hl : (envOfC name scope L a cd).kindOf x = some .local := by rfl) (hd : (x == ("__debug__" : Str)) = false := by decide) :
    wpAny M A (eval (.Name x pos) (envOfC name scope L a cd)) Q E s := wpAny_Name (wpAny_loadName_local hk hl hn hv h) hd
structure InitEnd (h h' : Heap) (x C dx t1 : Addr) (v : Value) : Prop where
  keep : ∀ b o, b ≠ x → h.get? b = some o → h'.get? b = some o
  obj : h'.get? x = some { cls := .ref C, dict := some dx, data := .fields #[.ref t1, .none, .none, .none, .bool false, .none] }
  dbig : h.objs.size ≤ dx
  dne : dx ≠ x
  ns : h'.Ns1 dx (fun y => if y = "at" then some v else none)
structure OwnMade (h h' : Heap) (e C d : Addr) (v : Value) : Prop where
  keep : ∀ b o, h.get? b = some o → h'.get? b = some o
  new : h.objs.size ≤ e
  obj : ∃ oe vs, h'.get? e = some oe ∧ oe.cls = .ref C ∧ oe.dict = some d ∧ oe.data = .fields vs ∧ vs[1]? = some .none
  dbig : h.objs.size ≤ d
  dne : d ≠ e
  ns : h'.Ns1 d (fun y => if y = "at" then some v else none)
section
variable {prog : Program} {w : World} {A : Around} {E : Value → Shared → Prop} {R : Result → Shared → Prop} {s : Shared} {K : Frag} {mg : Str → Option Value} {C fI : Addr}
theorem NoText_init (T : NoTextTxt K mg C fI) {x t0 : Addr} {v : Value} (X : K.In s.heap) (hlim : s.heap.NoLimit) (hx : s.heap.get? x = some (excO C t0)) (hnx : K.lookup x = none) (hroom : A.depth < recursionLimit)
    (hq : ∀ h' tk dx, InitEnd s.heap h' x C dx t0 v → R (.ok (.ret .none)) { s with heap := h', toks := tk }) :
    codeAny (model prog w) A (.call (.ref fI) ⟨[.ref x, v], []⟩) R s := by
  obtain ⟨oc, od, doc, pm, an, cdv, ct, osl, p1, p2, q1, q2, q3, q4, ho, hcd⟩ := T.fn
  obtain ⟨nm, q, N, bs, bm, sn, sub, ab, col, dd, k0, k1, k2, k3, k5, hC, hbm⟩ := T.cls
  have hcl : clsIn K C = some { name := nm, bases := bs, mro := .ref C :: bm, ns := N, qualname := q, hasDict := true, slotNames := sn, subclasses := sub, abstract := ab, collection := col, hasDel := false } := by unfold clsIn; rw [hC] <;> rfl
  refine Att.call_fn (binds := [("self", .ref x), ("at", v)]) X hlim ho hcd hroom (BindsTo.of_eq (by first | rfl | with_unfolding_all rfl)) (by first | rfl | decide | with_unfolding_all rfl) (fun s₁ IC => ?_) rfl rfl rfl
  obtain ⟨h₁, tk₁, rfl⟩ := IC.toInCall.same
  have k : ∀ b o, s.heap.get? b = some o → h₁.get? b = some o := IC.toInCall.keep
  have hn := IC.toInCall.ns
  have hxL : s.heap.objs.size ≠ x := Nat.ne_of_gt (Heap.lt_size hx)
  have X₁ : K.In h₁ := X.keeps k
  have hx₁ := k _ _ hx
  show wpAny _ _ (execs _ _) _ _ _
  refine wpAny_execs_cons (plainObj_wpAny_Assign_Attribute ?_)
  refine ldC (v := v) hn (by first | rfl | with_unfolding_all rfl | kernel_rfl) (ldC (v := .ref x) hn (by first | rfl | with_unfolding_all rfl | kernel_rfl) ?_)
  refine set_plain X₁ (ox := excO C t0) (od := none) ⟨hx₁, rfl, rfl, trivial⟩ T.sa ?_
  refine first_field F.store_ValueError X₁ hx₁ hcl rfl T.ov T.tk (fun h₃ tk₃ dx k₃ dn dne hx₃ hn₃ => ?_)
  show wpAny _ _ (execs _ _) _ _ _
  have z : s.heap.objs.size < h₁.objs.size := hn.lt
  exact wpAny_execs_nil (hq h₃ tk₃ dx ⟨fun b o hb e => k₃ b o hb (k b o e), hx₃, Nat.le_of_lt (Nat.lt_of_lt_of_le z dn), dne, hn₃⟩)
theorem NoText_made (T : NoTextTxt K mg C fI) {v : Value} (X : K.In s.heap) (hlim : s.heap.NoLimit) (hroom : A.depth + 1 < recursionLimit)
    (hq : ∀ h' tk e d, OwnMade s.heap h' e C d v → R (.ok (.ret (.ref e))) { s with heap := h', toks := tk }) :
    codeAny (model prog w) A (.call (.ref C) ⟨[v], []⟩) R s := by
  obtain ⟨nm, q, N, bs, bm, sn, sub, ab, col, dd, k0, k1, k2, k3, k5, hC, hbm⟩ := T.cls
  obtain ⟨hp, g, dr, tk, os⟩ := s
  have k : ∀ b o, hp.get? b = some o → ((hp.push (kdv_tup [v])).push (excO C hp.objs.size)).get? b = some o := fun b o e => Heap.get?_push_of_some _ (Heap.get?_push_of_some _ e)
  have hget : ((hp.push (kdv_tup [v])).push (excO C hp.objs.size)).get? (hp.objs.size + 1) = some (excO C hp.objs.size) := by heap_get
  have hnx : K.lookup (hp.objs.size + 1) = none := by
    cases e : K.lookup (hp.objs.size + 1) with
    | none => rfl
    | some o =>
      have z : hp.get? (hp.objs.size + 1) = some o := X _ _ e
      exact absurd (Nat.lt_of_succ_lt (Heap.lt_size z)) (Nat.lt_irrefl _)
  refine call_own F.excBase_ValueError (fun X => excTail_contains X bm hbm) (X _ _ hC) (looks_findIn X T.iC) (fun self => bind_fn X self T.tC) (one_size v) ?_
  refine NoText_init (s := ⟨(hp.push (kdv_tup [v])).push (excO C hp.objs.size), g, dr, tk, os⟩) T (X.keeps k) (hlim.keeps k) hget hnx ?_ fun h' tk' dx ⟨k', hx, dn, dne, hns⟩ => ?_
  · show A.depth + 1 < recursionLimit
    exact hroom
  · have old : ∀ b o, hp.get? b = some o → h'.get? b = some o := fun b o e => k' b o (Nat.ne_of_lt (Nat.lt_succ_of_lt (Heap.lt_size e))) (k b o e)
    have z : hp.objs.size + 1 + 1 ≤ dx := by
      first
        | (simpa only [Heap.size_push] using dn)
        | exact dn
        | (have q := dn; rw [Heap.size_push, Heap.size_push] at q; exact q)
    exact ⟨rfl, hq h' tk' (hp.objs.size + 1) dx ⟨old, Nat.le_succ _, ⟨_, _, hx, rfl, rfl, rfl, rfl⟩, Nat.le_trans (Nat.le_trans (Nat.le_succ _) (Nat.le_succ _)) z, dne, hns⟩⟩
end
end NoTextX
end PySem
namespace L2
open PySem PySem.Spec PyProof.Rows
theorem relO_NoText {v : V} {v' : Value} (r : RelV v v') (f : Str) : RelO (List.lookup f [(("at" : Str), v)]) (if f = "at" then some v' else none) := by
  by_cases hw : f = "at"
  · subst hw
    rw [if_pos rfl]
    have q : List.lookup ("at" : Str) [(("at" : Str), v)] = some v := by simp [List.lookup]
    rw [q]
    exact r
  · rw [if_neg hw]
    have qw : (f == ("at" : Str)) = false := by simpa using hw
    have q2 : List.lookup f [(("at" : Str), v)] = none := by simp [List.lookup, qw]
    rw [q2]
    trivial
section
variable {X : Cx} {C fI : Addr}
def tMkNoText (C : Addr) (ta : TA) : St → Hp → XK → Prop := fun σ H Q => ta σ H fun vs H1 => ∃ v, vs = [v] ∧ ∀ d, H1 d = none → Q (.ref C) (some d) (upd H1 d (.xd [(("at" : Str), v)]))
theorem pmk_NoText {a : Expr} {ta : TA} {p pos : Pos} {k : Nat} (T : PySem.NoTextX.NoTextTxt X.K X.mg C fI) (hr : Room k X.A) (ha : PA X [a] ta) (hg : Gl X "NoText" := by rfl)
    (he : starEach (a :: []) X.env = (false, eval a X.env) :: starEach [] X.env := by rfl) (hpl : (backTo pos (starEach [] X.env)).any (·.1) = false := by rfl) :
    PMk X (.Call (.Name "NoText" p) [a] [] pos) (tMkNoText C ta) := by
  intro pins s σ H Q I h
  refine wpAny_Call_Name_kw (ld_glob I hg T.gC ?_)
  refine PySem.W.callWith_K (h₀ := X.base) I.ok.mod.kin T.kC (thn (ha.run pos pins s σ H _ I h) fun us s1 hh => ?_) he hpl
  obtain ⟨vs, H1, I1, r1, v, ev, q1⟩ := hh
  subst ev
  refine ⟨I1.kIn, ?_⟩
  cases r1 with
  | cons rv rn =>
    rename_i v' us'
    cases rn
    show wpAny _ _ (call (.ref C) [v']) _ _ _
    have hlim := I1.nolimit
    obtain ⟨hp, g, dr, tk, os⟩ := s1
    refine wpAny_call (PySem.NoTextX.NoText_made T I1.kIn hlim (by have := hr.dp; omega) fun h' tk' e d M => ?_)
    show MkP X pins σ Q (.ref e) ⟨h', g, dr, tk', os⟩
    obtain ⟨oe, fv, hoe, hc, hd, hdat, h1⟩ := M.obj
    have hns := M.ns
    obtain ⟨G', g1, g2⟩ := restrict h' fun b => decide (b ≠ e)
    have gk : ∀ b, b ≠ e → G'.get? b = h'.get? b := fun b hb => g1 b (decide_eq_true hb)
    have ge : G'.get? e = none := g2 e (by simp)
    have old : ∀ b o, hp.get? b = some o → G'.get? b = some o := fun b o q => (gk b (Nat.ne_of_lt (Nat.lt_of_lt_of_le (Heap.lt_size q) M.new))).trans (M.keep b o q)
    have ob : ObjOk X.prog X.w (upd H1 d (.xd [(("at" : Str), v)])) G' d (.xd [(("at" : Str), v)]) :=
      ⟨_, hns.at (fun o q => (gk d M.dne).trans q), fun f => relO_NoText rv f⟩
    have J : Inv X pins σ (upd H1 d (.xd [(("at" : Str), v)])) ⟨G', g, dr, tk', os⟩ := I1.laid (t' := tk') old M.dbig ob
    refine ⟨e, oe, fv, ⟨G', g, dr, tk', os⟩, _, .ref C, some d, rfl, J, fun b o q => ?_, ge, hoe, ⟨hc, hd⟩, hdat, h1, ?_, rfl, I1.bare, raises_own T.exC T.tyC, q1 d (I1.hok.fresh M.dbig)⟩
    · by_cases hb : b = e
      · have q' : G'.get? b = some o := q
        rw [hb, ge] at q'; cases q'
      · exact (gk b hb).symm.trans q
    · rw [upd_ne (Ne.symm M.dne)]
      exact I1.hok.fresh M.new
end
end L2
namespace Pf
open PySem PySem.Spec L2 Dd
theorem exm_self {K : PySem.W.Frag} {S : Addr} (h1 : PySem.W.subIn K (.ref S) (.type "BaseException") = some true) (h2 : PySem.W.isClsIn K S = true) (h3 : PySem.W.typeIn K (.ref S) = some (.type "type")) (h4 : PySem.W.subIn K (.ref S) (.ref S) = some true) :
    PySem.W.exmOne K (.ref S) (.ref S) = some true := by
  have e1 : (PySem.W.subIn K (.ref S) (.type "BaseException") == some true) = true := by rw [h1] <;> rfl
  have e2 : ((PySem.W.clsIn K S).isSome && PySem.W.typeIn K (.ref S) == some (.type "type")) = true := by
    have h2' : (PySem.W.clsIn K S).isSome = true := h2
    rw [h2', h3] <;> rfl
  show (if (PySem.W.subIn K (.ref S) (.type "BaseException") == some true) = true then (if ((PySem.W.clsIn K S).isSome && PySem.W.typeIn K (.ref S) == some (.type "type")) = true then PySem.W.subIn K (.ref S) (.ref S) else none) else none) = some true
  rw [if_pos e1, if_pos e2]
  exact h4
def topS (i : Nat) : Stmt := PySem.Challenge.pw_wirelooker_k15_whole_any_words_of_protoc.main.body.getD i (.Pass ⟨0, 0, 0, 0⟩)
def tb_WORDS : List (Str × D) := [("edge", .tuple [.str "rise", .str "fall"]), ("first", .tuple [.str "high", .str "low"]), ("check", .tuple [.str "none", .str "even", .str "odd"])]
def tb_FORMS : List (Str × D) := [("clocked", .tuple [.str "clock", .str "edge", .str "data", .str "gate", .str "bits", .str "first"]), ("framed", .tuple [.str "data", .str "long", .str "bits", .str "check", .str "stops"]), ("twowire", .tuple [.str "clock", .str "data"])]
def tb_BOUNDS : List (Str × D) := [("long", .tuple [.int 2, .int 1000000]), ("bits", .tuple [.int 1, .int 16]), ("stops", .tuple [.int 1, .int 2])]
def m_is_whole : M Fl :=
  (mRet (mAnd (mIsi "int" (mPeek 0)) (mNot (mIsi "bool" (mPeek 0)))))
def fn_is_whole : List D → Option (Rs D) := runV m_is_whole 1
abbrev s_is_whole : Stmt := topS 1
abbrev N_is_whole : List Str := ["thing"]
theorem sc_is_whole : FnScope N_is_whole ["thing"] (defScope s_is_whole) := ⟨rfl, rfl, rfl, by decide +kernel, rfl, by decide +kernel, by decide +kernel⟩
def C_is_name_0 : M (List D) :=
  (mComp [1] (mSigns (mVar 0)) (mStore 1) (mPure true) (mChain leS leS (mPure (.str "a")) (mVar 1) (mPure (.str "z"))))
def m_is_name : M Fl :=
  (mRet (mAnd (mIsi "str" (mPeek 0)) (mAnd (mChain leD leD (mPure (.int 1)) (mCall1 lenD (mPeek 0)) (mPure (.int 6))) (mCall1 allD (mVal C_is_name_0)))))
def fn_is_name : List D → Option (Rs D) := runV m_is_name 2
abbrev s_is_name : Stmt := topS 2
abbrev N_is_name : List Str := ["thing", "sign"]
theorem sc_is_name : FnScope N_is_name ["thing"] (defScope s_is_name) := ⟨rfl, rfl, rfl, by decide +kernel, rfl, by decide +kernel, by decide +kernel⟩
def m_word_of : M Fl :=
  (mSeq (mIf (mAndT (mTru (mIsi "tuple" (mPeek 0))) (mAndT (mTru (mPeek 0)) ((mTru (mIsi "str" (mBinL ixD 0 (mPure (.int 0)))))))) (mRet (mBinL ixD 0 (mPure (.int 0)))) (mPure .nx))
  (mRet (mPure .none)))
def fn_word_of : List D → Option (Rs D) := runV m_word_of 1
abbrev s_word_of : Stmt := topS 3
abbrev N_word_of : List Str := ["thing"]
theorem sc_word_of : FnScope N_word_of ["thing"] (defScope s_word_of) := ⟨rfl, rfl, rfl, by decide +kernel, rfl, by decide +kernel, by decide +kernel⟩
def C_figures_0 : M (List D) :=
  (mComp [1] (mSigns (mVar 0)) (mStore 1) (mPure true) (mChain leS leS (mPure (.str "0")) (mVar 1) (mPure (.str "9"))))
def m_figures : M Fl :=
  (mSeq (mIf (mOrT (mNotT (mBol (mChain leD leD (mPure (.int 1)) (mCall1 lenD (mPeek 0)) (mPure (.int 10))))) ((mAndT (mBol (mBin eqD (mBinL ixD 0 (mPure (.int 0))) (mPure (.str "0")))) ((mBol (mBinL neD 0 (mPure (.str "0")))))))) (mRet (mPure .none)) (mPure .nx))
  (mSeq (mIf (mNotT (mTru (mCall1 allD (mVal C_figures_0)))) (mRet (mPure .none)) (mPure .nx))
  (mRet (mCall1 intOfD (mPeek 0)))))
def fn_figures : List D → Option (Rs D) := runV m_figures 2
abbrev s_figures : Stmt := topS 4
abbrev N_figures : List Str := ["word", "sign"]
theorem sc_figures : FnScope N_figures ["word"] (defScope s_figures) := ⟨rfl, rfl, rfl, by decide +kernel, rfl, by decide +kernel, by decide +kernel⟩
def C_lines_of_0 : M (List D) :=
  (mComp [2, 3] (mZipB (mCons (mGIx tb_FORMS (mBinL ixD 0 (mPure (.int 0)))) (mCons (mSlL 0 (mPart (mPure (.int 1))) mNoPart) (mPure [])))) (gTupD 2 (gNamesD [2, 3])) (mBol (mBinL (inD false) 2 (mPure (.tuple [.str "clock", .str "data", .str "gate"])))) (mVar 3))
def m_lines_of : M Fl :=
  (mSeq (mAsgN C_lines_of_0 1)
  (mSeq (mIf (mAndT (mBol (mBin eqD (mBinL ixD 0 (mPure (.int 0))) (mPure (.str "clocked")))) ((mBol (mBin eqD (mBinL ixD 1 (mUn negD (mPure (.int 1)))) (mPure (.str "")))))) (mRet (mSlL 1 mNoPart (mPart (mUn negD (mPure (.int 1)))))) (mPure .nx))
  (mRet (mVar 1))))
def fn_lines_of : List D → Option (Rs D) := runV m_lines_of 4
abbrev s_lines_of : Stmt := topS 19
abbrev N_lines_of : List Str := ["protocol", "parts", "field", "part"]
theorem sc_lines_of : FnScope N_lines_of ["protocol"] (defScope s_lines_of) := ⟨rfl, rfl, rfl, by decide +kernel, rfl, by decide +kernel, by decide +kernel⟩
def m__has_sort : M Fl :=
  (mRet (mIf (mBol (mGIn false tb_BOUNDS (mVar 0))) (mCallV 1 fn_is_whole (mCons (mVar 1) (mPure []))) (mIsi "str" (mPeek 1))))
def fn__has_sort : List D → Option (Rs D) := runV m__has_sort 2
abbrev s__has_sort : Stmt := topS 17
abbrev N__has_sort : List Str := ["field", "thing"]
theorem sc__has_sort : FnScope N__has_sort ["field", "thing"] (defScope s__has_sort) := ⟨rfl, rfl, rfl, by decide +kernel, rfl, by decide +kernel, by decide +kernel⟩
def C__has_form_0 : M (List D) :=
  (mComp [2, 3] (mZipB (mCons (mVar 1) (mCons (mSlL 0 (mPart (mPure (.int 1))) mNoPart) (mPure [])))) (gTupD 2 (gNamesD [2, 3])) (mPure true) (mCallV 2 fn__has_sort (mCons (mVar 2) (mCons (mVar 3) (mPure [])))))
def m__has_form : M Fl :=
  (mSeq (mAsg (mGGet tb_FORMS (mCallV 1 fn_word_of (mCons (mVar 0) (mPure [])))) (mStore 1))
  (mSeq (mIf (mOrT (mBol (mBinL isD 1 (mPure .none))) ((mBol (mBin neD (mCall1 lenD (mPeek 0)) (mBin addD (mCall1 lenD (mPeek 1)) (mPure (.int 1))))))) (mRet (mPure (.bool false))) (mPure .nx))
  (mRet (mCall1 allD (mVal C__has_form_0)))))
def fn__has_form : List D → Option (Rs D) := runV m__has_form 4
abbrev s__has_form : Stmt := topS 16
abbrev N__has_form : List Str := ["thing", "fields", "field", "part"]
theorem sc__has_form : FnScope N__has_form ["thing"] (defScope s__has_form) := ⟨rfl, rfl, rfl, by decide +kernel, rfl, by decide +kernel, by decide +kernel⟩
def m__is_told : M Fl :=
  (mSeq (mIf (mBol (mGIn false tb_BOUNDS (mVar 0))) (mSeq (mAsg (mGIx tb_BOUNDS (mVar 0)) (gTupD 2 (gCons2 (mStore 2) (gCons2 (mStore 3) gsNil))))
  (mRet (mChain leD leD (mVar 2) (mVar 1) (mPeek 3)))) (mPure .nx))
  (mRet (mOr (mBinL (inD false) 0 (mPure (.tuple [.str "clock", .str "data", .str "gate"]))) (mBinL (inD false) 1 (mGIx tb_WORDS (mVar 0))))))
def fn__is_told : List D → Option (Rs D) := runV m__is_told 4
abbrev s__is_told : Stmt := topS 18
abbrev N__is_told : List Str := ["field", "thing", "least", "most"]
theorem sc__is_told : FnScope N__is_told ["field", "thing"] (defScope s__is_told) := ⟨rfl, rfl, rfl, by decide +kernel, rfl, by decide +kernel, by decide +kernel⟩
def C__fault_of_0 : M (List D) :=
  (mComp [5] (mItems (mVar 2)) (mStore 5) (mPure true) (mBinL (inD false) 5 (mPeek 0)))
def L__fault_of_0 : M Fl :=
  (mIf (mNotT (mTru (mCallV 2 fn__is_told (mCons (mVar 3) (mCons (mVar 4) (mPure [])))))) (mRet (mVar 3)) (mPure .nx))
def R__fault_of_0 : M Fl :=
  mFor (mZipB (mCons (mGIx tb_FORMS (mBinL ixD 1 (mPure (.int 0)))) (mCons (mSlL 1 (mPart (mPure (.int 1))) mNoPart) (mPure [])))) (gTupD 2 (gCons2 (mStore 3) (gCons2 (mStore 4) gsNil))) L__fault_of_0
def m__fault_of : M Fl :=
  (mSeq (mIf (mNotT (mTru (mCallV 1 fn__has_form (mCons (mVar 1) (mPure []))))) (mRet (mPure (.str "form"))) (mPure .nx))
  (mSeq (mAsg (mCallV 1 fn_lines_of (mCons (mVar 1) (mPure []))) (mStore 2))
  (mSeq (mIf (mNotT (mTru (mCall1 allD (mVal C__fault_of_0)))) (mRet (mPure (.str "line"))) (mPure .nx))
  (mSeq (mIf (mBol (mBin ltD (mLenU (mPeek 2)) (mCall1 lenD (mPeek 2)))) (mRet (mPure (.str "same"))) (mPure .nx))
  (mSeq (R__fault_of_0)
  (mRet (mPure .none)))))))
def fn__fault_of : List D → Option (Rs D) := runV m__fault_of 6
abbrev s__fault_of : Stmt := topS 15
abbrev N__fault_of : List Str := ["names", "protocol", "lines", "field", "thing", "line"]
theorem sc__fault_of : FnScope N__fault_of ["names", "protocol"] (defScope s__fault_of) := ⟨rfl, rfl, rfl, by decide +kernel, rfl, by decide +kernel, by decide +kernel⟩
def m_look_protocol : M Fl :=
  (mSeq (mAsg (mCallV 2 fn__fault_of (mCons (mVar 0) (mCons (mVar 1) (mPure [])))) (mStore 2))
  (mSeq (mIf (mBol (mBinL isntD 2 (mPure .none))) (mRaise "NoProtocol" ["word"] (mCons (mVar 2) (mPure []))) (mPure .nx))
  (mRet (mPure (.bool true)))))
def fn_look_protocol : List D → Option (Rs D) := runV m_look_protocol 3
abbrev s_look_protocol : Stmt := topS 14
abbrev N_look_protocol : List Str := ["names", "protocol", "word"]
theorem sc_look_protocol : FnScope N_look_protocol ["names", "protocol"] (defScope s_look_protocol) := ⟨rfl, rfl, rfl, by decide +kernel, rfl, by decide +kernel, by decide +kernel⟩
def C_show_protocol_0 : M (List D) :=
  (mComp [1] (mItems (mVar 0)) (mStore 1) (mPure true) (mIf (mBol (mBinL eqD 1 (mPure (.str "")))) (mPure (.str "-")) (mCall1 strOfD (mPeek 1))))
def m_show_protocol : M Fl :=
  (mRet (mJoin (mPure (.str " ")) (mVal C_show_protocol_0)))
def fn_show_protocol : List D → Option (Rs D) := runV m_show_protocol 2
abbrev s_show_protocol : Stmt := topS 20
abbrev N_show_protocol : List Str := ["protocol", "part"]
theorem sc_show_protocol : FnScope N_show_protocol ["protocol"] (defScope s_show_protocol) := ⟨rfl, rfl, rfl, by decide +kernel, rfl, by decide +kernel, by decide +kernel⟩
def m_many_words : M Fl :=
  (mRet (mIf (mBol (mGIn false tb_FORMS (mVar 0))) (mBin addD (mCall1 lenD (mGIx tb_FORMS (mVar 0))) (mPure (.int 1))) (mPure (.int 0))))
def fn_many_words : List D → Option (Rs D) := runV m_many_words 1
abbrev s_many_words : Stmt := topS 22
abbrev N_many_words : List Str := ["word"]
theorem sc_many_words : FnScope N_many_words ["word"] (defScope s_many_words) := ⟨rfl, rfl, rfl, by decide +kernel, rfl, by decide +kernel, by decide +kernel⟩
def m__part_of : M Fl :=
  (mSeq (mIf (mBol (mGIn false tb_BOUNDS (mVar 0))) (mRet (mCallV 1 fn_figures (mCons (mVar 1) (mPure [])))) (mPure .nx))
  (mSeq (mIf (mAndT (mBol (mBinL eqD 0 (mPure (.str "gate")))) ((mBol (mBinL eqD 1 (mPure (.str "-")))))) (mRet (mPure (.str ""))) (mPure .nx))
  (mSeq (mIf (mAndT (mBol (mBinL (inD false) 0 (mPure (.tuple [.str "clock", .str "data", .str "gate"])))) ((mNotT (mTru (mCallV 1 fn_is_name (mCons (mVar 1) (mPure []))))))) (mRet (mPure .none)) (mPure .nx))
  (mRet (mVar 1)))))
def fn__part_of : List D → Option (Rs D) := runV m__part_of 2
abbrev s__part_of : Stmt := topS 24
abbrev N__part_of : List Str := ["field", "word"]
theorem sc__part_of : FnScope N__part_of ["field", "word"] (defScope s__part_of) := ⟨rfl, rfl, rfl, by decide +kernel, rfl, by decide +kernel, by decide +kernel⟩
def C_protocol_of_0 : M (List D) :=
  (mComp [3, 4] (mZipB (mCons (mGIx tb_FORMS (mBinL ixD 0 (mPure (.int 0)))) (mCons (mSlL 0 (mPart (mPure (.int 1))) mNoPart) (mPure [])))) (gTupD 2 (gNamesD [3, 4])) (mPure true) (mCallV 2 fn__part_of (mCons (mVar 3) (mCons (mVar 4) (mPure [])))))
def m_protocol_of : M Fl :=
  (mSeq (mIf (mBol (mBin neD (mCall1 lenD (mPeek 0)) (mCallV 1 fn_many_words (mCons (mBinL ixD 0 (mPure (.int 0))) (mPure []))))) (mRet (mPure .none)) (mPure .nx))
  (mSeq (mAsgN C_protocol_of_0 1)
  (mSeq (mIf (mBol (mBin (inD false) (mPure .none) (mPeek 1))) (mRet (mPure .none)) (mPure .nx))
  (mSeq (mAsg (mTup (mCons (mBinL ixD 0 (mPure (.int 0))) (mStar (mPeek 1) (mPure [])))) (mStore 2))
  (mSeq (mIf (mBol (mBin isntD (mCallV 2 fn__fault_of (mCons (mCallV 1 fn_lines_of (mCons (mVar 2) (mPure []))) (mCons (mVar 2) (mPure [])))) (mPure .none))) (mRet (mPure .none)) (mPure .nx))
  (mRet (mVar 2)))))))
def fn_protocol_of : List D → Option (Rs D) := runV m_protocol_of 5
abbrev s_protocol_of : Stmt := topS 23
abbrev N_protocol_of : List Str := ["words", "parts", "protocol", "field", "word"]
theorem sc_protocol_of : FnScope N_protocol_of ["words"] (defScope s_protocol_of) := ⟨rfl, rfl, rfl, by decide +kernel, rfl, by decide +kernel, by decide +kernel⟩
def m_read_protocol : M Fl :=
  (mSeq (mAsg (mCallV 1 fn_protocol_of (mCons (mVal (mSplitN (mVar 0) (mPure (.str " ")))) (mPure []))) (mStore 1))
  (mSeq (mIf (mBol (mBinL isD 1 (mPure .none))) (mRaise "NoText" ["at"] (mCons (mPure (.int 0)) (mPure []))) (mPure .nx))
  (mRet (mVar 1))))
def fn_read_protocol : List D → Option (Rs D) := runV m_read_protocol 2
abbrev s_read_protocol : Stmt := topS 21
abbrev N_read_protocol : List Str := ["text", "protocol"]
theorem sc_read_protocol : FnScope N_read_protocol ["text"] (defScope s_read_protocol) := ⟨rfl, rfl, rfl, by decide +kernel, rfl, by decide +kernel, by decide +kernel⟩
def m__law_box : M Fl :=
  (mSeq (mAsg (mBin addD (mBin mulD (mPure (.int 6353)) (mPeek 1)) (mPure (.int 19))) (mStore 2))
  (mSeq (mIf (mBol (mBinL ltD 1 (mScrLen 0))) (mAsg (mScrIx 0 (mVar 1)) (mStore 2)) (mIf (mBol (mBin gtD (mScrLen 0) (mPure (.int 0)))) (mAsg (mBinL addD 2 (mBin mulD (mBin modD (mCall1 intD (mScrIx 0 (mBin modD (mCall1 intD (mPeek 1)) (mScrLen 0)))) (mPure (.int 2147483629))) (mPure (.int 69623)))) (mStore 2)) (mPure .nx)))
  (mSeq (mAsg (mBin addD (mBin modD (mBin addD (mBin mulD (mBin modD (mCall1 intD (mPeek 2)) (mPure (.int 2147483629))) (mPure (.int 48271))) (mBin mulD (mPure (.int 40692)) (mPeek 1))) (mPure (.int 2147483629))) (mPure (.int 1))) (mStore 3))
  (mRetF (mCons (mBin ixD (mLst (mCons (mPure (.int 0)) (mCons (mVar 2) (mPure [])))) (mCall1 intD (mBinL geD 2 (mBin powD (mPure (.int 10)) (mPure (.int 18)))))) (mCons (mVar 3) (mCons (mPure (.int 0)) (mPure []))))))))
def fn__law_box : List Int → List D → Option (Rs (List D)) := runS m__law_box 4
abbrev s__law_box : Stmt := topS 26
abbrev N__law_box : List Str := ["_law_script", "_law_k", "_law_cell", "_law_seed"]
theorem sc__law_box : FnScope N__law_box ["_law_script", "_law_k"] (defScope s__law_box) := ⟨rfl, rfl, rfl, by decide +kernel, rfl, by decide +kernel, by decide +kernel⟩
def m__law_take : M Fl :=
  (mSeq (mIf (mBol (mBin gtD (mBinL ixD 0 (mPure (.int 0))) (mPure (.int 0)))) (mSeq (mAsg (mBin modD (mCall1 intD (mBinL ixD 0 (mPure (.int 0)))) (mPeek 1)) (mStore 2))
  (mSeq (mAsg (mBin divD (mBinL ixD 0 (mPure (.int 0))) (mPeek 1)) (gSet 0 (mPure (.int 0))))
  (mRet (mVar 2)))) (mPure .nx))
  (mSeq (mAsg (mBin addD (mBinL ixD 0 (mPure (.int 2))) (mPure (.int 1))) (gSet 0 (mPure (.int 2))))
  (mSeq (mAsg (mBin modD (mCall1 intD (mBin mulD (mBin addD (mBinL ixD 0 (mPure (.int 1))) (mBin mulD (mPure (.int 104729)) (mBinL ixD 0 (mPure (.int 2))))) (mPure (.int 69623)))) (mPure (.int 2147483647))) (mStore 3))
  (mSeq (mAsg (mBin addD (mBin modD (mBin addD (mBinL mulD 3 (mPure (.int 48271))) (mPure (.int 30103))) (mPure (.int 2147483629))) (mPure (.int 1))) (gSet 0 (mPure (.int 1))))
  (mRet (mBin modD (mBin divD (mBin addD (mBinL mulD 3 (mPure (.int 2147483647))) (mBinL ixD 0 (mPure (.int 1)))) (mPure (.int 8191))) (mPeek 1)))))))
def fn__law_take : List D → List D → Option (Rs D × List D) := runB m__law_take 4
abbrev s__law_take : Stmt := topS 27
abbrev N__law_take : List Str := ["_law_box_here", "_law_many", "_law_digit", "_law_one"]
theorem sc__law_take : FnScope N__law_take ["_law_box_here", "_law_many"] (defScope s__law_take) := ⟨rfl, rfl, rfl, by decide +kernel, rfl, by decide +kernel, by decide +kernel⟩
def C__law_names_0 : M (List D) :=
  (mComp [7] (mRng1 (mCons (mVar 1) (mPure []))) (mStore 7) (mPure true) (mMut 2 popAtD (mCons (mCallB 0 2 fn__law_take (mCons (mCall1 lenD (mPeek 2)) (mPure []))) (mPure []))))
def C__law_names_1 : M (List D) :=
  (mComp [7] (mRng1 (mCons (mCallB 0 2 fn__law_take (mCons (mPure (.int 6)) (mPure []))) (mPure []))) (mStore 7) (mPure true) (mBinL ixD 3 (mCallB 0 2 fn__law_take (mCons (mPure (.int 26)) (mPure [])))))
def C__law_names_2 : M (List D) :=
  (mComp [7] (mRng1 (mCons (mVar 1) (mPure []))) (mStore 7) (mPure true) (mBin addD (mBin addD (mSlL 4 mNoPart (mPart (mVar 5))) (mBinL ixD 3 (mBin modD (mBinL addD 6 (mBin mulD (mPure (.int 7)) (mPeek 7))) (mPure (.int 26))))) (mSlL 4 (mPart (mVar 5)) mNoPart)))
def m__law_names : M Fl :=
  (mSeq (mAsgN (mLstN (mCons (mPure (.str "rise")) (mCons (mPure (.str "fall")) (mCons (mPure (.str "high")) (mCons (mPure (.str "low")) (mCons (mPure (.str "none")) (mCons (mPure (.str "even")) (mCons (mPure (.str "odd")) (mCons (mPure (.str "framed")) (mPure [])))))))))) 2)
  (mSeq (mIf (mBol (mBin eqD (mCallB 0 2 fn__law_take (mCons (mPure (.int 3)) (mPure []))) (mPure (.int 0)))) (mRetFN C__law_names_0) (mPure .nx))
  (mSeq (mAsg (mPure (.str "abcdefghijklmnopqrstuvwxyz")) (mStore 3))
  (mSeq (mAsg (mJoin (mPure (.str "")) (mVal C__law_names_1)) (mStore 4))
  (mSeq (mAsg (mTup (mCons (mCallB 0 2 fn__law_take (mCons (mBin addD (mCall1 lenD (mPeek 4)) (mPure (.int 1))) (mPure []))) (mCons (mCallB 0 2 fn__law_take (mCons (mPure (.int 26)) (mPure []))) (mPure [])))) (gTupD 2 (gCons2 (mStore 5) (gCons2 (mStore 6) gsNil))))
  (mRetFN C__law_names_2))))))
def fn__law_names : List D → List D → Option (Rs (List D) × List D) := runBF m__law_names 8
abbrev s__law_names : Stmt := topS 28
abbrev N__law_names : List Str := ["_law_box_here", "_law_many", "_law_words_here", "_law_letters", "_law_stem", "_law_spot", "_law_first", "_law_k"]
theorem sc__law_names : FnScope N__law_names ["_law_box_here", "_law_many"] (defScope s__law_names) := ⟨rfl, rfl, rfl, by decide +kernel, rfl, by decide +kernel, by decide +kernel⟩
def L__law_words_0 : M Fl :=
  (mSeq (mAsg (mBinL addD 1 (mPeek 1)) (mStore 6))
  (mSeq (mDispO 7 (mPairC "e" (mLst (mCons (mPure (.str "rise")) (mCons (mPure (.str "fall")) (mPure [])))) (mPairC "g" (mBin addD (mLst (mCons (mPure (.str "-")) (mPure []))) (mPeek 1)) (mPairC "n" (mLst (mCons (mPure (.str "1")) (mCons (mPure (.str "8")) (mCons (mPure (.str "16")) (mCons (mPure (.str "17")) (mCons (mPure (.str "07")) (mPure []))))))) (mPairC "f" (mLst (mCons (mPure (.str "high")) (mCons (mPure (.str "low")) (mPure [])))) mPairN)))))
  (mSeq (mAsg (mTup (mCons (mLst (mCons (mPure (.str "2")) (mCons (mPure (.str "1")) (mCons (mPure (.str "9")) (mCons (mPure (.str "1000000")) (mCons (mPure (.str "1000001")) (mPure []))))))) (mCons (mLst (mCons (mPure (.str "none")) (mCons (mPure (.str "even")) (mCons (mPure (.str "odd")) (mPure []))))) (mPure [])))) (gTupD 2 (gCons2 (gSetK 7 (mPure (.str "l"))) (gCons2 (gSetK 7 (mPure (.str "c"))) gsNil))))
  (mSeq (mSetDict 7 (mPure (.str "s")) (mLst (mCons (mPure (.str "1")) (mCons (mPure (.str "2")) (mCons (mPure (.str "3")) (mPure []))))))
  (mSeq (mAsg (mGetDict 7 (mVar 5) (mVar 6)) (mStore 6))
  (mSeq (mIf (mBol (mBin eqD (mCallB 0 2 fn__law_take (mCons (mPure (.int 30)) (mPure []))) (mPure (.int 0)))) (mAsgN (mLstN (mCons (mPure (.str "")) (mCons (mPure (.str "-")) (mCons (mPure (.str "0")) (mCons (mPure (.str "rise")) (mCons (mPure (.str "odd")) (mCons (mPure (.str "high")) (mCons (mPure (.str "1")) (mPure []))))))))) 6) (mPure .nx))
  (mDrop (mMut 4 appD (mCons (mBinL ixD 6 (mCallB 0 2 fn__law_take (mCons (mCall1 lenD (mPeek 6)) (mPure [])))) (mPure []))))))))))
def R__law_words_0 : M Fl :=
  mFor (mSigns (mVar 3)) (mStore 5) L__law_words_0
def m__law_words : M Fl :=
  (mSeq (mAsg (mBin ixD (mLst (mCons (mPure (.str "clocked")) (mCons (mPure (.str "framed")) (mCons (mPure (.str "twowire")) (mCons (mPure (.str "framed")) (mCons (mBinL ixD 1 (mPure (.int 0))) (mPure []))))))) (mCallB 0 2 fn__law_take (mCons (mPure (.int 5)) (mPure [])))) (mStore 2))
  (mSeq (mAsg (mDGetE (mDisp (mPairC "clocked" (mPure (.str "xexgnf")) (mPairC "framed" (mPure (.str "xlncs")) (mPairC "twowire" (mPure (.str "xx")) mPairN)))) (mVar 2) (mPure (.str "x"))) (mStore 3))
  (mSeq (mAsgN (mLstN (mCons (mVar 2) (mPure []))) 4)
  (mSeq (R__law_words_0)
  (mRet (mSlL 4 mNoPart (mPart (mBin subD (mCall1 lenD (mPeek 4)) (mBin divD (mCallB 0 2 fn__law_take (mCons (mPure (.int 20)) (mPure []))) (mPure (.int 19)))))))))))
def fn__law_words : List D → List D → Option (Rs D × List D) := runB m__law_words 8
abbrev s__law_words : Stmt := topS 29
abbrev N__law_words : List Str := ["_law_box_here", "_law_names_here", "_law_word", "_law_kinds", "_law_found", "_law_kind", "_law_some", "_law_rows"]
theorem sc__law_words : FnScope N__law_words ["_law_box_here", "_law_names_here"] (defScope s__law_words) := ⟨rfl, rfl, rfl, by decide +kernel, rfl, by decide +kernel, by decide +kernel⟩
def m__law_told : M Fl :=
  (mSeq (mAsg (mTup (mCons (mPure .none) (mCons (mPure (.int 0)) (mPure [])))) (gTupD 2 (gCons2 (mStore 1) (gCons2 (mStore 2) gsNil))))
  (mSeq (mTry "NoText" 3 (mAsg (mCallV 1 fn_read_protocol (mCons (mVar 0) (mPure []))) (mStore 1)) (mSuiteF 2 (.fld "at")))
  (mRet (mTup (mCons (mVar 1) (mCons (mVar 2) (mPure [])))))))
def fn__law_told : List D → Option (Rs D) := runV m__law_told 4
abbrev s__law_told : Stmt := topS 30
abbrev N__law_told : List Str := ["_law_text", "_law_found", "_law_at", "e"]
theorem sc__law_told : FnScope N__law_told ["_law_text"] (defScope s__law_told) := ⟨rfl, rfl, rfl, by decide +kernel, rfl, by decide +kernel, by decide +kernel⟩
def m__law_lacks : M Fl :=
  (mSeq (mAsg (mPure .none) (mStore 2))
  (mSeq (mTry "NoProtocol" 3 (mDrop (mCallV 2 fn_look_protocol (mCons (mVar 0) (mCons (mVar 1) (mPure []))))) (mSuiteF 2 (.fld "word")))
  (mRet (mVar 2))))
def fn__law_lacks : List D → Option (Rs D) := runV m__law_lacks 4
abbrev s__law_lacks : Stmt := topS 31
abbrev N__law_lacks : List Str := ["_law_names_here", "_law_protocol", "_law_found", "e"]
theorem sc__law_lacks : FnScope N__law_lacks ["_law_names_here", "_law_protocol"] (defScope s__law_lacks) := ⟨rfl, rfl, rfl, by decide +kernel, rfl, by decide +kernel, by decide +kernel⟩
def m__law_lines : M Fl :=
  (mSeq (mIf (mBol (mBin eqD (mBinL ixD 0 (mPure (.int 0))) (mPure (.str "framed")))) (mRet (mLst (mCons (mBinL ixD 0 (mPure (.int 1))) (mPure [])))) (mPure .nx))
  (mSeq (mIf (mBol (mBin eqD (mBinL ixD 0 (mPure (.int 0))) (mPure (.str "twowire")))) (mRet (mLst (mCons (mBinL ixD 0 (mPure (.int 1))) (mCons (mBinL ixD 0 (mPure (.int 2))) (mPure []))))) (mPure .nx))
  (mRet (mBin addD (mLst (mCons (mBinL ixD 0 (mPure (.int 1))) (mCons (mBinL ixD 0 (mPure (.int 3))) (mPure [])))) (mVal (mRepN (mCons (mBinL ixD 0 (mPure (.int 4))) (mPure [])) (mCall1 intD (mBin neD (mBinL ixD 0 (mPure (.int 4))) (mPure (.str ""))))))))))
def fn__law_lines : List D → Option (Rs D) := runV m__law_lines 1
abbrev s__law_lines : Stmt := topS 32
abbrev N__law_lines : List Str := ["_law_protocol"]
theorem sc__law_lines : FnScope N__law_lines ["_law_protocol"] (defScope s__law_lines) := ⟨rfl, rfl, rfl, by decide +kernel, rfl, by decide +kernel, by decide +kernel⟩
def C_law_0 : M (List D) :=
  (mComp [12] (mItems (mSlL 3 mNoPart (mPart (mPure (.int 4))))) (mStore 12) (mBol (mBinL (inD true) 12 (mPeek 8))) (mVar 12))
def L_law_0 : M Fl :=
  (mIf (mBol (mBin isntB (mCallV 2 fn_look_protocol (mCons (mVar 10) (mCons (mVar 6) (mPure [])))) (mPure (.bool true)))) (mRet (mPure (.bool false))) (mPure .nx))
def R_law_0 : M Fl :=
  mFor (mItems (mTup (mCons (mVar 8) (mCons (mCall1 tupleD (mVal (mRevN (mPeek 9)))) (mPure []))))) (mStore 10) L_law_0
def L_law_1 : M Fl :=
  (mSeq (mAsg (mJoin (mPure (.str " ")) (mCallB 2 2 fn__law_words (mCons (mVar 3) (mPure [])))) (mStore 5))
  (mSeq (mAsg (mCallV 1 fn__law_told (mCons (mVar 5) (mPure []))) (gTupD 2 (gCons2 (mStore 6) (gCons2 (mStore 7) gsNil))))
  (mSeq (mIf (mBol (mBinL neD 7 (mPure (.int 0)))) (mRet (mPure (.bool false))) (mPure .nx))
  (mIf (mBol (mBinL isntD 6 (mPure .none))) (mSeq (mAsg (mCallV 1 fn__law_lines (mCons (mVar 6) (mPure []))) (mStore 8))
  (mSeq (mAsg (mBinL addD 8 (mVal C_law_0)) (mStore 9))
  (mSeq (R_law_0)
  (mSeq (mAsg (mCallB 2 2 fn__law_take (mCons (mCall1 lenD (mPeek 8)) (mPure []))) (mStore 11))
  (mSeq (mIf (mBol (mBin neD (mCallV 2 fn__law_lacks (mCons (mBin addD (mSlL 8 mNoPart (mPart (mVar 11))) (mSlL 8 (mPart (mBinL addD 11 (mPure (.int 1)))) mNoPart)) (mCons (mVar 6) (mPure [])))) (mPure (.str "line")))) (mRet (mPure (.bool false))) (mPure .nx))
  (mIf (mBol (mBin neD (mCallV 1 fn_show_protocol (mCons (mVar 6) (mPure []))) (mPeek 5))) (mRet (mPure (.bool false))) (mPure .nx))))))) (mPure .nx)))))
def R_law_1 : M Fl :=
  mFor (mRng1 (mCons (mPure (.int 12)) (mPure []))) (mStore 4) L_law_1
def L_law_2 : M Fl :=
  (mSeq (mAsgS 2 0 2 fn__law_box (mCons (mVar 1) (mPure [])))
  (mSeq (mAsgBF 3 2 2 fn__law_names (mCons (mPure (.int 4)) (mPure [])))
  (mSeq (mDrop (mMut 3 appD (mCons (mBin addD (mBinL ixD 3 (mPure (.int 0))) (mBin repS1D (mPure (.str "x")) (mBin subD (mPure (.int 7)) (mCall1 lenD (mBinL ixD 3 (mPure (.int 0))))))) (mPure []))))
  (R_law_1))))
def R_law_2 : M Fl :=
  mFor (mRng1 (mCons (mCallN max2D (mCons (mPure (.int 2)) (mCons (mCallN min2D (mCons (mPure (.int 6)) (mCons (mScrLen 0) (mPure [])))) (mPure [])))) (mPure []))) (mStore 1) L_law_2
def m_law : M Fl :=
  (mSeq (R_law_2)
  (mRet (mPure (.bool true))))
def fn_law : List Int → Option (Rs D) := runL m_law 13
abbrev s_law : Stmt := topS 33
abbrev N_law : List Str := ["_law_script", "_law_k", "_law_box_here", "_law_names_here", "_law_turn", "_law_text", "_law_protocol", "_law_at", "_law_lines_here", "_law_more", "_law_some", "_law_spot", "_law_x"]
theorem sc_law : FnScope N_law ["_law_script"] (defScope s_law) := ⟨rfl, rfl, rfl, by decide +kernel, rfl, by decide +kernel, by decide +kernel⟩
structure Tx (K : PySem.W.Frag) (mg : Str → Option Value) (w : World) where
  a_is_whole : Addr
  fd_is_whole : FuncData
  F_is_whole : Fun K "is_whole" "is_whole" s_is_whole a_is_whole fd_is_whole
  g_is_whole : mg "is_whole" = some (.ref a_is_whole)
  b_is_whole : Binds K fd_is_whole ["thing"] []
  a_is_name : Addr
  fd_is_name : FuncData
  F_is_name : Fun K "is_name" "is_name" s_is_name a_is_name fd_is_name
  g_is_name : mg "is_name" = some (.ref a_is_name)
  b_is_name : Binds K fd_is_name ["thing"] []
  a_word_of : Addr
  fd_word_of : FuncData
  F_word_of : Fun K "word_of" "word_of" s_word_of a_word_of fd_word_of
  g_word_of : mg "word_of" = some (.ref a_word_of)
  b_word_of : Binds K fd_word_of ["thing"] []
  a_figures : Addr
  fd_figures : FuncData
  F_figures : Fun K "figures" "figures" s_figures a_figures fd_figures
  g_figures : mg "figures" = some (.ref a_figures)
  b_figures : Binds K fd_figures ["word"] []
  a_lines_of : Addr
  fd_lines_of : FuncData
  F_lines_of : Fun K "lines_of" "lines_of" s_lines_of a_lines_of fd_lines_of
  g_lines_of : mg "lines_of" = some (.ref a_lines_of)
  b_lines_of : Binds K fd_lines_of ["protocol"] []
  a__has_sort : Addr
  fd__has_sort : FuncData
  F__has_sort : Fun K "_has_sort" "_has_sort" s__has_sort a__has_sort fd__has_sort
  g__has_sort : mg "_has_sort" = some (.ref a__has_sort)
  b__has_sort : Binds K fd__has_sort ["field", "thing"] []
  a__has_form : Addr
  fd__has_form : FuncData
  F__has_form : Fun K "_has_form" "_has_form" s__has_form a__has_form fd__has_form
  g__has_form : mg "_has_form" = some (.ref a__has_form)
  b__has_form : Binds K fd__has_form ["thing"] []
  a__is_told : Addr
  fd__is_told : FuncData
  F__is_told : Fun K "_is_told" "_is_told" s__is_told a__is_told fd__is_told
  g__is_told : mg "_is_told" = some (.ref a__is_told)
  b__is_told : Binds K fd__is_told ["field", "thing"] []
  a__fault_of : Addr
  fd__fault_of : FuncData
  F__fault_of : Fun K "_fault_of" "_fault_of" s__fault_of a__fault_of fd__fault_of
  g__fault_of : mg "_fault_of" = some (.ref a__fault_of)
  b__fault_of : Binds K fd__fault_of ["names", "protocol"] []
  a_look_protocol : Addr
  fd_look_protocol : FuncData
  F_look_protocol : Fun K "look_protocol" "look_protocol" s_look_protocol a_look_protocol fd_look_protocol
  g_look_protocol : mg "look_protocol" = some (.ref a_look_protocol)
  b_look_protocol : Binds K fd_look_protocol ["names", "protocol"] []
  a_show_protocol : Addr
  fd_show_protocol : FuncData
  F_show_protocol : Fun K "show_protocol" "show_protocol" s_show_protocol a_show_protocol fd_show_protocol
  g_show_protocol : mg "show_protocol" = some (.ref a_show_protocol)
  b_show_protocol : Binds K fd_show_protocol ["protocol"] []
  a_many_words : Addr
  fd_many_words : FuncData
  F_many_words : Fun K "many_words" "many_words" s_many_words a_many_words fd_many_words
  g_many_words : mg "many_words" = some (.ref a_many_words)
  b_many_words : Binds K fd_many_words ["word"] []
  a__part_of : Addr
  fd__part_of : FuncData
  F__part_of : Fun K "_part_of" "_part_of" s__part_of a__part_of fd__part_of
  g__part_of : mg "_part_of" = some (.ref a__part_of)
  b__part_of : Binds K fd__part_of ["field", "word"] []
  a_protocol_of : Addr
  fd_protocol_of : FuncData
  F_protocol_of : Fun K "protocol_of" "protocol_of" s_protocol_of a_protocol_of fd_protocol_of
  g_protocol_of : mg "protocol_of" = some (.ref a_protocol_of)
  b_protocol_of : Binds K fd_protocol_of ["words"] []
  a_read_protocol : Addr
  fd_read_protocol : FuncData
  F_read_protocol : Fun K "read_protocol" "read_protocol" s_read_protocol a_read_protocol fd_read_protocol
  g_read_protocol : mg "read_protocol" = some (.ref a_read_protocol)
  b_read_protocol : Binds K fd_read_protocol ["text"] []
  a__law_box : Addr
  fd__law_box : FuncData
  F__law_box : Fun K "_law_box" "_law_box" s__law_box a__law_box fd__law_box
  g__law_box : mg "_law_box" = some (.ref a__law_box)
  b__law_box : Binds K fd__law_box ["_law_script", "_law_k"] []
  a__law_take : Addr
  fd__law_take : FuncData
  F__law_take : Fun K "_law_take" "_law_take" s__law_take a__law_take fd__law_take
  g__law_take : mg "_law_take" = some (.ref a__law_take)
  b__law_take : Binds K fd__law_take ["_law_box_here", "_law_many"] []
  a__law_names : Addr
  fd__law_names : FuncData
  F__law_names : Fun K "_law_names" "_law_names" s__law_names a__law_names fd__law_names
  g__law_names : mg "_law_names" = some (.ref a__law_names)
  b__law_names : Binds K fd__law_names ["_law_box_here", "_law_many"] []
  a__law_words : Addr
  fd__law_words : FuncData
  F__law_words : Fun K "_law_words" "_law_words" s__law_words a__law_words fd__law_words
  g__law_words : mg "_law_words" = some (.ref a__law_words)
  b__law_words : Binds K fd__law_words ["_law_box_here", "_law_names_here"] []
  a__law_told : Addr
  fd__law_told : FuncData
  F__law_told : Fun K "_law_told" "_law_told" s__law_told a__law_told fd__law_told
  g__law_told : mg "_law_told" = some (.ref a__law_told)
  b__law_told : Binds K fd__law_told ["_law_text"] []
  a__law_lacks : Addr
  fd__law_lacks : FuncData
  F__law_lacks : Fun K "_law_lacks" "_law_lacks" s__law_lacks a__law_lacks fd__law_lacks
  g__law_lacks : mg "_law_lacks" = some (.ref a__law_lacks)
  b__law_lacks : Binds K fd__law_lacks ["_law_names_here", "_law_protocol"] []
  a__law_lines : Addr
  fd__law_lines : FuncData
  F__law_lines : Fun K "_law_lines" "_law_lines" s__law_lines a__law_lines fd__law_lines
  g__law_lines : mg "_law_lines" = some (.ref a__law_lines)
  b__law_lines : Binds K fd__law_lines ["_law_protocol"] []
  a_law : Addr
  fd_law : FuncData
  F_law : Fun K "law" "law" s_law a_law fd_law
  g_law : mg "law" = some (.ref a_law)
  b_law : Binds K fd_law ["_law_script"] []
  c_NoProtocol : Addr
  i_NoProtocol : Addr
  x_NoProtocol : PySem.NoProtocolX.NoProtocolTxt K mg c_NoProtocol i_NoProtocol
  nm_NoProtocol : PySem.W.nsIn K mainGlobals "NoProtocol" = some (some (.ref c_NoProtocol))
  t_NoProtocol : ExTxt K "NoProtocol" c_NoProtocol
  f_NoProtocol_word : PySem.W.findIn K (.ref c_NoProtocol) "word" = some none
  c_NoText : Addr
  i_NoText : Addr
  x_NoText : PySem.NoTextX.NoTextTxt K mg c_NoText i_NoText
  nm_NoText : PySem.W.nsIn K mainGlobals "NoText" = some (some (.ref c_NoText))
  t_NoText : ExTxt K "NoText" c_NoText
  f_NoText_at : PySem.W.findIn K (.ref c_NoText) "at" = some none
  ga_LINES : Addr
  g_LINES : mg "LINES" = some (.ref ga_LINES)
  dp_LINES : ∀ F, Dd.Dp K F (.ref ga_LINES) (.tuple [.str "clock", .str "data", .str "gate"])
  ga_BOUNDS : Addr
  g_BOUNDS : mg "BOUNDS" = some (.ref ga_BOUNDS)
  kt_BOUNDS : KTab K w ga_BOUNDS tb_BOUNDS
  kn_BOUNDS : KNam K w ga_BOUNDS tb_BOUNDS
  ga_FORMS : Addr
  g_FORMS : mg "FORMS" = some (.ref ga_FORMS)
  kt_FORMS : KTab K w ga_FORMS tb_FORMS
  kn_FORMS : KNam K w ga_FORMS tb_FORMS
  ga_WORDS : Addr
  g_WORDS : mg "WORDS" = some (.ref ga_WORDS)
  kt_WORDS : KTab K w ga_WORDS tb_WORDS
  kn_WORDS : KNam K w ga_WORDS tb_WORDS
  z_all : mg "all" = none
  z_bool : mg "bool" = none
  z_int : mg "int" = none
  z_isinstance : mg "isinstance" = none
  z_len : mg "len" = none
  z_max : mg "max" = none
  z_min : mg "min" = none
  z_range : mg "range" = none
  z_set : mg "set" = none
  z_str : mg "str" = none
  z_tuple : mg "tuple" = none
  z_zip : mg "zip" = none
section
variable {P : Program} {w : World} {K : PySem.W.Frag} {mg : Str → Option Value} {base : Heap}
theorem ok_is_whole (T : Tx K mg w) : FnG P w K mg base (L2.CX P w) 1 T.a_is_whole T.fd_is_whole ["thing"] (spV K 1 fn_is_whole) := by
  have e : spV K 1 fn_is_whole = spV K ["thing"].length (runV m_is_whole N_is_whole.length) := rfl
  rw [e]
  refine okV2G (sc := ?sc) (bd := ?bd) (m := m_is_whole) T.F_is_whole sc_is_whole ?h1 ?h2 ?hb
  case h1 => conv => lhs; whnf
  case h2 => conv => lhs; whnf
  case hb => exact fun cdv A outer s H E hgd hr => (by exact
    (dsOne (dRet (dAnd (dIsi (T.z_isinstance) (T.z_int) i_int (dpk 0) b_int) (dOne (dNot (dP (dIsi (T.z_isinstance) (T.z_bool) i_bool (dpk 0) b_bool))))))))
theorem ok_is_name (T : Tx K mg w) : FnG P w K mg base (L2.CX P w) 1 T.a_is_name T.fd_is_name ["thing"] (spV K 1 fn_is_name) := by
  have e : spV K 1 fn_is_name = spV K ["thing"].length (runV m_is_name N_is_name.length) := rfl
  rw [e]
  refine okV2G (sc := ?sc) (bd := ?bd) (m := m_is_name) T.F_is_name sc_is_name ?h1 ?h2 ?hb
  case h1 => conv => lhs; whnf
  case h2 => conv => lhs; whnf
  case hb => exact fun cdv A outer s H E hgd hr => (by exact
    (dsOne (dRet (dAnd (dIsi (T.z_isinstance) (T.z_str) i_str (dpk 0) b_str) (dAnd (dChain op_le opD_le op_le opD_le (dInt) (dB1 cr_len cd_len (T.z_len) b_len (dpk 0)) (dP (dInt))) (dOne (dB1 (cr_all rfl) cd_all (T.z_all) b_all (dP (dVal (m := C_is_name_0) (dCompN (own := [("sign", 1)]) rfl sc_is_name.nd (diSigns (dv 0)) (blkOk_by (N := N_is_name) (sc := defScope s_is_name) (by decide +kernel)) (fun _ _ _ _ _ => pg_name (i := 1) sc_is_name.nd rfl (by first | exact Or.inl rfl | exact Or.inr rfl)) (fun _ _ _ _ _ => pts_nil) (fun _ _ _ _ _ => (dChain or_leS opD_leS or_leS opD_leS (dStr) (dv 1) (dP (dStr)))) (ctName (by decide)) (fun _ _ _ => tYes_of)))))))))))
theorem ok_word_of (T : Tx K mg w) : FnG P w K mg base (L2.CX P w) 1 T.a_word_of T.fd_word_of ["thing"] (spV K 1 fn_word_of) := by
  have e : spV K 1 fn_word_of = spV K ["thing"].length (runV m_word_of N_word_of.length) := rfl
  rw [e]
  refine okV2G (sc := ?sc) (bd := ?bd) (m := m_word_of) T.F_word_of sc_word_of ?h1 ?h2 ?hb
  case h1 => conv => lhs; whnf
  case h2 => conv => lhs; whnf
  case hb => exact fun cdv A outer s H E hgd hr => (by exact
    (dsCons (dIfS ((dwAnd (dTru (dP (dIsi (T.z_isinstance) (T.z_tuple) i_tuple (dpk 0) b_tuple))) (dwAnd (dTru (dpk 0)) (dwAnd1 (dTru (dP (dIsi (T.z_isinstance) (T.z_str) i_str (dP (dIxL (pv 0) (dP (dInt)))) b_str)))))).pt) (dsOne (dRet (dIxL (pv 0) (dP (dInt))))) dsNil)
      (dsOne (dRet (dNon)))))
theorem ok_figures (T : Tx K mg w) : FnG P w K mg base (L2.CX P w) 1 T.a_figures T.fd_figures ["word"] (spV K 1 fn_figures) := by
  have e : spV K 1 fn_figures = spV K ["word"].length (runV m_figures N_figures.length) := rfl
  rw [e]
  refine okV2G (sc := ?sc) (bd := ?bd) (m := m_figures) T.F_figures sc_figures ?h1 ?h2 ?hb
  case h1 => conv => lhs; whnf
  case h2 => conv => lhs; whnf
  case hb => exact fun cdv A outer s H E hgd hr => (by exact
    (dsCons (dIfS ((dwOr (dtNot (dtChain op_le opD_le op_le opD_le (dInt) (dB1 cr_len cd_len (T.z_len) b_len (dpk 0)) (dP (dInt)))) (dwOr1 ((dwAnd (dtCmp (op_eqD hr.units) opD_eq (nomark _) (dIxL (pv 0) (dP (dInt))) (dP (dStr))) (dwAnd1 (dtCmpL (op_neD hr.units) opD_ne (nomark _) (pv 0) (dP (dStr))))).pt))).pt) (dsOne (dRet (dNon))) dsNil)
      (dsCons (dIfS (dtNot (dTru (dP (dB1 (cr_all rfl) cd_all (T.z_all) b_all (dP (dVal (m := C_figures_0) (dCompN (own := [("sign", 1)]) rfl sc_figures.nd (diSigns (dv 0)) (blkOk_by (N := N_figures) (sc := defScope s_figures) (by decide +kernel)) (fun _ _ _ _ _ => pg_name (i := 1) sc_figures.nd rfl (by first | exact Or.inl rfl | exact Or.inr rfl)) (fun _ _ _ _ _ => pts_nil) (fun _ _ _ _ _ => (dChain or_leS opD_leS or_leS opD_leS (dStr) (dv 1) (dP (dStr)))) (ctName (by decide)) (fun _ _ _ => tYes_of)))))))) (dsOne (dRet (dNon))) dsNil)
      (dsOne (dRet (dTy1 call_intOf cd_intOf (T.z_int) b_int (dpk 0)))))))
theorem ok_lines_of (T : Tx K mg w) : FnG P w K mg base (L2.CX P w) 1 T.a_lines_of T.fd_lines_of ["protocol"] (spV K 1 fn_lines_of) := by
  have e : spV K 1 fn_lines_of = spV K ["protocol"].length (runV m_lines_of N_lines_of.length) := rfl
  rw [e]
  refine okV2G (sc := ?sc) (bd := ?bd) (m := m_lines_of) T.F_lines_of sc_lines_of ?h1 ?h2 ?hb
  case h1 => conv => lhs; whnf
  case h2 => conv => lhs; whnf
  case hb => exact fun cdv A outer s H E hgd hr => (by exact
    (dsCons (dsCompN (i := 1) (own := [("field", 2), ("part", 3)]) rfl sc_lines_of.nd (sw_true rfl rfl rfl (by decide +kernel)) (diZipB (T.z_zip) (dCons (dGIx T.kt_FORMS T.g_FORMS (dIxL (pv 0) (dP (dInt)))) (dCons (dSlL (pv 0) (dPart (dInt)) dNoPart) dNil))) (blkOk_by (N := N_lines_of) (sc := defScope s_lines_of) (by decide +kernel)) (fun _ _ _ _ _ => pg_tup rfl (pgs_cons (pg_name (i := 2) sc_lines_of.nd rfl (by first | exact Or.inl rfl | exact Or.inr rfl)) (pgs_cons (pg_name (i := 3) sc_lines_of.nd rfl (by first | exact Or.inl rfl | exact Or.inr rfl)) pgs_nil))) (fun _ _ _ _ _ => pts_one (dtCmpL op_in_seq (opD_in false) (by rfl) (pv 2) (dP (dGlobD T.g_LINES T.dp_LINES)))) (fun _ _ _ _ _ => (dv 3)) (ctTup (is := [2, 3]) (by decide)) (fun _ _ _ q => q))
      (dsCons (dIfS ((dwAnd (dtCmp (op_eqD hr.units) opD_eq (nomark _) (dIxL (pv 0) (dP (dInt))) (dP (dStr))) (dwAnd1 (dtCmp (op_eqD hr.units) opD_eq (nomark _) (dIxL (pv 1) (dP (dNeg (dInt)))) (dP (dStr))))).pt) (dsOne (dRet (dSlL (pv 1) dNoPart (dPart (dNeg (dInt)))))) dsNil)
      (dsOne (dRet (dv 1))))))
theorem ok__has_sort (T : Tx K mg w) : FnG P w K mg base (L2.CX P w) 2 T.a__has_sort T.fd__has_sort ["field", "thing"] (spV K 2 fn__has_sort) := by
  have e : spV K 2 fn__has_sort = spV K ["field", "thing"].length (runV m__has_sort N__has_sort.length) := rfl
  rw [e]
  refine okV2G (sc := ?sc) (bd := ?bd) (m := m__has_sort) T.F__has_sort sc__has_sort ?h1 ?h2 ?hb
  case h1 => conv => lhs; whnf
  case h2 => conv => lhs; whnf
  case hb => exact fun cdv A outer s H E hgd hr => (by exact
    (dsOne (dRet (dIf (dtGIn T.kn_BOUNDS T.g_BOUNDS (dv 0)) (dCallVG hgd (ok_is_whole T) (hr.mono (by decide)) T.g_is_whole T.F_is_whole.kp T.b_is_whole (takes_of rfl rfl rfl rfl) (dCons (dv 1) dNil)) (dIsi (T.z_isinstance) (T.z_str) i_str (dpk 1) b_str)))))
theorem ok__has_form (T : Tx K mg w) : FnG P w K mg base (L2.CX P w) 3 T.a__has_form T.fd__has_form ["thing"] (spV K 1 fn__has_form) := by
  have e : spV K 1 fn__has_form = spV K ["thing"].length (runV m__has_form N__has_form.length) := rfl
  rw [e]
  refine okV2G (sc := ?sc) (bd := ?bd) (m := m__has_form) T.F__has_form sc__has_form ?h1 ?h2 ?hb
  case h1 => conv => lhs; whnf
  case h2 => conv => lhs; whnf
  case hb => exact fun cdv A outer s H E hgd hr => (by exact
    (dsCons (dSet (i := 1) sc__has_form.nd (dGGet T.kt_FORMS T.kn_FORMS T.g_FORMS (dCallVG hgd (ok_word_of T) (hr.mono (by decide)) T.g_word_of T.F_word_of.kp T.b_word_of (takes_of rfl rfl rfl rfl) (dCons (dv 0) dNil))))
      (dsCons (dIfS ((dwOr (dtCmpL op_isN opD_is (nomark _) (pv 1) (dP (dNon))) (dwOr1 (dtCmp (op_neD hr.units) opD_ne (nomark _) (dB1 cr_len cd_len (T.z_len) b_len (dpk 0)) (dP (dOp or_addA opD_add (dB1 cr_len cd_len (T.z_len) b_len (dpk 1)) (dP (dInt))))))).pt) (dsOne (dRet (dBl))) dsNil)
      (dsOne (dRet (dB1 (cr_all rfl) cd_all (T.z_all) b_all (dP (dVal (m := C__has_form_0) (dCompN (own := [("field", 2), ("part", 3)]) rfl sc__has_form.nd (diZipB (T.z_zip) (dCons (dv 1) (dCons (dSlL (pv 0) (dPart (dInt)) dNoPart) dNil))) (blkOk_by (N := N__has_form) (sc := defScope s__has_form) (by decide +kernel)) (fun _ _ _ _ _ => pg_tup rfl (pgs_cons (pg_name (i := 2) sc__has_form.nd rfl (by first | exact Or.inl rfl | exact Or.inr rfl)) (pgs_cons (pg_name (i := 3) sc__has_form.nd rfl (by first | exact Or.inl rfl | exact Or.inr rfl)) pgs_nil))) (fun _ _ _ _ _ => pts_nil) (fun _ _ _ _ _ => (dCallVG hgd (ok__has_sort T) (hr.mono (by decide)) T.g__has_sort T.F__has_sort.kp T.b__has_sort takes0 (dCons (dv 2) (dCons (dv 3) dNil)))) (ctTup (is := [2, 3]) (by decide)) (fun _ _ _ => tYes_of))))))))))
theorem ok__is_told (T : Tx K mg w) : FnG P w K mg base (L2.CX P w) 1 T.a__is_told T.fd__is_told ["field", "thing"] (spV K 2 fn__is_told) := by
  have e : spV K 2 fn__is_told = spV K ["field", "thing"].length (runV m__is_told N__is_told.length) := rfl
  rw [e]
  refine okV2G (sc := ?sc) (bd := ?bd) (m := m__is_told) T.F__is_told sc__is_told ?h1 ?h2 ?hb
  case h1 => conv => lhs; whnf
  case h2 => conv => lhs; whnf
  case hb => exact fun cdv A outer s H E hgd hr => (by exact
    (dsCons (dIfS (dtGIn T.kn_BOUNDS T.g_BOUNDS (dv 0)) (dsCons (dAsg (dGIx T.kt_BOUNDS T.g_BOUNDS (dv 0)) (dgTup rfl (dgsCons (dgName (i := 2) sc__is_told.nd) (dgsCons (dgName (i := 3) sc__is_told.nd) dgsNil2))))
      (dsOne (dRet (dChain op_le opD_le op_le opD_le (dv 2) (dv 1) (dpk 3))))) dsNil)
      (dsOne (dRet (dOr (dCmpL op_in_seq (opD_in false) (by rfl) (pv 0) (dP (dGlobD T.g_LINES T.dp_LINES))) (dOne (dCmpL op_in_seq (opD_in false) (by rfl) (pv 1) (dP (dGIx T.kt_WORDS T.g_WORDS (dv 0))))))))))
theorem ok__fault_of (T : Tx K mg w) : FnG P w K mg base (L2.CX P w) 4 T.a__fault_of T.fd__fault_of ["names", "protocol"] (spV K 2 fn__fault_of) := by
  have e : spV K 2 fn__fault_of = spV K ["names", "protocol"].length (runV m__fault_of N__fault_of.length) := rfl
  rw [e]
  refine okV2G (sc := ?sc) (bd := ?bd) (m := m__fault_of) T.F__fault_of sc__fault_of ?h1 ?h2 ?hb
  case h1 => conv => lhs; whnf
  case h2 => conv => lhs; whnf
  case hb => exact fun cdv A outer s H E hgd hr => (by exact
    (dsCons (dIfS (dtNot (dTru (dP (dCallVG hgd (ok__has_form T) (hr.mono (by decide)) T.g__has_form T.F__has_form.kp T.b__has_form (takes_of rfl rfl rfl rfl) (dCons (dv 1) dNil))))) (dsOne (dRet (dStr))) dsNil)
      (dsCons (dSet (i := 2) sc__fault_of.nd (dCallVG hgd (ok_lines_of T) (hr.mono (by decide)) T.g_lines_of T.F_lines_of.kp T.b_lines_of (takes_of rfl rfl rfl rfl) (dCons (dv 1) dNil)))
      (dsCons (dIfS (dtNot (dTru (dP (dB1 (cr_all rfl) cd_all (T.z_all) b_all (dP (dVal (m := C__fault_of_0) (dCompN (own := [("line", 5)]) rfl sc__fault_of.nd (diSeq (dv 2)) (blkOk_by (N := N__fault_of) (sc := defScope s__fault_of) (by decide +kernel)) (fun _ _ _ _ _ => pg_name (i := 5) sc__fault_of.nd rfl (by first | exact Or.inl rfl | exact Or.inr rfl)) (fun _ _ _ _ _ => pts_nil) (fun _ _ _ _ _ => (dCmpL op_in_seq (opD_in false) (by rfl) (pv 5) (dpk 0))) (ctName (by decide)) (fun _ _ _ => tYes_of)))))))) (dsOne (dRet (dStr))) dsNil)
      (dsCons (dIfS (dtCmp op_lt opD_lt (nomark _) (dLenU rfl (T.z_len) (T.z_set) (dpk 2)) (dP (dB1 cr_len cd_len (T.z_len) b_len (dpk 2)))) (dsOne (dRet (dStr))) dsNil)
      (dsCons (dFor (passes_of rfl) rfl (diZipB (T.z_zip) (dCons (dGIx T.kt_FORMS T.g_FORMS (dIxL (pv 1) (dP (dInt)))) (dCons (dSlL (pv 1) (dPart (dInt)) dNoPart) dNil))) (dgTup rfl (dgsCons (dgName (i := 3) sc__fault_of.nd) (dgsCons (dgName (i := 4) sc__fault_of.nd) dgsNil2))) (mb := L__fault_of_0) (dsOne (dIfS (dtNot (dTru (dP (dCallVG hgd (ok__is_told T) (hr.mono (by decide)) T.g__is_told T.F__is_told.kp T.b__is_told (takes_of rfl rfl rfl rfl) (dCons (dv 3) (dCons (dv 4) dNil)))))) (dsOne (dRet (dv 3))) dsNil)))
      (dsOne (dRet (dNon)))))))))
theorem ok_look_protocol (T : Tx K mg w) : FnG P w K mg base (L2.CX P w) 5 T.a_look_protocol T.fd_look_protocol ["names", "protocol"] (spV K 2 fn_look_protocol) := by
  have e : spV K 2 fn_look_protocol = spV K ["names", "protocol"].length (runV m_look_protocol N_look_protocol.length) := rfl
  rw [e]
  refine okV2G (sc := ?sc) (bd := ?bd) (m := m_look_protocol) T.F_look_protocol sc_look_protocol ?h1 ?h2 ?hb
  case h1 => conv => lhs; whnf
  case h2 => conv => lhs; whnf
  case hb => exact fun cdv A outer s H E hgd hr => (by exact
    (dsCons (dSet (i := 2) sc_look_protocol.nd (dCallVG hgd (ok__fault_of T) (hr.mono (by decide)) T.g__fault_of T.F__fault_of.kp T.b__fault_of (takes_of rfl rfl rfl rfl) (dCons (dv 0) (dCons (dv 1) dNil))))
      (dsCons (dIfS (dtCmpL op_notN opD_isnt (nomark _) (pv 2) (dP (dNon))) (dsOne (dRaise1 rfl T.nm_NoProtocol (takes_of rfl rfl rfl rfl) (pmk_NoProtocol T.x_NoProtocol hr (dCons (dv 2) dNil)))) dsNil)
      (dsOne (dRet (dBl))))))
theorem ok_show_protocol (T : Tx K mg w) : FnG P w K mg base (L2.CX P w) 1 T.a_show_protocol T.fd_show_protocol ["protocol"] (spV K 1 fn_show_protocol) := by
  have e : spV K 1 fn_show_protocol = spV K ["protocol"].length (runV m_show_protocol N_show_protocol.length) := rfl
  rw [e]
  refine okV2G (sc := ?sc) (bd := ?bd) (m := m_show_protocol) T.F_show_protocol sc_show_protocol ?h1 ?h2 ?hb
  case h1 => conv => lhs; whnf
  case h2 => conv => lhs; whnf
  case hb => exact fun cdv A outer s H E hgd hr => (by exact
    (dsOne (dRet (dJoin (dStr) (dP (dVal (m := C_show_protocol_0) (dCompN (own := [("part", 1)]) rfl sc_show_protocol.nd (diSeq (dv 0)) (blkOk_by (N := N_show_protocol) (sc := defScope s_show_protocol) (by decide +kernel)) (fun _ _ _ _ _ => pg_name (i := 1) sc_show_protocol.nd rfl (by first | exact Or.inl rfl | exact Or.inr rfl)) (fun _ _ _ _ _ => pts_nil) (fun _ _ _ _ _ => (dIf (dtCmpL (op_eqD hr.units) opD_eq (nomark _) (pv 1) (dP (dStr))) (dStr) (dTy1 call_strOf cd_strOf (T.z_str) b_str (dpk 1)))) (ctName (by decide)) (fun _ _ _ => tYes_of))))))))
theorem ok_many_words (T : Tx K mg w) : FnG P w K mg base (L2.CX P w) 1 T.a_many_words T.fd_many_words ["word"] (spV K 1 fn_many_words) := by
  have e : spV K 1 fn_many_words = spV K ["word"].length (runV m_many_words N_many_words.length) := rfl
  rw [e]
  refine okV2G (sc := ?sc) (bd := ?bd) (m := m_many_words) T.F_many_words sc_many_words ?h1 ?h2 ?hb
  case h1 => conv => lhs; whnf
  case h2 => conv => lhs; whnf
  case hb => exact fun cdv A outer s H E hgd hr => (by exact
    (dsOne (dRet (dIf (dtGIn T.kn_FORMS T.g_FORMS (dv 0)) (dOp or_addA opD_add (dB1 cr_len cd_len (T.z_len) b_len (dP (dGIx T.kt_FORMS T.g_FORMS (dv 0)))) (dP (dInt))) (dInt)))))
theorem ok__part_of (T : Tx K mg w) : FnG P w K mg base (L2.CX P w) 2 T.a__part_of T.fd__part_of ["field", "word"] (spV K 2 fn__part_of) := by
  have e : spV K 2 fn__part_of = spV K ["field", "word"].length (runV m__part_of N__part_of.length) := rfl
  rw [e]
  refine okV2G (sc := ?sc) (bd := ?bd) (m := m__part_of) T.F__part_of sc__part_of ?h1 ?h2 ?hb
  case h1 => conv => lhs; whnf
  case h2 => conv => lhs; whnf
  case hb => exact fun cdv A outer s H E hgd hr => (by exact
    (dsCons (dIfS (dtGIn T.kn_BOUNDS T.g_BOUNDS (dv 0)) (dsOne (dRet (dCallVG hgd (ok_figures T) (hr.mono (by decide)) T.g_figures T.F_figures.kp T.b_figures (takes_of rfl rfl rfl rfl) (dCons (dv 1) dNil)))) dsNil)
      (dsCons (dIfS ((dwAnd (dtCmpL (op_eqD hr.units) opD_eq (nomark _) (pv 0) (dP (dStr))) (dwAnd1 (dtCmpL (op_eqD hr.units) opD_eq (nomark _) (pv 1) (dP (dStr))))).pt) (dsOne (dRet (dStr))) dsNil)
      (dsCons (dIfS ((dwAnd (dtCmpL op_in_seq (opD_in false) (by rfl) (pv 0) (dP (dGlobD T.g_LINES T.dp_LINES))) (dwAnd1 (dtNot (dTru (dP (dCallVG hgd (ok_is_name T) (hr.mono (by decide)) T.g_is_name T.F_is_name.kp T.b_is_name (takes_of rfl rfl rfl rfl) (dCons (dv 1) dNil))))))).pt) (dsOne (dRet (dNon))) dsNil)
      (dsOne (dRet (dv 1)))))))
theorem ok_protocol_of (T : Tx K mg w) : FnG P w K mg base (L2.CX P w) 5 T.a_protocol_of T.fd_protocol_of ["words"] (spV K 1 fn_protocol_of) := by
  have e : spV K 1 fn_protocol_of = spV K ["words"].length (runV m_protocol_of N_protocol_of.length) := rfl
  rw [e]
  refine okV2G (sc := ?sc) (bd := ?bd) (m := m_protocol_of) T.F_protocol_of sc_protocol_of ?h1 ?h2 ?hb
  case h1 => conv => lhs; whnf
  case h2 => conv => lhs; whnf
  case hb => exact fun cdv A outer s H E hgd hr => (by exact
    (dsCons (dIfS (dtCmp (op_neD hr.units) opD_ne (nomark _) (dB1 cr_len cd_len (T.z_len) b_len (dpk 0)) (dP (dCallVG hgd (ok_many_words T) (hr.mono (by decide)) T.g_many_words T.F_many_words.kp T.b_many_words (takes_of rfl rfl rfl rfl) (dCons (dIxL (pv 0) (dP (dInt))) dNil)))) (dsOne (dRet (dNon))) dsNil)
      (dsCons (dsCompN (i := 1) (own := [("field", 3), ("word", 4)]) rfl sc_protocol_of.nd (sw_true rfl rfl rfl (by decide +kernel)) (diZipB (T.z_zip) (dCons (dGIx T.kt_FORMS T.g_FORMS (dIxL (pv 0) (dP (dInt)))) (dCons (dSlL (pv 0) (dPart (dInt)) dNoPart) dNil))) (blkOk_by (N := N_protocol_of) (sc := defScope s_protocol_of) (by decide +kernel)) (fun _ _ _ _ _ => pg_tup rfl (pgs_cons (pg_name (i := 3) sc_protocol_of.nd rfl (by first | exact Or.inl rfl | exact Or.inr rfl)) (pgs_cons (pg_name (i := 4) sc_protocol_of.nd rfl (by first | exact Or.inl rfl | exact Or.inr rfl)) pgs_nil))) (fun _ _ _ _ _ => pts_nil) (fun _ _ _ _ _ => (dCallVG hgd (ok__part_of T) (hr.mono (by decide)) T.g__part_of T.F__part_of.kp T.b__part_of takes0 (dCons (dv 3) (dCons (dv 4) dNil)))) (ctTup (is := [3, 4]) (by decide)) (fun _ _ _ => tYes_of))
      (dsCons (dIfS (dtCmp op_in_seq (opD_in false) (by rfl) (dNon) (dpk 1)) (dsOne (dRet (dNon))) dsNil)
      (dsCons (dSet (i := 2) sc_protocol_of.nd (dTup (dCons (dIxL (pv 0) (dP (dInt))) (dStar (dpk 1) dNil))))
      (dsCons (dIfS (dtCmp op_notN opD_isnt (nomark _) (dCallVG hgd (ok__fault_of T) (hr.mono (by decide)) T.g__fault_of T.F__fault_of.kp T.b__fault_of (takes_of rfl rfl rfl rfl) (dCons (dCallVG hgd (ok_lines_of T) (hr.mono (by decide)) T.g_lines_of T.F_lines_of.kp T.b_lines_of (takes_of rfl rfl rfl rfl) (dCons (dv 2) dNil)) (dCons (dv 2) dNil))) (dP (dNon))) (dsOne (dRet (dNon))) dsNil)
      (dsOne (dRet (dv 2)))))))))
theorem ok_read_protocol (T : Tx K mg w) : FnG P w K mg base (L2.CX P w) 6 T.a_read_protocol T.fd_read_protocol ["text"] (spV K 1 fn_read_protocol) := by
  have e : spV K 1 fn_read_protocol = spV K ["text"].length (runV m_read_protocol N_read_protocol.length) := rfl
  rw [e]
  refine okV2G (sc := ?sc) (bd := ?bd) (m := m_read_protocol) T.F_read_protocol sc_read_protocol ?h1 ?h2 ?hb
  case h1 => conv => lhs; whnf
  case h2 => conv => lhs; whnf
  case hb => exact fun cdv A outer s H E hgd hr => (by exact
    (dsCons (dSet (i := 1) sc_read_protocol.nd (dCallVG hgd (ok_protocol_of T) (hr.mono (by decide)) T.g_protocol_of T.F_protocol_of.kp T.b_protocol_of (takes_of rfl rfl rfl rfl) (dCons (dVal (dSplitN (dv 0) (dStr))) dNil)))
      (dsCons (dIfS (dtCmpL op_isN opD_is (nomark _) (pv 1) (dP (dNon))) (dsOne (dRaise1 rfl T.nm_NoText (takes_of rfl rfl rfl rfl) (pmk_NoText T.x_NoText hr (dCons (dInt) dNil)))) dsNil)
      (dsOne (dRet (dv 1))))))
theorem ok__law_box (T : Tx K mg w) : FnG P w K mg base (L2.CX P w) 1 T.a__law_box T.fd__law_box ["_law_script", "_law_k"] (spS K 2 fn__law_box) := by
  have e : spS K 2 fn__law_box = spS K ["_law_script", "_law_k"].length (runS m__law_box N__law_box.length) := rfl
  rw [e]
  refine okS2G (sc := ?sc) (bd := ?bd) (m := m__law_box) T.F__law_box sc__law_box ?h1 ?h2 ?hb
  case h1 => conv => lhs; whnf
  case h2 => conv => lhs; whnf
  case hb => exact fun cdv A outer s H E hgd hr => (by exact
    (dsCons (dSet (i := 2) sc__law_box.nd (dOp or_addA opD_add (dOp or_mulA opD_mul (dInt) (dpk 1)) (dP (dInt))))
      (dsCons (dIfS (dtCmpL op_lt opD_lt (nomark _) (pv 1) (dP (dScrLen (T.z_len) (pv 0)))) (dsOne (dSet (i := 2) sc__law_box.nd (dScrIx (pv 0) (dv 1)))) (dsOne (dIfS (dtCmp op_gt opD_gt (nomark _) (dScrLen (T.z_len) (pv 0)) (dP (dInt))) (dsOne (dSet (i := 2) sc__law_box.nd (dOpL or_addA opD_add (pv 2) (dP (dOp or_mulA opD_mul (dOp op_mod opD_mod (dTy1 call_int1 cd_int (T.z_int) b_int (dP (dScrIx (pv 0) (dOp op_mod opD_mod (dTy1 call_int1 cd_int (T.z_int) b_int (dpk 1)) (dP (dScrLen (T.z_len) (pv 0))))))) (dP (dInt))) (dP (dInt))))))) dsNil)))
      (dsCons (dSet (i := 3) sc__law_box.nd (dOp or_addA opD_add (dOp op_mod opD_mod (dOp or_addA opD_add (dOp or_mulA opD_mul (dOp op_mod opD_mod (dTy1 call_int1 cd_int (T.z_int) b_int (dpk 2)) (dP (dInt))) (dP (dInt))) (dP (dOp or_mulA opD_mul (dInt) (dpk 1)))) (dP (dInt))) (dP (dInt))))
      (dsOne (dRetF (dCons (dIx (dLst (dCons (dInt) (dCons (dv 2) dNil))) (dP (dTy1 call_int1 cd_int (T.z_int) b_int (dP (dCmpL op_ge opD_ge (nomark _) (pv 2) (dP (dOp op_pow opD_pow (dInt) (dP (dInt))))))))) (dCons (dv 3) (dCons (dInt) dNil)))))))))
theorem ok__law_take (T : Tx K mg w) : FnG P w K mg base (L2.CX P w) 1 T.a__law_take T.fd__law_take ["_law_box_here", "_law_many"] (spB K 2 fn__law_take) := by
  have e : spB K 2 fn__law_take = spB K ["_law_box_here", "_law_many"].length (runB m__law_take N__law_take.length) := rfl
  rw [e]
  refine okB2G (sc := ?sc) (bd := ?bd) (m := m__law_take) T.F__law_take sc__law_take ?h1 ?h2 ?hb
  case h1 => conv => lhs; whnf
  case h2 => conv => lhs; whnf
  case hb => exact fun cdv A outer s H E hgd hr => (by exact
    (dsCons (dIfS (dtCmp op_gt opD_gt (nomark _) (dIxL (pv 0) (dP (dInt))) (dP (dInt))) (dsCons (dSet (i := 2) sc__law_take.nd (dOp op_mod opD_mod (dTy1 call_int1 cd_int (T.z_int) b_int (dP (dIxL (pv 0) (dP (dInt))))) (dpk 1)))
      (dsCons (dAsg (dOp op_fdivW opD_div (dIxL (pv 0) (dP (dInt))) (dpk 1)) (dgSet (pv 0) (dInt)))
      (dsOne (dRet (dv 2))))) dsNil)
      (dsCons (dAsg (dOp or_addA opD_add (dIxL (pv 0) (dP (dInt))) (dP (dInt))) (dgSet (pv 0) (dInt)))
      (dsCons (dSet (i := 3) sc__law_take.nd (dOp op_mod opD_mod (dTy1 call_int1 cd_int (T.z_int) b_int (dP (dOp or_mulA opD_mul (dOp or_addA opD_add (dIxL (pv 0) (dP (dInt))) (dP (dOp or_mulA opD_mul (dInt) (dP (dIxL (pv 0) (dP (dInt))))))) (dP (dInt))))) (dP (dInt))))
      (dsCons (dAsg (dOp or_addA opD_add (dOp op_mod opD_mod (dOp or_addA opD_add (dOpL or_mulA opD_mul (pv 3) (dP (dInt))) (dP (dInt))) (dP (dInt))) (dP (dInt))) (dgSet (pv 0) (dInt)))
      (dsOne (dRet (dOp op_mod opD_mod (dOp op_fdivW opD_div (dOp or_addA opD_add (dOpL or_mulA opD_mul (pv 3) (dP (dInt))) (dP (dIxL (pv 0) (dP (dInt))))) (dP (dInt))) (dpk 1)))))))))
theorem ok__law_names (T : Tx K mg w) : FnG P w K mg base (L2.CX P w) 2 T.a__law_names T.fd__law_names ["_law_box_here", "_law_many"] (spBF K 2 fn__law_names) := by
  have e : spBF K 2 fn__law_names = spBF K ["_law_box_here", "_law_many"].length (runBF m__law_names N__law_names.length) := rfl
  rw [e]
  refine okBF2G (sc := ?sc) (bd := ?bd) (m := m__law_names) T.F__law_names sc__law_names ?h1 ?h2 ?hb
  case h1 => conv => lhs; whnf
  case h2 => conv => lhs; whnf
  case hb => exact fun cdv A outer s H E hgd hr => (by exact
    (dsCons (dsN (i := 2) sc__law_names.nd (dLstN (dCons (dStr) (dCons (dStr) (dCons (dStr) (dCons (dStr) (dCons (dStr) (dCons (dStr) (dCons (dStr) (dCons (dStr) dNil))))))))))
      (dsCons (dIfS (dtCmp (op_eqD hr.units) opD_eq (nomark _) (dCallBG hgd (ok__law_take T) (hr.mono (by decide)) T.g__law_take T.F__law_take.kp T.b__law_take (takes_of rfl rfl rfl rfl) (pv 0) (dCons (dInt) dNil)) (dP (dInt))) (dsOne (dRetFN (dCompN (own := [("_law_k", 7)]) rfl sc__law_names.nd (diRng1 (T.z_range) (dCons (dv 1) dNil)) (blkOk_by (N := N__law_names) (sc := defScope s__law_names) (by decide +kernel)) (fun _ _ _ _ _ => pg_name (i := 7) sc__law_names.nd rfl (by first | exact Or.inl rfl | exact Or.inr rfl)) (fun _ _ _ _ _ => pts_nil) (fun _ _ _ _ _ => (PE.imp (pe_bm PySem.F.plainAttrs_list PySem.F.slot_list_pop PySem.F.type_list_pop mt_popAt (pv 2) (dCons (dCallBG hgd (ok__law_take T) (hr.mono (by decide)) T.g__law_take T.F__law_take.kp T.b__law_take takes0 (pv 0) (dCons (dB1 cr_len cd_len (T.z_len) b_len (dpk 2)) dNil)) dNil)) (fun _ _ _ => mut_of mut_popAt))) (ctName (by decide)) (fun _ _ _ => tYes_of)))) dsNil)
      (dsCons (dSet (i := 3) sc__law_names.nd (dStr))
      (dsCons (dSet (i := 4) sc__law_names.nd (dJoin (dStr) (dP (dVal (m := C__law_names_1) (dCompN (own := [("_law_k", 7)]) rfl sc__law_names.nd (diRng1 (T.z_range) (dCons (dCallBG hgd (ok__law_take T) (hr.mono (by decide)) T.g__law_take T.F__law_take.kp T.b__law_take (takes_of rfl rfl rfl rfl) (pv 0) (dCons (dInt) dNil)) dNil)) (blkOk_by (N := N__law_names) (sc := defScope s__law_names) (by decide +kernel)) (fun _ _ _ _ _ => pg_name (i := 7) sc__law_names.nd rfl (by first | exact Or.inl rfl | exact Or.inr rfl)) (fun _ _ _ _ _ => pts_nil) (fun _ _ _ _ _ => (dIxL (pv 3) (dP (dCallBG hgd (ok__law_take T) (hr.mono (by decide)) T.g__law_take T.F__law_take.kp T.b__law_take takes0 (pv 0) (dCons (dInt) dNil))))) (ctName (by decide)) (fun _ _ _ => tYes_of))))))
      (dsCons (dAsg (dTup (dCons (dCallBG hgd (ok__law_take T) (hr.mono (by decide)) T.g__law_take T.F__law_take.kp T.b__law_take (takes_of rfl rfl rfl rfl) (pv 0) (dCons (dOp or_addA opD_add (dB1 cr_len cd_len (T.z_len) b_len (dpk 4)) (dP (dInt))) dNil)) (dCons (dCallBG hgd (ok__law_take T) (hr.mono (by decide)) T.g__law_take T.F__law_take.kp T.b__law_take (takes_of rfl rfl rfl rfl) (pv 0) (dCons (dInt) dNil)) dNil))) (dgTup rfl (dgsCons (dgName (i := 5) sc__law_names.nd) (dgsCons (dgName (i := 6) sc__law_names.nd) dgsNil2))))
      (dsOne (dRetFN (dCompN (own := [("_law_k", 7)]) rfl sc__law_names.nd (diRng1 (T.z_range) (dCons (dv 1) dNil)) (blkOk_by (N := N__law_names) (sc := defScope s__law_names) (by decide +kernel)) (fun _ _ _ _ _ => pg_name (i := 7) sc__law_names.nd rfl (by first | exact Or.inl rfl | exact Or.inr rfl)) (fun _ _ _ _ _ => pts_nil) (fun _ _ _ _ _ => (dOp or_addA opD_add (dOp or_addA opD_add (dSlL (pv 4) dNoPart (dPart (dv 5))) (dP (dIxL (pv 3) (dP (dOp op_mod opD_mod (dOpL or_addA opD_add (pv 6) (dP (dOp or_mulA opD_mul (dInt) (dpk 7)))) (dP (dInt))))))) (dP (dSlL (pv 4) (dPart (dv 5)) dNoPart)))) (ctName (by decide)) (fun _ _ _ => tYes_of))))))))))
theorem ok__law_words (T : Tx K mg w) : FnG P w K mg base (L2.CX P w) 2 T.a__law_words T.fd__law_words ["_law_box_here", "_law_names_here"] (spB K 2 fn__law_words) := by
  have e : spB K 2 fn__law_words = spB K ["_law_box_here", "_law_names_here"].length (runB m__law_words N__law_words.length) := rfl
  rw [e]
  refine okB2G (sc := ?sc) (bd := ?bd) (m := m__law_words) T.F__law_words sc__law_words ?h1 ?h2 ?hb
  case h1 => conv => lhs; whnf
  case h2 => conv => lhs; whnf
  case hb => exact fun cdv A outer s H E hgd hr => (by exact
    (dsCons (dSet (i := 2) sc__law_words.nd (dIx (dLst (dCons (dStr) (dCons (dStr) (dCons (dStr) (dCons (dStr) (dCons (dIxL (pv 1) (dP (dInt))) dNil)))))) (dP (dCallBG hgd (ok__law_take T) (hr.mono (by decide)) T.g__law_take T.F__law_take.kp T.b__law_take (takes_of rfl rfl rfl rfl) (pv 0) (dCons (dInt) dNil)))))
      (dsCons (dSet (i := 3) sc__law_words.nd (dDGetE (hu_of hr) (dDisp (pdCons (k := "clocked") pe_str (dStr) (pdCons (k := "framed") pe_str (dStr) (pdCons (k := "twowire") pe_str (dStr) pdNil)))) (dv 2) (dStr)))
      (dsCons (dsN (i := 4) sc__law_words.nd (dLstN (dCons (dv 2) dNil)))
      (dsCons (dFor (passes_of rfl) rfl (diSigns (dv 3)) (dgName (i := 5) sc__law_words.nd) (mb := L__law_words_0) (dsCons (dSet (i := 6) sc__law_words.nd (dOpL or_addA opD_add (pv 1) (dpk 1)))
      (dsCons (dDispO (i := 7) sc__law_words.nd (pdCons (k := "e") pe_str (dLst (dCons (dStr) (dCons (dStr) dNil))) (pdCons (k := "g") pe_str (dOp or_addA opD_add (dLst (dCons (dStr) dNil)) (dpk 1)) (pdCons (k := "n") pe_str (dLst (dCons (dStr) (dCons (dStr) (dCons (dStr) (dCons (dStr) (dCons (dStr) dNil)))))) (pdCons (k := "f") pe_str (dLst (dCons (dStr) (dCons (dStr) dNil))) pdNil)))))
      (dsCons (dAsg (dTup (dCons (dLst (dCons (dStr) (dCons (dStr) (dCons (dStr) (dCons (dStr) (dCons (dStr) dNil)))))) (dCons (dLst (dCons (dStr) (dCons (dStr) (dCons (dStr) dNil)))) dNil))) (dgTup rfl (dgsCons (dgSetK (hu_of hr) (pv 7) (dStr)) (dgsCons (dgSetK (hu_of hr) (pv 7) (dStr)) dgsNil2))))
      (dsCons (dSetDict (hu_of hr) (pv 7) (dStr) (dLst (dCons (dStr) (dCons (dStr) (dCons (dStr) dNil)))))
      (dsCons (dSet (i := 6) sc__law_words.nd (dGetDict (hu_of hr) (pv 7) (dv 5) (dv 6)))
      (dsCons (dIfS (dtCmp (op_eqD hr.units) opD_eq (nomark _) (dCallBG hgd (ok__law_take T) (hr.mono (by decide)) T.g__law_take T.F__law_take.kp T.b__law_take (takes_of rfl rfl rfl rfl) (pv 0) (dCons (dInt) dNil)) (dP (dInt))) (dsOne (dsN (i := 6) sc__law_words.nd (dLstN (dCons (dStr) (dCons (dStr) (dCons (dStr) (dCons (dStr) (dCons (dStr) (dCons (dStr) (dCons (dStr) dNil)))))))))) dsNil)
      (dsOne (dExpr (PE.imp (pe_bm PySem.F.plainAttrs_list PySem.F.slot_list_append PySem.F.type_list_append mt_append (pv 4) (dCons (dIxL (pv 6) (dP (dCallBG hgd (ok__law_take T) (hr.mono (by decide)) T.g__law_take T.F__law_take.kp T.b__law_take (takes_of rfl rfl rfl rfl) (pv 0) (dCons (dB1 cr_len cd_len (T.z_len) b_len (dpk 6)) dNil)))) dNil)) (fun _ _ _ => mut_of mut_app)))))))))))
      (dsOne (dRet (dSlL (pv 4) dNoPart (dPart (dOp op_sub opD_sub (dB1 cr_len cd_len (T.z_len) b_len (dpk 4)) (dP (dOp op_fdivW opD_div (dCallBG hgd (ok__law_take T) (hr.mono (by decide)) T.g__law_take T.F__law_take.kp T.b__law_take (takes_of rfl rfl rfl rfl) (pv 0) (dCons (dInt) dNil)) (dP (dInt))))))))))))))
theorem ok__law_told (T : Tx K mg w) : FnG P w K mg base (L2.CX P w) 7 T.a__law_told T.fd__law_told ["_law_text"] (spV K 1 fn__law_told) := by
  have e : spV K 1 fn__law_told = spV K ["_law_text"].length (runV m__law_told N__law_told.length) := rfl
  rw [e]
  refine okV2G (sc := ?sc) (bd := ?bd) (m := m__law_told) T.F__law_told sc__law_told ?h1 ?h2 ?hb
  case h1 => conv => lhs; whnf
  case h2 => conv => lhs; whnf
  case hb => exact fun cdv A outer s H E hgd hr => (by exact
    (dsCons (dAsg (dTup (dCons (dNon) (dCons (dInt) dNil))) (dgTup rfl (dgsCons (dgName (i := 1) sc__law_told.nd) (dgsCons (dgName (i := 2) sc__law_told.nd) dgsNil2))))
      (dsCons (dTryP (i := 3) (v := 2) rfl rfl sc__law_told.nd rfl rfl ⟨rfl, by decide, .inl T.x_NoText.gC⟩ (takes_of rfl rfl rfl rfl) T.t_NoText T.x_NoText.te (fun W pn xe tk _ => (dsOne (dSet (i := 1) sc__law_told.nd (dCallVG hgd (ok_read_protocol T) (hr.mono (by decide)) T.g_read_protocol T.F_read_protocol.kp T.b_read_protocol tk (dCons (dv 0) dNil))))) (fun a oe cls d pn hz hf => (pt_fld T.t_NoText T.f_NoText_at hz hf (pv 3))) rfl)
      (dsOne (dRet (dTup (dCons (dv 1) (dCons (dv 2) dNil))))))))
theorem ok__law_lacks (T : Tx K mg w) : FnG P w K mg base (L2.CX P w) 6 T.a__law_lacks T.fd__law_lacks ["_law_names_here", "_law_protocol"] (spV K 2 fn__law_lacks) := by
  have e : spV K 2 fn__law_lacks = spV K ["_law_names_here", "_law_protocol"].length (runV m__law_lacks N__law_lacks.length) := rfl
  rw [e]
  refine okV2G (sc := ?sc) (bd := ?bd) (m := m__law_lacks) T.F__law_lacks sc__law_lacks ?h1 ?h2 ?hb
  case h1 => conv => lhs; whnf
  case h2 => conv => lhs; whnf
  case hb => exact fun cdv A outer s H E hgd hr => (by exact
    (dsCons (dSet (i := 2) sc__law_lacks.nd (dNon))
      (dsCons (dTryP (i := 3) (v := 2) rfl rfl sc__law_lacks.nd rfl rfl ⟨rfl, by decide, .inl T.x_NoProtocol.gC⟩ (takes_of rfl rfl rfl rfl) T.t_NoProtocol T.x_NoProtocol.te (fun W pn xe tk _ => (dsOne (dExpr (dCallVG hgd (ok_look_protocol T) (hr.mono (by decide)) T.g_look_protocol T.F_look_protocol.kp T.b_look_protocol tk (dCons (dv 0) (dCons (dv 1) dNil)))))) (fun a oe cls d pn hz hf => (pt_fld T.t_NoProtocol T.f_NoProtocol_word hz hf (pv 3))) rfl)
      (dsOne (dRet (dv 2))))))
theorem ok__law_lines (T : Tx K mg w) : FnG P w K mg base (L2.CX P w) 1 T.a__law_lines T.fd__law_lines ["_law_protocol"] (spV K 1 fn__law_lines) := by
  have e : spV K 1 fn__law_lines = spV K ["_law_protocol"].length (runV m__law_lines N__law_lines.length) := rfl
  rw [e]
  refine okV2G (sc := ?sc) (bd := ?bd) (m := m__law_lines) T.F__law_lines sc__law_lines ?h1 ?h2 ?hb
  case h1 => conv => lhs; whnf
  case h2 => conv => lhs; whnf
  case hb => exact fun cdv A outer s H E hgd hr => (by exact
    (dsCons (dIfS (dtCmp (op_eqD hr.units) opD_eq (nomark _) (dIxL (pv 0) (dP (dInt))) (dP (dStr))) (dsOne (dRet (dLst (dCons (dIxL (pv 0) (dP (dInt))) dNil)))) dsNil)
      (dsCons (dIfS (dtCmp (op_eqD hr.units) opD_eq (nomark _) (dIxL (pv 0) (dP (dInt))) (dP (dStr))) (dsOne (dRet (dLst (dCons (dIxL (pv 0) (dP (dInt))) (dCons (dIxL (pv 0) (dP (dInt))) dNil))))) dsNil)
      (dsOne (dRet (dOp or_addA opD_add (dLst (dCons (dIxL (pv 0) (dP (dInt))) (dCons (dIxL (pv 0) (dP (dInt))) dNil))) (dP (dVal (dRepN (dCons (dIxL (pv 0) (dP (dInt))) dNil) (dTy1 call_int1 cd_int (T.z_int) b_int (dP (dCmp (op_neD hr.units) opD_ne (nomark _) (dIxL (pv 0) (dP (dInt))) (dP (dStr))))))))))))))
theorem ok_law (T : Tx K mg w) : LawFn P w K mg base T.a_law T.fd_law "_law_script" 8 fn_law := by
  have e : fn_law = runL m_law N_law.length := rfl
  rw [e]
  refine lawFn_of (sc := ?sc) (bd := ?bd) (m := m_law) T.F_law sc_law ?h1 ?h2 ?hb
  case h1 => conv => lhs; whnf
  case h2 => conv => lhs; whnf
  case hb => exact fun cdv s H E hr => (by
    have hgd : callerA.guards = some [] := rfl
    exact
    (dsCons (dFor (passes_of rfl) rfl (diRng1 (T.z_range) (dCons (dBn (call_max2 rfl) cd_max2 (T.z_max) b_max (dCons (dInt) (dCons (dBn (call_min2 rfl) cd_min2 (T.z_min) b_min (dCons (dInt) (dCons (dScrLen (T.z_len) (pv 0)) dNil))) dNil))) dNil)) (dgName (i := 1) sc_law.nd) (mb := L_law_2) (dsCons (dCallStG hgd (i := 2) (ok__law_box T) (hr.mono (by decide)) T.g__law_box T.F__law_box.kp T.b__law_box (takes_of rfl rfl rfl rfl) sc_law.nd (pv 0) (dCons (dv 1) dNil))
      (dsCons (dAsgBFG (kk := 3) (i := 2) hgd (ok__law_names T) (hr.mono (by decide)) T.g__law_names T.F__law_names.kp T.b__law_names (takes_of rfl rfl rfl rfl) sc_law.nd (pv 2) (dCons (dInt) dNil))
      (dsCons (dExpr (PE.imp (pe_bm PySem.F.plainAttrs_list PySem.F.slot_list_append PySem.F.type_list_append mt_append (pv 3) (dCons (dOp or_addA opD_add (dIxL (pv 3) (dP (dInt))) (dP (dOp op_repS1 opD_repS1 (dStr) (dP (dOp op_sub opD_sub (dInt) (dP (dB1 cr_len cd_len (T.z_len) b_len (dP (dIxL (pv 3) (dP (dInt))))))))))) dNil)) (fun _ _ _ => mut_of mut_app)))
      (dsOne (dFor (passes_of rfl) rfl (diRng1 (T.z_range) (dCons (dInt) dNil)) (dgName (i := 4) sc_law.nd) (mb := L_law_1) (dsCons (dSet (i := 5) sc_law.nd (dJoin (dStr) (dP (dCallBG hgd (ok__law_words T) (hr.mono (by decide)) T.g__law_words T.F__law_words.kp T.b__law_words (takes_of rfl rfl rfl rfl) (pv 2) (dCons (dv 3) dNil)))))
      (dsCons (dAsg (dCallVG hgd (ok__law_told T) (hr.mono (by decide)) T.g__law_told T.F__law_told.kp T.b__law_told (takes_of rfl rfl rfl rfl) (dCons (dv 5) dNil)) (dgTup rfl (dgsCons (dgName (i := 6) sc_law.nd) (dgsCons (dgName (i := 7) sc_law.nd) dgsNil2))))
      (dsCons (dIfS (dtCmpL (op_neD hr.units) opD_ne (nomark _) (pv 7) (dP (dInt))) (dsOne (dRet (dBl))) dsNil)
      (dsOne (dIfS (dtCmpL op_notN opD_isnt (nomark _) (pv 6) (dP (dNon))) (dsCons (dSet (i := 8) sc_law.nd (dCallVG hgd (ok__law_lines T) (hr.mono (by decide)) T.g__law_lines T.F__law_lines.kp T.b__law_lines (takes_of rfl rfl rfl rfl) (dCons (dv 6) dNil)))
      (dsCons (dSet (i := 9) sc_law.nd (dOpL or_addA opD_add (pv 8) (dP (dVal (m := C_law_0) (dCompN (own := [("_law_x", 12)]) rfl sc_law.nd (diSeq (dSlL (pv 3) dNoPart (dPart (dInt)))) (blkOk_by (N := N_law) (sc := defScope s_law) (by decide +kernel)) (fun _ _ _ _ _ => pg_name (i := 12) sc_law.nd rfl (by first | exact Or.inl rfl | exact Or.inr rfl)) (fun _ _ _ _ _ => pts_one (dtCmpL op_notIn_seq (opD_in true) (by rfl) (pv 12) (dpk 8))) (fun _ _ _ _ _ => (dv 12)) (ctName (by decide)) (fun _ _ _ q => q))))))
      (dsCons (dFor (passes_of rfl) rfl (diSeq (dTup (dCons (dv 8) (dCons (dTy1 call_tuple_of cd_tuple (T.z_tuple) b_tuple (dP (dVal (dRevN (dpk 9))))) dNil)))) (dgName (i := 10) sc_law.nd) (mb := L_law_0) (dsOne (dIfS (dtCmp op_notBl opD_isntB (nomark _) (dCallVG hgd (ok_look_protocol T) (hr.mono (by decide)) T.g_look_protocol T.F_look_protocol.kp T.b_look_protocol (takes_of rfl rfl rfl rfl) (dCons (dv 10) (dCons (dv 6) dNil))) (dP (dBl))) (dsOne (dRet (dBl))) dsNil)))
      (dsCons (dSet (i := 11) sc_law.nd (dCallBG hgd (ok__law_take T) (hr.mono (by decide)) T.g__law_take T.F__law_take.kp T.b__law_take (takes_of rfl rfl rfl rfl) (pv 2) (dCons (dB1 cr_len cd_len (T.z_len) b_len (dpk 8)) dNil)))
      (dsCons (dIfS (dtCmp (op_neD hr.units) opD_ne (nomark _) (dCallVG hgd (ok__law_lacks T) (hr.mono (by decide)) T.g__law_lacks T.F__law_lacks.kp T.b__law_lacks (takes_of rfl rfl rfl rfl) (dCons (dOp or_addA opD_add (dSlL (pv 8) dNoPart (dPart (dv 11))) (dP (dSlL (pv 8) (dPart (dOpL or_addA opD_add (pv 11) (dP (dInt)))) dNoPart))) (dCons (dv 6) dNil))) (dP (dStr))) (dsOne (dRet (dBl))) dsNil)
      (dsOne (dIfS (dtCmp (op_neD hr.units) opD_ne (nomark _) (dCallVG hgd (ok_show_protocol T) (hr.mono (by decide)) T.g_show_protocol T.F_show_protocol.kp T.b_show_protocol (takes_of rfl rfl rfl rfl) (dCons (dv 6) dNil)) (dpk 5)) (dsOne (dRet (dBl))) dsNil))))))) dsNil)))))))))))
      (dsOne (dRet (dBl)))))
end
end Pf

namespace Pf
open PySem PySem.Spec L2 Dd
theorem fit_of2 {n : Nat} (h : n ≤ 1000000) : fit n = true := decide_eq_true (by omega)
def Bx (bs : List D) : Prop := ∃ a s c : Int, bs = [.int a, .int s, .int c]
theorem take_ok {bs : List D} {m : Int} (hb : Bx bs) (h0 : 0 < m) (h1 : m < 1152921504606846976) : ∃ r bs', fn__law_take bs [.int m] = some (.ok (.int r), bs') ∧ 0 ≤ r ∧ r < m ∧ Bx bs' := by
  obtain ⟨a, s, c, rfl⟩ := hb
  have hm : m.natAbs < 1152921504606846976 := by omega
  by_cases ha : 0 < a
  · refine ⟨a % m, [.int (a / m), .int s, .int c], ?_, Int.emod_nonneg _ (by omega), Int.emod_lt_of_pos _ h0, _, _, _, rfl⟩
    simp [fn__law_take, runB, m__law_take, env0B, mSeq, mIf, mBol, mBin, mBinL, mBind, mLift, mPure, mPeek, mVar, ixD, iI, bolD, mAsg, mCall1, mCallN, intD, modD, iIc, cMod, mStore, mStoreO, mDone, gSet, mOwn, mPut, setD, mRet, mDrop, mStuck, mTru, truD, mOrT, mAndT, mNotT, mAnd, mOr, mNot, mIsi, isiT_eq, typD, lenD, mCons, mTup, mLst, mLstN, mVal, oOr, addD, subD, mulD, mulI, iIc, cMul, ltD, leD, gtD, geD, gTupD, gCons2, gsNil, mCallV, mCallB, mRs, tupleD, mRetF, mChain, mScr, mScrLen, mScrIx, mMut, appD, max2D, min2D, mRng1, mRng2, rngD1, rngD2, rngOk, mItems, itemsD, mAsgN, mParEE, mParEN, mUn, negD, mCallN1, listD, unsE, powD, cPow, divD, cDiv, mFor, mSl, mSlL, slD, mNoPart, mPart, intO, mSlN, mSlNL, slN, mRevN, revO, mParNC, andD, orD, xorD, shrD, shlD, cShr, mStepN, mStepNL, stepO, mCatN, mCatNL, catN, atI, ixN, ha, h0, hm]
  · have hs : ∃ s' : Int, s' = ((s + 104729 * (c + 1)) * 69623) % 2147483647 * 48271 + 30103 := ⟨_, rfl⟩
    refine ⟨_, _, ?_, Int.emod_nonneg ((((s + 104729 * (c + 1)) * 69623) % 2147483647 * 2147483647 + ((((s + 104729 * (c + 1)) * 69623) % 2147483647 * 48271 + 30103) % 2147483629 + 1)) / 8191) (by omega : m ≠ 0), Int.emod_lt_of_pos _ h0, a, (((s + 104729 * (c + 1)) * 69623) % 2147483647 * 48271 + 30103) % 2147483629 + 1, c + 1, rfl⟩
    simp [fn__law_take, runB, m__law_take, env0B, mSeq, mIf, mBol, mBin, mBinL, mBind, mLift, mPure, mPeek, mVar, ixD, iI, bolD, mAsg, mCall1, mCallN, intD, modD, iIc, cMod, mStore, mStoreO, mDone, gSet, mOwn, mPut, setD, mRet, mDrop, mStuck, mTru, truD, mOrT, mAndT, mNotT, mAnd, mOr, mNot, mIsi, isiT_eq, typD, lenD, mCons, mTup, mLst, mLstN, mVal, oOr, addD, subD, mulD, mulI, iIc, cMul, ltD, leD, gtD, geD, gTupD, gCons2, gsNil, mCallV, mCallB, mRs, tupleD, mRetF, mChain, mScr, mScrLen, mScrIx, mMut, appD, max2D, min2D, mRng1, mRng2, rngD1, rngD2, rngOk, mItems, itemsD, mAsgN, mParEE, mParEN, mUn, negD, mCallN1, listD, unsE, powD, cPow, divD, cDiv, mFor, mSl, mSlL, slD, mNoPart, mPart, intO, mSlN, mSlNL, slN, mRevN, revO, mParNC, andD, orD, xorD, shrD, shlD, cShr, mStepN, mStepNL, stepO, mCatN, mCatNL, catN, atI, ixN, ha, h0, hm]
theorem ix_in {ds : List D} {r : Int} (h0 : 0 ≤ r) (h1 : r < ds.length) : ∃ d ∈ ds, atI ds r = some d := by
  have h : r.toNat < ds.length := by omega
  exact ⟨ds[r.toNat], List.getElem_mem h, atI_nat' h0 (List.getElem?_eq_getElem h)⟩
theorem atI_ints {ns : List Int} {k : Int} (h0 : 0 ≤ k) (h1 : k < ns.length) : ∃ v, atI ns k = some v := by
  have h : k.toNat < ns.length := by omega
  exact ⟨ns[k.toNat], atI_nat' h0 (List.getElem?_eq_getElem h)⟩
theorem go_mapA {α : Type} {vs : List Nat} {g : D → M Unit} {te : M D} {ρ : En} (N O : α → D) : ∀ (as : List α), (∀ a ∈ as, ∃ ρ1 ρ3, g (N a) ρ = some (.ok () ρ1) ∧ te ρ1 = some (.ok (O a) ρ3) ∧ unsE ρ3 vs = ρ) → mGo vs g (mPure true) te (as.map N) ρ = some (.ok (as.map O) ρ)
  | [], _ => rfl
  | a :: as, h => by
    obtain ⟨ρ1, ρ3, e1, e2, e3⟩ := h a List.mem_cons_self
    have ih := go_mapA N O as fun x hx => h x (List.mem_cons_of_mem _ hx)
    have t1 : (mPure true : M Bool) ρ1 = some (.ok true ρ1) := rfl
    have e5 : (mBind te fun y => mPure [y]) ρ1 = some (.ok [O a] ρ3) := by rw [bind_is e2]; rfl
    have e6 : mUn_ vs ρ3 = some (.ok () ρ) := by unfold mUn_; rw [e3]
    rw [List.map_cons]
    unfold mGo
    rw [bind_is e1, bind_is t1, if_pos rfl, bind_is e5, bind_is e6, bind_is ih]; rfl
theorem go_box {vs : List Nat} {g : D → M Unit} {te : M D} (E : List D → En) (P : D → Prop) : ∀ (xs : List D) (bs : List D), Bx bs →
    (∀ x ∈ xs, ∀ bs, Bx bs → ∃ y bs' ρ1 ρ3, P y ∧ Bx bs' ∧ g x (E bs) = some (.ok () ρ1) ∧ te ρ1 = some (.ok y ρ3) ∧ unsE ρ3 vs = E bs') →
    ∃ ys bs', Bx bs' ∧ (∀ y ∈ ys, P y) ∧ ys.length = xs.length ∧ mGo vs g (mPure true) te xs (E bs) = some (.ok ys (E bs'))
  | [], bs, hb, _ => ⟨[], bs, hb, fun _ h => (by cases h), rfl, rfl⟩
  | x :: xs, bs, hb, h => by
    obtain ⟨y, bs1, ρ1, ρ3, p, hb1, e1, e2, e3⟩ := h x List.mem_cons_self bs hb
    obtain ⟨ys, bs', hb', q, l, ih⟩ := go_box E P xs bs1 hb1 fun z hz => h z (List.mem_cons_of_mem _ hz)
    refine ⟨y :: ys, bs', hb', fun z hz => (List.mem_cons.mp hz).elim (fun e => e ▸ p) (q z), by rw [List.length_cons, List.length_cons, l], ?_⟩
    have t1 : (mPure true : M Bool) ρ1 = some (.ok true ρ1) := rfl
    have e5 : (mBind te fun y => mPure [y]) ρ1 = some (.ok [y] ρ3) := by rw [bind_is e2]; rfl
    have e6 : mUn_ vs ρ3 = some (.ok () (E bs')) ∨ mUn_ vs ρ3 = some (.ok () (E bs1)) := .inr (by unfold mUn_; rw [e3])
    have e6 : mUn_ vs ρ3 = some (.ok () (E bs1)) := by unfold mUn_; rw [e3]
    unfold mGo
    rw [bind_is e1, bind_is t1, if_pos rfl, bind_is e5, bind_is e6, bind_is ih]; rfl
theorem rngL_len (n : Nat) : (rngL 0 (n : Int)).length = n := by rw [rngL_length]; omega
theorem strOk_of (s : String) : PyData.strOk (Str.ofString s) = true := by
  unfold PyData.strOk
  rw [PySem.Str.ofString_eq_toList, Array.all_eq_true_iff_forall_mem]
  intro c hc
  simp at hc
  obtain ⟨x, _, rfl⟩ := hc
  have := x.valid
  refine decide_eq_true ?_
  show x.val.toNat < 1114112
  rcases this with h | h <;> omega
theorem sh_str (s : String) : SeqAt.shaped (.str (Str.ofString s)) = true := by simp [SeqAt.shaped, PyData.canLay0, PyData.depth, strOk_of]
theorem eq_str (s : String) : eqD (.str (Str.ofString s)) (.str (Str.ofString s)) = some (.bool true) := by
  have e : PyData.eqv (.str (Str.ofString s)) (.str (Str.ofString s)) = true := by simp [PyData.eqv]
  simp [eqD, sh_str, e]
theorem eqS (a b : Str) (ha : PyData.strOk a = true) (hb : PyData.strOk b = true) : eqD (.str a) (.str b) = some (.bool (a == b)) := by
  have e : PyData.eqv (.str a) (.str b) = (a == b) := by simp [PyData.eqv]
  simp [eqD, SeqAt.shaped, PyData.canLay0, PyData.depth, ha, hb, e]
theorem eqF {a b : String} (h : (Str.ofString a == Str.ofString b) = false) : eqD (.str (Str.ofString a)) (.str (Str.ofString b)) = some (.bool false) := by rw [eqS _ _ (strOk_of _) (strOk_of _), h]

theorem box_ok (ns : List Int) (k : Int) (h0 : 0 ≤ k) (h1 : k < 1000) : ∃ bs, fn__law_box ns [.int k] = some (.ok bs) ∧ Bx bs := by
  have hk : (k.natAbs < 18446744073709551616) := by omega
  have z0 : ∀ v, atI [PyData.int 0, .int v] 0 = some (.int 0) := fun _ => rfl
  have z1 : ∀ v, atI [PyData.int 0, .int v] 1 = some (.int v) := fun _ => rfl
  by_cases h : k < ns.length
  · obtain ⟨v, e⟩ := atI_ints h0 h
    by_cases hv : 1000000000000000000 ≤ v <;> simp [fn__law_box, runS, m__law_box, env0S, mSeq, mIf, mBol, mBin, mBinL, mBind, mLift, mPure, mPeek, mVar, ixD, iI, bolD, mAsg, mCall1, mCallN, intD, modD, iIc, cMod, mStore, mStoreO, mDone, gSet, mOwn, mPut, setD, mRet, mDrop, mStuck, mTru, truD, mOrT, mAndT, mNotT, mAnd, mOr, mNot, mIsi, isiT_eq, typD, lenD, mCons, mTup, mLst, mLstN, mVal, oOr, addD, subD, mulD, mulI, iIc, cMul, ltD, leD, gtD, geD, gTupD, gCons2, gsNil, mCallV, mCallB, mRs, tupleD, mRetF, mChain, mScr, mScrLen, mScrIx, mMut, appD, max2D, min2D, mRng1, mRng2, rngD1, rngD2, rngOk, mItems, itemsD, mAsgN, mParEE, mParEN, mUn, negD, mCallN1, listD, unsE, powD, cPow, divD, cDiv, mFor, mSl, mSlL, slD, mNoPart, mPart, intO, mSlN, mSlNL, slN, mRevN, revO, mParNC, andD, orD, xorD, shrD, shlD, cShr, mStepN, mStepNL, stepO, mCatN, mCatNL, catN, hk, h, e, hv, fit, z0, z1] <;> exact ⟨_, _, _, rfl⟩
  · by_cases hn : 0 < ns.length
    · have q0 : 0 ≤ k % (ns.length : Int) := Int.emod_nonneg _ (by omega)
      have q1 : k % (ns.length : Int) < ns.length := Int.emod_lt_of_pos _ (by omega)
      obtain ⟨v, e⟩ := atI_ints q0 q1
      by_cases hv : 1000000000000000000 ≤ 6353 * k + 19 + v % 2147483629 * 69623 <;> simp [fn__law_box, runS, m__law_box, env0S, mSeq, mIf, mBol, mBin, mBinL, mBind, mLift, mPure, mPeek, mVar, ixD, iI, bolD, mAsg, mCall1, mCallN, intD, modD, iIc, cMod, mStore, mStoreO, mDone, gSet, mOwn, mPut, setD, mRet, mDrop, mStuck, mTru, truD, mOrT, mAndT, mNotT, mAnd, mOr, mNot, mIsi, isiT_eq, typD, lenD, mCons, mTup, mLst, mLstN, mVal, oOr, addD, subD, mulD, mulI, iIc, cMul, ltD, leD, gtD, geD, gTupD, gCons2, gsNil, mCallV, mCallB, mRs, tupleD, mRetF, mChain, mScr, mScrLen, mScrIx, mMut, appD, max2D, min2D, mRng1, mRng2, rngD1, rngD2, rngOk, mItems, itemsD, mAsgN, mParEE, mParEN, mUn, negD, mCallN1, listD, unsE, powD, cPow, divD, cDiv, mFor, mSl, mSlL, slD, mNoPart, mPart, intO, mSlN, mSlNL, slN, mRevN, revO, mParNC, andD, orD, xorD, shrD, shlD, cShr, mStepN, mStepNL, stepO, mCatN, mCatNL, catN, hk, h, hn, e, hv, fit, z0, z1] <;> exact ⟨_, _, _, rfl⟩
    · by_cases hv : 1000000000000000000 ≤ 6353 * k + 19 <;> simp [fn__law_box, runS, m__law_box, env0S, mSeq, mIf, mBol, mBin, mBinL, mBind, mLift, mPure, mPeek, mVar, ixD, iI, bolD, mAsg, mCall1, mCallN, intD, modD, iIc, cMod, mStore, mStoreO, mDone, gSet, mOwn, mPut, setD, mRet, mDrop, mStuck, mTru, truD, mOrT, mAndT, mNotT, mAnd, mOr, mNot, mIsi, isiT_eq, typD, lenD, mCons, mTup, mLst, mLstN, mVal, oOr, addD, subD, mulD, mulI, iIc, cMul, ltD, leD, gtD, geD, gTupD, gCons2, gsNil, mCallV, mCallB, mRs, tupleD, mRetF, mChain, mScr, mScrLen, mScrIx, mMut, appD, max2D, min2D, mRng1, mRng2, rngD1, rngD2, rngOk, mItems, itemsD, mAsgN, mParEE, mParEN, mUn, negD, mCallN1, listD, unsE, powD, cPow, divD, cDiv, mFor, mSl, mSlL, slD, mNoPart, mPart, intO, mSlN, mSlNL, slN, mRevN, revO, mParNC, andD, orD, xorD, shrD, shlD, cShr, mStepN, mStepNL, stepO, mCatN, mCatNL, catN, hk, h, hn, hv, fit, z0, z1] <;> exact ⟨_, _, _, rfl⟩

/-! ### loops and comprehensions once more -/
/-- a comprehension over other things than data, with an if -/
theorem go_fm {α : Type} {vs : List Nat} {g : D → M Unit} {tt : M Bool} {te : M D} {ρ : En} (N : α → D) (O : α → List D) : ∀ (as : List α),
    (∀ a ∈ as, ∃ ρ1 ρ2 k, g (N a) ρ = some (.ok () ρ1) ∧ tt ρ1 = some (.ok k ρ2) ∧ (k = true → ∃ y ρ3, te ρ2 = some (.ok y ρ3) ∧ unsE ρ3 vs = ρ ∧ O a = [y]) ∧ (k = false → unsE ρ2 vs = ρ ∧ O a = [])) →
    mGo vs g tt te (as.map N) ρ = some (.ok (as.flatMap O) ρ)
  | [], _ => rfl
  | a :: as, h => by
    obtain ⟨ρ1, ρ2, k, e1, e2, h3, h4⟩ := h a List.mem_cons_self
    have ih := go_fm (vs := vs) (g := g) (tt := tt) (te := te) N O as fun x hx => h x (List.mem_cons_of_mem _ hx)
    rw [List.map_cons, List.flatMap_cons]
    unfold mGo
    rw [bind_is e1, bind_is e2]
    cases k with
    | true =>
      obtain ⟨y, ρ3, e3, e4, e5⟩ := h3 rfl
      have e6 : (mBind te fun y => mPure [y]) ρ2 = some (.ok [y] ρ3) := by rw [bind_is e3]; rfl
      have e7 : mUn_ vs ρ3 = some (.ok () ρ) := by unfold mUn_; rw [e4]
      rw [if_pos rfl, bind_is e6, bind_is e7, bind_is ih, e5]; rfl
    | false =>
      obtain ⟨e4, e5⟩ := h4 rfl
      have e6 : (mPure [] : M (List D)) ρ2 = some (.ok [] ρ2) := rfl
      have e7 : mUn_ vs ρ2 = some (.ok () ρ) := by unfold mUn_; rw [e4]
      rw [if_neg (by simp), bind_is e6, bind_is e7, bind_is ih, e5]; rfl
theorem rngL_nat (n : Nat) : rngL 0 (n : Int) = (List.range n).map fun i => PyData.int (i : Nat) := by
  unfold rngL
  rw [show ((n : Int) - 0).toNat = n by omega]
  apply List.map_congr_left
  intro i _
  rw [Int.zero_add]
theorem cut_take (M : List D) (b : Nat) : cutL M none (some (b : Nat)) = M.take b := by
  unfold cutL HT.sIx
  dsimp only
  rw [if_neg (by omega), Int.toNat_natCast, List.drop_zero]
  rcases Nat.lt_or_ge M.length b with z | z
  · rw [Nat.min_eq_right (Nat.le_of_lt z), List.take_of_length_le (by simp), List.take_of_length_le (Nat.le_of_lt z)]
  · rw [Nat.min_eq_left z, Nat.sub_zero]
theorem cut_drop (M : List D) (a : Nat) : cutL M (some (a : Nat)) none = M.drop a := by
  unfold cutL HT.sIx
  dsimp only
  rw [if_neg (by omega), Int.toNat_natCast]
  rcases Nat.lt_or_ge M.length a with q | q
  · rw [Nat.min_eq_right (Nat.le_of_lt q), List.drop_of_length_le (Nat.le_refl _), List.drop_of_length_le (Nat.le_of_lt q), List.take_nil]
  · rw [Nat.min_eq_left q, List.take_of_length_le (by rw [List.length_drop]; exact Nat.le_refl _)]
mutual
def sz : D → Nat
  | .tuple xs => szs xs + 1
  | .list xs => szs xs + 1
  | _ => 1
def szs : List D → Nat
  | [] => 0
  | x :: xs => sz x + szs xs
end
theorem isi_str (d : D) : isiT "str" d = match d with | .str _ => true | _ => false := by
  cases d <;> simp [mSeq, mIf, mBol, mBin, mBinL, mBind, mLift, mPure, mPeek, mVar, ixD, iI, bolD, mAsg, mCall1, mCallN, intD, modD, iIc, cMod, mStore, mStoreO, mDone, gSet, mOwn, mPut, setD, mRet, mDrop, mStuck, mTru, truD, mOrT, mAndT, mNotT, mAnd, mOr, mNot, mIsi, isiT_eq, typD, lenD, mCons, mTup, mLst, mLstN, mVal, oOr, addD, subD, mulD, mulI, iIc, cMul, ltD, leD, gtD, geD, gTupD, gCons2, gsNil, mCallV, mCallB, mRs, tupleD, mRetF, mChain, mScr, mScrLen, mScrIx, mMut, appD, max2D, min2D, mRng1, mRng2, rngD1, rngD2, rngOk, mItems, itemsD, mAsgN, mParEE, mParEN, mUn, negD, mCallN1, listD, unsE, powD, cPow, divD, cDiv, mFor, mSl, mSlL, slD, mNoPart, mPart, intO, mSlN, mSlNL, slN, mRevN, revO, mParNC, andD, orD, xorD, shrD, shlD, cShr, mStepN, mStepNL, stepO, mCatN, mCatNL, catN, isi_int_NoneType, isi_int_bool, isi_int_int, isi_int_str, isi_int_list, isi_int_tuple, isi_int_dict, isi_bool_NoneType, isi_bool_bool, isi_bool_int, isi_bool_str, isi_bool_list, isi_bool_tuple, isi_bool_dict, isi_str_NoneType, isi_str_bool, isi_str_int, isi_str_str, isi_str_list, isi_str_tuple, isi_str_dict, isi_list_NoneType, isi_list_bool, isi_list_int, isi_list_str, isi_list_list, isi_list_tuple, isi_list_dict, isi_tuple_NoneType, isi_tuple_bool, isi_tuple_int, isi_tuple_str, isi_tuple_list, isi_tuple_tuple, isi_tuple_dict, isi_dict_NoneType, isi_dict_bool, isi_dict_int, isi_dict_str, isi_dict_list, isi_dict_tuple, isi_dict_dict, isi_int_dictT, isi_bool_dictT, isi_str_dictT, isi_list_dictT, isi_tuple_dictT]
def isW : D → Bool
  | .int _ => true
  | _ => false
theorem whole_ok (d : D) : fn_is_whole [d] = some (.ok (.bool (isW d))) := by
  cases d <;> simp [fn_is_whole, runV, m_is_whole, env0, mSeq, mIf, mBol, mBin, mBinL, mBind, mLift, mPure, mPeek, mVar, ixD, iI, bolD, mAsg, mCall1, mCallN, intD, modD, iIc, cMod, mStore, mStoreO, mDone, gSet, mOwn, mPut, setD, mRet, mDrop, mStuck, mTru, truD, mOrT, mAndT, mNotT, mAnd, mOr, mNot, mIsi, isiT_eq, typD, lenD, mCons, mTup, mLst, mLstN, mVal, oOr, addD, subD, mulD, mulI, iIc, cMul, ltD, leD, gtD, geD, gTupD, gCons2, gsNil, mCallV, mCallB, mRs, tupleD, mRetF, mChain, mScr, mScrLen, mScrIx, mMut, appD, max2D, min2D, mRng1, mRng2, rngD1, rngD2, rngOk, mItems, itemsD, mAsgN, mParEE, mParEN, mUn, negD, mCallN1, listD, unsE, powD, cPow, divD, cDiv, mFor, mSl, mSlL, slD, mNoPart, mPart, intO, mSlN, mSlNL, slN, mRevN, revO, mParNC, andD, orD, xorD, shrD, shlD, cShr, mStepN, mStepNL, stepO, mCatN, mCatNL, catN, isi_int_NoneType, isi_int_bool, isi_int_int, isi_int_str, isi_int_list, isi_int_tuple, isi_int_dict, isi_bool_NoneType, isi_bool_bool, isi_bool_int, isi_bool_str, isi_bool_list, isi_bool_tuple, isi_bool_dict, isi_str_NoneType, isi_str_bool, isi_str_int, isi_str_str, isi_str_list, isi_str_tuple, isi_str_dict, isi_list_NoneType, isi_list_bool, isi_list_int, isi_list_str, isi_list_list, isi_list_tuple, isi_list_dict, isi_tuple_NoneType, isi_tuple_bool, isi_tuple_int, isi_tuple_str, isi_tuple_list, isi_tuple_tuple, isi_tuple_dict, isi_dict_NoneType, isi_dict_bool, isi_dict_int, isi_dict_str, isi_dict_list, isi_dict_tuple, isi_dict_dict, isi_int_dictT, isi_bool_dictT, isi_str_dictT, isi_list_dictT, isi_tuple_dictT, mIsi, isW]
def lowC (c : Nat) : Bool := decide (97 ≤ c) && decide (c ≤ 122)
def okN (z : Str) : Bool := (decide (1 ≤ z.length) && decide (z.length ≤ 6)) && z.cps.toList.all lowC
theorem sgn_le (c k : Nat) : (!decide ([c] < [k])) = decide (k ≤ c) := by
  have : ([c] < [k]) ↔ c < k := by rw [List.cons_lt_cons_iff]; simp
  by_cases h : c < k
  · rw [decide_eq_true (this.mpr h), decide_eq_false (by omega)]; rfl
  · rw [decide_eq_false (fun z => h (this.mp z)), decide_eq_true (by omega)]; rfl
theorem leS_a (c : Nat) : leS (.str "a") (.str ⟨#[c]⟩) = some (.bool (decide (97 ≤ c))) := by
  show some (PyData.bool (!decide ([c] < ((("a" : String) : Str)).cps.toList))) = _
  rw [show ((("a" : String) : Str)).cps.toList = [97] by decide +kernel, sgn_le]
theorem leS_z (c : Nat) : leS (.str ⟨#[c]⟩) (.str "z") = some (.bool (decide (c ≤ 122))) := by
  show some (PyData.bool (!decide (((("z" : String) : Str)).cps.toList < [c]))) = _
  rw [show ((("z" : String) : Str)).cps.toList = [122] by decide +kernel, sgn_le]
theorem bools_map {α : Type} (f : α → Bool) : ∀ as : List α, toBools (as.map fun a => PyData.bool (f a)) = some (as.map f)
  | [] => rfl
  | a :: as => by
    show (toBools (as.map fun a => PyData.bool (f a))).map (f a :: ·) = _
    rw [bools_map f as]; rfl
theorem all_m {α : Type} (f : α → Bool) (as : List α) : allD [.list (as.map fun a => PyData.bool (f a))] = some (.bool (as.all f)) := by
  show (toBools (as.map fun a => PyData.bool (f a))).map (fun bs => PyData.bool (bs.all id)) = _
  rw [bools_map]
  show some (PyData.bool ((as.map f).all id)) = _
  rw [List.all_map]; rfl
theorem len_str {z : Str} (h : z.length ≤ 1000000) : lenD [.str z] = some (.int (z.length : Nat)) := by
  have f : fit z.length = true := fit_of2 h
  show (if fit z.length = true then some (PyData.int (z.length : Nat)) else none) = _
  rw [if_pos f]
def tfit : D → Prop
  | .str z => z.length ≤ 1000000
  | .tuple ds => ds.length ≤ 1000000
  | _ => True
/-! ### the class of things; weights -/
def asc (z : Str) : Prop := ∀ c ∈ z.cps.toList, c < 128
inductive Gd : Nat → D → Prop
  | non (n : Nat) : Gd n .none
  | bool (n : Nat) (b : Bool) : Gd n (.bool b)
  | int (n : Nat) (i : Int) : i.natAbs ≤ 1000000000000 → Gd n (.int i)
  | str (n : Nat) (z : Str) : asc z → Gd n (.str z)
  | tup (n : Nat) (ds : List D) : (∀ d ∈ ds, Gd n d) → Gd (n + 1) (.tuple ds)
theorem asc_ok {z : Str} (h : asc z) : PyData.strOk z = true := by
  unfold PyData.strOk
  rw [Array.all_eq_true_iff_forall_mem]
  intro c hc
  have := h c (Array.mem_toList_iff.mpr hc)
  exact decide_eq_true (by omega)
mutual
def wt : D → Nat
  | .tuple xs => wts xs + 4
  | .str z => 10 * z.length + 4
  | .int _ => 24
  | _ => 8
def wts : List D → Nat
  | [] => 0
  | x :: xs => wt x + 2 + wts xs
end
theorem wts_len : ∀ xs : List D, 2 * xs.length ≤ wts xs
  | [] => Nat.zero_le _
  | x :: xs => by
    have := wts_len xs
    simp only [wts, List.length_cons]; omega
theorem wts_mem : ∀ {xs : List D} {x : D}, x ∈ xs → wt x ≤ wts xs
  | [], _, h => by cases h
  | y :: ys, x, h => by
    simp only [wts]
    rcases List.mem_cons.mp h with rfl | h
    · omega
    · have := wts_mem h; omega
theorem wt_tup (ds : List D) : wt (.tuple ds) = wts ds + 4 := by simp [wt]
/-! ### spoiling: what stays within the class and a weight -/
theorem if_f {c : M Bool} {a b : M Fl} {ρ ρ1 : En} (h : c ρ = some (.ok false ρ1)) : mIf c a b ρ = b ρ1 := by unfold mIf; rw [bind_is h]; rfl
theorem if_t {c : M Bool} {a b : M Fl} {ρ ρ1 : En} (h : c ρ = some (.ok true ρ1)) : mIf c a b ρ = a ρ1 := by unfold mIf; rw [bind_is h]; rfl
theorem seq_rt {m1 m2 : M Fl} {ρ ρ' : En} {d : D} (h : m1 ρ = some (.ok (.rt d) ρ')) : mSeq m1 m2 ρ = some (.ok (.rt d) ρ') := bind_is h
/-- of depth n and weight W -/
structure Gw (n W : Nat) (d : D) : Prop where
  gd : Gd n d
  wt : wt d ≤ W
/-- a tuple of such -/
structure Gs (n W : Nat) (ds : List D) : Prop where
  gd : ∀ d ∈ ds, Gd n d
  wt : wts ds ≤ W
theorem Gs.tup {n W : Nat} {ds : List D} (h : Gs n W ds) : Gw (n + 1) (W + 4) (.tuple ds) := ⟨.tup n ds h.gd, by rw [wt_tup]; have := h.wt; omega⟩
theorem Gs.nil {n : Nat} : Gs n 0 [] := ⟨fun _ h => (by cases h), Nat.le_refl _⟩
theorem Gs.cons {n W V : Nat} {d : D} {ds : List D} (h : Gw n W d) (t : Gs n V ds) : Gs n (W + 2 + V) (d :: ds) := ⟨fun x hx => (List.mem_cons.mp hx).elim (fun e => e ▸ h.gd) (t.gd x), by
  simp only [wts]
  have := h.wt
  have := t.wt
  omega⟩
theorem Gs.len {n W : Nat} {ds : List D} (h : Gs n W ds) : 2 * ds.length ≤ W := Nat.le_trans (wts_len ds) h.wt
theorem Gs.mem {n W : Nat} {ds : List D} {d : D} (h : Gs n W ds) (hd : d ∈ ds) : Gw n W d := ⟨h.gd d hd, Nat.le_trans (wts_mem hd) h.wt⟩
theorem wts_sub {a b : List D} (h : a.Sublist b) : wts a ≤ wts b := by
  induction h with
  | slnil => exact Nat.le_refl _
  | cons x _ ih => simp only [wts]; omega
  | cons_cons x _ ih => simp only [wts]; omega
theorem cut_sub (ds : List D) (lo hi : Option Int) : (cutL ds lo hi).Sublist ds := (List.take_sublist _ _).trans (List.drop_sublist _ _)
theorem Gs.cut {n W : Nat} {ds : List D} (h : Gs n W ds) (lo hi : Option Int) : Gs n W (cutL ds lo hi) := ⟨fun d hd => h.gd d ((cut_sub ds lo hi).subset hd), Nat.le_trans (wts_sub (cut_sub ds lo hi)) h.wt⟩
theorem Gs.sub {n W : Nat} {a ds : List D} (h : Gs n W ds) (s : a.Sublist ds) : Gs n W a := ⟨fun d hd => h.gd d (s.subset hd), Nat.le_trans (wts_sub s) h.wt⟩
theorem ix_list {ds : List D} {r : Int} (h0 : 0 ≤ r) (h1 : r < ds.length) : ∃ d ∈ ds, ixD (.list ds) (.int r) = some d := ix_in h0 h1
theorem add_str {x y : Str} (h : x.length + y.length ≤ 1000000) : addD (.str x) (.str y) = some (.str (x ++ y)) := by
  have f : fit (x.length + y.length) = true := fit_of2 h
  show (if fit (x.length + y.length) = true then some (PyData.str (x ++ y)) else none) = _
  rw [if_pos f]
theorem asc_app {x y : Str} (hx : asc x) (hy : asc y) : asc (x ++ y) := fun c hc => by
  have e : (x ++ y).cps.toList = x.cps.toList ++ y.cps.toList := by show (x.cps ++ y.cps).toList = _; rw [Array.toList_append]
  rw [e] at hc
  exact (List.mem_append.mp hc).elim (hx c) (hy c)
theorem okN_asc {z : Str} (h : okN z = true) : asc z ∧ z.length ≤ 6 := by
  unfold okN at h
  rw [Bool.and_eq_true, Bool.and_eq_true] at h
  refine ⟨fun c hc => ?_, of_decide_eq_true h.1.2⟩
  have := List.all_eq_true.mp h.2 c hc
  unfold lowC at this
  rw [Bool.and_eq_true] at this
  have := of_decide_eq_true this.2
  omega
theorem cutS_two (z : Str) (a : Nat) (b : Nat) (h : a ≤ b) : (cutS z none (some (a : Nat))).length + (cutS z (some (b : Nat)) none).length ≤ z.length := by
  unfold cutS
  show (List.toArray _).size + (List.toArray _).size ≤ z.length
  have e : z.cps.toList.length = z.length := by simp [Str.length]
  rw [List.size_toArray, List.size_toArray, List.length_take, List.length_take, List.length_drop, List.length_drop, e]
  unfold HT.sIx
  dsimp only
  rw [if_neg (by omega), if_neg (by omega), Int.toNat_natCast, Int.toNat_natCast]
  omega
/-! ### names -/
def lowS (s : Str) : Prop := ∀ c ∈ s.cps.toList, lowC c = true
theorem low_app {x y : Str} (hx : lowS x) (hy : lowS y) : lowS (x ++ y) := fun c hc => by
  have e : (x ++ y).cps.toList = x.cps.toList ++ y.cps.toList := by show (x.cps ++ y.cps).toList = _; rw [Array.toList_append]
  rw [e] at hc
  exact (List.mem_append.mp hc).elim (hx c) (hy c)
theorem low_of {s : String} (h : ((Str.ofString s).cps.toList.all lowC) = true) : lowS (Str.ofString s) := fun c hc => List.all_eq_true.mp h c hc
theorem low_cut {z : Str} (h : lowS z) (lo hi : Option Int) : lowS (cutS z lo hi) := fun c hc => by
  unfold cutS at hc
  rw [List.toList_toArray] at hc
  exact h c (List.mem_of_mem_drop (List.mem_of_mem_take hc))
theorem low_join : ∀ ys : List Str, (∀ y ∈ ys, lowS y) → lowS (Str.join (Str.ofString "") ys)
  | [], _ => fun c hc => by cases hc
  | [x], h => h x List.mem_cons_self
  | x :: y :: r, h => by
    show lowS (x ++ Str.ofString "" ++ Str.join (Str.ofString "") (y :: r))
    exact low_app (low_app (h x List.mem_cons_self) (low_of (by decide +kernel))) (low_join (y :: r) fun z hz => h z (List.mem_cons_of_mem _ hz))
theorem okN_of {z : Str} (h : lowS z) (h1 : 1 ≤ z.length) (h6 : z.length ≤ 6) : okN z = true := by
  unfold okN
  rw [decide_eq_true h1, decide_eq_true h6]
  exact List.all_eq_true.mpr h
def abc : Str := "abcdefghijklmnopqrstuvwxyz"
theorem abc_len : abc.length = 26 := by decide +kernel
theorem abc_tab : ∀ j : Fin 26, abc.cps.toList[j.val]? = some (97 + j.val) := by decide +kernel
def ltr (j : Int) : Str := ⟨#[97 + j.toNat]⟩
theorem abc_at {r : Int} (h0 : 0 ≤ r) (h1 : r < 26) : ixD (.str abc) (.int r) = some (.str (ltr r)) := by
  have hl := abc_len
  have e : atI abc.cps.toList r = some (97 + r.toNat) := atI_nat' h0 (abc_tab ⟨r.toNat, by omega⟩)
  have f : fit abc.length = true := fit_of2 (by omega)
  show (if fit abc.length = true then (atI abc.cps.toList r).map fun c => PyData.str ⟨#[c]⟩ else none) = _
  rw [f, e]; rfl
theorem ltr_low {r : Int} (h0 : 0 ≤ r) (h1 : r < 26) : lowS (ltr r) := fun c hc => by
  have : c = 97 + r.toNat := by simpa [ltr] using hc
  rw [this]
  unfold lowC
  rw [decide_eq_true (by omega), decide_eq_true (by omega)]; rfl
def L1 (d : D) : Prop := ∃ z : Str, d = .str z ∧ lowS z ∧ z.length = 1
theorem strs_of : ∀ ys : List D, (∀ y ∈ ys, L1 y) → ∃ zs : List Str, ys = zs.map PyData.str ∧ (∀ z ∈ zs, lowS z ∧ z.length = 1) ∧ zs.length = ys.length
  | [], _ => ⟨[], rfl, fun z hz => (by cases hz), rfl⟩
  | y :: ys, h => by
    obtain ⟨z, rfl, h1, h2⟩ := h y List.mem_cons_self
    obtain ⟨zs, rfl, h3, h4⟩ := strs_of ys fun x hx => h x (List.mem_cons_of_mem _ hx)
    exact ⟨z :: zs, rfl, fun x hx => (List.mem_cons.mp hx).elim (fun e => e ▸ ⟨h1, h2⟩) (h3 x), by rw [List.length_cons, List.length_cons, h4]⟩
theorem strsD_map : ∀ zs : List Str, strsD (zs.map PyData.str) = some zs
  | [] => rfl
  | z :: zs => by
    show (strsD (zs.map PyData.str)).map (z :: ·) = _
    rw [strsD_map zs]; rfl
theorem sum_ones : ∀ zs : List Str, (∀ z ∈ zs, lowS z ∧ z.length = 1) → (zs.map (·.length)).sum = zs.length
  | [], _ => rfl
  | z :: zs, h => by
    have h1 := (h z List.mem_cons_self).2
    have h2 := sum_ones zs fun x hx => h x (List.mem_cons_of_mem _ hx)
    rw [List.map_cons, List.sum_cons, List.length_cons, h1, h2]; omega
theorem joinL_ok {zs : List Str} (h : ∀ z ∈ zs, lowS z ∧ z.length = 1) (hl : zs.length ≤ 100) : ∃ st, joinS "" (.list (zs.map PyData.str)) = some (.str st) ∧ lowS st ∧ st.length ≤ zs.length := by
  have hs := sum_ones zs h
  have e0 : ((("" : String) : Str)).length = 0 := rfl
  have hj : joinOk "" zs = true := decide_eq_true (by rw [hs, e0]; omega)
  have e1 : joinS "" (.list (zs.map PyData.str)) = some (.str (Txt.join "" zs)) := by
    show (strsD (zs.map PyData.str)).bind (fun ys => if joinOk "" ys = true then some (PyData.str (Txt.join "" ys)) else none) = _
    rw [strsD_map]
    show (if joinOk "" zs = true then some (PyData.str (Txt.join "" zs)) else none) = _
    rw [if_pos hj]
  have e2 : Txt.join "" zs = Str.join "" zs := StrLaws.glued_eq_join _ _
  refine ⟨_, e1, ?_, ?_⟩
  · rw [e2]
    exact low_join zs fun y hy => (h y hy).1
  · rw [e2]
    have := StrLaws.join_length_le "" zs
    rw [hs, e0] at this
    omega

/-! ### forms of protocols -/
def isS : D → Bool
  | .str _ => true
  | _ => false
def sortB (f : Str) (x : D) : Bool := if (tb_BOUNDS.lookup f).isSome then isW x else isS x
theorem isS_isi (x : D) : isiT "str" x = isS x := by rw [isi_str]; cases x <;> rfl
theorem has_sort_ok (f : Str) (x : D) : fn__has_sort [.str f, x] = some (.ok (.bool (sortB f x))) := by
  have h1 := whole_ok x
  have h2 := isS_isi x
  have h3 : ginD false tb_BOUNDS (.str f) = some (.bool (tb_BOUNDS.lookup f).isSome) := rfl
  unfold sortB
  cases q : (tb_BOUNDS.lookup f).isSome
  · rw [q] at h3
    cases x <;> simp [fn__has_sort, runV, m__has_sort, env0, mSeq, mIf, mBol, mBin, mBinL, mBind, mLift, mPure, mPeek, mVar, ixD, iI, bolD, mAsg, mCall1, mCallN, intD, modD, iIc, cMod, mStore, mStoreO, mDone, gSet, mOwn, mPut, setD, mRet, mDrop, mStuck, mTru, truD, mOrT, mAndT, mNotT, mAnd, mOr, mNot, mIsi, isiT_eq, typD, lenD, mCons, mTup, mLst, mLstN, mVal, oOr, addD, subD, mulD, mulI, iIc, cMul, ltD, leD, gtD, geD, gTupD, gCons2, gsNil, mCallV, mCallB, mRs, tupleD, mRetF, mChain, mScr, mScrLen, mScrIx, mMut, appD, max2D, min2D, mRng1, mRng2, rngD1, rngD2, rngOk, mItems, itemsD, mAsgN, mParEE, mParEN, mUn, negD, mCallN1, listD, unsE, powD, cPow, divD, cDiv, mFor, mSl, mSlL, slD, mNoPart, mPart, intO, mSlN, mSlNL, slN, mRevN, revO, mParNC, andD, orD, xorD, shrD, shlD, cShr, mStepN, mStepNL, stepO, mCatN, mCatNL, catN, isi_int_NoneType, isi_int_bool, isi_int_int, isi_int_str, isi_int_list, isi_int_tuple, isi_int_dict, isi_bool_NoneType, isi_bool_bool, isi_bool_int, isi_bool_str, isi_bool_list, isi_bool_tuple, isi_bool_dict, isi_str_NoneType, isi_str_bool, isi_str_int, isi_str_str, isi_str_list, isi_str_tuple, isi_str_dict, isi_list_NoneType, isi_list_bool, isi_list_int, isi_list_str, isi_list_list, isi_list_tuple, isi_list_dict, isi_tuple_NoneType, isi_tuple_bool, isi_tuple_int, isi_tuple_str, isi_tuple_list, isi_tuple_tuple, isi_tuple_dict, isi_dict_NoneType, isi_dict_bool, isi_dict_int, isi_dict_str, isi_dict_list, isi_dict_tuple, isi_dict_dict, isi_int_dictT, isi_bool_dictT, isi_str_dictT, isi_list_dictT, isi_tuple_dictT, mIsi, mGIn, h3, isS]
  · rw [q] at h3
    simp [fn__has_sort, runV, m__has_sort, env0, mSeq, mIf, mBol, mBin, mBinL, mBind, mLift, mPure, mPeek, mVar, ixD, iI, bolD, mAsg, mCall1, mCallN, intD, modD, iIc, cMod, mStore, mStoreO, mDone, gSet, mOwn, mPut, setD, mRet, mDrop, mStuck, mTru, truD, mOrT, mAndT, mNotT, mAnd, mOr, mNot, mIsi, isiT_eq, typD, lenD, mCons, mTup, mLst, mLstN, mVal, oOr, addD, subD, mulD, mulI, iIc, cMul, ltD, leD, gtD, geD, gTupD, gCons2, gsNil, mCallV, mCallB, mRs, tupleD, mRetF, mChain, mScr, mScrLen, mScrIx, mMut, appD, max2D, min2D, mRng1, mRng2, rngD1, rngD2, rngOk, mItems, itemsD, mAsgN, mParEE, mParEN, mUn, negD, mCallN1, listD, unsE, powD, cPow, divD, cDiv, mFor, mSl, mSlL, slD, mNoPart, mPart, intO, mSlN, mSlNL, slN, mRevN, revO, mParNC, andD, orD, xorD, shrD, shlD, cShr, mStepN, mStepNL, stepO, mCatN, mCatNL, catN, mGIn, h1, h3]
def wordD : D → D
  | .tuple (.str z :: _) => .str z
  | _ => .none
theorem word_of_ok (d : D) : fn_word_of [d] = some (.ok (wordD d)) := by
  cases d with
  | tuple ds =>
    match ds with
    | [] => simp [fn_word_of, runV, m_word_of, env0, mSeq, mIf, mBol, mBin, mBinL, mBind, mLift, mPure, mPeek, mVar, ixD, iI, bolD, mAsg, mCall1, mCallN, intD, modD, iIc, cMod, mStore, mStoreO, mDone, gSet, mOwn, mPut, setD, mRet, mDrop, mStuck, mTru, truD, mOrT, mAndT, mNotT, mAnd, mOr, mNot, mIsi, isiT_eq, typD, lenD, mCons, mTup, mLst, mLstN, mVal, oOr, addD, subD, mulD, mulI, iIc, cMul, ltD, leD, gtD, geD, gTupD, gCons2, gsNil, mCallV, mCallB, mRs, tupleD, mRetF, mChain, mScr, mScrLen, mScrIx, mMut, appD, max2D, min2D, mRng1, mRng2, rngD1, rngD2, rngOk, mItems, itemsD, mAsgN, mParEE, mParEN, mUn, negD, mCallN1, listD, unsE, powD, cPow, divD, cDiv, mFor, mSl, mSlL, slD, mNoPart, mPart, intO, mSlN, mSlNL, slN, mRevN, revO, mParNC, andD, orD, xorD, shrD, shlD, cShr, mStepN, mStepNL, stepO, mCatN, mCatNL, catN, isi_int_NoneType, isi_int_bool, isi_int_int, isi_int_str, isi_int_list, isi_int_tuple, isi_int_dict, isi_bool_NoneType, isi_bool_bool, isi_bool_int, isi_bool_str, isi_bool_list, isi_bool_tuple, isi_bool_dict, isi_str_NoneType, isi_str_bool, isi_str_int, isi_str_str, isi_str_list, isi_str_tuple, isi_str_dict, isi_list_NoneType, isi_list_bool, isi_list_int, isi_list_str, isi_list_list, isi_list_tuple, isi_list_dict, isi_tuple_NoneType, isi_tuple_bool, isi_tuple_int, isi_tuple_str, isi_tuple_list, isi_tuple_tuple, isi_tuple_dict, isi_dict_NoneType, isi_dict_bool, isi_dict_int, isi_dict_str, isi_dict_list, isi_dict_tuple, isi_dict_dict, isi_int_dictT, isi_bool_dictT, isi_str_dictT, isi_list_dictT, isi_tuple_dictT, mIsi, wordD]
    | x :: r =>
      have z0 : atI (x :: r) 0 = some x := by simp [atI, ixN]
      cases x <;> simp [fn_word_of, runV, m_word_of, env0, mSeq, mIf, mBol, mBin, mBinL, mBind, mLift, mPure, mPeek, mVar, ixD, iI, bolD, mAsg, mCall1, mCallN, intD, modD, iIc, cMod, mStore, mStoreO, mDone, gSet, mOwn, mPut, setD, mRet, mDrop, mStuck, mTru, truD, mOrT, mAndT, mNotT, mAnd, mOr, mNot, mIsi, isiT_eq, typD, lenD, mCons, mTup, mLst, mLstN, mVal, oOr, addD, subD, mulD, mulI, iIc, cMul, ltD, leD, gtD, geD, gTupD, gCons2, gsNil, mCallV, mCallB, mRs, tupleD, mRetF, mChain, mScr, mScrLen, mScrIx, mMut, appD, max2D, min2D, mRng1, mRng2, rngD1, rngD2, rngOk, mItems, itemsD, mAsgN, mParEE, mParEN, mUn, negD, mCallN1, listD, unsE, powD, cPow, divD, cDiv, mFor, mSl, mSlL, slD, mNoPart, mPart, intO, mSlN, mSlNL, slN, mRevN, revO, mParNC, andD, orD, xorD, shrD, shlD, cShr, mStepN, mStepNL, stepO, mCatN, mCatNL, catN, isi_int_NoneType, isi_int_bool, isi_int_int, isi_int_str, isi_int_list, isi_int_tuple, isi_int_dict, isi_bool_NoneType, isi_bool_bool, isi_bool_int, isi_bool_str, isi_bool_list, isi_bool_tuple, isi_bool_dict, isi_str_NoneType, isi_str_bool, isi_str_int, isi_str_str, isi_str_list, isi_str_tuple, isi_str_dict, isi_list_NoneType, isi_list_bool, isi_list_int, isi_list_str, isi_list_list, isi_list_tuple, isi_list_dict, isi_tuple_NoneType, isi_tuple_bool, isi_tuple_int, isi_tuple_str, isi_tuple_list, isi_tuple_tuple, isi_tuple_dict, isi_dict_NoneType, isi_dict_bool, isi_dict_int, isi_dict_str, isi_dict_list, isi_dict_tuple, isi_dict_dict, isi_int_dictT, isi_bool_dictT, isi_str_dictT, isi_list_dictT, isi_tuple_dictT, mIsi, wordD, z0]
  | _ => simp [fn_word_of, runV, m_word_of, env0, mSeq, mIf, mBol, mBin, mBinL, mBind, mLift, mPure, mPeek, mVar, ixD, iI, bolD, mAsg, mCall1, mCallN, intD, modD, iIc, cMod, mStore, mStoreO, mDone, gSet, mOwn, mPut, setD, mRet, mDrop, mStuck, mTru, truD, mOrT, mAndT, mNotT, mAnd, mOr, mNot, mIsi, isiT_eq, typD, lenD, mCons, mTup, mLst, mLstN, mVal, oOr, addD, subD, mulD, mulI, iIc, cMul, ltD, leD, gtD, geD, gTupD, gCons2, gsNil, mCallV, mCallB, mRs, tupleD, mRetF, mChain, mScr, mScrLen, mScrIx, mMut, appD, max2D, min2D, mRng1, mRng2, rngD1, rngD2, rngOk, mItems, itemsD, mAsgN, mParEE, mParEN, mUn, negD, mCallN1, listD, unsE, powD, cPow, divD, cDiv, mFor, mSl, mSlL, slD, mNoPart, mPart, intO, mSlN, mSlNL, slN, mRevN, revO, mParNC, andD, orD, xorD, shrD, shlD, cShr, mStepN, mStepNL, stepO, mCatN, mCatNL, catN, isi_int_NoneType, isi_int_bool, isi_int_int, isi_int_str, isi_int_list, isi_int_tuple, isi_int_dict, isi_bool_NoneType, isi_bool_bool, isi_bool_int, isi_bool_str, isi_bool_list, isi_bool_tuple, isi_bool_dict, isi_str_NoneType, isi_str_bool, isi_str_int, isi_str_str, isi_str_list, isi_str_tuple, isi_str_dict, isi_list_NoneType, isi_list_bool, isi_list_int, isi_list_str, isi_list_list, isi_list_tuple, isi_list_dict, isi_tuple_NoneType, isi_tuple_bool, isi_tuple_int, isi_tuple_str, isi_tuple_list, isi_tuple_tuple, isi_tuple_dict, isi_dict_NoneType, isi_dict_bool, isi_dict_int, isi_dict_str, isi_dict_list, isi_dict_tuple, isi_dict_dict, isi_int_dictT, isi_bool_dictT, isi_str_dictT, isi_list_dictT, isi_tuple_dictT, mIsi, wordD]
def flCk : List Str := ["clock", "edge", "data", "gate", "bits", "first"]
def flFr : List Str := ["data", "long", "bits", "check", "stops"]
def flTw : List Str := ["clock", "data"]
def fldsOf (w : Str) : Option (List Str) := if w = "clocked" then some flCk else if w = "framed" then some flFr else if w = "twowire" then some flTw else none
def flD (fl : List Str) : D := .tuple (fl.map PyData.str)
theorem look_cons {z y : Str} {d : D} {r : List (Str × D)} : List.lookup z ((y, d) :: r) = if z = y then some d else List.lookup z r := by
  show (match z == y with | true => some d | false => List.lookup z r) = _
  by_cases h : z = y
  · subst h; rw [beq_self_eq_true, if_pos rfl]
  · rw [beq_false_of_ne h, if_neg h]
theorem forms_look (w : Str) : tb_FORMS.lookup w = (fldsOf w).map flD := by
  unfold tb_FORMS fldsOf
  rw [look_cons, look_cons, look_cons]
  by_cases h1 : w = "clocked"
  · rw [if_pos h1, if_pos h1]; rfl
  · rw [if_neg h1, if_neg h1]
    by_cases h2 : w = "framed"
    · rw [if_pos h2, if_pos h2]; rfl
    · rw [if_neg h2, if_neg h2]
      by_cases h3 : w = "twowire"
      · rw [if_pos h3, if_pos h3]; rfl
      · rw [if_neg h3, if_neg h3]; rfl
def zf (p : Str × D) : D := .tuple [.str p.1, p.2]
theorem zip_strs (fl : List Str) (r : List D) : zipL (fl.map PyData.str) r = (fl.zip r).map zf := by
  unfold zipL
  induction fl generalizing r with
  | nil => rfl
  | cons f fl ih =>
    cases r with
    | nil => rfl
    | cons x r =>
      rw [List.map_cons, List.zipWith_cons_cons, List.zip_cons_cons, List.map_cons, ih]; rfl
theorem form_comp {w : D} {fl : List Str} {r : List D} (hl : fl.length ≤ 100) : C__has_form_0 [.val (.tuple (w :: r)), .val (flD fl), .un, .un] = some (.ok ((fl.zip r).map fun p => PyData.bool (sortB p.1 p.2)) [.val (.tuple (w :: r)), .val (flD fl), .un, .un]) := by
  have zc : cutL (w :: r) (some 1) none = r := by
    have := cut_drop (w :: r) 1
    simpa using this
  have hz : zipBD [flD fl, .tuple r] = some ((fl.zip r).map zf) := by rw [← zip_strs]; rfl
  have hit : mZipB (mCons (mVar 1) (mCons (mSlL 0 (mPart (mPure (.int 1))) mNoPart) (mPure []))) [.val (.tuple (w :: r)), .val (flD fl), .un, .un] = some (.ok ((fl.zip r).map zf) [.val (.tuple (w :: r)), .val (flD fl), .un, .un]) := by
    generalize (fl.zip r).map zf = Z at *
    generalize flD fl = G at *
    simp [mSeq, mIf, mBol, mBin, mBinL, mBind, mLift, mPure, mPeek, mVar, ixD, iI, bolD, mAsg, mCall1, mCallN, intD, modD, iIc, cMod, mStore, mStoreO, mDone, gSet, mOwn, mPut, setD, mRet, mDrop, mStuck, mTru, truD, mOrT, mAndT, mNotT, mAnd, mOr, mNot, mIsi, isiT_eq, typD, lenD, mCons, mTup, mLst, mLstN, mVal, oOr, addD, subD, mulD, mulI, iIc, cMul, ltD, leD, gtD, geD, gTupD, gCons2, gsNil, mCallV, mCallB, mRs, tupleD, mRetF, mChain, mScr, mScrLen, mScrIx, mMut, appD, max2D, min2D, mRng1, mRng2, rngD1, rngD2, rngOk, mItems, itemsD, mAsgN, mParEE, mParEN, mUn, negD, mCallN1, listD, unsE, powD, cPow, divD, cDiv, mFor, mSl, mSlL, slD, mNoPart, mPart, intO, mSlN, mSlNL, slN, mRevN, revO, mParNC, andD, orD, xorD, shrD, shlD, cShr, mStepN, mStepNL, stepO, mCatN, mCatNL, catN, mZipB, hz, zc]
  have hle : (fl.zip r).length ≤ 100 := by rw [List.length_zip]; omega
  refine comp_is (vs := [2, 3]) (ρe := [.val (.tuple (w :: r)), .val (flD fl), .un, .un]) hit (fit_of2 (by rw [List.length_map]; omega)) ?_
  refine go_mapA _ _ _ fun p _ => ?_
  obtain ⟨f, x⟩ := p
  have h := has_sort_ok f x
  refine ⟨[.val (.tuple (w :: r)), .val (flD fl), .val (.str f), .val x], [.val (.tuple (w :: r)), .val (flD fl), .val (.str f), .val x], by generalize flD fl = G; simp [mSeq, mIf, mBol, mBin, mBinL, mBind, mLift, mPure, mPeek, mVar, ixD, iI, bolD, mAsg, mCall1, mCallN, intD, modD, iIc, cMod, mStore, mStoreO, mDone, gSet, mOwn, mPut, setD, mRet, mDrop, mStuck, mTru, truD, mOrT, mAndT, mNotT, mAnd, mOr, mNot, mIsi, isiT_eq, typD, lenD, mCons, mTup, mLst, mLstN, mVal, oOr, addD, subD, mulD, mulI, iIc, cMul, ltD, leD, gtD, geD, gTupD, gCons2, gsNil, mCallV, mCallB, mRs, tupleD, mRetF, mChain, mScr, mScrLen, mScrIx, mMut, appD, max2D, min2D, mRng1, mRng2, rngD1, rngD2, rngOk, mItems, itemsD, mAsgN, mParEE, mParEN, mUn, negD, mCallN1, listD, unsE, powD, cPow, divD, cDiv, mFor, mSl, mSlL, slD, mNoPart, mPart, intO, mSlN, mSlNL, slN, mRevN, revO, mParNC, andD, orD, xorD, shrD, shlD, cShr, mStepN, mStepNL, stepO, mCatN, mCatNL, catN, zf, gNamesD, unsE], ?_, by simp [unsE]⟩
  generalize flD fl = G
  simp [mSeq, mIf, mBol, mBin, mBinL, mBind, mLift, mPure, mPeek, mVar, ixD, iI, bolD, mAsg, mCall1, mCallN, intD, modD, iIc, cMod, mStore, mStoreO, mDone, gSet, mOwn, mPut, setD, mRet, mDrop, mStuck, mTru, truD, mOrT, mAndT, mNotT, mAnd, mOr, mNot, mIsi, isiT_eq, typD, lenD, mCons, mTup, mLst, mLstN, mVal, oOr, addD, subD, mulD, mulI, iIc, cMul, ltD, leD, gtD, geD, gTupD, gCons2, gsNil, mCallV, mCallB, mRs, tupleD, mRetF, mChain, mScr, mScrLen, mScrIx, mMut, appD, max2D, min2D, mRng1, mRng2, rngD1, rngD2, rngOk, mItems, itemsD, mAsgN, mParEE, mParEN, mUn, negD, mCallN1, listD, unsE, powD, cPow, divD, cDiv, mFor, mSl, mSlL, slD, mNoPart, mPart, intO, mSlN, mSlNL, slN, mRevN, revO, mParNC, andD, orD, xorD, shrD, shlD, cShr, mStepN, mStepNL, stepO, mCatN, mCatNL, catN, h]
def formB : D → Bool
  | .tuple (.str w :: r) => match fldsOf w with
    | some fl => decide (r.length = fl.length) && (fl.zip r).all fun p => sortB p.1 p.2
    | none => false
  | _ => false
theorem flds_len {w : Str} {fl : List Str} (h : fldsOf w = some fl) : fl.length ≤ 6 := by
  unfold fldsOf at h
  split at h
  · cases h; decide
  · split at h
    · cases h; decide
    · split at h
      · cases h; decide
      · cases h
theorem has_form_ok {P : D} (ht : tfit P) : fn__has_form [P] = some (.ok (.bool (formB P))) := by
  have hw := word_of_ok P
  have key : ∀ (G : D), wordD P = G → ggetD tb_FORMS G = some .none → formB P = false → fn__has_form [P] = some (.ok (.bool (formB P))) := fun G e1 e2 e3 => by
    rw [e1] at hw
    rw [e3]
    have hi : isD .none .none = some (.bool true) := rfl
    simp [fn__has_form, runV, m__has_form, env0, mSeq, mIf, mBol, mBin, mBinL, mBind, mLift, mPure, mPeek, mVar, ixD, iI, bolD, mAsg, mCall1, mCallN, intD, modD, iIc, cMod, mStore, mStoreO, mDone, gSet, mOwn, mPut, setD, mRet, mDrop, mStuck, mTru, truD, mOrT, mAndT, mNotT, mAnd, mOr, mNot, mIsi, isiT_eq, typD, lenD, mCons, mTup, mLst, mLstN, mVal, oOr, addD, subD, mulD, mulI, iIc, cMul, ltD, leD, gtD, geD, gTupD, gCons2, gsNil, mCallV, mCallB, mRs, tupleD, mRetF, mChain, mScr, mScrLen, mScrIx, mMut, appD, max2D, min2D, mRng1, mRng2, rngD1, rngD2, rngOk, mItems, itemsD, mAsgN, mParEE, mParEN, mUn, negD, mCallN1, listD, unsE, powD, cPow, divD, cDiv, mFor, mSl, mSlL, slD, mNoPart, mPart, intO, mSlN, mSlNL, slN, mRevN, revO, mParNC, andD, orD, xorD, shrD, shlD, cShr, mStepN, mStepNL, stepO, mCatN, mCatNL, catN, mGGet, hw, e2, hi]
  have base : wordD P = .none → formB P = false → fn__has_form [P] = some (.ok (.bool (formB P))) := fun e1 e3 => key .none e1 rfl e3
  cases P with
  | tuple ds =>
    match ds with
    | [] => exact base rfl rfl
    | x :: r =>
      cases x with
      | str w =>
        cases hf : fldsOf w with
        | none =>
          refine key (.str w) rfl ?_ (by show (match fldsOf w with | some fl => decide (r.length = fl.length) && (fl.zip r).all fun p => sortB p.1 p.2 | none => false) = false; rw [hf])
          show some ((tb_FORMS.lookup w).getD .none) = _
          rw [forms_look, hf]; rfl
        | some fl =>
          have hl := flds_len hf
          have hg : ggetD tb_FORMS (.str w) = some (flD fl) := by
            show some ((tb_FORMS.lookup w).getD .none) = _
            rw [forms_look, hf]; rfl
          have hw : fn_word_of [.tuple (.str w :: r)] = some (.ok (.str w)) := hw
          have hi : isD (flD fl) .none = some (.bool false) := rfl
          have hne : neD (.int ((r.length : Int) + 1)) (.int ((fl.length : Int) + 1)) = some (.bool (!decide (r.length = fl.length))) := by
            rw [ne_sh (Sh.int _) (Sh.int _) (by decide) (by decide)]
            simp only [PyData.eqv]
            congr 3
            by_cases q : r.length = fl.length
            · rw [decide_eq_true q, q]; simp
            · rw [decide_eq_false q]
              exact beq_false_of_ne (by omega)
          have hadd : addD (.int (fl.length : Nat)) (.int 1) = some (.int ((fl.length : Int) + 1)) := rfl
          have hc := form_comp (w := .str w) (fl := fl) (r := r) (by omega)
          have ha := all_m (fun p : Str × D => sortB p.1 p.2) (fl.zip r)
          have hF : formB (.tuple (.str w :: r)) = (decide (r.length = fl.length) && (fl.zip r).all fun p => sortB p.1 p.2) := by
            show (match fldsOf w with
              | some fl => decide (r.length = fl.length) && (fl.zip r).all fun p => sortB p.1 p.2
              | none => false) = _
            rw [hf]
          rw [hF]
          generalize (fl.zip r).map (fun p => PyData.bool (sortB p.1 p.2)) = C at *
          generalize (fl.zip r).all (fun p => sortB p.1 p.2) = b at *
          unfold flD at *
          obtain ⟨FL, hFL⟩ : ∃ FL, FL = fl.map PyData.str := ⟨_, rfl⟩
          have hFn : FL.length = fl.length := by rw [hFL, List.length_map]
          rw [← hFL] at hg hi hc
          rw [← hFn] at hne
          rw [← hFn]
          cases q : decide (r.length = FL.length) <;> rw [q] at hne <;> simp [fn__has_form, runV, m__has_form, env0, mSeq, mIf, mBol, mBin, mBinL, mBind, mLift, mPure, mPeek, mVar, ixD, iI, bolD, mAsg, mCall1, mCallN, intD, modD, iIc, cMod, mStore, mStoreO, mDone, gSet, mOwn, mPut, setD, mRet, mDrop, mStuck, mTru, truD, mOrT, mAndT, mNotT, mAnd, mOr, mNot, mIsi, isiT_eq, typD, lenD, mCons, mTup, mLst, mLstN, mVal, oOr, addD, subD, mulD, mulI, iIc, cMul, ltD, leD, gtD, geD, gTupD, gCons2, gsNil, mCallV, mCallB, mRs, tupleD, mRetF, mChain, mScr, mScrLen, mScrIx, mMut, appD, max2D, min2D, mRng1, mRng2, rngD1, rngD2, rngOk, mItems, itemsD, mAsgN, mParEE, mParEN, mUn, negD, mCallN1, listD, unsE, powD, cPow, divD, cDiv, mFor, mSl, mSlL, slD, mNoPart, mPart, intO, mSlN, mSlNL, slN, mRevN, revO, mParNC, andD, orD, xorD, shrD, shlD, cShr, mStepN, mStepNL, stepO, mCatN, mCatNL, catN, mGGet, hw, hg, hi, hne, hc, ha]
      | _ => exact base rfl rfl
  | _ => exact base rfl rfl

/-! ### the law's forms -/
theorem forL_try {α : Type} {g : D → M Unit} {body : M Fl} (N : α → D) (ok : α → Bool) (v : α → D) (E : En → Prop) : ∀ (as : List α) (ρ : En), E ρ →
    (∀ a ∈ as, ∀ ρ, E ρ → ∃ ρ1 ρ2, g (N a) ρ = some (.ok () ρ1) ∧ body ρ1 = some (.ok (if ok a = true then .nx else .rt (v a)) ρ2) ∧ E ρ2) →
    ∃ ρ', E ρ' ∧ mForL g body (as.map N) ρ = some (.ok (match as.find? (fun a => !ok a) with | none => .nx | some a => .rt (v a)) ρ')
  | [], ρ, e, _ => ⟨ρ, e, rfl⟩
  | a :: as, ρ, e, h => by
    obtain ⟨ρ1, ρ2, h1, h2, e2⟩ := h a List.mem_cons_self ρ e
    rw [List.map_cons, List.find?_cons]
    unfold mForL
    rw [bind_is h1]
    cases q : ok a with
    | true =>
      rw [q, if_pos rfl] at h2
      rw [bind_is h2]
      exact forL_try N ok v E as ρ2 e2 fun x hx => h x (List.mem_cons_of_mem _ hx)
    | false =>
      rw [q, if_neg (by decide)] at h2
      rw [bind_is h2]
      exact ⟨ρ2, e2, rfl⟩
def sgF (f : Str) : Str := if (tb_BOUNDS.lookup f).isSome then "n" else "t"
def zs (p : Str × D) : D := .tuple [.str (sgF p.1), p.2]
/-! ### the three shapes; the law behind its forms -/
theorem ne_i (a b : Int) : neD (.int a) (.int b) = some (.bool (!decide (a = b))) := by
  rw [ne_sh (Sh.int a) (Sh.int b) (by decide) (by decide)]
  simp [PyData.eqv]
  rfl
theorem eqI (a b : Int) : eqD (.int a) (.int b) = some (.bool (decide (a = b))) := by
  rw [eq_sh (Sh.int a) (Sh.int b) (by decide) (by decide)]
  simp [PyData.eqv]
  rfl
def ckD (c e d g : Str) (b : Int) (f : Str) : D := .tuple [.str "clocked", .str c, .str e, .str d, .str g, .int b, .str f]
def frD (d : Str) (l b : Int) (c : Str) (s : Int) : D := .tuple [.str "framed", .str d, .int l, .int b, .str c, .int s]
def twD (c d : Str) : D := .tuple [.str "twowire", .str c, .str d]
theorem bd_tab : (tb_BOUNDS.lookup ("clock" : Str)).isSome = false ∧ (tb_BOUNDS.lookup ("edge" : Str)).isSome = false ∧ (tb_BOUNDS.lookup ("data" : Str)).isSome = false ∧ (tb_BOUNDS.lookup ("gate" : Str)).isSome = false ∧ (tb_BOUNDS.lookup ("bits" : Str)).isSome = true ∧ (tb_BOUNDS.lookup ("first" : Str)).isSome = false ∧ (tb_BOUNDS.lookup ("long" : Str)).isSome = true ∧ (tb_BOUNDS.lookup ("check" : Str)).isSome = false ∧ (tb_BOUNDS.lookup ("stops" : Str)).isSome = true := by decide +kernel
/-! ### lines, and whether one stands twice -/
theorem in_names {z : Str} {zs : List Str} : inD false (.str z) (.list (zs.map PyData.str)) = some (.bool (zs.contains z)) := by
  have h1 : inOk (.str z) (zs.map PyData.str) = true := by
    unfold inOk
    simp [flatD, flatV, toV]
  have h2 : inFlat (.str z) (zs.map PyData.str) = zs.contains z := by
    unfold inFlat inV
    rw [List.map_map, List.any_map, List.contains_eq_any_beq]
    congr 1
    funext y
    show (y == z) = (z == y)
    exact BEq.comm
  show (if inOk (.str z) (zs.map PyData.str) = true then some (PyData.bool (if false = true then !inFlat (.str z) (zs.map PyData.str) else inFlat (.str z) (zs.map PyData.str))) else none) = _
  rw [if_pos h1, h2]; rfl
theorem in_namesT {z : Str} {zs : List Str} : inD false (.str z) (.tuple (zs.map PyData.str)) = some (.bool (zs.contains z)) := by
  have h1 : inOk (.str z) (zs.map PyData.str) = true := by
    unfold inOk
    simp [flatD, flatV, toV]
  have h2 : inFlat (.str z) (zs.map PyData.str) = zs.contains z := by
    unfold inFlat inV
    rw [List.map_map, List.any_map, List.contains_eq_any_beq]
    congr 1
    funext y
    show (y == z) = (z == y)
    exact BEq.comm
  show (if inOk (.str z) (zs.map PyData.str) = true then some (PyData.bool (if false = true then !inFlat (.str z) (zs.map PyData.str) else inFlat (.str z) (zs.map PyData.str))) else none) = _
  rw [if_pos h1, h2]; rfl
def Nm (ns : List Str) (N : D) : Prop := N = .list (ns.map PyData.str) ∨ N = .tuple (ns.map PyData.str)
theorem in_nm {ns : List Str} {N : D} (h : Nm ns N) (z : Str) : inD false (.str z) N = some (.bool (ns.contains z)) ∧ inD true (.str z) N = some (.bool (!ns.contains z)) := by
  rcases h with rfl | rfl
  · have h := in_names (z := z) (zs := ns)
    refine ⟨h, ?_⟩
    have h : (if inOk (.str z) (ns.map PyData.str) = true then some (PyData.bool (if false = true then !inFlat (.str z) (ns.map PyData.str) else inFlat (.str z) (ns.map PyData.str))) else none) = some (.bool (ns.contains z)) := h
    show (if inOk (.str z) (ns.map PyData.str) = true then some (PyData.bool (if true = true then !inFlat (.str z) (ns.map PyData.str) else inFlat (.str z) (ns.map PyData.str))) else none) = _
    by_cases q : inOk (.str z) (ns.map PyData.str) = true
    · rw [if_pos q] at h ⊢
      have h := PyData.bool.inj (Option.some.inj h)
      rw [if_neg (by decide)] at h
      rw [if_pos rfl, h]
    · rw [if_neg q] at h; cases h
  · have h := in_namesT (z := z) (zs := ns)
    refine ⟨h, ?_⟩
    have h : (if inOk (.str z) (ns.map PyData.str) = true then some (PyData.bool (if false = true then !inFlat (.str z) (ns.map PyData.str) else inFlat (.str z) (ns.map PyData.str))) else none) = some (.bool (ns.contains z)) := h
    show (if inOk (.str z) (ns.map PyData.str) = true then some (PyData.bool (if true = true then !inFlat (.str z) (ns.map PyData.str) else inFlat (.str z) (ns.map PyData.str))) else none) = _
    by_cases q : inOk (.str z) (ns.map PyData.str) = true
    · rw [if_pos q] at h ⊢
      have h := PyData.bool.inj (Option.some.inj h)
      rw [if_neg (by decide)] at h
      rw [if_pos rfl, h]
    · rw [if_neg q] at h; cases h
def one1 (ls : List Str) : Bool := ls.all fun x => decide (ls.count x ≤ 1)
theorem uniq_one {ls : List Str} (h : ls.length ≤ 3) : decide ((uniq ls).length < ls.length) = !one1 ls := by
  match ls, h with
  | [], _ => rfl
  | [a], _ => simp [uniq, one1]
  | [a, b], _ =>
    by_cases h : b = a
    · subst h; simp [uniq, one1]
    · have h' : ¬ a = b := fun e => h e.symm
      simp [uniq, one1, h, h', List.count_cons]
  | [a, b, c], _ =>
    by_cases h : b = a
    · subst h
      by_cases k : c = b
      · subst k; simp [uniq, one1]
      · have k' : ¬ b = c := fun e => k e.symm
        simp [uniq, one1, k, k', List.count_cons]
    · have h' : ¬ a = b := fun e => h e.symm
      by_cases k : c = a
      · subst k; simp [uniq, one1, h, h', List.count_cons]
      · have k' : ¬ a = c := fun e => k e.symm
        by_cases m : c = b
        · subst m; simp [uniq, one1, h, h', List.count_cons]
        · have m' : ¬ b = c := fun e => m e.symm
          simp [uniq, one1, h, h', k, k', m, m', List.count_cons]
def verD (ls ns : List Str) (V : D) : D := if (ls.all fun x => ns.contains x) = true then (if one1 ls = true then V else .str "same") else .str "line"
theorem it_var {k : Nat} {ρ : En} {d : D} {ds : List D} (h : ρ[k]? = some (.val d)) (hi : itemsD d = some ds) : mItems (mVar k) ρ = some (.ok ds ρ) := by
  have e : mVar k ρ = some (.ok d ρ) := by unfold mVar; rw [h]
  unfold mItems
  rw [bind_is e]
  unfold mLift
  rw [hi]
def NL (ls : List Str) : D := .list (ls.map PyData.str)
theorem filt_strs (c : Str → Bool) : ∀ ls : List Str, (ls.flatMap fun x => if c x = true then [PyData.str x] else []) = (ls.filter c).map PyData.str
  | [] => rfl
  | x :: ls => by
    rw [List.flatMap_cons, filt_strs c ls, List.filter_cons]
    cases c x <;> rfl
/-! ### thing by thing -/
def linesN : D := .tuple [.str "clock", .str "data", .str "gate"]
theorem inl_of {s : Str} {b : Bool} (h1 : inOk (.str s) [.str "clock", .str "data", .str "gate"] = true) (h2 : inFlat (.str s) [.str "clock", .str "data", .str "gate"] = b) : inD false (.str s) linesN = some (.bool b) := by
  unfold linesN inD
  dsimp only
  rw [if_pos h1, h2]; rfl
theorem inl_clock : inD false (.str "clock") linesN = some (.bool true) := inl_of (by decide +kernel) (by decide +kernel)
theorem inl_data : inD false (.str "data") linesN = some (.bool true) := inl_of (by decide +kernel) (by decide +kernel)
theorem inl_gate : inD false (.str "gate") linesN = some (.bool true) := inl_of (by decide +kernel) (by decide +kernel)
theorem inl_edge : inD false (.str "edge") linesN = some (.bool false) := inl_of (by decide +kernel) (by decide +kernel)
theorem inl_bits : inD false (.str "bits") linesN = some (.bool false) := inl_of (by decide +kernel) (by decide +kernel)
theorem inl_first : inD false (.str "first") linesN = some (.bool false) := inl_of (by decide +kernel) (by decide +kernel)
theorem inl_long : inD false (.str "long") linesN = some (.bool false) := inl_of (by decide +kernel) (by decide +kernel)
theorem inl_check : inD false (.str "check") linesN = some (.bool false) := inl_of (by decide +kernel) (by decide +kernel)
theorem inl_stops : inD false (.str "stops") linesN = some (.bool false) := inl_of (by decide +kernel) (by decide +kernel)
theorem tab_hit {z : Str} {d : D} {r : List (Str × D)} : tabD ((z, d) :: r) (.str z) = some d := by
  show List.lookup z ((z, d) :: r) = _
  rw [List.lookup_cons_self]
theorem tab_mis {y z : Str} {d : D} {r : List (Str × D)} (h : (z == y) = false) : tabD ((y, d) :: r) (.str z) = tabD r (.str z) := by
  show List.lookup z ((y, d) :: r) = _
  unfold List.lookup
  rw [h]; rfl
abbrev FP := Bool × Str × D
def fpN (a : FP) : D := .tuple [.str a.2.1, a.2.2]
def fpO (a : FP) : List D := if a.1 = true then [a.2.2] else []
theorem lines_go {P : D} (as : List FP) (h : ∀ a ∈ as, inD false (.str a.2.1) linesN = some (.bool a.1)) :
    mGo [2, 3] (gTupD 2 (gNamesD [2, 3])) (mBol (mBinL (inD false) 2 (mPure (.tuple [.str "clock", .str "data", .str "gate"])))) (mVar 3) (as.map fpN) [.val P, .un, .un, .un] = some (.ok (as.flatMap fpO) [.val P, .un, .un, .un]) := by
  refine go_fm fpN fpO as ?_
  rintro ⟨b, f, d⟩ ha
  have hb : inD false (.str f) (.tuple [.str "clock", .str "data", .str "gate"]) = some (.bool b) := h _ ha
  refine ⟨[.val P, .un, .val (.str f), .val d], [.val P, .un, .val (.str f), .val d], b, by simp [mSeq, mIf, mBol, mBin, mBinL, mBind, mLift, mPure, mPeek, mVar, ixD, iI, bolD, mAsg, mCall1, mCallN, intD, modD, iIc, cMod, mStore, mStoreO, mDone, gSet, mOwn, mPut, setD, mRet, mDrop, mStuck, mTru, truD, mOrT, mAndT, mNotT, mAnd, mOr, mNot, mIsi, isiT_eq, typD, lenD, mCons, mTup, mLst, mLstN, mVal, oOr, addD, subD, mulD, mulI, iIc, cMul, ltD, leD, gtD, geD, gTupD, gCons2, gsNil, mCallV, mCallB, mRs, tupleD, mRetF, mChain, mScr, mScrLen, mScrIx, mMut, appD, max2D, min2D, mRng1, mRng2, rngD1, rngD2, rngOk, mItems, itemsD, mAsgN, mParEE, mParEN, mUn, negD, mCallN1, listD, unsE, powD, cPow, divD, cDiv, mFor, mSl, mSlL, slD, mNoPart, mPart, intO, mSlN, mSlNL, slN, mRevN, revO, mParNC, andD, orD, xorD, shrD, shlD, cShr, mStepN, mStepNL, stepO, mCatN, mCatNL, catN, fpN, gNamesD], ?_, ?_, ?_⟩
  · show mBol (mBinL (inD false) 2 (mPure (.tuple [.str "clock", .str "data", .str "gate"]))) _ = _
    simp only [mBol, mBinL, mBind, mPeek, mPure, mLift, List.getElem?_cons_succ, List.getElem?_cons_zero, hb, bolD]
  · rintro rfl
    exact ⟨d, [.val P, .un, .val (.str f), .val d], by simp [mSeq, mIf, mBol, mBin, mBinL, mBind, mLift, mPure, mPeek, mVar, ixD, iI, bolD, mAsg, mCall1, mCallN, intD, modD, iIc, cMod, mStore, mStoreO, mDone, gSet, mOwn, mPut, setD, mRet, mDrop, mStuck, mTru, truD, mOrT, mAndT, mNotT, mAnd, mOr, mNot, mIsi, isiT_eq, typD, lenD, mCons, mTup, mLst, mLstN, mVal, oOr, addD, subD, mulD, mulI, iIc, cMul, ltD, leD, gtD, geD, gTupD, gCons2, gsNil, mCallV, mCallB, mRs, tupleD, mRetF, mChain, mScr, mScrLen, mScrIx, mMut, appD, max2D, min2D, mRng1, mRng2, rngD1, rngD2, rngOk, mItems, itemsD, mAsgN, mParEE, mParEN, mUn, negD, mCallN1, listD, unsE, powD, cPow, divD, cDiv, mFor, mSl, mSlL, slD, mNoPart, mPart, intO, mSlN, mSlNL, slN, mRevN, revO, mParNC, andD, orD, xorD, shrD, shlD, cShr, mStepN, mStepNL, stepO, mCatN, mCatNL, catN], by simp [unsE], rfl⟩
  · rintro rfl
    exact ⟨by simp [unsE], rfl⟩
theorem tab_cons {y z : Str} {d : D} {r : List (Str × D)} : tabD ((y, d) :: r) (.str z) = if z = y then some d else tabD r (.str z) := look_cons
def strsT (ws : List Str) : D := .tuple (ws.map PyData.str)
theorem told_wrd {f s : Str} {ws : List Str} (h1 : (tb_BOUNDS.lookup f).isSome = false) (h2 : inD false (.str f) linesN = some (.bool false)) (h3 : tabD tb_WORDS (.str f) = some (strsT ws)) : fn__is_told [.str f, .str s] = some (.ok (.bool (ws.contains s))) := by
  have h4 : ginD false tb_BOUNDS (.str f) = some (.bool (tb_BOUNDS.lookup f).isSome) := rfl
  rw [h1] at h4
  have h5 : inD false (.str s) (strsT ws) = some (.bool (ws.contains s)) := in_namesT
  have h2 : inD false (.str f) (.tuple [.str "clock", .str "data", .str "gate"]) = some (.bool false) := h2
  simp [fn__is_told, runV, m__is_told, env0, mSeq, mIf, mBol, mBin, mBinL, mBind, mLift, mPure, mPeek, mVar, ixD, iI, bolD, mAsg, mCall1, mCallN, intD, modD, iIc, cMod, mStore, mStoreO, mDone, gSet, mOwn, mPut, setD, mRet, mDrop, mStuck, mTru, truD, mOrT, mAndT, mNotT, mAnd, mOr, mNot, mIsi, isiT_eq, typD, lenD, mCons, mTup, mLst, mLstN, mVal, oOr, addD, subD, mulD, mulI, iIc, cMul, ltD, leD, gtD, geD, gTupD, gCons2, gsNil, mCallV, mCallB, mRs, tupleD, mRetF, mChain, mScr, mScrLen, mScrIx, mMut, appD, max2D, min2D, mRng1, mRng2, rngD1, rngD2, rngOk, mItems, itemsD, mAsgN, mParEE, mParEN, mUn, negD, mCallN1, listD, unsE, powD, cPow, divD, cDiv, mFor, mSl, mSlL, slD, mNoPart, mPart, intO, mSlN, mSlNL, slN, mRevN, revO, mParNC, andD, orD, xorD, shrD, shlD, cShr, mStepN, mStepNL, stepO, mCatN, mCatNL, catN, mGIn, mGIx, h4, h2, h3, h5]
theorem told_lin {f : Str} {x : D} (h1 : (tb_BOUNDS.lookup f).isSome = false) (h2 : inD false (.str f) linesN = some (.bool true)) : fn__is_told [.str f, x] = some (.ok (.bool true)) := by
  have h4 : ginD false tb_BOUNDS (.str f) = some (.bool (tb_BOUNDS.lookup f).isSome) := rfl
  rw [h1] at h4
  have h2 : inD false (.str f) (.tuple [.str "clock", .str "data", .str "gate"]) = some (.bool true) := h2
  simp [fn__is_told, runV, m__is_told, env0, mSeq, mIf, mBol, mBin, mBinL, mBind, mLift, mPure, mPeek, mVar, ixD, iI, bolD, mAsg, mCall1, mCallN, intD, modD, iIc, cMod, mStore, mStoreO, mDone, gSet, mOwn, mPut, setD, mRet, mDrop, mStuck, mTru, truD, mOrT, mAndT, mNotT, mAnd, mOr, mNot, mIsi, isiT_eq, typD, lenD, mCons, mTup, mLst, mLstN, mVal, oOr, addD, subD, mulD, mulI, iIc, cMul, ltD, leD, gtD, geD, gTupD, gCons2, gsNil, mCallV, mCallB, mRs, tupleD, mRetF, mChain, mScr, mScrLen, mScrIx, mMut, appD, max2D, min2D, mRng1, mRng2, rngD1, rngD2, rngOk, mItems, itemsD, mAsgN, mParEE, mParEN, mUn, negD, mCallN1, listD, unsE, powD, cPow, divD, cDiv, mFor, mSl, mSlL, slD, mNoPart, mPart, intO, mSlN, mSlNL, slN, mRevN, revO, mParNC, andD, orD, xorD, shrD, shlD, cShr, mStepN, mStepNL, stepO, mCatN, mCatNL, catN, mGIn, h4, h2]
def btw (a b i : Int) : Bool := decide (a ≤ i) && decide (i ≤ b)
theorem chain_le {x : Int} {ma mb mc : M D} {a b : Int} {ρ : En} (e1 : ma ρ = some (.ok (.int a) ρ)) (e2 : mb ρ = some (.ok (.int x) ρ)) (e3 : mc ρ = some (.ok (.int b) ρ)) : mChain leD leD ma mb mc ρ = some (.ok (.bool (btw a b x)) ρ) := by
  have l1 : leD (.int a) (.int x) = some (.bool (decide (a ≤ x))) := rfl
  have l2 : leD (.int x) (.int b) = some (.bool (decide (x ≤ b))) := rfl
  unfold mChain btw
  rw [bind_is e1, bind_is e2]
  by_cases q : a ≤ x
  · rw [decide_eq_true q] at l1 ⊢
    simp only [mBind, mLift, l1, bolD, if_true, e3, l2, Bool.true_and]
  · rw [decide_eq_false q] at l1 ⊢
    simp only [mBind, mLift, l1, bolD, Bool.false_eq_true, if_false, mPure, Bool.false_and]
theorem told_num {f : Str} {a b i : Int} (h1 : (tb_BOUNDS.lookup f).isSome = true) (h3 : tabD tb_BOUNDS (.str f) = some (.tuple [.int a, .int b])) : fn__is_told [.str f, .int i] = some (.ok (.bool (btw a b i))) := by
  have h4 : ginD false tb_BOUNDS (.str f) = some (.bool (tb_BOUNDS.lookup f).isSome) := rfl
  rw [h1] at h4
  have hc := chain_le (x := i) (a := a) (b := b) (ma := mVar 2) (mb := mVar 1) (mc := mPeek 3) (ρ := [.val (.str f), .val (.int i), .val (.int a), .val (.int b)]) rfl rfl rfl
  generalize mChain leD leD (mVar 2) (mVar 1) (mPeek 3) = MC at *
  unfold fn__is_told runV m__is_told
  have e1 : mIf (mBol (mGIn false tb_BOUNDS (mVar 0))) (mSeq (mAsg (mGIx tb_BOUNDS (mVar 0)) (gTupD 2 (gCons2 (mStore 2) (gCons2 (mStore 3) gsNil)))) (mRet (mChain leD leD (mVar 2) (mVar 1) (mPeek 3)))) (mPure .nx) [.val (.str f), .val (.int i), .un, .un] = some (.ok (.rt (.bool (btw a b i))) [.val (.str f), .val (.int i), .val (.int a), .val (.int b)]) := by
    rw [if_t (ρ1 := [.val (.str f), .val (.int i), .un, .un]) (by simp [mSeq, mIf, mBol, mBin, mBinL, mBind, mLift, mPure, mPeek, mVar, ixD, iI, bolD, mAsg, mCall1, mCallN, intD, modD, iIc, cMod, mStore, mStoreO, mDone, gSet, mOwn, mPut, setD, mRet, mDrop, mStuck, mTru, truD, mOrT, mAndT, mNotT, mAnd, mOr, mNot, mIsi, isiT_eq, typD, lenD, mCons, mTup, mLst, mLstN, mVal, oOr, addD, subD, mulD, mulI, iIc, cMul, ltD, leD, gtD, geD, gTupD, gCons2, gsNil, mCallV, mCallB, mRs, tupleD, mRetF, mChain, mScr, mScrLen, mScrIx, mMut, appD, max2D, min2D, mRng1, mRng2, rngD1, rngD2, rngOk, mItems, itemsD, mAsgN, mParEE, mParEN, mUn, negD, mCallN1, listD, unsE, powD, cPow, divD, cDiv, mFor, mSl, mSlL, slD, mNoPart, mPart, intO, mSlN, mSlNL, slN, mRevN, revO, mParNC, andD, orD, xorD, shrD, shlD, cShr, mStepN, mStepNL, stepO, mCatN, mCatNL, catN, mGIn, h4])]
    refine (seq_nx (ρ' := [.val (.str f), .val (.int i), .val (.int a), .val (.int b)]) (by simp [mSeq, mIf, mBol, mBin, mBinL, mBind, mLift, mPure, mPeek, mVar, ixD, iI, bolD, mAsg, mCall1, mCallN, intD, modD, iIc, cMod, mStore, mStoreO, mDone, gSet, mOwn, mPut, setD, mRet, mDrop, mStuck, mTru, truD, mOrT, mAndT, mNotT, mAnd, mOr, mNot, mIsi, isiT_eq, typD, lenD, mCons, mTup, mLst, mLstN, mVal, oOr, addD, subD, mulD, mulI, iIc, cMul, ltD, leD, gtD, geD, gTupD, gCons2, gsNil, mCallV, mCallB, mRs, tupleD, mRetF, mChain, mScr, mScrLen, mScrIx, mMut, appD, max2D, min2D, mRng1, mRng2, rngD1, rngD2, rngOk, mItems, itemsD, mAsgN, mParEE, mParEN, mUn, negD, mCallN1, listD, unsE, powD, cPow, divD, cDiv, mFor, mSl, mSlL, slD, mNoPart, mPart, intO, mSlN, mSlNL, slN, mRevN, revO, mParNC, andD, orD, xorD, shrD, shlD, cShr, mStepN, mStepNL, stepO, mCatN, mCatNL, catN, mGIx, h3])).trans ?_
    have hc := chain_le (x := i) (a := a) (b := b) (ma := mVar 2) (mb := mVar 1) (mc := mPeek 3) (ρ := [.val (.str f), .val (.int i), .val (.int a), .val (.int b)]) rfl rfl rfl
    unfold mRet
    rw [bind_is hc]; rfl
  rw [show env0 4 [PyData.str f, .int i] = [.val (.str f), .val (.int i), .un, .un] from rfl, seq_rt e1]
def wEdge : List Str := ["rise", "fall"]
def wFirst : List Str := ["high", "low"]
def wCheck : List Str := ["none", "even", "odd"]
theorem t_clock (x : D) : fn__is_told [.str "clock", x] = some (.ok (.bool true)) := told_lin bd_tab.1 inl_clock
theorem t_data (x : D) : fn__is_told [.str "data", x] = some (.ok (.bool true)) := told_lin bd_tab.2.2.1 inl_data
theorem t_gate (x : D) : fn__is_told [.str "gate", x] = some (.ok (.bool true)) := told_lin bd_tab.2.2.2.1 inl_gate
theorem t_edge (s : Str) : fn__is_told [.str "edge", .str s] = some (.ok (.bool (wEdge.contains s))) := told_wrd bd_tab.2.1 inl_edge (by unfold tb_WORDS; rw [tab_cons, if_pos rfl]; rfl)
theorem t_first (s : Str) : fn__is_told [.str "first", .str s] = some (.ok (.bool (wFirst.contains s))) := told_wrd bd_tab.2.2.2.2.2.1 inl_first (by unfold tb_WORDS; rw [tab_cons, if_neg (by decide +kernel), tab_cons, if_pos rfl]; rfl)
theorem t_check (s : Str) : fn__is_told [.str "check", .str s] = some (.ok (.bool (wCheck.contains s))) := told_wrd bd_tab.2.2.2.2.2.2.2.1 inl_check (by unfold tb_WORDS; rw [tab_cons, if_neg (by decide +kernel), tab_cons, if_neg (by decide +kernel), tab_cons, if_pos rfl]; rfl)
theorem t_long (i : Int) : fn__is_told [.str "long", .int i] = some (.ok (.bool (btw 2 1000000 i))) := told_num bd_tab.2.2.2.2.2.2.1 (by unfold tb_BOUNDS; rw [tab_cons, if_pos rfl])
theorem t_bits (i : Int) : fn__is_told [.str "bits", .int i] = some (.ok (.bool (btw 1 16 i))) := told_num bd_tab.2.2.2.2.1 (by unfold tb_BOUNDS; rw [tab_cons, if_neg (by decide +kernel), tab_cons, if_pos rfl])
theorem t_stops (i : Int) : fn__is_told [.str "stops", .int i] = some (.ok (.bool (btw 1 2 i))) := told_num bd_tab.2.2.2.2.2.2.2.2 (by unfold tb_BOUNDS; rw [tab_cons, if_neg (by decide +kernel), tab_cons, if_neg (by decide +kernel), tab_cons, if_pos rfl])
/-! the program, shape by shape -/
theorem lines_comp {P fs : D} {f0 : Str} {ps : List D} {as : List FP} (hP : P = .tuple (.str f0 :: ps)) (ht : tabD tb_FORMS (.str f0) = some fs) (hz : zipBD [fs, .tuple ps] = some (as.map fpN)) (hl : ps.length ≤ 100) (hla : as.length ≤ 100) (h : ∀ a ∈ as, inD false (.str a.2.1) linesN = some (.bool a.1)) :
    C_lines_of_0 [.val P, .un, .un, .un] = some (.ok (as.flatMap fpO) [.val P, .un, .un, .un]) := by
  have z0 : atI (PyData.str f0 :: ps) 0 = some (.str f0) := by simp [atI, ixN]
  have zc : cutL (PyData.str f0 :: ps) (some 1) none = ps := by
    have := cut_drop (PyData.str f0 :: ps) 1
    simpa using this
  have hit : mZipB (mCons (mGIx tb_FORMS (mBinL ixD 0 (mPure (.int 0)))) (mCons (mSlL 0 (mPart (mPure (.int 1))) mNoPart) (mPure []))) [.val P, .un, .un, .un] = some (.ok (as.map fpN) [.val P, .un, .un, .un]) := by
    subst hP
    generalize as.map fpN = Z at *
    simp [mSeq, mIf, mBol, mBin, mBinL, mBind, mLift, mPure, mPeek, mVar, ixD, iI, bolD, mAsg, mCall1, mCallN, intD, modD, iIc, cMod, mStore, mStoreO, mDone, gSet, mOwn, mPut, setD, mRet, mDrop, mStuck, mTru, truD, mOrT, mAndT, mNotT, mAnd, mOr, mNot, mIsi, isiT_eq, typD, lenD, mCons, mTup, mLst, mLstN, mVal, oOr, addD, subD, mulD, mulI, iIc, cMul, ltD, leD, gtD, geD, gTupD, gCons2, gsNil, mCallV, mCallB, mRs, tupleD, mRetF, mChain, mScr, mScrLen, mScrIx, mMut, appD, max2D, min2D, mRng1, mRng2, rngD1, rngD2, rngOk, mItems, itemsD, mAsgN, mParEE, mParEN, mUn, negD, mCallN1, listD, unsE, powD, cPow, divD, cDiv, mFor, mSl, mSlL, slD, mNoPart, mPart, intO, mSlN, mSlNL, slN, mRevN, revO, mParNC, andD, orD, xorD, shrD, shlD, cShr, mStepN, mStepNL, stepO, mCatN, mCatNL, catN, mGIx, mZipB, ht, hz, z0, zc]
  exact comp_is (vs := [2, 3]) (ρe := [.val P, .un, .un, .un]) hit (fit_of2 (by rw [List.length_map]; omega)) (lines_go as h)
abbrev Rw := Str × D × Bool
def rwN (a : Rw) : D := .tuple [.str a.1, a.2.1]
def fbad : List (Str × Bool) → D
  | [] => .none
  | (w, b) :: r => if b = true then fbad r else .str w
theorem fault_loop {N P fs : D} {f0 : Str} {ps : List D} {as : List Rw} {ls : D} {s3 s4 s5 : Sl} (hP : P = .tuple (.str f0 :: ps)) (ht : tabD tb_FORMS (.str f0) = some fs) (hz : zipBD [fs, .tuple ps] = some (as.map rwN)) (h : ∀ a ∈ as, fn__is_told [.str a.1, a.2.1] = some (.ok (.bool a.2.2))) :
    ∃ t3 t4, R__fault_of_0 [.val N, .val P, .val ls, s3, s4, s5] = some (.ok (match as.find? (fun a => !a.2.2) with | none => .nx | some a => .rt (.str a.1)) [.val N, .val P, .val ls, t3, t4, s5]) := by
  have z0 : atI (PyData.str f0 :: ps) 0 = some (.str f0) := by simp [atI, ixN]
  have zc : cutL (PyData.str f0 :: ps) (some 1) none = ps := by
    have := cut_drop (PyData.str f0 :: ps) 1
    simpa using this
  have hit : mZipB (mCons (mGIx tb_FORMS (mBinL ixD 1 (mPure (.int 0)))) (mCons (mSlL 1 (mPart (mPure (.int 1))) mNoPart) (mPure []))) [.val N, .val P, .val ls, s3, s4, s5] = some (.ok (as.map rwN) [.val N, .val P, .val ls, s3, s4, s5]) := by
    subst hP
    generalize as.map rwN = Z at *
    simp [mSeq, mIf, mBol, mBin, mBinL, mBind, mLift, mPure, mPeek, mVar, ixD, iI, bolD, mAsg, mCall1, mCallN, intD, modD, iIc, cMod, mStore, mStoreO, mDone, gSet, mOwn, mPut, setD, mRet, mDrop, mStuck, mTru, truD, mOrT, mAndT, mNotT, mAnd, mOr, mNot, mIsi, isiT_eq, typD, lenD, mCons, mTup, mLst, mLstN, mVal, oOr, addD, subD, mulD, mulI, iIc, cMul, ltD, leD, gtD, geD, gTupD, gCons2, gsNil, mCallV, mCallB, mRs, tupleD, mRetF, mChain, mScr, mScrLen, mScrIx, mMut, appD, max2D, min2D, mRng1, mRng2, rngD1, rngD2, rngOk, mItems, itemsD, mAsgN, mParEE, mParEN, mUn, negD, mCallN1, listD, unsE, powD, cPow, divD, cDiv, mFor, mSl, mSlL, slD, mNoPart, mPart, intO, mSlN, mSlNL, slN, mRevN, revO, mParNC, andD, orD, xorD, shrD, shlD, cShr, mStepN, mStepNL, stepO, mCatN, mCatNL, catN, mGIx, mZipB, ht, hz, z0, zc]
  obtain ⟨ρ', ⟨t3, t4, rfl⟩, e⟩ := forL_try (g := gTupD 2 (gCons2 (mStore 3) (gCons2 (mStore 4) gsNil))) (body := L__fault_of_0) rwN (fun a => a.2.2) (fun a => .str a.1) (fun ρ => ∃ t3 t4, ρ = [.val N, .val P, .val ls, t3, t4, s5]) as _ ⟨s3, s4, rfl⟩ (by
    rintro ⟨f, x, b⟩ ha ρ ⟨t3, t4, rfl⟩
    have ht := h _ ha
    dsimp only at ht
    refine ⟨[.val N, .val P, .val ls, .val (.str f), .val x, s5], [.val N, .val P, .val ls, .val (.str f), .val x, s5], by simp [mSeq, mIf, mBol, mBin, mBinL, mBind, mLift, mPure, mPeek, mVar, ixD, iI, bolD, mAsg, mCall1, mCallN, intD, modD, iIc, cMod, mStore, mStoreO, mDone, gSet, mOwn, mPut, setD, mRet, mDrop, mStuck, mTru, truD, mOrT, mAndT, mNotT, mAnd, mOr, mNot, mIsi, isiT_eq, typD, lenD, mCons, mTup, mLst, mLstN, mVal, oOr, addD, subD, mulD, mulI, iIc, cMul, ltD, leD, gtD, geD, gTupD, gCons2, gsNil, mCallV, mCallB, mRs, tupleD, mRetF, mChain, mScr, mScrLen, mScrIx, mMut, appD, max2D, min2D, mRng1, mRng2, rngD1, rngD2, rngOk, mItems, itemsD, mAsgN, mParEE, mParEN, mUn, negD, mCallN1, listD, unsE, powD, cPow, divD, cDiv, mFor, mSl, mSlL, slD, mNoPart, mPart, intO, mSlN, mSlNL, slN, mRevN, revO, mParNC, andD, orD, xorD, shrD, shlD, cShr, mStepN, mStepNL, stepO, mCatN, mCatNL, catN, rwN], ?_, _, _, rfl⟩
    cases b <;> simp [L__fault_of_0, mSeq, mIf, mBol, mBin, mBinL, mBind, mLift, mPure, mPeek, mVar, ixD, iI, bolD, mAsg, mCall1, mCallN, intD, modD, iIc, cMod, mStore, mStoreO, mDone, gSet, mOwn, mPut, setD, mRet, mDrop, mStuck, mTru, truD, mOrT, mAndT, mNotT, mAnd, mOr, mNot, mIsi, isiT_eq, typD, lenD, mCons, mTup, mLst, mLstN, mVal, oOr, addD, subD, mulD, mulI, iIc, cMul, ltD, leD, gtD, geD, gTupD, gCons2, gsNil, mCallV, mCallB, mRs, tupleD, mRetF, mChain, mScr, mScrLen, mScrIx, mMut, appD, max2D, min2D, mRng1, mRng2, rngD1, rngD2, rngOk, mItems, itemsD, mAsgN, mParEE, mParEN, mUn, negD, mCallN1, listD, unsE, powD, cPow, divD, cDiv, mFor, mSl, mSlL, slD, mNoPart, mPart, intO, mSlN, mSlNL, slN, mRevN, revO, mParNC, andD, orD, xorD, shrD, shlD, cShr, mStepN, mStepNL, stepO, mCatN, mCatNL, catN, ht])
  refine ⟨t3, t4, ?_⟩
  unfold R__fault_of_0 mFor
  rw [bind_is hit, e]
  cases List.find? (fun a : Rw => !a.2.2) as <;> rfl

/-! ### the program's verdict -/
theorem rep1 {d : D} {s : Nat} (hs : s ≤ 1000) : repLD (.list [d]) (.int (s : Nat)) = some (List.replicate s d) := by
  have h1 : decide ((s : Int).natAbs < 9223372036854775808) = true := decide_eq_true (by omega)
  have h2 : fit ([d].length * (s : Int).toNat) = true := fit_of2 (by simp; omega)
  have h3 : (List.replicate s [d]).flatten = List.replicate s d := by
    clear h1 h2 hs
    induction s with
    | zero => rfl
    | succ n ih => rw [List.replicate_succ, List.flatten_cons, ih, List.replicate_succ]; rfl
  show (if (decide ((s : Int).natAbs < 9223372036854775808) && fit ([d].length * (s : Int).toNat)) = true then some (List.replicate (s : Int).toNat [d]).flatten else none) = _
  rw [h1, h2, Int.toNat_natCast, h3]; rfl
theorem rep1i {d : D} {k : Int} {s : Nat} (hk : k = s) (hs : s ≤ 1000) : repLD (.list [d]) (.int k) = some (List.replicate s d) := by subst hk; exact rep1 hs
def fbadR (as : List Rw) : D := match as.find? (fun a => !a.2.2) with
  | none => .none
  | some a => .str a.1
theorem fault_comp {N P : D} {ns ls : List Str} {s3 s4 : Sl} (hN : Nm ns N) (hl : ls.length ≤ 100) : C__fault_of_0 [.val N, .val P, .val (NL ls), s3, s4, .un] = some (.ok (ls.map fun x => PyData.bool (ns.contains x)) [.val N, .val P, .val (NL ls), s3, s4, .un]) := by
  have hu : unsE [.val N, .val P, .val (NL ls), s3, s4, .un] [5] = [.val N, .val P, .val (NL ls), s3, s4, .un] := by simp [unsE]
  have hit : mItems (mVar 2) [.val N, .val P, .val (NL ls), s3, s4, .un] = some (.ok (ls.map PyData.str) [.val N, .val P, .val (NL ls), s3, s4, .un]) := it_var rfl rfl
  have := comp_is (vs := [5]) (g := mStore 5) (tt := mPure true) (te := mBinL (inD false) 5 (mPeek 0)) (out := ls.map fun x => PyData.bool (ns.contains x)) (ρe := [.val N, .val P, .val (NL ls), s3, s4, .un]) hit (fit_of2 (by rw [List.length_map]; omega)) (by
    rw [hu]
    refine go_mapA _ _ _ fun x _ => ?_
    have hi := (in_nm hN x).1
    generalize NL ls = G
    refine ⟨[.val N, .val P, .val G, s3, s4, .val (.str x)], [.val N, .val P, .val G, s3, s4, .val (.str x)], by simp [mStore], ?_, by simp [unsE]⟩
    simp only [mBinL, mBind, mPeek, mLift, List.getElem?_cons_succ, List.getElem?_cons_zero, hi])
  rw [hu] at this
  exact this
theorem fault_ok {N P fs : D} {ns ls : List Str} {f0 : Str} {ps : List D} {as : List Rw} (hN : Nm ns N) (ht : tfit P) (hform : formB P = true) (hP : P = .tuple (.str f0 :: ps)) (htab : tabD tb_FORMS (.str f0) = some fs) (hz : zipBD [fs, .tuple ps] = some (as.map rwN)) (h : ∀ a ∈ as, fn__is_told [.str a.1, a.2.1] = some (.ok (.bool a.2.2)))
    (hlines : fn_lines_of [P] = some (.ok (NL ls))) (hl : ls.length ≤ 3) : fn__fault_of [N, P] = some (.ok (verD ls ns (fbadR as))) := by
  have hf := has_form_ok ht
  rw [hform] at hf
  have hc := fault_comp (P := P) (s3 := .un) (s4 := .un) hN (show ls.length ≤ 100 by omega)
  have ha := all_m (fun x : Str => ns.contains x) ls
  obtain ⟨t3, t4, hR⟩ := fault_loop (N := N) (ls := NL ls) (s3 := .un) (s4 := .un) (s5 := .un) hP htab hz h
  have hu : lenUD (NL ls) = some (.int (uniq ls).length) := by
    show (strsD (ls.map PyData.str)).bind (fun xs => if xs.length < 1000 then some (PyData.int (uniq xs).length) else none) = _
    rw [strsD_map]
    show (if ls.length < 1000 then some (PyData.int (uniq ls).length) else none) = _
    rw [if_pos (by omega)]
  have hlen : lenD [NL ls] = some (.int (ls.length : Nat)) := by
    show some (PyData.int ((ls.map PyData.str).length : Nat)) = _
    rw [List.length_map]
  have hlt : ltD (.int (uniq ls).length) (.int (ls.length : Nat)) = some (.bool (!one1 ls)) := by
    rw [← uniq_one hl]
    show some (PyData.bool (decide (((uniq ls).length : Int) < (ls.length : Nat)))) = _
    congr 2; rw [decide_eq_decide]; omega
  have hFl : (match as.find? (fun a => !a.2.2) with | none => Fl.nx | some a => .rt (.str a.1)) = (match fbadR as with | .str w => Fl.rt (.str w) | _ => .nx) := by
    unfold fbadR
    cases as.find? (fun a : Rw => !a.2.2) <;> rfl
  have hV : (fbadR as = .none) ∨ ∃ w, fbadR as = .str w := by
    unfold fbadR
    cases as.find? (fun a : Rw => !a.2.2) with
    | none => exact .inl rfl
    | some a => exact .inr ⟨_, rfl⟩
  have e2 : mBol (mBin ltD (mLenU (mPeek 2)) (mCall1 lenD (mPeek 2))) [.val N, .val P, .val (NL ls), .un, .un, .un] = some (.ok (!one1 ls) [.val N, .val P, .val (NL ls), .un, .un, .un]) := by
    generalize NL ls = G at *
    simp only [mBol, mBin, mLenU, mCall1, mBind, mPeek, mLift, List.getElem?_cons_succ, List.getElem?_cons_zero, hu, hlen, hlt, bolD]
  unfold verD
  unfold fn__fault_of runV m__fault_of
  rw [show env0 6 [N, P] = [.val N, .val P, .un, .un, .un, .un] from rfl]
  rw [seq_nx (ρ' := [.val N, .val P, .un, .un, .un, .un]) (by simp [mSeq, mIf, mBol, mBin, mBinL, mBind, mLift, mPure, mPeek, mVar, ixD, iI, bolD, mAsg, mCall1, mCallN, intD, modD, iIc, cMod, mStore, mStoreO, mDone, gSet, mOwn, mPut, setD, mRet, mDrop, mStuck, mTru, truD, mOrT, mAndT, mNotT, mAnd, mOr, mNot, mIsi, isiT_eq, typD, lenD, mCons, mTup, mLst, mLstN, mVal, oOr, addD, subD, mulD, mulI, iIc, cMul, ltD, leD, gtD, geD, gTupD, gCons2, gsNil, mCallV, mCallB, mRs, tupleD, mRetF, mChain, mScr, mScrLen, mScrIx, mMut, appD, max2D, min2D, mRng1, mRng2, rngD1, rngD2, rngOk, mItems, itemsD, mAsgN, mParEE, mParEN, mUn, negD, mCallN1, listD, unsE, powD, cPow, divD, cDiv, mFor, mSl, mSlL, slD, mNoPart, mPart, intO, mSlN, mSlNL, slN, mRevN, revO, mParNC, andD, orD, xorD, shrD, shlD, cShr, mStepN, mStepNL, stepO, mCatN, mCatNL, catN, hf])]
  rw [seq_nx (ρ' := [.val N, .val P, .val (NL ls), .un, .un, .un]) (by generalize NL ls = G at *; simp [mSeq, mIf, mBol, mBin, mBinL, mBind, mLift, mPure, mPeek, mVar, ixD, iI, bolD, mAsg, mCall1, mCallN, intD, modD, iIc, cMod, mStore, mStoreO, mDone, gSet, mOwn, mPut, setD, mRet, mDrop, mStuck, mTru, truD, mOrT, mAndT, mNotT, mAnd, mOr, mNot, mIsi, isiT_eq, typD, lenD, mCons, mTup, mLst, mLstN, mVal, oOr, addD, subD, mulD, mulI, iIc, cMul, ltD, leD, gtD, geD, gTupD, gCons2, gsNil, mCallV, mCallB, mRs, tupleD, mRetF, mChain, mScr, mScrLen, mScrIx, mMut, appD, max2D, min2D, mRng1, mRng2, rngD1, rngD2, rngOk, mItems, itemsD, mAsgN, mParEE, mParEN, mUn, negD, mCallN1, listD, unsE, powD, cPow, divD, cDiv, mFor, mSl, mSlL, slD, mNoPart, mPart, intO, mSlN, mSlNL, slN, mRevN, revO, mParNC, andD, orD, xorD, shrD, shlD, cShr, mStepN, mStepNL, stepO, mCatN, mCatNL, catN, hlines])]
  generalize mBol (mBin ltD (mLenU (mPeek 2)) (mCall1 lenD (mPeek 2))) = MM at *
  generalize (ls.map fun x => PyData.bool (ns.contains x)) = C at *
  generalize NL ls = G at *
  cases q : ls.all fun x => ns.contains x with
  | false =>
    rw [q] at ha
    rw [if_neg (by decide)]
    rw [seq_rt (d := .str "line") (ρ' := [.val N, .val P, .val G, .un, .un, .un]) (by simp [mSeq, mIf, mBol, mBin, mBinL, mBind, mLift, mPure, mPeek, mVar, ixD, iI, bolD, mAsg, mCall1, mCallN, intD, modD, iIc, cMod, mStore, mStoreO, mDone, gSet, mOwn, mPut, setD, mRet, mDrop, mStuck, mTru, truD, mOrT, mAndT, mNotT, mAnd, mOr, mNot, mIsi, isiT_eq, typD, lenD, mCons, mTup, mLst, mLstN, mVal, oOr, addD, subD, mulD, mulI, iIc, cMul, ltD, leD, gtD, geD, gTupD, gCons2, gsNil, mCallV, mCallB, mRs, tupleD, mRetF, mChain, mScr, mScrLen, mScrIx, mMut, appD, max2D, min2D, mRng1, mRng2, rngD1, rngD2, rngOk, mItems, itemsD, mAsgN, mParEE, mParEN, mUn, negD, mCallN1, listD, unsE, powD, cPow, divD, cDiv, mFor, mSl, mSlL, slD, mNoPart, mPart, intO, mSlN, mSlNL, slN, mRevN, revO, mParNC, andD, orD, xorD, shrD, shlD, cShr, mStepN, mStepNL, stepO, mCatN, mCatNL, catN, hc, ha])]
  | true =>
    rw [q] at ha
    rw [if_pos rfl]
    rw [seq_nx (ρ' := [.val N, .val P, .val G, .un, .un, .un]) (by simp [mSeq, mIf, mBol, mBin, mBinL, mBind, mLift, mPure, mPeek, mVar, ixD, iI, bolD, mAsg, mCall1, mCallN, intD, modD, iIc, cMod, mStore, mStoreO, mDone, gSet, mOwn, mPut, setD, mRet, mDrop, mStuck, mTru, truD, mOrT, mAndT, mNotT, mAnd, mOr, mNot, mIsi, isiT_eq, typD, lenD, mCons, mTup, mLst, mLstN, mVal, oOr, addD, subD, mulD, mulI, iIc, cMul, ltD, leD, gtD, geD, gTupD, gCons2, gsNil, mCallV, mCallB, mRs, tupleD, mRetF, mChain, mScr, mScrLen, mScrIx, mMut, appD, max2D, min2D, mRng1, mRng2, rngD1, rngD2, rngOk, mItems, itemsD, mAsgN, mParEE, mParEN, mUn, negD, mCallN1, listD, unsE, powD, cPow, divD, cDiv, mFor, mSl, mSlL, slD, mNoPart, mPart, intO, mSlN, mSlNL, slN, mRevN, revO, mParNC, andD, orD, xorD, shrD, shlD, cShr, mStepN, mStepNL, stepO, mCatN, mCatNL, catN, hc, ha])]
    cases q2 : one1 ls with
    | false =>
      rw [q2] at e2
      have e2 : MM [.val N, .val P, .val G, .un, .un, .un] = some (.ok true [.val N, .val P, .val G, .un, .un, .un]) := e2
      rw [if_neg (by decide)]
      rw [seq_rt (d := .str "same") (ρ' := [.val N, .val P, .val G, .un, .un, .un]) (by rw [if_t e2]; rfl)]
    | true =>
      rw [q2] at e2
      have e2 : MM [.val N, .val P, .val G, .un, .un, .un] = some (.ok false [.val N, .val P, .val G, .un, .un, .un]) := e2
      rw [if_pos rfl]
      rw [seq_nx (ρ' := [.val N, .val P, .val G, .un, .un, .un]) (by rw [if_f e2]; rfl)]
      rcases hV with e | ⟨w, e⟩
      · have hR : R__fault_of_0 [.val N, .val P, .val G, .un, .un, .un] = some (.ok .nx [.val N, .val P, .val G, t3, t4, .un]) := by
          rw [hR]
          unfold fbadR at e
          cases qq : as.find? (fun a : Rw => !a.2.2) with
          | none => rfl
          | some a => rw [qq] at e; cases e
        rw [e, seq_nx hR]; rfl
      · have hR : R__fault_of_0 [.val N, .val P, .val G, .un, .un, .un] = some (.ok (.rt (.str w)) [.val N, .val P, .val G, t3, t4, .un]) := by
          rw [hR]
          unfold fbadR at e
          cases qq : as.find? (fun a : Rw => !a.2.2) with
          | none => rw [qq] at e; cases e
          | some a => rw [qq] at e; cases e; rfl
        rw [e, seq_rt hR]
/-! ### shape by shape -/
theorem forms_ck : tabD tb_FORMS (.str "clocked") = some (flD flCk) := tab_hit
theorem forms_fr : tabD tb_FORMS (.str "framed") = some (flD flFr) := (tab_mis (by decide +kernel)).trans tab_hit
theorem forms_tw : tabD tb_FORMS (.str "twowire") = some (flD flTw) := (tab_mis (by decide +kernel)).trans ((tab_mis (by decide +kernel)).trans tab_hit)
def linesCk (c d g : Str) : List Str := [c, d] ++ (if g = "" then [] else [g])
theorem lines_tw {c d : Str} : fn_lines_of [twD c d] = some (.ok (NL [c, d])) := by
  have hc := lines_comp (P := twD c d) (f0 := "twowire") (ps := [.str c, .str d]) (as := [(true, "clock", .str c), (true, "data", .str d)]) rfl forms_tw rfl (by simp) (by simp) (by
    intro a ha
    simp only [List.mem_cons, List.not_mem_nil, or_false] at ha
    rcases ha with rfl | rfl
    · exact inl_clock
    · exact inl_data)
  have e : ([(true, ("clock" : Str), PyData.str c), (true, "data", .str d)] : List FP).flatMap fpO = [.str c, .str d] := rfl
  rw [e] at hc
  have h : eqD (.str "twowire") (.str "clocked") = some (.bool false) := eqF (by decide +kernel)
  have z0 : atI [PyData.str "twowire", .str c, .str d] 0 = some (.str "twowire") := rfl
  unfold twD at *
  unfold NL
  simp [fn_lines_of, runV, m_lines_of, env0, mSeq, mIf, mBol, mBin, mBinL, mBind, mLift, mPure, mPeek, mVar, ixD, iI, bolD, mAsg, mCall1, mCallN, intD, modD, iIc, cMod, mStore, mStoreO, mDone, gSet, mOwn, mPut, setD, mRet, mDrop, mStuck, mTru, truD, mOrT, mAndT, mNotT, mAnd, mOr, mNot, mIsi, isiT_eq, typD, lenD, mCons, mTup, mLst, mLstN, mVal, oOr, addD, subD, mulD, mulI, iIc, cMul, ltD, leD, gtD, geD, gTupD, gCons2, gsNil, mCallV, mCallB, mRs, tupleD, mRetF, mChain, mScr, mScrLen, mScrIx, mMut, appD, max2D, min2D, mRng1, mRng2, rngD1, rngD2, rngOk, mItems, itemsD, mAsgN, mParEE, mParEN, mUn, negD, mCallN1, listD, unsE, powD, cPow, divD, cDiv, mFor, mSl, mSlL, slD, mNoPart, mPart, intO, mSlN, mSlNL, slN, mRevN, revO, mParNC, andD, orD, xorD, shrD, shlD, cShr, mStepN, mStepNL, stepO, mCatN, mCatNL, catN, hc, h, z0]
theorem lines_fr {d c : Str} {l b s : Int} : fn_lines_of [frD d l b c s] = some (.ok (NL [d])) := by
  have hc := lines_comp (P := frD d l b c s) (f0 := "framed") (ps := [.str d, .int l, .int b, .str c, .int s]) (as := [(true, "data", .str d), (false, "long", .int l), (false, "bits", .int b), (false, "check", .str c), (false, "stops", .int s)]) rfl forms_fr rfl (by simp) (by simp) (by
    intro a ha
    simp only [List.mem_cons, List.not_mem_nil, or_false] at ha
    rcases ha with rfl | rfl | rfl | rfl | rfl
    · exact inl_data
    · exact inl_long
    · exact inl_bits
    · exact inl_check
    · exact inl_stops)
  have e : ([(true, ("data" : Str), PyData.str d), (false, "long", .int l), (false, "bits", .int b), (false, "check", .str c), (false, "stops", .int s)] : List FP).flatMap fpO = [.str d] := rfl
  rw [e] at hc
  have h : eqD (.str "framed") (.str "clocked") = some (.bool false) := eqF (by decide +kernel)
  have z0 : atI [PyData.str "framed", .str d, .int l, .int b, .str c, .int s] 0 = some (.str "framed") := rfl
  unfold frD at *
  unfold NL
  simp [fn_lines_of, runV, m_lines_of, env0, mSeq, mIf, mBol, mBin, mBinL, mBind, mLift, mPure, mPeek, mVar, ixD, iI, bolD, mAsg, mCall1, mCallN, intD, modD, iIc, cMod, mStore, mStoreO, mDone, gSet, mOwn, mPut, setD, mRet, mDrop, mStuck, mTru, truD, mOrT, mAndT, mNotT, mAnd, mOr, mNot, mIsi, isiT_eq, typD, lenD, mCons, mTup, mLst, mLstN, mVal, oOr, addD, subD, mulD, mulI, iIc, cMul, ltD, leD, gtD, geD, gTupD, gCons2, gsNil, mCallV, mCallB, mRs, tupleD, mRetF, mChain, mScr, mScrLen, mScrIx, mMut, appD, max2D, min2D, mRng1, mRng2, rngD1, rngD2, rngOk, mItems, itemsD, mAsgN, mParEE, mParEN, mUn, negD, mCallN1, listD, unsE, powD, cPow, divD, cDiv, mFor, mSl, mSlL, slD, mNoPart, mPart, intO, mSlN, mSlNL, slN, mRevN, revO, mParNC, andD, orD, xorD, shrD, shlD, cShr, mStepN, mStepNL, stepO, mCatN, mCatNL, catN, hc, h, z0]
theorem lines_ck {c e d g f : Str} {b : Int} (h2 : PyData.strOk g = true) : fn_lines_of [ckD c e d g b f] = some (.ok (NL (linesCk c d g))) := by
  have hc := lines_comp (P := ckD c e d g b f) (f0 := "clocked") (ps := [.str c, .str e, .str d, .str g, .int b, .str f]) (as := [(true, "clock", .str c), (false, "edge", .str e), (true, "data", .str d), (true, "gate", .str g), (false, "bits", .int b), (false, "first", .str f)]) rfl forms_ck rfl (by simp) (by simp) (by
    intro a ha
    simp only [List.mem_cons, List.not_mem_nil, or_false] at ha
    rcases ha with rfl | rfl | rfl | rfl | rfl | rfl
    · exact inl_clock
    · exact inl_edge
    · exact inl_data
    · exact inl_gate
    · exact inl_bits
    · exact inl_first)
  have e' : ([(true, ("clock" : Str), PyData.str c), (false, "edge", .str e), (true, "data", .str d), (true, "gate", .str g), (false, "bits", .int b), (false, "first", .str f)] : List FP).flatMap fpO = [.str c, .str d, .str g] := rfl
  rw [e'] at hc
  have h : eqD (.str "clocked") (.str "clocked") = some (.bool true) := eq_str _
  have hq : eqD (.str g) (.str "") = some (.bool (g == (("" : String) : Str))) := eqS _ _ h2 (strOk_of _)
  have hcut : cutL [PyData.str c, .str d, .str g] none (some (-1)) = [.str c, .str d] := rfl
  have z0 : atI [PyData.str "clocked", .str c, .str e, .str d, .str g, .int b, .str f] 0 = some (.str "clocked") := rfl
  have zm : atI [PyData.str c, .str d, .str g] (-1) = some (.str g) := rfl
  unfold ckD at *
  unfold linesCk NL
  by_cases hn : g = ""
  · have hn' : (g == (("" : String) : Str)) = true := by rw [hn]; exact beq_self_eq_true _
    rw [hn'] at hq
    rw [if_pos hn]
    simp [fn_lines_of, runV, m_lines_of, env0, mSeq, mIf, mBol, mBin, mBinL, mBind, mLift, mPure, mPeek, mVar, ixD, iI, bolD, mAsg, mCall1, mCallN, intD, modD, iIc, cMod, mStore, mStoreO, mDone, gSet, mOwn, mPut, setD, mRet, mDrop, mStuck, mTru, truD, mOrT, mAndT, mNotT, mAnd, mOr, mNot, mIsi, isiT_eq, typD, lenD, mCons, mTup, mLst, mLstN, mVal, oOr, addD, subD, mulD, mulI, iIc, cMul, ltD, leD, gtD, geD, gTupD, gCons2, gsNil, mCallV, mCallB, mRs, tupleD, mRetF, mChain, mScr, mScrLen, mScrIx, mMut, appD, max2D, min2D, mRng1, mRng2, rngD1, rngD2, rngOk, mItems, itemsD, mAsgN, mParEE, mParEN, mUn, negD, mCallN1, listD, unsE, powD, cPow, divD, cDiv, mFor, mSl, mSlL, slD, mNoPart, mPart, intO, mSlN, mSlNL, slN, mRevN, revO, mParNC, andD, orD, xorD, shrD, shlD, cShr, mStepN, mStepNL, stepO, mCatN, mCatNL, catN, hc, h, hq, hcut, z0, zm]
  · have hn' : (g == (("" : String) : Str)) = false := beq_false_of_ne hn
    rw [hn'] at hq
    rw [if_neg hn]
    simp [fn_lines_of, runV, m_lines_of, env0, mSeq, mIf, mBol, mBin, mBinL, mBind, mLift, mPure, mPeek, mVar, ixD, iI, bolD, mAsg, mCall1, mCallN, intD, modD, iIc, cMod, mStore, mStoreO, mDone, gSet, mOwn, mPut, setD, mRet, mDrop, mStuck, mTru, truD, mOrT, mAndT, mNotT, mAnd, mOr, mNot, mIsi, isiT_eq, typD, lenD, mCons, mTup, mLst, mLstN, mVal, oOr, addD, subD, mulD, mulI, iIc, cMul, ltD, leD, gtD, geD, gTupD, gCons2, gsNil, mCallV, mCallB, mRs, tupleD, mRetF, mChain, mScr, mScrLen, mScrIx, mMut, appD, max2D, min2D, mRng1, mRng2, rngD1, rngD2, rngOk, mItems, itemsD, mAsgN, mParEE, mParEN, mUn, negD, mCallN1, listD, unsE, powD, cPow, divD, cDiv, mFor, mSl, mSlL, slD, mNoPart, mPart, intO, mSlN, mSlNL, slN, mRevN, revO, mParNC, andD, orD, xorD, shrD, shlD, cShr, mStepN, mStepNL, stepO, mCatN, mCatNL, catN, hc, h, hq, hcut, z0, zm]
def rowsCk (e : Str) (b : Int) (f : Str) : List (Str × Bool) := [("edge", wEdge.contains e), ("bits", btw 1 16 b), ("first", wFirst.contains f)]
def rowsFr (l b : Int) (c : Str) (s : Int) : List (Str × Bool) := [("long", btw 2 1000000 l), ("bits", btw 1 16 b), ("check", wCheck.contains c), ("stops", btw 1 2 s)]
section
variable {N : D} {ns : List Str}
theorem form_ck {c e d g f : Str} {b : Int} : formB (ckD c e d g b f) = true := by
  obtain ⟨b1, b2, b3, b4, b5, b6, b7, b8, b9⟩ := bd_tab
  show (match fldsOf "clocked" with | some fl => decide ([PyData.str c, .str e, .str d, .str g, .int b, .str f].length = fl.length) && (fl.zip [PyData.str c, .str e, .str d, .str g, .int b, .str f]).all fun p => sortB p.1 p.2 | none => false) = true
  rw [show fldsOf "clocked" = some flCk from if_pos rfl]
  simp [flCk, sortB, b1, b2, b3, b4, b5, b6, isS, isW]
theorem form_fr {d c : Str} {l b s : Int} : formB (frD d l b c s) = true := by
  obtain ⟨b1, b2, b3, b4, b5, b6, b7, b8, b9⟩ := bd_tab
  show (match fldsOf "framed" with | some fl => decide ([PyData.str d, .int l, .int b, .str c, .int s].length = fl.length) && (fl.zip [PyData.str d, .int l, .int b, .str c, .int s]).all fun p => sortB p.1 p.2 | none => false) = true
  rw [show fldsOf "framed" = some flFr from by unfold fldsOf; rw [if_neg (by decide +kernel), if_pos rfl]]
  simp [flFr, sortB, b3, b5, b7, b8, b9, isS, isW]
theorem form_tw {c d : Str} : formB (twD c d) = true := by
  obtain ⟨b1, b2, b3, b4, b5, b6, b7, b8, b9⟩ := bd_tab
  show (match fldsOf "twowire" with | some fl => decide ([PyData.str c, .str d].length = fl.length) && (fl.zip [PyData.str c, .str d]).all fun p => sortB p.1 p.2 | none => false) = true
  rw [show fldsOf "twowire" = some flTw from by unfold fldsOf; rw [if_neg (by decide +kernel), if_neg (by decide +kernel), if_pos rfl]]
  simp [flTw, sortB, b1, b3, isS]
theorem fbR6 (x y z : Bool) (s0 s1 s2 s3 s4 s5 : Str) (d0 d1 d2 d3 d4 d5 : D) : fbadR [(s0, d0, true), (s1, d1, x), (s2, d2, true), (s3, d3, true), (s4, d4, y), (s5, d5, z)] = fbad [(s1, x), (s4, y), (s5, z)] := by
  cases x <;> cases y <;> cases z <;> rfl
theorem fbR5 (w x y z : Bool) (s0 s1 s2 s3 s4 : Str) (d0 d1 d2 d3 d4 : D) : fbadR [(s0, d0, true), (s1, d1, w), (s2, d2, x), (s3, d3, y), (s4, d4, z)] = fbad [(s1, w), (s2, x), (s3, y), (s4, z)] := by
  cases w <;> cases x <;> cases y <;> cases z <;> rfl
theorem fault_ck {c e d g f : Str} {b : Int} (hN : Nm ns N) (hg : PyData.strOk g = true) : fn__fault_of [N, ckD c e d g b f] = some (.ok (verD (linesCk c d g) ns (fbad (rowsCk e b f)))) := by
  have h := fault_ok (P := ckD c e d g b f) (ls := linesCk c d g) (f0 := "clocked") (ps := [.str c, .str e, .str d, .str g, .int b, .str f]) (as := [("clock", .str c, true), ("edge", .str e, wEdge.contains e), ("data", .str d, true), ("gate", .str g, true), ("bits", .int b, btw 1 16 b), ("first", .str f, wFirst.contains f)]) hN (by show (_ : Nat) ≤ 1000000; simp) form_ck rfl forms_ck rfl (by
    intro a ha
    simp only [List.mem_cons, List.not_mem_nil, or_false] at ha
    rcases ha with rfl | rfl | rfl | rfl | rfl | rfl
    · exact t_clock _
    · exact t_edge _
    · exact t_data _
    · exact t_gate _
    · exact t_bits _
    · exact t_first _) (lines_ck hg) (by unfold linesCk; split <;> simp)
  rw [h, fbR6]; rfl
theorem fault_fr {d c : Str} {l b s : Int} (hN : Nm ns N) : fn__fault_of [N, frD d l b c s] = some (.ok (verD [d] ns (fbad (rowsFr l b c s)))) := by
  have h := fault_ok (P := frD d l b c s) (ls := [d]) (f0 := "framed") (ps := [.str d, .int l, .int b, .str c, .int s]) (as := [("data", .str d, true), ("long", .int l, btw 2 1000000 l), ("bits", .int b, btw 1 16 b), ("check", .str c, wCheck.contains c), ("stops", .int s, btw 1 2 s)]) hN (by show (_ : Nat) ≤ 1000000; simp) form_fr rfl forms_fr rfl (by
    intro a ha
    simp only [List.mem_cons, List.not_mem_nil, or_false] at ha
    rcases ha with rfl | rfl | rfl | rfl | rfl
    · exact t_data _
    · exact t_long _
    · exact t_bits _
    · exact t_check _
    · exact t_stops _) lines_fr (by simp)
  rw [h, fbR5]; rfl
theorem fault_tw {c d : Str} (hN : Nm ns N) : fn__fault_of [N, twD c d] = some (.ok (verD [c, d] ns .none)) := by
  exact fault_ok (P := twD c d) (ls := [c, d]) (f0 := "twowire") (ps := [.str c, .str d]) (as := [("clock", .str c, true), ("data", .str d, true)]) hN (by show (_ : Nat) ≤ 1000000; simp) form_tw rfl forms_tw rfl (by
    intro a ha
    simp only [List.mem_cons, List.not_mem_nil, or_false] at ha
    rcases ha with rfl | rfl
    · exact t_clock _
    · exact t_data _) lines_tw (by simp)
end

/-! ### figures: the number that a number's text writes -/
def ntx (n : Int) : Str := Str.ofString (toString n)
theorem dig_head : ∀ m : Nat, 1 ≤ m → ∃ c r, Nat.toDigits 10 m = c :: r ∧ c ≠ '0' := by
  intro m
  induction m using Nat.strongRecOn with
  | _ m ih =>
    intro hm
    by_cases h : m < 10
    · rw [Nat.toDigits_of_lt_base h]
      refine ⟨_, [], rfl, ?_⟩
      have : ∀ k : Fin 10, 1 ≤ k.val → Nat.digitChar k.val ≠ '0' := by decide
      exact this ⟨m, h⟩ hm
    · have hm2 : m % 10 < 10 := Nat.mod_lt m (by decide)
      have t : Nat.toDigits 10 (m / 10) ++ Nat.toDigits 10 (m % 10) = Nat.toDigits 10 (10 * (m / 10) + m % 10) := Nat.toDigits_append_toDigits (by decide) (by omega) hm2
      rw [Nat.div_add_mod] at t
      obtain ⟨c, r, e, hc⟩ := ih (m / 10) (by omega) (by omega)
      exact ⟨c, r ++ Nat.toDigits 10 (m % 10), by rw [← t, e]; rfl, hc⟩
theorem ntx_facts {n : Int} (h1 : 1 ≤ n) (h2 : n < 10 ^ 10) : 1 ≤ (ntx n).length ∧ (ntx n).length ≤ 10 ∧ (∀ c ∈ (ntx n).cps.toList, 48 ≤ c ∧ c ≤ 57) ∧ ∃ c r, (ntx n).cps.toList = c :: r ∧ c ≠ 48 := by
  obtain ⟨m, rfl⟩ := Int.eq_ofNat_of_zero_le (show 0 ≤ n by omega)
  have hl : (ntx (m : Nat)).length ≤ 10 := PySem.W.KT.len_num (by omega) h2
  have hs : (ntx (m : Nat)).cps.toList = (Nat.toDigits 10 m).map Char.toNat := PySem.W.KIN.signs_num m
  obtain ⟨c, r, e, hc⟩ := dig_head m (by omega)
  have hhd : (ntx (m : Nat)).cps.toList = c.toNat :: r.map Char.toNat := by rw [hs, e]; rfl
  have hlen : (ntx (m : Nat)).length = (ntx (m : Nat)).cps.toList.length := by simp [Str.length]
  refine ⟨by rw [hlen, hhd, List.length_cons]; omega, hl, fun x hx => ?_, c.toNat, _, hhd, fun z => hc ?_⟩
  · rw [hs] at hx
    obtain ⟨ch, hch, e⟩ := List.mem_map.mp hx
    have r := PyProof.Rows.digit_range (Nat.isDigit_of_mem_toDigits (by decide) (by decide) hch)
    rw [← e]
    exact r
  · have : Char.ofNat c.toNat = c := Char.ofNat_toNat c
    rw [z] at this
    rw [← this]
theorem sgn_cmp (c k : Nat) : (!decide ([c] < [k])) = decide (k ≤ c) := by
  have : ([c] < [k]) ↔ c < k := by rw [List.cons_lt_cons_iff]; simp
  by_cases h : c < k
  · rw [decide_eq_true (this.mpr h), decide_eq_false (by omega)]; rfl
  · rw [decide_eq_false (fun z => h (this.mp z)), decide_eq_true (by omega)]; rfl
theorem leS_0 (c : Nat) : leS (.str "0") (.str ⟨#[c]⟩) = some (.bool (decide (48 ≤ c))) := by
  show some (PyData.bool (!decide ([c] < ((("0" : String) : Str)).cps.toList))) = _
  rw [show ((("0" : String) : Str)).cps.toList = [48] by decide +kernel, sgn_cmp]
theorem leS_9 (c : Nat) : leS (.str ⟨#[c]⟩) (.str "9") = some (.bool (decide (c ≤ 57))) := by
  show some (PyData.bool (!decide (((("9" : String) : Str)).cps.toList < [c]))) = _
  rw [show ((("9" : String) : Str)).cps.toList = [57] by decide +kernel, sgn_cmp]
theorem at0c (x : D) (R : List D) : atI (x :: R) 0 = some x := atI_nat' (by decide) rfl
/-! ### figures of any word -/
def digB (c : Nat) : Bool := decide (48 ≤ c) && decide (c ≤ 57)
theorem figs_comp {z : Str} (hz : z.length ≤ 1000000) : C_figures_0 [.val (.str z), .un] = some (.ok (z.cps.toList.map fun c => PyData.bool (digB c)) [.val (.str z), .un]) := by
  have hit : mSigns (mVar 0) [.val (.str z), .un] = some (.ok (z.cps.toList.map fun c => PyData.str ⟨#[c]⟩) [.val (.str z), .un]) := rfl
  refine comp_is (vs := [1]) (ρe := [.val (.str z), .un]) hit (fit_of2 (by rw [List.length_map, Array.length_toList]; exact hz)) ?_
  refine go_mapA _ _ _ fun c _ => ⟨[.val (.str z), .val (.str ⟨#[c]⟩)], [.val (.str z), .val (.str ⟨#[c]⟩)], by simp [mStore, unsE], ?_, by simp [unsE]⟩
  have h1 := leS_0 c
  have h2 := leS_9 c
  by_cases h : 48 ≤ c
  · rw [decide_eq_true h] at h1
    simp only [mChain, mBind, mPure, mVar, mLift, List.getElem?_cons_succ, List.getElem?_cons_zero, h1, h2, bolD, if_true, digB, decide_eq_true h, Bool.true_and]
  · rw [decide_eq_false h] at h1
    simp only [mChain, mBind, mPure, mVar, mLift, List.getElem?_cons_succ, List.getElem?_cons_zero, h1, bolD, digB, decide_eq_false h, Bool.false_and, Bool.false_eq_true, if_false]
/-- a word's number: figures alone, no nought ahead of others -/
def numOf (z : Str) : Option Int := if z.cps.toList.all digB = true ∧ 1 ≤ z.length ∧ (z.cps.toList.head? ≠ some 48 ∨ z.length = 1) then some ((PySem.NumText.digitsVal z.cps.toList : Nat) : Int) else none
def optD : Option Int → D
  | some n => .int n
  | none => .none
theorem int_of {z : Str} (h : z.cps.toList.all digB = true) (h1 : 1 ≤ z.length) (h2 : z.length ≤ 640) : intOfD [.str z] = some (.int ((PySem.NumText.digitsVal z.cps.toList : Nat) : Int)) := by
  have hd : PySem.NumText.AllDigits z.cps.toList := fun c hc => by
    have := List.all_eq_true.mp h c hc
    unfold digB at this
    rw [Bool.and_eq_true] at this
    exact ⟨of_decide_eq_true this.1, of_decide_eq_true this.2⟩
  have hn : z.cps.toList ≠ [] := fun e => by
    have : z.cps.toList.length = z.length := by simp [Str.length]
    rw [e] at this
    simp at this
    omega
  show (if z.length ≤ 640 then (PySem.intText? z).map PyData.int else none) = _
  rw [if_pos h2, PySem.intText_digits hd hn (by omega)]; rfl
theorem one_sign_eq {z : Str} {c : Nat} (h : z.cps.toList = [c]) : z = ⟨#[c]⟩ := by
  obtain ⟨a⟩ := z
  show (⟨a⟩ : Str) = _
  congr 1
  exact Array.toList_inj.mp h
theorem figures_gen {z : Str} (hz : asc z) (hl : z.length ≤ 1000000) : fn_figures [.str z] = some (.ok (optD (if z.length ≤ 10 then numOf z else none))) := by
  have hlen := len_str (z := z) hl
  have hLz : z.cps.toList.length = z.length := by simp [Str.length]
  have hch := chain_le (x := (z.length : Nat)) (a := 1) (b := 10) (ma := mPure (.int 1)) (mb := mCall1 lenD (mPeek 0)) (mc := mPure (.int 10)) (ρ := [.val (.str z), .un]) rfl (by
    simp only [mCall1, mBind, mPeek, mLift, List.getElem?_cons_zero, hlen]) rfl
  have e10 : btw 1 10 (z.length : Nat) = (decide (1 ≤ z.length) && decide (z.length ≤ 10)) := by
    unfold btw
    congr 1 <;> rw [decide_eq_decide] <;> omega
  rw [e10] at hch
  unfold fn_figures runV m_figures
  rw [show env0 2 [PyData.str z] = [.val (.str z), .un] from rfl]
  generalize hMC : mChain leD leD (mPure (.int 1)) (mCall1 lenD (mPeek 0)) (mPure (.int 10)) = MC at *
  by_cases c1 : 1 ≤ z.length ∧ z.length ≤ 10
  · rw [decide_eq_true c1.1, decide_eq_true c1.2, Bool.and_self] at hch
    rw [if_pos c1.2]
    obtain ⟨c, r, hcr⟩ : ∃ c r, z.cps.toList = c :: r := by
      cases h : z.cps.toList with
      | nil => rw [h] at hLz; simp at hLz; omega
      | cons c r => exact ⟨c, r, rfl⟩
    have hx0 : ixD (.str z) (.int 0) = some (.str ⟨#[c]⟩) := by
      have f : fit z.length = true := fit_of2 hl
      show (if fit z.length = true then (atI z.cps.toList 0).map fun c => PyData.str ⟨#[c]⟩ else none) = _
      rw [if_pos f, hcr, show atI (c :: r) 0 = some c from atI_nat' (by decide) rfl]; rfl
    have hcl : c < 128 := hz c (by rw [hcr]; exact List.mem_cons_self)
    have e0s : ((("0" : String) : Str)) = ⟨#[48]⟩ := by decide +kernel
    have he0 : eqD (.str ⟨#[c]⟩) (.str "0") = some (.bool (decide (c = 48))) := by
      rw [eqS _ _ (asc_ok fun x hx => by have : x = c := by simpa using hx
                                         omega) (strOk_of _)]
      congr 2
      by_cases q : c = 48
      · subst q; decide +kernel
      · rw [decide_eq_false q]
        refine beq_false_of_ne fun e => q ?_
        rw [e0s] at e
        simpa using e
    have hn0 : neD (.str z) (.str "0") = some (.bool (!(z == (("0" : String) : Str)))) := by
      have s1 : SeqAt.shaped (.str z) = true := by simp [SeqAt.shaped, PyData.canLay0, PyData.depth, asc_ok hz]
      simp [neD, s1, sh_str, PyData.eqv]
    have hcomp := figs_comp hl
    have hall := all_m digB z.cps.toList
    have hnum : numOf z = if z.cps.toList.all digB = true ∧ (c ≠ 48 ∨ z = "0") then some ((PySem.NumText.digitsVal z.cps.toList : Nat) : Int) else none := by
      unfold numOf
      congr 1
      refine propext ⟨fun h => ⟨h.1, ?_⟩, fun h => ⟨h.1, c1.1, ?_⟩⟩
      · rcases h.2.2 with q | q
        · left; intro e; rw [hcr, e] at q; exact q rfl
        · by_cases e : c = 48
          · right
            have : r = [] := by rw [hcr, List.length_cons] at hLz; exact List.length_eq_zero_iff.mp (by omega)
            rw [this, e] at hcr
            rw [e0s]; exact one_sign_eq hcr
          · exact .inl e
      · rcases h.2 with q | q
        · left; rw [hcr]; intro e; exact q (Option.some.inj e)
        · right; rw [q]; rfl
    generalize z.cps.toList.map (fun c => PyData.bool (digB c)) = C at *
    have int1 : z.cps.toList.all digB = true → intOfD [.str z] = some (.int ((PySem.NumText.digitsVal z.cps.toList : Nat) : Int)) := fun h => int_of h c1.1 (by omega)
    rw [hnum]
    by_cases k : c = 48 ∧ z ≠ "0"
    · rw [decide_eq_true k.1] at he0
      rw [beq_false_of_ne k.2] at hn0
      rw [if_neg (fun h => h.2.elim (fun q => q k.1) (fun q => k.2 q))]
      rw [seq_rt (d := .none) (ρ' := [.val (.str z), .un]) (by simp only [mIf, mOrT, mNotT, mAndT, mBol, mBin, mBinL, mBind, mPure, mPeek, mLift, List.getElem?_cons_zero, hch, bolD, hx0, he0, hn0, Bool.not_true, Bool.not_false, if_true, if_false, Bool.false_eq_true, mRet])]
      rfl
    · have hcond : mIf (mOrT (mNotT (mBol MC)) ((mAndT (mBol (mBin eqD (mBinL ixD 0 (mPure (.int 0))) (mPure (.str "0")))) ((mBol (mBinL neD 0 (mPure (.str "0")))))))) (mRet (mPure .none)) (mPure .nx) [.val (.str z), .un] = some (.ok .nx [.val (.str z), .un]) := by
        by_cases q : c = 48
        · have qz : z = "0" := by
            by_cases w : z = "0"
            · exact w
            · exact (k ⟨q, w⟩).elim
          rw [decide_eq_true q] at he0
          rw [show (z == (("0" : String) : Str)) = true from by rw [qz]; exact beq_self_eq_true _] at hn0
          simp only [mIf, mOrT, mNotT, mAndT, mBol, mBin, mBinL, mBind, mPure, mPeek, mLift, List.getElem?_cons_zero, hch, bolD, hx0, he0, hn0, Bool.not_true, if_true, if_false, Bool.false_eq_true]
        · rw [decide_eq_false q] at he0
          simp only [mIf, mOrT, mNotT, mAndT, mBol, mBin, mBinL, mBind, mPure, mPeek, mLift, List.getElem?_cons_zero, hch, bolD, hx0, he0, Bool.not_true, if_false, Bool.false_eq_true]
      have hor : c ≠ 48 ∨ z = "0" := by
        by_cases q : c = 48
        · exact .inr (by by_cases w : z = "0"; exact w; exact (k ⟨q, w⟩).elim)
        · exact .inl q
      rw [seq_nx hcond]
      cases hA : z.cps.toList.all digB with
      | false =>
        rw [hA] at hall
        rw [if_neg (fun h => by cases h.1)]
        rw [seq_rt (d := .none) (ρ' := [.val (.str z), .un]) (by simp [mSeq, mIf, mBol, mBin, mBinL, mBind, mLift, mPure, mPeek, mVar, ixD, iI, bolD, mAsg, mCall1, mCallN, intD, modD, iIc, cMod, mStore, mStoreO, mDone, gSet, mOwn, mPut, setD, mRet, mDrop, mStuck, mTru, truD, mOrT, mAndT, mNotT, mAnd, mOr, mNot, mIsi, isiT_eq, typD, lenD, mCons, mTup, mLst, mLstN, mVal, oOr, addD, subD, mulD, mulI, iIc, cMul, ltD, leD, gtD, geD, gTupD, gCons2, gsNil, mCallV, mCallB, mRs, tupleD, mRetF, mChain, mScr, mScrLen, mScrIx, mMut, appD, max2D, min2D, mRng1, mRng2, rngD1, rngD2, rngOk, mItems, itemsD, mAsgN, mParEE, mParEN, mUn, negD, mCallN1, listD, unsE, powD, cPow, divD, cDiv, mFor, mSl, mSlL, slD, mNoPart, mPart, intO, mSlN, mSlNL, slN, mRevN, revO, mParNC, andD, orD, xorD, shrD, shlD, cShr, mStepN, mStepNL, stepO, mCatN, mCatNL, catN, hcomp, hall])]
        rfl
      | true =>
        rw [hA] at hall
        rw [if_pos ⟨rfl, hor⟩]
        rw [seq_nx (ρ' := [.val (.str z), .un]) (by simp [mSeq, mIf, mBol, mBin, mBinL, mBind, mLift, mPure, mPeek, mVar, ixD, iI, bolD, mAsg, mCall1, mCallN, intD, modD, iIc, cMod, mStore, mStoreO, mDone, gSet, mOwn, mPut, setD, mRet, mDrop, mStuck, mTru, truD, mOrT, mAndT, mNotT, mAnd, mOr, mNot, mIsi, isiT_eq, typD, lenD, mCons, mTup, mLst, mLstN, mVal, oOr, addD, subD, mulD, mulI, iIc, cMul, ltD, leD, gtD, geD, gTupD, gCons2, gsNil, mCallV, mCallB, mRs, tupleD, mRetF, mChain, mScr, mScrLen, mScrIx, mMut, appD, max2D, min2D, mRng1, mRng2, rngD1, rngD2, rngOk, mItems, itemsD, mAsgN, mParEE, mParEN, mUn, negD, mCallN1, listD, unsE, powD, cPow, divD, cDiv, mFor, mSl, mSlL, slD, mNoPart, mPart, intO, mSlN, mSlNL, slN, mRevN, revO, mParNC, andD, orD, xorD, shrD, shlD, cShr, mStepN, mStepNL, stepO, mCatN, mCatNL, catN, hcomp, hall])]
        have hi := int1 hA
        have : mRet (mCall1 intOfD (mPeek 0)) [.val (.str z), .un] = some (.ok (.rt (.int ((PySem.NumText.digitsVal z.cps.toList : Nat) : Int))) [.val (.str z), .un]) := by
          simp only [mRet, mCall1, mBind, mPure, mPeek, mLift, List.getElem?_cons_zero, hi]
        rw [this]; rfl
  · have hb : (decide (1 ≤ z.length) && decide (z.length ≤ 10)) = false := by
      by_cases q : 1 ≤ z.length
      · rw [decide_eq_true q, decide_eq_false (fun w => c1 ⟨q, w⟩)]; rfl
      · rw [decide_eq_false q]; rfl
    rw [hb] at hch
    have hn : (if z.length ≤ 10 then numOf z else none) = none := by
      split
      · unfold numOf
        exact if_neg fun h => c1 ⟨h.2.1, by assumption⟩
      · rfl
    rw [hn]
    rw [seq_rt (d := .none) (ρ' := [.val (.str z), .un]) (by simp only [mIf, mOrT, mNotT, mBol, mBind, mPure, hch, mLift, bolD, Bool.not_false, if_true, mRet])]
    rfl

def inB (lo hi : Int) (z : Str) : Option Int := match numOf z with
  | some v => if btw lo hi v = true then some v else none
  | none => none

/-! ### words of many figures; names by the law -/
theorem dv_ge {c : Nat} (h : 49 ≤ c) : ∀ (n : Nat) (cs : List Nat), cs.length = n → 10 ^ n ≤ PySem.NumText.digitsVal (c :: cs)
  | 0, cs, e => by
    rw [List.length_eq_zero_iff.mp e]
    show 1 ≤ 0 * 10 + (c - 48)
    omega
  | n + 1, cs, e => by
    rcases List.eq_nil_or_concat cs with rfl | ⟨ini, x, rfl⟩
    · cases e
    · rw [List.concat_eq_append] at *
      have hl : ini.length = n := by simpa using e
      have ih := dv_ge h n ini hl
      rw [show c :: (ini ++ [x]) = (c :: ini) ++ [x] from rfl, PySem.NumText.digitsVal_snoc, Nat.pow_succ]
      omega
theorem num_short {z : Str} {v : Int} (h : numOf z = some v) (hv : v < 10000000000) : z.length ≤ 10 := by
  unfold numOf at h
  split at h
  · rename_i q
    have hv' := Option.some.inj h
    have hL : z.cps.toList.length = z.length := by simp [Str.length]
    rcases Nat.lt_or_ge 10 z.length with k | k
    · exfalso
      cases hcs : z.cps.toList with
      | nil => rw [hcs] at hL; simp at hL; omega
      | cons c r =>
        rw [hcs] at q hv' hL
        have h1 : digB c = true := by have := q.1; rw [List.all_cons, Bool.and_eq_true] at this; exact this.1
        unfold digB at h1
        rw [Bool.and_eq_true] at h1
        have h1 := of_decide_eq_true h1.1
        have h2 : c ≠ 48 := fun e => by
          rcases q.2.2 with w | w
          · exact w (by rw [e]; rfl)
          · omega
        have h3 := dv_ge (c := c) (by omega) 10 (r.take 10) (by rw [List.length_take]; rw [List.length_cons] at hL; omega)
        have h4 : PySem.NumText.digitsVal (c :: r) ≥ PySem.NumText.digitsVal (c :: r.take 10) := by
          have : ∀ (a b : List Nat), PySem.NumText.digitsVal a ≤ PySem.NumText.digitsVal (a ++ b) := by
            intro a b
            induction b generalizing a with
            | nil => rw [List.append_nil]; exact Nat.le_refl _
            | cons x b ih =>
              have i1 := ih (a ++ [x])
              rw [List.append_assoc] at i1
              have i2 : PySem.NumText.digitsVal a ≤ PySem.NumText.digitsVal (a ++ [x]) := by rw [PySem.NumText.digitsVal_snoc]; omega
              exact Nat.le_trans i2 i1
          have := this (c :: r.take 10) (r.drop 10)
          rw [List.cons_append, List.take_append_drop] at this
          exact this
        omega
    · exact k
  · cases h
def figO (z : Str) : Option Int := if z.length ≤ 10 then numOf z else none
theorem inB_fig {lo hi : Int} {z : Str} (hh : hi ≤ 1000000) : inB lo hi z = match figO z with | some v => if btw lo hi v = true then some v else none | none => none := by
  unfold inB figO
  by_cases k : z.length ≤ 10
  · rw [if_pos k]
    all_goals (cases numOf z <;> rfl)
  · rw [if_neg k]
    cases hn : numOf z with
    | none => rfl
    | some v =>
      dsimp only
      refine if_neg fun h => k (num_short hn ?_)
      unfold btw at h
      rw [Bool.and_eq_true] at h
      have := of_decide_eq_true h.2
      omega
/-! ### what a suite comes to -/
def Ret (m : M Fl) (ρ : En) (d : D) : Prop := ∃ ρ', m ρ = some (.ok (.rt d) ρ')
theorem Ret.nx {m1 m2 : M Fl} {ρ ρ1 : En} {d : D} (h : m1 ρ = some (.ok .nx ρ1)) (k : Ret m2 ρ1 d) : Ret (mSeq m1 m2) ρ d := by
  obtain ⟨ρ', e⟩ := k
  exact ⟨ρ', (seq_nx h).trans e⟩
theorem Ret.rt {m1 m2 : M Fl} {ρ : En} {d : D} (h : Ret m1 ρ d) : Ret (mSeq m1 m2) ρ d := by
  obtain ⟨ρ', e⟩ := h
  exact ⟨ρ', bind_is e⟩
theorem Ret.if_f {c : M Bool} {a m : M Fl} {ρ ρ1 : En} {d : D} (h : c ρ = some (.ok false ρ1)) (k : Ret m ρ1 d) : Ret (mSeq (mIf c a (mPure .nx)) m) ρ d :=
  Ret.nx (ρ1 := ρ1) (by unfold mIf; rw [bind_is h]; rfl) k
theorem Ret.if_t {c : M Bool} {a b m : M Fl} {ρ ρ1 ρ2 : En} {d : D} (h : c ρ = some (.ok true ρ1)) (h2 : a ρ1 = some (.ok .nx ρ2)) (k : Ret m ρ2 d) : Ret (mSeq (mIf c a b) m) ρ d :=
  Ret.nx (ρ1 := ρ2) (by unfold mIf; rw [bind_is h]; exact h2) k
theorem Ret.ret {m : M D} {ρ ρ1 : En} {d : D} (h : m ρ = some (.ok d ρ1)) : Ret (mRet m) ρ d := ⟨ρ1, by unfold mRet; rw [bind_is h]; rfl⟩
theorem Ret.is {m : M Fl} {ρ ρ1 : En} {d : D} (h : m ρ = some (.ok (.rt d) ρ1)) : Ret m ρ d := ⟨ρ1, h⟩
/-! ### the protocol that words write; the law's reading -/
def gOf (g : Str) : Str := if g = "-" then "" else g
def lsCk (c d g : Str) : List Str := [c, d] ++ (if g = "-" then [] else [g])
def lsOk (ls : List Str) : Bool := ls.all okN && one1 ls
def rdTw (c d : Str) : D := if lsOk [c, d] = true then twD c d else .none
def rdFr (d l b p s : Str) : D := match inB 2 1000000 l, inB 1 16 b, inB 1 2 s with
  | some l', some b', some s' => if wCheck.contains p = true ∧ lsOk [d] = true then frD d l' b' p s' else .none
  | _, _, _ => .none
def rdCk (c e d g b f : Str) : D := match inB 1 16 b with
  | some b' => if wEdge.contains e = true ∧ wFirst.contains f = true ∧ lsOk (lsCk c d g) = true then ckD c e d (gOf g) b' f else .none
  | none => .none
def rdOf : List Str → D
  | [w, c, d] => if w = "twowire" then rdTw c d else .none
  | [w, d, l, b, p, s] => if w = "framed" then rdFr d l b p s else .none
  | [w, c, e, d, g, b, f] => if w = "clocked" then rdCk c e d g b f else .none
  | _ => .none
structure Wd (z : Str) : Prop where
  a : asc z
  l : z.length ≤ 100
  n : 32 ∉ z.cps.toList
/-! ### the program's reading -/
theorem sign_comp {z : Str} (hz : z.length ≤ 1000000) : C_is_name_0 [.val (.str z), .un] = some (.ok (z.cps.toList.map fun c => PyData.bool (lowC c)) [.val (.str z), .un]) := by
  have hit : mSigns (mVar 0) [.val (.str z), .un] = some (.ok (z.cps.toList.map fun c => PyData.str ⟨#[c]⟩) [.val (.str z), .un]) := rfl
  refine comp_is (vs := [1]) (ρe := [.val (.str z), .un]) hit (fit_of2 (by rw [List.length_map, Array.length_toList]; exact hz)) ?_
  refine go_mapA _ _ _ fun c _ => ⟨[.val (.str z), .val (.str ⟨#[c]⟩)], [.val (.str z), .val (.str ⟨#[c]⟩)], by simp [mStore, unsE], ?_, by simp [unsE]⟩
  have h1 := leS_a c
  have h2 := leS_z c
  by_cases h : 97 ≤ c
  · rw [decide_eq_true h] at h1
    simp only [mChain, mBind, mPure, mVar, mLift, List.getElem?_cons_succ, List.getElem?_cons_zero, h1, h2, bolD, if_true, lowC, decide_eq_true h, Bool.true_and]
  · rw [decide_eq_false h] at h1
    simp only [mChain, mBind, mPure, mVar, mLift, List.getElem?_cons_succ, List.getElem?_cons_zero, h1, bolD, lowC, decide_eq_false h, Bool.false_and, Bool.false_eq_true, if_false]
theorem name_okS {z : Str} (h : z.length ≤ 1000000) : fn_is_name [.str z] = some (.ok (.bool (okN z))) := by
  have hc := sign_comp h
  have ha := all_m lowC z.cps.toList
  have hl := len_str h
  have hch := chain_le (x := (z.length : Nat)) (a := 1) (b := 6) (ma := mPure (.int 1)) (mb := mCall1 lenD (mPeek 0)) (mc := mPure (.int 6)) (ρ := [.val (.str z), .un]) rfl (by
    simp only [mCall1, mBind, mPeek, mLift, List.getElem?_cons_zero, hl]) rfl
  have e6 : btw 1 6 (z.length : Nat) = (decide (1 ≤ z.length) && decide (z.length ≤ 6)) := by
    unfold btw
    congr 1 <;> rw [decide_eq_decide] <;> omega
  rw [e6] at hch
  unfold okN
  generalize z.cps.toList.map (fun c => PyData.bool (lowC c)) = C at *
  generalize z.cps.toList.all lowC = b at *
  unfold fn_is_name runV m_is_name
  generalize mChain leD leD (mPure (.int 1)) (mCall1 lenD (mPeek 0)) (mPure (.int 6)) = mc at *
  generalize (decide (1 ≤ z.length) && decide (z.length ≤ 6)) = b1 at *
  cases b1 <;> simp [env0, mSeq, mIf, mBol, mBin, mBinL, mBind, mLift, mPure, mPeek, mVar, ixD, iI, bolD, mAsg, mCall1, mCallN, intD, modD, iIc, cMod, mStore, mStoreO, mDone, gSet, mOwn, mPut, setD, mRet, mDrop, mStuck, mTru, truD, mOrT, mAndT, mNotT, mAnd, mOr, mNot, mIsi, isiT_eq, typD, lenD, mCons, mTup, mLst, mLstN, mVal, oOr, addD, subD, mulD, mulI, iIc, cMul, ltD, leD, gtD, geD, gTupD, gCons2, gsNil, mCallV, mCallB, mRs, tupleD, mRetF, mChain, mScr, mScrLen, mScrIx, mMut, appD, max2D, min2D, mRng1, mRng2, rngD1, rngD2, rngOk, mItems, itemsD, mAsgN, mParEE, mParEN, mUn, negD, mCallN1, listD, unsE, powD, cPow, divD, cDiv, mFor, mSl, mSlL, slD, mNoPart, mPart, intO, mSlN, mSlNL, slN, mRevN, revO, mParNC, andD, orD, xorD, shrD, shlD, cShr, mStepN, mStepNL, stepO, mCatN, mCatNL, catN, isi_int_NoneType, isi_int_bool, isi_int_int, isi_int_str, isi_int_list, isi_int_tuple, isi_int_dict, isi_bool_NoneType, isi_bool_bool, isi_bool_int, isi_bool_str, isi_bool_list, isi_bool_tuple, isi_bool_dict, isi_str_NoneType, isi_str_bool, isi_str_int, isi_str_str, isi_str_list, isi_str_tuple, isi_str_dict, isi_list_NoneType, isi_list_bool, isi_list_int, isi_list_str, isi_list_list, isi_list_tuple, isi_list_dict, isi_tuple_NoneType, isi_tuple_bool, isi_tuple_int, isi_tuple_str, isi_tuple_list, isi_tuple_tuple, isi_tuple_dict, isi_dict_NoneType, isi_dict_bool, isi_dict_int, isi_dict_str, isi_dict_list, isi_dict_tuple, isi_dict_dict, isi_int_dictT, isi_bool_dictT, isi_str_dictT, isi_list_dictT, isi_tuple_dictT, mIsi, hch, hc, ha]
def od : Option D → D
  | some d => d
  | none => .none
def nmO (w : Str) : Option D := if okN w = true then some (.str w) else none
def fgO (w : Str) : Option D := (figO w).map PyData.int
def gtO (g : Str) : Option D := if g = "-" then some (.str "") else nmO g
theorem p_num {f w : Str} (hb : (tb_BOUNDS.lookup f).isSome = true) (hw : Wd w) : fn__part_of [.str f, .str w] = some (.ok (od (fgO w))) := by
  have h4 : ginD false tb_BOUNDS (.str f) = some (.bool (tb_BOUNDS.lookup f).isSome) := rfl
  rw [hb] at h4
  have hf := figures_gen hw.a (by have := hw.l; omega)
  have e : optD (if w.length ≤ 10 then numOf w else none) = od (fgO w) := by
    unfold fgO figO
    split
    · cases numOf w <;> rfl
    · rfl
  rw [e] at hf
  generalize od (fgO w) = Z at *
  simp [fn__part_of, runV, m__part_of, env0, mSeq, mIf, mBol, mBin, mBinL, mBind, mLift, mPure, mPeek, mVar, ixD, iI, bolD, mAsg, mCall1, mCallN, intD, modD, iIc, cMod, mStore, mStoreO, mDone, gSet, mOwn, mPut, setD, mRet, mDrop, mStuck, mTru, truD, mOrT, mAndT, mNotT, mAnd, mOr, mNot, mIsi, isiT_eq, typD, lenD, mCons, mTup, mLst, mLstN, mVal, oOr, addD, subD, mulD, mulI, iIc, cMul, ltD, leD, gtD, geD, gTupD, gCons2, gsNil, mCallV, mCallB, mRs, tupleD, mRetF, mChain, mScr, mScrLen, mScrIx, mMut, appD, max2D, min2D, mRng1, mRng2, rngD1, rngD2, rngOk, mItems, itemsD, mAsgN, mParEE, mParEN, mUn, negD, mCallN1, listD, unsE, powD, cPow, divD, cDiv, mFor, mSl, mSlL, slD, mNoPart, mPart, intO, mSlN, mSlNL, slN, mRevN, revO, mParNC, andD, orD, xorD, shrD, shlD, cShr, mStepN, mStepNL, stepO, mCatN, mCatNL, catN, mGIn, h4, hf]
theorem p_wrd {f w : Str} (hb : (tb_BOUNDS.lookup f).isSome = false) (hg : eqD (.str f) (.str "gate") = some (.bool false)) (hl : inD false (.str f) linesN = some (.bool false)) : fn__part_of [.str f, .str w] = some (.ok (.str w)) := by
  have h4 : ginD false tb_BOUNDS (.str f) = some (.bool (tb_BOUNDS.lookup f).isSome) := rfl
  rw [hb] at h4
  have hl : inD false (.str f) (.tuple [.str "clock", .str "data", .str "gate"]) = some (.bool false) := hl
  simp [fn__part_of, runV, m__part_of, env0, mSeq, mIf, mBol, mBin, mBinL, mBind, mLift, mPure, mPeek, mVar, ixD, iI, bolD, mAsg, mCall1, mCallN, intD, modD, iIc, cMod, mStore, mStoreO, mDone, gSet, mOwn, mPut, setD, mRet, mDrop, mStuck, mTru, truD, mOrT, mAndT, mNotT, mAnd, mOr, mNot, mIsi, isiT_eq, typD, lenD, mCons, mTup, mLst, mLstN, mVal, oOr, addD, subD, mulD, mulI, iIc, cMul, ltD, leD, gtD, geD, gTupD, gCons2, gsNil, mCallV, mCallB, mRs, tupleD, mRetF, mChain, mScr, mScrLen, mScrIx, mMut, appD, max2D, min2D, mRng1, mRng2, rngD1, rngD2, rngOk, mItems, itemsD, mAsgN, mParEE, mParEN, mUn, negD, mCallN1, listD, unsE, powD, cPow, divD, cDiv, mFor, mSl, mSlL, slD, mNoPart, mPart, intO, mSlN, mSlNL, slN, mRevN, revO, mParNC, andD, orD, xorD, shrD, shlD, cShr, mStepN, mStepNL, stepO, mCatN, mCatNL, catN, mGIn, h4, hg, hl]
theorem p_lin {f w : Str} (hb : (tb_BOUNDS.lookup f).isSome = false) (hg : eqD (.str f) (.str "gate") = some (.bool false)) (hl : inD false (.str f) linesN = some (.bool true)) (hw : Wd w) : fn__part_of [.str f, .str w] = some (.ok (od (nmO w))) := by
  have h4 : ginD false tb_BOUNDS (.str f) = some (.bool (tb_BOUNDS.lookup f).isSome) := rfl
  rw [hb] at h4
  have hl : inD false (.str f) (.tuple [.str "clock", .str "data", .str "gate"]) = some (.bool true) := hl
  have hn := name_okS (z := w) (by have := hw.l; omega)
  unfold nmO
  generalize okN w = b at *
  cases b <;> simp [fn__part_of, runV, m__part_of, env0, mSeq, mIf, mBol, mBin, mBinL, mBind, mLift, mPure, mPeek, mVar, ixD, iI, bolD, mAsg, mCall1, mCallN, intD, modD, iIc, cMod, mStore, mStoreO, mDone, gSet, mOwn, mPut, setD, mRet, mDrop, mStuck, mTru, truD, mOrT, mAndT, mNotT, mAnd, mOr, mNot, mIsi, isiT_eq, typD, lenD, mCons, mTup, mLst, mLstN, mVal, oOr, addD, subD, mulD, mulI, iIc, cMul, ltD, leD, gtD, geD, gTupD, gCons2, gsNil, mCallV, mCallB, mRs, tupleD, mRetF, mChain, mScr, mScrLen, mScrIx, mMut, appD, max2D, min2D, mRng1, mRng2, rngD1, rngD2, rngOk, mItems, itemsD, mAsgN, mParEE, mParEN, mUn, negD, mCallN1, listD, unsE, powD, cPow, divD, cDiv, mFor, mSl, mSlL, slD, mNoPart, mPart, intO, mSlN, mSlNL, slN, mRevN, revO, mParNC, andD, orD, xorD, shrD, shlD, cShr, mStepN, mStepNL, stepO, mCatN, mCatNL, catN, mGIn, h4, hg, hl, hn, od]
theorem p_gate {g : Str} (hw : Wd g) : fn__part_of [.str "gate", .str g] = some (.ok (od (gtO g))) := by
  have h4 : ginD false tb_BOUNDS (.str "gate") = some (.bool false) := by
    have : ginD false tb_BOUNDS (.str "gate") = some (.bool (tb_BOUNDS.lookup ("gate" : Str)).isSome) := rfl
    rw [this, bd_tab.2.2.2.1]
  have hl : inD false (.str "gate") (.tuple [.str "clock", .str "data", .str "gate"]) = some (.bool true) := inl_gate
  have hq : eqD (.str "gate") (.str "gate") = some (.bool true) := eq_str _
  have h2 : eqD (.str g) (.str "-") = some (.bool (g == (("-" : String) : Str))) := eqS _ _ (asc_ok hw.a) (strOk_of _)
  have hn := name_okS (z := g) (by have := hw.l; omega)
  unfold gtO nmO
  by_cases k : g = "-"
  · rw [show (g == (("-" : String) : Str)) = true from by rw [k]; exact beq_self_eq_true _] at h2
    rw [if_pos k]
    simp [fn__part_of, runV, m__part_of, env0, mSeq, mIf, mBol, mBin, mBinL, mBind, mLift, mPure, mPeek, mVar, ixD, iI, bolD, mAsg, mCall1, mCallN, intD, modD, iIc, cMod, mStore, mStoreO, mDone, gSet, mOwn, mPut, setD, mRet, mDrop, mStuck, mTru, truD, mOrT, mAndT, mNotT, mAnd, mOr, mNot, mIsi, isiT_eq, typD, lenD, mCons, mTup, mLst, mLstN, mVal, oOr, addD, subD, mulD, mulI, iIc, cMul, ltD, leD, gtD, geD, gTupD, gCons2, gsNil, mCallV, mCallB, mRs, tupleD, mRetF, mChain, mScr, mScrLen, mScrIx, mMut, appD, max2D, min2D, mRng1, mRng2, rngD1, rngD2, rngOk, mItems, itemsD, mAsgN, mParEE, mParEN, mUn, negD, mCallN1, listD, unsE, powD, cPow, divD, cDiv, mFor, mSl, mSlL, slD, mNoPart, mPart, intO, mSlN, mSlNL, slN, mRevN, revO, mParNC, andD, orD, xorD, shrD, shlD, cShr, mStepN, mStepNL, stepO, mCatN, mCatNL, catN, mGIn, h4, hq, h2, od]
  · rw [beq_false_of_ne k] at h2
    rw [if_neg k]
    generalize okN g = b at *
    cases b <;> simp [fn__part_of, runV, m__part_of, env0, mSeq, mIf, mBol, mBin, mBinL, mBind, mLift, mPure, mPeek, mVar, ixD, iI, bolD, mAsg, mCall1, mCallN, intD, modD, iIc, cMod, mStore, mStoreO, mDone, gSet, mOwn, mPut, setD, mRet, mDrop, mStuck, mTru, truD, mOrT, mAndT, mNotT, mAnd, mOr, mNot, mIsi, isiT_eq, typD, lenD, mCons, mTup, mLst, mLstN, mVal, oOr, addD, subD, mulD, mulI, iIc, cMul, ltD, leD, gtD, geD, gTupD, gCons2, gsNil, mCallV, mCallB, mRs, tupleD, mRetF, mChain, mScr, mScrLen, mScrIx, mMut, appD, max2D, min2D, mRng1, mRng2, rngD1, rngD2, rngOk, mItems, itemsD, mAsgN, mParEE, mParEN, mUn, negD, mCallN1, listD, unsE, powD, cPow, divD, cDiv, mFor, mSl, mSlL, slD, mNoPart, mPart, intO, mSlN, mSlNL, slN, mRevN, revO, mParNC, andD, orD, xorD, shrD, shlD, cShr, mStepN, mStepNL, stepO, mCatN, mCatNL, catN, mGIn, h4, hq, h2, hl, hn, od]
def flat1 : D → Bool
  | .str _ => true
  | .int _ => true
  | _ => false
theorem none_od {os : List (Option D)} (h : ∀ o ∈ os, ∀ d, o = some d → flat1 d = true) : inD false .none (.list (os.map od)) = some (.bool (os.any Option.isNone)) := by
  have h1 : inOk .none (os.map od) = true := by
    unfold inOk
    have a1 : (os.map od).all flatD = true := List.all_eq_true.mpr fun d hd => by
      obtain ⟨o, ho, rfl⟩ := List.mem_map.mp hd
      cases o with
      | none => rfl
      | some d => have := h _ ho d rfl
                  cases d <;> first | rfl | cases this
    have a2 : ((os.map od).map toV).all flatV = true := by
      rw [List.all_map]
      refine List.all_eq_true.mpr fun d hd => ?_
      obtain ⟨o, ho, rfl⟩ := List.mem_map.mp hd
      cases o with
      | none => rfl
      | some d => have := h _ ho d rfl
                  cases d <;> first | rfl | cases this
    rw [a1, a2]; rfl
  have h2 : inFlat .none (os.map od) = os.any Option.isNone := by
    unfold inFlat L2.inV
    rw [List.map_map, List.any_map]
    clear h1
    induction os with
    | nil => rfl
    | cons o os ih =>
      rw [List.any_cons, List.any_cons, ih fun x hx => h x (List.mem_cons_of_mem _ hx)]
      congr 1
      cases o with
      | none => rfl
      | some d => have := h _ List.mem_cons_self d rfl
                  cases d <;> first | rfl | cases this
  show (if inOk .none (os.map od) = true then some (PyData.bool (if false = true then !inFlat .none (os.map od) else inFlat .none (os.map od))) else none) = _
  rw [if_pos h1, h2]; rfl
abbrev Pt4 := Str × Str × Option D
def pz4 (a : Pt4) : D := .tuple [.str a.1, .str a.2.1]
theorem many_ok (w0 : Str) : fn_many_words [.str w0] = some (.ok (.int (match fldsOf w0 with | some fl => ((fl.length : Nat) : Int) + 1 | none => 0))) := by
  have hgin : ginD false tb_FORMS (.str w0) = some (.bool (tb_FORMS.lookup w0).isSome) := rfl
  have htab : tabD tb_FORMS (.str w0) = tb_FORMS.lookup w0 := rfl
  rw [forms_look] at hgin htab
  cases hf : fldsOf w0 with
  | none =>
    rw [hf] at hgin
    have hgin : ginD false tb_FORMS (.str w0) = some (.bool false) := hgin
    simp [fn_many_words, runV, m_many_words, env0, mSeq, mIf, mBol, mBin, mBinL, mBind, mLift, mPure, mPeek, mVar, ixD, iI, bolD, mAsg, mCall1, mCallN, intD, modD, iIc, cMod, mStore, mStoreO, mDone, gSet, mOwn, mPut, setD, mRet, mDrop, mStuck, mTru, truD, mOrT, mAndT, mNotT, mAnd, mOr, mNot, mIsi, isiT_eq, typD, lenD, mCons, mTup, mLst, mLstN, mVal, oOr, addD, subD, mulD, mulI, iIc, cMul, ltD, leD, gtD, geD, gTupD, gCons2, gsNil, mCallV, mCallB, mRs, tupleD, mRetF, mChain, mScr, mScrLen, mScrIx, mMut, appD, max2D, min2D, mRng1, mRng2, rngD1, rngD2, rngOk, mItems, itemsD, mAsgN, mParEE, mParEN, mUn, negD, mCallN1, listD, unsE, powD, cPow, divD, cDiv, mFor, mSl, mSlL, slD, mNoPart, mPart, intO, mSlN, mSlNL, slN, mRevN, revO, mParNC, andD, orD, xorD, shrD, shlD, cShr, mStepN, mStepNL, stepO, mCatN, mCatNL, catN, mGIn, hgin]
  | some fl =>
    rw [hf] at hgin htab
    have hgin : ginD false tb_FORMS (.str w0) = some (.bool true) := hgin
    have htab : tabD tb_FORMS (.str w0) = some (.tuple (fl.map PyData.str)) := htab
    have hl := flds_len hf
    have eL : (fl.map PyData.str).length = fl.length := List.length_map ..
    generalize (fl.map PyData.str) = FL at *
    simp [fn_many_words, runV, m_many_words, env0, mSeq, mIf, mBol, mBin, mBinL, mBind, mLift, mPure, mPeek, mVar, ixD, iI, bolD, mAsg, mCall1, mCallN, intD, modD, iIc, cMod, mStore, mStoreO, mDone, gSet, mOwn, mPut, setD, mRet, mDrop, mStuck, mTru, truD, mOrT, mAndT, mNotT, mAnd, mOr, mNot, mIsi, isiT_eq, typD, lenD, mCons, mTup, mLst, mLstN, mVal, oOr, addD, subD, mulD, mulI, iIc, cMul, ltD, leD, gtD, geD, gTupD, gCons2, gsNil, mCallV, mCallB, mRs, tupleD, mRetF, mChain, mScr, mScrLen, mScrIx, mMut, appD, max2D, min2D, mRng1, mRng2, rngD1, rngD2, rngOk, mItems, itemsD, mAsgN, mParEE, mParEN, mUn, negD, mCallN1, listD, unsE, powD, cPow, divD, cDiv, mFor, mSl, mSlL, slD, mNoPart, mPart, intO, mSlN, mSlNL, slN, mRevN, revO, mParNC, andD, orD, xorD, shrD, shlD, cShr, mStepN, mStepNL, stepO, mCatN, mCatNL, catN, mGIn, mGIx, hgin, htab, eL]
theorem proto_bad {w0 : Str} {r : List Str} (hl : r.length ≤ 1000) (h : ∀ fl, fldsOf w0 = some fl → fl.length ≠ r.length) : fn_protocol_of [.list ((w0 :: r).map PyData.str)] = some (.ok .none) := by
  have hm := many_ok w0
  obtain ⟨n, hn, hne⟩ : ∃ n : Int, (match fldsOf w0 with | some fl => ((fl.length : Nat) : Int) + 1 | none => 0) = n ∧ (r.length : Int) + 1 ≠ n := by
    cases hf : fldsOf w0 with
    | none => exact ⟨0, rfl, by omega⟩
    | some fl => exact ⟨(fl.length : Nat) + 1, rfl, by have := h fl hf; omega⟩
  rw [hn] at hm
  have hd := ne_i ((r.length : Int) + 1) n
  rw [decide_eq_false hne] at hd
  have z0 := at0c (.str w0) (r.map PyData.str)
  have eL : (r.map PyData.str).length = r.length := List.length_map ..
  have f1 : fit (r.length + 1) = true := fit_of2 (by omega)
  rw [List.map_cons]
  generalize r.map PyData.str = R at *
  rw [← eL] at f1 hd
  simp [fn_protocol_of, runV, m_protocol_of, env0, mSeq, mIf, mBol, mBin, mBinL, mBind, mLift, mPure, mPeek, mVar, ixD, iI, bolD, mAsg, mCall1, mCallN, intD, modD, iIc, cMod, mStore, mStoreO, mDone, gSet, mOwn, mPut, setD, mRet, mDrop, mStuck, mTru, truD, mOrT, mAndT, mNotT, mAnd, mOr, mNot, mIsi, isiT_eq, typD, lenD, mCons, mTup, mLst, mLstN, mVal, oOr, addD, subD, mulD, mulI, iIc, cMul, ltD, leD, gtD, geD, gTupD, gCons2, gsNil, mCallV, mCallB, mRs, tupleD, mRetF, mChain, mScr, mScrLen, mScrIx, mMut, appD, max2D, min2D, mRng1, mRng2, rngD1, rngD2, rngOk, mItems, itemsD, mAsgN, mParEE, mParEN, mUn, negD, mCallN1, listD, unsE, powD, cPow, divD, cDiv, mFor, mSl, mSlL, slD, mNoPart, mPart, intO, mSlN, mSlNL, slN, mRevN, revO, mParNC, andD, orD, xorD, shrD, shlD, cShr, mStepN, mStepNL, stepO, mCatN, mCatNL, catN, hm, hd, z0, f1]
theorem proto_gen {w0 : Str} {as : List Pt4} {nb vb : Bool} (hf : fldsOf w0 = some (as.map (·.1))) (hz : zipBD [flD (as.map (·.1)), .list (as.map fun a => PyData.str a.2.1)] = some (as.map pz4)) (h : ∀ a ∈ as, fn__part_of [.str a.1, .str a.2.1] = some (.ok (od a.2.2)) ∧ ∀ d, a.2.2 = some d → flat1 d = true) (hl : as.length ≤ 6)
    (hnb : nb = as.any fun a => a.2.2.isNone)
    (hrest : nb = false → ∃ ls v, fn_lines_of [.tuple (.str w0 :: as.map fun a => od a.2.2)] = some (.ok (NL ls)) ∧ fn__fault_of [NL ls, .tuple (.str w0 :: as.map fun a => od a.2.2)] = some (.ok v) ∧ isntD v .none = some (.bool vb)) :
    fn_protocol_of [.list (.str w0 :: as.map fun a => PyData.str a.2.1)] = some (.ok (if nb = true ∨ vb = true then .none else .tuple (.str w0 :: as.map fun a => od a.2.2))) := by
  have htab : tabD tb_FORMS (.str w0) = some (flD (as.map (·.1))) := by
    show tb_FORMS.lookup w0 = _
    rw [forms_look, hf]; rfl
  have hm := many_ok w0
  rw [hf] at hm
  dsimp only at hm
  rw [List.length_map] at hm
  have z0 := at0c (.str w0) (as.map fun a : Pt4 => PyData.str a.2.1)
  have zc : cutL (PyData.str w0 :: as.map fun a : Pt4 => PyData.str a.2.1) (some 1) none = as.map fun a : Pt4 => PyData.str a.2.1 := by
    have := cut_drop (PyData.str w0 :: as.map fun a : Pt4 => PyData.str a.2.1) 1
    simpa using this
  have hWl : (as.map fun a : Pt4 => PyData.str a.2.1).length = as.length := List.length_map ..
  have hPl : (as.map fun a : Pt4 => od a.2.2).length = as.length := List.length_map ..
  have hne := ne_i ((as.length : Int) + 1) ((as.length : Int) + 1)
  rw [decide_eq_true rfl] at hne
  have hnone := none_od (os := as.map fun a : Pt4 => a.2.2) (fun o ho d hd => by
    obtain ⟨a, ha, rfl⟩ := List.mem_map.mp ho
    exact (h a ha).2 d hd)
  rw [List.map_map, List.any_map] at hnone
  have hnone : inD false .none (.list (as.map fun a : Pt4 => od a.2.2)) = some (.bool nb) := by rw [hnb]; exact hnone
  have hcomp : C_protocol_of_0 [.val (.list (.str w0 :: as.map fun a : Pt4 => PyData.str a.2.1)), .un, .un, .un, .un] = some (.ok (as.map fun a : Pt4 => od a.2.2) [.val (.list (.str w0 :: as.map fun a : Pt4 => PyData.str a.2.1)), .un, .un, .un, .un]) := by
    have hit : mZipB (mCons (mGIx tb_FORMS (mBinL ixD 0 (mPure (.int 0)))) (mCons (mSlL 0 (mPart (mPure (.int 1))) mNoPart) (mPure []))) [.val (.list (.str w0 :: as.map fun a : Pt4 => PyData.str a.2.1)), .un, .un, .un, .un] = some (.ok (as.map pz4) [.val (.list (.str w0 :: as.map fun a : Pt4 => PyData.str a.2.1)), .un, .un, .un, .un]) := by
      generalize as.map pz4 = Z at *
      generalize (as.map fun a : Pt4 => PyData.str a.2.1) = W at *
      generalize flD (as.map (·.1)) = G at *
      simp [mSeq, mIf, mBol, mBin, mBinL, mBind, mLift, mPure, mPeek, mVar, ixD, iI, bolD, mAsg, mCall1, mCallN, intD, modD, iIc, cMod, mStore, mStoreO, mDone, gSet, mOwn, mPut, setD, mRet, mDrop, mStuck, mTru, truD, mOrT, mAndT, mNotT, mAnd, mOr, mNot, mIsi, isiT_eq, typD, lenD, mCons, mTup, mLst, mLstN, mVal, oOr, addD, subD, mulD, mulI, iIc, cMul, ltD, leD, gtD, geD, gTupD, gCons2, gsNil, mCallV, mCallB, mRs, tupleD, mRetF, mChain, mScr, mScrLen, mScrIx, mMut, appD, max2D, min2D, mRng1, mRng2, rngD1, rngD2, rngOk, mItems, itemsD, mAsgN, mParEE, mParEN, mUn, negD, mCallN1, listD, unsE, powD, cPow, divD, cDiv, mFor, mSl, mSlL, slD, mNoPart, mPart, intO, mSlN, mSlNL, slN, mRevN, revO, mParNC, andD, orD, xorD, shrD, shlD, cShr, mStepN, mStepNL, stepO, mCatN, mCatNL, catN, mGIx, mZipB, htab, hz, z0, zc]
    refine comp_is (vs := [3, 4]) (ρe := [.val (.list (.str w0 :: as.map fun a : Pt4 => PyData.str a.2.1)), .un, .un, .un, .un]) hit (fit_of2 (by rw [List.length_map]; omega)) ?_
    refine go_mapA _ _ _ ?_
    rintro ⟨f, w, d⟩ ha
    have hp := (h _ ha).1
    dsimp only at hp
    generalize PyData.list (.str w0 :: as.map fun a : Pt4 => PyData.str a.2.1) = T
    generalize od d = D1 at *
    exact ⟨[.val T, .un, .un, .val (.str f), .val (.str w)], [.val T, .un, .un, .val (.str f), .val (.str w)], by simp [mSeq, mIf, mBol, mBin, mBinL, mBind, mLift, mPure, mPeek, mVar, ixD, iI, bolD, mAsg, mCall1, mCallN, intD, modD, iIc, cMod, mStore, mStoreO, mDone, gSet, mOwn, mPut, setD, mRet, mDrop, mStuck, mTru, truD, mOrT, mAndT, mNotT, mAnd, mOr, mNot, mIsi, isiT_eq, typD, lenD, mCons, mTup, mLst, mLstN, mVal, oOr, addD, subD, mulD, mulI, iIc, cMul, ltD, leD, gtD, geD, gTupD, gCons2, gsNil, mCallV, mCallB, mRs, tupleD, mRetF, mChain, mScr, mScrLen, mScrIx, mMut, appD, max2D, min2D, mRng1, mRng2, rngD1, rngD2, rngOk, mItems, itemsD, mAsgN, mParEE, mParEN, mUn, negD, mCallN1, listD, unsE, powD, cPow, divD, cDiv, mFor, mSl, mSlL, slD, mNoPart, mPart, intO, mSlN, mSlNL, slN, mRevN, revO, mParNC, andD, orD, xorD, shrD, shlD, cShr, mStepN, mStepNL, stepO, mCatN, mCatNL, catN, pz4, gNamesD, unsE], by simp [mSeq, mIf, mBol, mBin, mBinL, mBind, mLift, mPure, mPeek, mVar, ixD, iI, bolD, mAsg, mCall1, mCallN, intD, modD, iIc, cMod, mStore, mStoreO, mDone, gSet, mOwn, mPut, setD, mRet, mDrop, mStuck, mTru, truD, mOrT, mAndT, mNotT, mAnd, mOr, mNot, mIsi, isiT_eq, typD, lenD, mCons, mTup, mLst, mLstN, mVal, oOr, addD, subD, mulD, mulI, iIc, cMul, ltD, leD, gtD, geD, gTupD, gCons2, gsNil, mCallV, mCallB, mRs, tupleD, mRetF, mChain, mScr, mScrLen, mScrIx, mMut, appD, max2D, min2D, mRng1, mRng2, rngD1, rngD2, rngOk, mItems, itemsD, mAsgN, mParEE, mParEN, mUn, negD, mCallN1, listD, unsE, powD, cPow, divD, cDiv, mFor, mSl, mSlL, slD, mNoPart, mPart, intO, mSlN, mSlNL, slN, mRevN, revO, mParNC, andD, orD, xorD, shrD, shlD, cShr, mStepN, mStepNL, stepO, mCatN, mCatNL, catN, hp], by simp [unsE]⟩
  have g1 : fit (as.length + 1) = true := fit_of2 (by omega)
  generalize (as.map fun a : Pt4 => PyData.str a.2.1) = W at *
  generalize (as.map fun a : Pt4 => od a.2.2) = V at *
  rw [← hPl] at g1
  unfold fn_protocol_of runV m_protocol_of
  rw [show env0 5 [PyData.list (.str w0 :: W)] = [.val (.list (.str w0 :: W)), .un, .un, .un, .un] from rfl]
  rw [seq_nx (ρ' := [.val (.list (.str w0 :: W)), .un, .un, .un, .un]) (by simp [mSeq, mIf, mBol, mBin, mBinL, mBind, mLift, mPure, mPeek, mVar, ixD, iI, bolD, mAsg, mCall1, mCallN, intD, modD, iIc, cMod, mStore, mStoreO, mDone, gSet, mOwn, mPut, setD, mRet, mDrop, mStuck, mTru, truD, mOrT, mAndT, mNotT, mAnd, mOr, mNot, mIsi, isiT_eq, typD, lenD, mCons, mTup, mLst, mLstN, mVal, oOr, addD, subD, mulD, mulI, iIc, cMul, ltD, leD, gtD, geD, gTupD, gCons2, gsNil, mCallV, mCallB, mRs, tupleD, mRetF, mChain, mScr, mScrLen, mScrIx, mMut, appD, max2D, min2D, mRng1, mRng2, rngD1, rngD2, rngOk, mItems, itemsD, mAsgN, mParEE, mParEN, mUn, negD, mCallN1, listD, unsE, powD, cPow, divD, cDiv, mFor, mSl, mSlL, slD, mNoPart, mPart, intO, mSlN, mSlNL, slN, mRevN, revO, mParNC, andD, orD, xorD, shrD, shlD, cShr, mStepN, mStepNL, stepO, mCatN, mCatNL, catN, hm, z0, hWl, hne])]
  rw [seq_nx (ρ' := [.val (.list (.str w0 :: W)), .own V, .un, .un, .un]) (by simp [mSeq, mIf, mBol, mBin, mBinL, mBind, mLift, mPure, mPeek, mVar, ixD, iI, bolD, mAsg, mCall1, mCallN, intD, modD, iIc, cMod, mStore, mStoreO, mDone, gSet, mOwn, mPut, setD, mRet, mDrop, mStuck, mTru, truD, mOrT, mAndT, mNotT, mAnd, mOr, mNot, mIsi, isiT_eq, typD, lenD, mCons, mTup, mLst, mLstN, mVal, oOr, addD, subD, mulD, mulI, iIc, cMul, ltD, leD, gtD, geD, gTupD, gCons2, gsNil, mCallV, mCallB, mRs, tupleD, mRetF, mChain, mScr, mScrLen, mScrIx, mMut, appD, max2D, min2D, mRng1, mRng2, rngD1, rngD2, rngOk, mItems, itemsD, mAsgN, mParEE, mParEN, mUn, negD, mCallN1, listD, unsE, powD, cPow, divD, cDiv, mFor, mSl, mSlL, slD, mNoPart, mPart, intO, mSlN, mSlNL, slN, mRevN, revO, mParNC, andD, orD, xorD, shrD, shlD, cShr, mStepN, mStepNL, stepO, mCatN, mCatNL, catN, hcomp])]
  cases nb with
  | true =>
    rw [seq_rt (d := .none) (ρ' := [.val (.list (.str w0 :: W)), .own V, .un, .un, .un]) (by simp [mSeq, mIf, mBol, mBin, mBinL, mBind, mLift, mPure, mPeek, mVar, ixD, iI, bolD, mAsg, mCall1, mCallN, intD, modD, iIc, cMod, mStore, mStoreO, mDone, gSet, mOwn, mPut, setD, mRet, mDrop, mStuck, mTru, truD, mOrT, mAndT, mNotT, mAnd, mOr, mNot, mIsi, isiT_eq, typD, lenD, mCons, mTup, mLst, mLstN, mVal, oOr, addD, subD, mulD, mulI, iIc, cMul, ltD, leD, gtD, geD, gTupD, gCons2, gsNil, mCallV, mCallB, mRs, tupleD, mRetF, mChain, mScr, mScrLen, mScrIx, mMut, appD, max2D, min2D, mRng1, mRng2, rngD1, rngD2, rngOk, mItems, itemsD, mAsgN, mParEE, mParEN, mUn, negD, mCallN1, listD, unsE, powD, cPow, divD, cDiv, mFor, mSl, mSlL, slD, mNoPart, mPart, intO, mSlN, mSlNL, slN, mRevN, revO, mParNC, andD, orD, xorD, shrD, shlD, cShr, mStepN, mStepNL, stepO, mCatN, mCatNL, catN, hnone])]
    rw [if_pos (.inl rfl)]
  | false =>
    obtain ⟨ls, v, hlines, hfault, hv⟩ := hrest rfl
    generalize NL ls = G at *
    rw [seq_nx (ρ' := [.val (.list (.str w0 :: W)), .own V, .un, .un, .un]) (by simp [mSeq, mIf, mBol, mBin, mBinL, mBind, mLift, mPure, mPeek, mVar, ixD, iI, bolD, mAsg, mCall1, mCallN, intD, modD, iIc, cMod, mStore, mStoreO, mDone, gSet, mOwn, mPut, setD, mRet, mDrop, mStuck, mTru, truD, mOrT, mAndT, mNotT, mAnd, mOr, mNot, mIsi, isiT_eq, typD, lenD, mCons, mTup, mLst, mLstN, mVal, oOr, addD, subD, mulD, mulI, iIc, cMul, ltD, leD, gtD, geD, gTupD, gCons2, gsNil, mCallV, mCallB, mRs, tupleD, mRetF, mChain, mScr, mScrLen, mScrIx, mMut, appD, max2D, min2D, mRng1, mRng2, rngD1, rngD2, rngOk, mItems, itemsD, mAsgN, mParEE, mParEN, mUn, negD, mCallN1, listD, unsE, powD, cPow, divD, cDiv, mFor, mSl, mSlL, slD, mNoPart, mPart, intO, mSlN, mSlNL, slN, mRevN, revO, mParNC, andD, orD, xorD, shrD, shlD, cShr, mStepN, mStepNL, stepO, mCatN, mCatNL, catN, hnone])]
    rw [seq_nx (ρ' := [.val (.list (.str w0 :: W)), .own V, .val (.tuple (.str w0 :: V)), .un, .un]) (by simp [mSeq, mIf, mBol, mBin, mBinL, mBind, mLift, mPure, mPeek, mVar, ixD, iI, bolD, mAsg, mCall1, mCallN, intD, modD, iIc, cMod, mStore, mStoreO, mDone, gSet, mOwn, mPut, setD, mRet, mDrop, mStuck, mTru, truD, mOrT, mAndT, mNotT, mAnd, mOr, mNot, mIsi, isiT_eq, typD, lenD, mCons, mTup, mLst, mLstN, mVal, oOr, addD, subD, mulD, mulI, iIc, cMul, ltD, leD, gtD, geD, gTupD, gCons2, gsNil, mCallV, mCallB, mRs, tupleD, mRetF, mChain, mScr, mScrLen, mScrIx, mMut, appD, max2D, min2D, mRng1, mRng2, rngD1, rngD2, rngOk, mItems, itemsD, mAsgN, mParEE, mParEN, mUn, negD, mCallN1, listD, unsE, powD, cPow, divD, cDiv, mFor, mSl, mSlL, slD, mNoPart, mPart, intO, mSlN, mSlNL, slN, mRevN, revO, mParNC, andD, orD, xorD, shrD, shlD, cShr, mStepN, mStepNL, stepO, mCatN, mCatNL, catN, mStar, z0, g1])]
    cases vb with
    | true =>
      rw [seq_rt (d := .none) (ρ' := [.val (.list (.str w0 :: W)), .own V, .val (.tuple (.str w0 :: V)), .un, .un]) (by simp [mSeq, mIf, mBol, mBin, mBinL, mBind, mLift, mPure, mPeek, mVar, ixD, iI, bolD, mAsg, mCall1, mCallN, intD, modD, iIc, cMod, mStore, mStoreO, mDone, gSet, mOwn, mPut, setD, mRet, mDrop, mStuck, mTru, truD, mOrT, mAndT, mNotT, mAnd, mOr, mNot, mIsi, isiT_eq, typD, lenD, mCons, mTup, mLst, mLstN, mVal, oOr, addD, subD, mulD, mulI, iIc, cMul, ltD, leD, gtD, geD, gTupD, gCons2, gsNil, mCallV, mCallB, mRs, tupleD, mRetF, mChain, mScr, mScrLen, mScrIx, mMut, appD, max2D, min2D, mRng1, mRng2, rngD1, rngD2, rngOk, mItems, itemsD, mAsgN, mParEE, mParEN, mUn, negD, mCallN1, listD, unsE, powD, cPow, divD, cDiv, mFor, mSl, mSlL, slD, mNoPart, mPart, intO, mSlN, mSlNL, slN, mRevN, revO, mParNC, andD, orD, xorD, shrD, shlD, cShr, mStepN, mStepNL, stepO, mCatN, mCatNL, catN, hlines, hfault, hv])]
      rw [if_pos (.inr rfl)]
    | false =>
      rw [seq_nx (ρ' := [.val (.list (.str w0 :: W)), .own V, .val (.tuple (.str w0 :: V)), .un, .un]) (by simp [mSeq, mIf, mBol, mBin, mBinL, mBind, mLift, mPure, mPeek, mVar, ixD, iI, bolD, mAsg, mCall1, mCallN, intD, modD, iIc, cMod, mStore, mStoreO, mDone, gSet, mOwn, mPut, setD, mRet, mDrop, mStuck, mTru, truD, mOrT, mAndT, mNotT, mAnd, mOr, mNot, mIsi, isiT_eq, typD, lenD, mCons, mTup, mLst, mLstN, mVal, oOr, addD, subD, mulD, mulI, iIc, cMul, ltD, leD, gtD, geD, gTupD, gCons2, gsNil, mCallV, mCallB, mRs, tupleD, mRetF, mChain, mScr, mScrLen, mScrIx, mMut, appD, max2D, min2D, mRng1, mRng2, rngD1, rngD2, rngOk, mItems, itemsD, mAsgN, mParEE, mParEN, mUn, negD, mCallN1, listD, unsE, powD, cPow, divD, cDiv, mFor, mSl, mSlL, slD, mNoPart, mPart, intO, mSlN, mSlNL, slN, mRevN, revO, mParNC, andD, orD, xorD, shrD, shlD, cShr, mStepN, mStepNL, stepO, mCatN, mCatNL, catN, hlines, hfault, hv])]
      rw [if_neg (by simp)]
      rfl
theorem fbad_isnt (rows : List (Str × Bool)) : isntD (fbad rows) .none = some (.bool (!rows.all (·.2))) := by
  induction rows with
  | nil => rfl
  | cons p rows ih =>
    obtain ⟨w, b⟩ := p
    cases b
    · rfl
    · rw [List.all_cons]; exact ih
theorem ver_isnt {ls : List Str} {V : D} {b : Bool} (hV : isntD V .none = some (.bool (!b))) : isntD (verD ls ls V) .none = some (.bool (!(one1 ls && b))) := by
  have : (ls.all fun x => ls.contains x) = true := List.all_eq_true.mpr fun x hx => List.contains_iff_mem.mpr hx
  unfold verD
  rw [if_pos this]
  cases one1 ls
  · rfl
  · rw [if_pos rfl, Bool.true_and]; exact hV
theorem nm_flat {w : Str} : ∀ d, nmO w = some d → flat1 d = true := fun d h => by
  unfold nmO at h
  split at h
  · cases h; rfl
  · cases h
theorem gt_flat {w : Str} : ∀ d, gtO w = some d → flat1 d = true := fun d h => by
  unfold gtO at h
  split at h
  · cases h; rfl
  · exact nm_flat d h
theorem fg_flat {w : Str} : ∀ d, fgO w = some d → flat1 d = true := fun d h => by
  unfold fgO at h
  cases q : figO w with
  | none => rw [q] at h; cases h
  | some n => rw [q] at h; cases h; rfl
theorem wd_flat {w : Str} : ∀ d, (some (.str w) : Option D) = some d → flat1 d = true := fun d h => by cases h; rfl
theorem ng_clock : eqD (.str "clock") (.str "gate") = some (.bool false) := eqF (by decide +kernel)
theorem ng_data : eqD (.str "data") (.str "gate") = some (.bool false) := eqF (by decide +kernel)
theorem ng_edge : eqD (.str "edge") (.str "gate") = some (.bool false) := eqF (by decide +kernel)
theorem ng_first : eqD (.str "first") (.str "gate") = some (.bool false) := eqF (by decide +kernel)
theorem ng_check : eqD (.str "check") (.str "gate") = some (.bool false) := eqF (by decide +kernel)
theorem nm_isn (w : Str) : (nmO w).isNone = !okN w := by unfold nmO; cases okN w <;> rfl
theorem fg_isn (w : Str) : (fgO w).isNone = !(figO w).isSome := by unfold fgO; cases figO w <;> rfl
theorem gt_isn (g : Str) : (gtO g).isNone = !(decide (g = "-") || okN g) := by
  unfold gtO
  by_cases k : g = "-"
  · rw [if_pos k, decide_eq_true k]; rfl
  · rw [if_neg k, decide_eq_false k, nm_isn]; rfl
theorem od_nm {w : Str} (h : okN w = true) : od (nmO w) = .str w := by unfold nmO; rw [if_pos h]; rfl
theorem od_fg {w : Str} {n : Int} (h : figO w = some n) : od (fgO w) = .int n := by unfold fgO; rw [h]; rfl
theorem od_gt {g : Str} (h : (decide (g = "-") || okN g) = true) : od (gtO g) = .str (gOf g) := by
  unfold gtO gOf
  by_cases k : g = "-"
  · rw [if_pos k, if_pos k]; rfl
  · rw [decide_eq_false k, Bool.false_or] at h
    rw [if_neg k, if_neg k, od_nm h]
theorem fld_tw : fldsOf "twowire" = some flTw := by unfold fldsOf; rw [if_neg (by decide +kernel), if_neg (by decide +kernel), if_pos rfl]
theorem fld_fr : fldsOf "framed" = some flFr := by unfold fldsOf; rw [if_neg (by decide +kernel), if_pos rfl]
theorem fld_ck : fldsOf "clocked" = some flCk := if_pos rfl
theorem not_f {Z : Bool} (h : (!Z) = false) : Z = true := by cases Z <;> first | rfl | cases h
theorem proto_tw {c d : Str} (hc : Wd c) (hd : Wd d) : fn_protocol_of [.list [.str "twowire", .str c, .str d]] = some (.ok (rdTw c d)) := by
  have h := proto_gen (w0 := "twowire") (as := [("clock", c, nmO c), ("data", d, nmO d)]) (nb := !(okN c && okN d)) (vb := !one1 [c, d]) fld_tw rfl (by
    intro a ha
    simp only [List.mem_cons, List.not_mem_nil, or_false] at ha
    rcases ha with rfl | rfl
    · exact ⟨p_lin bd_tab.1 ng_clock inl_clock hc, nm_flat⟩
    · exact ⟨p_lin bd_tab.2.2.1 ng_data inl_data hd, nm_flat⟩) (by simp) (by
    simp only [List.any_cons, List.any_nil, nm_isn]
    cases okN c <;> cases okN d <;> rfl) (fun hb => by
    have hb := not_f hb
    rw [Bool.and_eq_true] at hb
    refine ⟨[c, d], verD [c, d] [c, d] .none, ?_⟩
    simp only [List.map_cons, List.map_nil, od_nm hb.1, od_nm hb.2]
    refine ⟨lines_tw, fault_tw (.inl rfl), ?_⟩
    have := ver_isnt (ls := [c, d]) (V := .none) (b := true) rfl
    rw [Bool.and_true] at this
    exact this)
  refine h.trans ?_
  unfold rdTw lsOk
  simp only [List.map_cons, List.map_nil, List.all_cons, List.all_nil, Bool.and_true]
  congr 2
  generalize one1 [c, d] = z
  cases h1 : okN c
  · rw [if_pos (.inl rfl)]; rfl
  · cases h2 : okN d
    · rw [if_pos (.inl rfl)]; rfl
    · rw [od_nm h1, od_nm h2]
      cases z <;> rfl
theorem proto_fr {d l b p s : Str} (hd : Wd d) (hl : Wd l) (hb : Wd b) (hs : Wd s) : fn_protocol_of [.list [.str "framed", .str d, .str l, .str b, .str p, .str s]] = some (.ok (rdFr d l b p s)) := by
  have h := fun l' b' s' (e : figO l = some l' ∧ figO b = some b' ∧ figO s = some s' ∨ ¬ ((figO l).isSome && (figO b).isSome && (figO s).isSome) = true) => proto_gen (w0 := "framed") (as := [("data", d, nmO d), ("long", l, fgO l), ("bits", b, fgO b), ("check", p, some (.str p)), ("stops", s, fgO s)]) (nb := !(okN d && ((figO l).isSome && (figO b).isSome && (figO s).isSome))) (vb := !(one1 [d] && (rowsFr l' b' p s').all (·.2))) fld_fr rfl (by
    intro a ha
    simp only [List.mem_cons, List.not_mem_nil, or_false] at ha
    rcases ha with rfl | rfl | rfl | rfl | rfl
    · exact ⟨p_lin bd_tab.2.2.1 ng_data inl_data hd, nm_flat⟩
    · exact ⟨p_num bd_tab.2.2.2.2.2.2.1 hl, fg_flat⟩
    · exact ⟨p_num bd_tab.2.2.2.2.1 hb, fg_flat⟩
    · exact ⟨p_wrd bd_tab.2.2.2.2.2.2.2.1 ng_check inl_check, wd_flat⟩
    · exact ⟨p_num bd_tab.2.2.2.2.2.2.2.2 hs, fg_flat⟩) (by simp) (by
    simp only [List.any_cons, List.any_nil, nm_isn, fg_isn]
    cases okN d <;> cases (figO l).isSome <;> cases (figO b).isSome <;> cases (figO s).isSome <;> rfl) (fun hn => by
    have hn := not_f hn
    rw [Bool.and_eq_true] at hn
    rcases e with ⟨e1, e2, e3⟩ | e
    · refine ⟨[d], verD [d] [d] (fbad (rowsFr l' b' p s')), ?_⟩
      simp only [List.map_cons, List.map_nil, od_nm hn.1, od_fg e1, od_fg e2, od_fg e3]
      exact ⟨lines_fr, fault_fr (.inl rfl), ver_isnt (fbad_isnt _)⟩
    · exact absurd hn.2 e)
  have i1 := inB_fig (lo := 2) (hi := 1000000) (z := l) (by omega)
  have i2 := inB_fig (lo := 1) (hi := 16) (z := b) (by omega)
  have i3 := inB_fig (lo := 1) (hi := 2) (z := s) (by omega)
  by_cases e : ((figO l).isSome && (figO b).isSome && (figO s).isSome) = true
  · rw [Bool.and_eq_true, Bool.and_eq_true] at e
    obtain ⟨l', e1⟩ := Option.isSome_iff_exists.mp e.1.1
    obtain ⟨b', e2⟩ := Option.isSome_iff_exists.mp e.1.2
    obtain ⟨s', e3⟩ := Option.isSome_iff_exists.mp e.2
    refine (h l' b' s' (.inl ⟨e1, e2, e3⟩)).trans ?_
    simp only [List.map_cons, List.map_nil, od_fg e1, od_fg e2, od_fg e3]
    rw [e1] at i1
    rw [e2] at i2
    rw [e3] at i3
    dsimp only at i1 i2 i3
    unfold rdFr lsOk
    rw [i1, i2, i3, e1, e2, e3]
    congr 2
    simp only [rowsFr, List.all_cons, List.all_nil, Bool.and_true, Option.isSome_some]
    generalize one1 [d] = z
    generalize btw 2 1000000 l' = x1
    generalize btw 1 16 b' = x2
    generalize btw 1 2 s' = x3
    generalize wCheck.contains p = x4
    cases h1 : okN d
    · rw [if_pos (.inl rfl)]
      cases x1 <;> cases x2 <;> cases x3 <;> cases x4 <;> rfl
    · rw [od_nm h1]
      cases x1 <;> cases x2 <;> cases x3 <;> cases x4 <;> cases z <;> rfl
  · refine (h 0 0 0 (.inr e)).trans ?_
    rw [Bool.eq_false_iff.mpr e, Bool.and_false, if_pos (.inl rfl)]
    congr 2
    unfold rdFr
    rw [i1, i2, i3]
    cases e1 : figO l with
    | none => rfl
    | some x =>
      cases e2 : figO b with
      | none => dsimp only; split <;> first | rfl | (split <;> first | rfl | simp_all)
      | some y =>
        cases e3 : figO s with
        | none => dsimp only; cases btw 2 1000000 x <;> cases btw 1 16 y <;> rfl
        | some z => rw [e1, e2, e3] at e; exact absurd rfl e
theorem ls_gate {c d g : Str} (h : (decide (g = "-") || okN g) = true) : linesCk c d (gOf g) = lsCk c d g := by
  unfold linesCk lsCk gOf
  by_cases k : g = "-"
  · rw [if_pos k, if_pos k, if_pos rfl]
  · rw [decide_eq_false k, Bool.false_or] at h
    rw [if_neg k, if_neg k, if_neg]
    intro e
    rw [e] at h
    exact absurd h (by decide +kernel)
theorem ls_ok {c d g : Str} : ((lsCk c d g).all okN) = (okN c && okN d && (decide (g = "-") || okN g)) := by
  unfold lsCk
  by_cases k : g = "-"
  · rw [if_pos k, decide_eq_true k]
    simp
  · rw [if_neg k, decide_eq_false k]
    simp [Bool.and_assoc]
theorem proto_ck {c e d g b f : Str} (hc : Wd c) (hd : Wd d) (hg : Wd g) (hb : Wd b) : fn_protocol_of [.list [.str "clocked", .str c, .str e, .str d, .str g, .str b, .str f]] = some (.ok (rdCk c e d g b f)) := by
  have h := fun b' (q : figO b = some b' ∨ ¬ (figO b).isSome = true) => proto_gen (w0 := "clocked") (as := [("clock", c, nmO c), ("edge", e, some (.str e)), ("data", d, nmO d), ("gate", g, gtO g), ("bits", b, fgO b), ("first", f, some (.str f))]) (nb := !(okN c && okN d && (decide (g = "-") || okN g) && (figO b).isSome)) (vb := !(one1 (lsCk c d g) && (rowsCk e b' f).all (·.2))) fld_ck rfl (by
    intro a ha
    simp only [List.mem_cons, List.not_mem_nil, or_false] at ha
    rcases ha with rfl | rfl | rfl | rfl | rfl | rfl
    · exact ⟨p_lin bd_tab.1 ng_clock inl_clock hc, nm_flat⟩
    · exact ⟨p_wrd bd_tab.2.1 ng_edge inl_edge, wd_flat⟩
    · exact ⟨p_lin bd_tab.2.2.1 ng_data inl_data hd, nm_flat⟩
    · exact ⟨p_gate hg, gt_flat⟩
    · exact ⟨p_num bd_tab.2.2.2.2.1 hb, fg_flat⟩
    · exact ⟨p_wrd bd_tab.2.2.2.2.2.1 ng_first inl_first, wd_flat⟩) (by simp) (by
    simp only [List.any_cons, List.any_nil, nm_isn, fg_isn, gt_isn]
    generalize (decide (g = "-") || okN g) = z
    cases okN c <;> cases okN d <;> cases z <;> cases (figO b).isSome <;> rfl) (fun hn => by
    have hn := not_f hn
    rw [Bool.and_eq_true, Bool.and_eq_true, Bool.and_eq_true] at hn
    rcases q with q | q
    · refine ⟨lsCk c d g, verD (lsCk c d g) (lsCk c d g) (fbad (rowsCk e b' f)), ?_⟩
      simp only [List.map_cons, List.map_nil, od_nm hn.1.1.1, od_nm hn.1.1.2, od_gt hn.1.2, od_fg q]
      have hs : PyData.strOk (gOf g) = true := by
        unfold gOf
        split
        · exact strOk_of _
        · exact asc_ok hg.a
      have l1 := lines_ck (c := c) (e := e) (d := d) (g := gOf g) (f := f) (b := b') hs
      have l2 := fault_ck (c := c) (e := e) (d := d) (g := gOf g) (f := f) (b := b') (ns := lsCk c d g) (.inl rfl) hs
      rw [ls_gate hn.1.2] at l1 l2
      exact ⟨l1, l2, ver_isnt (fbad_isnt _)⟩
    · exact absurd hn.2 q)
  have i2 := inB_fig (lo := 1) (hi := 16) (z := b) (by omega)
  by_cases q : (figO b).isSome = true
  · obtain ⟨b', e2⟩ := Option.isSome_iff_exists.mp q
    refine (h b' (.inl e2)).trans ?_
    simp only [List.map_cons, List.map_nil, od_fg e2]
    rw [e2] at i2
    dsimp only at i2
    unfold rdCk lsOk
    rw [i2, e2, ls_ok]
    congr 2
    simp only [rowsCk, List.all_cons, List.all_nil, Bool.and_true, Option.isSome_some]
    generalize one1 (lsCk c d g) = z
    generalize btw 1 16 b' = x1
    generalize wEdge.contains e = x2
    generalize wFirst.contains f = x3
    cases h1 : okN c
    · rw [if_pos (.inl rfl)]
      cases x1 <;> cases x2 <;> cases x3 <;> rfl
    · cases h2 : okN d
      · rw [if_pos (.inl rfl)]
        cases x1 <;> cases x2 <;> cases x3 <;> rfl
      · cases h3 : (decide (g = "-") || okN g)
        · rw [if_pos (.inl rfl)]
          cases x1 <;> cases x2 <;> cases x3 <;> rfl
        · rw [od_nm h1, od_nm h2, od_gt h3]
          cases x1 <;> cases x2 <;> cases x3 <;> cases z <;> rfl
  · refine (h 0 (.inr q)).trans ?_
    rw [Bool.eq_false_iff.mpr q, Bool.and_false, if_pos (.inl rfl)]
    congr 2
    unfold rdCk
    rw [i2]
    cases e2 : figO b with
    | none => rfl
    | some y => rw [e2] at q; exact absurd rfl q
theorem proto_all {ws : List Str} (h0 : ws ≠ []) (hw : ∀ w ∈ ws, Wd w) (hl : ws.length ≤ 1000) : fn_protocol_of [.list (ws.map PyData.str)] = some (.ok (rdOf ws)) := by
  obtain ⟨w0, r, rfl⟩ : ∃ w0 r, ws = w0 :: r := by
    cases ws with
    | nil => exact absurd rfl h0
    | cons a r => exact ⟨a, r, rfl⟩
  by_cases k1 : w0 = "twowire" ∧ r.length = 2
  · obtain ⟨rfl, k⟩ := k1
    match r, k with
    | [c, d], _ => exact proto_tw (hw c (by simp)) (hw d (by simp))
  · by_cases k2 : w0 = "framed" ∧ r.length = 5
    · obtain ⟨rfl, k⟩ := k2
      match r, k with
      | [d, l, b, p, s], _ => exact proto_fr (hw d (by simp)) (hw l (by simp)) (hw b (by simp)) (hw s (by simp))
    · by_cases k3 : w0 = "clocked" ∧ r.length = 6
      · obtain ⟨rfl, k⟩ := k3
        match r, k with
        | [c, e, d, g, b, f], _ => exact proto_ck (hw c (by simp)) (hw d (by simp)) (hw g (by simp)) (hw b (by simp))
      · have hn : rdOf (w0 :: r) = .none := by
          unfold rdOf
          split
          · rename_i e; cases e; exact if_neg fun q => k1 ⟨q, rfl⟩
          · rename_i e; cases e; exact if_neg fun q => k2 ⟨q, rfl⟩
          · rename_i e; cases e; exact if_neg fun q => k3 ⟨q, rfl⟩
          · rfl
        rw [hn]
        refine proto_bad (by rw [List.length_cons] at hl; omega) fun fl hf => ?_
        unfold fldsOf at hf
        split at hf
        · rename_i q; cases hf; intro z; exact k3 ⟨q, z.symm⟩
        · split at hf
          · rename_i q; cases hf; intro z; exact k2 ⟨q, z.symm⟩
          · split at hf
            · rename_i q; cases hf; intro z; exact k1 ⟨q, z.symm⟩
            · cases hf
theorem rd_kind (ws : List Str) : rdOf ws = .none ∨ ∃ ds, rdOf ws = .tuple ds := by
  unfold rdOf
  split
  · split
    · unfold rdTw; split
      · exact .inr ⟨_, rfl⟩
      · exact .inl rfl
    · exact .inl rfl
  · split
    · unfold rdFr; split
      · split
        · exact .inr ⟨_, rfl⟩
        · exact .inl rfl
      · exact .inl rfl
    · exact .inl rfl
  · split
    · unfold rdCk; split
      · split
        · exact .inr ⟨_, rfl⟩
        · exact .inl rfl
      · exact .inl rfl
    · exact .inl rfl
  · exact .inl rfl

/-! ### texts -/
def wpart (z : Str) : Str := if z = "" then "-" else z
def Sx (p : D × Str) : Prop := ((∃ z, p = (.str z, wpart z) ∧ PyData.strOk z = true) ∨ ∃ n : Int, p = (.int n, ntx n) ∧ n.natAbs.log2 < 1920) ∧ p.2.length ≤ 20
theorem sum_le : ∀ (l : List Nat) (B : Nat), (∀ x ∈ l, x ≤ B) → l.sum ≤ B * l.length
  | [], _, _ => by simp
  | x :: l, B, h => by
    have := sum_le l B fun y hy => h y (List.mem_cons_of_mem _ hy)
    have := h x List.mem_cons_self
    rw [List.sum_cons, List.length_cons, Nat.mul_add]; omega
theorem joinS_ok {ws : List Str} (h : ∀ w ∈ ws, w.length ≤ 20) (hl : ws.length ≤ 100) : joinS " " (.list (ws.map PyData.str)) = some (.str (Txt.join " " ws)) := by
  have hs := sum_le (ws.map (·.length)) 20 fun x hx => by
    obtain ⟨w, hw, rfl⟩ := List.mem_map.mp hx
    exact h w hw
  rw [List.length_map] at hs
  have e0 : (((" " : String) : Str)).length = 1 := rfl
  have hj : joinOk " " ws = true := decide_eq_true (by rw [e0]; omega)
  show (strsD (ws.map PyData.str)).bind (fun ys => if joinOk " " ys = true then some (PyData.str (Txt.join " " ys)) else none) = _
  rw [strsD_map]
  show (if joinOk " " ws = true then some (PyData.str (Txt.join " " ws)) else none) = _
  rw [if_pos hj]
theorem eq_is (n : Int) (z : Str) (hz : PyData.strOk z = true) : eqD (.int n) (.str z) = some (.bool false) := by
  rw [eq_sh (n := 0) (m := 0) (Sh.int n) ⟨by simp [PyData.canLay0, hz], by simp [PyData.depth]⟩ (by decide) (by decide)]
  simp [PyData.eqv]
theorem show_comp {prs : List (D × Str)} (hl : prs.length ≤ 100) (h : ∀ p ∈ prs, Sx p) : C_show_protocol_0 [.val (.tuple (prs.map (·.1))), .un] = some (.ok ((prs.map (·.2)).map PyData.str) [.val (.tuple (prs.map (·.1))), .un]) := by
  have hit : mItems (mVar 0) [.val (.tuple (prs.map (·.1))), .un] = some (.ok (prs.map (·.1)) [.val (.tuple (prs.map (·.1))), .un]) := it_var rfl rfl
  rw [List.map_map]
  refine comp_is (vs := [1]) (ρe := [.val (.tuple (prs.map (·.1))), .un]) hit (fit_of2 (by rw [List.length_map]; omega)) ?_
  refine go_mapA _ _ _ ?_
  rintro ⟨d, w⟩ hp
  generalize PyData.tuple (prs.map (·.1)) = T
  refine ⟨[.val T, .val d], [.val T, .val d], by simp [mStore, unsE], ?_, by simp [unsE]⟩
  rcases (h _ hp).1 with ⟨z, e, hz⟩ | ⟨n, e, hn⟩
  · obtain ⟨rfl, rfl⟩ := Prod.mk.inj e
    have hq : eqD (.str z) (.str "") = some (.bool (z == (("" : String) : Str))) := eqS _ _ hz (strOk_of _)
    change _ = some (Dd.R.ok (PyData.str (wpart z)) [.val T, .val (.str z)])
    unfold wpart
    by_cases q : z = ""
    · have q' : (z == (("" : String) : Str)) = true := by rw [q]; exact beq_self_eq_true _
      rw [q'] at hq
      rw [if_pos q]
      simp [mSeq, mIf, mBol, mBin, mBinL, mBind, mLift, mPure, mPeek, mVar, ixD, iI, bolD, mAsg, mCall1, mCallN, intD, modD, iIc, cMod, mStore, mStoreO, mDone, gSet, mOwn, mPut, setD, mRet, mDrop, mStuck, mTru, truD, mOrT, mAndT, mNotT, mAnd, mOr, mNot, mIsi, isiT_eq, typD, lenD, mCons, mTup, mLst, mLstN, mVal, oOr, addD, subD, mulD, mulI, iIc, cMul, ltD, leD, gtD, geD, gTupD, gCons2, gsNil, mCallV, mCallB, mRs, tupleD, mRetF, mChain, mScr, mScrLen, mScrIx, mMut, appD, max2D, min2D, mRng1, mRng2, rngD1, rngD2, rngOk, mItems, itemsD, mAsgN, mParEE, mParEN, mUn, negD, mCallN1, listD, unsE, powD, cPow, divD, cDiv, mFor, mSl, mSlL, slD, mNoPart, mPart, intO, mSlN, mSlNL, slN, mRevN, revO, mParNC, andD, orD, xorD, shrD, shlD, cShr, mStepN, mStepNL, stepO, mCatN, mCatNL, catN, hq]
    · rw [beq_false_of_ne q] at hq
      rw [if_neg q]
      simp [mSeq, mIf, mBol, mBin, mBinL, mBind, mLift, mPure, mPeek, mVar, ixD, iI, bolD, mAsg, mCall1, mCallN, intD, modD, iIc, cMod, mStore, mStoreO, mDone, gSet, mOwn, mPut, setD, mRet, mDrop, mStuck, mTru, truD, mOrT, mAndT, mNotT, mAnd, mOr, mNot, mIsi, isiT_eq, typD, lenD, mCons, mTup, mLst, mLstN, mVal, oOr, addD, subD, mulD, mulI, iIc, cMul, ltD, leD, gtD, geD, gTupD, gCons2, gsNil, mCallV, mCallB, mRs, tupleD, mRetF, mChain, mScr, mScrLen, mScrIx, mMut, appD, max2D, min2D, mRng1, mRng2, rngD1, rngD2, rngOk, mItems, itemsD, mAsgN, mParEE, mParEN, mUn, negD, mCallN1, listD, unsE, powD, cPow, divD, cDiv, mFor, mSl, mSlL, slD, mNoPart, mPart, intO, mSlN, mSlNL, slN, mRevN, revO, mParNC, andD, orD, xorD, shrD, shlD, cShr, mStepN, mStepNL, stepO, mCatN, mCatNL, catN, hq, strOfD]
  · obtain ⟨rfl, rfl⟩ := Prod.mk.inj e
    have hq := eq_is n "" (strOk_of _)
    have hs : strOfD [.int n] = some (.str (ntx n)) := by
      show (if n.natAbs.log2 < 1920 then some (PyData.str (toString n)) else none) = _
      rw [if_pos hn]; rfl
    change _ = some (Dd.R.ok (PyData.str (ntx n)) [.val T, .val (.int n)])
    simp [mSeq, mIf, mBol, mBin, mBinL, mBind, mLift, mPure, mPeek, mVar, ixD, iI, bolD, mAsg, mCall1, mCallN, intD, modD, iIc, cMod, mStore, mStoreO, mDone, gSet, mOwn, mPut, setD, mRet, mDrop, mStuck, mTru, truD, mOrT, mAndT, mNotT, mAnd, mOr, mNot, mIsi, isiT_eq, typD, lenD, mCons, mTup, mLst, mLstN, mVal, oOr, addD, subD, mulD, mulI, iIc, cMul, ltD, leD, gtD, geD, gTupD, gCons2, gsNil, mCallV, mCallB, mRs, tupleD, mRetF, mChain, mScr, mScrLen, mScrIx, mMut, appD, max2D, min2D, mRng1, mRng2, rngD1, rngD2, rngOk, mItems, itemsD, mAsgN, mParEE, mParEN, mUn, negD, mCallN1, listD, unsE, powD, cPow, divD, cDiv, mFor, mSl, mSlL, slD, mNoPart, mPart, intO, mSlN, mSlNL, slN, mRevN, revO, mParNC, andD, orD, xorD, shrD, shlD, cShr, mStepN, mStepNL, stepO, mCatN, mCatNL, catN, hq, hs]
theorem show_ok {prs : List (D × Str)} (hl : prs.length ≤ 100) (h : ∀ p ∈ prs, Sx p) : fn_show_protocol [.tuple (prs.map (·.1))] = some (.ok (.str (Txt.join " " (prs.map (·.2))))) := by
  have hc := show_comp hl h
  have hj := joinS_ok (ws := prs.map (·.2)) (fun w hw => by
    obtain ⟨p, hp, rfl⟩ := List.mem_map.mp hw
    exact (h p hp).2) (by rw [List.length_map]; exact hl)
  generalize (prs.map (·.2)).map PyData.str = S at *
  generalize PyData.tuple (prs.map (·.1)) = T at *
  simp [fn_show_protocol, runV, m_show_protocol, env0, mSeq, mIf, mBol, mBin, mBinL, mBind, mLift, mPure, mPeek, mVar, ixD, iI, bolD, mAsg, mCall1, mCallN, intD, modD, iIc, cMod, mStore, mStoreO, mDone, gSet, mOwn, mPut, setD, mRet, mDrop, mStuck, mTru, truD, mOrT, mAndT, mNotT, mAnd, mOr, mNot, mIsi, isiT_eq, typD, lenD, mCons, mTup, mLst, mLstN, mVal, oOr, addD, subD, mulD, mulI, iIc, cMul, ltD, leD, gtD, geD, gTupD, gCons2, gsNil, mCallV, mCallB, mRs, tupleD, mRetF, mChain, mScr, mScrLen, mScrIx, mMut, appD, max2D, min2D, mRng1, mRng2, rngD1, rngD2, rngOk, mItems, itemsD, mAsgN, mParEE, mParEN, mUn, negD, mCallN1, listD, unsE, powD, cPow, divD, cDiv, mFor, mSl, mSlL, slD, mNoPart, mPart, intO, mSlN, mSlNL, slN, mRevN, revO, mParNC, andD, orD, xorD, shrD, shlD, cShr, mStepN, mStepNL, stepO, mCatN, mCatNL, catN, mJoin, strD, hc, hj]
/-! ### texts, shape by shape -/
def wCk (a e b g : Str) (n : Int) (f : Str) : List Str := ["clocked", a, e, b, wpart g, ntx n, f]
def wFr (a : Str) (l n : Int) (p : Str) (s : Int) : List Str := ["framed", a, ntx l, ntx n, p, ntx s]
def wTw (a b : Str) : List Str := ["twowire", a, b]
theorem ne_of_len {z : Str} (h : 1 ≤ z.length) : z ≠ "" := fun e => by rw [e] at h; exact absurd h (by decide)
theorem wp_of {z : Str} (h : z ≠ "") : wpart z = z := if_neg h
theorem sx_str {z : Str} (h : z ≠ "") (hz : PyData.strOk z = true) (hl : z.length ≤ 20) : Sx (.str z, z) := ⟨.inl ⟨z, by rw [wp_of h], hz⟩, hl⟩
theorem okN_ne {z : Str} (h : okN z = true) : z ≠ "" := ne_of_len (by
  unfold okN at h
  rw [Bool.and_eq_true, Bool.and_eq_true] at h
  exact of_decide_eq_true h.1.1)
theorem sx_nm {z : Str} (h : okN z = true) : Sx (.str z, z) := sx_str (okN_ne h) (asc_ok (okN_asc h).1) (by have := (okN_asc h).2; omega)
theorem sx_int {n : Int} (h1 : 1 ≤ n) (h2 : n ≤ 1000000) : Sx (.int n, ntx n) := ⟨.inr ⟨n, rfl, by
  have h0 : n.natAbs ≠ 0 := by omega
  have : n.natAbs.log2 < 30 := (Nat.log2_lt h0).mpr (by omega)
  omega⟩, Nat.le_trans (ntx_facts h1 (by omega)).2.1 (by omega)⟩
theorem sx_edge {e : Str} (h : e ∈ wEdge) : Sx (.str e, e) := by
  simp only [wEdge, List.mem_cons, List.not_mem_nil, or_false] at h
  rcases h with rfl | rfl <;> exact sx_str (by decide +kernel) (strOk_of _) (by decide +kernel)
theorem sx_first {e : Str} (h : e ∈ wFirst) : Sx (.str e, e) := by
  simp only [wFirst, List.mem_cons, List.not_mem_nil, or_false] at h
  rcases h with rfl | rfl <;> exact sx_str (by decide +kernel) (strOk_of _) (by decide +kernel)
theorem sx_check {e : Str} (h : e ∈ wCheck) : Sx (.str e, e) := by
  simp only [wCheck, List.mem_cons, List.not_mem_nil, or_false] at h
  rcases h with rfl | rfl | rfl <;> exact sx_str (by decide +kernel) (strOk_of _) (by decide +kernel)
theorem sx_gate {g c : Str} (hg : g = "" ∨ g = c) (hc : okN c = true) : Sx (.str g, wpart g) := by
  rcases hg with rfl | rfl
  · exact ⟨.inl ⟨"", rfl, strOk_of _⟩, by decide +kernel⟩
  · rw [wp_of (okN_ne hc)]; exact sx_nm hc
section
variable {a b c e g f p : Str} {n l s : Int}
theorem show_ck (ha : okN a = true) (hb : okN b = true) (hc : okN c = true) (he : e ∈ wEdge) (hg : g = "" ∨ g = c) (h1 : 1 ≤ n) (h2 : n ≤ 16) (hf : f ∈ wFirst) : fn_show_protocol [ckD a e b g n f] = some (.ok (.str (Txt.join " " (wCk a e b g n f)))) :=
  show_ok (prs := [(.str "clocked", "clocked"), (.str a, a), (.str e, e), (.str b, b), (.str g, wpart g), (.int n, ntx n), (.str f, f)]) (by simp) (by
    intro q hq
    simp only [List.mem_cons, List.not_mem_nil, or_false] at hq
    rcases hq with rfl | rfl | rfl | rfl | rfl | rfl | rfl
    · exact sx_str (by decide +kernel) (strOk_of _) (by decide +kernel)
    · exact sx_nm ha
    · exact sx_edge he
    · exact sx_nm hb
    · exact sx_gate hg hc
    · exact sx_int h1 (by omega)
    · exact sx_first hf)
theorem show_fr (ha : okN a = true) (h1 : 2 ≤ l) (h2 : l ≤ 1000000) (h3 : 1 ≤ n) (h4 : n ≤ 16) (hp : p ∈ wCheck) (h5 : 1 ≤ s) (h6 : s ≤ 2) : fn_show_protocol [frD a l n p s] = some (.ok (.str (Txt.join " " (wFr a l n p s)))) :=
  show_ok (prs := [(.str "framed", "framed"), (.str a, a), (.int l, ntx l), (.int n, ntx n), (.str p, p), (.int s, ntx s)]) (by simp) (by
    intro q hq
    simp only [List.mem_cons, List.not_mem_nil, or_false] at hq
    rcases hq with rfl | rfl | rfl | rfl | rfl | rfl
    · exact sx_str (by decide +kernel) (strOk_of _) (by decide +kernel)
    · exact sx_nm ha
    · exact sx_int (by omega) (by omega)
    · exact sx_int (by omega) (by omega)
    · exact sx_check hp
    · exact sx_int (by omega) (by omega))
theorem show_tw (ha : okN a = true) (hb : okN b = true) : fn_show_protocol [twD a b] = some (.ok (.str (Txt.join " " (wTw a b)))) :=
  show_ok (prs := [(.str "twowire", "twowire"), (.str a, a), (.str b, b)]) (by simp) (by
    intro q hq
    simp only [List.mem_cons, List.not_mem_nil, or_false] at hq
    rcases hq with rfl | rfl | rfl
    · exact sx_str (by decide +kernel) (strOk_of _) (by decide +kernel)
    · exact sx_nm ha
    · exact sx_nm hb)
end

/-! ### the law's texts; reading -/
section
variable {a b c e g f p : Str} {n l s : Int}
end

/-! ### loops over a range; the cells of a script -/
theorem forL_rng {g : D → M Unit} {body : M Fl} (E : Nat → En → Prop) (B : Nat) : ∀ (m k : Nat) (ρ : En), E k ρ → k + m ≤ B → (∀ k ρ, k < B → E k ρ → ∃ ρ1 ρ2, g (.int (k : Nat)) ρ = some (.ok () ρ1) ∧ body ρ1 = some (.ok .nx ρ2) ∧ E (k + 1) ρ2) →
    ∃ ρ', mForL g body ((List.range' k m).map fun i : Nat => PyData.int (i : Nat)) ρ = some (.ok .nx ρ') ∧ E (k + m) ρ'
  | 0, k, ρ, e, _, _ => ⟨ρ, rfl, e⟩
  | m + 1, k, ρ, e, hB, h => by
    obtain ⟨ρ1, ρ2, e1, e2, e3⟩ := h k ρ (by omega) e
    obtain ⟨ρ', h1, h2⟩ := forL_rng E B m (k + 1) ρ2 e3 (by omega) h
    refine ⟨ρ', ?_, by rw [show k + (m + 1) = k + 1 + m by omega]; exact h2⟩
    rw [List.range'_succ, List.map_cons]
    unfold mForL
    rw [bind_is e1, bind_is e2]
    exact h1
theorem for_rng {ms : M (List D)} {g : D → M Unit} {body : M Fl} (E : Nat → En → Prop) (m : Nat) {ρ ρ1 : En} (h : ms ρ = some (.ok [.int (m : Nat)] ρ1)) (hm : m ≤ 1000000000) (e : E 0 ρ1) (st : ∀ k ρ, k < m → E k ρ → ∃ ρ1 ρ2, g (.int (k : Nat)) ρ = some (.ok () ρ1) ∧ body ρ1 = some (.ok .nx ρ2) ∧ E (k + 1) ρ2) :
    ∃ ρ', mFor (mRng1 ms) g body ρ = some (.ok .nx ρ') ∧ E m ρ' := by
  obtain ⟨ρ', h1, h2⟩ := forL_rng (g := g) (body := body) E m m 0 ρ1 e (by omega) st
  rw [Nat.zero_add] at h2
  refine ⟨ρ', ?_, h2⟩
  unfold mFor
  rw [bind_is (rng1_is h (rngOk_le (by omega) (by omega)))]
  rw [rngL_nat, List.range_eq_range']
  exact h1
theorem cells_rng {lo hi : Int} (hl : 0 ≤ lo) (h1 : lo ≤ hi) (h2 : hi ≤ 1000) (ns : List Int) (r : En) : ∃ M : Int, 0 ≤ M ∧ M ≤ hi ∧ mRng1 (mCons (mCallN max2D (mCons (mPure (.int lo)) (mCons (mCallN min2D (mCons (mPure (.int hi)) (mCons (mScrLen 0) (mPure [])))) (mPure [])))) (mPure [])) (.scr ns :: r) = some (.ok (rngL 0 M) (.scr ns :: r)) := by
  have h0 : ∃ M : Int, 0 ≤ M ∧ M ≤ hi ∧ max2D [.int lo, .int (if (ns.length : Int) < hi then (ns.length : Int) else hi)] = some (.int M) :=
    ⟨_, by split <;> split <;> omega, by split <;> split <;> omega, rfl⟩
  obtain ⟨M, q1, q2, q3⟩ := h0
  refine ⟨M, q1, q2, rng1_is ?_ (rngOk_le (by omega) (by omega))⟩
  simp [mCons, mCallN, min2D, mBind, mPure, mLift, mScrLen, mScr, q3]

/-! ### unlike names -/
theorem go_cons {vs : List Nat} {g : D → M Unit} {te : M D} {x y : D} {xs ys : List D} {ρ ρ1 ρ3 ρ' ρe : En} (e1 : g x ρ = some (.ok () ρ1)) (e2 : te ρ1 = some (.ok y ρ3)) (e3 : unsE ρ3 vs = ρ') (ih : mGo vs g (mPure true) te xs ρ' = some (.ok ys ρe)) : mGo vs g (mPure true) te (x :: xs) ρ = some (.ok (y :: ys) ρe) := by
  have t1 : (mPure true : M Bool) ρ1 = some (.ok true ρ1) := rfl
  have e5 : (mBind te fun y => mPure [y]) ρ1 = some (.ok [y] ρ3) := by rw [bind_is e2]; rfl
  have e6 : mUn_ vs ρ3 = some (.ok () ρ') := by unfold mUn_; rw [e3]
  unfold mGo
  rw [bind_is e1, bind_is t1, if_pos rfl, bind_is e5, bind_is e6, bind_is ih]; rfl
theorem er_map {α β : Type} (f : α → β) : ∀ (l : List α) (k : Nat), (l.map f).eraseIdx k = (l.eraseIdx k).map f
  | [], _ => rfl
  | _ :: _, 0 => rfl
  | a :: l, k + 1 => by
    show f a :: (l.map f).eraseIdx k = f a :: (l.eraseIdx k).map f
    rw [er_map f l k]
theorem nd_erase {ws : List Str} (h : ws.Nodup) : ∀ (k : Nat) (hk : k < ws.length), ws[k] ∉ ws.eraseIdx k ∧ (ws.eraseIdx k).Nodup := by
  induction ws with
  | nil => intro k hk; exact absurd hk (by simp)
  | cons w ws ih =>
    obtain ⟨h1, h2⟩ := List.nodup_cons.mp h
    intro k hk
    cases k with
    | zero => exact ⟨h1, h2⟩
    | succ k =>
      have hk' : k < ws.length := by simpa using hk
      obtain ⟨a, b⟩ := ih h2 k hk'
      refine ⟨?_, ?_⟩
      · show ws[k] ∉ w :: ws.eraseIdx k
        intro m
        rcases List.mem_cons.mp m with e | m
        · exact h1 (e ▸ List.getElem_mem hk')
        · exact a m
      · show (w :: ws.eraseIdx k).Nodup
        exact List.nodup_cons.mpr ⟨fun m => h1 (List.mem_of_mem_eraseIdx m), b⟩
theorem pop_nd {ws : List Str} {r : Int} (hnd : ws.Nodup) (h0 : 0 ≤ r) (h1 : r < ws.length) (hl : ws.length ≤ 100) : ∃ (w : Str) (ws' : List Str), w ∈ ws ∧ (∀ x ∈ ws', x ∈ ws) ∧ ws'.length + 1 = ws.length ∧ w ∉ ws' ∧ ws'.Nodup ∧ popAtD (ws.map PyData.str) [.int r] = some (ws'.map PyData.str, .str w) := by
  have hk : r.toNat < ws.length := by omega
  obtain ⟨n1, n2⟩ := nd_erase hnd r.toNat hk
  refine ⟨ws[r.toNat], ws.eraseIdx r.toNat, List.getElem_mem hk, fun x hx => List.mem_of_mem_eraseIdx hx, by rw [List.length_eraseIdx_of_lt hk]; omega, n1, n2, ?_⟩
  have e1 : decide (r.natAbs < 9223372036854775808) = true := decide_eq_true (by omega)
  have e2 : seqIndex? r (ws.map PyData.str).length = some r.toNat := by
    have n : ¬ r < 0 := by omega
    simp [seqIndex?, n, h0, h1]
  have e3 : (ws.map PyData.str)[r.toNat]? = some (.str ws[r.toNat]) := by rw [List.getElem?_map, List.getElem?_eq_getElem hk]; rfl
  have e4 : (ws.map PyData.str).eraseIdx r.toNat = (ws.eraseIdx r.toNat).map PyData.str := er_map _ _ _
  show (if decide (r.natAbs < 9223372036854775808) = true then (seqIndex? r (ws.map PyData.str).length).bind fun k => ((ws.map PyData.str)[k]?).map fun d => ((ws.map PyData.str).eraseIdx k, d) else none) = _
  rw [e1, if_pos rfl, e2]
  show ((ws.map PyData.str)[r.toNat]?).map (fun d => ((ws.map PyData.str).eraseIdx r.toNat, d)) = _
  rw [e3, e4]; rfl
def E0 (m : Nat) (bs : List D) (ws : List Str) : En := [.io bs, .val (.int (m : Nat)), .own (ws.map PyData.str), .un, .un, .un, .un, .un]
theorem pop_step {m : Nat} {bs : List D} {ws : List Str} {x : D} (hb : Bx bs) (hnd : ws.Nodup) (h1 : 1 ≤ ws.length) (hl : ws.length ≤ 8) : ∃ (w : Str) (ws' : List Str) (bs' : List D), Bx bs' ∧ w ∈ ws ∧ (∀ x ∈ ws', x ∈ ws) ∧ ws'.length + 1 = ws.length ∧ w ∉ ws' ∧ ws'.Nodup ∧
    (mMut 2 popAtD (mCons (mCallB 0 2 fn__law_take (mCons (mCall1 lenD (mPeek 2)) (mPure []))) (mPure []))) [.io bs, .val (.int (m : Nat)), .own (ws.map PyData.str), .un, .un, .un, .un, .val x] = some (.ok (.str w) [.io bs', .val (.int (m : Nat)), .own (ws'.map PyData.str), .un, .un, .un, .un, .val x]) := by
  obtain ⟨r, bs', ht, r0, r1, hb'⟩ := take_ok (m := (ws.length : Int)) hb (by omega) (by omega)
  obtain ⟨w, ws', hm, hs, hlw, hn1, hn2, hp⟩ := pop_nd hnd r0 r1 (by omega)
  refine ⟨w, ws', bs', hb', hm, hs, hlw, hn1, hn2, ?_⟩
  have eL : (ws.map PyData.str).length = ws.length := List.length_map ..
  rw [← eL] at ht
  generalize ws.map PyData.str = W at *
  generalize ws'.map PyData.str = W' at *
  simp [mSeq, mIf, mBol, mBin, mBinL, mBind, mLift, mPure, mPeek, mVar, ixD, iI, bolD, mAsg, mCall1, mCallN, intD, modD, iIc, cMod, mStore, mStoreO, mDone, gSet, mOwn, mPut, setD, mRet, mDrop, mStuck, mTru, truD, mOrT, mAndT, mNotT, mAnd, mOr, mNot, mIsi, isiT_eq, typD, lenD, mCons, mTup, mLst, mLstN, mVal, oOr, addD, subD, mulD, mulI, iIc, cMul, ltD, leD, gtD, geD, gTupD, gCons2, gsNil, mCallV, mCallB, mRs, tupleD, mRetF, mChain, mScr, mScrLen, mScrIx, mMut, appD, max2D, min2D, mRng1, mRng2, rngD1, rngD2, rngOk, mItems, itemsD, mAsgN, mParEE, mParEN, mUn, negD, mCallN1, listD, unsE, powD, cPow, divD, cDiv, mFor, mSl, mSlL, slD, mNoPart, mPart, intO, mSlN, mSlNL, slN, mRevN, revO, mParNC, andD, orD, xorD, shrD, shlD, cShr, mStepN, mStepNL, stepO, mCatN, mCatNL, catN, ht, hp]
theorem pops {m : Nat} : ∀ (xs : List D) (bs : List D) (ws : List Str), Bx bs → ws.Nodup → xs.length ≤ ws.length → ws.length ≤ 8 → ∃ (zs : List Str) (bs' : List D) (ws' : List Str), zs.length = xs.length ∧ (∀ z ∈ zs, z ∈ ws) ∧ zs.Nodup ∧ Bx bs' ∧
    mGo [7] (mStore 7) (mPure true) (mMut 2 popAtD (mCons (mCallB 0 2 fn__law_take (mCons (mCall1 lenD (mPeek 2)) (mPure []))) (mPure []))) xs (E0 m bs ws) = some (.ok (zs.map PyData.str) (E0 m bs' ws'))
  | [], bs, ws, hb, _, _, _ => ⟨[], bs, ws, rfl, fun z h => (by cases h), List.Pairwise.nil, hb, rfl⟩
  | x :: xs, bs, ws, hb, hnd, hl, h8 => by
    rw [List.length_cons] at hl
    obtain ⟨w, w1, b1, hb1, m1, s1, l1, x1, d1, p1⟩ := pop_step (m := m) (x := x) hb hnd (by omega) h8
    obtain ⟨zs, bs', ws', zl, zm, znd, hb', e⟩ := pops (m := m) xs b1 w1 hb1 d1 (by omega) (by omega)
    refine ⟨w :: zs, bs', ws', by rw [List.length_cons, List.length_cons, zl], fun z hz => ?_, List.nodup_cons.mpr ⟨fun h => x1 (zm w h), znd⟩, hb', ?_⟩
    · rcases List.mem_cons.mp hz with rfl | hz
      · exact m1
      · exact s1 z (zm z hz)
    · rw [List.map_cons]
      exact go_cons (ρ1 := [.io bs, .val (.int (m : Nat)), .own (ws.map PyData.str), .un, .un, .un, .un, .val x]) (ρ' := E0 m b1 w1) (by simp [mStore, E0]) p1 (by simp [unsE, E0]) e
theorem names0 {m : Nat} (hm : m ≤ 8) {bs : List D} {ws : List Str} (hb : Bx bs) (hnd : ws.Nodup) (hl : ws.length = 8) : ∃ (zs : List Str) (ws' : List Str) (bs' : List D), zs.length = m ∧ (∀ z ∈ zs, z ∈ ws) ∧ zs.Nodup ∧ Bx bs' ∧ C__law_names_0 (E0 m bs ws) = some (.ok (zs.map PyData.str) (E0 m bs' ws')) := by
  have hr : mRng1 (mCons (mVar 1) (mPure [])) (E0 m bs ws) = some (.ok (rngL 0 (m : Nat)) (E0 m bs ws)) := rng1_is (by simp [mSeq, mIf, mBol, mBin, mBinL, mBind, mLift, mPure, mPeek, mVar, ixD, iI, bolD, mAsg, mCall1, mCallN, intD, modD, iIc, cMod, mStore, mStoreO, mDone, gSet, mOwn, mPut, setD, mRet, mDrop, mStuck, mTru, truD, mOrT, mAndT, mNotT, mAnd, mOr, mNot, mIsi, isiT_eq, typD, lenD, mCons, mTup, mLst, mLstN, mVal, oOr, addD, subD, mulD, mulI, iIc, cMul, ltD, leD, gtD, geD, gTupD, gCons2, gsNil, mCallV, mCallB, mRs, tupleD, mRetF, mChain, mScr, mScrLen, mScrIx, mMut, appD, max2D, min2D, mRng1, mRng2, rngD1, rngD2, rngOk, mItems, itemsD, mAsgN, mParEE, mParEN, mUn, negD, mCallN1, listD, unsE, powD, cPow, divD, cDiv, mFor, mSl, mSlL, slD, mNoPart, mPart, intO, mSlN, mSlNL, slN, mRevN, revO, mParNC, andD, orD, xorD, shrD, shlD, cShr, mStepN, mStepNL, stepO, mCatN, mCatNL, catN, E0]) (rngOk_le (by omega) (by omega))
  have hu : ∀ bs ws, unsE (E0 m bs ws) [7] = E0 m bs ws := fun bs ws => by simp [unsE, E0]
  have hlen : (rngL 0 (m : Int)).length = m := rngL_len m
  obtain ⟨zs, bs', ws', zl, zm, znd, hb', e⟩ := pops (m := m) (rngL 0 (m : Nat)) bs ws hb hnd (by omega) (by omega)
  refine ⟨zs, ws', bs', zl.trans hlen, zm, znd, hb', ?_⟩
  have := comp_is (vs := [7]) (g := mStore 7) (tt := mPure true) (te := mMut 2 popAtD (mCons (mCallB 0 2 fn__law_take (mCons (mCall1 lenD (mPeek 2)) (mPure []))) (mPure []))) (out := zs.map PyData.str) (ρe := E0 m bs' ws') hr (fit_of2 (by omega)) (by rw [hu]; exact e)
  rw [hu] at this
  exact this
def E1 (m : Nat) (W : List D) (bs : List D) : En := [.io bs, .val (.int (m : Nat)), .own W, .val (.str abc), .un, .un, .un, .un]
theorem names1 {m : Nat} {bs W : List D} (hb : Bx bs) : ∃ ys bs', Bx bs' ∧ (∀ y ∈ ys, L1 y) ∧ ys.length ≤ 5 ∧ C__law_names_1 (E1 m W bs) = some (.ok ys (E1 m W bs')) := by
  obtain ⟨r, bs1, ht, r0, r1, hb1⟩ := take_ok (m := 6) hb (by omega) (by omega)
  obtain ⟨n, rfl⟩ : ∃ n : Nat, r = n := ⟨r.toNat, by omega⟩
  have hr : mRng1 (mCons (mCallB 0 2 fn__law_take (mCons (mPure (.int 6)) (mPure []))) (mPure [])) (E1 m W bs) = some (.ok (rngL 0 (n : Nat)) (E1 m W bs1)) := rng1_is (by unfold E1; generalize abc = A; simp [mSeq, mIf, mBol, mBin, mBinL, mBind, mLift, mPure, mPeek, mVar, ixD, iI, bolD, mAsg, mCall1, mCallN, intD, modD, iIc, cMod, mStore, mStoreO, mDone, gSet, mOwn, mPut, setD, mRet, mDrop, mStuck, mTru, truD, mOrT, mAndT, mNotT, mAnd, mOr, mNot, mIsi, isiT_eq, typD, lenD, mCons, mTup, mLst, mLstN, mVal, oOr, addD, subD, mulD, mulI, iIc, cMul, ltD, leD, gtD, geD, gTupD, gCons2, gsNil, mCallV, mCallB, mRs, tupleD, mRetF, mChain, mScr, mScrLen, mScrIx, mMut, appD, max2D, min2D, mRng1, mRng2, rngD1, rngD2, rngOk, mItems, itemsD, mAsgN, mParEE, mParEN, mUn, negD, mCallN1, listD, unsE, powD, cPow, divD, cDiv, mFor, mSl, mSlL, slD, mNoPart, mPart, intO, mSlN, mSlNL, slN, mRevN, revO, mParNC, andD, orD, xorD, shrD, shlD, cShr, mStepN, mStepNL, stepO, mCatN, mCatNL, catN, ht]) (rngOk_le (by omega) (by omega))
  have hl : (rngL 0 (n : Int)).length = n := rngL_len n
  obtain ⟨ys, bs', hb', p, l, e⟩ := go_box (vs := [7]) (g := mStore 7) (te := mBinL ixD 3 (mCallB 0 2 fn__law_take (mCons (mPure (.int 26)) (mPure [])))) (E1 m W) L1 (rngL 0 (n : Nat)) bs1 hb1 (by
    intro x _ bs hb
    obtain ⟨r, bs', ht, r0, r1, hb'⟩ := take_ok (m := 26) hb (by omega) (by omega)
    have hz := abc_at r0 r1
    refine ⟨.str (ltr r), bs', [.io bs, .val (.int (m : Nat)), .own W, .val (.str abc), .un, .un, .un, .val x], [.io bs', .val (.int (m : Nat)), .own W, .val (.str abc), .un, .un, .un, .val x], ⟨_, rfl, ltr_low r0 r1, rfl⟩, hb', by unfold E1; generalize abc = A; simp [mStore], ?_, by unfold E1; generalize abc = A; simp [unsE]⟩
    have hc : mCallB 0 2 fn__law_take (mCons (mPure (.int 26)) (mPure [])) [.io bs, .val (.int (m : Nat)), .own W, .val (.str abc), .un, .un, .un, .val x] = some (.ok (.int r) [.io bs', .val (.int (m : Nat)), .own W, .val (.str abc), .un, .un, .un, .val x]) := by generalize abc = A; simp [mSeq, mIf, mBol, mBin, mBinL, mBind, mLift, mPure, mPeek, mVar, ixD, iI, bolD, mAsg, mCall1, mCallN, intD, modD, iIc, cMod, mStore, mStoreO, mDone, gSet, mOwn, mPut, setD, mRet, mDrop, mStuck, mTru, truD, mOrT, mAndT, mNotT, mAnd, mOr, mNot, mIsi, isiT_eq, typD, lenD, mCons, mTup, mLst, mLstN, mVal, oOr, addD, subD, mulD, mulI, iIc, cMul, ltD, leD, gtD, geD, gTupD, gCons2, gsNil, mCallV, mCallB, mRs, tupleD, mRetF, mChain, mScr, mScrLen, mScrIx, mMut, appD, max2D, min2D, mRng1, mRng2, rngD1, rngD2, rngOk, mItems, itemsD, mAsgN, mParEE, mParEN, mUn, negD, mCallN1, listD, unsE, powD, cPow, divD, cDiv, mFor, mSl, mSlL, slD, mNoPart, mPart, intO, mSlN, mSlNL, slN, mRevN, revO, mParNC, andD, orD, xorD, shrD, shlD, cShr, mStepN, mStepNL, stepO, mCatN, mCatNL, catN, ht]
    generalize abc = A at *
    simp only [mBinL, mBind, mPeek, mPure, mLift, List.getElem?_cons_succ, List.getElem?_cons_zero, hc, hz])
  refine ⟨ys, bs', hb', p, by omega, ?_⟩
  have hu : ∀ bs, unsE (E1 m W bs) [7] = E1 m W bs := fun bs => by unfold E1; generalize abc = A; simp [unsE]
  have := comp_is (vs := [7]) hr (fit_of2 (by omega)) (by rw [hu]; exact e)
  rw [hu] at this
  exact this
/-! the second kind of names: one letter is another -/
def nm1 (st : Str) (sp : Nat) (fi : Int) (k : Nat) : Str := cutS st none (some (sp : Nat)) ++ ltr ((fi + 7 * k) % 26) ++ cutS st (some (sp : Nat)) none
theorem nm1_ok {st : Str} {sp : Nat} {fi : Int} (hst : lowS st) (hl : st.length ≤ 5) (k : Nat) : okN (nm1 st sp fi k) = true := by
  have h := cutS_two st sp sp (Nat.le_refl _)
  have e : (nm1 st sp fi k).length = (cutS st none (some (sp : Nat))).length + 1 + (cutS st (some (sp : Nat)) none).length := by
    unfold nm1
    rw [Str.length_append, Str.length_append]; rfl
  exact okN_of (low_app (low_app (low_cut hst _ _) (ltr_low (by omega) (by omega))) (low_cut hst _ _)) (by omega) (by omega)
theorem comp3 {m : Nat} {te : M D} {bs : List D} {a2 a3 a4 a5 a6 : Sl} (g : Nat → Str) (hm : m ≤ 9) (h : ∀ k, k < m → te [.io bs, .val (.int (m : Nat)), a2, a3, a4, a5, a6, .val (.int (k : Nat))] = some (.ok (.str (g k)) [.io bs, .val (.int (m : Nat)), a2, a3, a4, a5, a6, .val (.int (k : Nat))])) :
    mComp [7] (mRng1 (mCons (mVar 1) (mPure []))) (mStore 7) (mPure true) te [.io bs, .val (.int (m : Nat)), a2, a3, a4, a5, a6, .un] = some (.ok (((List.range m).map g).map PyData.str) [.io bs, .val (.int (m : Nat)), a2, a3, a4, a5, a6, .un]) := by
  have hr : mRng1 (mCons (mVar 1) (mPure [])) [.io bs, .val (.int (m : Nat)), a2, a3, a4, a5, a6, .un] = some (.ok (rngL 0 (m : Nat)) [.io bs, .val (.int (m : Nat)), a2, a3, a4, a5, a6, .un]) := rng1_is (by simp [mSeq, mIf, mBol, mBin, mBinL, mBind, mLift, mPure, mPeek, mVar, ixD, iI, bolD, mAsg, mCall1, mCallN, intD, modD, iIc, cMod, mStore, mStoreO, mDone, gSet, mOwn, mPut, setD, mRet, mDrop, mStuck, mTru, truD, mOrT, mAndT, mNotT, mAnd, mOr, mNot, mIsi, isiT_eq, typD, lenD, mCons, mTup, mLst, mLstN, mVal, oOr, addD, subD, mulD, mulI, iIc, cMul, ltD, leD, gtD, geD, gTupD, gCons2, gsNil, mCallV, mCallB, mRs, tupleD, mRetF, mChain, mScr, mScrLen, mScrIx, mMut, appD, max2D, min2D, mRng1, mRng2, rngD1, rngD2, rngOk, mItems, itemsD, mAsgN, mParEE, mParEN, mUn, negD, mCallN1, listD, unsE, powD, cPow, divD, cDiv, mFor, mSl, mSlL, slD, mNoPart, mPart, intO, mSlN, mSlNL, slN, mRevN, revO, mParNC, andD, orD, xorD, shrD, shlD, cShr, mStepN, mStepNL, stepO, mCatN, mCatNL, catN]) (rngOk_le (by omega) (by omega))
  have hl : (rngL 0 (m : Int)).length = m := rngL_len m
  have hu : unsE [.io bs, .val (.int (m : Nat)), a2, a3, a4, a5, a6, .un] [7] = [.io bs, .val (.int (m : Nat)), a2, a3, a4, a5, a6, .un] := by simp [unsE]
  refine comp_is (vs := [7]) (ρe := [.io bs, .val (.int (m : Nat)), a2, a3, a4, a5, a6, .un]) hr (fit_of2 (by omega)) ?_
  rw [hu, rngL_nat, List.map_map]
  exact go_mapA (vs := [7]) (fun k : Nat => PyData.int (k : Nat)) (fun k : Nat => PyData.str (g k)) (List.range m) fun k hk =>
    ⟨[.io bs, .val (.int (m : Nat)), a2, a3, a4, a5, a6, .val (.int (k : Nat))], [.io bs, .val (.int (m : Nat)), a2, a3, a4, a5, a6, .val (.int (k : Nat))], by simp [mStore], h k (List.mem_range.mp hk), by simp [unsE]⟩
section
variable {fi : Int} {st : Str} {sp : Nat} {bs W : List D}
def E2 (m : Nat) (W : List D) (st : Str) (sp : Nat) (fi : Int) (bs : List D) : En := [.io bs, .val (.int (m : Nat)), .own W, .val (.str abc), .val (.str st), .val (.int (sp : Nat)), .val (.int fi), .un]
theorem C1_ok {m : Nat} (hm : m ≤ 8) (hst : lowS st) (hl : st.length ≤ 5) (f0 : 0 ≤ fi) (f1 : fi < 26) : C__law_names_2 (E2 m W st sp fi bs) = some (.ok (((List.range m).map (nm1 st sp fi)).map PyData.str) (E2 m W st sp fi bs)) := by
  refine comp3 (m := m) _ (by omega) fun k hk => ?_
  have hz := abc_at (r := (fi + 7 * k) % 26) (by omega) (by omega)
  have q0 := cutS_two st sp sp (Nat.le_refl _)
  have g1 : fit st.length = true := fit_of2 (by omega)
  have s1 : mSlL 4 mNoPart (mPart (mVar 5)) [.io bs, .val (.int (m : Nat)), .own W, .val (.str abc), .val (.str st), .val (.int (sp : Nat)), .val (.int fi), .val (.int (k : Nat))] = some (.ok (.str (cutS st none (some (sp : Nat)))) [.io bs, .val (.int (m : Nat)), .own W, .val (.str abc), .val (.str st), .val (.int (sp : Nat)), .val (.int fi), .val (.int (k : Nat))]) := by
    generalize abc = A
    simp [mSeq, mIf, mBol, mBin, mBinL, mBind, mLift, mPure, mPeek, mVar, ixD, iI, bolD, mAsg, mCall1, mCallN, intD, modD, iIc, cMod, mStore, mStoreO, mDone, gSet, mOwn, mPut, setD, mRet, mDrop, mStuck, mTru, truD, mOrT, mAndT, mNotT, mAnd, mOr, mNot, mIsi, isiT_eq, typD, lenD, mCons, mTup, mLst, mLstN, mVal, oOr, addD, subD, mulD, mulI, iIc, cMul, ltD, leD, gtD, geD, gTupD, gCons2, gsNil, mCallV, mCallB, mRs, tupleD, mRetF, mChain, mScr, mScrLen, mScrIx, mMut, appD, max2D, min2D, mRng1, mRng2, rngD1, rngD2, rngOk, mItems, itemsD, mAsgN, mParEE, mParEN, mUn, negD, mCallN1, listD, unsE, powD, cPow, divD, cDiv, mFor, mSl, mSlL, slD, mNoPart, mPart, intO, mSlN, mSlNL, slN, mRevN, revO, mParNC, andD, orD, xorD, shrD, shlD, cShr, mStepN, mStepNL, stepO, mCatN, mCatNL, catN, g1]
  have s2 : mSlL 4 (mPart (mVar 5)) mNoPart [.io bs, .val (.int (m : Nat)), .own W, .val (.str abc), .val (.str st), .val (.int (sp : Nat)), .val (.int fi), .val (.int (k : Nat))] = some (.ok (.str (cutS st (some (sp : Nat)) none)) [.io bs, .val (.int (m : Nat)), .own W, .val (.str abc), .val (.str st), .val (.int (sp : Nat)), .val (.int fi), .val (.int (k : Nat))]) := by
    generalize abc = A
    simp [mSeq, mIf, mBol, mBin, mBinL, mBind, mLift, mPure, mPeek, mVar, ixD, iI, bolD, mAsg, mCall1, mCallN, intD, modD, iIc, cMod, mStore, mStoreO, mDone, gSet, mOwn, mPut, setD, mRet, mDrop, mStuck, mTru, truD, mOrT, mAndT, mNotT, mAnd, mOr, mNot, mIsi, isiT_eq, typD, lenD, mCons, mTup, mLst, mLstN, mVal, oOr, addD, subD, mulD, mulI, iIc, cMul, ltD, leD, gtD, geD, gTupD, gCons2, gsNil, mCallV, mCallB, mRs, tupleD, mRetF, mChain, mScr, mScrLen, mScrIx, mMut, appD, max2D, min2D, mRng1, mRng2, rngD1, rngD2, rngOk, mItems, itemsD, mAsgN, mParEE, mParEN, mUn, negD, mCallN1, listD, unsE, powD, cPow, divD, cDiv, mFor, mSl, mSlL, slD, mNoPart, mPart, intO, mSlN, mSlNL, slN, mRevN, revO, mParNC, andD, orD, xorD, shrD, shlD, cShr, mStepN, mStepNL, stepO, mCatN, mCatNL, catN, g1]
  have s3 : mBin modD (mBinL addD 6 (mBin mulD (mPure (.int 7)) (mPeek 7))) (mPure (.int 26)) [.io bs, .val (.int (m : Nat)), .own W, .val (.str abc), .val (.str st), .val (.int (sp : Nat)), .val (.int fi), .val (.int (k : Nat))] = some (.ok (.int ((fi + 7 * k) % 26)) [.io bs, .val (.int (m : Nat)), .own W, .val (.str abc), .val (.str st), .val (.int (sp : Nat)), .val (.int fi), .val (.int (k : Nat))]) := by
    generalize abc = A
    simp [mSeq, mIf, mBol, mBin, mBinL, mBind, mLift, mPure, mPeek, mVar, ixD, iI, bolD, mAsg, mCall1, mCallN, intD, modD, iIc, cMod, mStore, mStoreO, mDone, gSet, mOwn, mPut, setD, mRet, mDrop, mStuck, mTru, truD, mOrT, mAndT, mNotT, mAnd, mOr, mNot, mIsi, isiT_eq, typD, lenD, mCons, mTup, mLst, mLstN, mVal, oOr, addD, subD, mulD, mulI, iIc, cMul, ltD, leD, gtD, geD, gTupD, gCons2, gsNil, mCallV, mCallB, mRs, tupleD, mRetF, mChain, mScr, mScrLen, mScrIx, mMut, appD, max2D, min2D, mRng1, mRng2, rngD1, rngD2, rngOk, mItems, itemsD, mAsgN, mParEE, mParEN, mUn, negD, mCallN1, listD, unsE, powD, cPow, divD, cDiv, mFor, mSl, mSlL, slD, mNoPart, mPart, intO, mSlN, mSlNL, slN, mRevN, revO, mParNC, andD, orD, xorD, shrD, shlD, cShr, mStepN, mStepNL, stepO, mCatN, mCatNL, catN]
  have hz1 : (ltr ((fi + 7 * k) % 26)).length = 1 := rfl
  have c1 : addD (.str (cutS st none (some (sp : Nat)))) (.str (ltr ((fi + 7 * k) % 26))) = some (.str (cutS st none (some (sp : Nat)) ++ ltr ((fi + 7 * k) % 26))) := add_str (by omega)
  have c2 : addD (.str (cutS st none (some (sp : Nat)) ++ ltr ((fi + 7 * k) % 26))) (.str (cutS st (some (sp : Nat)) none)) = some (.str (nm1 st sp fi k)) := add_str (by rw [Str.length_append]; omega)
  generalize mSlL 4 mNoPart (mPart (mVar 5)) = m1 at *
  generalize mSlL 4 (mPart (mVar 5)) mNoPart = m2 at *
  generalize mBin modD (mBinL addD 6 (mBin mulD (mPure (.int 7)) (mPeek 7))) (mPure (.int 26)) = m3 at *
  simp only [mBin, mBinL, mBind, mPeek, mPure, mLift, List.getElem?_cons_succ, List.getElem?_cons_zero, s1, s2, s3, hz, c1, c2]
end
theorem nm1_inj {st : Str} {sp : Nat} {fi : Int} {i j : Nat} (hi : i < 8) (hj : j < 8) (h : nm1 st sp fi i = nm1 st sp fi j) : i = j := by
  unfold nm1 at h
  have h2 := congrArg (fun s : Str => s.cps.toList) h
  have e : ∀ x y z : Str, (x ++ y ++ z).cps.toList = x.cps.toList ++ (y.cps.toList ++ z.cps.toList) := fun x y z => by
    show ((x.cps ++ y.cps) ++ z.cps).toList = _
    rw [Array.toList_append, Array.toList_append, List.append_assoc]
  rw [e, e] at h2
  have h3 := List.append_cancel_left h2
  have h4 : (97 + ((fi + 7 * i) % 26).toNat) = (97 + ((fi + 7 * j) % 26).toNat) := by
    have : ∀ c d : Nat, ∀ l : List Nat, (#[c].toList ++ l : List Nat) = #[d].toList ++ l → c = d := fun c d l h => by
      simpa using h
    exact this _ _ _ h3
  omega
def wds : List Str := ["rise", "fall", "high", "low", "none", "even", "odd", "framed"]
theorem wds_ok : ∀ w ∈ wds, okN w = true := List.all_eq_true.mp (show wds.all okN = true by decide +kernel)
theorem nm1_nd {st : Str} {sp : Nat} {fi : Int} {m : Nat} (hm : m ≤ 8) : ((List.range m).map (nm1 st sp fi)).Nodup := by
  refine List.pairwise_map.mpr (List.Pairwise.imp_of_mem ?_ List.nodup_range)
  intro i j hi hj h z
  rw [List.mem_range] at hi hj
  exact h (nm1_inj (by omega) (by omega) z)
theorem seq_rf {m1 m2 : M Fl} {ρ ρ' : En} {ds : List D} (h : m1 ρ = some (.ok (.rf ds) ρ')) : mSeq m1 m2 ρ = some (.ok (.rf ds) ρ') := bind_is h
theorem lnames_okF {bs : List D} (hb : Bx bs) {m : Nat} (hm : m ≤ 8) : ∃ (zs : List Str) (bs' : List D), zs.length = m ∧ (∀ z ∈ zs, okN z = true) ∧ zs.Nodup ∧ Bx bs' ∧ fn__law_names bs [.int (m : Nat)] = some (.ok (zs.map PyData.str), bs') := by
  obtain ⟨r, bs1, ht, r0, r1, hb1⟩ := take_ok (m := 3) hb (by omega) (by omega)
  have hr0 : eqD (.int r) (.int 0) = some (.bool (decide (r = 0))) := eq_int r 0
  have g8 : fit 8 = true := rfl
  unfold fn__law_names runBF m__law_names
  rw [show env0B 8 bs [.int (m : Nat)] = [.io bs, .val (.int (m : Nat)), .un, .un, .un, .un, .un, .un] from rfl]
  rw [seq_nx (ρ' := [.io bs, .val (.int (m : Nat)), .own (wds.map PyData.str), .un, .un, .un, .un, .un]) (by simp [mSeq, mIf, mBol, mBin, mBinL, mBind, mLift, mPure, mPeek, mVar, ixD, iI, bolD, mAsg, mCall1, mCallN, intD, modD, iIc, cMod, mStore, mStoreO, mDone, gSet, mOwn, mPut, setD, mRet, mDrop, mStuck, mTru, truD, mOrT, mAndT, mNotT, mAnd, mOr, mNot, mIsi, isiT_eq, typD, lenD, mCons, mTup, mLst, mLstN, mVal, oOr, addD, subD, mulD, mulI, iIc, cMul, ltD, leD, gtD, geD, gTupD, gCons2, gsNil, mCallV, mCallB, mRs, tupleD, mRetF, mChain, mScr, mScrLen, mScrIx, mMut, appD, max2D, min2D, mRng1, mRng2, rngD1, rngD2, rngOk, mItems, itemsD, mAsgN, mParEE, mParEN, mUn, negD, mCallN1, listD, unsE, powD, cPow, divD, cDiv, mFor, mSl, mSlL, slD, mNoPart, mPart, intO, mSlN, mSlNL, slN, mRevN, revO, mParNC, andD, orD, xorD, shrD, shlD, cShr, mStepN, mStepNL, stepO, mCatN, mCatNL, catN, g8, wds])]
  by_cases q : r = 0
  · obtain ⟨zs, ws, bs2, zl, zm, znd, hb2, hc0⟩ := names0 (m := m) hm (ws := wds) hb1 (by decide +kernel) rfl
    rw [decide_eq_true q] at hr0
    unfold E0 at hc0
    refine ⟨zs, bs2, zl, fun z hz => wds_ok z (zm z hz), znd, hb2, ?_⟩
    generalize wds.map PyData.str = W at *
    generalize zs.map PyData.str = Z at *
    rw [seq_rf (ds := Z) (ρ' := [.io bs2, .val (.int (m : Nat)), .own (ws.map PyData.str), .un, .un, .un, .un, .un]) (by generalize ws.map PyData.str = W2 at *; simp [mSeq, mIf, mBol, mBin, mBinL, mBind, mLift, mPure, mPeek, mVar, ixD, iI, bolD, mAsg, mCall1, mCallN, intD, modD, iIc, cMod, mStore, mStoreO, mDone, gSet, mOwn, mPut, setD, mRet, mDrop, mStuck, mTru, truD, mOrT, mAndT, mNotT, mAnd, mOr, mNot, mIsi, isiT_eq, typD, lenD, mCons, mTup, mLst, mLstN, mVal, oOr, addD, subD, mulD, mulI, iIc, cMul, ltD, leD, gtD, geD, gTupD, gCons2, gsNil, mCallV, mCallB, mRs, tupleD, mRetF, mChain, mScr, mScrLen, mScrIx, mMut, appD, max2D, min2D, mRng1, mRng2, rngD1, rngD2, rngOk, mItems, itemsD, mAsgN, mParEE, mParEN, mUn, negD, mCallN1, listD, unsE, powD, cPow, divD, cDiv, mFor, mSl, mSlL, slD, mNoPart, mPart, intO, mSlN, mSlNL, slN, mRevN, revO, mParNC, andD, orD, xorD, shrD, shlD, cShr, mStepN, mStepNL, stepO, mCatN, mCatNL, catN, mRetFN, ht, hr0, hc0])]
    all_goals rfl
  · obtain ⟨ys, bs3, hb3, p, hl5, hc1⟩ := names1 (m := m) (W := wds.map PyData.str) hb1
    obtain ⟨zs, rfl, hz, hzl⟩ := strs_of ys p
    obtain ⟨st, hj, hst, hstl⟩ := joinL_ok hz (by omega)
    obtain ⟨sp, bs4, ht4, s0, s1, hb4⟩ := take_ok (m := (st.length : Int) + 1) hb3 (by omega) (by omega)
    obtain ⟨fi, bs5, ht5, f0, f1, hb5⟩ := take_ok (m := 26) hb4 (by omega) (by omega)
    obtain ⟨sn, rfl⟩ : ∃ n : Nat, sp = n := ⟨sp.toNat, by omega⟩
    have hc2 := C1_ok (m := m) hm (sp := sn) (fi := fi) (bs := bs5) (W := wds.map PyData.str) hst (by omega) f0 f1
    rw [decide_eq_false q] at hr0
    have gs : fit st.length = true := fit_of2 (by omega)
    refine ⟨(List.range m).map (nm1 st sn fi), bs5, by rw [List.length_map, List.length_range], fun z hz => by obtain ⟨k, _, rfl⟩ := List.mem_map.mp hz; exact nm1_ok hst (by omega) k, nm1_nd hm, hb5, ?_⟩
    unfold E1 at hc1
    unfold E2 at hc2
    have gs1 : (st.length : Int) + 1 = ((st.length : Nat) : Int) + 1 := rfl
    generalize wds.map PyData.str = W at *
    generalize ((List.range m).map (nm1 st sn fi)).map PyData.str = R8 at *
    generalize zs.map PyData.str = Z at *
    have e1 : (PyData.str "abcdefghijklmnopqrstuvwxyz") = .str abc := rfl
    rw [seq_nx (ρ' := [.io bs1, .val (.int (m : Nat)), .own W, .un, .un, .un, .un, .un]) (by simp [mSeq, mIf, mBol, mBin, mBinL, mBind, mLift, mPure, mPeek, mVar, ixD, iI, bolD, mAsg, mCall1, mCallN, intD, modD, iIc, cMod, mStore, mStoreO, mDone, gSet, mOwn, mPut, setD, mRet, mDrop, mStuck, mTru, truD, mOrT, mAndT, mNotT, mAnd, mOr, mNot, mIsi, isiT_eq, typD, lenD, mCons, mTup, mLst, mLstN, mVal, oOr, addD, subD, mulD, mulI, iIc, cMul, ltD, leD, gtD, geD, gTupD, gCons2, gsNil, mCallV, mCallB, mRs, tupleD, mRetF, mChain, mScr, mScrLen, mScrIx, mMut, appD, max2D, min2D, mRng1, mRng2, rngD1, rngD2, rngOk, mItems, itemsD, mAsgN, mParEE, mParEN, mUn, negD, mCallN1, listD, unsE, powD, cPow, divD, cDiv, mFor, mSl, mSlL, slD, mNoPart, mPart, intO, mSlN, mSlNL, slN, mRevN, revO, mParNC, andD, orD, xorD, shrD, shlD, cShr, mStepN, mStepNL, stepO, mCatN, mCatNL, catN, ht, hr0])]
    rw [seq_nx (ρ' := [.io bs1, .val (.int (m : Nat)), .own W, .val (.str abc), .un, .un, .un, .un]) (by rw [e1]; generalize abc = A; simp [mSeq, mIf, mBol, mBin, mBinL, mBind, mLift, mPure, mPeek, mVar, ixD, iI, bolD, mAsg, mCall1, mCallN, intD, modD, iIc, cMod, mStore, mStoreO, mDone, gSet, mOwn, mPut, setD, mRet, mDrop, mStuck, mTru, truD, mOrT, mAndT, mNotT, mAnd, mOr, mNot, mIsi, isiT_eq, typD, lenD, mCons, mTup, mLst, mLstN, mVal, oOr, addD, subD, mulD, mulI, iIc, cMul, ltD, leD, gtD, geD, gTupD, gCons2, gsNil, mCallV, mCallB, mRs, tupleD, mRetF, mChain, mScr, mScrLen, mScrIx, mMut, appD, max2D, min2D, mRng1, mRng2, rngD1, rngD2, rngOk, mItems, itemsD, mAsgN, mParEE, mParEN, mUn, negD, mCallN1, listD, unsE, powD, cPow, divD, cDiv, mFor, mSl, mSlL, slD, mNoPart, mPart, intO, mSlN, mSlNL, slN, mRevN, revO, mParNC, andD, orD, xorD, shrD, shlD, cShr, mStepN, mStepNL, stepO, mCatN, mCatNL, catN])]
    generalize abc = A at *
    rw [seq_nx (ρ' := [.io bs3, .val (.int (m : Nat)), .own W, .val (.str A), .val (.str st), .un, .un, .un]) (by simp [mSeq, mIf, mBol, mBin, mBinL, mBind, mLift, mPure, mPeek, mVar, ixD, iI, bolD, mAsg, mCall1, mCallN, intD, modD, iIc, cMod, mStore, mStoreO, mDone, gSet, mOwn, mPut, setD, mRet, mDrop, mStuck, mTru, truD, mOrT, mAndT, mNotT, mAnd, mOr, mNot, mIsi, isiT_eq, typD, lenD, mCons, mTup, mLst, mLstN, mVal, oOr, addD, subD, mulD, mulI, iIc, cMul, ltD, leD, gtD, geD, gTupD, gCons2, gsNil, mCallV, mCallB, mRs, tupleD, mRetF, mChain, mScr, mScrLen, mScrIx, mMut, appD, max2D, min2D, mRng1, mRng2, rngD1, rngD2, rngOk, mItems, itemsD, mAsgN, mParEE, mParEN, mUn, negD, mCallN1, listD, unsE, powD, cPow, divD, cDiv, mFor, mSl, mSlL, slD, mNoPart, mPart, intO, mSlN, mSlNL, slN, mRevN, revO, mParNC, andD, orD, xorD, shrD, shlD, cShr, mStepN, mStepNL, stepO, mCatN, mCatNL, catN, mJoin, strD, hc1, hj])]
    rw [seq_nx (ρ' := [.io bs5, .val (.int (m : Nat)), .own W, .val (.str A), .val (.str st), .val (.int (sn : Nat)), .val (.int fi), .un]) (by have g2 : fit 2 = true := rfl; simp [mSeq, mIf, mBol, mBin, mBinL, mBind, mLift, mPure, mPeek, mVar, ixD, iI, bolD, mAsg, mCall1, mCallN, intD, modD, iIc, cMod, mStore, mStoreO, mDone, gSet, mOwn, mPut, setD, mRet, mDrop, mStuck, mTru, truD, mOrT, mAndT, mNotT, mAnd, mOr, mNot, mIsi, isiT_eq, typD, lenD, mCons, mTup, mLst, mLstN, mVal, oOr, addD, subD, mulD, mulI, iIc, cMul, ltD, leD, gtD, geD, gTupD, gCons2, gsNil, mCallV, mCallB, mRs, tupleD, mRetF, mChain, mScr, mScrLen, mScrIx, mMut, appD, max2D, min2D, mRng1, mRng2, rngD1, rngD2, rngOk, mItems, itemsD, mAsgN, mParEE, mParEN, mUn, negD, mCallN1, listD, unsE, powD, cPow, divD, cDiv, mFor, mSl, mSlL, slD, mNoPart, mPart, intO, mSlN, mSlNL, slN, mRevN, revO, mParNC, andD, orD, xorD, shrD, shlD, cShr, mStepN, mStepNL, stepO, mCatN, mCatNL, catN, gs, ht4, ht5, g2])]
    have e2 : mRetFN C__law_names_2 [.io bs5, .val (.int (m : Nat)), .own W, .val (.str A), .val (.str st), .val (.int (sn : Nat)), .val (.int fi), .un] = some (.ok (.rf R8) [.io bs5, .val (.int (m : Nat)), .own W, .val (.str A), .val (.str st), .val (.int (sn : Nat)), .val (.int fi), .un]) := by simp [mSeq, mIf, mBol, mBin, mBinL, mBind, mLift, mPure, mPeek, mVar, ixD, iI, bolD, mAsg, mCall1, mCallN, intD, modD, iIc, cMod, mStore, mStoreO, mDone, gSet, mOwn, mPut, setD, mRet, mDrop, mStuck, mTru, truD, mOrT, mAndT, mNotT, mAnd, mOr, mNot, mIsi, isiT_eq, typD, lenD, mCons, mTup, mLst, mLstN, mVal, oOr, addD, subD, mulD, mulI, iIc, cMul, ltD, leD, gtD, geD, gTupD, gCons2, gsNil, mCallV, mCallB, mRs, tupleD, mRetF, mChain, mScr, mScrLen, mScrIx, mMut, appD, max2D, min2D, mRng1, mRng2, rngD1, rngD2, rngOk, mItems, itemsD, mAsgN, mParEE, mParEN, mUn, negD, mCallN1, listD, unsE, powD, cPow, divD, cDiv, mFor, mSl, mSlL, slD, mNoPart, mPart, intO, mSlN, mSlNL, slN, mRevN, revO, mParNC, andD, orD, xorD, shrD, shlD, cShr, mStepN, mStepNL, stepO, mCatN, mCatNL, catN, mRetFN, hc2]
    rw [e2]

/-! ### words without blanks -/
section
variable {a b c e g f p : Str} {n l s : Int}
theorem no32 {w : Str} (h : ∀ x ∈ w.cps.toList, x ≠ 32) : 32 ∉ w.cps.toList := fun m => h 32 m rfl
theorem nm32 {z : Str} (h : okN z = true) : 32 ∉ z.cps.toList := no32 fun x hx e => by
  unfold okN at h
  rw [Bool.and_eq_true] at h
  have := List.all_eq_true.mp h.2 x hx
  unfold lowC at this
  rw [Bool.and_eq_true] at this
  have := of_decide_eq_true this.1
  omega
end

/-! ### texts as rows of words -/
structure Wb (B : Nat) (w : Str) : Prop where
  a : asc w
  n : 32 ∉ w.cps.toList
  l : w.length ≤ B
theorem Wb.mono {B C : Nat} {w : Str} (h : Wb B w) (hc : B ≤ C) : Wb C w := ⟨h.a, h.n, Nat.le_trans h.l hc⟩
structure Tw (B N : Nat) (t : Str) (ws : List Str) : Prop where
  ne : ws ≠ []
  e : t = Txt.join " " ws
  n : ws.length ≤ N
  w : ∀ w ∈ ws, Wb B w
theorem sum_leB : ∀ (ws : List Str) (B : Nat), (∀ w ∈ ws, Wb B w) → (ws.map (·.length)).sum ≤ B * ws.length
  | [], _, _ => by simp
  | x :: l, B, h => by
    have := sum_leB l B fun y hy => h y (List.mem_cons_of_mem _ hy)
    have := (h x List.mem_cons_self).l
    rw [List.map_cons, List.sum_cons, List.length_cons, Nat.mul_add]; omega
theorem tw_len {B N : Nat} {t : Str} {ws : List Str} (h : Tw B N t ws) (hB : B ≤ 100) (hN : N ≤ 200) : t.length ≤ 21000 := by
  have e2 : Txt.join " " ws = Str.join " " ws := StrLaws.glued_eq_join _ _
  have hs := sum_leB ws B h.w
  have e0 : (((" " : String) : Str)).length = 1 := rfl
  have := StrLaws.join_length_le " " ws
  rw [e0] at this
  rw [h.e, e2]
  have h1 : B * ws.length ≤ 100 * 200 := Nat.mul_le_mul hB (Nat.le_trans h.n hN)
  have h2 := h.n
  omega
theorem tw_split {B N : Nat} {t : Str} {ws : List Str} (h : Tw B N t ws) (hB : B ≤ 100) (hN : N ≤ 200) : splitS t (.str " ") = some (ws.map PyData.str) := by
  have hl := tw_len h hB hN
  have e : Txt.split (Txt.join " " ws) " " = ws := TL.split_join (s := 32) (S := []) (by decide +kernel) (by decide +kernel) h.ne fun w hw => (h.w w hw).n
  have hf : fit (t.length + 2) = true := fit_of2 (by omega)
  show (if (!((((" " : String) : Str)).length == 0) && fit (t.length + 2)) = true then some ((Txt.split t " ").map PyData.str) else none) = _
  rw [hf, h.e, e]; rfl
theorem tw_join {B N : Nat} {ps : List Str} (h : ∀ p ∈ ps, p.length ≤ B) (hB : B ≤ 100) (hN : ps.length ≤ N) (hN2 : N ≤ 200) : joinS " " (.list (ps.map PyData.str)) = some (.str (Txt.join " " ps)) := by
  have hs : (ps.map (·.length)).sum ≤ B * ps.length := by
    clear hN
    induction ps with
    | nil => simp
    | cons x l ih =>
      have := ih fun y hy => h y (List.mem_cons_of_mem _ hy)
      have := h x List.mem_cons_self
      rw [List.map_cons, List.sum_cons, List.length_cons, Nat.mul_add]; omega
  have h1 : B * ps.length ≤ 100 * 200 := Nat.mul_le_mul hB (Nat.le_trans hN hN2)
  have e0 : (((" " : String) : Str)).length = 1 := rfl
  have hj : joinOk " " ps = true := decide_eq_true (by rw [e0]; omega)
  show (strsD (ps.map PyData.str)).bind (fun ys => if joinOk " " ys = true then some (PyData.str (Txt.join " " ys)) else none) = _
  rw [strsD_map]
  show (if joinOk " " ps = true then some (PyData.str (Txt.join " " ps)) else none) = _
  rw [if_pos hj]
/-! words that are put in -/
def cstB (w : Str) : Bool := w.cps.toList.all (fun c => decide (c < 128) && !decide (c = 32)) && decide (w.length ≤ 20)
theorem wb_cst {w : Str} (h : cstB w = true) : Wb 20 w := by
  unfold cstB at h
  rw [Bool.and_eq_true] at h
  have h1 := List.all_eq_true.mp h.1
  refine ⟨fun c hc => ?_, fun m => ?_, of_decide_eq_true h.2⟩
  · have := h1 c hc
    rw [Bool.and_eq_true] at this
    exact of_decide_eq_true this.1
  · have := h1 32 m
    simp at this
theorem wb_app {B C : Nat} {x y : Str} (hx : Wb B x) (hy : Wb C y) : Wb (B + C) (x ++ y) := ⟨asc_app hx.a hy.a, fun m => by
  have e : (x ++ y).cps.toList = x.cps.toList ++ y.cps.toList := by show (x.cps ++ y.cps).toList = _; rw [Array.toList_append]
  rw [e] at m
  exact (List.mem_append.mp m).elim hx.n hy.n, by rw [Str.length_append]; have := hx.l; have := hy.l; omega⟩
/-! ### a row of words drawn -/
theorem add_lstD {a b : List D} (h : a.length + b.length ≤ 1000000) : addD (.list a) (.list b) = some (.list (a ++ b)) := by
  have f : fit (a.length + b.length) = true := fit_of2 h
  simp [addD, oOr, iI, catL, f]
def SL (zs : List Str) : List D := zs.map PyData.str
def Gz (d : D) : Prop := ∃ zs : List Str, d = .list (SL zs) ∧ zs ≠ [] ∧ zs.length ≤ 20 ∧ ∀ z ∈ zs, Wb 20 z
theorem cst_gz {zs : List Str} (h0 : zs ≠ []) (hl : zs.length ≤ 20) (h : zs.all cstB = true) : Gz (.list (SL zs)) := ⟨zs, rfl, h0, hl, fun z hz => wb_cst (List.all_eq_true.mp h z hz)⟩
theorem set_neq {r : List (Str × D)} {k : Str} {d : D} (h : (r.map (·.1)).contains k = false) : setKD (ownKeys r) (.inr k) d = ownKeys (r ++ [(k, d)]) := by
  have e : (ownKeys r).any (fun kv => decide (kv.1 = .inr k)) = false := by
    rw [Bool.eq_false_iff]
    intro q
    obtain ⟨kv, h1, h2⟩ := List.any_eq_true.mp q
    obtain ⟨p, hp, rfl⟩ := List.mem_map.mp h1
    have := Sum.inr.inj (of_decide_eq_true h2)
    rw [Bool.eq_false_iff] at h
    exact h (List.contains_iff_mem.mpr (by rw [← this]; exact List.mem_map_of_mem hp))
  unfold setKD
  rw [if_neg (by rw [e]; decide)]
  unfold ownKeys
  rw [List.map_append]; rfl
theorem own_all {P : D → Prop} (k : Str) {z : D} (hz : P z) : ∀ r : List (Str × D), (∀ p ∈ r, P p.2) → P ((valD (ownKeys r) (.inr k)).getD z)
  | [], _ => hz
  | p :: r, h => by
    have e : valD (ownKeys (p :: r)) (.inr k) = if (Sum.inr p.1 : Key) = .inr k then some p.2 else valD (ownKeys r) (.inr k) := rfl
    rw [e]
    split
    · exact h p List.mem_cons_self
    · exact own_all k hz r fun q hq => h q (List.mem_cons_of_mem _ hq)
theorem look_all {P : D → Prop} (w : Str) {z : D} (hz : P z) : ∀ r : List (Str × D), (∀ p ∈ r, P p.2) → P ((lookD (.str w) (strKeys r)).getD z)
  | [], _ => hz
  | p :: r, h => by
    have e : lookD (.str w) (strKeys (p :: r)) = if keyD (.str p.1) = keyD (.str w) then some p.2 else lookD (.str w) (strKeys r) := rfl
    rw [e]
    split
    · exact h p List.mem_cons_self
    · exact look_all w hz r fun q hq => h q (List.mem_cons_of_mem _ hq)
def dE : List Str := ["rise", "fall"]
def dN : List Str := ["1", "8", "16", "17", "07"]
def dF : List Str := ["high", "low"]
def dL : List Str := ["2", "1", "9", "1000000", "1000001"]
def dC : List Str := ["none", "even", "odd"]
def dS : List Str := ["1", "2", "3"]
def dB : List Str := ["", "-", "0", "rise", "odd", "high", "1"]
def dk4 (G : D) : List (Str × D) := [("e", .list (SL dE)), ("g", G), ("n", .list (SL dN)), ("f", .list (SL dF))]
def pr (k : Str) (d : D) : Str × D := (k, d)
def dk7 (G : D) : List (Str × D) := dk4 G ++ [pr "l" (.list (SL dL))] ++ [pr "c" (.list (SL dC))] ++ [pr "s" (.list (SL dS))]
abbrev Wv (bs W : List D) (N w kd k : D) (s6 s7 : Sl) : En := [.io bs, .val N, .val w, .val kd, .own W, .val k, s6, s7]
section
variable {bs W : List D} {N w kd k G N2 : D} {s6 s7 : Sl}
theorem dsp_st (hg : addD (.list [.str "-"]) N = some G) : (mDispO 7 (mPairC "e" (mLst (mCons (mPure (.str "rise")) (mCons (mPure (.str "fall")) (mPure [])))) (mPairC "g" (mBin addD (mLst (mCons (mPure (.str "-")) (mPure []))) (mPeek 1)) (mPairC "n" (mLst (mCons (mPure (.str "1")) (mCons (mPure (.str "8")) (mCons (mPure (.str "16")) (mCons (mPure (.str "17")) (mCons (mPure (.str "07")) (mPure []))))))) (mPairC "f" (mLst (mCons (mPure (.str "high")) (mCons (mPure (.str "low")) (mPure [])))) mPairN))))) (Wv bs W N w kd k s6 s7) = some (.ok .nx (Wv bs W N w kd k s6 (.dct (none, ownKeys (dk4 G))))) := by
  unfold mDispO
  rw [bind_is (a := dk4 G) (ρ' := Wv bs W N w kd k s6 s7) (by
    have f1 : fit 1 = true := rfl
    have f2 : fit 2 = true := rfl
    have f5 : fit 5 = true := rfl
    unfold Wv dk4 SL dE dN dF
    simp [mSeq, mIf, mBol, mBin, mBinL, mBind, mLift, mPure, mPeek, mVar, ixD, iI, bolD, mAsg, mCall1, mCallN, intD, modD, iIc, cMod, mStore, mStoreO, mDone, gSet, mOwn, mPut, setD, mRet, mDrop, mStuck, mTru, truD, mOrT, mAndT, mNotT, mAnd, mOr, mNot, mIsi, isiT_eq, typD, lenD, mCons, mTup, mLst, mLstN, mVal, oOr, subD, mulD, mulI, iIc, cMul, ltD, leD, gtD, geD, gTupD, gCons2, gsNil, mCallV, mCallB, mRs, tupleD, mRetF, mChain, mScr, mScrLen, mScrIx, mMut, appD, max2D, min2D, mRng1, mRng2, rngD1, rngD2, rngOk, mItems, itemsD, mAsgN, mParEE, mParEN, mUn, negD, mCallN1, listD, unsE, powD, cPow, divD, cDiv, mFor, mSl, mSlL, slD, mNoPart, mPart, intO, mSlN, mSlNL, slN, mRevN, revO, mParNC, andD, orD, xorD, shrD, shlD, cShr, mStepN, mStepNL, stepO, mCatN, mCatNL, catN, mPairC, mPairN, f1, f2, f5, hg])]
  show mBind (mLift (if (dk4 G).length ≤ 15 ∧ ((dk4 G).map (·.1)).Nodup then some (ownKeys (dk4 G)) else none)) _ _ = _
  have hc : (dk4 G).length ≤ 15 ∧ ((dk4 G).map (·.1)).Nodup := ⟨by show 4 ≤ 15; omega, show (["e", "g", "n", "f"] : List Str).Nodup by decide +kernel⟩
  rw [if_pos hc]; rfl
theorem gset_st {r : List (Str × D)} {k' : Str} {d : D} (h : (r.map (·.1)).contains k' = false) (hl : r.length ≤ 1000) : gSetK 7 (mPure (.str k')) d (Wv bs W N w kd k s6 (.dct (none, ownKeys r))) = some (.ok () (Wv bs W N w kd k s6 (.dct (none, ownKeys (r ++ [pr k' d]))))) := by
  have f : fit (ownKeys r).length = true := fit_of2 (by unfold ownKeys; rw [List.length_map]; omega)
  show (mBind (mLift (if fit (ownKeys r).length = true then some (setKD (ownKeys r) (.inr k') d) else none)) fun q => mPutD 7 q) (Wv bs W N w kd k s6 (.dct (none, ownKeys r))) = _
  rw [if_pos f, set_neq h]; rfl
theorem sd_st {r : List (Str × D)} {k' : Str} {d : D} {mv : M D} (hv : mv (Wv bs W N w kd k s6 (.dct (none, ownKeys r))) = some (.ok d (Wv bs W N w kd k s6 (.dct (none, ownKeys r))))) (h : (r.map (·.1)).contains k' = false) (hl : r.length ≤ 1000) : mSetDict 7 (mPure (.str k')) mv (Wv bs W N w kd k s6 (.dct (none, ownKeys r))) = some (.ok .nx (Wv bs W N w kd k s6 (.dct (none, ownKeys (r ++ [pr k' d]))))) := by
  have f : fit (ownKeys r).length = true := fit_of2 (by unfold ownKeys; rw [List.length_map]; omega)
  unfold mSetDict
  rw [bind_is hv]
  show (mBind (mLift (if fit (ownKeys r).length = true then some (setKD (ownKeys r) (.inr k') d) else none)) fun q => mBind (mPutD 7 q) fun _ => mDone) (Wv bs W N w kd k s6 (.dct (none, ownKeys r))) = _
  rw [if_pos f, set_neq h]; rfl
theorem two_st : (mAsg (mTup (mCons (mLst (mCons (mPure (.str "2")) (mCons (mPure (.str "1")) (mCons (mPure (.str "9")) (mCons (mPure (.str "1000000")) (mCons (mPure (.str "1000001")) (mPure []))))))) (mCons (mLst (mCons (mPure (.str "none")) (mCons (mPure (.str "even")) (mCons (mPure (.str "odd")) (mPure []))))) (mPure [])))) (gTupD 2 (gCons2 (gSetK 7 (mPure (.str "l"))) (gCons2 (gSetK 7 (mPure (.str "c"))) gsNil)))) (Wv bs W N w kd k s6 (.dct (none, ownKeys (dk4 G)))) = some (.ok .nx (Wv bs W N w kd k s6 (.dct (none, ownKeys (dk4 G ++ [pr "l" (.list (SL dL))] ++ [pr "c" (.list (SL dC))]))))) := by
  have e1 : mTup (mCons (mLst (mCons (mPure (.str "2")) (mCons (mPure (.str "1")) (mCons (mPure (.str "9")) (mCons (mPure (.str "1000000")) (mCons (mPure (.str "1000001")) (mPure []))))))) (mCons (mLst (mCons (mPure (.str "none")) (mCons (mPure (.str "even")) (mCons (mPure (.str "odd")) (mPure []))))) (mPure []))) (Wv bs W N w kd k s6 (.dct (none, ownKeys (dk4 G)))) = some (.ok (.tuple [.list (SL dL), .list (SL dC)]) (Wv bs W N w kd k s6 (.dct (none, ownKeys (dk4 G))))) := rfl
  have g1 := gset_st (bs := bs) (W := W) (N := N) (w := w) (kd := kd) (k := k) (s6 := s6) (r := dk4 G) (k' := "l") (d := .list (SL dL)) (show (["e", "g", "n", "f"] : List Str).contains "l" = false by decide +kernel) (by show 4 ≤ 1000; omega)
  have g2 := gset_st (bs := bs) (W := W) (N := N) (w := w) (kd := kd) (k := k) (s6 := s6) (r := dk4 G ++ [pr "l" (.list (SL dL))]) (k' := "c") (d := .list (SL dC)) (show (["e", "g", "n", "f", "l"] : List Str).contains "c" = false by decide +kernel) (by show 5 ≤ 1000; omega)
  have e2 : (gTupD 2 (gCons2 (gSetK 7 (mPure (.str "l"))) (gCons2 (gSetK 7 (mPure (.str "c"))) gsNil))) (.tuple [.list (SL dL), .list (SL dC)]) (Wv bs W N w kd k s6 (.dct (none, ownKeys (dk4 G)))) = some (.ok () (Wv bs W N w kd k s6 (.dct (none, ownKeys (dk4 G ++ [pr "l" (.list (SL dL))] ++ [pr "c" (.list (SL dC))]))))) := by
    unfold gTupD
    dsimp only
    rw [if_pos (show [PyData.list (SL dL), PyData.list (SL dC)].length = 2 from rfl)]
    have c2 : ∀ (g : D → M Unit) (gs : List D → M Unit) (d : D) (ds : List D), gCons2 g gs (d :: ds) = mBind (g d) fun _ => gs ds := fun _ _ _ _ => rfl
    rw [c2, bind_is g1, c2, bind_is g2]; rfl
  unfold mAsg
  rw [bind_is e1, bind_is e2]; rfl
theorem s_st : (mSetDict 7 (mPure (.str "s")) (mLst (mCons (mPure (.str "1")) (mCons (mPure (.str "2")) (mCons (mPure (.str "3")) (mPure [])))))) (Wv bs W N w kd k s6 (.dct (none, ownKeys (dk4 G ++ [pr "l" (.list (SL dL))] ++ [pr "c" (.list (SL dC))])))) = some (.ok .nx (Wv bs W N w kd k s6 (.dct (none, ownKeys (dk7 G))))) :=
  sd_st rfl (show (["e", "g", "n", "f", "l", "c"] : List Str).contains "s" = false by decide +kernel) (by show 6 ≤ 1000; omega)
theorem get_st {k' : Str} {r : List (Str × D)} : mAsg (mGetDict 7 (mVar 5) (mVar 6)) (mStore 6) (Wv bs W N w kd (.str k') (.val N2) (.dct (none, ownKeys r))) = some (.ok .nx (Wv bs W N w kd (.str k') (.val ((valD (ownKeys r) (.inr k')).getD N2)) (.dct (none, ownKeys r)))) := rfl
theorem app_st {zs : List Str} (hb : Bx bs) (h0 : zs ≠ []) (hl : zs.length ≤ 20) (h6 : s6 = .val (.list (SL zs)) ∨ s6 = .own (SL zs)) (hW : W.length ≤ 1000) : ∃ (z : Str) (bs' : List D), z ∈ zs ∧ Bx bs' ∧
    (mDrop (mMut 4 appD (mCons (mBinL ixD 6 (mCallB 0 2 fn__law_take (mCons (mCall1 lenD (mPeek 6)) (mPure [])))) (mPure [])))) (Wv bs W N w kd k s6 s7) = some (.ok .nx (Wv bs' (W ++ [.str z]) N w kd k s6 s7)) := by
  have hp : 0 < zs.length := List.length_pos_iff.mpr h0
  obtain ⟨r, b1, ht, r0, r1, hb1⟩ := take_ok (m := (zs.length : Nat)) hb (by omega) (by omega)
  obtain ⟨d, hd, hat⟩ := ix_in (ds := SL zs) r0 (by unfold SL; rw [List.length_map]; exact r1)
  obtain ⟨z, hz, rfl⟩ := List.mem_map.mp hd
  refine ⟨z, b1, hz, hb1, ?_⟩
  have hn : (SL zs).length = zs.length := List.length_map ..
  have hf : fit W.length = true := fit_of2 (by omega)
  generalize SL zs = Z at *
  unfold Wv
  rcases h6 with rfl | rfl <;> simp [mSeq, mIf, mBol, mBin, mBinL, mBind, mLift, mPure, mPeek, mVar, ixD, iI, bolD, mAsg, mCall1, mCallN, intD, modD, iIc, cMod, mStore, mStoreO, mDone, gSet, mOwn, mPut, setD, mRet, mDrop, mStuck, mTru, truD, mOrT, mAndT, mNotT, mAnd, mOr, mNot, mIsi, isiT_eq, typD, lenD, mCons, mTup, mLst, mLstN, mVal, oOr, addD, subD, mulD, mulI, iIc, cMul, ltD, leD, gtD, geD, gTupD, gCons2, gsNil, mCallV, mCallB, mRs, tupleD, mRetF, mChain, mScr, mScrLen, mScrIx, mMut, appD, max2D, min2D, mRng1, mRng2, rngD1, rngD2, rngOk, mItems, itemsD, mAsgN, mParEE, mParEN, mUn, negD, mCallN1, listD, unsE, powD, cPow, divD, cDiv, mFor, mSl, mSlL, slD, mNoPart, mPart, intO, mSlN, mSlNL, slN, mRevN, revO, mParNC, andD, orD, xorD, shrD, shlD, cShr, mStepN, mStepNL, stepO, mCatN, mCatNL, catN, hat, hn, ht, hf]
theorem word_turn {ws ns : List Str} {k' : Str} (hb : Bx bs) (hN : N = .list (SL ns)) (hn0 : ns ≠ []) (hn : ns.length ≤ 8) (hw : ∀ z ∈ ns, Wb 20 z) (hW : W.length ≤ 1000) : ∃ (z : Str) (bs' : List D) (t6 t7 : Sl), Wb 20 z ∧ Bx bs' ∧
    L__law_words_0 (Wv bs W N w kd (.str k') s6 s7) = some (.ok .nx (Wv bs' (W ++ [.str z]) N w kd (.str k') t6 t7)) := by
  have a2 : addD N N = some (.list (SL (ns ++ ns))) := by
    rw [hN, add_lstD (by unfold SL; rw [List.length_map]; omega)]
    unfold SL; rw [List.map_append]
  have ag : addD (.list [.str "-"]) N = some (.list (SL ("-" :: ns))) := by
    rw [hN, add_lstD (by unfold SL; rw [List.length_map]; simp; omega)]; rfl
  have hg2 : Gz (.list (SL (ns ++ ns))) := ⟨_, rfl, by simp [hn0], by rw [List.length_append]; omega, fun z hz => (List.mem_append.mp hz).elim (hw z) (hw z)⟩
  have hgg : Gz (.list (SL ("-" :: ns))) := ⟨_, rfl, by simp, by rw [List.length_cons]; omega, fun z hz => by
    rcases List.mem_cons.mp hz with rfl | hz
    · exact wb_cst (by decide +kernel)
    · exact hw z hz⟩
  obtain ⟨zs, ez, z0, zl, zw⟩ : Gz ((valD (ownKeys (dk7 (.list (SL ("-" :: ns))))) (.inr k')).getD (.list (SL (ns ++ ns)))) := own_all k' hg2 _ fun p hp => by
    simp only [dk7, dk4, pr, List.cons_append, List.nil_append, List.mem_cons, List.not_mem_nil, or_false] at hp
    rcases hp with rfl | rfl | rfl | rfl | rfl | rfl | rfl
    · exact cst_gz (by simp [dE]) (by decide) (by decide +kernel)
    · exact hgg
    · exact cst_gz (by simp [dN]) (by decide) (by decide +kernel)
    · exact cst_gz (by simp [dF]) (by decide) (by decide +kernel)
    · exact cst_gz (by simp [dL]) (by decide) (by decide +kernel)
    · exact cst_gz (by simp [dC]) (by decide) (by decide +kernel)
    · exact cst_gz (by simp [dS]) (by decide) (by decide +kernel)
  obtain ⟨r, b1, ht, r0, r1, hb1⟩ := take_ok (m := 30) hb (by omega) (by omega)
  have hr0 : eqD (.int r) (.int 0) = some (.bool (decide (r = 0))) := eqI r 0
  obtain ⟨yy, sl, y0, yl, hy, hyw, h6⟩ : ∃ (ys : List Str) (sl : Sl), ys ≠ [] ∧ ys.length ≤ 20 ∧ (sl = .val (.list (SL ys)) ∨ sl = .own (SL ys)) ∧ (∀ z ∈ ys, Wb 20 z) ∧
      (mIf (mBol (mBin eqD (mCallB 0 2 fn__law_take (mCons (mPure (.int 30)) (mPure []))) (mPure (.int 0)))) (mAsgN (mLstN (mCons (mPure (.str "")) (mCons (mPure (.str "-")) (mCons (mPure (.str "0")) (mCons (mPure (.str "rise")) (mCons (mPure (.str "odd")) (mCons (mPure (.str "high")) (mCons (mPure (.str "1")) (mPure []))))))))) 6) (mPure .nx)) (Wv bs W N w kd (.str k') (.val (.list (SL zs))) (.dct (none, ownKeys (dk7 (.list (SL ("-" :: ns))))))) = some (.ok .nx (Wv b1 W N w kd (.str k') sl (.dct (none, ownKeys (dk7 (.list (SL ("-" :: ns)))))))) := by
    have hdw : ∀ z ∈ dB, Wb 20 z := fun z hz => wb_cst (List.all_eq_true.mp (show dB.all cstB = true by decide +kernel) z hz)
    generalize ownKeys (dk7 (.list (SL ("-" :: ns)))) = O at *
    have hc : (mBol (mBin eqD (mCallB 0 2 fn__law_take (mCons (mPure (.int 30)) (mPure []))) (mPure (.int 0)))) (Wv bs W N w kd (.str k') (.val (.list (SL zs))) (.dct (none, O))) = some (.ok (decide (r = 0)) (Wv b1 W N w kd (.str k') (.val (.list (SL zs))) (.dct (none, O)))) := by
      generalize SL zs = Z at *
      unfold Wv
      simp [mSeq, mIf, mBol, mBin, mBinL, mBind, mLift, mPure, mPeek, mVar, ixD, iI, bolD, mAsg, mCall1, mCallN, intD, modD, iIc, cMod, mStore, mStoreO, mDone, gSet, mOwn, mPut, setD, mRet, mDrop, mStuck, mTru, truD, mOrT, mAndT, mNotT, mAnd, mOr, mNot, mIsi, isiT_eq, typD, lenD, mCons, mTup, mLst, mLstN, mVal, oOr, addD, subD, mulD, mulI, iIc, cMul, ltD, leD, gtD, geD, gTupD, gCons2, gsNil, mCallV, mCallB, mRs, tupleD, mRetF, mChain, mScr, mScrLen, mScrIx, mMut, appD, max2D, min2D, mRng1, mRng2, rngD1, rngD2, rngOk, mItems, itemsD, mAsgN, mParEE, mParEN, mUn, negD, mCallN1, listD, unsE, powD, cPow, divD, cDiv, mFor, mSl, mSlL, slD, mNoPart, mPart, intO, mSlN, mSlNL, slN, mRevN, revO, mParNC, andD, orD, xorD, shrD, shlD, cShr, mStepN, mStepNL, stepO, mCatN, mCatNL, catN, ht, hr0]
    by_cases h : r = 0
    · rw [decide_eq_true h] at hc
      refine ⟨dB, .own (SL dB), by simp [dB], by decide, .inr rfl, hdw, ?_⟩
      unfold mIf
      rw [bind_is hc]
      show mAsgN _ 6 _ = _
      have f7 : fit 7 = true := rfl
      unfold Wv SL dB
      simp [mSeq, mIf, mBol, mBin, mBinL, mBind, mLift, mPure, mPeek, mVar, ixD, iI, bolD, mAsg, mCall1, mCallN, intD, modD, iIc, cMod, mStore, mStoreO, mDone, gSet, mOwn, mPut, setD, mRet, mDrop, mStuck, mTru, truD, mOrT, mAndT, mNotT, mAnd, mOr, mNot, mIsi, isiT_eq, typD, lenD, mCons, mTup, mLst, mLstN, mVal, oOr, addD, subD, mulD, mulI, iIc, cMul, ltD, leD, gtD, geD, gTupD, gCons2, gsNil, mCallV, mCallB, mRs, tupleD, mRetF, mChain, mScr, mScrLen, mScrIx, mMut, appD, max2D, min2D, mRng1, mRng2, rngD1, rngD2, rngOk, mItems, itemsD, mAsgN, mParEE, mParEN, mUn, negD, mCallN1, listD, unsE, powD, cPow, divD, cDiv, mFor, mSl, mSlL, slD, mNoPart, mPart, intO, mSlN, mSlNL, slN, mRevN, revO, mParNC, andD, orD, xorD, shrD, shlD, cShr, mStepN, mStepNL, stepO, mCatN, mCatNL, catN, f7]
    · rw [decide_eq_false h] at hc
      refine ⟨zs, .val (.list (SL zs)), z0, zl, .inl rfl, zw, ?_⟩
      unfold mIf
      rw [bind_is hc]; rfl
  obtain ⟨z, b2, hz, hb2, ha⟩ := app_st (bs := b1) (N := N) (w := w) (kd := kd) (k := .str k') (s7 := .dct (none, ownKeys (dk7 (.list (SL ("-" :: ns)))))) hb1 y0 yl hy hW
  refine ⟨z, b2, sl, .dct (none, ownKeys (dk7 (.list (SL ("-" :: ns))))), hyw z hz, hb2, ?_⟩
  unfold L__law_words_0
  refine (seq_nx (ρ' := Wv bs W N w kd (.str k') (.val (.list (SL (ns ++ ns)))) s7) (by
    generalize PyData.list (SL (ns ++ ns)) = Q at *
    unfold Wv
    simp [mSeq, mIf, mBol, mBin, mBinL, mBind, mLift, mPure, mPeek, mVar, ixD, iI, bolD, mAsg, mCall1, mCallN, intD, modD, iIc, cMod, mStore, mStoreO, mDone, gSet, mOwn, mPut, setD, mRet, mDrop, mStuck, mTru, truD, mOrT, mAndT, mNotT, mAnd, mOr, mNot, mIsi, isiT_eq, typD, lenD, mCons, mTup, mLst, mLstN, mVal, oOr, subD, mulD, mulI, iIc, cMul, ltD, leD, gtD, geD, gTupD, gCons2, gsNil, mCallV, mCallB, mRs, tupleD, mRetF, mChain, mScr, mScrLen, mScrIx, mMut, appD, max2D, min2D, mRng1, mRng2, rngD1, rngD2, rngOk, mItems, itemsD, mAsgN, mParEE, mParEN, mUn, negD, mCallN1, listD, unsE, powD, cPow, divD, cDiv, mFor, mSl, mSlL, slD, mNoPart, mPart, intO, mSlN, mSlNL, slN, mRevN, revO, mParNC, andD, orD, xorD, shrD, shlD, cShr, mStepN, mStepNL, stepO, mCatN, mCatNL, catN, a2])).trans ?_
  refine (seq_nx (dsp_st ag)).trans ?_
  refine (seq_nx two_st).trans ?_
  refine (seq_nx s_st).trans ?_
  refine (seq_nx get_st).trans ?_
  rw [ez]
  exact (seq_nx h6).trans ha
end

/-! ### the row -/
def Kd (d : D) : Prop := ∃ z : Str, d = .str z ∧ 1 ≤ z.length ∧ z.length ≤ 6
def dkK : List (Str × D) := [("clocked", .str "xexgnf"), ("framed", .str "xlncs"), ("twowire", .str "xx")]
theorem kd_disp (ρ : En) : mDisp (mPairC "clocked" (mPure (.str "xexgnf")) (mPairC "framed" (mPure (.str "xlncs")) (mPairC "twowire" (mPure (.str "xx")) mPairN))) ρ = some (.ok (.dict (strKeys dkK)) ρ) := by
  unfold mDisp
  rw [bind_is (a := dkK) (ρ' := ρ) rfl]
  show mLift (if dkK.length ≤ 15 ∧ (dkK.map (·.1)).Nodup then some (PyData.dict (strKeys dkK)) else none) ρ = _
  rw [if_pos (by decide +kernel)]; rfl
theorem kd_get (w : Str) : ∃ z : Str, dgetE (.dict (strKeys dkK)) (.str w) (.str "x") = some (.str z) ∧ 1 ≤ z.length ∧ z.length ≤ 6 := by
  have h : Kd ((lookD (.str w) (strKeys dkK)).getD (.str "x")) := look_all w ⟨"x", rfl, by decide +kernel, by decide +kernel⟩ dkK fun p hp => by
    simp only [dkK, List.mem_cons, List.not_mem_nil, or_false] at hp
    rcases hp with rfl | rfl | rfl
    · exact ⟨_, rfl, by decide +kernel, by decide +kernel⟩
    · exact ⟨_, rfl, by decide +kernel, by decide +kernel⟩
    · exact ⟨_, rfl, by decide +kernel, by decide +kernel⟩
  obtain ⟨z, e, h1, h2⟩ := h
  refine ⟨z, ?_, h1, h2⟩
  show some ((lookD (.str w) (strKeys dkK)).getD (.str "x")) = _
  rw [e]
theorem words_ok {bs : List D} {ns : List Str} (hb : Bx bs) (hn0 : ns ≠ []) (hn : ns.length ≤ 8) (hw : ∀ z ∈ ns, Wb 20 z) :
    ∃ (ws : List Str) (bs' : List D), ws ≠ [] ∧ ws.length ≤ 8 ∧ (∀ z ∈ ws, Wb 20 z) ∧ Bx bs' ∧ fn__law_words bs [.list (SL ns)] = some (.ok (.list (SL ws)), bs') := by
  obtain ⟨n0, nr, rfl⟩ : ∃ a l, ns = a :: l := by cases ns with
    | nil => exact absurd rfl hn0
    | cons a l => exact ⟨a, l, rfl⟩
  obtain ⟨r, b1, ht, r0, r1, hb1⟩ := take_ok (m := 5) hb (by omega) (by omega)
  obtain ⟨d, hd, hat⟩ := ix_in (ds := SL ["clocked", "framed", "twowire", "framed", n0]) (r := r) r0 (by unfold SL; rw [List.length_map]; exact r1)
  obtain ⟨w, hwm, rfl⟩ := List.mem_map.mp hd
  have hww : Wb 20 w := by
    simp only [List.mem_cons, List.not_mem_nil, or_false] at hwm
    rcases hwm with rfl | rfl | rfl | rfl | rfl
    · exact wb_cst (by decide +kernel)
    · exact wb_cst (by decide +kernel)
    · exact wb_cst (by decide +kernel)
    · exact wb_cst (by decide +kernel)
    · exact hw _ List.mem_cons_self
  obtain ⟨kd, hkd, k1, k6⟩ := kd_get w
  have hat0 : atI (SL (n0 :: nr)) 0 = some (.str n0) := at0c _ _
  have f5 : fit 5 = true := rfl
  have f1 : fit 1 = true := rfl
  generalize hNN : PyData.list (SL (n0 :: nr)) = N at *
  have hx : ixD N (.int 0) = some (.str n0) := by rw [← hNN]; exact hat0
  have hls : (signL kd).length = kd.length := by unfold signL; rw [List.length_map]; rfl
  obtain ⟨ρ', hL, b2, W, s5, s6, s7, hb2, hWl, hWw, rfl⟩ := forL_ix (g := mStore 5) (body := L__law_words_0) (fun i ρ => ∃ (bq : List D) (W : List Str) (s5 s6 s7 : Sl), Bx bq ∧ W.length = i + 1 ∧ (∀ z ∈ W, Wb 20 z) ∧ ρ = [.io bq, .val N, .val (.str w), .val (.str kd), .own (SL W), s5, s6, s7])
    (signL kd) 0 [.io b1, .val N, .val (.str w), .val (.str kd), .own (SL [w]), .un, .un, .un] ⟨b1, [w], .un, .un, .un, hb1, rfl, fun z hz => by rw [List.mem_singleton.mp hz]; exact hww, rfl⟩ (by
    rintro j d ρ hj ⟨bq, W, s5, s6, s7, hbq, hWl, hWw, rfl⟩
    obtain ⟨k', rfl⟩ : ∃ k' : Str, d = .str k' := by
      have hm := List.mem_of_getElem? hj
      obtain ⟨c, _, rfl⟩ := List.mem_map.mp hm
      exact ⟨_, rfl⟩
    have hjl : j < (signL kd).length := (List.getElem?_eq_some_iff.mp hj).1
    obtain ⟨z, b3, t6, t7, hz, hb3, hT⟩ := word_turn (bs := bq) (W := SL W) (N := N) (w := .str w) (kd := .str kd) (s6 := s6) (s7 := s7) (ws := []) (ns := n0 :: nr) (k' := k') hbq hNN.symm (by simp) hn hw (by unfold SL; rw [List.length_map]; omega)
    refine ⟨Wv bq (SL W) N (.str w) (.str kd) (.str k') s6 s7, _, by simp [mStore], Or.inl hT, b3, W ++ [z], .val (.str k'), t6, t7, hb3, by rw [List.length_append, List.length_singleton]; omega, fun y hy => ?_, ?_⟩
    · rcases List.mem_append.mp hy with hy | hy
      · exact hWw y hy
      · rw [List.mem_singleton.mp hy]; exact hz
    · unfold Wv SL
      rw [List.map_append]; rfl)
  have hit : mSigns (mVar 3) [.io b1, .val N, .val (.str w), .val (.str kd), .own (SL [w]), .un, .un, .un] = some (.ok (signL kd) [.io b1, .val N, .val (.str w), .val (.str kd), .own (SL [w]), .un, .un, .un]) := rfl
  have hR : R__law_words_0 [.io b1, .val N, .val (.str w), .val (.str kd), .own (SL [w]), .un, .un, .un] = some (.ok .nx [.io b2, .val N, .val (.str w), .val (.str kd), .own (SL W), s5, s6, s7]) := by
    unfold R__law_words_0 mFor
    rw [bind_is hit]
    exact hL
  obtain ⟨q, b3, ht2, q0, q1, hb3⟩ := take_ok (m := 20) hb2 (by omega) (by omega)
  have hcut : cutL (SL W) none (some (((SL W).length : Int) - q / 19)) = SL (W.take (W.length - (q / 19).toNat)) := by
    have eW : (SL W).length = W.length := List.length_map ..
    rw [eW, show ((W.length : Int) - q / 19) = ((W.length - (q / 19).toNat : Nat) : Int) by omega, cut_take]
    unfold SL; rw [List.map_take]
  refine ⟨W.take (W.length - (q / 19).toNat), b3, ?_, by rw [List.length_take]; omega, fun z hz => hWw z (List.mem_of_mem_take hz), hb3, ?_⟩
  · intro h
    have := congrArg List.length h
    rw [List.length_take, List.length_nil] at this
    omega
  unfold fn__law_words runB m__law_words
  rw [show env0B 8 bs [N] = [.io bs, .val N, .un, .un, .un, .un, .un, .un] from rfl]
  have hat' : ixD (.list [.str "clocked", .str "framed", .str "twowire", .str "framed", .str n0]) (.int r) = some (.str w) := hat
  rw [seq_nx (ρ' := [.io b1, .val N, .val (.str w), .un, .un, .un, .un, .un]) (by simp [mSeq, mIf, mBol, mBin, mBinL, mBind, mLift, mPure, mPeek, mVar, iI, bolD, mAsg, mCall1, mCallN, intD, modD, iIc, cMod, mStore, mStoreO, mDone, gSet, mOwn, mPut, setD, mRet, mDrop, mStuck, mTru, truD, mOrT, mAndT, mNotT, mAnd, mOr, mNot, mIsi, isiT_eq, typD, lenD, mCons, mTup, mLst, mLstN, mVal, oOr, addD, subD, mulD, mulI, iIc, cMul, ltD, leD, gtD, geD, gTupD, gCons2, gsNil, mCallV, mCallB, mRs, tupleD, mRetF, mChain, mScr, mScrLen, mScrIx, mMut, appD, max2D, min2D, mRng1, mRng2, rngD1, rngD2, rngOk, mItems, itemsD, mAsgN, mParEE, mParEN, mUn, negD, mCallN1, listD, unsE, powD, cPow, divD, cDiv, mFor, mSl, mSlL, slD, mNoPart, mPart, intO, mSlN, mSlNL, slN, mRevN, revO, mParNC, andD, orD, xorD, shrD, shlD, cShr, mStepN, mStepNL, stepO, mCatN, mCatNL, catN, f5, hx, hat', ht])]
  rw [seq_nx (ρ' := [.io b1, .val N, .val (.str w), .val (.str kd), .un, .un, .un, .un]) (by
    have hi : isDict (.dict (strKeys dkK)) = some () := rfl
    unfold mAsg mDGetE
    rw [bind_assoc, bind_is (kd_disp _)]
    generalize PyData.dict (strKeys dkK) = DD at *
    simp [mSeq, mIf, mBol, mBin, mBinL, mBind, mLift, mPure, mPeek, mVar, ixD, iI, bolD, mAsg, mCall1, mCallN, intD, modD, iIc, cMod, mStore, mStoreO, mDone, gSet, mOwn, mPut, setD, mRet, mDrop, mStuck, mTru, truD, mOrT, mAndT, mNotT, mAnd, mOr, mNot, mIsi, isiT_eq, typD, lenD, mCons, mTup, mLst, mLstN, mVal, oOr, addD, subD, mulD, mulI, iIc, cMul, ltD, leD, gtD, geD, gTupD, gCons2, gsNil, mCallV, mCallB, mRs, tupleD, mRetF, mChain, mScr, mScrLen, mScrIx, mMut, appD, max2D, min2D, mRng1, mRng2, rngD1, rngD2, rngOk, mItems, itemsD, mAsgN, mParEE, mParEN, mUn, negD, mCallN1, listD, unsE, powD, cPow, divD, cDiv, mFor, mSl, mSlL, slD, mNoPart, mPart, intO, mSlN, mSlNL, slN, mRevN, revO, mParNC, andD, orD, xorD, shrD, shlD, cShr, mStepN, mStepNL, stepO, mCatN, mCatNL, catN, hi, hkd])]
  rw [seq_nx (ρ' := [.io b1, .val N, .val (.str w), .val (.str kd), .own (SL [w]), .un, .un, .un]) (by
    unfold SL
    simp [mSeq, mIf, mBol, mBin, mBinL, mBind, mLift, mPure, mPeek, mVar, ixD, iI, bolD, mAsg, mCall1, mCallN, intD, modD, iIc, cMod, mStore, mStoreO, mDone, gSet, mOwn, mPut, setD, mRet, mDrop, mStuck, mTru, truD, mOrT, mAndT, mNotT, mAnd, mOr, mNot, mIsi, isiT_eq, typD, lenD, mCons, mTup, mLst, mLstN, mVal, oOr, addD, subD, mulD, mulI, iIc, cMul, ltD, leD, gtD, geD, gTupD, gCons2, gsNil, mCallV, mCallB, mRs, tupleD, mRetF, mChain, mScr, mScrLen, mScrIx, mMut, appD, max2D, min2D, mRng1, mRng2, rngD1, rngD2, rngOk, mItems, itemsD, mAsgN, mParEE, mParEN, mUn, negD, mCallN1, listD, unsE, powD, cPow, divD, cDiv, mFor, mSl, mSlL, slD, mNoPart, mPart, intO, mSlN, mSlNL, slN, mRevN, revO, mParNC, andD, orD, xorD, shrD, shlD, cShr, mStepN, mStepNL, stepO, mCatN, mCatNL, catN, f1])]
  rw [seq_nx hR]
  have hz : mRet (mSlL 4 mNoPart (mPart (mBin subD (mCall1 lenD (mPeek 4)) (mBin divD (mCallB 0 2 fn__law_take (mCons (mPure (.int 20)) (mPure []))) (mPure (.int 19)))))) [.io b2, .val N, .val (.str w), .val (.str kd), .own (SL W), s5, s6, s7] = some (.ok (.rt (.list (SL (W.take (W.length - (q / 19).toNat))))) [.io b3, .val N, .val (.str w), .val (.str kd), .own (SL W), s5, s6, s7]) := by
    generalize SL (W.take (W.length - (q / 19).toNat)) = O at *
    generalize SL W = Z at *
    simp [mSeq, mIf, mBol, mBin, mBinL, mBind, mLift, mPure, mPeek, mVar, ixD, iI, bolD, mAsg, mCall1, mCallN, intD, modD, iIc, cMod, mStore, mStoreO, mDone, gSet, mOwn, mPut, setD, mRet, mDrop, mStuck, mTru, truD, mOrT, mAndT, mNotT, mAnd, mOr, mNot, mIsi, isiT_eq, typD, lenD, mCons, mTup, mLst, mLstN, mVal, oOr, addD, subD, mulD, mulI, iIc, cMul, ltD, leD, gtD, geD, gTupD, gCons2, gsNil, mCallV, mCallB, mRs, tupleD, mRetF, mChain, mScr, mScrLen, mScrIx, mMut, appD, max2D, min2D, mRng1, mRng2, rngD1, rngD2, rngOk, mItems, itemsD, mAsgN, mParEE, mParEN, mUn, negD, mCallN1, listD, unsE, powD, cPow, divD, cDiv, mFor, mSl, mSlL, slD, mNoPart, mPart, intO, mSlN, mSlNL, slN, mRevN, revO, mParNC, andD, orD, xorD, shrD, shlD, cShr, mStepN, mStepNL, stepO, mCatN, mCatNL, catN, ht2, hcut, mSlL, slD, mPart, mNoPart, intO]
  rw [hz]

/-! ### what is read, and its own text -/
theorem told_ok {t : Str} {ws : List Str} (hsp : splitS t (.str " ") = some (ws.map PyData.str)) (h0 : ws ≠ []) (hw : ∀ w ∈ ws, Wd w) (hl : ws.length ≤ 1000) : fn__law_told [.str t] = some (.ok (.tuple [rdOf ws, .int 0])) := by
  have hp := proto_all h0 hw hl
  have f1 : fit ws.length = true := fit_of2 (by omega)
  have eW : (ws.map PyData.str).length = ws.length := List.length_map ..
  have g2 : fit 2 = true := rfl
  rcases rd_kind ws with e | ⟨ds, e⟩
  · rw [e] at hp ⊢
    have hi : isD .none .none = some (.bool true) := rfl
    have hr : fn_read_protocol [.str t] = some (.error ⟨"NoText", [("at", .int 0)]⟩) := by
      generalize ws.map PyData.str = W at *
      rw [← eW] at f1
      simp [fn_read_protocol, runV, m_read_protocol, env0, mSeq, mIf, mBol, mBin, mBinL, mBind, mLift, mPure, mPeek, mVar, ixD, iI, bolD, mAsg, mCall1, mCallN, intD, modD, iIc, cMod, mStore, mStoreO, mDone, gSet, mOwn, mPut, setD, mRet, mDrop, mStuck, mTru, truD, mOrT, mAndT, mNotT, mAnd, mOr, mNot, mIsi, isiT_eq, typD, lenD, mCons, mTup, mLst, mLstN, mVal, oOr, addD, subD, mulD, mulI, iIc, cMul, ltD, leD, gtD, geD, gTupD, gCons2, gsNil, mCallV, mCallB, mRs, tupleD, mRetF, mChain, mScr, mScrLen, mScrIx, mMut, appD, max2D, min2D, mRng1, mRng2, rngD1, rngD2, rngOk, mItems, itemsD, mAsgN, mParEE, mParEN, mUn, negD, mCallN1, listD, unsE, powD, cPow, divD, cDiv, mFor, mSl, mSlL, slD, mNoPart, mPart, intO, mSlN, mSlNL, slN, mRevN, revO, mParNC, andD, orD, xorD, shrD, shlD, cShr, mStepN, mStepNL, stepO, mCatN, mCatNL, catN, mSplitN, strD, hsp, hp, hi, f1, mRaise]
    simp [fn__law_told, runV, m__law_told, env0, mSeq, mIf, mBol, mBin, mBinL, mBind, mLift, mPure, mPeek, mVar, ixD, iI, bolD, mAsg, mCall1, mCallN, intD, modD, iIc, cMod, mStore, mStoreO, mDone, gSet, mOwn, mPut, setD, mRet, mDrop, mStuck, mTru, truD, mOrT, mAndT, mNotT, mAnd, mOr, mNot, mIsi, isiT_eq, typD, lenD, mCons, mTup, mLst, mLstN, mVal, oOr, addD, subD, mulD, mulI, iIc, cMul, ltD, leD, gtD, geD, gTupD, gCons2, gsNil, mCallV, mCallB, mRs, tupleD, mRetF, mChain, mScr, mScrLen, mScrIx, mMut, appD, max2D, min2D, mRng1, mRng2, rngD1, rngD2, rngOk, mItems, itemsD, mAsgN, mParEE, mParEN, mUn, negD, mCallN1, listD, unsE, powD, cPow, divD, cDiv, mFor, mSl, mSlL, slD, mNoPart, mPart, intO, mSlN, mSlNL, slN, mRevN, revO, mParNC, andD, orD, xorD, shrD, shlD, cShr, mStepN, mStepNL, stepO, mCatN, mCatNL, catN, hr, mTry, mSuiteF, ptD, g2]
  · rw [e] at hp ⊢
    have hi : isD (.tuple ds) .none = some (.bool false) := rfl
    have hr : fn_read_protocol [.str t] = some (.ok (.tuple ds)) := by
      generalize ws.map PyData.str = W at *
      rw [← eW] at f1
      simp [fn_read_protocol, runV, m_read_protocol, env0, mSeq, mIf, mBol, mBin, mBinL, mBind, mLift, mPure, mPeek, mVar, ixD, iI, bolD, mAsg, mCall1, mCallN, intD, modD, iIc, cMod, mStore, mStoreO, mDone, gSet, mOwn, mPut, setD, mRet, mDrop, mStuck, mTru, truD, mOrT, mAndT, mNotT, mAnd, mOr, mNot, mIsi, isiT_eq, typD, lenD, mCons, mTup, mLst, mLstN, mVal, oOr, addD, subD, mulD, mulI, iIc, cMul, ltD, leD, gtD, geD, gTupD, gCons2, gsNil, mCallV, mCallB, mRs, tupleD, mRetF, mChain, mScr, mScrLen, mScrIx, mMut, appD, max2D, min2D, mRng1, mRng2, rngD1, rngD2, rngOk, mItems, itemsD, mAsgN, mParEE, mParEN, mUn, negD, mCallN1, listD, unsE, powD, cPow, divD, cDiv, mFor, mSl, mSlL, slD, mNoPart, mPart, intO, mSlN, mSlNL, slN, mRevN, revO, mParNC, andD, orD, xorD, shrD, shlD, cShr, mStepN, mStepNL, stepO, mCatN, mCatNL, catN, mSplitN, strD, hsp, hp, hi, f1]
    simp [fn__law_told, runV, m__law_told, env0, mSeq, mIf, mBol, mBin, mBinL, mBind, mLift, mPure, mPeek, mVar, ixD, iI, bolD, mAsg, mCall1, mCallN, intD, modD, iIc, cMod, mStore, mStoreO, mDone, gSet, mOwn, mPut, setD, mRet, mDrop, mStuck, mTru, truD, mOrT, mAndT, mNotT, mAnd, mOr, mNot, mIsi, isiT_eq, typD, lenD, mCons, mTup, mLst, mLstN, mVal, oOr, addD, subD, mulD, mulI, iIc, cMul, ltD, leD, gtD, geD, gTupD, gCons2, gsNil, mCallV, mCallB, mRs, tupleD, mRetF, mChain, mScr, mScrLen, mScrIx, mMut, appD, max2D, min2D, mRng1, mRng2, rngD1, rngD2, rngOk, mItems, itemsD, mAsgN, mParEE, mParEN, mUn, negD, mCallN1, listD, unsE, powD, cPow, divD, cDiv, mFor, mSl, mSlL, slD, mNoPart, mPart, intO, mSlN, mSlNL, slN, mRevN, revO, mParNC, andD, orD, xorD, shrD, shlD, cShr, mStepN, mStepNL, stepO, mCatN, mCatNL, catN, hr, mTry, g2]
theorem str_ext {x y : Str} (h : x.cps.toList = y.cps.toList) : x = y := by
  obtain ⟨a⟩ := x
  obtain ⟨b⟩ := y
  have : a = b := Array.toList_inj.mp h
  rw [this]
theorem ntx_num {z : Str} {v : Int} (h : numOf z = some v) : ntx v = z := by
  unfold numOf at h
  split at h
  · rename_i hc
    obtain ⟨hd, h1, hh⟩ := hc
    have e := Option.some.inj h
    have hall : PySem.NumText.AllDigits z.cps.toList := fun c hc => by
      have := List.all_eq_true.mp hd c hc
      unfold digB at this
      rw [Bool.and_eq_true] at this
      exact ⟨of_decide_eq_true this.1, of_decide_eq_true this.2⟩
    have hlen : z.cps.toList.length = z.length := by simp [Str.length]
    have ht := PySem.NumText.toDigits_digitsVal (z.length - 1) z.cps.toList (by omega) hall (by
      rcases hh with hh | hh
      · right
        cases hz : z.cps.toList with
        | nil => rw [hz, List.length_nil] at hlen; omega
        | cons c r =>
          refine ⟨c, r, rfl, ?_⟩
          have h2 := hall c (by rw [hz]; exact List.mem_cons_self)
          rw [hz] at hh
          have : c ≠ 48 := fun q => hh (by rw [q]; rfl)
          omega
      · left; omega)
    have hs : (ntx ((PySem.NumText.digitsVal z.cps.toList : Nat) : Int)).cps.toList = (Nat.toDigits 10 (PySem.NumText.digitsVal z.cps.toList)).map Char.toNat := PySem.W.KIN.signs_num _
    rw [← e]
    refine str_ext ?_
    rw [hs, ht, List.map_map]
    refine (List.map_congr_left fun c hc => ?_).trans (List.map_id _)
    have h2 := hall c hc
    have h10 : ∀ k : Fin 10, (Char.ofNat (48 + k.val)).toNat = 48 + k.val := by decide
    have := h10 ⟨c - 48, by omega⟩
    rw [show 48 + (c - 48) = c by omega] at this
    exact this
  · cases h
theorem in_num {z : Str} {lo hi v : Int} (h : inB lo hi z = some v) : ntx v = z ∧ lo ≤ v ∧ v ≤ hi := by
  unfold inB at h
  split at h
  · rename_i u hu
    split at h
    · rename_i hb
      cases h
      unfold btw at hb
      rw [Bool.and_eq_true] at hb
      exact ⟨ntx_num hu, of_decide_eq_true hb.1, of_decide_eq_true hb.2⟩
    · cases h
  · cases h
structure Good (ws : List Str) (R : D) (ls : List Str) : Prop where
  isn : isntD R .none = some (.bool true)
  lns : fn__law_lines [R] = some (.ok (.list (SL ls)))
  one : one1 ls = true
  l0 : ls ≠ []
  l3 : ls.length ≤ 3
  ok : ∀ x ∈ ls, okN x = true
  fault : ∀ {ns : List Str} {N : D}, Nm ns N → fn__fault_of [N, R] = some (.ok (verD ls ns .none))
  shw : fn_show_protocol [R] = some (.ok (.str (Txt.join " " ws)))
theorem ls_all {ls : List Str} (h : lsOk ls = true) : (∀ x ∈ ls, okN x = true) ∧ one1 ls = true := by
  unfold lsOk at h
  rw [Bool.and_eq_true] at h
  exact ⟨List.all_eq_true.mp h.1, h.2⟩
theorem e_tf : eqD (.str "twowire") (.str "framed") = some (.bool false) := eqF (by decide +kernel)
theorem e_tt : eqD (.str "twowire") (.str "twowire") = some (.bool true) := eq_str _
theorem e_ff : eqD (.str "framed") (.str "framed") = some (.bool true) := eq_str _
theorem e_cf : eqD (.str "clocked") (.str "framed") = some (.bool false) := eqF (by decide +kernel)
theorem e_ct : eqD (.str "clocked") (.str "twowire") = some (.bool false) := eqF (by decide +kernel)
theorem ll_tw {c d : Str} : fn__law_lines [twD c d] = some (.ok (.list (SL [c, d]))) := by
  have f1 : fit 1 = true := rfl
  have f2 : fit 2 = true := rfl
  have a0 : ∀ (x y z : D), atI [x, y, z] 0 = some x := fun _ _ _ => rfl
  have a1 : ∀ (x y z : D), atI [x, y, z] 1 = some y := fun _ _ _ => rfl
  have a2 : ∀ (x y z : D), atI [x, y, z] 2 = some z := fun _ _ _ => rfl
  unfold twD SL
  simp [fn__law_lines, runV, m__law_lines, env0, mSeq, mIf, mBol, mBin, mBinL, mBind, mLift, mPure, mPeek, mVar, ixD, iI, bolD, mAsg, mCall1, mCallN, intD, modD, iIc, cMod, mStore, mStoreO, mDone, gSet, mOwn, mPut, setD, mRet, mDrop, mStuck, mTru, truD, mOrT, mAndT, mNotT, mAnd, mOr, mNot, mIsi, isiT_eq, typD, lenD, mCons, mTup, mLst, mLstN, mVal, oOr, addD, subD, mulD, mulI, iIc, cMul, ltD, leD, gtD, geD, gTupD, gCons2, gsNil, mCallV, mCallB, mRs, tupleD, mRetF, mChain, mScr, mScrLen, mScrIx, mMut, appD, max2D, min2D, mRng1, mRng2, rngD1, rngD2, rngOk, mItems, itemsD, mAsgN, mParEE, mParEN, mUn, negD, mCallN1, listD, unsE, powD, cPow, divD, cDiv, mFor, mSl, mSlL, slD, mNoPart, mPart, intO, mSlN, mSlNL, slN, mRevN, revO, mParNC, andD, orD, xorD, shrD, shlD, cShr, mStepN, mStepNL, stepO, mCatN, mCatNL, catN, a0, a1, a2, e_tf, e_tt, f1, f2]
theorem ll_fr {d p : Str} {l b s : Int} : fn__law_lines [frD d l b p s] = some (.ok (.list (SL [d]))) := by
  have f1 : fit 1 = true := rfl
  have a0 : ∀ (x y z u v w : D), atI [x, y, z, u, v, w] 0 = some x := fun _ _ _ _ _ _ => rfl
  have a1 : ∀ (x y z u v w : D), atI [x, y, z, u, v, w] 1 = some y := fun _ _ _ _ _ _ => rfl
  unfold frD SL
  simp [fn__law_lines, runV, m__law_lines, env0, mSeq, mIf, mBol, mBin, mBinL, mBind, mLift, mPure, mPeek, mVar, ixD, iI, bolD, mAsg, mCall1, mCallN, intD, modD, iIc, cMod, mStore, mStoreO, mDone, gSet, mOwn, mPut, setD, mRet, mDrop, mStuck, mTru, truD, mOrT, mAndT, mNotT, mAnd, mOr, mNot, mIsi, isiT_eq, typD, lenD, mCons, mTup, mLst, mLstN, mVal, oOr, addD, subD, mulD, mulI, iIc, cMul, ltD, leD, gtD, geD, gTupD, gCons2, gsNil, mCallV, mCallB, mRs, tupleD, mRetF, mChain, mScr, mScrLen, mScrIx, mMut, appD, max2D, min2D, mRng1, mRng2, rngD1, rngD2, rngOk, mItems, itemsD, mAsgN, mParEE, mParEN, mUn, negD, mCallN1, listD, unsE, powD, cPow, divD, cDiv, mFor, mSl, mSlL, slD, mNoPart, mPart, intO, mSlN, mSlNL, slN, mRevN, revO, mParNC, andD, orD, xorD, shrD, shlD, cShr, mStepN, mStepNL, stepO, mCatN, mCatNL, catN, a0, a1, e_ff, f1]
theorem neS {a b : Str} (ha : PyData.strOk a = true) (hb : PyData.strOk b = true) : neD (.str a) (.str b) = some (.bool (!(a == b))) := by
  have e := eqS a b ha hb
  simp [neD, eqD, ha, hb] at e ⊢
  exact e
theorem ll_ck {c e d g f : Str} {b : Int} (hg : PyData.strOk g = true) : fn__law_lines [ckD c e d g b f] = some (.ok (.list (SL (linesCk c d g)))) := by
  have f1 : fit 1 = true := rfl
  have f2 : fit 2 = true := rfl
  have a0 : ∀ (x y z u v w t : D), atI [x, y, z, u, v, w, t] 0 = some x := fun _ _ _ _ _ _ _ => rfl
  have a1 : ∀ (x y z u v w t : D), atI [x, y, z, u, v, w, t] 1 = some y := fun _ _ _ _ _ _ _ => rfl
  have a3 : ∀ (x y z u v w t : D), atI [x, y, z, u, v, w, t] 3 = some u := fun _ _ _ _ _ _ _ => rfl
  have a4 : ∀ (x y z u v w t : D), atI [x, y, z, u, v, w, t] 4 = some v := fun _ _ _ _ _ _ _ => rfl
  have hne : neD (.str g) (.str "") = some (.bool (!(g == ""))) := by
    exact neS hg (strOk_of _)
  have r0 : repLD (.list [.str g]) (.int 0) = some [] := rep1i (s := 0) rfl (by omega)
  have r1 : repLD (.list [.str g]) (.int 1) = some [.str g] := rep1i (s := 1) rfl (by omega)
  have c0 : addD (.list [.str c, .str d]) (.list []) = some (.list [.str c, .str d]) := add_lstD (by simp)
  have c1 : addD (.list [.str c, .str d]) (.list [.str g]) = some (.list [.str c, .str d, .str g]) := add_lstD (by simp)
  unfold linesCk
  by_cases h : g = ""
  · rw [if_pos h]
    have hb : (g == "") = true := by rw [h]; rfl
    rw [hb] at hne
    unfold ckD SL
    simp [fn__law_lines, runV, m__law_lines, env0, mSeq, mIf, mBol, mBin, mBinL, mBind, mLift, mPure, mPeek, mVar, ixD, iI, bolD, mAsg, mCall1, mCallN, intD, modD, iIc, cMod, mStore, mStoreO, mDone, gSet, mOwn, mPut, setD, mRet, mDrop, mStuck, mTru, truD, mOrT, mAndT, mNotT, mAnd, mOr, mNot, mIsi, isiT_eq, typD, lenD, mCons, mTup, mLst, mLstN, mVal, oOr, subD, mulD, mulI, iIc, cMul, ltD, leD, gtD, geD, gTupD, gCons2, gsNil, mCallV, mCallB, mRs, tupleD, mRetF, mChain, mScr, mScrLen, mScrIx, mMut, appD, max2D, min2D, mRng1, mRng2, rngD1, rngD2, rngOk, mItems, itemsD, mAsgN, mParEE, mParEN, mUn, negD, mCallN1, listD, unsE, powD, cPow, divD, cDiv, mFor, mSl, mSlL, slD, mNoPart, mPart, intO, mSlN, mSlNL, slN, mRevN, revO, mParNC, andD, orD, xorD, shrD, shlD, cShr, mStepN, mStepNL, stepO, mCatN, mCatNL, catN, a0, a1, a3, a4, e_cf, e_ct, f1, f2, hne, mRepN, r0, c0]
  · rw [if_neg h]
    rw [beq_false_of_ne h] at hne
    unfold ckD SL
    simp [fn__law_lines, runV, m__law_lines, env0, mSeq, mIf, mBol, mBin, mBinL, mBind, mLift, mPure, mPeek, mVar, ixD, iI, bolD, mAsg, mCall1, mCallN, intD, modD, iIc, cMod, mStore, mStoreO, mDone, gSet, mOwn, mPut, setD, mRet, mDrop, mStuck, mTru, truD, mOrT, mAndT, mNotT, mAnd, mOr, mNot, mIsi, isiT_eq, typD, lenD, mCons, mTup, mLst, mLstN, mVal, oOr, subD, mulD, mulI, iIc, cMul, ltD, leD, gtD, geD, gTupD, gCons2, gsNil, mCallV, mCallB, mRs, tupleD, mRetF, mChain, mScr, mScrLen, mScrIx, mMut, appD, max2D, min2D, mRng1, mRng2, rngD1, rngD2, rngOk, mItems, itemsD, mAsgN, mParEE, mParEN, mUn, negD, mCallN1, listD, unsE, powD, cPow, divD, cDiv, mFor, mSl, mSlL, slD, mNoPart, mPart, intO, mSlN, mSlNL, slN, mRevN, revO, mParNC, andD, orD, xorD, shrD, shlD, cShr, mStepN, mStepNL, stepO, mCatN, mCatNL, catN, a0, a1, a3, a4, e_cf, e_ct, f1, f2, hne, mRepN, r1, c1]

/-! ### each form that is read -/
theorem btw_of {a b i : Int} (h1 : a ≤ i) (h2 : i ≤ b) : btw a b i = true := by
  unfold btw
  rw [decide_eq_true h1, decide_eq_true h2]; rfl
theorem mem_of {l : List Str} {x : Str} (h : l.contains x = true) : x ∈ l := List.contains_iff_mem.mp h
theorem good_tw {c d : Str} (h : lsOk [c, d] = true) : Good ["twowire", c, d] (twD c d) [c, d] := by
  obtain ⟨ha, h1⟩ := ls_all h
  exact ⟨rfl, ll_tw, h1, by simp, by simp, ha, fun hN => fault_tw hN, show_tw (ha c (by simp)) (ha d (by simp))⟩
theorem good_fr {d l b p s : Str} {l' b' s' : Int} (e1 : inB 2 1000000 l = some l') (e2 : inB 1 16 b = some b') (e3 : inB 1 2 s = some s') (hp : wCheck.contains p = true) (h : lsOk [d] = true) : Good ["framed", d, l, b, p, s] (frD d l' b' p s') [d] := by
  obtain ⟨ha, h1⟩ := ls_all h
  obtain ⟨n1, l1, l2⟩ := in_num e1
  obtain ⟨n2, b1, b2⟩ := in_num e2
  obtain ⟨n3, s1, s2⟩ := in_num e3
  refine ⟨rfl, ll_fr, h1, by simp, by simp, ha, fun {ns N} hN => ?_, ?_⟩
  · have hf := fault_fr (d := d) (c := p) (l := l') (b := b') (s := s') hN
    have e : fbad (rowsFr l' b' p s') = .none := by
      unfold rowsFr
      rw [btw_of l1 l2, btw_of b1 b2, btw_of s1 s2, hp]; rfl
    rw [e] at hf
    exact hf
  · have hs := show_fr (a := d) (l := l') (n := b') (p := p) (s := s') (ha d (by simp)) l1 l2 b1 b2 (mem_of hp) s1 s2
    unfold wFr at hs
    rw [n1, n2, n3] at hs
    exact hs
theorem good_ck {c e d g b f : Str} {b' : Int} (e1 : inB 1 16 b = some b') (he : wEdge.contains e = true) (hf : wFirst.contains f = true) (h : lsOk (lsCk c d g) = true) : Good ["clocked", c, e, d, g, b, f] (ckD c e d (gOf g) b' f) (lsCk c d g) := by
  obtain ⟨ha, h1⟩ := ls_all h
  obtain ⟨n1, b1, b2⟩ := in_num e1
  have hc : okN c = true := ha c (by unfold lsCk; simp)
  have hd : okN d = true := ha d (by unfold lsCk; simp)
  have hgg : (decide (g = "-") || okN g) = true := by
    by_cases q : g = "-"
    · rw [decide_eq_true q]; rfl
    · rw [ha g (by unfold lsCk; rw [if_neg q]; simp), Bool.or_true]
  have hok : PyData.strOk (gOf g) = true := by
    unfold gOf
    by_cases q : g = "-"
    · rw [if_pos q]; exact strOk_of _
    · rw [if_neg q]; exact asc_ok (okN_asc (ha g (by unfold lsCk; rw [if_neg q]; simp))).1
  have hl : linesCk c d (gOf g) = lsCk c d g := ls_gate hgg
  refine ⟨rfl, ?_, h1, by unfold lsCk; simp, by unfold lsCk; split <;> simp, ha, fun {ns N} hN => ?_, ?_⟩
  · rw [← hl]; exact ll_ck hok
  · have hq := fault_ck (c := c) (e := e) (d := d) (g := gOf g) (f := f) (b := b') hN hok
    have e : fbad (rowsCk e b' f) = .none := by
      unfold rowsCk
      rw [btw_of b1 b2, he, hf]; rfl
    rw [e, hl] at hq
    exact hq
  · by_cases q : g = "-"
    · have hs := show_ck (a := c) (b := d) (c := c) (e := e) (g := gOf g) (n := b') (f := f) hc hd hc (mem_of he) (.inl (by unfold gOf; rw [if_pos q])) b1 b2 (mem_of hf)
      have hw : wpart (gOf g) = g := by
        unfold gOf
        rw [if_pos q, q]; rfl
      unfold wCk at hs
      rw [hw, n1] at hs
      exact hs
    · have hg : okN g = true := ha g (by unfold lsCk; rw [if_neg q]; simp)
      have hs := show_ck (a := c) (b := d) (c := g) (e := e) (g := gOf g) (n := b') (f := f) hc hd hg (mem_of he) (.inr (by unfold gOf; rw [if_neg q])) b1 b2 (mem_of hf)
      have hw : wpart (gOf g) = g := by
        unfold gOf
        rw [if_neg q]; exact wp_of (okN_ne hg)
      unfold wCk at hs
      rw [hw, n1] at hs
      exact hs
theorem good_of (ws : List Str) : rdOf ws = .none ∨ ∃ ls, Good ws (rdOf ws) ls := by
  unfold rdOf
  split
  · rename_i w c d
    split
    · rename_i hw
      unfold rdTw
      split
      · rename_i h
        right; rw [hw]; exact ⟨_, good_tw h⟩
      · exact .inl rfl
    · exact .inl rfl
  · rename_i w d l b p s
    split
    · rename_i hw
      unfold rdFr
      split
      · rename_i l' b' s' e1 e2 e3
        split
        · rename_i h
          right; rw [hw]; exact ⟨_, good_fr e1 e2 e3 h.1 h.2⟩
        · exact .inl rfl
      · exact .inl rfl
    · exact .inl rfl
  · rename_i w c e d g b f
    split
    · rename_i hw
      unfold rdCk
      split
      · rename_i b' e1
        split
        · rename_i h
          right; rw [hw]; exact ⟨_, good_ck e1 h.1 h.2.1 h.2.2⟩
        · exact .inl rfl
      · exact .inl rfl
    · exact .inl rfl
  · exact .inl rfl
section
variable {ws ls ns : List Str} {R N : D}
theorem one_not {ls : List Str} {i : Nat} (h : one1 ls = true) (hi : i < ls.length) : ls[i] ∉ ls.take i ++ ls.drop (i + 1) := by
  have hc : ls.count ls[i] ≤ 1 := of_decide_eq_true (List.all_eq_true.mp h ls[i] (List.getElem_mem hi))
  have e : ls = ls.take i ++ ls[i] :: ls.drop (i + 1) := by rw [← List.drop_eq_getElem_cons hi, List.take_append_drop]
  have hq : (ls.take i ++ ls[i] :: ls.drop (i + 1)).count ls[i] ≤ 1 := by rw [← e]; exact hc
  rw [List.count_append, List.count_cons_self] at hq
  intro m
  rcases List.mem_append.mp m with m | m
  · have := List.count_pos_iff.mpr m; omega
  · have := List.count_pos_iff.mpr m; omega
theorem look_all_ok (g : Good ws R ls) (hN : Nm ns N) (h : ∀ x ∈ ls, x ∈ ns) : fn_look_protocol [N, R] = some (.ok (.bool true)) := by
  have hf := g.fault hN
  have e : verD ls ns .none = .none := by
    unfold verD
    rw [if_pos (List.all_eq_true.mpr fun x hx => List.contains_iff_mem.mpr (h x hx)), if_pos g.one]
  rw [e] at hf
  have hi : isntD .none .none = some (.bool false) := rfl
  simp [fn_look_protocol, runV, m_look_protocol, env0, mSeq, mIf, mBol, mBin, mBinL, mBind, mLift, mPure, mPeek, mVar, ixD, iI, bolD, mAsg, mCall1, mCallN, intD, modD, iIc, cMod, mStore, mStoreO, mDone, gSet, mOwn, mPut, setD, mRet, mDrop, mStuck, mTru, truD, mOrT, mAndT, mNotT, mAnd, mOr, mNot, mIsi, isiT_eq, typD, lenD, mCons, mTup, mLst, mLstN, mVal, oOr, addD, subD, mulD, mulI, iIc, cMul, ltD, leD, gtD, geD, gTupD, gCons2, gsNil, mCallV, mCallB, mRs, tupleD, mRetF, mChain, mScr, mScrLen, mScrIx, mMut, appD, max2D, min2D, mRng1, mRng2, rngD1, rngD2, rngOk, mItems, itemsD, mAsgN, mParEE, mParEN, mUn, negD, mCallN1, listD, unsE, powD, cPow, divD, cDiv, mFor, mSl, mSlL, slD, mNoPart, mPart, intO, mSlN, mSlNL, slN, mRevN, revO, mParNC, andD, orD, xorD, shrD, shlD, cShr, mStepN, mStepNL, stepO, mCatN, mCatNL, catN, hf, hi]
theorem lacks_ok (g : Good ws R ls) (hN : Nm ns N) {x : Str} (hx : x ∈ ls) (hn : x ∉ ns) : fn__law_lacks [N, R] = some (.ok (.str "line")) := by
  have hf := g.fault hN
  have e : verD ls ns .none = .str "line" := by
    unfold verD
    rw [if_neg]
    intro q
    exact hn (List.contains_iff_mem.mp (List.all_eq_true.mp q x hx))
  rw [e] at hf
  have hi : isntD (.str "line") .none = some (.bool true) := rfl
  have hl : fn_look_protocol [N, R] = some (.error ⟨"NoProtocol", [("word", .str "line")]⟩) := by
    simp [fn_look_protocol, runV, m_look_protocol, env0, mSeq, mIf, mBol, mBin, mBinL, mBind, mLift, mPure, mPeek, mVar, ixD, iI, bolD, mAsg, mCall1, mCallN, intD, modD, iIc, cMod, mStore, mStoreO, mDone, gSet, mOwn, mPut, setD, mRet, mDrop, mStuck, mTru, truD, mOrT, mAndT, mNotT, mAnd, mOr, mNot, mIsi, isiT_eq, typD, lenD, mCons, mTup, mLst, mLstN, mVal, oOr, addD, subD, mulD, mulI, iIc, cMul, ltD, leD, gtD, geD, gTupD, gCons2, gsNil, mCallV, mCallB, mRs, tupleD, mRetF, mChain, mScr, mScrLen, mScrIx, mMut, appD, max2D, min2D, mRng1, mRng2, rngD1, rngD2, rngOk, mItems, itemsD, mAsgN, mParEE, mParEN, mUn, negD, mCallN1, listD, unsE, powD, cPow, divD, cDiv, mFor, mSl, mSlL, slD, mNoPart, mPart, intO, mSlN, mSlNL, slN, mRevN, revO, mParNC, andD, orD, xorD, shrD, shlD, cShr, mStepN, mStepNL, stepO, mCatN, mCatNL, catN, hf, hi, mRaise]
  simp [fn__law_lacks, runV, m__law_lacks, env0, mSeq, mIf, mBol, mBin, mBinL, mBind, mLift, mPure, mPeek, mVar, ixD, iI, bolD, mAsg, mCall1, mCallN, intD, modD, iIc, cMod, mStore, mStoreO, mDone, gSet, mOwn, mPut, setD, mRet, mDrop, mStuck, mTru, truD, mOrT, mAndT, mNotT, mAnd, mOr, mNot, mIsi, isiT_eq, typD, lenD, mCons, mTup, mLst, mLstN, mVal, oOr, addD, subD, mulD, mulI, iIc, cMul, ltD, leD, gtD, geD, gTupD, gCons2, gsNil, mCallV, mCallB, mRs, tupleD, mRetF, mChain, mScr, mScrLen, mScrIx, mMut, appD, max2D, min2D, mRng1, mRng2, rngD1, rngD2, rngOk, mItems, itemsD, mAsgN, mParEE, mParEN, mUn, negD, mCallN1, listD, unsE, powD, cPow, divD, cDiv, mFor, mSl, mSlL, slD, mNoPart, mPart, intO, mSlN, mSlNL, slN, mRevN, revO, mParNC, andD, orD, xorD, shrD, shlD, cShr, mStepN, mStepNL, stepO, mCatN, mCatNL, catN, hl, mTry, mSuiteF, ptD]
end

/-! ### a turn of the law -/
abbrev Lv (sc : List Int) (k : Int) (bs : List D) (s3 s4 s5 s6 s7 s8 s9 s10 s11 s12 : Sl) : En := [.scr sc, .val (.int k), .own bs, s3, s4, s5, s6, s7, s8, s9, s10, s11, s12]
section
variable {sc : List Int} {k : Int} {bs : List D} {s3 s4 s5 s6 s7 s8 s9 s10 s11 s12 : Sl} {nm ls ws : List Str} {R : D} {t : Str}
def moreL (nm ls : List Str) : List Str := (nm.take 4).filter fun x => !ls.contains x
theorem more_ok (hn : nm.length ≤ 100) : C_law_0 (Lv sc k bs (.val (.list (SL nm))) s4 s5 s6 s7 (.val (.list (SL ls))) s9 s10 s11 s12) = some (.ok (SL (moreL nm ls)) (Lv sc k bs (.val (.list (SL nm))) s4 s5 s6 s7 (.val (.list (SL ls))) s9 s10 s11 .un)) := by
  have hit : mItems (mSlL 3 mNoPart (mPart (mPure (.int 4)))) (Lv sc k bs (.val (.list (SL nm))) s4 s5 s6 s7 (.val (.list (SL ls))) s9 s10 s11 s12) = some (.ok (SL (nm.take 4)) (Lv sc k bs (.val (.list (SL nm))) s4 s5 s6 s7 (.val (.list (SL ls))) s9 s10 s11 s12)) := by
    show some (Dd.R.ok (cutL (SL nm) none (some ((4 : Nat) : Int))) _) = _
    rw [cut_take]
    unfold SL; rw [List.map_take]
  have hu : unsE (Lv sc k bs (.val (.list (SL nm))) s4 s5 s6 s7 (.val (.list (SL ls))) s9 s10 s11 s12) [12] = Lv sc k bs (.val (.list (SL nm))) s4 s5 s6 s7 (.val (.list (SL ls))) s9 s10 s11 .un := by simp [unsE, Lv]
  have hu2 : unsE (Lv sc k bs (.val (.list (SL nm))) s4 s5 s6 s7 (.val (.list (SL ls))) s9 s10 s11 .un) [12] = Lv sc k bs (.val (.list (SL nm))) s4 s5 s6 s7 (.val (.list (SL ls))) s9 s10 s11 .un := by simp [unsE, Lv]
  have := comp_is (vs := [12]) (g := mStore 12) (tt := mBol (mBinL (inD true) 12 (mPeek 8))) (te := mVar 12) (out := (nm.take 4).flatMap fun x => if (!ls.contains x) = true then [PyData.str x] else []) (ρe := Lv sc k bs (.val (.list (SL nm))) s4 s5 s6 s7 (.val (.list (SL ls))) s9 s10 s11 .un) hit (fit_of2 (by unfold SL; rw [List.length_map, List.length_take]; omega)) (by
    rw [hu]
    refine go_fm _ _ _ fun x _ => ?_
    have hi : inD true (.str x) (.list (SL ls)) = some (.bool (!ls.contains x)) := (in_nm (N := .list (SL ls)) (ns := ls) (.inl rfl) x).2
    generalize SL ls = G at *
    generalize SL nm = M at *
    refine ⟨Lv sc k bs (.val (.list M)) s4 s5 s6 s7 (.val (.list G)) s9 s10 s11 (.val (.str x)), Lv sc k bs (.val (.list M)) s4 s5 s6 s7 (.val (.list G)) s9 s10 s11 (.val (.str x)), !ls.contains x, by simp [mStore, Lv], ?_, fun h => ?_, fun h => ?_⟩
    · simp only [Lv, mBol, mBinL, mBind, mPure, mPeek, mLift, List.getElem?_cons_succ, List.getElem?_cons_zero, hi, bolD]
    · exact ⟨.str x, Lv sc k bs (.val (.list M)) s4 s5 s6 s7 (.val (.list G)) s9 s10 s11 (.val (.str x)), by simp [mSeq, mIf, mBol, mBin, mBinL, mBind, mLift, mPure, mPeek, mVar, ixD, iI, bolD, mAsg, mCall1, mCallN, intD, modD, iIc, cMod, mStore, mStoreO, mDone, gSet, mOwn, mPut, setD, mRet, mDrop, mStuck, mTru, truD, mOrT, mAndT, mNotT, mAnd, mOr, mNot, mIsi, isiT_eq, typD, lenD, mCons, mTup, mLst, mLstN, mVal, oOr, addD, subD, mulD, mulI, iIc, cMul, ltD, leD, gtD, geD, gTupD, gCons2, gsNil, mCallV, mCallB, mRs, tupleD, mRetF, mChain, mScr, mScrLen, mScrIx, mMut, appD, max2D, min2D, mRng1, mRng2, rngD1, rngD2, rngOk, mItems, itemsD, mAsgN, mParEE, mParEN, mUn, negD, mCallN1, listD, unsE, powD, cPow, divD, cDiv, mFor, mSl, mSlL, slD, mNoPart, mPart, intO, mSlN, mSlNL, slN, mRevN, revO, mParNC, andD, orD, xorD, shrD, shlD, cShr, mStepN, mStepNL, stepO, mCatN, mCatNL, catN, Lv], by simp [unsE, Lv], by rw [if_pos h]⟩
    · exact ⟨by simp [unsE, Lv], by rw [if_neg (by rw [h]; decide)]⟩)
  rw [hu2, filt_strs] at this
  exact this
theorem stA (g : Good ws R ls) : (mAsg (mCallV 1 fn__law_lines (mCons (mVar 6) (mPure []))) (mStore 8)) (Lv sc k bs s3 s4 s5 (.val R) s7 s8 s9 s10 s11 s12) = some (.ok .nx (Lv sc k bs s3 s4 s5 (.val R) s7 (.val (.list (SL ls))) s9 s10 s11 s12)) := by
  have h := g.lns
  generalize SL ls = G at *
  simp [mSeq, mIf, mBol, mBin, mBinL, mBind, mLift, mPure, mPeek, mVar, ixD, iI, bolD, mAsg, mCall1, mCallN, intD, modD, iIc, cMod, mStore, mStoreO, mDone, gSet, mOwn, mPut, setD, mRet, mDrop, mStuck, mTru, truD, mOrT, mAndT, mNotT, mAnd, mOr, mNot, mIsi, isiT_eq, typD, lenD, mCons, mTup, mLst, mLstN, mVal, oOr, addD, subD, mulD, mulI, iIc, cMul, ltD, leD, gtD, geD, gTupD, gCons2, gsNil, mCallV, mCallB, mRs, tupleD, mRetF, mChain, mScr, mScrLen, mScrIx, mMut, appD, max2D, min2D, mRng1, mRng2, rngD1, rngD2, rngOk, mItems, itemsD, mAsgN, mParEE, mParEN, mUn, negD, mCallN1, listD, unsE, powD, cPow, divD, cDiv, mFor, mSl, mSlL, slD, mNoPart, mPart, intO, mSlN, mSlNL, slN, mRevN, revO, mParNC, andD, orD, xorD, shrD, shlD, cShr, mStepN, mStepNL, stepO, mCatN, mCatNL, catN, Lv, h]
theorem stB (hn : nm.length ≤ 100) (hl : ls.length ≤ 3) : (mAsg (mBinL addD 8 (mVal C_law_0)) (mStore 9)) (Lv sc k bs (.val (.list (SL nm))) s4 s5 s6 s7 (.val (.list (SL ls))) s9 s10 s11 s12) = some (.ok .nx (Lv sc k bs (.val (.list (SL nm))) s4 s5 s6 s7 (.val (.list (SL ls))) (.val (.list (SL (ls ++ moreL nm ls)))) s10 s11 .un)) := by
  have hc := more_ok (sc := sc) (k := k) (bs := bs) (s4 := s4) (s5 := s5) (s6 := s6) (s7 := s7) (s9 := s9) (s10 := s10) (s11 := s11) (s12 := s12) (ls := ls) hn
  have hm : (moreL nm ls).length ≤ 100 := by
    unfold moreL
    have h1 := List.length_filter_le (fun x => !ls.contains x) (nm.take 4)
    have h2 := List.length_take_le 4 nm
    omega
  have ha : addD (.list (SL ls)) (.list (SL (moreL nm ls))) = some (.list (SL (ls ++ moreL nm ls))) := by
    rw [add_lstD (by unfold SL; rw [List.length_map, List.length_map]; omega)]
    unfold SL; rw [List.map_append]
  generalize SL (ls ++ moreL nm ls) = A at *
  generalize SL (moreL nm ls) = B at *
  generalize SL ls = G at *
  generalize SL nm = M at *
  unfold Lv at *
  simp [mSeq, mIf, mBol, mBin, mBinL, mBind, mLift, mPure, mPeek, mVar, ixD, iI, bolD, mAsg, mCall1, mCallN, intD, modD, iIc, cMod, mStore, mStoreO, mDone, gSet, mOwn, mPut, setD, mRet, mDrop, mStuck, mTru, truD, mOrT, mAndT, mNotT, mAnd, mOr, mNot, mIsi, isiT_eq, typD, lenD, mCons, mTup, mLst, mLstN, mVal, oOr, subD, mulD, mulI, iIc, cMul, ltD, leD, gtD, geD, gTupD, gCons2, gsNil, mCallV, mCallB, mRs, tupleD, mRetF, mChain, mScr, mScrLen, mScrIx, mMut, appD, max2D, min2D, mRng1, mRng2, rngD1, rngD2, rngOk, mItems, itemsD, mAsgN, mParEE, mParEN, mUn, negD, mCallN1, listD, unsE, powD, cPow, divD, cDiv, mFor, mSl, mSlL, slD, mNoPart, mPart, intO, mSlN, mSlNL, slN, mRevN, revO, mParNC, andD, orD, xorD, shrD, shlD, cShr, mStepN, mStepNL, stepO, mCatN, mCatNL, catN, hc, ha]
theorem stC (g : Good ws R ls) (hn : nm.length ≤ 100) : R_law_0 (Lv sc k bs s3 s4 s5 (.val R) s7 (.val (.list (SL ls))) (.val (.list (SL (ls ++ moreL nm ls)))) s10 s11 s12) = some (.ok .nx (Lv sc k bs s3 s4 s5 (.val R) s7 (.val (.list (SL ls))) (.val (.list (SL (ls ++ moreL nm ls)))) (.val (.tuple (SL (ls ++ moreL nm ls).reverse))) s11 s12)) := by
  have e1 : fn_look_protocol [.list (SL ls), R] = some (.ok (.bool true)) := look_all_ok g (ns := ls) (.inl rfl) fun x hx => hx
  have e2 : fn_look_protocol [.tuple (SL (ls ++ moreL nm ls).reverse), R] = some (.ok (.bool true)) := look_all_ok g (ns := (ls ++ moreL nm ls).reverse) (.inr rfl) fun x hx => by
    rw [List.mem_reverse]; exact List.mem_append_left _ hx
  have hrev : (SL (ls ++ moreL nm ls)).reverse = SL (ls ++ moreL nm ls).reverse := by unfold SL; rw [List.map_reverse]
  have hfit : fit (SL (ls ++ moreL nm ls)).length = true := fit_of2 (by
    unfold SL; rw [List.length_map, List.length_append]
    have h0 := g.l3
    have h1 := List.length_filter_le (fun x => !ls.contains x) (nm.take 4)
    have h2 := List.length_take_le 4 nm
    unfold moreL
    omega)
  generalize SL (ls ++ moreL nm ls).reverse = B at *
  generalize SL (ls ++ moreL nm ls) = A at *
  generalize SL ls = G at *
  have f2 : fit 2 = true := rfl
  have hit : mItems (mTup (mCons (mVar 8) (mCons (mCall1 tupleD (mVal (mRevN (mPeek 9)))) (mPure [])))) (Lv sc k bs s3 s4 s5 (.val R) s7 (.val (.list G)) (.val (.list A)) s10 s11 s12) = some (.ok [.list G, .tuple B] (Lv sc k bs s3 s4 s5 (.val R) s7 (.val (.list G)) (.val (.list A)) s10 s11 s12)) := by
    unfold Lv
    rw [← hrev]
    simp [mSeq, mIf, mBol, mBin, mBinL, mBind, mLift, mPure, mPeek, mVar, ixD, iI, bolD, mAsg, mCall1, mCallN, intD, modD, iIc, cMod, mStore, mStoreO, mDone, gSet, mOwn, mPut, setD, mRet, mDrop, mStuck, mTru, truD, mOrT, mAndT, mNotT, mAnd, mOr, mNot, mIsi, isiT_eq, typD, lenD, mCons, mTup, mLst, mLstN, mVal, oOr, addD, subD, mulD, mulI, iIc, cMul, ltD, leD, gtD, geD, gTupD, gCons2, gsNil, mCallV, mCallB, mRs, tupleD, mRetF, mChain, mScr, mScrLen, mScrIx, mMut, appD, max2D, min2D, mRng1, mRng2, rngD1, rngD2, rngOk, mItems, itemsD, mAsgN, mParEE, mParEN, mUn, negD, mCallN1, listD, unsE, powD, cPow, divD, cDiv, mFor, mSl, mSlL, slD, mNoPart, mPart, intO, mSlN, mSlNL, slN, mRevN, revO, mParNC, andD, orD, xorD, shrD, shlD, cShr, mStepN, mStepNL, stepO, mCatN, mCatNL, catN, mItems, itemsD, mRevN, revO, tupleD, f2, hfit]
  have hL : ∀ (N : D) (z10 : Sl), fn_look_protocol [N, R] = some (.ok (.bool true)) → L_law_0 (Lv sc k bs s3 s4 s5 (.val R) s7 (.val (.list G)) (.val (.list A)) (.val N) s11 s12) = some (.ok .nx (Lv sc k bs s3 s4 s5 (.val R) s7 (.val (.list G)) (.val (.list A)) (.val N) s11 s12)) := fun N _ h => by
    unfold L_law_0 Lv
    simp [mSeq, mIf, mBol, mBin, mBinL, mBind, mLift, mPure, mPeek, mVar, ixD, iI, bolD, mAsg, mCall1, mCallN, intD, modD, iIc, cMod, mStore, mStoreO, mDone, gSet, mOwn, mPut, setD, mRet, mDrop, mStuck, mTru, truD, mOrT, mAndT, mNotT, mAnd, mOr, mNot, mIsi, isiT_eq, typD, lenD, mCons, mTup, mLst, mLstN, mVal, oOr, addD, subD, mulD, mulI, iIc, cMul, ltD, leD, gtD, geD, gTupD, gCons2, gsNil, mCallV, mCallB, mRs, tupleD, mRetF, mChain, mScr, mScrLen, mScrIx, mMut, appD, max2D, min2D, mRng1, mRng2, rngD1, rngD2, rngOk, mItems, itemsD, mAsgN, mParEE, mParEN, mUn, negD, mCallN1, listD, unsE, powD, cPow, divD, cDiv, mFor, mSl, mSlL, slD, mNoPart, mPart, intO, mSlN, mSlNL, slN, mRevN, revO, mParNC, andD, orD, xorD, shrD, shlD, cShr, mStepN, mStepNL, stepO, mCatN, mCatNL, catN, isntB, h]
  unfold R_law_0 mFor
  rw [bind_is hit]
  unfold mForL
  rw [bind_is (ρ' := Lv sc k bs s3 s4 s5 (.val R) s7 (.val (.list G)) (.val (.list A)) (.val (.list G)) s11 s12) (a := ()) (by simp [mStore, Lv]), bind_is (hL _ .un e1)]
  unfold mForL
  dsimp only
  rw [bind_is (ρ' := Lv sc k bs s3 s4 s5 (.val R) s7 (.val (.list G)) (.val (.list A)) (.val (.tuple B)) s11 s12) (a := ()) (by simp [mStore, Lv]), bind_is (hL _ .un e2)]
  rfl
theorem stT (g : Good ws R ls) (hb : Bx bs) : ∃ (i : Nat) (bs' : List D), i < ls.length ∧ Bx bs' ∧ (mAsg (mCallB 2 2 fn__law_take (mCons (mCall1 lenD (mPeek 8)) (mPure []))) (mStore 11)) (Lv sc k bs s3 s4 s5 s6 s7 (.val (.list (SL ls))) s9 s10 s11 s12) = some (.ok .nx (Lv sc k bs' s3 s4 s5 s6 s7 (.val (.list (SL ls))) s9 s10 (.val (.int (i : Nat))) s12)) := by
  have hp : 0 < ls.length := List.length_pos_iff.mpr g.l0
  have h3 := g.l3
  obtain ⟨r, b1, ht, r0, r1, hb1⟩ := take_ok (m := (ls.length : Nat)) hb (by omega) (by omega)
  obtain ⟨i, rfl⟩ : ∃ i : Nat, r = i := ⟨r.toNat, by omega⟩
  refine ⟨i, b1, by omega, hb1, ?_⟩
  have hn : (SL ls).length = ls.length := List.length_map ..
  generalize SL ls = G at *
  unfold Lv
  simp [mSeq, mIf, mBol, mBin, mBinL, mBind, mLift, mPure, mPeek, mVar, ixD, iI, bolD, mAsg, mCall1, mCallN, intD, modD, iIc, cMod, mStore, mStoreO, mDone, gSet, mOwn, mPut, setD, mRet, mDrop, mStuck, mTru, truD, mOrT, mAndT, mNotT, mAnd, mOr, mNot, mIsi, isiT_eq, typD, lenD, mCons, mTup, mLst, mLstN, mVal, oOr, addD, subD, mulD, mulI, iIc, cMul, ltD, leD, gtD, geD, gTupD, gCons2, gsNil, mCallV, mCallB, mRs, tupleD, mRetF, mChain, mScr, mScrLen, mScrIx, mMut, appD, max2D, min2D, mRng1, mRng2, rngD1, rngD2, rngOk, mItems, itemsD, mAsgN, mParEE, mParEN, mUn, negD, mCallN1, listD, unsE, powD, cPow, divD, cDiv, mFor, mSl, mSlL, slD, mNoPart, mPart, intO, mSlN, mSlNL, slN, mRevN, revO, mParNC, andD, orD, xorD, shrD, shlD, cShr, mStepN, mStepNL, stepO, mCatN, mCatNL, catN, hn, ht]
theorem stE (g : Good ws R ls) {i : Nat} (hi : i < ls.length) : (mIf (mBol (mBin neD (mCallV 2 fn__law_lacks (mCons (mBin addD (mSlL 8 mNoPart (mPart (mVar 11))) (mSlL 8 (mPart (mBinL addD 11 (mPure (.int 1)))) mNoPart)) (mCons (mVar 6) (mPure [])))) (mPure (.str "line")))) (mRet (mPure (.bool false))) (mPure .nx)) (Lv sc k bs s3 s4 s5 (.val R) s7 (.val (.list (SL ls))) s9 s10 (.val (.int (i : Nat))) s12) = some (.ok .nx (Lv sc k bs s3 s4 s5 (.val R) s7 (.val (.list (SL ls))) s9 s10 (.val (.int (i : Nat))) s12)) := by
  have h3 := g.l3
  have hx := lacks_ok g (N := .list (SL (ls.take i ++ ls.drop (i + 1)))) (ns := ls.take i ++ ls.drop (i + 1)) (.inl rfl) (List.getElem_mem hi) (one_not g.one hi)
  have c1 : cutL (SL ls) none (some (i : Nat)) = SL (ls.take i) := by rw [cut_take]; unfold SL; rw [List.map_take]
  have c2 : cutL (SL ls) (some ((i : Int) + 1)) none = SL (ls.drop (i + 1)) := by
    rw [show (i : Int) + 1 = ((i + 1 : Nat) : Int) from rfl, cut_drop]; unfold SL; rw [List.map_drop]
  have ha : addD (.list (SL (ls.take i))) (.list (SL (ls.drop (i + 1)))) = some (.list (SL (ls.take i ++ ls.drop (i + 1)))) := by
    rw [add_lstD (by unfold SL; rw [List.length_map, List.length_map, List.length_take, List.length_drop]; omega)]
    unfold SL; rw [List.map_append]
  have h1 : addD (.int (i : Nat)) (.int 1) = some (.int ((i : Int) + 1)) := rfl
  have hne : neD (.str "line") (.str "line") = some (.bool false) := neS (strOk_of _) (strOk_of _)
  generalize SL (ls.take i ++ ls.drop (i + 1)) = A at *
  generalize SL (ls.take i) = B at *
  generalize SL (ls.drop (i + 1)) = C at *
  generalize SL ls = G at *
  unfold Lv
  simp [mSeq, mIf, mBol, mBin, mBinL, mBind, mLift, mPure, mPeek, mVar, ixD, iI, bolD, mAsg, mCall1, mCallN, intD, modD, iIc, cMod, mStore, mStoreO, mDone, gSet, mOwn, mPut, setD, mRet, mDrop, mStuck, mTru, truD, mOrT, mAndT, mNotT, mAnd, mOr, mNot, mIsi, isiT_eq, typD, lenD, mCons, mTup, mLst, mLstN, mVal, oOr, subD, mulD, mulI, iIc, cMul, ltD, leD, gtD, geD, gTupD, gCons2, gsNil, mCallV, mCallB, mRs, tupleD, mRetF, mChain, mScr, mScrLen, mScrIx, mMut, appD, max2D, min2D, mRng1, mRng2, rngD1, rngD2, rngOk, mItems, itemsD, mAsgN, mParEE, mParEN, mUn, negD, mCallN1, listD, unsE, powD, cPow, divD, cDiv, mFor, mSl, mSlL, slD, mNoPart, mPart, intO, mSlN, mSlNL, slN, mRevN, revO, mParNC, andD, orD, xorD, shrD, shlD, cShr, mStepN, mStepNL, stepO, mCatN, mCatNL, catN, mSlL, slD, mPart, mNoPart, intO, c1, c2, h1, ha, hx, hne]
theorem stF (g : Good ws R ls) (ht : t = Txt.join " " ws) (hok : PyData.strOk t = true) : (mIf (mBol (mBin neD (mCallV 1 fn_show_protocol (mCons (mVar 6) (mPure []))) (mPeek 5))) (mRet (mPure (.bool false))) (mPure .nx)) (Lv sc k bs s3 s4 (.val (.str t)) (.val R) s7 s8 s9 s10 s11 s12) = some (.ok .nx (Lv sc k bs s3 s4 (.val (.str t)) (.val R) s7 s8 s9 s10 s11 s12)) := by
  have h := g.shw
  rw [← ht] at h
  have hne : neD (.str t) (.str t) = some (.bool false) := by
    have q := neS hok hok
    rw [show (t == t) = true from beq_self_eq_true t] at q
    exact q
  unfold Lv
  simp [mSeq, mIf, mBol, mBin, mBinL, mBind, mLift, mPure, mPeek, mVar, ixD, iI, bolD, mAsg, mCall1, mCallN, intD, modD, iIc, cMod, mStore, mStoreO, mDone, gSet, mOwn, mPut, setD, mRet, mDrop, mStuck, mTru, truD, mOrT, mAndT, mNotT, mAnd, mOr, mNot, mIsi, isiT_eq, typD, lenD, mCons, mTup, mLst, mLstN, mVal, oOr, addD, subD, mulD, mulI, iIc, cMul, ltD, leD, gtD, geD, gTupD, gCons2, gsNil, mCallV, mCallB, mRs, tupleD, mRetF, mChain, mScr, mScrLen, mScrIx, mMut, appD, max2D, min2D, mRng1, mRng2, rngD1, rngD2, rngOk, mItems, itemsD, mAsgN, mParEE, mParEN, mUn, negD, mCallN1, listD, unsE, powD, cPow, divD, cDiv, mFor, mSl, mSlL, slD, mNoPart, mPart, intO, mSlN, mSlNL, slN, mRevN, revO, mParNC, andD, orD, xorD, shrD, shlD, cShr, mStepN, mStepNL, stepO, mCatN, mCatNL, catN, h, hne]
end

/-! ### the law -/
theorem asc_join : ∀ ps : List Str, (∀ p ∈ ps, asc p) → asc (Str.join " " ps)
  | [], _ => fun c hc => by cases hc
  | [p], h => h p List.mem_cons_self
  | p :: q :: r, h => by
    show asc (p ++ ((" " : String) : Str) ++ Str.join " " (q :: r))
    exact asc_app (asc_app (h p List.mem_cons_self) (fun c hc => by
      have hc : c ∈ [32] := hc
      rw [List.mem_singleton.mp hc]; decide)) (asc_join (q :: r) fun x hx => h x (List.mem_cons_of_mem _ hx))
def NmOk (nm : List Str) : Prop := nm ≠ [] ∧ nm.length ≤ 8 ∧ ∀ z ∈ nm, Wb 20 z
section
variable {sc : List Int} {k : Int} {bs : List D} {s3 s4 s5 s6 s7 s8 s9 s10 s11 s12 : Sl} {nm ls ws : List Str} {R : D} {t : Str}
def innL : M Fl :=
  mSeq (mAsg (mCallV 1 fn__law_lines (mCons (mVar 6) (mPure []))) (mStore 8)) (mSeq (mAsg (mBinL addD 8 (mVal C_law_0)) (mStore 9)) (mSeq (R_law_0) (mSeq (mAsg (mCallB 2 2 fn__law_take (mCons (mCall1 lenD (mPeek 8)) (mPure []))) (mStore 11)) (mSeq (mIf (mBol (mBin neD (mCallV 2 fn__law_lacks (mCons (mBin addD (mSlL 8 mNoPart (mPart (mVar 11))) (mSlL 8 (mPart (mBinL addD 11 (mPure (.int 1)))) mNoPart)) (mCons (mVar 6) (mPure [])))) (mPure (.str "line")))) (mRet (mPure (.bool false))) (mPure .nx)) (mIf (mBol (mBin neD (mCallV 1 fn_show_protocol (mCons (mVar 6) (mPure []))) (mPeek 5))) (mRet (mPure (.bool false))) (mPure .nx))))))
theorem law_cut : L_law_1 = mSeq (mAsg (mJoin (mPure (.str " ")) (mCallB 2 2 fn__law_words (mCons (mVar 3) (mPure [])))) (mStore 5)) (mSeq (mAsg (mCallV 1 fn__law_told (mCons (mVar 5) (mPure []))) (gTupD 2 (gCons2 (mStore 6) (gCons2 (mStore 7) gsNil)))) (mSeq (mIf (mBol (mBinL neD 7 (mPure (.int 0)))) (mRet (mPure (.bool false))) (mPure .nx)) (mIf (mBol (mBinL isntD 6 (mPure .none))) innL (mPure .nx)))) := rfl
theorem inn_ok (g : Good ws R ls) (hb : Bx bs) (hn : nm.length ≤ 100) (ht : t = Txt.join " " ws) (hok : PyData.strOk t = true) : ∃ (bs' : List D) (t8 t9 t10 t11 t12 : Sl), Bx bs' ∧
    innL (Lv sc k bs (.val (.list (SL nm))) s4 (.val (.str t)) (.val R) s7 s8 s9 s10 s11 s12) = some (.ok .nx (Lv sc k bs' (.val (.list (SL nm))) s4 (.val (.str t)) (.val R) s7 t8 t9 t10 t11 t12)) := by
  obtain ⟨i, b1, hi, hb1, hT⟩ := stT (sc := sc) (k := k) (s3 := .val (.list (SL nm))) (s4 := s4) (s5 := .val (.str t)) (s6 := .val R) (s7 := s7) (s9 := .val (.list (SL (ls ++ moreL nm ls)))) (s10 := .val (.tuple (SL (ls ++ moreL nm ls).reverse))) (s11 := s11) (s12 := .un) g hb
  exact ⟨b1, _, _, _, _, _, hb1, (seq_nx (stA g)).trans ((seq_nx (stB hn g.l3)).trans ((seq_nx (stC g hn)).trans ((seq_nx hT).trans ((seq_nx (stE g hi)).trans (stF g ht hok)))))⟩
theorem law_turn (hb : Bx bs) (hm : NmOk nm) (h3 : s3 = .val (.list (SL nm)) ∨ s3 = .own (SL nm)) : ∃ (bs' : List D) (t5 t6 t7 t8 t9 t10 t11 t12 : Sl), Bx bs' ∧
    L_law_1 (Lv sc k bs s3 s4 s5 s6 s7 s8 s9 s10 s11 s12) = some (.ok .nx (Lv sc k bs' (.val (.list (SL nm))) s4 t5 t6 t7 t8 t9 t10 t11 t12)) := by
  obtain ⟨hm0, hml, hmw⟩ := hm
  obtain ⟨ws, b1, w0, wl, ww, hb1, hws⟩ := words_ok hb hm0 hml hmw
  have hTw : Tw 20 8 (Txt.join " " ws) ws := ⟨w0, rfl, wl, ww⟩
  have hj : joinS " " (.list (SL ws)) = some (.str (Txt.join " " ws)) := tw_join (B := 20) (N := 8) (fun p hp => (ww p hp).l) (by omega) wl (by omega)
  have hsp := tw_split hTw (by omega) (by omega)
  have htold := told_ok hsp w0 (fun w hw => ⟨(ww w hw).a, by have := (ww w hw).l; omega, (ww w hw).n⟩) (by omega)
  have hok : PyData.strOk (Txt.join " " ws) = true := by
    rw [show Txt.join " " ws = Str.join " " ws from StrLaws.glued_eq_join _ _]
    exact asc_ok (asc_join ws fun p hp => (ww p hp).a)
  have q5 : (mAsg (mJoin (mPure (.str " ")) (mCallB 2 2 fn__law_words (mCons (mVar 3) (mPure [])))) (mStore 5)) (Lv sc k bs s3 s4 s5 s6 s7 s8 s9 s10 s11 s12) = some (.ok .nx (Lv sc k b1 (.val (.list (SL nm))) s4 (.val (.str (Txt.join " " ws))) s6 s7 s8 s9 s10 s11 s12)) := by
    generalize Txt.join " " ws = T at *
    generalize SL ws = W at *
    generalize SL nm = M at *
    unfold Lv
    rcases h3 with rfl | rfl <;> simp [mSeq, mIf, mBol, mBin, mBinL, mBind, mLift, mPure, mPeek, mVar, ixD, iI, bolD, mAsg, mCall1, mCallN, intD, modD, iIc, cMod, mStore, mStoreO, mDone, gSet, mOwn, mPut, setD, mRet, mDrop, mStuck, mTru, truD, mOrT, mAndT, mNotT, mAnd, mOr, mNot, mIsi, isiT_eq, typD, lenD, mCons, mTup, mLst, mLstN, mVal, oOr, addD, subD, mulD, mulI, iIc, cMul, ltD, leD, gtD, geD, gTupD, gCons2, gsNil, mCallV, mCallB, mRs, tupleD, mRetF, mChain, mScr, mScrLen, mScrIx, mMut, appD, max2D, min2D, mRng1, mRng2, rngD1, rngD2, rngOk, mItems, itemsD, mAsgN, mParEE, mParEN, mUn, negD, mCallN1, listD, unsE, powD, cPow, divD, cDiv, mFor, mSl, mSlL, slD, mNoPart, mPart, intO, mSlN, mSlNL, slN, mRevN, revO, mParNC, andD, orD, xorD, shrD, shlD, cShr, mStepN, mStepNL, stepO, mCatN, mCatNL, catN, mJoin, strD, hws, hj]
  have hg := good_of ws
  generalize hR : rdOf ws = R at *
  generalize hT : Txt.join " " ws = T at *
  have q6 : (mAsg (mCallV 1 fn__law_told (mCons (mVar 5) (mPure []))) (gTupD 2 (gCons2 (mStore 6) (gCons2 (mStore 7) gsNil)))) (Lv sc k b1 (.val (.list (SL nm))) s4 (.val (.str T)) s6 s7 s8 s9 s10 s11 s12) = some (.ok .nx (Lv sc k b1 (.val (.list (SL nm))) s4 (.val (.str T)) (.val R) (.val (.int 0)) s8 s9 s10 s11 s12)) := by
    generalize SL nm = M at *
    unfold Lv
    simp [mSeq, mIf, mBol, mBin, mBinL, mBind, mLift, mPure, mPeek, mVar, ixD, iI, bolD, mAsg, mCall1, mCallN, intD, modD, iIc, cMod, mStore, mStoreO, mDone, gSet, mOwn, mPut, setD, mRet, mDrop, mStuck, mTru, truD, mOrT, mAndT, mNotT, mAnd, mOr, mNot, mIsi, isiT_eq, typD, lenD, mCons, mTup, mLst, mLstN, mVal, oOr, addD, subD, mulD, mulI, iIc, cMul, ltD, leD, gtD, geD, gTupD, gCons2, gsNil, mCallV, mCallB, mRs, tupleD, mRetF, mChain, mScr, mScrLen, mScrIx, mMut, appD, max2D, min2D, mRng1, mRng2, rngD1, rngD2, rngOk, mItems, itemsD, mAsgN, mParEE, mParEN, mUn, negD, mCallN1, listD, unsE, powD, cPow, divD, cDiv, mFor, mSl, mSlL, slD, mNoPart, mPart, intO, mSlN, mSlNL, slN, mRevN, revO, mParNC, andD, orD, xorD, shrD, shlD, cShr, mStepN, mStepNL, stepO, mCatN, mCatNL, catN, htold]
  have h70 : neD (.int 0) (.int 0) = some (.bool false) := ne_i 0 0
  have q7 : (mIf (mBol (mBinL neD 7 (mPure (.int 0)))) (mRet (mPure (.bool false))) (mPure .nx)) (Lv sc k b1 (.val (.list (SL nm))) s4 (.val (.str T)) (.val R) (.val (.int 0)) s8 s9 s10 s11 s12) = some (.ok .nx (Lv sc k b1 (.val (.list (SL nm))) s4 (.val (.str T)) (.val R) (.val (.int 0)) s8 s9 s10 s11 s12)) := by
    generalize SL nm = M at *
    unfold Lv
    simp [mSeq, mIf, mBol, mBin, mBinL, mBind, mLift, mPure, mPeek, mVar, ixD, iI, bolD, mAsg, mCall1, mCallN, intD, modD, iIc, cMod, mStore, mStoreO, mDone, gSet, mOwn, mPut, setD, mRet, mDrop, mStuck, mTru, truD, mOrT, mAndT, mNotT, mAnd, mOr, mNot, mIsi, isiT_eq, typD, lenD, mCons, mTup, mLst, mLstN, mVal, oOr, addD, subD, mulD, mulI, iIc, cMul, ltD, leD, gtD, geD, gTupD, gCons2, gsNil, mCallV, mCallB, mRs, tupleD, mRetF, mChain, mScr, mScrLen, mScrIx, mMut, appD, max2D, min2D, mRng1, mRng2, rngD1, rngD2, rngOk, mItems, itemsD, mAsgN, mParEE, mParEN, mUn, negD, mCallN1, listD, unsE, powD, cPow, divD, cDiv, mFor, mSl, mSlL, slD, mNoPart, mPart, intO, mSlN, mSlNL, slN, mRevN, revO, mParNC, andD, orD, xorD, shrD, shlD, cShr, mStepN, mStepNL, stepO, mCatN, mCatNL, catN, h70]
  rw [law_cut]
  rcases hg with e | ⟨ls, g⟩
  · have hc : (mBol (mBinL isntD 6 (mPure .none))) (Lv sc k b1 (.val (.list (SL nm))) s4 (.val (.str T)) (.val R) (.val (.int 0)) s8 s9 s10 s11 s12) = some (.ok false (Lv sc k b1 (.val (.list (SL nm))) s4 (.val (.str T)) (.val R) (.val (.int 0)) s8 s9 s10 s11 s12)) := by
      rw [e]; rfl
    refine ⟨b1, .val (.str T), .val R, .val (.int 0), s8, s9, s10, s11, s12, hb1, (seq_nx q5).trans ((seq_nx q6).trans ((seq_nx q7).trans ?_))⟩
    unfold mIf
    rw [bind_is hc]; rfl
  · have hi := g.isn
    have hc : (mBol (mBinL isntD 6 (mPure .none))) (Lv sc k b1 (.val (.list (SL nm))) s4 (.val (.str T)) (.val R) (.val (.int 0)) s8 s9 s10 s11 s12) = some (.ok true (Lv sc k b1 (.val (.list (SL nm))) s4 (.val (.str T)) (.val R) (.val (.int 0)) s8 s9 s10 s11 s12)) := by
      generalize SL nm = M at *
      unfold Lv
      simp [mSeq, mIf, mBol, mBin, mBinL, mBind, mLift, mPure, mPeek, mVar, ixD, iI, bolD, mAsg, mCall1, mCallN, intD, modD, iIc, cMod, mStore, mStoreO, mDone, gSet, mOwn, mPut, setD, mRet, mDrop, mStuck, mTru, truD, mOrT, mAndT, mNotT, mAnd, mOr, mNot, mIsi, isiT_eq, typD, lenD, mCons, mTup, mLst, mLstN, mVal, oOr, addD, subD, mulD, mulI, iIc, cMul, ltD, leD, gtD, geD, gTupD, gCons2, gsNil, mCallV, mCallB, mRs, tupleD, mRetF, mChain, mScr, mScrLen, mScrIx, mMut, appD, max2D, min2D, mRng1, mRng2, rngD1, rngD2, rngOk, mItems, itemsD, mAsgN, mParEE, mParEN, mUn, negD, mCallN1, listD, unsE, powD, cPow, divD, cDiv, mFor, mSl, mSlL, slD, mNoPart, mPart, intO, mSlN, mSlNL, slN, mRevN, revO, mParNC, andD, orD, xorD, shrD, shlD, cShr, mStepN, mStepNL, stepO, mCatN, mCatNL, catN, hi]
    obtain ⟨b2, t8, t9, t10, t11, t12, hb2, hI⟩ := inn_ok (sc := sc) (k := k) (s4 := s4) (s7 := .val (.int 0)) (s8 := s8) (s9 := s9) (s10 := s10) (s11 := s11) (s12 := s12) (nm := nm) g hb1 (by omega) hT.symm hok
    refine ⟨b2, .val (.str T), .val R, .val (.int 0), t8, t9, t10, t11, t12, hb2, (seq_nx q5).trans ((seq_nx q6).trans ((seq_nx q7).trans ?_))⟩
    unfold mIf
    rw [bind_is hc]
    exact hI
theorem x_wb {n : Nat} (h : n ≤ 6) : Wb 6 (repS "x" n) := by
  have hh : ∀ m : Fin 7, cstB (repS "x" m.val) = true := by decide +kernel
  have hw := wb_cst (hh ⟨n, by omega⟩)
  exact ⟨hw.a, hw.n, by
    rw [repS_len, show ((("x" : String) : Str)).length = 1 from rfl]
    omega⟩
theorem cell_turn (s2 s3 s4 s5 s6 s7 s8 s9 s10 s11 s12 : Sl) (h0 : 0 ≤ k) (h1 : k < 1000) : ∃ t2 t3 t4 t5 t6 t7 t8 t9 t10 t11 t12, L_law_2 [.scr sc, .val (.int k), s2, s3, s4, s5, s6, s7, s8, s9, s10, s11, s12] = some (.ok .nx [.scr sc, .val (.int k), t2, t3, t4, t5, t6, t7, t8, t9, t10, t11, t12]) := by
  obtain ⟨bs, e1, hb⟩ := box_ok sc k h0 h1
  obtain ⟨zs, b1, zl, zok, znd, hb1, hn⟩ := lnames_okF (m := 4) hb (by omega)
  obtain ⟨z0, zr, rfl⟩ : ∃ a l, zs = a :: l := by cases zs with
    | nil => simp at zl
    | cons a l => exact ⟨a, l, rfl⟩
  have hz0 : okN z0 = true := zok z0 List.mem_cons_self
  obtain ⟨za, zl6⟩ := okN_asc hz0
  have z1 : 1 ≤ z0.length := by
    have := hz0
    unfold okN at this
    rw [Bool.and_eq_true, Bool.and_eq_true] at this
    exact of_decide_eq_true this.1.1
  have wz : ∀ z : Str, okN z = true → Wb 20 z := fun z h => ⟨(okN_asc h).1, nm32 h, by have := (okN_asc h).2; omega⟩
  have hx : Wb 20 (z0 ++ repS "x" (7 - z0.length)) := (wb_app (B := 6) (C := 6) ⟨za, nm32 hz0, zl6⟩ (x_wb (by omega))).mono (by omega)
  have hnm : NmOk ((z0 :: zr) ++ [z0 ++ repS "x" (7 - z0.length)]) := ⟨by simp, by rw [List.length_append, zl]; show 4 + 1 ≤ 8; omega, fun z hz => by
    rcases List.mem_append.mp hz with hz | hz
    · exact wz z (zok z hz)
    · rw [List.mem_singleton.mp hz]; exact hx⟩
  have q1 : (mAsgS 2 0 2 fn__law_box (mCons (mVar 1) (mPure []))) [.scr sc, .val (.int k), s2, s3, s4, s5, s6, s7, s8, s9, s10, s11, s12] = some (.ok .nx (Lv sc k bs s3 s4 s5 s6 s7 s8 s9 s10 s11 s12)) := by
    unfold Lv
    simp [mAsgS, mSeq, mIf, mBol, mBin, mBinL, mBind, mLift, mPure, mPeek, mVar, ixD, iI, bolD, mAsg, mCall1, mCallN, intD, modD, iIc, cMod, mStore, mStoreO, mDone, gSet, mOwn, mPut, setD, mRet, mDrop, mStuck, mTru, truD, mOrT, mAndT, mNotT, mAnd, mOr, mNot, mIsi, isiT_eq, typD, lenD, mCons, mTup, mLst, mLstN, mVal, oOr, addD, subD, mulD, mulI, iIc, cMul, ltD, leD, gtD, geD, gTupD, gCons2, gsNil, mCallV, mCallB, mRs, tupleD, mRetF, mChain, mScr, mScrLen, mScrIx, mMut, appD, max2D, min2D, mRng1, mRng2, rngD1, rngD2, rngOk, mItems, itemsD, mAsgN, mParEE, mParEN, mUn, negD, mCallN1, listD, unsE, powD, cPow, divD, cDiv, mFor, mSl, mSlL, slD, mNoPart, mPart, intO, mSlN, mSlNL, slN, mRevN, revO, mParNC, andD, orD, xorD, shrD, shlD, cShr, mStepN, mStepNL, stepO, mCatN, mCatNL, catN, e1]
  have q2 : (mAsgBF 3 2 2 fn__law_names (mCons (mPure (.int 4)) (mPure []))) (Lv sc k bs s3 s4 s5 s6 s7 s8 s9 s10 s11 s12) = some (.ok .nx (Lv sc k b1 (.own (SL (z0 :: zr))) s4 s5 s6 s7 s8 s9 s10 s11 s12)) := by
    have hn : fn__law_names bs [.int 4] = some (.ok (SL (z0 :: zr)), b1) := hn
    generalize SL (z0 :: zr) = Z at *
    unfold Lv
    simp [mAsgBF, mSeq, mIf, mBol, mBin, mBinL, mBind, mLift, mPure, mPeek, mVar, ixD, iI, bolD, mAsg, mCall1, mCallN, intD, modD, iIc, cMod, mStore, mStoreO, mDone, gSet, mOwn, mPut, setD, mRet, mDrop, mStuck, mTru, truD, mOrT, mAndT, mNotT, mAnd, mOr, mNot, mIsi, isiT_eq, typD, lenD, mCons, mTup, mLst, mLstN, mVal, oOr, addD, subD, mulD, mulI, iIc, cMul, ltD, leD, gtD, geD, gTupD, gCons2, gsNil, mCallV, mCallB, mRs, tupleD, mRetF, mChain, mScr, mScrLen, mScrIx, mMut, appD, max2D, min2D, mRng1, mRng2, rngD1, rngD2, rngOk, mItems, itemsD, mAsgN, mParEE, mParEN, mUn, negD, mCallN1, listD, unsE, powD, cPow, divD, cDiv, mFor, mSl, mSlL, slD, mNoPart, mPart, intO, mSlN, mSlNL, slN, mRevN, revO, mParNC, andD, orD, xorD, shrD, shlD, cShr, mStepN, mStepNL, stepO, mCatN, mCatNL, catN, hn]
  have hat : atI (SL (z0 :: zr)) 0 = some (.str z0) := at0c _ _
  have hlen : lenD [.str z0] = some (.int (z0.length : Nat)) := by
    have f : fit z0.length = true := fit_of2 (by omega)
    show (if fit z0.length = true then some (PyData.int (z0.length : Nat)) else none) = _
    rw [if_pos f]
  have fz : fit z0.length = true := fit_of2 (by omega)
  have hrep : repS1D (.str "x") (.int (7 - (z0.length : Int))) = some (.str (repS "x" (7 - z0.length))) := by
    show (if 1 ≤ 7 - (z0.length : Int) ∧ 7 - (z0.length : Int) ≤ 10000 ∧ 1 ≤ ((("x" : String) : Str)).length ∧ ((("x" : String) : Str)).length ≤ 100 then some (PyData.str (repS "x" (7 - (z0.length : Int)).toNat)) else none) = _
    rw [if_pos ⟨by omega, by omega, by decide, by decide⟩, show (7 - (z0.length : Int)).toNat = 7 - z0.length by omega]
  have hadd : addD (.str z0) (.str (repS "x" (7 - z0.length))) = some (.str (z0 ++ repS "x" (7 - z0.length))) := add_str (by
    have := (x_wb (n := 7 - z0.length) (by omega)).l
    omega)
  have q3 : (mDrop (mMut 3 appD (mCons (mBin addD (mBinL ixD 3 (mPure (.int 0))) (mBin repS1D (mPure (.str "x")) (mBin subD (mPure (.int 7)) (mCall1 lenD (mBinL ixD 3 (mPure (.int 0))))))) (mPure [])))) (Lv sc k b1 (.own (SL (z0 :: zr))) s4 s5 s6 s7 s8 s9 s10 s11 s12) = some (.ok .nx (Lv sc k b1 (.own (SL ((z0 :: zr) ++ [z0 ++ repS "x" (7 - z0.length)]))) s4 s5 s6 s7 s8 s9 s10 s11 s12)) := by
    have e : SL ((z0 :: zr) ++ [z0 ++ repS "x" (7 - z0.length)]) = SL (z0 :: zr) ++ [.str (z0 ++ repS "x" (7 - z0.length))] := by unfold SL; rw [List.map_append]; rfl
    have hf : fit (SL (z0 :: zr)).length = true := fit_of2 (by unfold SL; rw [List.length_map, zl]; decide)
    rw [e]
    generalize z0 ++ repS "x" (7 - z0.length) = P at *
    generalize repS "x" (7 - z0.length) = X at *
    generalize SL (z0 :: zr) = Z at *
    unfold Lv
    simp [mSeq, mIf, mBol, mBin, mBinL, mBind, mLift, mPure, mPeek, mVar, ixD, iI, bolD, mAsg, mCall1, mCallN, intD, modD, iIc, cMod, mStore, mStoreO, mDone, gSet, mOwn, mPut, setD, mRet, mDrop, mStuck, mTru, truD, mOrT, mAndT, mNotT, mAnd, mOr, mNot, mIsi, isiT_eq, typD, lenD, mCons, mTup, mLst, mLstN, mVal, oOr, subD, mulD, mulI, iIc, cMul, ltD, leD, gtD, geD, gTupD, gCons2, gsNil, mCallV, mCallB, mRs, tupleD, mRetF, mChain, mScr, mScrLen, mScrIx, mMut, appD, max2D, min2D, mRng1, mRng2, rngD1, rngD2, rngOk, mItems, itemsD, mAsgN, mParEE, mParEN, mUn, negD, mCallN1, listD, unsE, powD, cPow, divD, cDiv, mFor, mSl, mSlL, slD, mNoPart, mPart, intO, mSlN, mSlNL, slN, mRevN, revO, mParNC, andD, orD, xorD, shrD, shlD, cShr, mStepN, mStepNL, stepO, mCatN, mCatNL, catN, hat, fz, hrep, hadd, hf]
  generalize hNm : (z0 :: zr) ++ [z0 ++ repS "x" (7 - z0.length)] = nm at *
  obtain ⟨ρ', hR, b2, u3, u5, u6, u7, u8, u9, u10, u11, u12, u4, hb2, h3, rfl⟩ := for_rng (ms := mCons (mPure (.int 12)) (mPure [])) (g := mStore 4) (body := L_law_1) (fun i ρ => ∃ (bq : List D) (u3 u5 u6 u7 u8 u9 u10 u11 u12 u4 : Sl), Bx bq ∧ (u3 = .val (.list (SL nm)) ∨ u3 = .own (SL nm)) ∧ ρ = Lv sc k bq u3 u4 u5 u6 u7 u8 u9 u10 u11 u12) 12
    (ρ := Lv sc k b1 (.own (SL nm)) s4 s5 s6 s7 s8 s9 s10 s11 s12) (ρ1 := Lv sc k b1 (.own (SL nm)) s4 s5 s6 s7 s8 s9 s10 s11 s12) (by generalize SL nm = M at *; unfold Lv; simp [mSeq, mIf, mBol, mBin, mBinL, mBind, mLift, mPure, mPeek, mVar, ixD, iI, bolD, mAsg, mCall1, mCallN, intD, modD, iIc, cMod, mStore, mStoreO, mDone, gSet, mOwn, mPut, setD, mRet, mDrop, mStuck, mTru, truD, mOrT, mAndT, mNotT, mAnd, mOr, mNot, mIsi, isiT_eq, typD, lenD, mCons, mTup, mLst, mLstN, mVal, oOr, addD, subD, mulD, mulI, iIc, cMul, ltD, leD, gtD, geD, gTupD, gCons2, gsNil, mCallV, mCallB, mRs, tupleD, mRetF, mChain, mScr, mScrLen, mScrIx, mMut, appD, max2D, min2D, mRng1, mRng2, rngD1, rngD2, rngOk, mItems, itemsD, mAsgN, mParEE, mParEN, mUn, negD, mCallN1, listD, unsE, powD, cPow, divD, cDiv, mFor, mSl, mSlL, slD, mNoPart, mPart, intO, mSlN, mSlNL, slN, mRevN, revO, mParNC, andD, orD, xorD, shrD, shlD, cShr, mStepN, mStepNL, stepO, mCatN, mCatNL, catN]) (by omega) ⟨b1, _, _, _, _, _, _, _, _, _, _, hb1, .inr rfl, rfl⟩ (by
    rintro i ρ hi ⟨bq, u3, u5, u6, u7, u8, u9, u10, u11, u12, u4, hbq, h3, rfl⟩
    obtain ⟨b3, t5, t6, t7, t8, t9, t10, t11, t12, hb3, hT⟩ := law_turn (sc := sc) (k := k) (bs := bq) (s3 := u3) (s4 := .val (.int (i : Nat))) (s5 := u5) (s6 := u6) (s7 := u7) (s8 := u8) (s9 := u9) (s10 := u10) (s11 := u11) (s12 := u12) hbq hnm h3
    exact ⟨_, _, by simp [mStore, Lv], hT, b3, .val (.list (SL nm)), t5, t6, t7, t8, t9, t10, t11, t12, .val (.int (i : Nat)), hb3, .inl rfl, rfl⟩)
  exact ⟨.own b2, u3, u4, u5, u6, u7, u8, u9, u10, u11, u12, (seq_nx q1).trans ((seq_nx q2).trans ((seq_nx q3).trans hR))⟩
end
theorem law_true (ns : List Int) (hn : ns.length ≤ 63) : fn_law ns = some (.ok (.bool true)) := by
  obtain ⟨M, h1, h2, hr⟩ := cells_rng (lo := 2) (hi := 6) (by omega) (by omega) (by omega) ns [.un, .un, .un, .un, .un, .un, .un, .un, .un, .un, .un, .un]
  obtain ⟨ρ', h, _⟩ := forL_inv (g := mStore 1) (body := L_law_2) (fun ρ => ∃ z a b c d e f g h i j l, ρ = [.scr ns, z, a, b, c, d, e, f, g, h, i, j, l]) (rngL 0 M) [.scr ns, .un, .un, .un, .un, .un, .un, .un, .un, .un, .un, .un, .un] ⟨_, _, _, _, _, _, _, _, _, _, _, _, rfl⟩ (by
    rintro x ρ hd ⟨z, a, b, c, d, e, f, g, h, i, j, l, rfl⟩
    obtain ⟨t, rfl, t0, t1⟩ := rngL_mem hd
    obtain ⟨a', b', c', d', e', f', g', h', i', j', l', qq⟩ := cell_turn (sc := ns) (k := t) a b c d e f g h i j l t0 (by omega)
    exact ⟨_, _, by simp [mStore], Or.inl qq, _, _, _, _, _, _, _, _, _, _, _, _, rfl⟩)
  have hR : R_law_2 [.scr ns, .un, .un, .un, .un, .un, .un, .un, .un, .un, .un, .un, .un] = some (.ok .nx ρ') := by
    unfold R_law_2 mFor
    rw [bind_is hr]
    exact h
  simp [fn_law, runL, m_law, env0S, mSeq, mIf, mBol, mBin, mBinL, mBind, mLift, mPure, mPeek, mVar, ixD, iI, bolD, mAsg, mCall1, mCallN, intD, modD, iIc, cMod, mStore, mStoreO, mDone, gSet, mOwn, mPut, setD, mRet, mDrop, mStuck, mTru, truD, mOrT, mAndT, mNotT, mAnd, mOr, mNot, mIsi, isiT_eq, typD, lenD, mCons, mTup, mLst, mLstN, mVal, oOr, addD, subD, mulD, mulI, iIc, cMul, ltD, leD, gtD, geD, gTupD, gCons2, gsNil, mCallV, mCallB, mRs, tupleD, mRetF, mChain, mScr, mScrLen, mScrIx, mMut, appD, max2D, min2D, mRng1, mRng2, rngD1, rngD2, rngOk, mItems, itemsD, mAsgN, mParEE, mParEN, mUn, negD, mCallN1, listD, unsE, powD, cPow, divD, cDiv, mFor, mSl, mSlL, slD, mNoPart, mPart, intO, mSlN, mSlNL, slN, mRevN, revO, mParNC, andD, orD, xorD, shrD, shlD, cShr, mStepN, mStepNL, stepO, mCatN, mCatNL, catN, hR]

end Pf
namespace Pf
open PySem PySem.Spec L2 Dd
theorem all_mk {l : PySem.W.OpenLaw} {w : World} {K : PySem.W.Frag} {h : Heap} {mg : Str → Option Value} {fa f1 f2 f3 f4 f5 f6 f7 f8 f9 f10 f11 f12 f13 f14 f15 f16 f17 f18 f19 f20 f21 f22 f23 : Addr} (X : K.In h) (G : h.Ns mainGlobals mg) (hfa : mg "law" = some (.ref fa))
    {od1 an1 od2 an2 od3 an3 od4 an4 od5 an5 od6 an6 od7 an7 od8 an8 od9 an9 od10 an10 od11 an11 od12 an12 od13 an13 od14 an14 od15 an15 od16 an16 od17 an17 od18 an18 od19 an19 od20 an20 od21 an21 od22 an22 od23 an23 : Option Addr} {sl1 sl2 sl3 sl4 sl5 sl6 sl7 sl8 sl9 sl10 sl11 sl12 sl13 sl14 sl15 sl16 sl17 sl18 sl19 sl20 sl21 sl22 sl23 : Array (Option Value)} {oc1 kV1 dc1 pm1 cd1 ct1 oc2 kV2 dc2 pm2 cd2 ct2 oc3 kV3 dc3 pm3 cd3 ct3 oc4 kV4 dc4 pm4 cd4 ct4 oc5 kV5 dc5 pm5 cd5 ct5 oc6 kV6 dc6 pm6 cd6 ct6 oc7 kV7 dc7 pm7 cd7 ct7 oc8 kV8 dc8 pm8 cd8 ct8 oc9 kV9 dc9 pm9 cd9 ct9 oc10 kV10 dc10 pm10 cd10 ct10 oc11 kV11 dc11 pm11 cd11 ct11 oc12 kV12 dc12 pm12 cd12 ct12 oc13 kV13 dc13 pm13 cd13 ct13 oc14 kV14 dc14 pm14 cd14 ct14 oc15 kV15 dc15 pm15 cd15 ct15 oc16 kV16 dc16 pm16 cd16 ct16 oc17 kV17 dc17 pm17 cd17 ct17 oc18 kV18 dc18 pm18 cd18 ct18 oc19 kV19 dc19 pm19 cd19 ct19 oc20 kV20 dc20 pm20 cd20 ct20 oc21 kV21 dc21 pm21 cd21 ct21 oc22 kV22 dc22 pm22 cd22 ct22 oc23 kV23 dc23 pm23 cd23 ct23 : Value}
    {nmx1 qx1 : Str} {Nx1 : Addr} {bsx1 bmx1 : List Value} {snx1 : List Str} {subx1 : List Value} {abx1 : Bool} {colx1 : Option Bool} {ddx1 : Option Addr} {m0x1 m1x1 m2x1 m3x1 m5x1 : Option Value} {Cx1 fix1 : Addr} {xodx1 xanx1 : Option Addr} {xslx1 : Array (Option Value)} {xocx1 xdcx1 xpmx1 xcdx1 xctx1 : Value} {p1x1 p2x1 q1x1 q2x1 q3x1 q4x1 : Pos}
    {nmx2 qx2 : Str} {Nx2 : Addr} {bsx2 bmx2 : List Value} {snx2 : List Str} {subx2 : List Value} {abx2 : Bool} {colx2 : Option Bool} {ddx2 : Option Addr} {m0x2 m1x2 m2x2 m3x2 m5x2 : Option Value} {Cx2 fix2 : Addr} {xodx2 xanx2 : Option Addr} {xslx2 : Array (Option Value)} {xocx2 xdcx2 xpmx2 xcdx2 xctx2 : Value} {p1x2 p2x2 q1x2 q2x2 q3x2 q4x2 : Pos} {tk_GLINES_0 : Tok} {tk_GLINES_1 : Tok} {tk_GLINES_2 : Tok} {a_GLINES : Addr} {od_GLINES : Option Addr} {n_GLINES : Nat} {sl_GLINES : Array (Option Value)} {gd_BOUNDS : Addr} {es_BOUNDS : Array DictEntry} {en_BOUNDS : Nat} {tk_DBOUNDS_0_0 : Tok} {tk_DBOUNDS_0_1 : Tok} {a_DBOUNDS_0 : Addr} {od_DBOUNDS_0 : Option Addr} {n_DBOUNDS_0 : Nat} {sl_DBOUNDS_0 : Array (Option Value)} {tk_DBOUNDS_1_0 : Tok} {tk_DBOUNDS_1_1 : Tok} {a_DBOUNDS_1 : Addr} {od_DBOUNDS_1 : Option Addr} {n_DBOUNDS_1 : Nat} {sl_DBOUNDS_1 : Array (Option Value)} {tk_DBOUNDS_2_0 : Tok} {tk_DBOUNDS_2_1 : Tok} {a_DBOUNDS_2 : Addr} {od_DBOUNDS_2 : Option Addr} {n_DBOUNDS_2 : Nat} {sl_DBOUNDS_2 : Array (Option Value)} {gd_FORMS : Addr} {es_FORMS : Array DictEntry} {en_FORMS : Nat} {tk_DFORMS_0_0 : Tok} {tk_DFORMS_0_1 : Tok} {tk_DFORMS_0_2 : Tok} {tk_DFORMS_0_3 : Tok} {tk_DFORMS_0_4 : Tok} {tk_DFORMS_0_5 : Tok} {a_DFORMS_0 : Addr} {od_DFORMS_0 : Option Addr} {n_DFORMS_0 : Nat} {sl_DFORMS_0 : Array (Option Value)} {tk_DFORMS_1_0 : Tok} {tk_DFORMS_1_1 : Tok} {tk_DFORMS_1_2 : Tok} {tk_DFORMS_1_3 : Tok} {tk_DFORMS_1_4 : Tok} {a_DFORMS_1 : Addr} {od_DFORMS_1 : Option Addr} {n_DFORMS_1 : Nat} {sl_DFORMS_1 : Array (Option Value)} {tk_DFORMS_2_0 : Tok} {tk_DFORMS_2_1 : Tok} {a_DFORMS_2 : Addr} {od_DFORMS_2 : Option Addr} {n_DFORMS_2 : Nat} {sl_DFORMS_2 : Array (Option Value)} {gd_WORDS : Addr} {es_WORDS : Array DictEntry} {en_WORDS : Nat} {tk_DWORDS_0_0 : Tok} {tk_DWORDS_0_1 : Tok} {a_DWORDS_0 : Addr} {od_DWORDS_0 : Option Addr} {n_DWORDS_0 : Nat} {sl_DWORDS_0 : Array (Option Value)} {tk_DWORDS_1_0 : Tok} {tk_DWORDS_1_1 : Tok} {a_DWORDS_1 : Addr} {od_DWORDS_1 : Option Addr} {n_DWORDS_1 : Nat} {sl_DWORDS_1 : Array (Option Value)} {tk_DWORDS_2_0 : Tok} {tk_DWORDS_2_1 : Tok} {tk_DWORDS_2_2 : Tok} {a_DWORDS_2 : Addr} {od_DWORDS_2 : Option Addr} {n_DWORDS_2 : Nat} {sl_DWORDS_2 : Array (Option Value)}
    (a1 : PySem.W.nsIn K mainGlobals "is_whole" = some (some (.ref f1))) (l1 : K.lookup f1 = some ⟨oc1, od1, .func (PySem.W.fnOf "is_whole" "is_whole" (defArgs s_is_whole) (defBody s_is_whole) (defScope s_is_whole) .none kV1 dc1 pm1 an1 cd1 ct1), sl1⟩) (c1 : PySem.W.codeIn K cd1 "is_whole" = true) (k1 : PySem.W.keepIn K (.ref f1) = true)
    (a2 : PySem.W.nsIn K mainGlobals "is_name" = some (some (.ref f2))) (l2 : K.lookup f2 = some ⟨oc2, od2, .func (PySem.W.fnOf "is_name" "is_name" (defArgs s_is_name) (defBody s_is_name) (defScope s_is_name) .none kV2 dc2 pm2 an2 cd2 ct2), sl2⟩) (c2 : PySem.W.codeIn K cd2 "is_name" = true) (k2 : PySem.W.keepIn K (.ref f2) = true)
    (a3 : PySem.W.nsIn K mainGlobals "word_of" = some (some (.ref f3))) (l3 : K.lookup f3 = some ⟨oc3, od3, .func (PySem.W.fnOf "word_of" "word_of" (defArgs s_word_of) (defBody s_word_of) (defScope s_word_of) .none kV3 dc3 pm3 an3 cd3 ct3), sl3⟩) (c3 : PySem.W.codeIn K cd3 "word_of" = true) (k3 : PySem.W.keepIn K (.ref f3) = true)
    (a4 : PySem.W.nsIn K mainGlobals "figures" = some (some (.ref f4))) (l4 : K.lookup f4 = some ⟨oc4, od4, .func (PySem.W.fnOf "figures" "figures" (defArgs s_figures) (defBody s_figures) (defScope s_figures) .none kV4 dc4 pm4 an4 cd4 ct4), sl4⟩) (c4 : PySem.W.codeIn K cd4 "figures" = true) (k4 : PySem.W.keepIn K (.ref f4) = true)
    (a5 : PySem.W.nsIn K mainGlobals "lines_of" = some (some (.ref f5))) (l5 : K.lookup f5 = some ⟨oc5, od5, .func (PySem.W.fnOf "lines_of" "lines_of" (defArgs s_lines_of) (defBody s_lines_of) (defScope s_lines_of) .none kV5 dc5 pm5 an5 cd5 ct5), sl5⟩) (c5 : PySem.W.codeIn K cd5 "lines_of" = true) (k5 : PySem.W.keepIn K (.ref f5) = true)
    (a6 : PySem.W.nsIn K mainGlobals "_has_sort" = some (some (.ref f6))) (l6 : K.lookup f6 = some ⟨oc6, od6, .func (PySem.W.fnOf "_has_sort" "_has_sort" (defArgs s__has_sort) (defBody s__has_sort) (defScope s__has_sort) .none kV6 dc6 pm6 an6 cd6 ct6), sl6⟩) (c6 : PySem.W.codeIn K cd6 "_has_sort" = true) (k6 : PySem.W.keepIn K (.ref f6) = true)
    (a7 : PySem.W.nsIn K mainGlobals "_has_form" = some (some (.ref f7))) (l7 : K.lookup f7 = some ⟨oc7, od7, .func (PySem.W.fnOf "_has_form" "_has_form" (defArgs s__has_form) (defBody s__has_form) (defScope s__has_form) .none kV7 dc7 pm7 an7 cd7 ct7), sl7⟩) (c7 : PySem.W.codeIn K cd7 "_has_form" = true) (k7 : PySem.W.keepIn K (.ref f7) = true)
    (a8 : PySem.W.nsIn K mainGlobals "_is_told" = some (some (.ref f8))) (l8 : K.lookup f8 = some ⟨oc8, od8, .func (PySem.W.fnOf "_is_told" "_is_told" (defArgs s__is_told) (defBody s__is_told) (defScope s__is_told) .none kV8 dc8 pm8 an8 cd8 ct8), sl8⟩) (c8 : PySem.W.codeIn K cd8 "_is_told" = true) (k8 : PySem.W.keepIn K (.ref f8) = true)
    (a9 : PySem.W.nsIn K mainGlobals "_fault_of" = some (some (.ref f9))) (l9 : K.lookup f9 = some ⟨oc9, od9, .func (PySem.W.fnOf "_fault_of" "_fault_of" (defArgs s__fault_of) (defBody s__fault_of) (defScope s__fault_of) .none kV9 dc9 pm9 an9 cd9 ct9), sl9⟩) (c9 : PySem.W.codeIn K cd9 "_fault_of" = true) (k9 : PySem.W.keepIn K (.ref f9) = true)
    (a10 : PySem.W.nsIn K mainGlobals "look_protocol" = some (some (.ref f10))) (l10 : K.lookup f10 = some ⟨oc10, od10, .func (PySem.W.fnOf "look_protocol" "look_protocol" (defArgs s_look_protocol) (defBody s_look_protocol) (defScope s_look_protocol) .none kV10 dc10 pm10 an10 cd10 ct10), sl10⟩) (c10 : PySem.W.codeIn K cd10 "look_protocol" = true) (k10 : PySem.W.keepIn K (.ref f10) = true)
    (a11 : PySem.W.nsIn K mainGlobals "show_protocol" = some (some (.ref f11))) (l11 : K.lookup f11 = some ⟨oc11, od11, .func (PySem.W.fnOf "show_protocol" "show_protocol" (defArgs s_show_protocol) (defBody s_show_protocol) (defScope s_show_protocol) .none kV11 dc11 pm11 an11 cd11 ct11), sl11⟩) (c11 : PySem.W.codeIn K cd11 "show_protocol" = true) (k11 : PySem.W.keepIn K (.ref f11) = true)
    (a12 : PySem.W.nsIn K mainGlobals "many_words" = some (some (.ref f12))) (l12 : K.lookup f12 = some ⟨oc12, od12, .func (PySem.W.fnOf "many_words" "many_words" (defArgs s_many_words) (defBody s_many_words) (defScope s_many_words) .none kV12 dc12 pm12 an12 cd12 ct12), sl12⟩) (c12 : PySem.W.codeIn K cd12 "many_words" = true) (k12 : PySem.W.keepIn K (.ref f12) = true)
    (a13 : PySem.W.nsIn K mainGlobals "_part_of" = some (some (.ref f13))) (l13 : K.lookup f13 = some ⟨oc13, od13, .func (PySem.W.fnOf "_part_of" "_part_of" (defArgs s__part_of) (defBody s__part_of) (defScope s__part_of) .none kV13 dc13 pm13 an13 cd13 ct13), sl13⟩) (c13 : PySem.W.codeIn K cd13 "_part_of" = true) (k13 : PySem.W.keepIn K (.ref f13) = true)
    (a14 : PySem.W.nsIn K mainGlobals "protocol_of" = some (some (.ref f14))) (l14 : K.lookup f14 = some ⟨oc14, od14, .func (PySem.W.fnOf "protocol_of" "protocol_of" (defArgs s_protocol_of) (defBody s_protocol_of) (defScope s_protocol_of) .none kV14 dc14 pm14 an14 cd14 ct14), sl14⟩) (c14 : PySem.W.codeIn K cd14 "protocol_of" = true) (k14 : PySem.W.keepIn K (.ref f14) = true)
    (a15 : PySem.W.nsIn K mainGlobals "read_protocol" = some (some (.ref f15))) (l15 : K.lookup f15 = some ⟨oc15, od15, .func (PySem.W.fnOf "read_protocol" "read_protocol" (defArgs s_read_protocol) (defBody s_read_protocol) (defScope s_read_protocol) .none kV15 dc15 pm15 an15 cd15 ct15), sl15⟩) (c15 : PySem.W.codeIn K cd15 "read_protocol" = true) (k15 : PySem.W.keepIn K (.ref f15) = true)
    (a16 : PySem.W.nsIn K mainGlobals "_law_box" = some (some (.ref f16))) (l16 : K.lookup f16 = some ⟨oc16, od16, .func (PySem.W.fnOf "_law_box" "_law_box" (defArgs s__law_box) (defBody s__law_box) (defScope s__law_box) .none kV16 dc16 pm16 an16 cd16 ct16), sl16⟩) (c16 : PySem.W.codeIn K cd16 "_law_box" = true) (k16 : PySem.W.keepIn K (.ref f16) = true)
    (a17 : PySem.W.nsIn K mainGlobals "_law_take" = some (some (.ref f17))) (l17 : K.lookup f17 = some ⟨oc17, od17, .func (PySem.W.fnOf "_law_take" "_law_take" (defArgs s__law_take) (defBody s__law_take) (defScope s__law_take) .none kV17 dc17 pm17 an17 cd17 ct17), sl17⟩) (c17 : PySem.W.codeIn K cd17 "_law_take" = true) (k17 : PySem.W.keepIn K (.ref f17) = true)
    (a18 : PySem.W.nsIn K mainGlobals "_law_names" = some (some (.ref f18))) (l18 : K.lookup f18 = some ⟨oc18, od18, .func (PySem.W.fnOf "_law_names" "_law_names" (defArgs s__law_names) (defBody s__law_names) (defScope s__law_names) .none kV18 dc18 pm18 an18 cd18 ct18), sl18⟩) (c18 : PySem.W.codeIn K cd18 "_law_names" = true) (k18 : PySem.W.keepIn K (.ref f18) = true)
    (a19 : PySem.W.nsIn K mainGlobals "_law_words" = some (some (.ref f19))) (l19 : K.lookup f19 = some ⟨oc19, od19, .func (PySem.W.fnOf "_law_words" "_law_words" (defArgs s__law_words) (defBody s__law_words) (defScope s__law_words) .none kV19 dc19 pm19 an19 cd19 ct19), sl19⟩) (c19 : PySem.W.codeIn K cd19 "_law_words" = true) (k19 : PySem.W.keepIn K (.ref f19) = true)
    (a20 : PySem.W.nsIn K mainGlobals "_law_told" = some (some (.ref f20))) (l20 : K.lookup f20 = some ⟨oc20, od20, .func (PySem.W.fnOf "_law_told" "_law_told" (defArgs s__law_told) (defBody s__law_told) (defScope s__law_told) .none kV20 dc20 pm20 an20 cd20 ct20), sl20⟩) (c20 : PySem.W.codeIn K cd20 "_law_told" = true) (k20 : PySem.W.keepIn K (.ref f20) = true)
    (a21 : PySem.W.nsIn K mainGlobals "_law_lacks" = some (some (.ref f21))) (l21 : K.lookup f21 = some ⟨oc21, od21, .func (PySem.W.fnOf "_law_lacks" "_law_lacks" (defArgs s__law_lacks) (defBody s__law_lacks) (defScope s__law_lacks) .none kV21 dc21 pm21 an21 cd21 ct21), sl21⟩) (c21 : PySem.W.codeIn K cd21 "_law_lacks" = true) (k21 : PySem.W.keepIn K (.ref f21) = true)
    (a22 : PySem.W.nsIn K mainGlobals "_law_lines" = some (some (.ref f22))) (l22 : K.lookup f22 = some ⟨oc22, od22, .func (PySem.W.fnOf "_law_lines" "_law_lines" (defArgs s__law_lines) (defBody s__law_lines) (defScope s__law_lines) .none kV22 dc22 pm22 an22 cd22 ct22), sl22⟩) (c22 : PySem.W.codeIn K cd22 "_law_lines" = true) (k22 : PySem.W.keepIn K (.ref f22) = true)
    (a23 : PySem.W.nsIn K mainGlobals "law" = some (some (.ref f23))) (l23 : K.lookup f23 = some ⟨oc23, od23, .func (PySem.W.fnOf "law" "law" (defArgs s_law) (defBody s_law) (defScope s_law) .none kV23 dc23 pm23 an23 cd23 ct23), sl23⟩) (c23 : PySem.W.codeIn K cd23 "law" = true) (k23 : PySem.W.keepIn K (.ref f23) = true)
    (z1 : PySem.W.nsIn K mainGlobals "all" = some none)
    (z2 : PySem.W.nsIn K mainGlobals "bool" = some none)
    (z3 : PySem.W.nsIn K mainGlobals "int" = some none)
    (z4 : PySem.W.nsIn K mainGlobals "isinstance" = some none)
    (z5 : PySem.W.nsIn K mainGlobals "len" = some none)
    (z6 : PySem.W.nsIn K mainGlobals "max" = some none)
    (z7 : PySem.W.nsIn K mainGlobals "min" = some none)
    (z8 : PySem.W.nsIn K mainGlobals "range" = some none)
    (z9 : PySem.W.nsIn K mainGlobals "set" = some none)
    (z10 : PySem.W.nsIn K mainGlobals "str" = some none)
    (z11 : PySem.W.nsIn K mainGlobals "tuple" = some none)
    (z12 : PySem.W.nsIn K mainGlobals "zip" = some none)
    (xax1 : PySem.W.nsIn K mainGlobals "NoProtocol" = some (some (.ref Cx1)))
    (xlx1 : K.lookup Cx1 = some (excClassObj nmx1 qx1 Cx1 Nx1 bsx1 bmx1 true snx1 subx1 abx1 colx1 ddx1 m0x1 m1x1 m2x1 m3x1 m5x1 "ValueError.__new__"))
    (xtx1 : PySem.W.excTail [.type "ValueError", .type "Exception", .type "BaseException", .type "object"] bmx1 = true)
    (sax1 : PySem.W.findIn K (.ref Cx1) "__setattr__" = some (some (.builtin "object.__setattr__")))
    (gax1 : PySem.W.findIn K (.ref Cx1) "__getattribute__" = some (some (.builtin "BaseException.__getattribute__")))
    (ggx1 : PySem.W.findIn K (.ref Cx1) "__getattr__" = some none)
    (nbx1 : PySem.W.findIn K (.ref Cx1) "word" = some none)
    (iix1 : PySem.W.findIn K (.ref Cx1) "__init__" = some (some (.ref fix1)))
    (tix1 : PySem.W.typeIn K (.ref fix1) = some (.type "function"))
    (lix1 : K.lookup fix1 = some ⟨xocx1, xodx1, .func (PySem.W.fnOf "__init__" "NoProtocol.__init__" (PySem.NoProtocolX.iA p1x1 p2x1) (PySem.NoProtocolX.iB q1x1 q2x1 q3x1 q4x1) PySem.NoProtocolX.iS .none .none xdcx1 xpmx1 xanx1 xcdx1 xctx1), xslx1⟩)
    (cix1 : PySem.W.codeIn K xcdx1 "NoProtocol.__init__" = true)
    (kcx1 : PySem.W.keepIn K (.ref Cx1) = true)
    (ecx1 : PySem.W.subIn K (.ref Cx1) (.type "BaseException") = some true)
    (tcx1 : PySem.W.typeIn K (.ref Cx1) = some (.type "type"))
    (hdx1 : PySem.W.hasDictIn K Cx1 = true)
    (icx1 : PySem.W.isClsIn K Cx1 = true)
    (scx1 : PySem.W.subIn K (.ref Cx1) (.ref Cx1) = some true)
    (ovx1 : PySem.W.excOver K Cx1 [.type "ValueError", .type "Exception", .type "BaseException", .type "object"] = true)
    (tkx1 : PySem.W.takerIn K Cx1 "word" = some none)
    (clx1 : PySem.W.findIn K (.ref Cx1) "__class__" = some (some (.builtin "object.__class__")))
    (spx1 : PySem.W.specialIn K (.builtin "object.__class__") "__get__" = some (some (.builtin "getset_descriptor.__get__")))
    (tax1 : PySem.W.takesIn K (.builtin "object.__class__") = some true)
    (mox1 : PySem.W.mroIn K Cx1 (.type "object") = some true)
    (xax2 : PySem.W.nsIn K mainGlobals "NoText" = some (some (.ref Cx2)))
    (xlx2 : K.lookup Cx2 = some (excClassObj nmx2 qx2 Cx2 Nx2 bsx2 bmx2 true snx2 subx2 abx2 colx2 ddx2 m0x2 m1x2 m2x2 m3x2 m5x2 "ValueError.__new__"))
    (xtx2 : PySem.W.excTail [.type "ValueError", .type "Exception", .type "BaseException", .type "object"] bmx2 = true)
    (sax2 : PySem.W.findIn K (.ref Cx2) "__setattr__" = some (some (.builtin "object.__setattr__")))
    (gax2 : PySem.W.findIn K (.ref Cx2) "__getattribute__" = some (some (.builtin "BaseException.__getattribute__")))
    (ggx2 : PySem.W.findIn K (.ref Cx2) "__getattr__" = some none)
    (nbx2 : PySem.W.findIn K (.ref Cx2) "at" = some none)
    (iix2 : PySem.W.findIn K (.ref Cx2) "__init__" = some (some (.ref fix2)))
    (tix2 : PySem.W.typeIn K (.ref fix2) = some (.type "function"))
    (lix2 : K.lookup fix2 = some ⟨xocx2, xodx2, .func (PySem.W.fnOf "__init__" "NoText.__init__" (PySem.NoTextX.iA p1x2 p2x2) (PySem.NoTextX.iB q1x2 q2x2 q3x2 q4x2) PySem.NoTextX.iS .none .none xdcx2 xpmx2 xanx2 xcdx2 xctx2), xslx2⟩)
    (cix2 : PySem.W.codeIn K xcdx2 "NoText.__init__" = true)
    (kcx2 : PySem.W.keepIn K (.ref Cx2) = true)
    (ecx2 : PySem.W.subIn K (.ref Cx2) (.type "BaseException") = some true)
    (tcx2 : PySem.W.typeIn K (.ref Cx2) = some (.type "type"))
    (hdx2 : PySem.W.hasDictIn K Cx2 = true)
    (icx2 : PySem.W.isClsIn K Cx2 = true)
    (scx2 : PySem.W.subIn K (.ref Cx2) (.ref Cx2) = some true)
    (ovx2 : PySem.W.excOver K Cx2 [.type "ValueError", .type "Exception", .type "BaseException", .type "object"] = true)
    (tkx2 : PySem.W.takerIn K Cx2 "at" = some none)
    (clx2 : PySem.W.findIn K (.ref Cx2) "__class__" = some (some (.builtin "object.__class__")))
    (spx2 : PySem.W.specialIn K (.builtin "object.__class__") "__get__" = some (some (.builtin "getset_descriptor.__get__")))
    (tax2 : PySem.W.takesIn K (.builtin "object.__class__") = some true)
    (mox2 : PySem.W.mroIn K Cx2 (.type "object") = some true)
    (ng_LINES : PySem.W.nsIn K mainGlobals "LINES" = some (some (.ref a_GLINES)))
    (lk_GLINES : K.lookup a_GLINES = some ⟨.type "tuple", od_GLINES, .seq #[.str "clock" tk_GLINES_0, .str "data" tk_GLINES_1, .str "gate" tk_GLINES_2] n_GLINES, sl_GLINES⟩)
    (ng_BOUNDS : PySem.W.nsIn K mainGlobals "BOUNDS" = some (some (.ref gd_BOUNDS))) (dl_BOUNDS : K.lookup gd_BOUNDS = some ⟨.type "dict", none, .dict es_BOUNDS en_BOUNDS, #[]⟩) (dk_BOUNDS : PySem.W.KeysLit w.params es_BOUNDS.toList) (dn_BOUNDS : es_BOUNDS.toList.map (fun e => keyTx e.key) = tb_BOUNDS.map (fun q => some q.1)) (dz_BOUNDS : (gd_BOUNDS == sysModules) = false)
    (de_BOUNDS_0 : PySem.W.nsIn K gd_BOUNDS "long" = some (some (.ref a_DBOUNDS_0)))
    (lk_DBOUNDS_0 : K.lookup a_DBOUNDS_0 = some ⟨.type "tuple", od_DBOUNDS_0, .seq #[.int 2 tk_DBOUNDS_0_0, .int 1000000 tk_DBOUNDS_0_1] n_DBOUNDS_0, sl_DBOUNDS_0⟩)
    (de_BOUNDS_1 : PySem.W.nsIn K gd_BOUNDS "bits" = some (some (.ref a_DBOUNDS_1)))
    (lk_DBOUNDS_1 : K.lookup a_DBOUNDS_1 = some ⟨.type "tuple", od_DBOUNDS_1, .seq #[.int 1 tk_DBOUNDS_1_0, .int 16 tk_DBOUNDS_1_1] n_DBOUNDS_1, sl_DBOUNDS_1⟩)
    (de_BOUNDS_2 : PySem.W.nsIn K gd_BOUNDS "stops" = some (some (.ref a_DBOUNDS_2)))
    (lk_DBOUNDS_2 : K.lookup a_DBOUNDS_2 = some ⟨.type "tuple", od_DBOUNDS_2, .seq #[.int 1 tk_DBOUNDS_2_0, .int 2 tk_DBOUNDS_2_1] n_DBOUNDS_2, sl_DBOUNDS_2⟩)
    (ng_FORMS : PySem.W.nsIn K mainGlobals "FORMS" = some (some (.ref gd_FORMS))) (dl_FORMS : K.lookup gd_FORMS = some ⟨.type "dict", none, .dict es_FORMS en_FORMS, #[]⟩) (dk_FORMS : PySem.W.KeysLit w.params es_FORMS.toList) (dn_FORMS : es_FORMS.toList.map (fun e => keyTx e.key) = tb_FORMS.map (fun q => some q.1)) (dz_FORMS : (gd_FORMS == sysModules) = false)
    (de_FORMS_0 : PySem.W.nsIn K gd_FORMS "clocked" = some (some (.ref a_DFORMS_0)))
    (lk_DFORMS_0 : K.lookup a_DFORMS_0 = some ⟨.type "tuple", od_DFORMS_0, .seq #[.str "clock" tk_DFORMS_0_0, .str "edge" tk_DFORMS_0_1, .str "data" tk_DFORMS_0_2, .str "gate" tk_DFORMS_0_3, .str "bits" tk_DFORMS_0_4, .str "first" tk_DFORMS_0_5] n_DFORMS_0, sl_DFORMS_0⟩)
    (de_FORMS_1 : PySem.W.nsIn K gd_FORMS "framed" = some (some (.ref a_DFORMS_1)))
    (lk_DFORMS_1 : K.lookup a_DFORMS_1 = some ⟨.type "tuple", od_DFORMS_1, .seq #[.str "data" tk_DFORMS_1_0, .str "long" tk_DFORMS_1_1, .str "bits" tk_DFORMS_1_2, .str "check" tk_DFORMS_1_3, .str "stops" tk_DFORMS_1_4] n_DFORMS_1, sl_DFORMS_1⟩)
    (de_FORMS_2 : PySem.W.nsIn K gd_FORMS "twowire" = some (some (.ref a_DFORMS_2)))
    (lk_DFORMS_2 : K.lookup a_DFORMS_2 = some ⟨.type "tuple", od_DFORMS_2, .seq #[.str "clock" tk_DFORMS_2_0, .str "data" tk_DFORMS_2_1] n_DFORMS_2, sl_DFORMS_2⟩)
    (ng_WORDS : PySem.W.nsIn K mainGlobals "WORDS" = some (some (.ref gd_WORDS))) (dl_WORDS : K.lookup gd_WORDS = some ⟨.type "dict", none, .dict es_WORDS en_WORDS, #[]⟩) (dk_WORDS : PySem.W.KeysLit w.params es_WORDS.toList) (dn_WORDS : es_WORDS.toList.map (fun e => keyTx e.key) = tb_WORDS.map (fun q => some q.1)) (dz_WORDS : (gd_WORDS == sysModules) = false)
    (de_WORDS_0 : PySem.W.nsIn K gd_WORDS "edge" = some (some (.ref a_DWORDS_0)))
    (lk_DWORDS_0 : K.lookup a_DWORDS_0 = some ⟨.type "tuple", od_DWORDS_0, .seq #[.str "rise" tk_DWORDS_0_0, .str "fall" tk_DWORDS_0_1] n_DWORDS_0, sl_DWORDS_0⟩)
    (de_WORDS_1 : PySem.W.nsIn K gd_WORDS "first" = some (some (.ref a_DWORDS_1)))
    (lk_DWORDS_1 : K.lookup a_DWORDS_1 = some ⟨.type "tuple", od_DWORDS_1, .seq #[.str "high" tk_DWORDS_1_0, .str "low" tk_DWORDS_1_1] n_DWORDS_1, sl_DWORDS_1⟩)
    (de_WORDS_2 : PySem.W.nsIn K gd_WORDS "check" = some (some (.ref a_DWORDS_2)))
    (lk_DWORDS_2 : K.lookup a_DWORDS_2 = some ⟨.type "tuple", od_DWORDS_2, .seq #[.str "none" tk_DWORDS_2_0, .str "even" tk_DWORDS_2_1, .str "odd" tk_DWORDS_2_2] n_DWORDS_2, sl_DWORDS_2⟩) :
    ∃ fd : FuncData, (∀ (s : Shared) (v : Value), BindsTo s fd ⟨[v], []⟩ [("_law_script", v)]) ∧ ∀ base : Heap, K.In base → base.Ns mainGlobals mg → LawFn l.prog w K mg base fa fd "_law_script" 8 fn_law := by
  have e := hfa.symm.trans (PySem.W.mg_of X G a23)
  cases e
  have F1 := fun_mk (st := s_is_whole) l1 c1 k1
  have b1 := F1.binds (ps := ["thing"]) fun _ _ _ _ _ _ us hl => match us, hl with | [_], _ => rfl
  have F2 := fun_mk (st := s_is_name) l2 c2 k2
  have b2 := F2.binds (ps := ["thing"]) fun _ _ _ _ _ _ us hl => match us, hl with | [_], _ => rfl
  have F3 := fun_mk (st := s_word_of) l3 c3 k3
  have b3 := F3.binds (ps := ["thing"]) fun _ _ _ _ _ _ us hl => match us, hl with | [_], _ => rfl
  have F4 := fun_mk (st := s_figures) l4 c4 k4
  have b4 := F4.binds (ps := ["word"]) fun _ _ _ _ _ _ us hl => match us, hl with | [_], _ => rfl
  have F5 := fun_mk (st := s_lines_of) l5 c5 k5
  have b5 := F5.binds (ps := ["protocol"]) fun _ _ _ _ _ _ us hl => match us, hl with | [_], _ => rfl
  have F6 := fun_mk (st := s__has_sort) l6 c6 k6
  have b6 := F6.binds (ps := ["field", "thing"]) fun _ _ _ _ _ _ us hl => match us, hl with | [_, _], _ => rfl
  have F7 := fun_mk (st := s__has_form) l7 c7 k7
  have b7 := F7.binds (ps := ["thing"]) fun _ _ _ _ _ _ us hl => match us, hl with | [_], _ => rfl
  have F8 := fun_mk (st := s__is_told) l8 c8 k8
  have b8 := F8.binds (ps := ["field", "thing"]) fun _ _ _ _ _ _ us hl => match us, hl with | [_, _], _ => rfl
  have F9 := fun_mk (st := s__fault_of) l9 c9 k9
  have b9 := F9.binds (ps := ["names", "protocol"]) fun _ _ _ _ _ _ us hl => match us, hl with | [_, _], _ => rfl
  have F10 := fun_mk (st := s_look_protocol) l10 c10 k10
  have b10 := F10.binds (ps := ["names", "protocol"]) fun _ _ _ _ _ _ us hl => match us, hl with | [_, _], _ => rfl
  have F11 := fun_mk (st := s_show_protocol) l11 c11 k11
  have b11 := F11.binds (ps := ["protocol"]) fun _ _ _ _ _ _ us hl => match us, hl with | [_], _ => rfl
  have F12 := fun_mk (st := s_many_words) l12 c12 k12
  have b12 := F12.binds (ps := ["word"]) fun _ _ _ _ _ _ us hl => match us, hl with | [_], _ => rfl
  have F13 := fun_mk (st := s__part_of) l13 c13 k13
  have b13 := F13.binds (ps := ["field", "word"]) fun _ _ _ _ _ _ us hl => match us, hl with | [_, _], _ => rfl
  have F14 := fun_mk (st := s_protocol_of) l14 c14 k14
  have b14 := F14.binds (ps := ["words"]) fun _ _ _ _ _ _ us hl => match us, hl with | [_], _ => rfl
  have F15 := fun_mk (st := s_read_protocol) l15 c15 k15
  have b15 := F15.binds (ps := ["text"]) fun _ _ _ _ _ _ us hl => match us, hl with | [_], _ => rfl
  have F16 := fun_mk (st := s__law_box) l16 c16 k16
  have b16 := F16.binds (ps := ["_law_script", "_law_k"]) fun _ _ _ _ _ _ us hl => match us, hl with | [_, _], _ => rfl
  have F17 := fun_mk (st := s__law_take) l17 c17 k17
  have b17 := F17.binds (ps := ["_law_box_here", "_law_many"]) fun _ _ _ _ _ _ us hl => match us, hl with | [_, _], _ => rfl
  have F18 := fun_mk (st := s__law_names) l18 c18 k18
  have b18 := F18.binds (ps := ["_law_box_here", "_law_many"]) fun _ _ _ _ _ _ us hl => match us, hl with | [_, _], _ => rfl
  have F19 := fun_mk (st := s__law_words) l19 c19 k19
  have b19 := F19.binds (ps := ["_law_box_here", "_law_names_here"]) fun _ _ _ _ _ _ us hl => match us, hl with | [_, _], _ => rfl
  have F20 := fun_mk (st := s__law_told) l20 c20 k20
  have b20 := F20.binds (ps := ["_law_text"]) fun _ _ _ _ _ _ us hl => match us, hl with | [_], _ => rfl
  have F21 := fun_mk (st := s__law_lacks) l21 c21 k21
  have b21 := F21.binds (ps := ["_law_names_here", "_law_protocol"]) fun _ _ _ _ _ _ us hl => match us, hl with | [_, _], _ => rfl
  have F22 := fun_mk (st := s__law_lines) l22 c22 k22
  have b22 := F22.binds (ps := ["_law_protocol"]) fun _ _ _ _ _ _ us hl => match us, hl with | [_], _ => rfl
  have F23 := fun_mk (st := s_law) l23 c23 k23
  have b23 := F23.binds (ps := ["_law_script"]) fun _ _ _ _ _ _ us hl => match us, hl with | [_], _ => rfl
  have X_NoProtocol : PySem.NoProtocolX.NoProtocolTxt K mg Cx1 fix1 := { gC := PySem.W.mg_of X G xax1, cls := ⟨_, _, _, _, _, _, _, _, _, _, _, _, _, _, _, xlx1, xtx1⟩, sa := sax1, ga := gax1, gg := ggx1, noN := nbx1, iC := iix1, tC := tix1, kC := kcx1, exC := ecx1, tyC := tcx1, hdC := hdx1, te := exm_self ecx1 icx1 tcx1 scx1, ov := ovx1, tk := tkx1, fn := ⟨_, _, _, _, _, _, _, _, _, _, _, _, _, _, lix1, cix1⟩ }
  have T_NoProtocol : ExTxt K "NoProtocol" Cx1 := ⟨xax1, ⟨gax1, ggx1, ecx1, hdx1⟩, fun x ox od => PySem.W.kitx_exc (by unfold PySem.W.clsIn; rw [xlx1]; rfl) gax1 ggx1 ecx1 clx1 spx1 tax1 mox1⟩
  have X_NoText : PySem.NoTextX.NoTextTxt K mg Cx2 fix2 := { gC := PySem.W.mg_of X G xax2, cls := ⟨_, _, _, _, _, _, _, _, _, _, _, _, _, _, _, xlx2, xtx2⟩, sa := sax2, ga := gax2, gg := ggx2, noN := nbx2, iC := iix2, tC := tix2, kC := kcx2, exC := ecx2, tyC := tcx2, hdC := hdx2, te := exm_self ecx2 icx2 tcx2 scx2, ov := ovx2, tk := tkx2, fn := ⟨_, _, _, _, _, _, _, _, _, _, _, _, _, _, lix2, cix2⟩ }
  have T_NoText : ExTxt K "NoText" Cx2 := ⟨xax2, ⟨gax2, ggx2, ecx2, hdx2⟩, fun x ox od => PySem.W.kitx_exc (by unfold PySem.W.clsIn; rw [xlx2]; rfl) gax2 ggx2 ecx2 clx2 spx2 tax2 mox2⟩
  let T : Tx K mg w := ⟨_, _, F1, PySem.W.mg_of X G a1, b1, _, _, F2, PySem.W.mg_of X G a2, b2, _, _, F3, PySem.W.mg_of X G a3, b3, _, _, F4, PySem.W.mg_of X G a4, b4, _, _, F5, PySem.W.mg_of X G a5, b5, _, _, F6, PySem.W.mg_of X G a6, b6, _, _, F7, PySem.W.mg_of X G a7, b7, _, _, F8, PySem.W.mg_of X G a8, b8, _, _, F9, PySem.W.mg_of X G a9, b9, _, _, F10, PySem.W.mg_of X G a10, b10, _, _, F11, PySem.W.mg_of X G a11, b11, _, _, F12, PySem.W.mg_of X G a12, b12, _, _, F13, PySem.W.mg_of X G a13, b13, _, _, F14, PySem.W.mg_of X G a14, b14, _, _, F15, PySem.W.mg_of X G a15, b15, _, _, F16, PySem.W.mg_of X G a16, b16, _, _, F17, PySem.W.mg_of X G a17, b17, _, _, F18, PySem.W.mg_of X G a18, b18, _, _, F19, PySem.W.mg_of X G a19, b19, _, _, F20, PySem.W.mg_of X G a20, b20, _, _, F21, PySem.W.mg_of X G a21, b21, _, _, F22, PySem.W.mg_of X G a22, b22, _, _, F23, PySem.W.mg_of X G a23, b23, _, _, X_NoProtocol, xax1, T_NoProtocol, nbx1, _, _, X_NoText, xax2, T_NoText, nbx2, _, PySem.W.mg_of X G ng_LINES, (dp_ktup (xs := [.str "clock", .str "data", .str "gate"]) lk_GLINES rfl rfl (by rw [sizeLine_eq]; exact Nat.le_of_ble_eq_true rfl) (show Vals [.str "clock", .str "data", .str "gate"] [.str "clock" tk_GLINES_0, .str "data" tk_GLINES_1, .str "gate" tk_GLINES_2] from (.cons ⟨_, rfl⟩ (.cons ⟨_, rfl⟩ (.cons ⟨_, rfl⟩ .nil)))) (fun F => (.cons ((fun _ => .str _) F) (.cons ((fun _ => .str _) F) (.cons ((fun _ => .str _) F) .nil))))), _, PySem.W.mg_of X G ng_BOUNDS, (ktab_cons ⟨.ref a_DBOUNDS_0, ⟨_, _, _, dl_BOUNDS, dk_BOUNDS, de_BOUNDS_0, rfl⟩, (dp_ktup (xs := [.int 2, .int 1000000]) lk_DBOUNDS_0 rfl rfl (by rw [sizeLine_eq]; exact Nat.le_of_ble_eq_true rfl) (show Vals [.int 2, .int 1000000] [.int 2 tk_DBOUNDS_0_0, .int 1000000 tk_DBOUNDS_0_1] from (.cons ⟨_, rfl⟩ (.cons ⟨_, rfl⟩ .nil))) (fun F => (.cons ((fun _ => .int _) F) (.cons ((fun _ => .int _) F) .nil))))⟩ (ktab_cons ⟨.ref a_DBOUNDS_1, ⟨_, _, _, dl_BOUNDS, dk_BOUNDS, de_BOUNDS_1, rfl⟩, (dp_ktup (xs := [.int 1, .int 16]) lk_DBOUNDS_1 rfl rfl (by rw [sizeLine_eq]; exact Nat.le_of_ble_eq_true rfl) (show Vals [.int 1, .int 16] [.int 1 tk_DBOUNDS_1_0, .int 16 tk_DBOUNDS_1_1] from (.cons ⟨_, rfl⟩ (.cons ⟨_, rfl⟩ .nil))) (fun F => (.cons ((fun _ => .int _) F) (.cons ((fun _ => .int _) F) .nil))))⟩ (ktab_cons ⟨.ref a_DBOUNDS_2, ⟨_, _, _, dl_BOUNDS, dk_BOUNDS, de_BOUNDS_2, rfl⟩, (dp_ktup (xs := [.int 1, .int 2]) lk_DBOUNDS_2 rfl rfl (by rw [sizeLine_eq]; exact Nat.le_of_ble_eq_true rfl) (show Vals [.int 1, .int 2] [.int 1 tk_DBOUNDS_2_0, .int 2 tk_DBOUNDS_2_1] from (.cons ⟨_, rfl⟩ (.cons ⟨_, rfl⟩ .nil))) (fun F => (.cons ((fun _ => .int _) F) (.cons ((fun _ => .int _) F) .nil))))⟩ ktab_nil))), ⟨_, _, dl_BOUNDS, dk_BOUNDS, dn_BOUNDS, dz_BOUNDS⟩, _, PySem.W.mg_of X G ng_FORMS, (ktab_cons ⟨.ref a_DFORMS_0, ⟨_, _, _, dl_FORMS, dk_FORMS, de_FORMS_0, rfl⟩, (dp_ktup (xs := [.str "clock", .str "edge", .str "data", .str "gate", .str "bits", .str "first"]) lk_DFORMS_0 rfl rfl (by rw [sizeLine_eq]; exact Nat.le_of_ble_eq_true rfl) (show Vals [.str "clock", .str "edge", .str "data", .str "gate", .str "bits", .str "first"] [.str "clock" tk_DFORMS_0_0, .str "edge" tk_DFORMS_0_1, .str "data" tk_DFORMS_0_2, .str "gate" tk_DFORMS_0_3, .str "bits" tk_DFORMS_0_4, .str "first" tk_DFORMS_0_5] from (.cons ⟨_, rfl⟩ (.cons ⟨_, rfl⟩ (.cons ⟨_, rfl⟩ (.cons ⟨_, rfl⟩ (.cons ⟨_, rfl⟩ (.cons ⟨_, rfl⟩ .nil))))))) (fun F => (.cons ((fun _ => .str _) F) (.cons ((fun _ => .str _) F) (.cons ((fun _ => .str _) F) (.cons ((fun _ => .str _) F) (.cons ((fun _ => .str _) F) (.cons ((fun _ => .str _) F) .nil))))))))⟩ (ktab_cons ⟨.ref a_DFORMS_1, ⟨_, _, _, dl_FORMS, dk_FORMS, de_FORMS_1, rfl⟩, (dp_ktup (xs := [.str "data", .str "long", .str "bits", .str "check", .str "stops"]) lk_DFORMS_1 rfl rfl (by rw [sizeLine_eq]; exact Nat.le_of_ble_eq_true rfl) (show Vals [.str "data", .str "long", .str "bits", .str "check", .str "stops"] [.str "data" tk_DFORMS_1_0, .str "long" tk_DFORMS_1_1, .str "bits" tk_DFORMS_1_2, .str "check" tk_DFORMS_1_3, .str "stops" tk_DFORMS_1_4] from (.cons ⟨_, rfl⟩ (.cons ⟨_, rfl⟩ (.cons ⟨_, rfl⟩ (.cons ⟨_, rfl⟩ (.cons ⟨_, rfl⟩ .nil)))))) (fun F => (.cons ((fun _ => .str _) F) (.cons ((fun _ => .str _) F) (.cons ((fun _ => .str _) F) (.cons ((fun _ => .str _) F) (.cons ((fun _ => .str _) F) .nil)))))))⟩ (ktab_cons ⟨.ref a_DFORMS_2, ⟨_, _, _, dl_FORMS, dk_FORMS, de_FORMS_2, rfl⟩, (dp_ktup (xs := [.str "clock", .str "data"]) lk_DFORMS_2 rfl rfl (by rw [sizeLine_eq]; exact Nat.le_of_ble_eq_true rfl) (show Vals [.str "clock", .str "data"] [.str "clock" tk_DFORMS_2_0, .str "data" tk_DFORMS_2_1] from (.cons ⟨_, rfl⟩ (.cons ⟨_, rfl⟩ .nil))) (fun F => (.cons ((fun _ => .str _) F) (.cons ((fun _ => .str _) F) .nil))))⟩ ktab_nil))), ⟨_, _, dl_FORMS, dk_FORMS, dn_FORMS, dz_FORMS⟩, _, PySem.W.mg_of X G ng_WORDS, (ktab_cons ⟨.ref a_DWORDS_0, ⟨_, _, _, dl_WORDS, dk_WORDS, de_WORDS_0, rfl⟩, (dp_ktup (xs := [.str "rise", .str "fall"]) lk_DWORDS_0 rfl rfl (by rw [sizeLine_eq]; exact Nat.le_of_ble_eq_true rfl) (show Vals [.str "rise", .str "fall"] [.str "rise" tk_DWORDS_0_0, .str "fall" tk_DWORDS_0_1] from (.cons ⟨_, rfl⟩ (.cons ⟨_, rfl⟩ .nil))) (fun F => (.cons ((fun _ => .str _) F) (.cons ((fun _ => .str _) F) .nil))))⟩ (ktab_cons ⟨.ref a_DWORDS_1, ⟨_, _, _, dl_WORDS, dk_WORDS, de_WORDS_1, rfl⟩, (dp_ktup (xs := [.str "high", .str "low"]) lk_DWORDS_1 rfl rfl (by rw [sizeLine_eq]; exact Nat.le_of_ble_eq_true rfl) (show Vals [.str "high", .str "low"] [.str "high" tk_DWORDS_1_0, .str "low" tk_DWORDS_1_1] from (.cons ⟨_, rfl⟩ (.cons ⟨_, rfl⟩ .nil))) (fun F => (.cons ((fun _ => .str _) F) (.cons ((fun _ => .str _) F) .nil))))⟩ (ktab_cons ⟨.ref a_DWORDS_2, ⟨_, _, _, dl_WORDS, dk_WORDS, de_WORDS_2, rfl⟩, (dp_ktup (xs := [.str "none", .str "even", .str "odd"]) lk_DWORDS_2 rfl rfl (by rw [sizeLine_eq]; exact Nat.le_of_ble_eq_true rfl) (show Vals [.str "none", .str "even", .str "odd"] [.str "none" tk_DWORDS_2_0, .str "even" tk_DWORDS_2_1, .str "odd" tk_DWORDS_2_2] from (.cons ⟨_, rfl⟩ (.cons ⟨_, rfl⟩ (.cons ⟨_, rfl⟩ .nil)))) (fun F => (.cons ((fun _ => .str _) F) (.cons ((fun _ => .str _) F) (.cons ((fun _ => .str _) F) .nil)))))⟩ ktab_nil))), ⟨_, _, dl_WORDS, dk_WORDS, dn_WORDS, dz_WORDS⟩, PySem.W.mg_none_of X G z1, PySem.W.mg_none_of X G z2, PySem.W.mg_none_of X G z3, PySem.W.mg_none_of X G z4, PySem.W.mg_none_of X G z5, PySem.W.mg_none_of X G z6, PySem.W.mg_none_of X G z7, PySem.W.mg_none_of X G z8, PySem.W.mg_none_of X G z9, PySem.W.mg_none_of X G z10, PySem.W.mg_none_of X G z11, PySem.W.mg_none_of X G z12⟩
  exact ⟨_, fun s v => .of_eq rfl, fun base _ _ => ok_law T⟩
end Pf
open PySem PySem.W PyProof.Rows
set_option maxRecDepth 100000 in
set_option maxHeartbeats 0 in
theorem PySem.Challenge.cw_wirelooker_k15_whole_any_words_of_protoc_holds : PySem.Challenge.rw_wirelooker_k15_whole_any_words_of_protoc.Holds := by
  w_on; o_law; k_head; (case hw => w_witness2)
  k_fill
  refine Dd.walk_ofG (l := PySem.Challenge.rw_wirelooker_k15_whole_any_words_of_protoc) (n := 63) (k := 8) (p := "_law_script") (g := Pf.fn_law) rfl (by decide) rfl ⟨rfl, by decide, by decide⟩ (fun w h Y => PySem.W.kIn_of Y) ?F (fun ns hl => Pf.law_true ns hl)
  case F =>
    intro w mg fa h KX G hmg
    refine' Pf.all_mk KX G hmg ?a1 ?l1 ?c1 ?k1 ?a2 ?l2 ?c2 ?k2 ?a3 ?l3 ?c3 ?k3 ?a4 ?l4 ?c4 ?k4 ?a5 ?l5 ?c5 ?k5 ?a6 ?l6 ?c6 ?k6 ?a7 ?l7 ?c7 ?k7 ?a8 ?l8 ?c8 ?k8 ?a9 ?l9 ?c9 ?k9 ?a10 ?l10 ?c10 ?k10 ?a11 ?l11 ?c11 ?k11 ?a12 ?l12 ?c12 ?k12 ?a13 ?l13 ?c13 ?k13 ?a14 ?l14 ?c14 ?k14 ?a15 ?l15 ?c15 ?k15 ?a16 ?l16 ?c16 ?k16 ?a17 ?l17 ?c17 ?k17 ?a18 ?l18 ?c18 ?k18 ?a19 ?l19 ?c19 ?k19 ?a20 ?l20 ?c20 ?k20 ?a21 ?l21 ?c21 ?k21 ?a22 ?l22 ?c22 ?k22 ?a23 ?l23 ?c23 ?k23 ?z1 ?z2 ?z3 ?z4 ?z5 ?z6 ?z7 ?z8 ?z9 ?z10 ?z11 ?z12 ?xax1 ?xlx1 ?xtx1 ?sax1 ?gax1 ?ggx1 ?nbx1 ?iix1 ?tix1 ?lix1 ?cix1 ?kcx1 ?ecx1 ?tcx1 ?hdx1 ?icx1 ?scx1 ?ovx1 ?tkx1 ?clx1 ?spx1 ?tax1 ?mox1 ?xax2 ?xlx2 ?xtx2 ?sax2 ?gax2 ?ggx2 ?nbx2 ?iix2 ?tix2 ?lix2 ?cix2 ?kcx2 ?ecx2 ?tcx2 ?hdx2 ?icx2 ?scx2 ?ovx2 ?tkx2 ?clx2 ?spx2 ?tax2 ?mox2 ?ng_LINES ?lk_GLINES ?ng_BOUNDS ?dl_BOUNDS ?dk_BOUNDS ?dn_BOUNDS ?dz_BOUNDS ?de_BOUNDS_0 ?lk_DBOUNDS_0 ?de_BOUNDS_1 ?lk_DBOUNDS_1 ?de_BOUNDS_2 ?lk_DBOUNDS_2 ?ng_FORMS ?dl_FORMS ?dk_FORMS ?dn_FORMS ?dz_FORMS ?de_FORMS_0 ?lk_DFORMS_0 ?de_FORMS_1 ?lk_DFORMS_1 ?de_FORMS_2 ?lk_DFORMS_2 ?ng_WORDS ?dl_WORDS ?dk_WORDS ?dn_WORDS ?dz_WORDS ?de_WORDS_0 ?lk_DWORDS_0 ?de_WORDS_1 ?lk_DWORDS_1 ?de_WORDS_2 ?lk_DWORDS_2
    (case a1 => k_is); (case l1 => k_is); (case c1 => k_is); (case k1 => k_is); (case a2 => k_is); (case l2 => k_is); (case c2 => k_is); (case k2 => k_is); (case a3 => k_is); (case l3 => k_is); (case c3 => k_is); (case k3 => k_is); (case a4 => k_is); (case l4 => k_is); (case c4 => k_is); (case k4 => k_is); (case a5 => k_is); (case l5 => k_is); (case c5 => k_is); (case k5 => k_is); (case a6 => k_is); (case l6 => k_is); (case c6 => k_is); (case k6 => k_is); (case a7 => k_is); (case l7 => k_is); (case c7 => k_is); (case k7 => k_is); (case a8 => k_is); (case l8 => k_is); (case c8 => k_is); (case k8 => k_is); (case a9 => k_is); (case l9 => k_is); (case c9 => k_is); (case k9 => k_is); (case a10 => k_is); (case l10 => k_is); (case c10 => k_is); (case k10 => k_is); (case a11 => k_is); (case l11 => k_is); (case c11 => k_is); (case k11 => k_is); (case a12 => k_is); (case l12 => k_is); (case c12 => k_is); (case k12 => k_is); (case a13 => k_is); (case l13 => k_is); (case c13 => k_is); (case k13 => k_is); (case a14 => k_is); (case l14 => k_is); (case c14 => k_is); (case k14 => k_is); (case a15 => k_is); (case l15 => k_is); (case c15 => k_is); (case k15 => k_is); (case a16 => k_is); (case l16 => k_is); (case c16 => k_is); (case k16 => k_is); (case a17 => k_is); (case l17 => k_is); (case c17 => k_is); (case k17 => k_is); (case a18 => k_is); (case l18 => k_is); (case c18 => k_is); (case k18 => k_is); (case a19 => k_is); (case l19 => k_is); (case c19 => k_is); (case k19 => k_is); (case a20 => k_is); (case l20 => k_is); (case c20 => k_is); (case k20 => k_is); (case a21 => k_is); (case l21 => k_is); (case c21 => k_is); (case k21 => k_is); (case a22 => k_is); (case l22 => k_is); (case c22 => k_is); (case k22 => k_is); (case a23 => k_is); (case l23 => k_is); (case c23 => k_is); (case k23 => k_is); (case z1 => k_is); (case z2 => k_is); (case z3 => k_is); (case z4 => k_is); (case z5 => k_is); (case z6 => k_is); (case z7 => k_is); (case z8 => k_is); (case z9 => k_is); (case z10 => k_is); (case z11 => k_is); (case z12 => k_is); (case xax1 => first | k_is | rfl | decide +kernel); (case xlx1 => first | k_is | rfl | decide +kernel); (case xtx1 => first | k_is | rfl | decide +kernel); (case sax1 => first | k_is | rfl | decide +kernel); (case gax1 => first | k_is | rfl | decide +kernel); (case ggx1 => first | k_is | rfl | decide +kernel); (case nbx1 => first | k_is | rfl | decide +kernel); (case iix1 => first | k_is | rfl | decide +kernel); (case tix1 => first | k_is | rfl | decide +kernel); (case lix1 => first | k_is | rfl | decide +kernel); (case cix1 => first | k_is | rfl | decide +kernel); (case kcx1 => first | k_is | rfl | decide +kernel); (case ecx1 => first | k_is | rfl | decide +kernel); (case tcx1 => first | k_is | rfl | decide +kernel); (case hdx1 => first | k_is | rfl | decide +kernel); (case icx1 => first | k_is | rfl | decide +kernel); (case scx1 => first | k_is | rfl | decide +kernel); (case ovx1 => first | k_is | rfl | decide +kernel); (case tkx1 => first | k_is | rfl | decide +kernel); (case clx1 => first | k_is | rfl | decide +kernel); (case spx1 => first | k_is | rfl | decide +kernel); (case tax1 => first | k_is | rfl | decide +kernel); (case mox1 => first | k_is | rfl | decide +kernel); (case xax2 => first | k_is | rfl | decide +kernel); (case xlx2 => first | k_is | rfl | decide +kernel); (case xtx2 => first | k_is | rfl | decide +kernel); (case sax2 => first | k_is | rfl | decide +kernel); (case gax2 => first | k_is | rfl | decide +kernel); (case ggx2 => first | k_is | rfl | decide +kernel); (case nbx2 => first | k_is | rfl | decide +kernel); (case iix2 => first | k_is | rfl | decide +kernel); (case tix2 => first | k_is | rfl | decide +kernel); (case lix2 => first | k_is | rfl | decide +kernel); (case cix2 => first | k_is | rfl | decide +kernel); (case kcx2 => first | k_is | rfl | decide +kernel); (case ecx2 => first | k_is | rfl | decide +kernel); (case tcx2 => first | k_is | rfl | decide +kernel); (case hdx2 => first | k_is | rfl | decide +kernel); (case icx2 => first | k_is | rfl | decide +kernel); (case scx2 => first | k_is | rfl | decide +kernel); (case ovx2 => first | k_is | rfl | decide +kernel); (case tkx2 => first | k_is | rfl | decide +kernel); (case clx2 => first | k_is | rfl | decide +kernel); (case spx2 => first | k_is | rfl | decide +kernel); (case tax2 => first | k_is | rfl | decide +kernel); (case mox2 => first | k_is | rfl | decide +kernel); (case ng_LINES => first | k_is | rfl | decide +kernel); (case lk_GLINES => first | k_is | rfl | decide +kernel); (case ng_BOUNDS => first | k_is | rfl | decide +kernel); (case dl_BOUNDS => first | k_is | rfl | decide +kernel); (case dk_BOUNDS => first | k_is | rfl | decide +kernel | (repeat first | exact trivial | refine ⟨⟨_, _, rfl, rfl⟩, ?_⟩)); (case dn_BOUNDS => first | rfl | k_is | rfl | decide +kernel); (case dz_BOUNDS => first | k_is | rfl | decide +kernel); (case de_BOUNDS_0 => first | k_is | rfl | decide +kernel); (case lk_DBOUNDS_0 => first | k_is | rfl | decide +kernel); (case de_BOUNDS_1 => first | k_is | rfl | decide +kernel); (case lk_DBOUNDS_1 => first | k_is | rfl | decide +kernel); (case de_BOUNDS_2 => first | k_is | rfl | decide +kernel); (case lk_DBOUNDS_2 => first | k_is | rfl | decide +kernel); (case ng_FORMS => first | k_is | rfl | decide +kernel); (case dl_FORMS => first | k_is | rfl | decide +kernel); (case dk_FORMS => first | k_is | rfl | decide +kernel | (repeat first | exact trivial | refine ⟨⟨_, _, rfl, rfl⟩, ?_⟩)); (case dn_FORMS => first | rfl | k_is | rfl | decide +kernel); (case dz_FORMS => first | k_is | rfl | decide +kernel); (case de_FORMS_0 => first | k_is | rfl | decide +kernel); (case lk_DFORMS_0 => first | k_is | rfl | decide +kernel); (case de_FORMS_1 => first | k_is | rfl | decide +kernel); (case lk_DFORMS_1 => first | k_is | rfl | decide +kernel); (case de_FORMS_2 => first | k_is | rfl | decide +kernel); (case lk_DFORMS_2 => first | k_is | rfl | decide +kernel); (case ng_WORDS => first | k_is | rfl | decide +kernel); (case dl_WORDS => first | k_is | rfl | decide +kernel); (case dk_WORDS => first | k_is | rfl | decide +kernel | (repeat first | exact trivial | refine ⟨⟨_, _, rfl, rfl⟩, ?_⟩)); (case dn_WORDS => first | rfl | k_is | rfl | decide +kernel); (case dz_WORDS => first | k_is | rfl | decide +kernel); (case de_WORDS_0 => first | k_is | rfl | decide +kernel); (case lk_DWORDS_0 => first | k_is | rfl | decide +kernel); (case de_WORDS_1 => first | k_is | rfl | decide +kernel); (case lk_DWORDS_1 => first | k_is | rfl | decide +kernel); (case de_WORDS_2 => first | k_is | rfl | decide +kernel); (case lk_DWORDS_2 => first | k_is | rfl | decide +kernel)
