import PyProof.Rows.All
import Wide.All
import OpenK.AllK
import Wide.FinOn
import HandS.ForMost
import HandS.IsInst
import HandS.Walk
import HandS.TupAny
import HandS.TupMul
import HandS.Style
import HandS.Wide
import HandS.Strs
import HandS.Zip
import HandS.Conv
import HandS.NoneIn
import HandS.Deep
import HandS.Flow
import HandS.Nested
import KE.GoesEnum
import HandS.SetFor
import KE.SortData
import KE.KDictWalk
import KE.KDictSum
import KE.KDictList
import HandS.DictTup
import HandS.SortRule
import PyProof.P3In
import HandS.More
import KE.GoesMore
import KE.GoesZip
import HandS.Defaults
import HandS.HeadHook4
import HandS.Head0
import HandS.Head1
import HandS.Head2
import HandS.HeadEnd
import HandS.HeadWalk
import PySem.Challenge.RW_holetubs_k08_asked_backward
set_option Elab.async false
set_option linter.all false
set_option maxRecDepth 100000
set_option maxHeartbeats 4000000
namespace Iv
open PySem PySem.Spec PyProof.Rows L2
/-! ### data, and where it stands -/
abbrev D := PyData
abbrev BSt := Option (Int × Int)
def kD : Key → D
  | .inl i => .int i
  | .inr x => .str x
mutual
inductive Rp (K : PySem.W.Frag) (H : Hp) : V → D → Prop
  | non : Rp K H .non .none
  | bl (b : Bool) : Rp K H (.bl b) (.bool b)
  | int (i : Int) : Rp K H (.int i) (.int i)
  | str (x : Str) : Rp K H (.str x) (.str x)
  | lst {a : Addr} {xs : List V} {ds : List D} : H a = some (.lst xs) → RpAll K H xs ds → Rp K H (.ref a) (.list ds)
  | tup {a : Addr} {xs : List V} {ds : List D} : SqT K H a xs → RpAll K H xs ds → Rp K H (.ref a) (.tuple ds)
  | dct {a : Addr} {kvs : List (Key × V)} {ds : List D} : H a = some (.dK kvs) → RpAll K H (kvs.map (·.2)) ds → Rp K H (.ref a) (.dict ((kvs.map fun p => kD p.1).zip ds))
  | dctT {a : Addr} {kvs : List (List Key × V)} {ds : List D} : H a = some (.dT kvs) → RpAll K H (kvs.map (·.2)) ds → Rp K H (.ref a) (.dict [(.none, .dict ((kvs.map fun p => PyData.tuple (p.1.map kD)).zip ds))])
inductive RpAll (K : PySem.W.Frag) (H : Hp) : List V → List D → Prop
  | nil : RpAll K H [] []
  | cons {v : V} {vs : List V} {d : D} {ds : List D} : Rp K H v d → RpAll K H vs ds → RpAll K H (v :: vs) (d :: ds)
end
section
variable {K : PySem.W.Frag} {H H' : Hp}
theorem sameT {a : Addr} {xs : List V} (e : Same H H') (h : SqT K H a xs) : SqT K H' a xs := by
  rcases h with h | h
  · rcases h with h | ⟨o, h⟩
    · exact .inl (.inl (e _ _ h))
    · exact .inl (.inr ⟨o, e _ _ h⟩)
  · exact .inr h
theorem Rp.mono (e : Same H H') {v : V} {d : D} (h : Rp K H v d) : Rp K H' v d := by
  refine Rp.rec (motive_1 := fun v d _ => Rp K H' v d) (motive_2 := fun vs ds _ => RpAll K H' vs ds) ?_ ?_ ?_ ?_ ?_ ?_ ?_ ?_ ?_ ?_ h
  · exact .non
  · exact fun b => .bl b
  · exact fun i => .int i
  · exact fun x => .str x
  · exact fun h1 _ ih => .lst (e _ _ h1) ih
  · exact fun h1 _ ih => .tup (sameT e h1) ih
  · exact fun h1 _ ih => .dct (e _ _ h1) ih
  · exact fun h1 _ ih => .dctT (e _ _ h1) ih
  · exact .nil
  · exact fun _ _ a b => .cons a b
theorem RpAll.mono (e : Same H H') : ∀ {vs : List V} {ds : List D}, RpAll K H vs ds → RpAll K H' vs ds
  | _, _, .nil => .nil
  | _, _, .cons a b => .cons (a.mono e) (b.mono e)
theorem RpAll.length : ∀ {vs : List V} {ds : List D}, RpAll K H vs ds → vs.length = ds.length
  | _, _, .nil => rfl
  | _, _, .cons _ b => by simp [b.length]
theorem RpAll.get : ∀ {vs : List V} {ds : List D} {i : Nat} {d : D}, RpAll K H vs ds → ds[i]? = some d → ∃ v, vs[i]? = some v ∧ Rp K H v d
  | _, _, _, _, .nil, e => by simp at e
  | _, _, 0, _, .cons a _, e => by simp at e; subst e; exact ⟨_, rfl, a⟩
  | _, _, i + 1, _, .cons _ b, e => by
    obtain ⟨u, h1, h2⟩ := RpAll.get (i := i) b (by simpa using e)
    exact ⟨u, by simpa using h1, h2⟩
theorem RpAll.append : ∀ {vs ws : List V} {ds es : List D}, RpAll K H vs ds → RpAll K H ws es → RpAll K H (vs ++ ws) (ds ++ es)
  | _, _, _, _, .nil, h => h
  | _, _, _, _, .cons a b, h => .cons a (b.append h)
theorem RpAll.take : ∀ {vs : List V} {ds : List D} (n : Nat), RpAll K H vs ds → RpAll K H (vs.take n) (ds.take n)
  | _, _, 0, _ => by simpa using .nil
  | _, _, n + 1, .nil => by simpa using .nil
  | _, _, n + 1, .cons a b => by simpa using .cons a (b.take n)
theorem RpAll.drop : ∀ {vs : List V} {ds : List D} (n : Nat), RpAll K H vs ds → RpAll K H (vs.drop n) (ds.drop n)
  | _, _, 0, h => by simpa using h
  | _, _, n + 1, .nil => by simpa using .nil
  | _, _, n + 1, .cons a b => by simpa using b.drop n
theorem RpAll.reverse {vs : List V} {ds : List D} (h : RpAll K H vs ds) : RpAll K H vs.reverse ds.reverse := by
  induction ds generalizing vs with
  | nil => cases h; exact .nil
  | cons d ds ih =>
    cases h with
    | cons a b =>
      simp only [List.reverse_cons]
      exact (ih b).append (.cons a .nil)
theorem RpAll.set : ∀ {vs : List V} {ds : List D} {v : V} {d : D} (i : Nat), RpAll K H vs ds → Rp K H v d → RpAll K H (vs.set i v) (ds.set i d)
  | _, _, _, _, _, .nil, _ => .nil
  | _, _, _, _, 0, .cons _ b, h => .cons h b
  | _, _, _, _, i + 1, .cons a b, h => .cons a (b.set i h)
theorem RpAll.rep {vs : List V} {ds : List D} (h : RpAll K H vs ds) : ∀ n : Nat, RpAll K H (List.replicate n vs).flatten (List.replicate n ds).flatten
  | 0 => .nil
  | n + 1 => by
    rw [List.replicate_succ, List.replicate_succ, List.flatten_cons, List.flatten_cons]
    exact h.append (h.rep n)
theorem RpAll.one {v : V} {d : D} (h : Rp K H v d) : RpAll K H [v] [d] := .cons h .nil
theorem RpAll.ints : ∀ {vs : List V} {ns : List Int}, RpAll K H vs (ns.map .int) → vs = ns.map V.int
  | [], [], _ => rfl
  | _, [], h => by cases h; rfl
  | _, n :: ns, h => by
    cases h with
    | cons a b => cases a; rw [RpAll.ints b]; rfl
theorem RpAll.bools : ∀ {vs : List V} {ns : List Bool}, RpAll K H vs (ns.map .bool) → vs = ns.map V.bl
  | _, [], h => by cases h; rfl
  | _, n :: ns, h => by
    cases h with
    | cons a b => cases a; rw [RpAll.bools b]; rfl
theorem RpAll.of_ints : ∀ (ns : List Int), RpAll K H (ns.map V.int) (ns.map .int)
  | [] => .nil
  | n :: ns => .cons (.int n) (RpAll.of_ints ns)
/-- to the library's reading, where no dict is within -/
theorem Rp.dp {v : V} {d : D} (h : Rp K H v d) : d.canLay0 = true → Dp K H v d := by
  refine Rp.rec (motive_1 := fun v d _ => d.canLay0 = true → Dp K H v d) (motive_2 := fun vs ds _ => PyData.canLayAll0 ds = true → DpAll K H vs ds) ?_ ?_ ?_ ?_ ?_ ?_ ?_ ?_ ?_ ?_ h
  · exact fun _ => .non
  · exact fun b _ => .bl b
  · exact fun i _ => .int i
  · exact fun x _ => .str x
  · exact fun h1 _ ih z => .lst (SqL.of h1) (ih (by simpa [PyData.canLay0] using z))
  · exact fun h1 _ ih z => .tup h1 (ih (by simpa [PyData.canLay0] using z))
  · exact fun _ _ _ z => by simp [PyData.canLay0] at z
  · exact fun _ _ _ z => by simp [PyData.canLay0] at z
  · exact fun _ => .nil
  · intro v vs d ds _ _ i1 i2 z
    have z' : d.canLay0 = true ∧ PyData.canLayAll0 ds = true := by simpa [PyData.canLayAll0] using z
    exact .cons (i1 z'.1) (i2 z'.2)
end
/-! ### what is owned is taken out, and the tables of code -/
def isTbl : HO → Bool
  | .tbl _ => true
  | _ => false
def plainO : HO → Bool
  | .lst _ => true
  | .dK _ => true
  | .dT _ => true
  | _ => false
theorem plain_noTbl {o : HO} (h : plainO o = true) : isTbl o = false := by cases o <;> first | rfl | cases h
def noTbl : Option HO → Option HO
  | some (.tbl _) => none
  | x => x
theorem noTbl_of {o : HO} (t : isTbl o = false) : noTbl (some o) = some o := by cases o <;> first | rfl | cases t
theorem noTbl_some {x : Option HO} {o : HO} (h : noTbl x = some o) : x = some o ∧ isTbl o = false := by
  cases x with
  | none => cases h
  | some p => cases p <;> cases h <;> exact ⟨rfl, rfl⟩
open Classical in
noncomputable def Fz (O : Addr → Prop) (H : Hp) : Hp := fun a => if O a then none else noTbl (H a)
theorem fz_out {O : Addr → Prop} {H : Hp} {a : Addr} (h : ¬ O a) : Fz O H a = noTbl (H a) := by unfold Fz; rw [if_neg h]
theorem fz_put {O : Addr → Prop} {H : Hp} {a : Addr} {o : HO} (h : ¬ O a) (e : H a = some o) (t : isTbl o = false) : Fz O H a = some o := by rw [fz_out h, e]; exact noTbl_of t
theorem fz_in {O : Addr → Prop} {H : Hp} {a : Addr} (h : O a) : Fz O H a = none := by unfold Fz; rw [if_pos h]
theorem fz_some3 {O : Addr → Prop} {H : Hp} {a : Addr} {o : HO} (h : Fz O H a = some o) : ¬ O a ∧ H a = some o ∧ isTbl o = false := by
  by_cases q : O a
  · rw [fz_in q] at h; cases h
  · rw [fz_out q] at h; exact ⟨q, noTbl_some h⟩
theorem fz_some {O : Addr → Prop} {H : Hp} {a : Addr} {o : HO} (h : Fz O H a = some o) : ¬ O a ∧ H a = some o := ⟨(fz_some3 h).1, (fz_some3 h).2.1⟩
theorem fz_same {O : Addr → Prop} {H : Hp} : Same (Fz O H) H := fun _ _ h => (fz_some h).2
theorem fz_mono {O O' : Addr → Prop} {H H' : Hp} (hO : ∀ a, O' a → O a) (h : ∀ a o, ¬ O a → isTbl o = false → H a = some o → H' a = some o) : Same (Fz O H) (Fz O' H') := fun a o e => by
  obtain ⟨n, e, t⟩ := fz_some3 e
  exact fz_put (fun z => n (hO a z)) (h a o n t e) t
def orO (O : Addr → Prop) (p : Addr) : Addr → Prop := fun a => O a ∨ a = p
/-! ### defs within defs: how they are told, where their tables stand -/
structure Nd where
  st : Stmt
  name : Str
  q : Str
  ix : Nat
  cap : List Nat
  ps : List Str
  fr : List Str
  N : List Str
class Nm where
  nm : Nat → Nat → Str
  tabs : List Addr
  nds : Str → Option Nd
variable [Nm]
abbrev Tb0 : List NdefX.NTab := Nm.tabs.map fun P => (P, Nm.nm)
/-! ### the bag, what stays -/
def BagAt (β : Option Addr) (H : Hp) : BSt → Prop
  | none => β = none
  | some (g, s) => ∃ b, β = some b ∧ H b = some (.lst [.int g, .int s])
theorem BagAt.get {β : Option Addr} {H : Hp} {st : BSt} {b : Addr} (h : BagAt β H st) (e : β = some b) : ∃ g s, st = some (g, s) ∧ H b = some (.lst [.int g, .int s]) := by
  cases st with
  | none => have h : β = none := h; rw [h] at e; cases e
  | some p => obtain ⟨g, s⟩ := p; obtain ⟨c, e2, h⟩ := h; rw [e] at e2; cases e2; exact ⟨g, s, rfl, h⟩
theorem BagAt.mono {β : Option Addr} {H H' : Hp} {st : BSt} (h : BagAt β H st) (e : ∀ b o, β = some b → H b = some o → H' b = some o) : BagAt β H' st := by
  cases st with
  | none => exact h
  | some p => obtain ⟨g, s⟩ := p; obtain ⟨b, e2, h⟩ := h; exact ⟨b, e2, e b _ e2 h⟩
structure SB (β : Option Addr) (H H' : Hp) : Prop where
  go : ∀ a o, β ≠ some a → isTbl o = false → H a = some o → H' a = some o
  dm : ∀ a, β ≠ some a → H' a = none → H a = none
  tb : NdefX.TabsN Tb0 H → NdefX.TabsN Tb0 H'
theorem SB.refl {β : Option Addr} {H : Hp} : SB β H H := ⟨fun _ _ _ _ h => h, fun _ _ h => h, fun h => h⟩
theorem SB.trans {β : Option Addr} {H H1 H2 : Hp} (h1 : SB β H H1) (h2 : SB β H1 H2) : SB β H H2 := ⟨fun a o n t e => h2.go a o n t (h1.go a o n t e), fun a n e => h1.dm a n (h2.dm a n e), fun t => h2.tb (h1.tb t)⟩
theorem SB.laid {β : Option Addr} {H : Hp} {p : Addr} {o : HO} (h : H p = none) : SB β H (upd H p o) := ⟨fun a u n _ e => by
  rw [upd_ne (ne_of_none e h)]; exact e, fun a _ e => NdefX.upd_none e, fun t => t.ext fun b u e => by rw [upd_ne (ne_of_none e h)]; exact e⟩
theorem tab_upd {H : Hp} {a : Addr} {ob o' : HO} (hob : H a = some ob) (pl : plainO ob = true) {P : Addr} {nm : Nat → Nat → Str} (t : NdefX.TabN H P nm) : NdefX.TabN (upd H a o') P nm := by
  obtain ⟨ps, h1, h2, h3⟩ := t
  refine ⟨ps, ?_, h2, fun pos cv hc => ?_⟩
  · rw [upd_ne (fun z => by rw [z, hob] at h1; cases h1; cases pl)]; exact h1
  · obtain ⟨c, e1, e2⟩ := h3 pos cv hc
    refine ⟨c, e1, ?_⟩
    rw [upd_ne (fun z => by rw [z, hob] at e2; cases e2; cases pl)]; exact e2
/-- a tracked thing changes in its place -/
theorem SB.mut {β : Option Addr} {H0 H : Hp} {a : Addr} {ob o' : HO} (h : SB β H0 H) (hob : H a = some ob) (pl : plainO ob = true) (h0 : β = some a ∨ H0 a = none) : SB β H0 (upd H a o') := by
  refine ⟨fun b o n t e => ?_, fun b n e => h.dm b n (NdefX.upd_none e), fun t p hp => tab_upd hob pl (h.tb t p hp)⟩
  rw [upd_ne (fun z => by
    rw [z] at n e
    rcases h0 with h0 | h0
    · exact n h0
    · rw [h0] at e; cases e)]
  exact h.go b o n t e
/-- results and slots -/
inductive R where
  | fz (d : D) | ow (d : D) | bag | scr (ns : List Int)
  | fnc (f : Addr) (F : NdefX.NF) (ws : List V) (ds : List D)
/-- a dict: int and text keys, or (told by a first key None) keys that are tuples of such -/
def DcAt (K : PySem.W.Frag) (O : Addr → Prop) (H : Hp) (a : Addr) (kds : List (D × D)) : Prop :=
  (∃ kvs : List (Key × V), H a = some (.dK kvs) ∧ kds.map (·.1) = kvs.map (fun p => kD p.1) ∧ RpAll K (Fz O H) (kvs.map (·.2)) (kds.map (·.2))) ∨
  ∃ kds' : List (D × D), kds = [(.none, .dict kds')] ∧ ∃ kvs : List (List Key × V), H a = some (.dT kvs) ∧ kds'.map (·.1) = kvs.map (fun p => PyData.tuple (p.1.map kD)) ∧ RpAll K (Fz O H) (kvs.map (·.2)) (kds'.map (·.2))
theorem DcAt.mono {K : PySem.W.Frag} {O O' : Addr → Prop} {H H' : Hp} {a : Addr} {kds : List (D × D)} (h : DcAt K O H a kds) (e : Same (Fz O H) (Fz O' H')) (ha : ∀ o, isTbl o = false → H a = some o → H' a = some o) : DcAt K O' H' a kds := by
  rcases h with ⟨kvs, h1, h2, h3⟩ | ⟨kds', rfl, kvs, h1, h2, h3⟩
  · exact .inl ⟨kvs, ha _ rfl h1, h2, h3.mono e⟩
  · exact .inr ⟨kds', rfl, kvs, ha _ rfl h1, h2, h3.mono e⟩
theorem DcAt.some {K : PySem.W.Frag} {O : Addr → Prop} {H : Hp} {a : Addr} {kds : List (D × D)} (h : DcAt K O H a kds) : ∃ o, H a = Option.some o ∧ plainO o = true := by
  rcases h with ⟨kvs, h1, _⟩ | ⟨_, _, kvs, h1, _⟩
  · exact ⟨_, h1, rfl⟩
  · exact ⟨_, h1, rfl⟩
/-- no key is None: keys are ints and texts -/
def plainK (kds : List (D × D)) : Bool := kds.all fun kv => match kv.1 with | .none => false | _ => true
theorem DcAt.k {K : PySem.W.Frag} {O : Addr → Prop} {H : Hp} {a : Addr} {kds : List (D × D)} (h : DcAt K O H a kds) (p : plainK kds = true) : ∃ kvs : List (Key × V), H a = Option.some (.dK kvs) ∧ kds.map (·.1) = kvs.map (fun p => kD p.1) ∧ RpAll K (Fz O H) (kvs.map (·.2)) (kds.map (·.2)) := by
  rcases h with h | ⟨_, rfl, _⟩
  · exact h
  · cases p
def OwAt (K : PySem.W.Frag) (O : Addr → Prop) (H : Hp) (a : Addr) : D → Prop
  | .list ds => ∃ xs, H a = some (.lst xs) ∧ RpAll K (Fz O H) xs ds
  | .dict kds => DcAt K O H a kds
  | _ => False
def ScAt (K : PySem.W.Frag) (β : Option Addr) (O : Addr → Prop) (H : Hp) (a : Addr) (ns : List Int) : Prop := (β ≠ some a ∧ ∃ o, H a = some (.frz o (.lst (ns.map V.int)))) ∨ (∀ H', SqL K H' a (ns.map V.int)) ∨ (β ≠ some a ∧ Fz O H a = some (.lst (ns.map V.int)))
theorem ScAt.mono {K : PySem.W.Frag} {β : Option Addr} {O O' : Addr → Prop} {H H' : Hp} {a : Addr} {ns : List Int} (h : ScAt K β O H a ns) (e : SB β H H') (sm : Same (Fz O H) (Fz O' H')) : ScAt K β O' H' a ns := by
  rcases h with ⟨n, o, h⟩ | h | ⟨n, h⟩
  · exact .inl ⟨n, o, e.go _ _ n rfl h⟩
  · exact .inr (.inl h)
  · exact .inr (.inr ⟨n, sm _ _ h⟩)
theorem ScAt.sq {K : PySem.W.Frag} {β : Option Addr} {O : Addr → Prop} {H : Hp} {a : Addr} {ns : List Int} (h : ScAt K β O H a ns) : SqL K H a (ns.map V.int) := by
  rcases h with ⟨_, o, h⟩ | h | ⟨_, h⟩
  · exact .inl (.inr ⟨o, h⟩)
  · exact h H
  · exact SqL.of (fz_some h).2
/-- a def made in a def: its object, its code, what it captured -/
structure FnAt' (K : PySem.W.Frag) (β : Option Addr) (O : Addr → Prop) (H : Hp) (f : Addr) (F : NdefX.NF) (ws : List V) (ds : List D) : Prop where
  nf : β ≠ some f
  nc : β ≠ some F.c
  ob : H f = some (NdefX.FnO f F)
  co : H F.c = some (LamX.CodeO F.c F.qual)
  rp : RpAll K (Fz O H) ws ds
theorem FnAt'.mono {K : PySem.W.Frag} {β : Option Addr} {O O' : Addr → Prop} {H H' : Hp} {f : Addr} {F : NdefX.NF} {ws : List V} {ds : List D} (h : FnAt' K β O H f F ws ds) (e : Same (Fz O H) (Fz O' H')) (hb : SB β H H') : FnAt' K β O' H' f F ws ds :=
  ⟨h.nf, h.nc, hb.go _ _ h.nf rfl h.ob, hb.go _ _ h.nc rfl h.co, h.rp.mono e⟩
def SlAt (K : PySem.W.Frag) (β : Option Addr) (O : Addr → Prop) (H : Hp) (v : V) : R → Prop
  | .fz d => Rp K (Fz O H) v d
  | .ow d => ∃ a, v = .ref a ∧ O a ∧ β ≠ some a ∧ OwAt K O H a d
  | .bag => ∃ b, β = some b ∧ v = .ref b
  | .scr ns => ∃ a, v = .ref a ∧ ScAt K β O H a ns
  | .fnc f F ws ds => v = .ref f ∧ FnAt' K β O H f F ws ds
/-- an expression's result: H ahead, H' behind -/
def ResAt (K : PySem.W.Frag) (β : Option Addr) (O : Addr → Prop) (H H' : Hp) (v : V) : R → Prop
  | .fz d => Rp K (Fz O H') v d
  | .ow d => ∃ p, v = .ref p ∧ H p = none ∧ β ≠ some p ∧ OwAt K (orO O p) H' p d
  | .bag => ∃ b, β = some b ∧ v = .ref b
  | .scr ns => ∃ a, v = .ref a ∧ ScAt K β O H' a ns
  | .fnc _ _ _ _ => False
abbrev Env' := List (Option R)
structure Rel (K : PySem.W.Frag) (β : Option Addr) (Oo : Addr → Prop) (H0 : Hp) (O : Addr → Prop) (σ : L2.St) (H : Hp) (env : Env') (st : BSt) : Prop where
  sl : ∀ (i : Nat) r, env[i]? = some (some r) → ∃ v, σ[i]? = some (some v) ∧ SlAt K β O H v r
  ne : ∀ (i j : Nat) d e a, i ≠ j → env[i]? = some (some (.ow d)) → env[j]? = some (some (.ow e)) → σ[i]? = some (some (.ref a)) → σ[j]? ≠ some (some (.ref a))
  fr : ∀ (i : Nat) d a, env[i]? = some (some (.ow d)) → σ[i]? = some (some (.ref a)) → H0 a = none
  len : env.length = σ.length
  sub : ∀ a, Oo a → O a
  dom : ∀ a, O a → ∃ o, H a = some o ∧ plainO o = true
  dom0 : ∀ a, Oo a → H0 a ≠ none
  sb : SB β H0 H
  bag : BagAt β H st
  bO : ∀ b, β = some b → Oo b
  tabs : NdefX.TabsN Tb0 H
section
variable {K : PySem.W.Frag} {β : Option Addr} {Oo O : Addr → Prop} {H0 H H' : Hp} {σ : L2.St} {env : Env'} {st st' : BSt}
theorem Rel.fzm (r : Rel K β Oo H0 O σ H env st) (h : SB β H H') : Same (Fz O H) (Fz O H') :=
  fz_mono (fun _ z => z) fun a o n t e => h.go a o (fun z => n (r.sub _ (r.bO a z))) t e
theorem Rel.dom' (r : Rel K β Oo H0 O σ H env st) : ∀ a, O a → H a ≠ none := fun a h z => by
  obtain ⟨o, e, _⟩ := r.dom a h
  rw [e] at z; cases z
theorem OwAt.plain {O : Addr → Prop} {H : Hp} {a : Addr} {d : D} (h : OwAt K O H a d) : ∃ o, H a = some o ∧ plainO o = true := by
  cases d with
  | list ds => obtain ⟨xs, h1, _⟩ := h; exact ⟨_, h1, rfl⟩
  | dict kds => exact DcAt.some h
  | none => exact h.elim
  | bool _ => exact h.elim
  | int _ => exact h.elim
  | str _ => exact h.elim
  | tuple _ => exact h.elim
theorem OwAt.mono {O O' : Addr → Prop} {H H' : Hp} {a : Addr} {d : D} (h : OwAt K O H a d) (e : Same (Fz O H) (Fz O' H')) (ha : ∀ o, isTbl o = false → H a = some o → H' a = some o) : OwAt K O' H' a d := by
  cases d with
  | list ds => obtain ⟨xs, h1, h2⟩ := h; exact ⟨xs, ha _ rfl h1, h2.mono e⟩
  | dict kds => exact DcAt.mono h e ha
  | none => exact h
  | bool _ => exact h
  | int _ => exact h
  | str _ => exact h
  | tuple _ => exact h
theorem SlAt.mono {O O' : Addr → Prop} {H H' : Hp} {v : V} {r : R} (h : SlAt K β O H v r) (e : Same (Fz O H) (Fz O' H')) (hb : SB β H H') (ho : ∀ a d, r = .ow d → v = .ref a → O a → O' a) : SlAt K β O' H' v r := by
  cases r with
  | fz d => exact Rp.mono e h
  | ow d => obtain ⟨a, h1, h2, h3, h4⟩ := h; exact ⟨a, h1, ho a d rfl h1 h2, h3, h4.mono e fun o t => hb.go a o h3 t⟩
  | bag => exact h
  | scr ns => obtain ⟨a, h1, h3⟩ := h; exact ⟨a, h1, h3.mono hb e⟩
  | fnc f F ws ds => exact ⟨h.1, h.2.mono e hb⟩
/-- behind an expression -/
theorem Rel.step (r : Rel K β Oo H0 O σ H env st) (h : SB β H H') (hb : BagAt β H' st') : Rel K β Oo H0 O σ H' env st' where
  sl := fun i x e => let ⟨v, h1, h2⟩ := r.sl i x e; ⟨v, h1, h2.mono (r.fzm h) h fun _ _ _ _ z => z⟩
  ne := r.ne
  fr := r.fr
  len := r.len
  sub := r.sub
  dom := fun a ha => by
    by_cases q : β = some a
    · obtain ⟨g, s, _, e⟩ := hb.get q; exact ⟨_, e, rfl⟩
    · obtain ⟨o, e, p⟩ := r.dom a ha; exact ⟨o, h.go a o q (plain_noTbl p) e, p⟩
  dom0 := r.dom0
  sb := r.sb.trans h
  bag := hb
  bO := r.bO
  tabs := h.tb r.tabs
end
end Iv

set_option maxHeartbeats 4000000
namespace Iv
open PySem PySem.Spec PyProof.Rows L2
open PySem.AutoSeq1 (wpAny_loadPart')
/-! ### enumerate(tuple) -/
abbrev tIt (l : Addr) : Obj := { cls := .type "tuple_iterator", data := .fields #[.ref l, .int 0 0] }
abbrev eIt (i : Addr) : Obj := { cls := .type "enumerate", data := .fields #[.none, .bool false, .ref i, rawInt 0, .none, .none] }
theorem enumNewT (l : Addr) (vs : Array Value) (m : Nat) (dd : Option Addr) (ss : Array (Option Value)) :
    Meets (Builtin.«enumerate.__new__» ⟨[.type "enumerate", .ref l], []⟩) (fun _ R s => s.heap.get? l = some { cls := .type "tuple", dict := dd, data := .seq vs m, slots := ss } ∧
      R (.ok (.ret (.ref (s.heap.push (tIt l)).objs.size))) { s with heap := (s.heap.push (tIt l)).push (eIt s.heap.objs.size) }) :=
  .of_wp fun prog w A R s z => by
    obtain ⟨hp, gg, dr, tt, oo⟩ := s
    obtain ⟨q1, q2⟩ := z
    have q0 := sub_enumerate
    have q3 : Heap.IsTuple (Shared.heap ⟨hp, gg, dr, tt, oo⟩) l vs := ⟨_, q1, rfl, m, rfl⟩
    wp_walk using wpAny_loadPart' q1
    refine wpAny_stack_any fun sk => wpAny_pure ?_
    split
    · rename_i cc _ _ _ _ _
      cases (cc == Value.type "enumerate") <;> (wp_walk using wpAny_loadPart' q1, wpAny_pyIter_tuple q3; exact ⟨_, rfl, q2⟩)
    · wp_walk using wpAny_loadPart' q1, wpAny_pyIter_tuple q3
      exact ⟨_, rfl, q2⟩
theorem enumCallT {prog : Program} {w : World} {A : Around} {E : Value → Shared → Prop} {s : Shared} {l : Addr} {vs : Array Value} {Q : Value → Shared → Prop} (hT : s.heap.IsTuple l vs)
    (k : ∀ h', IsEnum h' (s.heap.objs.size + 1) s.heap.objs.size 0 .none → h'.IsTupleIter s.heap.objs.size l 0 → (∀ b o, s.heap.get? b = some o → h'.get? b = some o) → Q (.ref (s.heap.objs.size + 1)) { s with heap := h' }) :
    wpAny (model prog w) A (call (.type "enumerate") [.ref l]) Q E s := by
  obtain ⟨⟨c, dd, dt, ss⟩, g1, g2, m, g3⟩ := hT
  dsimp only at g2 g3
  subst g2; subst g3
  have sz : (s.heap.push (tIt l)).objs.size = s.heap.objs.size + 1 := Heap.size_push ..
  have en : IsEnum ((s.heap.push (tIt l)).push (eIt s.heap.objs.size)) (s.heap.objs.size + 1) s.heap.objs.size 0 .none := by
    have z := Heap.get?_push_size (s.heap.push (tIt l)) (o := eIt s.heap.objs.size) rfl
    rw [sz] at z; exact z
  refine callType_new F.called_enumerate (by decide) (F.typeCall_enumerate_1 _) (F.newCall_enumerate_1 _) (fun ob => F.args_object_init_2 ob _) F.entry_enumerate_new (enumNewT l vs m dd ss) ⟨g1, ?_⟩
  show _ ∧ _
  rw [sz]
  exact ⟨⟨_, en, rfl⟩, k _ en ⟨_, Heap.get?_push_of_some _ (Heap.get?_push_size _ rfl), rfl, rfl⟩ fun b o z => Heap.get?_push_of_some _ (Heap.get?_push_of_some _ z)⟩
def IteT (K : PySem.W.Frag) (a : Addr) : It :=
  ⟨fun i H => ∃ (xs : List V) (x : V), SqT K H a xs ∧ xs[i]? = some x, fun i H v H' => ∃ T x, v = .ref T ∧ H T = none ∧ H' = upd H T (.tup [.int (i : Nat), x]) ∧ ∀ xs, SqT K H a xs → xs[i]? = some x, fun i H => ∃ xs : List V, SqT K H a xs ∧ xs.length = i⟩
theorem enumTurnT {P : Program} {w : World} {K : PySem.W.Frag} {elts : List Expr} {kk : Nat} {tpos : Pos} (a e it : Addr) :
    Turn P w K (.Tuple elts kk tpos) (IteT K a) [e, it] e (fun i h => (∃ old, IsEnum h e it ((i : Nat) : Int) old) ∧ h.IsTupleIter it a i ∧ e ≠ it ∧ a ≠ it ∧ a ≠ e) where
  mem := List.mem_cons_self
  obj := fun i h z b hb => by
    obtain ⟨⟨old, z1⟩, ⟨o, z2, z3, z4⟩, _⟩ := z
    rcases List.mem_cons.mp hb with rfl | hb
    · exact ⟨_, z1, fun v q => nomatch q⟩
    · cases List.mem_singleton.mp hb; exact ⟨o, z2, fun v q => by rw [z4] at q; cases q⟩
  keep := fun i h h' z k => by
    obtain ⟨⟨old, z1⟩, z2, z3⟩ := z
    exact ⟨⟨old, k e List.mem_cons_self _ z1⟩, z2.at fun o q => k it (List.mem_cons_of_mem _ List.mem_cons_self) o q, z3⟩
  item := by
    intro X rfl rfl rfl calm i pins s σ H E I hf z hg
    obtain ⟨⟨old, z1⟩, z2, ne, n2, n3⟩ := z
    obtain ⟨xs, x, hq, hx⟩ := hg
    obtain ⟨its, rv, ht, hz⟩ := I.tuple hq
    obtain ⟨u, hu, ru⟩ := rv.get hx
    have l1 : e < s.heap.objs.size := Heap.lt_size z1
    have l2 : it < s.heap.objs.size := let ⟨_, y, _⟩ := z2; Heap.lt_size y
    have hn : its.toArray.size = xs.length := by rw [List.size_toArray]; exact rv.length.symm
    have hlt : i < its.toArray.size := by rw [hn]; exact (List.getElem?_eq_some_iff.mp hx).1
    have ii : (((i : Nat) : Int)) = ((i : Nat) : Int) := rfl
    refine wpAny_pyNext_enum_itemD (Draws.tuple (by simpa using I.ok.hd calm) it a n2 its.toArray) z1 ⟨z2, ht⟩ hlt ne (by simp [ne, Ne.symm n3]) fun x' h' tk ex ho hst hT hsz hk => ?_
    have exu : x' = u := by
      have h1 : its.toArray[i]? = some u := by simpa using hu
      rw [h1] at ex; exact (Option.some.inj ex).symm
    subst exu
    refine ⟨_, rfl, wpAny_letOwnedTupleGo_enum (s := { s with heap := h', toks := tk + 1 }) ho fun h2 he2 sb => ?_⟩
    have hT2 : h2.get? s.heap.objs.size = some { cls := .type "tuple", data := .seq #[.int i tk, x'] } := (sb.2 _ (Nat.ne_of_gt l1)).trans hT
    have nw : ObjOk X.prog X.w (upd H s.heap.objs.size (.tup [.int (i : Nat), x])) h2 s.heap.objs.size (.tup [.int (i : Nat), x]) :=
      ⟨by show 2 ≤ sizeLine; decide, [.int i tk, x'], .cons ⟨_, rfl⟩ (.cons ru .nil), ⟨_, hT2, rfl, _, rfl⟩⟩
    have I2 : Inv X pins σ (upd H s.heap.objs.size (.tup [.int (i : Nat), x])) { s with heap := h2, toks := tk + 1 } :=
      I.turnedNew (ch := [e, it]) (fun b ob hb q => (sb.2 b (fun y => hb (by simp [y]))).trans (hk b ob (fun y => hb (by simp [y])) (fun y => hb (by simp [y])) q)) hf (Nat.le_refl _) nw
    refine ⟨.ref s.heap.objs.size, _, I2, rfl, ⟨_, x, rfl, I.hok.fresh (Nat.le_refl _), rfl, fun ys hy => by rw [I.tuple_inj hy hq]; exact hx⟩, ⟨⟨x', ?_⟩, hst.1.at fun o q => (sb.2 it (Ne.symm ne)).trans q, ne, n2, n3⟩, fun b hb => ?_⟩
    · have e1 : ((i + 1 : Nat) : Int) = (i : Int) + 1 := by omega
      rw [e1]; exact he2
    · have lb : b < s.heap.objs.size := by
        rcases List.mem_cons.mp hb with rfl | hb
        · exact l1
        · cases List.mem_singleton.mp hb; exact l2
      rw [upd_ne (Nat.ne_of_lt lb)]
      exact (hf b hb).1
  done := by
    intro X rfl rfl rfl calm i pins s σ H E I hf z hg
    obtain ⟨⟨old, z1⟩, z2, ne, n2, n3⟩ := z
    obtain ⟨xs, hq, hx⟩ := hg
    obtain ⟨its, rv, ht, hz⟩ := I.tuple hq
    obtain ⟨f0, f1, f2, f3, f4, f5⟩ := hf it (List.mem_cons_of_mem _ List.mem_cons_self)
    have hn : its.toArray.size = i := by rw [List.size_toArray, ← rv.length]; exact hx
    subst hn
    exact wpAny_pyNext_enum_endD (Draws.tuple (by simpa using I.ok.hd calm) it a n2 its.toArray) z1 ⟨z2, ht⟩ fun h' eb => ⟨rfl, I.turned (t' := s.toks) (fun b o hb q => eb b o hb q) f0 f1 f3 f4 f5⟩
  self := fun A i s Q E z k => let ⟨⟨_, z1⟩, _⟩ := z; wpAny_pyIter_enum z1 k
def iEnumT (K : PySem.W.Frag) (ta : TA) : TI := fun σ H R => ta σ H fun vs H1 => ∃ a xs, vs = [.ref a] ∧ SqT K H1 a xs ∧ R (IteT K a) H1
theorem pi_enumT {X : Cx} {e : Expr} {ta : TA} {p pos tpos : Pos} {elts : List Expr} {kk : Nat} (hg : Gl X "enumerate") (hm : X.mg "enumerate" = none) (ha : PA X [e] ta) (hs : starEach [e] X.env = [(false, eval e X.env)]) :
    PI X (.Tuple elts kk tpos) (.Call (.Name "enumerate" p) [e] [] pos) (iEnumT X.K ta) := by
  refine ⟨fun pins s σ H R I z => ?_⟩
  refine Call_ (ld_blt I hg hm boot_enumerate (PyProof.Rows.callWith_type1 (thn (ha.run pos pins s σ H _ I z) fun us s1 ⟨vs, H1, I1, r1, q1⟩ => ?_) hs rfl))
  obtain ⟨a, xs, rfl, hq, q⟩ := q1
  have eu : us = [.ref a] := Vals.ref1 r1
  subst eu
  obtain ⟨its, rv, ht, _⟩ := I1.tuple hq
  have la : a < s1.heap.objs.size := let ⟨_, y, _⟩ := ht; Heap.lt_size y
  refine enumCallT ht fun h' he hit hk => wpAny_pyIter_enum he ?_
  have I2 : Inv X pins σ H1 { s1 with heap := h' } := I1.kept (t' := s1.toks) hk
  refine ⟨s1.heap.objs.size + 1, [s1.heap.objs.size + 1, s1.heap.objs.size], _, _, H1, rfl, I2, enumTurnT a (s1.heap.objs.size + 1) s1.heap.objs.size, ⟨⟨.none, he⟩, hit, Nat.succ_ne_self _, Nat.ne_of_lt la, Nat.ne_of_lt (Nat.lt_succ_of_lt la)⟩, fun b hb => ?_, q⟩
  have lb : s1.heap.objs.size ≤ b := by
    rcases List.mem_cons.mp hb with rfl | hb
    · exact Nat.le_succ _
    · cases List.mem_singleton.mp hb; exact Nat.le_refl _
  exact I1.fpOk lb (I1.hok.fresh lb)
end Iv

set_option maxHeartbeats 4000000
namespace Iv
open PySem PySem.Spec PyProof.Rows L2
/-! ### set(list of ints), sorted(set(..)) -/
abbrev sNew (w : World) : Obj := { cls := .type "set", dict := none, data := .set #[] 0 (.fresh 0 0 (!w.params.followText "set-order")) }
section
variable {P : Program} {w : World} {A : Around} {E : Value → Shared → Prop} {s : Shared}
theorem setLst {l : Addr} {vs : Array Value} (ns : List Int) {Q : Value → Shared → Prop} (hh : A.handled = none) (hl : s.heap.IsList l vs) (hv : IntsAre vs.toList ns) (hb : ns.length + 1 < scanBound)
    (k : ∀ (h' : Heap) (tk c : Nat), SetR w h' s.heap.objs.size (fun j => decide (j ∈ ns)) c → c ≤ ns.length → (∀ b o, s.heap.get? b = some o → h'.get? b = some o) → Q (.ref s.heap.objs.size) { s with heap := h', toks := tk }) :
    wpAny (model P w) A (call (.type "set") [.ref l]) Q E s := by
  have sz : vs.size = ns.length := by
    have z := IntsAre.length hv
    rwa [Array.length_toList] at z
  obtain ⟨cm, tm, m1⟩ := F.called_set.mro
  have m2 := F.called_set.made
  have m3 := F.called_set.sub
  refine wpAny_call (codeAny_of_tree ?_)
  show wpAny _ _ (callAny (.type "set") _) _ _ _
  refine wpAny_pure ⟨Code.quiet_builtin _ (by decide +kernel), codeAny_builtin F.entry_type_call ?_⟩
  rw [Around.under_plain (weight_type_call_type "set" [.ref l] []) rfl]
  have m4 := F.called_set.notType
  have m5 := F.called_set.canCreate
  have m6 := F.typeCall_set_1 (.ref l)
  repeat (any_goals (first | assumption | wp_step))
  refine codeAny_mono (code_set_led1 (.ref l) (E := E) (Q₁ := fun ob s1 => ob = .ref s.heap.objs.size ∧ s1 = { s with heap := s.heap.push (sNew w) }) ⟨rfl, rfl⟩) fun r s1 hr => ?_
  cases r with
  | error e => exact hr
  | ok fl =>
    cases fl with
    | ret ob =>
      obtain ⟨rfl, rfl⟩ := hr
      have hS : (s.heap.push (sNew w)).get? s.heap.objs.size = some (sNew w) := Heap.get?_push_size _ rfl
      have hT : Shared.TypeIs { s with heap := s.heap.push (sNew w) } (.ref s.heap.objs.size) "set" := ⟨_, hS, rfl⟩
      have m7 := F.called_set.init.lookup
      have m8 := F.called_set.init.bind (.ref s.heap.objs.size)
      repeat (any_goals (first | assumption | wp_step))
      refine codeAny_mono (codeAny_call_builtin (R := wants (fun r s2 => r = .none ∧ ∃ h' tk c, s2 = { s with heap := h', toks := tk } ∧ SetR w h' s.heap.objs.size (fun j => decide (j ∈ ns)) c ∧ c ≤ ns.length ∧ (∀ b o, s.heap.get? b = some o → h'.get? b = some o)) E)
        F.called_set.init.plain F.entry_set_init (check_set_init_1 hT ?_)) fun r2 s2 hr2 => ?_
      · obtain ⟨⟨oc, od, oda, osl⟩, g1, g2, gn, g3⟩ := hl
        dsimp only at g2 g3
        subst g2; subst g3
        have g1' : (s.heap.push (sNew w)).get? l = some { cls := .type "list", dict := od, data := .seq vs gn, slots := osl } := Heap.get?_push_of_some _ g1
        have m9 := F.sub_list_set
        have m10 := F.sub_list_frozenset
        have m11 : (Value.type "list" == Value.type "dict") = false := by decide
        have hl1 : (s.heap.push (sNew w)).IsList l vs := ⟨_, g1', rfl, gn, rfl⟩
        unfold Builtin.«set.__init__» noKeywords Builtin.Frozenset.updateFrom
        generalize hPI : pyIter = PI
        wp_walk
        subst hPI
        refine wpAny_pyIter_list hl1 ?_
        refine wpAny_bind (wpAny_runValue ?_)
        have lS : l < s.heap.objs.size := Heap.lt_size g1
        have h3 : A.in1.in1.in1.handled = none := by simp [hh]
        have zz : (s.heap.push (sNew w)).objs.size = s.heap.objs.size + 1 := Heap.size_push ..
        have nI : l ≠ (s.heap.push (sNew w)).objs.size := by rw [zz]; exact Nat.ne_of_lt (Nat.lt_succ_of_lt lS)
        have nS : s.heap.objs.size ∉ [(s.heap.push (sNew w)).objs.size, l] := by
          rw [zz]
          intro z
          rcases List.mem_cons.mp z with z | z
          · omega
          · exact Nat.ne_of_gt lS (List.mem_singleton.mp z)
        have val : ∀ (i : Nat) (v : Value), vs[i]? = some v → ∃ k t, ns[i]? = some k ∧ v = .int k t := fun i v e => by
          have hi : i < ns.length := by rw [← sz]; exact (Array.getElem?_eq_some_iff.mp e).1
          obtain ⟨t, et⟩ := PyProof.Rows.IntsAre.int_at hv i v (by rw [Array.getElem?_toList]; exact e)
          exact ⟨ns[i], t, List.getElem?_eq_getElem hi, by rw [et, List.getD_eq_getElem?_getD, List.getElem?_eq_getElem hi] <;> rfl⟩
        refine set_update_ints ((Walks.list h3 _ l nI vs).toS) s.heap.objs.size nS ns sz hb val (vs.size - 0) 0 _ (by omega) (Nat.zero_le _) ⟨⟨_, Heap.get?_push_size _ rfl, rfl, rfl⟩, (hl1.push _)⟩ ?zA ?zB
        case zA => exact ⟨0, Nat.le_refl 0, setR_new_at (Heap.get?_push_of_some _ hS)⟩
        case zB =>
          intro s' c' mv cc hS'
          obtain ⟨h', gg, dr, tt, oo⟩ := s'
          have eg : gg = s.gens := mv.gens
          have ed : dr = s.drawn := mv.drawn
          have eo : oo = s.os := mv.os
          subst eg; subst ed; subst eo
          show wpAny _ _ _ _ _ _
          refine wpAny_pure ?_
          show wpAny _ _ (ret Value.none) _ _ _
          rw [sz] at cc
          refine wpAny_pure ⟨rfl, h', tt, c', rfl, hS', cc, fun b o e => ?_⟩
          have lb : b < s.heap.objs.size := Heap.lt_size e
          refine mv.heap b o (fun z => ?_) (Heap.get?_push_of_some _ (Heap.get?_push_of_some _ e))
          rcases List.mem_cons.mp z with z | z
          · exact Nat.ne_of_lt lb z
          · exact Nat.ne_of_lt (Nat.lt_succ_of_lt lb) ((List.mem_singleton.mp z).trans zz)
      · cases r2 with
        | error e => exact hr2
        | ok fl2 =>
          cases fl2 with
          | ret r =>
            obtain ⟨rfl, h', tk, c', rfl, y1, y2, y3⟩ := hr2
            repeat (any_goals (first | assumption | wp_step))
            exact k _ _ _ y1 y2 y3
          | _ => exact hr2.elim
    | _ => exact hr.elim
end
/-- set(xs) of ints -/
def rSetL (K : PySem.W.Frag) (w : World) : List V → Hp → VK → Prop := fun xs H Q => ∃ (l : Addr) (ns : List Int), xs = [V.ref l] ∧ SqL K H l (ns.map V.int) ∧ ns.length < 64 ∧
  ∀ p c, H p = none → c ≤ ns.length → Q (.ref p) (upd H p (SetO w p (fun j => decide (j ∈ ns)) c))
theorem cr_setL {X : Cx} (hc : X.calm = true) : CallR X (.type "set") (rSetL X.K X.w) := by
  intro pins s σ H xs us Q I r z
  obtain ⟨l, ns, rfl, hs, h64, q⟩ := z
  rw [Vals.ref1 r]
  obtain ⟨its, rv, pl, hz⟩ := I.list hs
  refine setLst ns (I.ok.hd hc) pl.isList (by simpa using rv.ints) (by unfold scanBound; omega) fun h' tk c R hcl hk => ?_
  exact ⟨.ref s.heap.objs.size, _, I.laid (t' := tk) (fun b u e => hk b u e) (Nat.le_refl _) (setO_new R), rfl, q _ c (I.hok.fresh (Nat.le_refl _)) hcl⟩
end Iv

set_option maxHeartbeats 4000000
namespace Iv
open PySem PySem.Spec PyProof.Rows L2
/-! ### t[::-1] of a tuple -/
theorem adjRev (n : Nat) : Builtin.Slice.sliceAdjust none none (-1) (n : Int) = ((n : Int) - 1, -1) := by
  unfold Builtin.Slice.sliceAdjust
  simp
theorem plcRev (n : Nat) : Builtin.Slice.slicePlaces ((n : Int) - 1) (-1) (-1) = n := by
  unfold Builtin.Slice.slicePlaces
  have h1 : ¬ ((-1 : Int) > 0) := by omega
  simp only [h1, if_false]
  split <;> simp <;> omega
theorem fm_congr {α γ : Type} {f g : α → Option γ} : ∀ {l : List α}, (∀ x ∈ l, f x = g x) → l.filterMap f = l.filterMap g
  | [], _ => rfl
  | x :: l, h => by
    rw [List.filterMap_cons, List.filterMap_cons, h x List.mem_cons_self, fm_congr fun y hy => h y (List.mem_cons_of_mem _ hy)]
theorem pickRev (xs : List Value) : ((List.range xs.length).filterMap fun (m : Nat) => xs.toArray[(((xs.length : Int) - 1) + (m : Int) * (-1)).toNat]?) = xs.reverse := by
  apply List.ext_getElem?
  intro j
  have e : ((List.range xs.length).filterMap fun (m : Nat) => xs.toArray[(((xs.length : Int) - 1) + (m : Int) * (-1)).toNat]?) = (List.range xs.length).map fun m => xs.reverse.getD m default := by
    rw [← List.filterMap_eq_map]
    refine fm_congr fun m hm => ?_
    have hm : m < xs.length := List.mem_range.mp hm
    have z : (((xs.length : Int) - 1) + (m : Int) * (-1)).toNat = xs.length - 1 - m := by omega
    rw [z]
    simp [List.getD_eq_getElem?_getD, List.getElem?_reverse hm]
    rw [List.getElem?_eq_getElem (by omega)]
    rfl
  rw [e, List.getElem?_map]
  by_cases hj : j < xs.length
  · rw [List.getElem?_range hj, List.getElem?_eq_getElem (by simpa using hj)]
    simp [List.getD_eq_getElem?_getD, hj]
  · rw [List.getElem?_eq_none (by simpa using hj), List.getElem?_eq_none (by simpa using hj)]; rfl
section
variable {prog : Program} {w : World} {A : Around} {E : Value → Shared → Prop} {s : Shared}
theorem slRev {sl : Addr} {vs : Value} {n : Nat} {Q : Int × Int × Nat → Shared → Prop} (hs : s.heap.IsSliceOf sl .none .none vs) (ps : IsPart vs (some (-1))) (k : Q ((n : Int) - 1, -1, n) s) : wpAny (model prog w) A (Builtin.Slice.sliceApplied (.ref sl) (pure (n : Int))) Q E s := by
  obtain ⟨o, g1, g2, g3⟩ := id hs
  unfold Builtin.Slice.sliceApplied Builtin.Slice.sliceFields
  refine wpAny_bind (wpAny_bind (wpAny_field g1 g3 (x := .none) rfl (wpAny_bind (wpAny_field g1 g3 (x := .none) rfl (wpAny_bind (wpAny_field g1 g3 (x := vs) rfl (wpAny_pure ?_)))))))
  refine wpAny_bind (HT.slicePart_ ps ?_)
  show wpAny _ _ (if ((-1 : Int) == 0) = true then _ else _) _ _ s
  rw [if_neg (by decide)]
  refine wpAny_bind (HT.slicePart_ .none (wpAny_bind (HT.slicePart_ .none (wpAny_bind (wpAny_pure ?_)))))
  show wpAny _ _ (match Builtin.Slice.sliceAdjust none none (-1) (n : Int) with | (lo, hi) => pure (lo, (-1 : Int), Builtin.Slice.slicePlaces lo hi (-1))) _ _ s
  rw [adjRev n]
  show wpAny _ _ (pure ((n : Int) - 1, (-1 : Int), Builtin.Slice.slicePlaces ((n : Int) - 1) (-1) (-1))) _ _ s
  rw [plcRev]
  exact wpAny_pure k
theorem getRev {t sl : Addr} {its : List Value} {vs : Value} {Q : Value → Shared → Prop} (ht : IsTup s.heap t its.toArray) (hs : s.heap.IsSliceOf sl .none .none vs) (ps : IsPart vs (some (-1)))
    (k : Q (.ref s.heap.objs.size) { s with heap := s.heap.push { cls := .type "tuple", data := .seq its.reverse.toArray } }) (hz : its.length ≤ sizeLine) : wpAny (model prog w) A (getItem (.ref t) (.ref sl)) Q E s := by
  have htk : sizeOk (.seq its.reverse.toArray) := by
    show its.reverse.toArray.size ≤ sizeLine
    simpa using hz
  obtain ⟨o, g1, g2, g3⟩ := id hs
  have hT : s.TypeIs (.ref sl) "slice" := ⟨o, g1, g2⟩
  unfold getItem
  try with_reducible refine wpAny_holding ?_
  first | refine wpAny_bind (wpAny_pure ?_) | skip
  refine wpAny_bind (wpAny_sequenceKey ht.typeIs (by decide) ?_)
  refine wpAny_bind (wpAny_callSpecial?_slot (name := Str.ofString "__getitem__") ht.typeIs PyProof.Rows.slot_tuple_getitem (wpAny_call_entry PyProof.Rows.slot_tuple_getitem ht.typeIs entry_tuple_getitem ?_ (args_tuple_getitem _ _)))
  show wpAny _ _ (Builtin.Tuple.tupleItemsOf (.ref t) >>= _) _ _ s
  refine wpAny_bind (tupleItemsOf_ ht ?_)
  refine wpAny_bind (wpAny_typeOf hT ?_)
  rw [if_pos (by decide)]
  refine wpAny_bind (slRev (n := its.toArray.size) hs ps ?_)
  have hn : ¬ ((((its.toArray.size : Int) - 1) == 0 && (-1 : Int) == 1 && its.toArray.size == its.toArray.size) = true) := by simp
  show wpAny _ _ (if (((its.toArray.size : Int) - 1) == 0 && (-1 : Int) == 1 && its.toArray.size == its.toArray.size) = true then _ else _) _ _ s
  rw [if_neg hn]
  rw [List.size_toArray, pickRev]
  first
    | exact wpAny_bind (m := Builtin.Tuple.tupleExact _) (wpAny_newObj_type (wpAny_pure ⟨_, rfl, wpAny_pure k⟩) htk)
    | exact wpAny_bind (m := Builtin.Tuple.tupleExact _) (wpAny_newObj_type (wpAny_bind (wpAny_pure (wpAny_pure ⟨_, rfl, wpAny_pure k⟩))) htk)
    | exact wpAny_bind (wpAny_bind (m := Builtin.Tuple.tupleExact _) (wpAny_newObj_type (wpAny_pure (wpAny_pure ⟨_, rfl, wpAny_pure k⟩)) htk))
    | exact wpAny_bind (wpAny_bind (m := Builtin.Tuple.tupleExact _) (wpAny_newObj_type (wpAny_pure ⟨_, rfl, wpAny_pure k⟩) htk))
end
def tRevT (K : PySem.W.Frag) (te : TE) : TE := fun σ H Q => te σ H fun x H1 => ∃ a xs, x = .ref a ∧ SqT K H1 a xs ∧ ∀ p, H1 p = none → Q (.ref p) (upd H1 p (.tup xs.reverse))
theorem pe_revT {X : Cx} {e : Expr} {te : TE} {k : Nat} {p1 p2 p3 pos : Pos} (he : PE X e te) : PE X (.Subscript e (.Slice none none (some (.UnaryOp .USub (.Constant (.int 1) k p1) p2)) p3) pos) (tRevT X.K te) := by
  refine ⟨fun pins s σ H Q I z => ?_⟩
  refine Subscript_ (thn (he.run pins s σ H _ I z) fun v s1 ⟨x, H1, I1, r1, a, xs, ex, hx, q⟩ => ?_)
  subst ex
  cases r1
  have pm : PO X (some (.UnaryOp .USub (.Constant (.int 1) k p1) p2)) (tPart (tUn (rU fun i => .int (-i)) (tC (.int 1)))) := po_some (pe_un un_neg pe_int)
  refine wpAny_Slice (thn (po_none.run pins s1 σ H1 (fun o H2 => o = none ∧ H2 = H1) I1 ⟨rfl, rfl⟩) fun vl s2 ⟨l, H2, I2, pl, el, e2⟩ => ?_)
  subst el e2
  refine thn (po_none.run pins s2 σ H2 (fun o H3 => o = none ∧ H3 = H2) I2 ⟨rfl, rfl⟩) fun vu s3 ⟨u, H3, I3, pu, eu, e3⟩ => ?_
  subst eu e3
  refine thn (pm.run pins s3 σ H3 (fun o H4 => o = some (-1) ∧ H4 = H3) I3 ⟨1, rfl, -1, rfl, rfl, rfl⟩) fun vs s4 ⟨o, H4, I4, ps, eo, e4⟩ => ?_
  subst eo e4
  cases pl
  cases pu
  have I5 : Inv X pins σ H4 { s4 with heap := s4.heap.push { cls := .type "slice", data := .fields #[.none, .none, vs] } } := I4.kept (t' := s4.toks) fun b ob y => Heap.get?_push_of_some _ y
  obtain ⟨its, r, ht, hz⟩ := I5.tuple hx
  show wpAny (model X.prog X.w) X.A (subscriptTail e (.Slice none none (some (.UnaryOp .USub (.Constant (.int 1) k p1) p2)) p3) (.ref a) (.ref s4.heap.objs.size)) (EP X pins σ Q) X.xe _
  refine tail_any (ops := [.ref a, .ref s4.heap.objs.size]) ht.typeIs (PyProof.Rows.slot_tuple_getitem.lookup) ?_ (by with_unfolding_all rfl)
  refine getRev ht (Heap.IsSliceOf.new _ .none .none vs) ps ?_ (by rw [← r.length]; exact hz)
  exact ⟨.ref _, _, I5.laid (t' := s4.toks) (o := .tup xs.reverse) (fun b ob y => Heap.get?_push_of_some _ y) (Nat.le_refl _) ⟨by rw [List.length_reverse]; exact hz, _, r.reverse, ⟨_, Heap.get?_push_size _ rfl, rfl, _, rfl⟩⟩, rfl, q _ (I5.hok.fresh (Nat.le_refl _))⟩
end Iv

set_option maxHeartbeats 4000000
namespace Iv
open PySem PySem.Spec PyProof.Rows L2
variable [Nm]
/-! ### the weakest readings -/
def We (X : Cx) (e : Expr) : TE := fun σ H Q => ∀ pins s, Inv X pins σ H s → wpAny (model X.prog X.w) X.A (eval e X.env) (EP X pins σ Q) X.xe s
def Wt (X : Cx) (e : Expr) : TT := fun σ H Q => ∀ pins s, Inv X pins σ H s → wpAny (model X.prog X.w) X.A (isTrue e X.env (eval e X.env)) (TP X pins σ Q) X.xe s
def Wa (X : Cx) (es : List Expr) : TA := fun σ H Q => ∀ pos pins s, Inv X pins σ H s → wpAny (model X.prog X.w) X.A (spliced (backTo pos (starEach es X.env))) (AP X pins σ Q) X.xe s
def Wo (X : Cx) (f : Value → Value → Sem Value) : R2 := fun x y H Q => ∀ pins s σ v u, Inv X pins σ H s → RelV x v → RelV y u → wpAny (model X.prog X.w) X.A (f v u) (EP X pins σ Q) X.xe s
theorem we_pe (X : Cx) (e : Expr) : PE X e (We X e) := ⟨fun pins s _ _ _ I h => h pins s I⟩
theorem wt_pt (X : Cx) (e : Expr) : PT X e (Wt X e) := ⟨fun pins s _ _ _ I h => h pins s I⟩
theorem wa_pa (X : Cx) (es : List Expr) : PA X es (Wa X es) := ⟨fun pos pins s _ _ _ I h => h pos pins s I⟩
theorem wo_op (X : Cx) (f : Value → Value → Sem Value) : OpR X f (Wo X f) := fun pins s σ H x y v u Q I rx ry h => h pins s σ v u I rx ry
theorem _root_.L2.PE.we {X : Cx} {e : Expr} {t : TE} {σ : L2.St} {H : Hp} {Q : VK} (h : PE X e t) (q : t σ H Q) : We X e σ H Q := fun pins s I => h.run pins s σ H Q I q
theorem _root_.L2.PT.wt {X : Cx} {e : Expr} {t : TT} {σ : L2.St} {H : Hp} {Q : Bool → Hp → Prop} (h : PT X e t) (q : t σ H Q) : Wt X e σ H Q := fun pins s I => h.run pins s σ H Q I q
theorem _root_.L2.PA.wa {X : Cx} {es : List Expr} {t : TA} {σ : L2.St} {H : Hp} {Q : List V → Hp → Prop} (h : PA X es t) (q : t σ H Q) : Wa X es σ H Q := fun pos pins s I => h.run pos pins s σ H Q I q
theorem wo_of {X : Cx} {f : Value → Value → Sem Value} {r : R2} {x y : V} {H : Hp} {Q : VK} (h : OpR X f r) (q : r x y H Q) : Wo X f x y H Q := fun pins s σ v u I rx ry => h pins s σ H x y v u Q I rx ry q
/-! ### a value that is read: its top may be owned -/
def TopAt (K : PySem.W.Frag) (β : Option Addr) (O : Addr → Prop) (H : Hp) (v : V) : D → Prop
  | .list ds => ∃ a xs, v = .ref a ∧ β ≠ some a ∧ H a = some (.lst xs) ∧ RpAll K (Fz O H) xs ds
  | .dict kds => ∃ a, v = .ref a ∧ β ≠ some a ∧ DcAt K O H a kds
  | d => Rp K (Fz O H) v d
def R.d? : R → Option D
  | .fz d => some d
  | .ow d => some d
  | _ => none
abbrev EF := Env' → BSt → Option (R × BSt)
abbrev VF := Env' → BSt → Option (D × BSt)
abbrev TF := Env' → BSt → Option (Bool × BSt)
abbrev AF := Env' → BSt → Option (List R × BSt)
section
variable {K : PySem.W.Frag} {β : Option Addr} {Oo O : Addr → Prop} {H0 H H' : Hp} {σ : L2.St} {env : Env'} {st st' : BSt}
theorem zip_fst {α γ : Type} : ∀ {as : List α} {bs : List γ}, as.length = bs.length → (as.zip bs).map (·.1) = as
  | [], [], _ => rfl
  | a :: as, b :: bs, h => by simp only [List.zip_cons_cons, List.map_cons]; rw [zip_fst (by simpa using h)]
theorem zip_snd {α γ : Type} : ∀ {as : List α} {bs : List γ}, as.length = bs.length → (as.zip bs).map (·.2) = bs
  | [], [], _ => rfl
  | a :: as, b :: bs, h => by simp only [List.zip_cons_cons, List.map_cons]; rw [zip_snd (by simpa using h)]
theorem zip_unzip {α γ : Type} : ∀ l : List (α × γ), (l.map (·.1)).zip (l.map (·.2)) = l
  | [] => rfl
  | (a, b) :: l => by simp only [List.map_cons, List.zip_cons_cons]; rw [zip_unzip l]
theorem top_of_rp (hb : ∀ b, β = some b → O b) {v : V} {d : D} (h : Rp K (Fz O H) v d) : TopAt K β O H v d := by
  cases h with
  | non => exact .non
  | bl b => exact .bl b
  | int i => exact .int i
  | str x => exact .str x
  | lst h1 h2 => exact ⟨_, _, rfl, fun z => (fz_some h1).1 (hb _ z), (fz_some h1).2, h2⟩
  | tup h1 h2 => exact .tup h1 h2
  | @dct a kvs ds h1 h2 =>
    have l : (kvs.map fun p => kD p.1).length = ds.length := by rw [← h2.length]; simp
    exact ⟨_, rfl, fun z => (fz_some h1).1 (hb _ z), .inl ⟨kvs, (fz_some h1).2, zip_fst l, by rw [zip_snd l]; exact h2⟩⟩
  | @dctT a kvs ds h1 h2 =>
    have l : (kvs.map fun p => PyData.tuple (p.1.map kD)).length = ds.length := by rw [← h2.length]; simp
    exact ⟨_, rfl, fun z => (fz_some h1).1 (hb _ z), .inr ⟨_, rfl, kvs, (fz_some h1).2, zip_fst l, by rw [zip_snd l]; exact h2⟩⟩
theorem top_of_ow {a : Addr} {d : D} (hn : β ≠ some a) (h : OwAt K O H a d) : TopAt K β O H (.ref a) d := by
  cases d with
  | list ds => obtain ⟨xs, h1, h2⟩ := h; exact ⟨a, xs, rfl, hn, h1, h2⟩
  | dict kds => exact ⟨a, rfl, hn, h⟩
  | none => exact h.elim
  | bool _ => exact h.elim
  | int _ => exact h.elim
  | str _ => exact h.elim
  | tuple _ => exact h.elim
theorem TopAt.mono {O' : Addr → Prop} {v : V} {d : D} (h : TopAt K β O H v d) (e : Same (Fz O H) (Fz O' H')) (hb : SB β H H') : TopAt K β O' H' v d := by
  cases d with
  | list ds => obtain ⟨a, xs, h1, h0, h2, h3⟩ := h; exact ⟨a, xs, h1, h0, hb.go _ _ h0 rfl h2, h3.mono e⟩
  | dict kds => obtain ⟨a, h1, h0, h2⟩ := h; exact ⟨a, h1, h0, h2.mono e fun o t => hb.go a o h0 t⟩
  | none => exact Rp.mono e h
  | bool _ => exact Rp.mono e h
  | int _ => exact Rp.mono e h
  | str _ => exact Rp.mono e h
  | tuple _ => exact Rp.mono e h
/-- a fresh thing is frozen by forgetting -/
theorem rp_of_fresh {p : Addr} {d : D} (hO : ¬ O p) (h : OwAt K (orO O p) H' p d) : Rp K (Fz O H') (.ref p) d := by
  have e : Same (Fz (orO O p) H') (Fz O H') := fz_mono (fun a z => .inl z) fun a o _ _ q => q
  cases d with
  | list ds => obtain ⟨xs, h1, h2⟩ := h; exact .lst (fz_put hO h1 rfl) (h2.mono e)
  | dict kds =>
    rcases h with ⟨kvs, h1, h2, h3⟩ | ⟨kds', rfl, kvs, h1, h2, h3⟩
    · have q := Rp.dct (K := K) (H := Fz O H') (a := p) (fz_put hO h1 rfl) (h3.mono e)
      rw [← h2, zip_unzip] at q
      exact q
    · have q := Rp.dctT (K := K) (H := Fz O H') (a := p) (fz_put hO h1 rfl) (h3.mono e)
      rw [← h2, zip_unzip] at q
      exact q
  | none => exact h.elim
  | bool _ => exact h.elim
  | int _ => exact h.elim
  | str _ => exact h.elim
  | tuple _ => exact h.elim
theorem Rel.notO (r : Rel K β Oo H0 O σ H env st) {p : Addr} (h : H p = none) : ¬ O p := fun z => r.dom' p z h
theorem Rel.bO' (r : Rel K β Oo H0 O σ H env st) : ∀ b, β = some b → O b := fun b h => r.sub b (r.bO b h)
theorem Rel.neB (r : Rel K β Oo H0 O σ H env st) {p : Addr} (h : H p = none) : β ≠ some p := fun z => r.notO h (r.bO' p z)
/-- a result as frozen data -/
theorem ResAt.rp (r : Rel K β Oo H0 O σ H env st) {v : V} {x : R} {d : D} (h : ResAt K β O H H' v x) (e : x.d? = some d) : Rp K (Fz O H') v d := by
  cases x with
  | fz d' => cases e; exact h
  | ow d' => cases e; obtain ⟨p, rfl, h1, h2, h3⟩ := h; exact rp_of_fresh (r.notO h1) h3
  | bag => cases e
  | scr _ => cases e
  | fnc _ _ _ _ => cases e
theorem ResAt.top (r : Rel K β Oo H0 O σ H env st) {v : V} {x : R} {d : D} (h : ResAt K β O H H' v x) (e : x.d? = some d) : TopAt K β O H' v d := top_of_rp r.bO' (h.rp r e)
end
/-! ### soundness -/
def SoundE (X : Cx) (e : Expr) (f : EF) : Prop := ∀ ⦃β : Option Addr⦄ ⦃Oo : Addr → Prop⦄ ⦃H0 : Hp⦄ ⦃O : Addr → Prop⦄ ⦃σ : L2.St⦄ ⦃H : Hp⦄ ⦃env : Env'⦄ ⦃st : BSt⦄ ⦃r : R⦄ ⦃st' : BSt⦄ ⦃Q : VK⦄,
  Rel X.K β Oo H0 O σ H env st → f env st = some (r, st') → (∀ v H', SB β H H' → BagAt β H' st' → ResAt X.K β O H H' v r → Q v H') → We X e σ H Q
def SoundV (X : Cx) (e : Expr) (f : VF) : Prop := ∀ ⦃β : Option Addr⦄ ⦃Oo : Addr → Prop⦄ ⦃H0 : Hp⦄ ⦃O : Addr → Prop⦄ ⦃σ : L2.St⦄ ⦃H : Hp⦄ ⦃env : Env'⦄ ⦃st : BSt⦄ ⦃d : D⦄ ⦃st' : BSt⦄ ⦃Q : VK⦄,
  Rel X.K β Oo H0 O σ H env st → f env st = some (d, st') → (∀ v H', SB β H H' → BagAt β H' st' → TopAt X.K β O H' v d → Q v H') → We X e σ H Q
def SoundT (X : Cx) (e : Expr) (f : TF) : Prop := ∀ ⦃β : Option Addr⦄ ⦃Oo : Addr → Prop⦄ ⦃H0 : Hp⦄ ⦃O : Addr → Prop⦄ ⦃σ : L2.St⦄ ⦃H : Hp⦄ ⦃env : Env'⦄ ⦃st : BSt⦄ ⦃b : Bool⦄ ⦃st' : BSt⦄ ⦃Q : Bool → Hp → Prop⦄,
  Rel X.K β Oo H0 O σ H env st → f env st = some (b, st') → (∀ H', SB β H H' → BagAt β H' st' → Q b H') → Wt X e σ H Q
/-- arguments: frozen, or the bag, or the script -/
def ArgAt (K : PySem.W.Frag) (β : Option Addr) (O : Addr → Prop) (H : Hp) (v : V) (r : R) : Prop := (∀ d, r ≠ .ow d) ∧ SlAt K β O H v r
def ArgsAt (K : PySem.W.Frag) (β : Option Addr) (O : Addr → Prop) (H : Hp) : List V → List R → Prop := Paired (ArgAt K β O H)
/-- no def made in a def among them -/
def NoF (rs : List R) : Prop := ∀ f F ws ds, R.fnc f F ws ds ∉ rs
def SoundA (X : Cx) (es : List Expr) (f : AF) : Prop := ∀ ⦃β : Option Addr⦄ ⦃Oo : Addr → Prop⦄ ⦃H0 : Hp⦄ ⦃O : Addr → Prop⦄ ⦃σ : L2.St⦄ ⦃H : Hp⦄ ⦃env : Env'⦄ ⦃st : BSt⦄ ⦃rs : List R⦄ ⦃st' : BSt⦄ ⦃Q : List V → Hp → Prop⦄,
  Rel X.K β Oo H0 O σ H env st → f env st = some (rs, st') → (∀ vs H', SB β H H' → BagAt β H' st' → ArgsAt X.K β O H' vs rs → NoF rs → Q vs H') → Wa X es σ H Q
def failE (_ : Env') (_ : BSt) : Option (R × BSt) := none
def R.down : R → R
  | .ow d => .fz d
  | r => r
section
variable {X : Cx}
theorem s_fail {e : Expr} : SoundE X e failE := fun _ _ _ _ _ _ _ _ _ _ _ _ h => by cases h
theorem argAt_of {K : PySem.W.Frag} {β : Option Addr} {Oo O : Addr → Prop} {H0 H H' : Hp} {σ : L2.St} {env : Env'} {st : BSt} (r : Rel K β Oo H0 O σ H env st) {v : V} {x : R} (h : ResAt K β O H H' v x) : ArgAt K β O H' v x.down := by
  cases x with
  | fz d => exact ⟨fun _ z => (by cases z), h⟩
  | ow d => exact ⟨fun _ z => (by cases z), h.rp r rfl⟩
  | bag => exact ⟨fun _ z => (by cases z), h⟩
  | scr ns => exact ⟨fun _ z => (by cases z), h⟩
  | fnc _ _ _ _ => exact h.elim
theorem noF_cons {K : PySem.W.Frag} {β : Option Addr} {O : Addr → Prop} {H H' : Hp} {v : V} {x : R} {rs : List R} (h : ResAt K β O H H' v x) (n : NoF rs) : NoF (x.down :: rs) := fun f F ws ds hm => by
  rcases List.mem_cons.mp hm with e | hm
  · cases x <;> first | exact h.elim | cases e
  · exact n _ _ _ _ hm
theorem ArgAt.mono {K : PySem.W.Frag} {β : Option Addr} {O O' : Addr → Prop} {H H' : Hp} {v : V} {x : R} (h : ArgAt K β O H v x) (e : Same (Fz O H) (Fz O' H')) (hb : SB β H H') : ArgAt K β O' H' v x := ⟨h.1, h.2.mono e hb fun a d q => absurd q (h.1 d)⟩
/-- the value of an expression, read -/
def valF (f : EF) (env : Env') (st : BSt) : Option (D × BSt) := (f env st).bind fun p => p.1.d?.map fun d => (d, p.2)
theorem s_val {e : Expr} {f : EF} (h : SoundE X e f) : SoundV X e (valF f) := by
  intro β Oo H0 O σ H env st d st' Q r hf q
  unfold valF at hf
  cases e1 : f env st with
  | none => rw [e1] at hf; cases hf
  | some p =>
    obtain ⟨x, st1⟩ := p
    rw [e1] at hf
    simp only [Option.bind_some] at hf
    cases e2 : x.d? with
    | none => rw [e2] at hf; cases hf
    | some d' =>
      rw [e2] at hf
      cases hf
      exact h r e1 fun v H' a b c => q v H' a b (c.top r e2)
end
end Iv

set_option maxHeartbeats 4000000
namespace Iv
open PySem PySem.Spec PyProof.Rows L2
section
variable {X : Cx}
/-! ### x in t, x not in t, t a tuple of data -/
theorem room_in_shaped' {d : PyData} {A : Around} (n : Nat) (sd : SeqAt.shaped d = true) (hu : A.units + 65 < cLine) : A.units + 1 + min n d.depth < cLine := by
  have h : d.depth ≤ 64 := by
    unfold SeqAt.shaped at sd
    rw [Bool.and_eq_true] at sd
    exact of_decide_eq_true sd.2
  have := Nat.min_le_right n d.depth
  omega
theorem op_inT (hu : X.A.units + 65 < cLine) : OpR X (compareOp .In) (fun x y H Q => ∃ d ds, Dp X.K H x d ∧ Dp X.K H y (.tuple ds) ∧ SeqAt.shaped d = true ∧ SeqAt.shaped (.tuple ds) = true ∧ Q (.bl (ds.any fun z => PyData.eqv z d)) H) := by
  intro pins s σ H x y v u Q I rx ry h
  obtain ⟨d, ds, hd, he, sd, se, q⟩ := h
  obtain ⟨as, r1⟩ := Dp.reads I d x v hd rx
  obtain ⟨bs, r2⟩ := Dp.reads I (.tuple ds) y u he ry
  exact SeqAt.in_tuple_reads r2 r1 (SeqAt.canLay_of_shaped se) (SeqAt.canLay_of_shaped sd) (room_in_shaped' _ sd hu) ⟨.bl _, H, I, rfl, q⟩
theorem op_notInT (hu : X.A.units + 65 < cLine) : OpR X (compareOp .NotIn) (fun x y H Q => ∃ d ds, Dp X.K H x d ∧ Dp X.K H y (.tuple ds) ∧ SeqAt.shaped d = true ∧ SeqAt.shaped (.tuple ds) = true ∧ Q (.bl (!ds.any fun z => PyData.eqv z d)) H) := by
  intro pins s σ H x y v u Q I rx ry h
  obtain ⟨d, ds, hd, he, sd, se, q⟩ := h
  obtain ⟨as, r1⟩ := Dp.reads I d x v hd rx
  obtain ⟨bs, r2⟩ := Dp.reads I (.tuple ds) y u he ry
  exact SeqAt.notIn_tuple_reads r2 r1 (SeqAt.canLay_of_shaped se) (SeqAt.canLay_of_shaped sd) (room_in_shaped' _ sd hu) ⟨.bl _, H, I, rfl, q⟩
/-! ### xs += ys, both lists -/
theorem seq_list_iadd : seqSlot? (.type "list") (dunderI "add") = pure (some (.builtin "list.__iadd__")) := PySem.seqSlot_of F.slot_list_iadd.lookup (by decide +kernel)
theorem noFill_list_iadd : fillsInplaceSlot (.type "list") "add" (Operator.Add == .Add) = pure false := by
  unfold fillsInplaceSlot
  show (typeLookup (.type "list") (dunderI "add") >>= fun fi => pure (fi.isSome && !isSeqSlot fi)) = pure false
  have e : isSeqSlot (some (.builtin "list.__iadd__")) = true := by decide +kernel
  rw [F.slot_list_iadd.lookup, pure_bind, e]; rfl
theorem iadd_lists {prog : Program} {w : World} {A : Around} {E : Value → Shared → Prop} {s : Shared} {a b : Value} {Q : Value → Shared → Prop} (ha : s.TypeIs a "list") (hb : s.TypeIs b "list")
    (hc : wpAny (model prog w) A (call (.builtin "list.__iadd__") [a, b]) Q E s) : wpAny (model prog w) A (inplaceOp .Add a b) Q E s := by
  unfold inplaceOp
  refine wpAny_holding ?_
  refine wpAny_bind (wpAny_typeOf ha (wpAny_bind (wpAny_of_eq noFill_list_iadd ?_)))
  show wpAny _ A (if false = true then _ else _) Q E s
  rw [if_neg Bool.false_ne_true]
  refine wpAny_bind (wpAny_binaryOp1_none (nm := "add") ha hb noFill_list_add ?_)
  refine wpAny_bind (wpAny_of_eq seq_list_iadd ?_)
  exact wpAny_bind (wpAny_rule hc)
def ipL : TIp := fun x y H Q => ∃ l b xs zs, x = .ref l ∧ y = .ref b ∧ H l = some (.lst xs) ∧ H b = some (.lst zs) ∧ xs.length + zs.length ≤ sizeLine ∧ Q (.ref l) (upd H l (.lst (xs ++ zs)))
theorem ip_addL : PIp X .Add ipL := by
  intro pins s σ H x y v u Q I rx ry h
  obtain ⟨l, b, xs, zs, rfl, rfl, hH, hB, hz, q⟩ := h
  cases rx
  cases ry
  obtain ⟨z, its, n, r, hl, e⟩ := I.lstM hH
  obtain ⟨z2, its2, n2, r2, hl2, e2⟩ := I.lstM hB
  have hsz : its.toArray.size + its2.toArray.size ≤ sizeLine := by rw [List.size_toArray, List.size_toArray]; omega
  have hlong : ¬ (!its.toArray.isEmpty && Builtin.List.listTooLong (its.toArray.size + its2.toArray.size)) = true := by
    rw [notLongL hsz, Bool.and_false]
    exact Bool.false_ne_true
  refine iadd_lists ⟨_, e, rfl⟩ ⟨_, e2, rfl⟩ (call_meets F.slot_list_iadd ⟨_, e, rfl⟩ F.entry_list_iadd (F.args_list_iadd_2 _ _)
    (AutoSeq1.list___iadd___list_list_0 l its.toArray n b its2.toArray n2 hlong (by rw [List.size_toArray]; omega) (by omega)) ⟨e, e2, ?_⟩)
  refine ⟨.ref l, _, I.lset (its' := its ++ its2) hH e (by simp) (r.append r2) ?_, rfl, q⟩
  rw [List.length_append]
  omega
/-! ### sorted(xs), xs a list of data that can be told apart -/
abbrev srtD (ds : List D) : List D := ds.mergeSort (PySem.W.dataLe false id)
theorem vals_each {xs : List V} {us : List Value} {ds : List D} (r : Vals xs us) (h : xs.length = ds.length) : PySem.W.EachIs (fun u (p : V × D) => RelV p.1 u ∧ p ∈ xs.zip ds) us (xs.zip ds) := by
  have gen : ∀ {xs : List V} {us : List Value} {ds : List D} (L : List (V × D)), Vals xs us → xs.length = ds.length → (∀ p ∈ xs.zip ds, p ∈ L) → PySem.W.EachIs (fun u (p : V × D) => RelV p.1 u ∧ p ∈ L) us (xs.zip ds) := by
    intro xs us ds L r
    induction r generalizing ds with
    | nil => intro _ _; exact .nil
    | @cons x u xs us h1 h2 ih =>
      intro hl hm
      cases ds with
      | nil => cases hl
      | cons d ds => exact .cons ⟨h1, hm _ List.mem_cons_self⟩ (ih (by simpa using hl) fun p hp => hm p (List.mem_cons_of_mem _ hp))
  exact gen _ r h fun p hp => hp
theorem each_vals {L : List (V × D)} : ∀ {us : List Value} {ps : List (V × D)}, PySem.W.EachIs (fun u (p : V × D) => RelV p.1 u ∧ p ∈ L) us ps → Vals (ps.map (·.1)) us ∧ ∀ p ∈ ps, p ∈ L
  | _, _, .nil => ⟨.nil, fun p hp => by cases hp⟩
  | _, _, .cons h t => by
    obtain ⟨a, b⟩ := each_vals t
    exact ⟨.cons h.1 a, fun p hp => (List.mem_cons.mp hp).elim (fun e => by rw [e]; exact h.2) (b p)⟩
theorem each_reads {hp : Heap} : ∀ {us : List Value} {ds : List D} {as : List Addr} {xs : List V}, ReadsAll hp us ds as → xs.length = ds.length → PySem.W.EachIs (fun u (p : V × D) => ∃ as, Reads hp u p.2 as) us (xs.zip ds)
  | _, [], _, [], r, _ => by cases r; exact .nil
  | _, d :: ds, _, x :: xs, r, h => by
    cases r with
    | cons h1 h2 => exact .cons ⟨_, h1⟩ (each_reads h2 (by simpa using h))
  | _, [], _, x :: xs, r, h => by cases h
  | _, d :: ds, _, [], r, h => by cases h
theorem srt_zip {xs : List V} {ds : List D} (h : xs.length = ds.length) : ((xs.zip ds).mergeSort (PySem.W.dataLe false (·.2))).map (·.2) = srtD ds := by
  have e := List.map_mergeSort (r := PySem.W.dataLe false fun p : V × D => p.2) (s := PySem.W.dataLe false id) (f := fun p : V × D => p.2) (l := xs.zip ds) (fun a _ b _ => rfl)
  have : (xs.zip ds).map (fun p : V × D => p.2) = ds := List.map_snd_zip (by omega)
  rw [this] at e
  exact e
/-- what the sorted list holds: the same values, by the order of what they read as -/
def Srt (xs : List V) (ds : List D) (ys : List V) : Prop := ∃ ps : List (V × D), ys = ps.map (·.1) ∧ ps.map (·.2) = srtD ds ∧ ∀ p ∈ ps, p ∈ xs.zip ds
def rSortD (K : PySem.W.Frag) : List V → Hp → VK → Prop := fun vs H Q => ∃ (a : Addr) (xs : List V) (ds : List D), vs = [V.ref a] ∧ SqL K H a xs ∧ DpAll K H xs ds ∧ PySem.W.AllAlike ds ∧ PySem.W.Sortable ds ∧ (∀ d ∈ ds, d.depth ≤ 60) ∧
  ∀ (ys : List V) (p : Addr), Srt xs ds ys → H p = none → Q (.ref p) (upd H p (.lst ys))
theorem dpall_len {K : PySem.W.Frag} {H : Hp} : ∀ {vs : List V} {ds : List D}, DpAll K H vs ds → vs.length = ds.length
  | _, _, .nil => rfl
  | _, _, .cons _ b => by simp [dpall_len b]
theorem cr_sortD (hu : X.A.units + 65 < cLine) : CallR X (.builtin "sorted") (rSortD X.K) := by
  intro pins s σ H vs us Q I r h
  obtain ⟨a, xs, ds, rfl, hs, hd, hal, hk, hdep, q⟩ := h
  obtain ⟨its, rv, hl, hz⟩ := I.list hs
  obtain ⟨u, rfl, ru⟩ := vals1 r
  obtain rfl : u = Value.ref a := ru
  have len : xs.length = ds.length := dpall_len hd
  obtain ⟨as, rd⟩ := Dp.readsAll I ds xs its hd rv
  have sn : (xs.zip ds).map (fun p : V × D => p.2) = ds := List.map_snd_zip (by omega)
  refine PySem.W.sorted_data (enc := fun p : V × D => p.2) (bs := xs.zip ds) (R := fun u p => RelV p.1 u ∧ p ∈ xs.zip ds) hl.isList (vals_each rv len) (each_reads rd len) (by rw [sn]; exact hal) (by rw [sn]; exact hk) (by rw [List.length_zip]; omega) (fun b hb => ?_) fun out hol ho => ?_
  · have := hdep b.2 (by rw [← sn]; exact List.mem_map_of_mem hb)
    omega
  · obtain ⟨v1, v2⟩ := each_vals ho
    obtain ⟨n, hn⟩ := sortedAll_at s.heap its out.toArray
    have hd0 : s.heap.objs.size ≤ s.heap.objs.size + 1 := Nat.le_succ _
    refine ⟨.ref (s.heap.objs.size + 1), upd H (s.heap.objs.size + 1) (.lst _), I.laid (t' := s.toks) (fun b o e => sortedAll_old e) hd0 ⟨?_, out, n, v1, hn⟩, rfl, q _ _ ⟨_, rfl, srt_zip len, v2⟩ (I.hok.fresh hd0)⟩
    have := v1.length
    rw [this, hol, List.length_zip]; omega
/-! ### a dict whose keys are tuples: d[t], sorted(d) -/
theorem key_ofT {pins : List (Addr × Obj)} {σ : L2.St} {H : Hp} {s : Shared} {ks : List Key} {a : Addr} (I : Inv X pins σ H s) (e : SqT X.K H a (ks.map kV)) : (tupleKind (mixKind X.prog X.w)).is s.heap ks a := by
  obtain ⟨its, r, ⟨o, h1, h2, n, h3⟩, _⟩ := I.tuple e
  exact ⟨o, its.toArray, n, h1, h2, h3, by simpa using items_are r⟩
def tDGetT (K : PySem.W.Frag) (td ty : TE) : TE := fun σ H Q => td σ H fun x H1 => ty σ H1 fun y H2 => ∃ a kvs k b v, x = .ref a ∧ y = .ref b ∧ H2 a = some (.dT kvs) ∧ SqT K H2 b (k.map kV) ∧ valV kvs k = some v ∧ Q v H2
theorem pe_dgetT {o i : Expr} {pos : Pos} {td ty : TE} (hu : X.A.units + 1 < cLine) (ho : PE X o td) (hi : PE X i ty) (hs : NoSl i) : PE X (.Subscript o i pos) (tDGetT X.K td ty) := by
  refine ⟨fun pins s σ H Q I h => ?_⟩
  refine subD_of PySem.F.slot_dict_getitem.lookup hs (thn (ho.run pins s σ H _ I h) fun u s1 ⟨x, H1, I1, rx, q1⟩ => thn (hi.run pins s1 σ H1 _ I1 q1) fun iv s2 ⟨y, H2, I2, ry, a, kvs, k, b, v, ex, ey, ha, hb, l, q2⟩ => ?_)
  subst ex ey
  obtain rfl : u = Value.ref a := rx
  cases (show iv = Value.ref b from ry)
  obtain ⟨z, hd, xs, rel, dd⟩ := dt_of I2.hok ha
  obtain ⟨w', hw, rw'⟩ := RelO.some_of (v := v) (o := (atKey xs k).map (·.2)) (by rw [← l]; exact rel.val k)
  obtain ⟨p, hp, hp2⟩ := Option.map_eq_some_iff.mp hw
  refine ⟨dd.typeIs, wpAny_getItem_heap (tupleKind_room_in1 hu) (key_ofT I2 hb) dd hp ?_⟩
  rw [hp2]
  exact ⟨v, H2, I2.tok _, rw', q2⟩
theorem kdl_raw {prog : Program} {w : World} {d : Addr} {es : Array DictEntry} {ep : Nat} (lo : (d == sysModules) = false) : PySem.W.KdlSrc prog w "dict" d d es.size (fun i v => ∃ e, es[i]? = some e ∧ v = e.key) (fun h => h.DictRaw d es ep) where
  type := fun _ hm => hm.typeIs
  there := fun _ hm => let ⟨_, ho, _⟩ := hm; ⟨Heap.lt_size ho, Heap.lt_size ho⟩
  keep := fun _ _ hm hk => hm.at fun o e => hk d (.inl rfl) o e
  notList := by decide
  notTuple := by decide
  hint := fun _ _ _ _ hm hq => PySem.W.kdl_hint_dict hm.typeIs hq
  iter := fun _ _ hh hm => ⟨_, _, (fun _ _ hq => wpAny_pyIter_dict_raw lo hm hq), (Walks.rawKeys hh _ d (let ⟨_, ho, _⟩ := hm; Nat.ne_of_lt (Heap.lt_size ho)) es ep).mono_item (fun i v hi h => ⟨es[i], Array.getElem?_eq_getElem hi, h.2⟩), ⟨⟨_, Heap.get?_push_size _ rfl, rfl, rfl⟩, hm.at fun o e => Heap.get?_push_of_some _ e⟩⟩
end
end Iv

set_option maxHeartbeats 4000000
namespace Iv
open PySem PySem.Spec PyProof.Rows L2
section
variable {X : Cx}
/-! ### sorted(d), d a dict whose keys are tuples of ints and texts -/
def tkD (ks : List Key) : D := .tuple (ks.map kD)
theorem flat_reads {h : Heap} : ∀ {ks : List Key} {its : List Value}, Vals (ks.map kV) its → ReadsAll h its (ks.map kD) []
  | [], _, r => by cases r; exact .nil
  | k :: ks, _, r => by
    cases r with
    | @cons _ u _ us r1 r2 =>
      have ih := flat_reads (h := h) r2
      cases k with
      | inl i => obtain ⟨t, rfl⟩ := r1; exact ReadsAll.cons (as := []) (.int i t) ih
      | inr x => obtain ⟨t, rfl⟩ := r1; exact ReadsAll.cons (as := []) (.str x t) ih
theorem tk_depth (ks : List Key) : (tkD ks).depth ≤ 1 := by
  have h : ∀ ks : List Key, PyData.depthAll (ks.map kD) = 0 := fun ks => by
    induction ks with
    | nil => rfl
    | cons k ks ih => cases k <;> (show max 0 (PyData.depthAll (ks.map kD)) = 0; rw [ih]; rfl)
  show PyData.depthAll (ks.map kD) + 1 ≤ 1
  rw [h]; exact Nat.le_refl _
theorem pget' {α β : Type} {P : α → β → Prop} : ∀ {l : List α} {m : List β} {j : Nat} {y : β}, Paired P l m → m[j]? = some y → ∃ x, l[j]? = some x ∧ P x y
  | _, _, j, _, .nil, h => by simp at h
  | _, _, 0, _, .cons a b, h => by simp at h; subst h; exact ⟨_, rfl, a⟩
  | _, _, j + 1, _, .cons a b, h => by
    obtain ⟨x, h1, h2⟩ := pget' (j := j) b (by simpa using h)
    exact ⟨x, by simpa using h1, h2⟩
theorem each_of2 {R : Value → V × D → Prop} : ∀ {us : List Value} {cs : List Addr} {ds : List D}, us.length = cs.length → cs.length = ds.length → (∀ (j : Nat) u c d, us[j]? = some u → cs[j]? = some c → ds[j]? = some d → R u (.ref c, d)) → PySem.W.EachIs R us ((cs.map V.ref).zip ds)
  | [], [], [], _, _, _ => .nil
  | u :: us, c :: cs, d :: ds, h1, h2, h => .cons (h 0 u c d rfl rfl rfl) (each_of2 (by simpa using h1) (by simpa using h2) fun j u' c' d' e1 e2 e3 => h (j + 1) u' c' d' (by simpa using e1) (by simpa using e2) (by simpa using e3))
  | [], c :: cs, _, h, _, _ => by cases h
  | u :: us, [], _, h, _, _ => by cases h
  | [], [], d :: ds, _, h, _ => by cases h
  | u :: us, c :: cs, [], _, h, _ => by cases h
def rSortDT : List V → Hp → VK → Prop := fun vs H Q => ∃ (a : Addr) (kvs : List (List Key × V)), vs = [V.ref a] ∧ H a = some (.dT kvs) ∧ PySem.W.AllAlike (kvs.map fun p => tkD p.1) ∧ PySem.W.Sortable (kvs.map fun p => tkD p.1) ∧
  ∀ (cs : List Addr) (ys : List V) (p : Addr), cs.length = kvs.length → (∀ (j : Nat) c q, cs[j]? = some c → kvs[j]? = some q → H c = some (.tup (q.1.map kV))) → Srt (cs.map V.ref) (kvs.map fun p => tkD p.1) ys → H p = none → Q (.ref p) (upd H p (.lst ys))
theorem cr_sortDT (hcalm : X.calm = true) (hu : X.A.units + 65 < cLine) : CallR X (.builtin "sorted") rSortDT := by
  intro pins s σ H vs us Q I r h
  obtain ⟨a, kvs, rfl, ha, hal, hk, q⟩ := h
  obtain ⟨u, rfl, ru⟩ := vals1 r
  obtain rfl : u = Value.ref a := ru
  obtain ⟨z, lo, xs', rel, dd⟩ := dt_of I.hok ha
  obtain ⟨es, ep, raw, hsz, hes⟩ := dd.raw
  have hlx : kvs.length = xs'.length := Paired.length rel
  have h16 : es.size ≤ sizeLine := by omega
  refine Calls.call_function_entry PyProof.Rows.kind_sorted PyProof.Rows.plain_sorted PyProof.Rows.entry_sorted (PyProof.Rows.args_sorted1 _) ?_
  unfold Builtin.«sorted»
  refine wpAny_bind (m := checkCount "sorted" 1 1 _) (wpAny_pure ?_)
  refine wpAny_bind (PySem.W.kdu_collect (A := X.A.in1) (kdl_raw (es := es) (ep := ep) lo) (I.ok.hd hcalm) raw h16 fun h' tk acc hk' hacc => ?_)
  have hal' : acc.toList.length = xs'.length := by rw [Array.length_toList, hacc.1, hsz]
  have I1 : Inv X pins σ H { s with heap := h', toks := tk } := I.kept hk'
  -- the keys
  have key : ∀ (j : Nat) (v : Value) (c : Addr) (d : D), acc.toList[j]? = some v → (xs'.map fun x => x.2.1)[j]? = some c → (kvs.map fun p => tkD p.1)[j]? = some d → v = .ref c ∧ ∃ q, kvs[j]? = some q ∧ d = tkD q.1 ∧ H c = some (.tup (q.1.map kV)) := by
    intro j v c d e1 e2 e3
    obtain ⟨en, g1, g2⟩ := hacc.2 j v (by rw [← Array.getElem?_toList]; exact e1)
    obtain ⟨hj, g1'⟩ := Array.getElem?_eq_some_iff.mp g1
    obtain ⟨y, g3, g4, _, _⟩ := hes j hj
    rw [List.getElem?_map, g3] at e2
    cases e2
    obtain ⟨q0, g5, g6, g7, _⟩ := pget' rel g3
    rw [List.getElem?_map, g5] at e3
    cases e3
    exact ⟨by rw [g2, ← g1', g4], q0, g5, rfl, g7⟩
  have lc : (xs'.map fun x => x.2.1).length = (kvs.map fun p => tkD p.1).length := by rw [List.length_map, List.length_map]; omega
  refine wpAny_bind (wpAny_newList ?_ (by rw [hal', ← hsz]; exact h16))
  have hoL : (h'.push (seqObj "list" acc.toList.toArray 0)).get? h'.objs.size = some (seqObj "list" acc.toList.toArray 0) := Heap.get?_push_size _ rfl
  show wpAny _ _ _ _ _ { s with heap := h'.push (seqObj "list" acc.toList.toArray 0), toks := tk }
  have sn : (((xs'.map fun x => x.2.1).map V.ref).zip (kvs.map fun p => tkD p.1)).map (fun p : V × D => p.2) = kvs.map fun p => tkD p.1 := List.map_snd_zip (by rw [List.length_map (f := V.ref), lc]; omega)
  refine wpAny_bind (wpAny_holding (PySem.W.list_sort_data (s := { s with heap := h'.push (seqObj "list" acc.toList.toArray 0), toks := tk }) (enc := fun p : V × D => p.2) (bs := ((xs'.map fun x => x.2.1).map V.ref).zip (kvs.map fun p => tkD p.1))
    (R := fun u p => RelV p.1 u ∧ p ∈ ((xs'.map fun x => x.2.1).map V.ref).zip (kvs.map fun p => tkD p.1)) hoL (each_of2 (by rw [hal', List.length_map]) lc fun j u c d e1 e2 e3 => ?_) (each_of2 (by rw [hal', List.length_map]) lc fun j u c d e1 e2 e3 => ?_) (by rw [sn]; exact hal) (by rw [sn]; exact hk) ?_ (fun b hb => ?_) fun out hol ho => ?_))
  · obtain ⟨rfl, _⟩ := key j u c d e1 e2 e3
    refine ⟨rfl, List.mem_of_getElem? (i := j) (List.getElem?_zip_eq_some.mpr ⟨?_, e3⟩)⟩
    show ((xs'.map fun x => x.2.1).map V.ref)[j]? = some (V.ref c)
    rw [List.getElem?_map, e2]; rfl
  · obtain ⟨rfl, q0, _, rfl, hc⟩ := key j u c d e1 e2 e3
    obtain ⟨_, its, rv, o, g1, g2, n, g3⟩ := (show ObjOk X.prog X.w H h' c (.tup (q0.1.map kV)) from I1.hok c _ hc)
    exact ⟨[], .tuple (Heap.get?_push_of_some _ g1) g2 g3 (by simpa using flat_reads rv), by simp⟩
  · rw [List.length_zip, ← lc, List.length_map, List.length_map]; omega
  · have hb2 : b.2 ∈ kvs.map fun p => tkD p.1 := by rw [← sn]; exact List.mem_map_of_mem hb
    obtain ⟨q0, _, e⟩ := List.mem_map.mp hb2
    have := tk_depth q0.1
    rw [← e]
    show X.A.units + 1 + 1 + (tkD q0.1).depth < cLine
    omega
  · obtain ⟨v1, v2⟩ := each_vals ho
    obtain ⟨n, hn⟩ := PyProof.Rows.sortedHeap_at (vs := acc.toList) (out := out.toArray) hoL
    have len := v1.length
    refine wpAny_pure ⟨_, rfl, .ref h'.objs.size, upd H h'.objs.size (.lst _), I1.laid (t' := tk) (fun b u e => ?_) (Nat.le_refl _)
      (show ObjOk X.prog X.w _ _ _ (.lst _) from ⟨?_, out, n, v1, hn⟩), rfl, q _ _ _ ?_ ?_ ⟨_, rfl, srt_zip (by rw [List.length_map]; exact lc), v2⟩ (I1.hok.fresh (Nat.le_refl _))⟩
    · have hb : b < h'.objs.size := Heap.lt_size e
      rw [PyProof.Rows.sortedHeap_old (Nat.ne_of_lt hb) (by rw [size_push']; exact Nat.lt_succ_of_lt hb)]
      exact Heap.get?_push_of_some _ e
    · rw [len, hol, List.length_zip, ← lc, List.length_map, List.length_map]; omega
    · rw [List.length_map]; omega
    · intro j c q0 e1 e2
      have hj : j < acc.toList.length := by
        rw [hal', ← hlx]; exact (List.getElem?_eq_some_iff.mp e2).1
      obtain ⟨_, q1, g1, _, g2⟩ := key j _ c (tkD q0.1) (List.getElem?_eq_getElem hj) e1 (by rw [List.getElem?_map, e2]; rfl)
      rw [e2] at g1
      cases g1
      exact g2
end
end Iv

set_option maxHeartbeats 4000000
namespace Iv
open PySem PySem.Spec PyProof.Rows L2
variable [Nm]
section
variable {X : Cx} {β : Option Addr} {O : Addr → Prop} {H H' : Hp}
theorem same_laid {H : Hp} {p : Addr} {o : HO} (h : H p = none) : Same H (upd H p o) := fun a u e => by rw [upd_ne (ne_of_none e h)]; exact e
theorem same_sb {H H' : Hp} (h : Same H H') : SB β H H' := ⟨fun a o _ _ e => h a o e, (fun a _ e => by
  cases q : H a with
  | none => rfl
  | some o => rw [h a o q] at e; cases e), fun t => t.ext h⟩
theorem same_bag {H H' : Hp} {st : BSt} (h : Same H H') (b : BagAt β H st) : BagAt β H' st := b.mono fun x o _ e => h x o e
theorem same_fz {H H' : Hp} (h : Same H H') : Same (Fz O H) (Fz O H') := fz_mono (fun _ z => z) fun a o _ _ e => h a o e
/-- frozen lists laid anew -/
theorem fresh_list {p : Addr} {xs : List V} {ds : List D} (hp : H p = none) (hO : ∀ a, O a → H a ≠ none) (hn : β ≠ some p) (h : RpAll X.K (Fz O H) xs ds) :
    ResAt X.K β O H (upd H p (.lst xs)) (.ref p) (.ow (.list ds)) := by
  refine ⟨p, rfl, hp, hn, xs, upd_same, h.mono (fun a o e => ?_)⟩
  obtain ⟨n, e, t⟩ := fz_some3 e
  have ap : a ≠ p := ne_of_none e hp
  exact fz_put (fun z => z.elim n ap) (by rw [upd_ne ap]; exact e) t
theorem fresh_tup {p : Addr} {xs : List V} {ds : List D} (hp : H p = none) (hO : ∀ a, O a → H a ≠ none) (h : RpAll X.K (Fz O H) xs ds) :
    ResAt X.K β O H (upd H p (.tup xs)) (.ref p) (.fz (.tuple ds)) := by
  have np : ¬ O p := fun z => hO p z hp
  exact .tup (SqT.of (fz_put np upd_same rfl)) (h.mono (same_fz (same_laid hp)))
theorem fz_tup {a : Addr} {xs : List V} (h : SqT X.K (Fz O H) a xs) : SqT X.K H a xs := sameT fz_same h
theorem rp_tup {v : V} {ds : List D} (h : Rp X.K (Fz O H) v (.tuple ds)) : ∃ a xs, v = .ref a ∧ SqT X.K (Fz O H) a xs ∧ RpAll X.K (Fz O H) xs ds := by
  cases h with
  | tup h1 h2 => exact ⟨_, _, rfl, h1, h2⟩
end
/-! ### binary operators on data -/
def lenOk (n : Nat) : Bool := decide (n ≤ sizeLine)
def mulOk (i j : Int) : Bool := decide (i.natAbs.log2 + j.natAbs.log2 < 1000000)
def divOk (j : Int) : Bool := decide (0 < j) && decide (j.natAbs.log2 < 9000)
def powOk (i j : Int) : Bool := decide (0 ≤ j) && decide (j ≤ 1000000) && decide (i.natAbs < 2 ^ 64)
def repOk (n : Nat) (k : Int) : Bool := decide (0 < n) && decide (2 ≤ k) && decide (k ≤ 1000) && decide (n ≤ 1000)
def binD : Operator → D → D → Option R
  | .Add, .int i, .int j => some (.fz (.int (i + j)))
  | .Add, .str x, .str y => if lenOk (x.length + y.length) then some (.fz (.str (x ++ y))) else none
  | .Add, .list xs, .list ys => if lenOk (xs.length + ys.length) then some (.ow (.list (xs ++ ys))) else none
  | .Add, .tuple xs, .tuple ys => if lenOk (xs.length + ys.length) then some (.fz (.tuple (xs ++ ys))) else none
  | .Sub, .int i, .int j => some (.fz (.int (i - j)))
  | .Mult, .int i, .int j => if mulOk i j then some (.fz (.int (i * j))) else none
  | .Mult, .tuple xs, .int k => if repOk xs.length k then some (.fz (.tuple (List.replicate k.toNat xs).flatten)) else none
  | .FloorDiv, .int i, .int j => if divOk j then some (.fz (.int (i / j))) else none
  | .Mod, .int i, .int j => if decide (0 < j) then some (.fz (.int (i % j))) else none
  | .Pow, .int i, .int j => if powOk i j then some (.fz (.int (i ^ j.toNat))) else none
  | .Add, .bool a, .int j => some (.fz (.int (b2i a + j)))
  | .Sub, .bool a, .int j => some (.fz (.int (b2i a - j)))
  | _, _, _ => none
theorem op_add_bi {X : Cx} : OpR X (binaryOp .Add) (fun x y H Q => ∃ k i, x = .bl k ∧ y = .int i ∧ Q (.int (b2i k + i)) H) := by
  intro pins s σ H x y v u Q I rx ry h
  obtain ⟨k, i, rfl, rfl, q⟩ := h
  obtain ⟨t, rfl⟩ := ry
  cases rx
  exact PySem.IntBool.add_bool_int ⟨.int (b2i k + i), H, I.tok _, ⟨_, rfl⟩, q⟩
theorem op_sub_bi {X : Cx} : OpR X (binaryOp .Sub) (fun x y H Q => ∃ k i, x = .bl k ∧ y = .int i ∧ Q (.int (b2i k - i)) H) := by
  intro pins s σ H x y v u Q I rx ry h
  obtain ⟨k, i, rfl, rfl, q⟩ := h
  obtain ⟨t, rfl⟩ := ry
  cases rx
  exact PySem.IntBool.sub_bool_int ⟨.int (b2i k - i), H, I.tok _, ⟨_, rfl⟩, q⟩
theorem ite_some {α : Type} {c : Bool} {a r : α} (h : (if c then some a else none) = some r) : c = true ∧ a = r := by
  cases c with
  | false => cases h
  | true => exact ⟨rfl, Option.some.inj h⟩
section
variable {X : Cx} {β : Option Addr} {O : Addr → Prop} {H : Hp} {x y : V} {Q : VK}
theorem binD_ok {op : Operator} {d e : D} {r : R} (hO : ∀ a, O a → H a ≠ none) (hb : ∀ b, β = some b → O b) (h : binD op d e = some r) (hx : TopAt X.K β O H x d) (hy : TopAt X.K β O H y e)
    (q : ∀ v H', Same H H' → ResAt X.K β O H H' v r → Q v H') : Wo X (binaryOp op) x y H Q := by
  have nb : ∀ p, H p = none → β ≠ some p := fun p hp z => hO p (hb p z) hp
  unfold binD at h
  split at h
  · cases h; cases hx; cases hy
    exact wo_of op_add ⟨_, _, rfl, rfl, q _ _ (Same.refl _) (.int _)⟩
  · obtain ⟨c, rfl⟩ := ite_some h; cases hx; cases hy
    exact wo_of op_add_str ⟨_, _, rfl, rfl, of_decide_eq_true c, q _ _ (Same.refl _) (.str _)⟩
  · obtain ⟨c, rfl⟩ := ite_some h
    obtain ⟨a, xs, rfl, _, h1, h2⟩ := hx
    obtain ⟨b, ys, rfl, _, h3, h4⟩ := hy
    refine wo_of op_cat ⟨_, _, _, _, rfl, rfl, h1, h3, ?_, fun p hp => q _ _ (same_laid hp) (fresh_list hp hO (nb p hp) (h2.append h4))⟩
    rw [h2.length, h4.length]; exact of_decide_eq_true c
  · obtain ⟨c, rfl⟩ := ite_some h
    obtain ⟨a, xs, rfl, h1, h2⟩ := rp_tup hx
    obtain ⟨b, ys, rfl, h3, h4⟩ := rp_tup hy
    refine wo_of op_catA ⟨_, _, _, _, rfl, rfl, fz_tup h1, fz_tup h3, ?_, fun e => ?_, fun _ e => ?_, fun _ _ p hp => q _ _ (same_laid hp) (fresh_tup hp hO (h2.append h4))⟩
    · rw [h2.length, h4.length]; exact of_decide_eq_true c
    · subst e; cases h2; exact q _ _ (Same.refl _) (.tup h3 h4)
    · subst e; cases h4; exact q _ _ (Same.refl _) (by rw [List.append_nil]; exact .tup h1 h2)
  · cases h; cases hx; cases hy
    exact wo_of op_sub ⟨_, _, rfl, rfl, q _ _ (Same.refl _) (.int _)⟩
  · obtain ⟨c, rfl⟩ := ite_some h; cases hx; cases hy
    exact wo_of op_mulW ⟨_, _, rfl, rfl, (of_decide_eq_true c : _ < _), q _ _ (Same.refl _) (.int _)⟩
  · obtain ⟨c, rfl⟩ := ite_some h; cases hy
    obtain ⟨a, xs, rfl, h1, h2⟩ := rp_tup hx
    simp only [repOk, Bool.and_eq_true, decide_eq_true_eq] at c
    obtain ⟨⟨⟨c0, c1⟩, c2⟩, c3⟩ := c
    have l := h2.length
    exact wo_of op_repT ⟨_, _, _, rfl, rfl, fz_tup h1, by rintro rfl; simp at l; omega, c1, c2, by omega, fun p hp => q _ _ (same_laid hp) (fresh_tup hp hO (h2.rep _))⟩
  · obtain ⟨c, rfl⟩ := ite_some h; cases hx; cases hy
    simp only [divOk, Bool.and_eq_true, decide_eq_true_eq] at c
    exact wo_of op_fdivW ⟨_, _, rfl, rfl, c, q _ _ (Same.refl _) (.int _)⟩
  · obtain ⟨c, rfl⟩ := ite_some h; cases hx; cases hy
    exact wo_of op_mod ⟨_, _, rfl, rfl, of_decide_eq_true c, q _ _ (Same.refl _) (.int _)⟩
  · obtain ⟨c, rfl⟩ := ite_some h; cases hx; cases hy
    simp only [powOk, Bool.and_eq_true, decide_eq_true_eq] at c
    exact wo_of op_pow ⟨_, _, rfl, rfl, ⟨c.1.1, c.1.2, c.2⟩, q _ _ (Same.refl _) (.int _)⟩
  · cases h; cases hx; cases hy
    exact wo_of op_add_bi ⟨_, _, rfl, rfl, q _ _ (Same.refl _) (.int _)⟩
  · cases h; cases hx; cases hy
    exact wo_of op_sub_bi ⟨_, _, rfl, rfl, q _ _ (Same.refl _) (.int _)⟩
  · cases h
end
/-! ### comparisons on data -/
def flatD : D → Bool
  | .none => true | .bool _ => true | .int _ => true | .str _ => true
  | _ => false
def noneD : D → Bool
  | .none => true
  | _ => false
def cmpD : CmpOp → D → D → Option Bool
  | .Eq, d, e => if SeqAt.shaped d && SeqAt.shaped e then some (PyData.eqv d e) else none
  | .NotEq, d, e => if SeqAt.shaped d && SeqAt.shaped e then some (!PyData.eqv d e) else none
  | .Lt, .int i, .int j => some (decide (i < j))
  | .LtE, .int i, .int j => some (decide (i ≤ j))
  | .Gt, .int i, .int j => some (decide (j < i))
  | .GtE, .int i, .int j => some (decide (j ≤ i))
  | .In, .str x, .str y => if decide (x.length = 1) then some (decide (x.cps.getD 0 0 ∈ y.cps.toList)) else none
  | .NotIn, .str x, .str y => if decide (x.length = 1) then some (!decide (x.cps.getD 0 0 ∈ y.cps.toList)) else none
  | .In, d, .list ys => if SeqAt.shaped d && SeqAt.shaped (.list ys) then some (ys.any fun z => PyData.eqv z d) else none
  | .NotIn, d, .list ys => if SeqAt.shaped d && SeqAt.shaped (.list ys) then some (!ys.any fun z => PyData.eqv z d) else none
  | .In, d, .tuple ys => if SeqAt.shaped d && SeqAt.shaped (.tuple ys) then some (ys.any fun z => PyData.eqv z d) else none
  | .NotIn, d, .tuple ys => if SeqAt.shaped d && SeqAt.shaped (.tuple ys) then some (!ys.any fun z => PyData.eqv z d) else none
  | .Is, d, .none => some (noneD d)
  | .IsNot, d, .none => some (!noneD d)
  | _, _, _ => none
theorem RpAll.dp {K : PySem.W.Frag} {H : Hp} : ∀ {vs : List V} {ds : List D}, RpAll K H vs ds → PyData.canLayAll0 ds = true → DpAll K H vs ds
  | _, _, .nil, _ => .nil
  | _, d :: ds, .cons a b, z => by
    have z' : d.canLay0 = true ∧ PyData.canLayAll0 ds = true := by simpa [PyData.canLayAll0] using z
    exact .cons (a.dp z'.1) (b.dp z'.2)
section
variable {X : Cx} {β : Option Addr} {O : Addr → Prop} {H : Hp} {x y : V} {Q : VK}
theorem TopAt.dp {d : D} (h : TopAt X.K β O H x d) (s : SeqAt.shaped d = true) : Dp X.K H x d := by
  have c := SeqAt.canLay_of_shaped s
  cases d with
  | list ds =>
    obtain ⟨a, xs, rfl, _, h1, h2⟩ := h
    exact .lst (SqL.of h1) ((h2.mono fz_same).dp (by simpa [PyData.canLay0] using c))
  | dict kds => simp [PyData.canLay0] at c
  | none => exact (Rp.mono fz_same h).dp c
  | bool _ => exact (Rp.mono fz_same h).dp c
  | int _ => exact (Rp.mono fz_same h).dp c
  | str _ => exact (Rp.mono fz_same h).dp c
  | tuple _ => exact (Rp.mono fz_same h).dp c
theorem TopAt.non {d : D} (h : TopAt X.K β O H x d) : decide (x = .non) = noneD d := by
  cases d with
  | list ds => obtain ⟨a, xs, rfl, _⟩ := h; simp [noneD]
  | dict kds => obtain ⟨a, rfl, _⟩ := h; simp [noneD]
  | none => cases h; simp [noneD]
  | bool _ => cases h; simp [noneD]
  | int _ => cases h; simp [noneD]
  | str _ => cases h; simp [noneD]
  | tuple _ => cases h; simp [noneD]
theorem one_sign {x : Str} (h : x.length = 1) : x = ⟨#[x.cps.getD 0 0]⟩ := by
  obtain ⟨⟨l⟩⟩ := x
  have h' : l.length = 1 := h
  match l, h' with
  | [c], _ => rfl
theorem cmpD_ok {op : CmpOp} {d e : D} {b : Bool} (hu : X.A.units + 65 < cLine) (h : cmpD op d e = some b) (hx : TopAt X.K β O H x d) (hy : TopAt X.K β O H y e)
    (q : Q (.bl b) H) : Wo X (compareOp op) x y H Q := by
  unfold cmpD at h
  split at h
  · obtain ⟨c, rfl⟩ := ite_some h
    rw [Bool.and_eq_true] at c
    exact wo_of (op_eqD (by omega)) ⟨_, _, hx.dp c.1, hy.dp c.2, c.1, c.2, q⟩
  · obtain ⟨c, rfl⟩ := ite_some h
    rw [Bool.and_eq_true] at c
    exact wo_of (op_neD (by omega)) ⟨_, _, hx.dp c.1, hy.dp c.2, c.1, c.2, q⟩
  · cases h; cases hx; cases hy; exact wo_of op_lt ⟨_, _, rfl, rfl, q⟩
  · cases h; cases hx; cases hy; exact wo_of op_le ⟨_, _, rfl, rfl, q⟩
  · cases h; cases hx; cases hy; exact wo_of op_gt ⟨_, _, rfl, rfl, q⟩
  · cases h; cases hx; cases hy; exact wo_of op_ge ⟨_, _, rfl, rfl, q⟩
  · obtain ⟨c, rfl⟩ := ite_some h; cases hx; cases hy
    exact wo_of op_in_sign ⟨_, _, by rw [← one_sign (of_decide_eq_true c)], rfl, q⟩
  · obtain ⟨c, rfl⟩ := ite_some h; cases hx; cases hy
    exact wo_of op_notIn_sign ⟨_, _, by rw [← one_sign (of_decide_eq_true c)], rfl, q⟩
  · obtain ⟨c, rfl⟩ := ite_some h
    rw [Bool.and_eq_true] at c
    exact wo_of (op_inD hu) ⟨_, _, hx.dp c.1, hy.dp c.2, c.1, c.2, q⟩
  · obtain ⟨c, rfl⟩ := ite_some h
    rw [Bool.and_eq_true] at c
    exact wo_of (op_notInD hu) ⟨_, _, hx.dp c.1, hy.dp c.2, c.1, c.2, q⟩
  · obtain ⟨c, rfl⟩ := ite_some h
    rw [Bool.and_eq_true] at c
    exact wo_of (op_inT hu) ⟨_, _, hx.dp c.1, hy.dp c.2, c.1, c.2, q⟩
  · obtain ⟨c, rfl⟩ := ite_some h
    rw [Bool.and_eq_true] at c
    exact wo_of (op_notInT hu) ⟨_, _, hx.dp c.1, hy.dp c.2, c.1, c.2, q⟩
  · cases h; cases hy
    exact wo_of op_isN ⟨rfl, by rw [hx.non]; exact q⟩
  · cases h; cases hy
    exact wo_of op_notN ⟨rfl, by rw [hx.non]; exact q⟩
  · cases h
end
end Iv

set_option maxHeartbeats 4000000
namespace Iv
open PySem PySem.Spec PyProof.Rows L2
variable [Nm]
/-! ### the place in the text -/
inductive Gv where
  | fn | cst (d : D) | blt
structure Sx where
  N : List Str
  sc : Scope
  gl : Str → Option Gv
  blk : Bool := false
  args : List R := []
  made : List R := []
  cap : List Nat := []
  nest : Option Str := none
  hks : List Str := []
  tks : List Str := []
  cel : List Str := []
abbrev FT := Str → List R → BSt → Option (R × BSt)
def ixOf : List Str → Str → Option Nat
  | [], _ => none
  | y :: ys, x => if y = x then some 0 else (ixOf ys x).map (· + 1)
theorem ixOf_ok : ∀ {N : List Str} {x : Str} {i : Nat}, ixOf N x = some i → N[i]? = some x
  | y :: ys, x, i, h => by
    unfold ixOf at h
    by_cases e : y = x
    · rw [if_pos e] at h; cases h; simp [e]
    · rw [if_neg e] at h
      cases q : ixOf ys x with
      | none => rw [q] at h; cases h
      | some j => rw [q] at h; cases h; simpa using ixOf_ok q
def plainName (x : Str) : Bool := !(x == ("__debug__" : Str)) && !(x == ("__classdict__" : Str)) && !(x == ("__name__" : Str))
def visK : Option NameKind → Bool
  | some .local => true | some .cell => true | some .free => true
  | _ => false
def locK : Option NameKind → Bool
  | some .local => true | some .cell => true
  | _ => false
def isGl : Option NameKind → Bool
  | some .globalImplicit => true
  | _ => false
def slotOf (S : Sx) (x : Str) : Option Nat := if plainName x && visK (S.sc.names.lookup x) then ixOf S.N x else none
def isBlt (S : Sx) (x : Str) : Bool := plainName x && isGl (S.sc.names.lookup x) && (match S.gl x with | some .blt => true | _ => false)
def isFn (S : Sx) (x : Str) : Bool := plainName x && isGl (S.sc.names.lookup x) && (match S.gl x with | some .fn => true | _ => false)
def cstOf (S : Sx) (x : Str) : Option D := if plainName x && isGl (S.sc.names.lookup x) then (match S.gl x with | some (.cst d) => some d | _ => none) else none
/-- the promise of a def -/
abbrev SpS := List Env → Shared → Sp
/-- the promise of a def, which may ask of the heap as it stands and of the callers -/
structure FnOkS (P : Program) (w : World) (K : PySem.W.Frag) (mg : Str → Option Value) (base : Heap) (k : Nat) (f : Addr) (fd : FuncData) (ps : List Str) (sp : SpS) : Prop where
  len : ∀ outer s vs H Q E, sp outer s vs H Q E → vs.length = ps.length
  run : ∀ (A : Around) (outer : List Env) (s : Shared) (H : Hp) (args : Args) (us : List Value) (vs : List V) (Q : VK) (E : XK), Room k A → Env0 P w K mg base A outer s H → BindsTo s fd args (ps.zip us) → Vals vs us → sp outer s vs H Q E →
    codeAny (model P w) A (.call (.ref f) args) (CR CX0 outer P w H s Q E) s
/-- a def made in a def, handed on: its captured cells -/
def CloC (outer : List Env) (s : Shared) (H : Hp) (F : NdefX.NF) (ws : List V) : Prop := ∃ (nd : Nd) (cl : List (Str × Addr)) (c : Addr), Nm.nds F.qual = some nd ∧ F = NdefX.NF.of nd.st nd.name F.qual cl c ∧
  NdefX.CellsAt F.cl nd.fr (ws.map some) s.heap H ∧ ∀ y c, F.cl.lookup y = some c → c ∉ frs outer
abbrev Cv := Option (Addr × NdefX.NF × List V × List D)
def cvV : Cv → List V
  | none => []
  | some c => [.ref c.1]
def cvR : Cv → List R
  | none => []
  | some c => [.fnc c.1 c.2.1 c.2.2.1 c.2.2.2]
def CvOk (K : PySem.W.Frag) (β : Option Addr) (O : Addr → Prop) (H : Hp) (outer : List Env) (s : Shared) : Cv → Prop
  | none => True
  | some c => FnAt' K β O H c.1 c.2.1 c.2.2.1 c.2.2.2 ∧ CloC outer s H c.2.1 c.2.2.1
def spI (K : PySem.W.Frag) (n : Nat) (f : List R → BSt → Option (R × BSt)) : SpS := fun outer s vs H Q _ => vs.length = n ∧ ∃ (β : Option Addr) (Oo : Addr → Prop) (vs1 : List V) (rs : List R) (cv : Cv) (st : BSt) (r : R) (st' : BSt),
  vs = vs1 ++ cvV cv ∧ ArgsAt K β Oo H vs1 rs ∧ NoF rs ∧ CvOk K β Oo H outer s cv ∧ (∀ b, β = some b → Oo b) ∧ (∀ a, Oo a → ∃ o, H a = some o ∧ plainO o = true) ∧ BagAt β H st ∧ NdefX.TabsN Tb0 H ∧ f (rs ++ cvR cv) st = some (r, st') ∧
  ∀ v H', SB β H H' → BagAt β H' st' → ResAt K β Oo H H' v r → Q v H'
/-- the promise of a def made in a def: what it captured comes behind its arguments -/
def spN (K : PySem.W.Frag) (n : Nat) (f : List R → BSt → Option (R × BSt)) : List (Option V) → Sp := fun wo vs H Q _ => vs.length = n ∧ ∃ (β : Option Addr) (Oo : Addr → Prop) (rs : List R) (ws : List V) (ds : List D) (st : BSt) (r : R) (st' : BSt),
  wo = ws.map some ∧ ArgsAt K β Oo H vs rs ∧ RpAll K (Fz Oo H) ws ds ∧ (∀ b, β = some b → Oo b) ∧ (∀ a, Oo a → ∃ o, H a = some o ∧ plainO o = true) ∧ BagAt β H st ∧ NdefX.TabsN Tb0 H ∧ f (rs ++ ds.map .fz) st = some (r, st') ∧
  ∀ v H', SB β H H' → BagAt β H' st' → ResAt K β Oo H H' v r → Q v H'
/-- a def that was handed in: it may be called -/
def CloOk (X : Cx) (Fn : FT) (f : Addr) (F : NdefX.NF) (ws : List V) : Prop := ∃ (k : Nat) (nd : Nd), Room k X.A ∧ NdefX.NOk X.prog X.w X.K X.mg X.base CX0 k f F nd.ps nd.fr (spN X.K nd.ps.length (Fn F.qual)) ∧
  (∀ rs st r, Fn F.qual rs st = some r → rs.length = nd.ps.length + nd.fr.length) ∧ NdefX.CellsAt F.cl nd.fr (ws.map some) X.s_0.heap X.H_0 ∧ ∀ y c, F.cl.lookup y = some c → c ∉ X.fs ∧ c ∉ X.ex
def GvOk (X : Cx) (F : FT) (x : Str) : Gv → Prop
  | .blt => X.mg x = none
  | .cst d => ∃ v u, X.mg x = some u ∧ RelV v u ∧ ∀ H, Rp X.K H v d
  | .fn => ∃ k f fd ps, X.mg x = some (.ref f) ∧ PySem.W.keepIn X.K (.ref f) = true ∧ Binds X.K fd ps [] ∧ Room k X.A ∧ FnOkS X.prog X.w X.K X.mg X.base k f fd ps (spI X.K ps.length (F x)) ∧ ∀ rs st r, F x rs st = some r → rs.length = ps.length
/-- a def that was made here: it may be handed on -/
def Made (X : Cx) (js : List Nat) (F' : NdefX.NF) : Prop := ∃ (nd : Nd) (c : Addr), Nm.nds F'.qual = some nd ∧ F' = NdefX.NF.of nd.st nd.name F'.qual F'.cl c ∧
  (X.Ok → (∀ y c, F'.cl.lookup y = some c → c ∉ frs X.stack) ∧ NdefX.Caps X F'.cl nd.fr js)
structure CxS (F : FT) (S : Sx) (X : Cx) : Prop where
  N : X.N = S.N
  sc : X.env.scope = S.sc
  calm : X.calm = true
  nd : S.N.Nodup
  hu : X.A.units + 65 < cLine
  fn : S.blk = false → ∀ x, X.fn x = true
  cel : ∀ x ∈ S.cel, X.fn x = true
  gl : ∀ x g, S.gl x = some g → GvOk X F x g
  xe : X.xe = fun _ _ => False
  kind : X.env.scope.kind = .function
  clo : ∀ f F' ws ds, R.fnc f F' ws ds ∈ S.args → CloOk X F f F' ws
  mad : ∀ f F', R.fnc f F' [] [] ∈ S.made → Made X S.cap F'
section
variable {F : FT} {S : Sx} {X : Cx}
theorem plain1 {x : Str} (h : plainName x = true) : (x == ("__debug__" : Str)) = false ∧ (x == ("__classdict__" : Str)) = false ∧ x ≠ "__name__" := by
  unfold plainName at h
  simp only [Bool.and_eq_true, Bool.not_eq_true'] at h
  refine ⟨h.1.1, h.1.2, fun e => ?_⟩
  rw [e] at h
  simp at h
theorem visK_ok {o : Option NameKind} (h : visK o = true) : o = some .local ∨ o = some .cell ∨ o = some .free := by
  unfold visK at h
  split at h <;> simp_all
theorem isGl_ok {o : Option NameKind} (h : isGl o = true) : o = some .globalImplicit := by
  unfold isGl at h
  split at h <;> simp_all
theorem slotOf_ok (C : CxS F S X) {x : Str} {i : Nat} (h : slotOf S x = some i) : X.N[i]? = some x ∧ Vis X.env.scope x ∧ (x == ("__debug__" : Str)) = false ∧ (x == ("__classdict__" : Str)) = false := by
  obtain ⟨c, h⟩ : _ ∧ ixOf S.N x = some i := by
    unfold slotOf at h
    cases c : plainName x && visK (S.sc.names.lookup x) with
    | false => rw [c] at h; cases h
    | true => rw [c] at h; exact ⟨c, h⟩
  rw [Bool.and_eq_true] at c
  have p := plain1 c.1
  refine ⟨by rw [C.N]; exact ixOf_ok h, ?_, p.1, p.2.1⟩
  unfold Vis
  rw [C.sc]
  exact visK_ok c.2
theorem isBlt_ok (C : CxS F S X) {x : Str} (h : isBlt S x = true) : Gl X x ∧ X.mg x = none ∧ x ≠ "__name__" ∧ (x == ("__debug__" : Str)) = false := by
  unfold isBlt at h
  simp only [Bool.and_eq_true] at h
  have p := plain1 h.1.1
  refine ⟨?_, ?_, p.2.2, p.1⟩
  · show X.env.scope.names.lookup x = _
    rw [C.sc]; exact isGl_ok h.1.2
  · have g := h.2
    split at g
    · rename_i e; exact C.gl x _ e
    · cases g
theorem isFn_ok (C : CxS F S X) {x : Str} (h : isFn S x = true) : Gl X x ∧ GvOk X F x .fn ∧ (x == ("__debug__" : Str)) = false := by
  unfold isFn at h
  simp only [Bool.and_eq_true] at h
  have p := plain1 h.1.1
  refine ⟨?_, ?_, p.1⟩
  · show X.env.scope.names.lookup x = _
    rw [C.sc]; exact isGl_ok h.1.2
  · have g := h.2
    split at g
    · rename_i e; exact C.gl x _ e
    · cases g
/-! ### names and constants -/
def nameF (S : Sx) (x : Str) (env : Env') (st : BSt) : Option (R × BSt) := match slotOf S x with
  | some i => (match env[i]? with
    | some (some (.fz d)) => some (.fz d, st)
    | some (some .bag) => some (.bag, st)
    | some (some (.scr ns)) => some (.scr ns, st)
    | _ => none)
  | none => (cstOf S x).map fun d => (.fz d, st)
def nameV (S : Sx) (x : Str) (env : Env') (st : BSt) : Option (D × BSt) := match slotOf S x with
  | some i => (match env[i]? with
    | some (some (.fz d)) => some (d, st)
    | some (some (.ow d)) => some (d, st)
    | _ => none)
  | none => (cstOf S x).map fun d => (d, st)
theorem cst_ok (C : CxS F S X) {x : Str} {d : D} {pos : Pos} {σ : L2.St} {H : Hp} {Q : VK} (h : cstOf S x = some d) (q : ∀ v, (∀ H, Rp X.K H v d) → Q v H) : We X (.Name x pos) σ H Q := by
  unfold cstOf at h
  cases c : plainName x && isGl (S.sc.names.lookup x) with
  | false => rw [c] at h; cases h
  | true =>
    rw [c] at h
    rw [Bool.and_eq_true] at c
    have p := plain1 c.1
    simp only [if_true] at h
    split at h
    · rename_i d' e
      cases h
      obtain ⟨v, u, h1, h2, h3⟩ := C.gl x _ e
      refine (pe_glob (show Gl X x from ?_) h1 h2 p.1).we (q v h3)
      show X.env.scope.names.lookup x = _
      rw [C.sc]; exact isGl_ok c.2
    · cases h
theorem s_name (C : CxS F S X) {x : Str} {pos : Pos} : SoundE X (.Name x pos) (nameF S x) := by
  intro β Oo H0 O σ H env st r st' Q rel h q
  unfold nameF at h
  cases e : slotOf S x with
  | none =>
    rw [e] at h
    cases e2 : cstOf S x with
    | none => rw [e2] at h; cases h
    | some d => rw [e2] at h; cases h; exact cst_ok C e2 fun v hv => q v H SB.refl rel.bag (hv _)
  | some i =>
    rw [e] at h
    obtain ⟨h1, h2, h3, h4⟩ := slotOf_ok C e
    simp only at h
    split at h
    · rename_i d e2
      cases h
      obtain ⟨v, hv, hs⟩ := rel.sl i _ e2
      exact (pe_var h1 h2 h3 h4).we ⟨v, hv, q v H SB.refl rel.bag hs⟩
    · rename_i e2
      cases h
      obtain ⟨v, hv, hs⟩ := rel.sl i _ e2
      exact (pe_var h1 h2 h3 h4).we ⟨v, hv, q v H SB.refl rel.bag hs⟩
    · rename_i ns e2
      cases h
      obtain ⟨v, hv, hs⟩ := rel.sl i _ e2
      exact (pe_var h1 h2 h3 h4).we ⟨v, hv, q v H SB.refl rel.bag hs⟩
    · cases h
theorem s_nameV (C : CxS F S X) {x : Str} {pos : Pos} : SoundV X (.Name x pos) (nameV S x) := by
  intro β Oo H0 O σ H env st d st' Q rel h q
  unfold nameV at h
  cases e : slotOf S x with
  | none =>
    rw [e] at h
    cases e2 : cstOf S x with
    | none => rw [e2] at h; cases h
    | some d => rw [e2] at h; cases h; exact cst_ok C e2 fun v hv => q v H SB.refl rel.bag (top_of_rp rel.bO' (hv _))
  | some i =>
    rw [e] at h
    obtain ⟨h1, h2, h3, h4⟩ := slotOf_ok C e
    simp only at h
    split at h
    · rename_i d e2
      cases h
      obtain ⟨v, hv, hs⟩ := rel.sl i _ e2
      exact (pe_var h1 h2 h3 h4).we ⟨v, hv, q v H SB.refl rel.bag (top_of_rp rel.bO' hs)⟩
    · rename_i d e2
      cases h
      obtain ⟨v, hv, a, rfl, ha, hn, ho⟩ := rel.sl i _ e2
      exact (pe_var h1 h2 h3 h4).we ⟨_, hv, q _ H SB.refl rel.bag (top_of_ow hn ho)⟩
    · cases h
def constF : Const → EF
  | .int i => fun _ st => some (.fz (.int i), st)
  | .bool b => fun _ st => some (.fz (.bool b), st)
  | .str x => fun _ st => some (.fz (.str x), st)
  | .none => fun _ st => some (.fz .none, st)
  | _ => failE
theorem s_const {c : Const} {k : Nat} {pos : Pos} : SoundE X (.Constant c k pos) (constF c) := by
  intro β Oo H0 O σ H env st r st' Q rel h q
  unfold constF at h
  split at h
  · cases h; exact pe_int.we (q _ _ SB.refl rel.bag (.int _))
  · cases h; exact pe_bl.we (q _ _ SB.refl rel.bag (.bl _))
  · cases h; exact pe_str.we (q _ _ SB.refl rel.bag (.str _))
  · cases h; exact pe_non.we (q _ _ SB.refl rel.bag .non)
  · cases h
/-! ### operators -/
theorem bind2 {α γ δ ε : Type} {m : Option (α × δ)} {f : α → δ → Option (γ × ε)} {r : γ × ε} (h : (m.bind fun p => f p.1 p.2) = some r) : ∃ a s, m = some (a, s) ∧ f a s = some r := by
  cases m with
  | none => cases h
  | some p => exact ⟨p.1, p.2, rfl, h⟩
theorem bind1 {α γ : Type} {m : Option α} {f : α → Option γ} {r : γ} (h : m.bind f = some r) : ∃ a, m = some a ∧ f a = some r := by
  cases m with
  | none => cases h
  | some p => exact ⟨p, rfl, h⟩
theorem map1 {α γ : Type} {m : Option α} {f : α → γ} {r : γ} (h : m.map f = some r) : ∃ a, m = some a ∧ f a = r := by
  cases m with
  | none => cases h
  | some p => exact ⟨p, rfl, Option.some.inj h⟩
def binF (op : Operator) (f g : VF) (env : Env') (st : BSt) : Option (R × BSt) := (f env st).bind fun p => (g env p.2).bind fun q => (binD op p.1 q.1).map fun r => (r, q.2)
theorem s_bin {a b : Expr} {op : Operator} {pos : Pos} {f g : VF} (ha : SoundV X a f) (hb : SoundV X b g) : SoundE X (.BinOp a op b pos) (binF op f g) := by
  intro β Oo H0 O σ H env st r st' Q rel h q
  obtain ⟨⟨d, s1⟩, e1, h⟩ := bind1 h
  obtain ⟨⟨e, s2⟩, e2, h⟩ := bind1 h
  obtain ⟨r', e3, h⟩ := map1 h
  cases h
  refine (pe_op (wo_op X _) (we_pe X a) (we_pe X b)).we (ha rel e1 fun x H1 sb1 bg1 tx => ?_)
  have rel1 := rel.step sb1 bg1
  refine hb rel1 e2 fun y H2 sb2 bg2 ty => ?_
  have rel2 := rel1.step sb2 bg2
  refine binD_ok rel2.dom' rel2.bO' e3 (tx.mono (rel1.fzm sb2) sb2) ty fun v H3 sm rs => ?_
  refine q v H3 (sb1.trans (sb2.trans (same_sb sm))) (same_bag sm bg2) ?_
  cases r with
  | fz d => exact rs
  | ow d =>
    obtain ⟨p, h1, h2, h3, h4⟩ := rs
    refine ⟨p, h1, ?_, h3, h4⟩
    exact sb1.dm p h3 (sb2.dm p h3 h2)
  | bag => exact rs
  | scr _ => exact rs
  | fnc _ _ _ _ => exact rs
/-- a later heap's fresh thing is fresh for the earlier -/
theorem ResAt.back {K : PySem.W.Frag} {β : Option Addr} {O : Addr → Prop} {H H1 H2 : Hp} {v : V} {r : R} (sb : SB β H H1) (h : ResAt K β O H1 H2 v r) : ResAt K β O H H2 v r := by
  cases r with
  | fz d => exact h
  | ow d =>
    obtain ⟨p, h1, h2, h3, h4⟩ := h
    refine ⟨p, h1, ?_, h3, h4⟩
    exact sb.dm p h3 h2
  | bag => exact h
  | scr _ => exact h
  | fnc _ _ _ _ => exact h
def cmpF (op : CmpOp) (f g : VF) (env : Env') (st : BSt) : Option (Bool × BSt) := (f env st).bind fun p => (g env p.2).bind fun q => (cmpD op p.1 q.1).map fun r => (r, q.2)
def blF (f : TF) (env : Env') (st : BSt) : Option (R × BSt) := (f env st).map fun p => (.fz (.bool p.1), p.2)
def noSet : Expr → Bool
  | .Set .. => false
  | _ => true
theorem noSet_mark {e : Expr} (h : noSet e = true) (op : CmpOp) : behindInMarks op e = false := by
  cases e <;> first | rfl | cases h
theorem s_cmp {a b : Expr} {op : CmpOp} {pos : Pos} {f g : VF} (C : CxS F S X) (hn : noSet b = true) (ha : SoundV X a f) (hb : SoundV X b g) : SoundE X (.Compare a [op] [b] pos) (blF (cmpF op f g)) := by
  intro β Oo H0 O σ H env st r st' Q rel h q
  obtain ⟨⟨k, s3⟩, g0, h'⟩ := map1 h
  cases h'
  clear h
  obtain ⟨⟨d, s1⟩, e1, h⟩ := bind1 g0
  obtain ⟨⟨e, s2⟩, e2, h⟩ := bind1 h
  obtain ⟨r', e3, h⟩ := map1 h
  cases h
  refine (pe_cmpR (wo_op X _) (we_pe X a) (we_pe X b) (noSet_mark hn op)).we (ha rel e1 fun x H1 sb1 bg1 tx => ?_)
  have rel1 := rel.step sb1 bg1
  refine hb rel1 e2 fun y H2 sb2 bg2 ty => ?_
  exact cmpD_ok C.hu e3 (tx.mono (rel1.fzm sb2) sb2) ty (q _ _ (sb1.trans sb2) bg2 (.bl _))
theorem s_cmpT {a b : Expr} {op : CmpOp} {pos : Pos} {f g : VF} (C : CxS F S X) (hn : noSet b = true) (ha : SoundV X a f) (hb : SoundV X b g) : SoundT X (.Compare a [op] [b] pos) (cmpF op f g) := by
  intro β Oo H0 O σ H env st k st' Q rel h q
  obtain ⟨⟨d, s1⟩, e1, h⟩ := bind1 h
  obtain ⟨⟨e, s2⟩, e2, h⟩ := bind1 h
  obtain ⟨r', e3, h⟩ := map1 h
  cases h
  refine (pt_cmpR (wo_op X _) (we_pe X a) (we_pe X b) (noSet_mark hn op)).wt (ha rel e1 fun x H1 sb1 bg1 tx => ?_)
  have rel1 := rel.step sb1 bg1
  refine hb rel1 e2 fun y H2 sb2 bg2 ty => ?_
  exact cmpD_ok C.hu e3 (tx.mono (rel1.fzm sb2) sb2) ty ⟨_, rfl, q _ (sb1.trans sb2) bg2⟩
def chainF (op op' : CmpOp) (f g k : VF) (env : Env') (st : BSt) : Option (Bool × BSt) := (f env st).bind fun p => (g env p.2).bind fun q => (cmpD op p.1 q.1).bind fun r =>
  if r then (k env q.2).bind fun z => (cmpD op' q.1 z.1).map fun r' => (r', z.2) else some (false, q.2)
theorem s_chain {a b c : Expr} {op op' : CmpOp} {pos : Pos} {f g k : VF} (C : CxS F S X) (hn : noSet b = true) (hn' : noSet c = true) (ha : SoundV X a f) (hb : SoundV X b g) (hc : SoundV X c k) :
    SoundE X (.Compare a [op, op'] [b, c] pos) (blF (chainF op op' f g k)) ∧ SoundT X (.Compare a [op, op'] [b, c] pos) (chainF op op' f g k) := by
  have hm : lastMarks [op, op'] [b, c] = false := noSet_mark hn' op'
  constructor
  · intro β Oo H0 O σ H env st r st' Q rel h q
    obtain ⟨⟨z, s3⟩, g0, h'⟩ := map1 h
    cases h'
    clear h
    obtain ⟨⟨d, s1⟩, e1, h⟩ := bind1 g0
    obtain ⟨⟨e, s2⟩, e2, h⟩ := bind1 h
    obtain ⟨r', e3, h⟩ := bind1 h
    refine (pe_chain (wo_op X _) (wo_op X _) (we_pe X a) (we_pe X b) (we_pe X c) hm).we (ha rel e1 fun x H1 sb1 bg1 tx => ?_)
    have rel1 := rel.step sb1 bg1
    refine hb rel1 e2 fun y H2 sb2 bg2 ty => ?_
    have rel2 := rel1.step sb2 bg2
    refine cmpD_ok C.hu e3 (tx.mono (rel1.fzm sb2) sb2) ty ⟨_, rfl, ?_⟩
    cases r' with
    | false => cases h; exact iteF (q _ _ (sb1.trans sb2) bg2 (.bl _))
    | true =>
      refine iteT ?_
      simp only [if_true] at h
      obtain ⟨⟨d3, s4⟩, e4, h⟩ := bind1 h
      obtain ⟨r4, e5, h⟩ := map1 h
      cases h
      refine hc rel2 e4 fun w H3 sb3 bg3 tw => ?_
      exact cmpD_ok C.hu e5 (ty.mono (rel2.fzm sb3) sb3) tw (q _ _ (sb1.trans (sb2.trans sb3)) bg3 (.bl _))
  · intro β Oo H0 O σ H env st z st' Q rel h q
    obtain ⟨⟨d, s1⟩, e1, h⟩ := bind1 h
    obtain ⟨⟨e, s2⟩, e2, h⟩ := bind1 h
    obtain ⟨r', e3, h⟩ := bind1 h
    refine (pt_chain (wo_op X _) (wo_op X _) (we_pe X a) (we_pe X b) (we_pe X c) hm).wt (ha rel e1 fun x H1 sb1 bg1 tx => ?_)
    have rel1 := rel.step sb1 bg1
    refine hb rel1 e2 fun y H2 sb2 bg2 ty => ?_
    have rel2 := rel1.step sb2 bg2
    refine cmpD_ok C.hu e3 (tx.mono (rel1.fzm sb2) sb2) ty ⟨_, rfl, ?_⟩
    cases r' with
    | false => cases h; exact iteF ⟨_, rfl, q _ (sb1.trans sb2) bg2⟩
    | true =>
      refine iteT ?_
      simp only [if_true] at h
      obtain ⟨⟨d3, s4⟩, e4, h⟩ := bind1 h
      obtain ⟨r4, e5, h⟩ := map1 h
      cases h
      refine hc rel2 e4 fun w H3 sb3 bg3 tw => ?_
      exact cmpD_ok C.hu e5 (ty.mono (rel2.fzm sb3) sb3) tw ⟨_, rfl, q _ (sb1.trans (sb2.trans sb3)) bg3⟩
/-! ### not, and, or, tests -/
def boolOf : D → Option Bool
  | .bool b => some b
  | _ => none
theorem boolOf_ok {d : D} {b : Bool} (h : boolOf d = some b) : d = .bool b := by
  cases d <;> cases h; rfl
def tstF (f : VF) (env : Env') (st : BSt) : Option (Bool × BSt) := (f env st).bind fun p => (boolOf p.1).map fun b => (b, p.2)
def plainT : Expr → Bool
  | .UnaryOp .Not _ _ => false | .BoolOp .. => false | .IfExp .. => false | .Compare .. => false
  | _ => true
theorem plainT_ok {e : Expr} (h : plainT e = true) (env : Env) : ∀ whole, isTrue e env whole = (do let v ← whole; standAt e.pos; holding [v] (truthy v)) := by
  intro whole
  cases e with
  | UnaryOp op x pos => cases op <;> first | rfl | cases h
  | BoolOp _ _ _ => cases h
  | IfExp _ _ _ _ => cases h
  | Compare _ _ _ _ => cases h
  | _ => rfl
theorem s_tst {e : Expr} {f : VF} (hp : plainT e = true) (he : SoundV X e f) : SoundT X e (tstF f) := by
  intro β Oo H0 O σ H env st b st' Q rel h q
  obtain ⟨⟨d, s1⟩, e1, h⟩ := bind1 h
  obtain ⟨b', e2, h⟩ := map1 h
  cases h
  cases boolOf_ok e2
  refine (pt_val (we_pe X e) (plainT_ok hp X.env)).wt (he rel e1 fun v H1 sb1 bg1 tv => ?_)
  cases tv
  exact ⟨_, rfl, q _ sb1 bg1⟩
def notT (f : TF) (env : Env') (st : BSt) : Option (Bool × BSt) := (f env st).map fun p => (!p.1, p.2)
theorem s_notT {e : Expr} {f : TF} {pos : Pos} (he : SoundT X e f) : SoundT X (.UnaryOp .Not e pos) (notT f) := by
  intro β Oo H0 O σ H env st b st' Q rel h q
  obtain ⟨⟨d, s1⟩, e1, h⟩ := map1 h
  cases h
  exact (pt_not (wt_pt X e)).wt (he rel e1 fun H1 sb1 bg1 => q _ sb1 bg1)
def notE (f : VF) (env : Env') (st : BSt) : Option (R × BSt) := (f env st).bind fun p => (boolOf p.1).map fun b => (.fz (.bool (!b)), p.2)
theorem s_notE {e : Expr} {f : VF} {pos : Pos} (he : SoundV X e f) : SoundE X (.UnaryOp .Not e pos) (notE f) := by
  intro β Oo H0 O σ H env st r st' Q rel h q
  obtain ⟨⟨d, s1⟩, e1, h⟩ := bind1 h
  obtain ⟨b', e2, h⟩ := map1 h
  cases h
  cases boolOf_ok e2
  refine (pe_not (we_pe X e)).we (he rel e1 fun v H1 sb1 bg1 tv => ?_)
  cases tv
  exact ⟨_, rfl, q _ _ sb1 bg1 (.bl _)⟩
def negE (f : VF) (env : Env') (st : BSt) : Option (R × BSt) := (f env st).bind fun p => match p.1 with | .int i => some (.fz (.int (-i)), p.2) | .bool b => some (.fz (.int (-(b2i b))), p.2) | _ => none
theorem givesNegB (a : Bool) : Gives (Builtin.«int.__neg__» ⟨[.bool a], []⟩) (.int (-(if a = true then (1 : Int) else 0))) :=
  .of_wp fun M A E s Q h => by obtain ⟨hp, g, d, tk, os⟩ := s; wp_walk; exact ⟨_, rfl, h⟩
theorem un_negB : UnR X (unaryOp .USub) (fun x H Q => ∃ b, x = .bl b ∧ Q (.int (-(b2i b))) H) := by
  intro pins s σ H x v Q I rx h
  obtain ⟨b, rfl, q⟩ := h
  cases rx
  exact unaryOp_gives (op := .USub) (PySem.typeIs_bool s b) rfl F.slot_bool_neg F.entry_int_neg (F.args_int_neg_1 _) (givesNegB b) ⟨.int (-(b2i b)), H, I.tok _, ⟨_, rfl⟩, q⟩
theorem s_negE {e : Expr} {f : VF} {pos : Pos} (he : SoundV X e f) : SoundE X (.UnaryOp .USub e pos) (negE f) := by
  intro β Oo H0 O σ H env st r st' Q rel h q
  obtain ⟨⟨d, s1⟩, e1, h⟩ := bind1 h
  simp only at h
  split at h
  · cases h
    refine (pe_un un_neg (we_pe X e)).we (he rel e1 fun v H1 sb1 bg1 tv => ?_)
    cases tv
    exact ⟨_, rfl, q _ _ sb1 bg1 (.int _)⟩
  · cases h
    refine (pe_un un_negB (we_pe X e)).we (he rel e1 fun v H1 sb1 bg1 tv => ?_)
    cases tv
    exact ⟨_, rfl, q _ _ sb1 bg1 (.int _)⟩
  · cases h
def andT (f g : TF) (env : Env') (st : BSt) : Option (Bool × BSt) := (f env st).bind fun p => if p.1 then g env p.2 else some (false, p.2)
def orT (f g : TF) (env : Env') (st : BSt) : Option (Bool × BSt) := (f env st).bind fun p => if p.1 then some (true, p.2) else g env p.2
def andE (f : VF) (g : EF) (env : Env') (st : BSt) : Option (R × BSt) := (f env st).bind fun p => (boolOf p.1).bind fun b => if b then g env p.2 else some (.fz (.bool false), p.2)
def orE (f : VF) (g : EF) (env : Env') (st : BSt) : Option (R × BSt) := (f env st).bind fun p => (boolOf p.1).bind fun b => if b then some (.fz (.bool true), p.2) else g env p.2
def Ww (X : Cx) (e : Expr) : TT := fun σ H Q => ∀ whole pins s, Inv X pins σ H s → wpAny (model X.prog X.w) X.A (isTrue e X.env whole) (TP X pins σ Q) X.xe s
theorem ww_pw (X : Cx) (e : Expr) : PW X e (Ww X e) := ⟨fun w pins s _ _ _ I h => h w pins s I⟩
theorem _root_.L2.PW.ww {X : Cx} {e : Expr} {t : TT} {σ : L2.St} {H : Hp} {Q : Bool → Hp → Prop} (h : PW X e t) (q : t σ H Q) : Ww X e σ H Q := fun w pins s I => h.run w pins s σ H Q I q
def SoundW (X : Cx) (e : Expr) (f : TF) : Prop := ∀ ⦃β : Option Addr⦄ ⦃Oo : Addr → Prop⦄ ⦃H0 : Hp⦄ ⦃O : Addr → Prop⦄ ⦃σ : L2.St⦄ ⦃H : Hp⦄ ⦃env : Env'⦄ ⦃st : BSt⦄ ⦃b : Bool⦄ ⦃st' : BSt⦄ ⦃Q : Bool → Hp → Prop⦄,
  Rel X.K β Oo H0 O σ H env st → f env st = some (b, st') → (∀ H', SB β H H' → BagAt β H' st' → Q b H') → Ww X e σ H Q
theorem SoundW.t {e : Expr} {f : TF} (h : SoundW X e f) : SoundT X e f := fun _ _ _ _ _ _ _ _ _ _ _ rel hf q => (PW.pt (ww_pw X e)).wt (h rel hf q)
theorem s_and1 {a : Expr} {f : TF} {pos : Pos} (ha : SoundT X a f) : SoundW X (.BoolOp .And [a] pos) f := fun _ _ _ _ _ _ _ _ _ _ _ rel hf q => (pw_and1 (wt_pt X a)).ww (ha rel hf q)
theorem s_or1 {a : Expr} {f : TF} {pos : Pos} (ha : SoundT X a f) : SoundW X (.BoolOp .Or [a] pos) f := fun _ _ _ _ _ _ _ _ _ _ _ rel hf q => (pw_or1 (wt_pt X a)).ww (ha rel hf q)
theorem s_andT {a b : Expr} {rest : List Expr} {f g : TF} {pos : Pos} (ha : SoundT X a f) (hb : SoundW X (.BoolOp .And (b :: rest) pos) g) : SoundW X (.BoolOp .And (a :: b :: rest) pos) (andT f g) := by
  intro β Oo H0 O σ H env st k st' Q rel h q
  obtain ⟨⟨d, s1⟩, e1, h⟩ := bind1 h
  refine (pw_and (wt_pt X a) (ww_pw X _)).ww (ha rel e1 fun H1 sb1 bg1 => ?_)
  cases d with
  | false => cases h; exact iteF (q _ sb1 bg1)
  | true => exact iteT (hb (rel.step sb1 bg1) h fun H2 sb2 bg2 => q _ (sb1.trans sb2) bg2)
theorem s_orT {a b : Expr} {rest : List Expr} {f g : TF} {pos : Pos} (ha : SoundT X a f) (hb : SoundW X (.BoolOp .Or (b :: rest) pos) g) : SoundW X (.BoolOp .Or (a :: b :: rest) pos) (orT f g) := by
  intro β Oo H0 O σ H env st k st' Q rel h q
  obtain ⟨⟨d, s1⟩, e1, h⟩ := bind1 h
  refine (pw_or (wt_pt X a) (ww_pw X _)).ww (ha rel e1 fun H1 sb1 bg1 => ?_)
  cases d with
  | true => cases h; exact iteT (q _ sb1 bg1)
  | false => exact iteF (hb (rel.step sb1 bg1) h fun H2 sb2 bg2 => q _ (sb1.trans sb2) bg2)
theorem s_one {a : Expr} {op : BoolOp} {f : EF} {pos : Pos} (ha : SoundE X a f) : SoundE X (.BoolOp op [a] pos) f := fun _ _ _ _ _ _ _ _ _ _ _ rel hf q => (pe_one (we_pe X a)).we (ha rel hf q)
theorem s_andE {a b : Expr} {rest : List Expr} {f : VF} {g : EF} {pos : Pos} (ha : SoundV X a f) (hb : SoundE X (.BoolOp .And (b :: rest) pos) g) : SoundE X (.BoolOp .And (a :: b :: rest) pos) (andE f g) := by
  intro β Oo H0 O σ H env st r st' Q rel h q
  obtain ⟨⟨d, s1⟩, e1, h⟩ := bind1 h
  obtain ⟨k, e2, h⟩ := bind1 h
  cases boolOf_ok e2
  refine (pe_and (we_pe X a) (we_pe X _)).we (ha rel e1 fun v H1 sb1 bg1 tv => ?_)
  cases tv
  refine ⟨_, rfl, ?_⟩
  cases k with
  | false => cases h; exact iteF (q _ _ sb1 bg1 (.bl _))
  | true => exact iteT (hb (rel.step sb1 bg1) h fun v H2 sb2 bg2 rs => q _ _ (sb1.trans sb2) bg2 (rs.back sb1))
theorem s_orE {a b : Expr} {rest : List Expr} {f : VF} {g : EF} {pos : Pos} (ha : SoundV X a f) (hb : SoundE X (.BoolOp .Or (b :: rest) pos) g) : SoundE X (.BoolOp .Or (a :: b :: rest) pos) (orE f g) := by
  intro β Oo H0 O σ H env st r st' Q rel h q
  obtain ⟨⟨d, s1⟩, e1, h⟩ := bind1 h
  obtain ⟨k, e2, h⟩ := bind1 h
  cases boolOf_ok e2
  refine (pe_or (we_pe X a) (we_pe X _)).we (ha rel e1 fun v H1 sb1 bg1 tv => ?_)
  cases tv
  refine ⟨_, rfl, ?_⟩
  cases k with
  | true => cases h; exact iteT (q _ _ sb1 bg1 (.bl _))
  | false => exact iteF (hb (rel.step sb1 bg1) h fun v H2 sb2 bg2 rs => q _ _ (sb1.trans sb2) bg2 (rs.back sb1))
def ifE (c : TF) (f g : EF) (env : Env') (st : BSt) : Option (R × BSt) := (c env st).bind fun p => if p.1 then f env p.2 else g env p.2
theorem s_if {c a b : Expr} {k : TF} {f g : EF} {pos : Pos} (hc : SoundT X c k) (ha : SoundE X a f) (hb : SoundE X b g) : SoundE X (.IfExp c a b pos) (ifE k f g) := by
  intro β Oo H0 O σ H env st r st' Q rel h q
  obtain ⟨⟨d, s1⟩, e1, h⟩ := bind1 h
  refine (pe_ifExp (wt_pt X c) (we_pe X a) (we_pe X b)).we (hc rel e1 fun H1 sb1 bg1 => ?_)
  cases d with
  | true => exact iteT (ha (rel.step sb1 bg1) h fun v H2 sb2 bg2 rs => q _ _ (sb1.trans sb2) bg2 (rs.back sb1))
  | false => exact iteF (hb (rel.step sb1 bg1) h fun v H2 sb2 bg2 rs => q _ _ (sb1.trans sb2) bg2 (rs.back sb1))
end
end Iv

set_option maxHeartbeats 4000000
namespace Iv
open PySem PySem.Spec PyProof.Rows L2
variable [Nm]
def noStar : Expr → Bool
  | .Starred .. => false
  | _ => true
theorem noStar_ok {e : Expr} (h : noStar e = true) (es : List Expr) (env : Env) : starEach (e :: es) env = (false, eval e env) :: starEach es env := by
  cases e <;> first | rfl | cases h
theorem noStars_any {env : Env} {pos : Pos} : ∀ {es : List Expr}, es.all noStar = true → (backTo pos (starEach es env)).any (·.1) = false
  | [], _ => rfl
  | e :: es, h => by
    simp only [List.all_cons, Bool.and_eq_true] at h
    rw [noStar_ok h.1]
    have := noStars_any (env := env) (pos := pos) h.2
    unfold backTo at this ⊢
    simp only [List.map_cons, List.any_cons, Bool.false_or]
    exact this
def argsF : List EF → Env' → BSt → Option (List R × BSt)
  | [], _, st => some ([], st)
  | f :: fs, env, st => (f env st).bind fun p => (argsF fs env p.2).map fun q => (p.1.down :: q.1, q.2)
section
variable {F : FT} {S : Sx} {X : Cx}
theorem s_args0 : SoundA X [] (argsF []) := by
  intro β Oo H0 O σ H env st rs st' Q rel h q
  cases h
  exact pa_nil.wa (q [] H SB.refl rel.bag .nil (fun _ _ _ _ h => by cases h))
theorem ArgsAt.mono {K : PySem.W.Frag} {β : Option Addr} {O O' : Addr → Prop} {H H' : Hp} (e : Same (Fz O H) (Fz O' H')) (hb : SB β H H') : ∀ {vs : List V} {rs : List R}, ArgsAt K β O H vs rs → ArgsAt K β O' H' vs rs
  | _, _, .nil => .nil
  | _, _, .cons a b => .cons (a.mono e hb) (ArgsAt.mono e hb b)
theorem s_args {e : Expr} {es : List Expr} {f : EF} {fs : List EF} (hn : noStar e = true) (he : SoundE X e f) (hs : SoundA X es (argsF fs)) : SoundA X (e :: es) (argsF (f :: fs)) := by
  intro β Oo H0 O σ H env st rs st' Q rel h q
  obtain ⟨⟨r, s1⟩, e1, h⟩ := bind1 h
  obtain ⟨⟨rs', s2⟩, e2, h⟩ := map1 h
  cases h
  refine (pa_cons (we_pe X e) (wa_pa X es) (noStar_ok hn es X.env)).wa (he rel e1 fun v H1 sb1 bg1 rv => ?_)
  have rel1 := rel.step sb1 bg1
  refine hs rel1 e2 fun vs H2 sb2 bg2 rvs nf => ?_
  exact q _ _ (sb1.trans sb2) bg2 (.cons ((argAt_of rel rv).mono (rel1.fzm sb2) sb2) rvs) (noF_cons rv nf)
def dsOf : List R → Option (List D)
  | [] => some []
  | .fz d :: rs => (dsOf rs).map (d :: ·)
  | _ :: _ => none
theorem dsOf_ok {K : PySem.W.Frag} {β : Option Addr} {O : Addr → Prop} {H : Hp} : ∀ {vs : List V} {rs : List R} {ds : List D}, dsOf rs = some ds → ArgsAt K β O H vs rs → RpAll K (Fz O H) vs ds
  | _, [], _, h, .nil => by cases h; exact .nil
  | _, .fz d :: rs, _, h, .cons a b => by
    obtain ⟨ds', e, rfl⟩ := map1 h
    exact .cons a.2 (dsOf_ok e b)
  | _, .ow _ :: _, _, h, _ => by cases h
  | _, .bag :: _, _, h, _ => by cases h
  | _, .scr _ :: _, _, h, _ => by cases h
def tupF (f : AF) (env : Env') (st : BSt) : Option (R × BSt) := (f env st).bind fun p => (dsOf p.1).bind fun ds => if lenOk ds.length then some (.fz (.tuple ds), p.2) else none
def lstF (f : AF) (env : Env') (st : BSt) : Option (R × BSt) := (f env st).bind fun p => (dsOf p.1).bind fun ds => if lenOk ds.length then some (.ow (.list ds), p.2) else none
theorem s_tup {es : List Expr} {f : AF} {k : Nat} {pos : Pos} (h : SoundA X es f) : SoundE X (.Tuple es k pos) (tupF f) := by
  intro β Oo H0 O σ H env st r st' Q rel hf q
  obtain ⟨⟨rs, s1⟩, e1, hf⟩ := bind1 hf
  obtain ⟨ds, e2, hf⟩ := bind1 hf
  obtain ⟨c, hf⟩ := ite_some hf
  cases hf
  refine (pe_tup (wa_pa X es)).we (h rel e1 fun vs H1 sb1 bg1 av nf => ?_)
  have rel1 := rel.step sb1 bg1
  have rp := dsOf_ok e2 av
  refine ⟨by rw [rp.length]; exact of_decide_eq_true c, fun p hp => ?_⟩
  exact q _ _ (sb1.trans (SB.laid hp)) (same_bag (same_laid hp) bg1) ((fresh_tup hp rel1.dom' rp).back sb1)
theorem s_lst {es : List Expr} {f : AF} {pos : Pos} (h : SoundA X es f) : SoundE X (.List es pos) (lstF f) := by
  intro β Oo H0 O σ H env st r st' Q rel hf q
  obtain ⟨⟨rs, s1⟩, e1, hf⟩ := bind1 hf
  obtain ⟨ds, e2, hf⟩ := bind1 hf
  obtain ⟨c, hf⟩ := ite_some hf
  cases hf
  refine (pe_lst (wa_pa X es)).we (h rel e1 fun vs H1 sb1 bg1 av nf => ?_)
  have rel1 := rel.step sb1 bg1
  have rp := dsOf_ok e2 av
  refine ⟨by rw [rp.length]; exact of_decide_eq_true c, fun p hp => ?_⟩
  exact q _ _ (sb1.trans (SB.laid hp)) (same_bag (same_laid hp) bg1) ((fresh_list hp rel1.dom' (rel1.neB hp) rp).back sb1)
/-! ### calls of own defs -/
def callF (F : FT) (x : Str) (f : AF) (env : Env') (st : BSt) : Option (R × BSt) := (f env st).bind fun p => F x p.1 p.2
theorem paired_length {α γ : Type} {P : α → γ → Prop} : ∀ {l : List α} {m : List γ}, Paired P l m → l.length = m.length
  | _, _, .nil => rfl
  | _, _, .cons _ t => by simp [paired_length t]
theorem run_fnS {k : Nat} {f : Addr} {fd : FuncData} {ps : List Str} {sp : SpS} {pins : List (Addr × Obj)} {σ : L2.St} {H : Hp} {s : Shared} {Q : VK} {us : List Value} {vs : List V} (Fo : FnOkS X.prog X.w X.K X.mg X.base k f fd ps sp) (hr : Room k X.A) (hb : Binds X.K fd ps [])
    (I : Inv X pins σ H s) (r : Vals vs us) (h : sp X.stack s vs H Q E0) : wpAny (model X.prog X.w) X.A (call (.ref f) us) (EP X pins σ Q) X.xe s := by
  have hl : (us ++ []).length = ps.length := by rw [List.append_nil, ← r.length]; exact Fo.len _ _ _ _ _ _ h
  have hb' := hb s us I.kIn hl
  rw [List.append_nil] at hb'
  refine wpAny_call (codeAny_mono (Fo.run X.A X.stack s H ⟨us, []⟩ us vs Q E0 hr I.env0 hb' r h) fun r s' hq => ?_)
  cases r with
  | error e => exact (pass0 : Passes CX0 X E0) pins σ H s e s' I hq
  | ok fl =>
    cases fl with
    | ret u => exact I.after hq
    | next => exact False.elim hq
    | brk => exact False.elim hq
    | cont => exact False.elim hq
theorem we_call {k : Nat} {x : Str} {f : Addr} {fd : FuncData} {ps : List Str} {sp : SpS} {e : Expr} {es : List Expr} {p pos : Pos} {σ : L2.St} {H : Hp} {Q : VK} (Fo : FnOkS X.prog X.w X.K X.mg X.base k f fd ps sp) (hr : Room k X.A) (hg : Gl X x) (hm : X.mg x = some (.ref f)) (hk : PySem.W.keepIn X.K (.ref f) = true)
    (hb : Binds X.K fd ps []) (hdb : (x == ("__debug__" : Str)) = false) (hn : noStar e = true) (hns : es.all noStar = true) (h : Wa X (e :: es) σ H fun vs H1 => ∀ pins s, Inv X pins σ H1 s → sp X.stack s vs H1 Q E0) : We X (.Call (.Name x p) (e :: es) [] pos) σ H Q := fun pins s I => by
  refine wpAny_Call_Name_kw (ld_glob I hg hm ?_ hdb)
  refine PySem.W.callWith_K (h₀ := X.base) I.ok.mod.kin hk (thn (h pos pins s I) fun us s1 ⟨vs, H1, I1, r, q⟩ => ⟨I1.kIn, ?_⟩) (noStar_ok hn es X.env) (noStars_any hns)
  exact run_fnS Fo hr hb I1 r (q pins s1 I1)
theorem s_call (C : CxS F S X) {x : Str} {e : Expr} {es : List Expr} {f : AF} {p pos : Pos} (hx : isFn S x = true) (hn : noStar e = true) (hns : es.all noStar = true) (h : SoundA X (e :: es) f)
    : SoundE X (.Call (.Name x p) (e :: es) [] pos) (callF F x f) := by
  intro β Oo H0 O σ H env st r st' Q rel hf q
  obtain ⟨⟨rs, s1⟩, e1, hf⟩ := bind1 hf
  obtain ⟨g, ⟨k, fa, fd, ps, h1, h2, h3, h4, h5, h6⟩, hd⟩ := isFn_ok C hx
  refine we_call h5 h4 g h1 h2 h3 hd hn hns (h rel e1 fun vs H1 sb1 bg1 av nf pins s I => ?_)
  have rel1 := rel.step sb1 bg1
  refine ⟨by rw [paired_length av]; exact h6 _ _ _ hf, β, O, vs, rs, none, s1, r, st', (List.append_nil vs).symm, av, nf, trivial, rel1.bO', rel1.dom, bg1, rel1.tabs, (by show F x (rs ++ []) s1 = _; rw [List.append_nil]; exact hf), fun v H2 sb2 bg2 rv => ?_⟩
  exact q _ _ (sb1.trans sb2) bg2 (rv.back sb1)
theorem call_str_bl : CallR X (.type "str") (fun xs H Q => ∃ b, xs = [.bl b] ∧ Q (.str (if b then "True" else "False")) H) := by
  intro pins s σ H xs us Q I r h
  obtain ⟨b, rfl, q⟩ := h
  obtain ⟨u, rfl, rb⟩ := vals1 r
  cases rb
  exact PySem.P.str_of_bool ⟨.str _, H, I.tok _, ⟨_, rfl⟩, q⟩
/-! ### built-ins of one argument, of two -/
def Wc (X : Cx) (f : Value) : List V → Hp → VK → Prop := fun vs H Q => ∀ pins s σ us, Inv X pins σ H s → Vals vs us → wpAny (model X.prog X.w) X.A (call f us) (EP X pins σ Q) X.xe s
theorem wc_call (X : Cx) (f : Value) : CallR X f (Wc X f) := fun pins s σ H vs us Q I r h => h pins s σ us I r
theorem wc_of {f : Value} {r : List V → Hp → VK → Prop} {vs : List V} {H : Hp} {Q : VK} (h : CallR X f r) (q : r vs H Q) : Wc X f vs H Q := fun pins s σ us I rv => h pins s σ H vs us Q I rv q
inductive Bl where
  | len | abs | all | list | tuple | str | sum | sorted | max2 | min2
def bl1 (S : Sx) (x : Str) : Option Bl :=
  if isBlt S x then
    if x = "len" then some .len else if x = "abs" then some .abs else if x = "all" then some .all else if x = "list" then some .list else if x = "tuple" then some .tuple else if x = "str" then some .str
    else if x = "sum" then some .sum else if x = "sorted" then some .sorted else none
  else none
def bl2 (S : Sx) (x : Str) : Option Bl :=
  if isBlt S x then if x = "max" then some .max2 else if x = "min" then some .min2 else none else none
def boolsOf : List D → Option (List Bool)
  | [] => some []
  | .bool b :: ds => (boolsOf ds).map (b :: ·)
  | _ :: _ => none
def intsOf : List D → Option (List Int)
  | [] => some []
  | .int b :: ds => (intsOf ds).map (b :: ·)
  | _ :: _ => none
theorem boolsOf_ok : ∀ {ds : List D} {bs : List Bool}, boolsOf ds = some bs → ds = bs.map .bool
  | [], _, h => by cases h; rfl
  | .bool b :: ds, _, h => by obtain ⟨bs, e, rfl⟩ := map1 h; rw [boolsOf_ok e]; rfl
  | .none :: _, _, h => by cases h
  | .int _ :: _, _, h => by cases h
  | .str _ :: _, _, h => by cases h
  | .list _ :: _, _, h => by cases h
  | .tuple _ :: _, _, h => by cases h
  | .dict _ :: _, _, h => by cases h
theorem intsOf_ok : ∀ {ds : List D} {bs : List Int}, intsOf ds = some bs → ds = bs.map .int
  | [], _, h => by cases h; rfl
  | .int b :: ds, _, h => by obtain ⟨bs, e, rfl⟩ := map1 h; rw [intsOf_ok e]; rfl
  | .none :: _, _, h => by cases h
  | .bool _ :: _, _, h => by cases h
  | .str _ :: _, _, h => by cases h
  | .list _ :: _, _, h => by cases h
  | .tuple _ :: _, _, h => by cases h
  | .dict _ :: _, _, h => by cases h
/-- sorting, in plain words -/
def ins (x : Int) : List Int → List Int
  | [] => [x]
  | y :: ys => if x ≤ y then x :: y :: ys else y :: ins x ys
def isort : List Int → List Int
  | [] => []
  | x :: xs => ins x (isort xs)
theorem ins_perm (x : Int) : ∀ l : List Int, (ins x l).Perm (x :: l)
  | [] => .refl _
  | y :: ys => by
    unfold ins
    split
    · exact .refl _
    · exact ((ins_perm x ys).cons y).trans (.swap x y ys)
theorem isort_perm : ∀ l : List Int, (isort l).Perm l
  | [] => .refl _
  | x :: xs => (ins_perm x _).trans ((isort_perm xs).cons x)
theorem ins_sorted (x : Int) : ∀ l : List Int, l.Pairwise (· ≤ ·) → (ins x l).Pairwise (· ≤ ·)
  | [], _ => List.pairwise_singleton _ _
  | y :: ys, h => by
    obtain ⟨h1, h2⟩ := List.pairwise_cons.mp h
    unfold ins
    split
    · rename_i hxy
      exact List.pairwise_cons.mpr ⟨fun z hz => by
        rcases List.mem_cons.mp hz with rfl | hz
        · exact hxy
        · exact Int.le_trans hxy (h1 z hz), h⟩
    · rename_i hxy
      refine List.pairwise_cons.mpr ⟨fun z hz => ?_, ins_sorted x ys h2⟩
      rcases List.mem_cons.mp ((ins_perm x ys).mem_iff.mp hz) with rfl | hz
      · omega
      · exact h1 z hz
theorem isort_sorted : ∀ l : List Int, (isort l).Pairwise (· ≤ ·)
  | [] => .nil
  | x :: xs => ins_sorted x _ (isort_sorted xs)
theorem sorted_unique : ∀ {a b : List Int}, a.Perm b → a.Pairwise (· ≤ ·) → b.Pairwise (· ≤ ·) → a = b
  | [], b, p, _, _ => by rw [List.nil_perm.mp p]
  | x :: a, [], p, _, _ => by simp at p
  | x :: a, y :: b, p, ha, hb => by
    obtain ⟨h1, h2⟩ := List.pairwise_cons.mp ha
    obtain ⟨h3, h4⟩ := List.pairwise_cons.mp hb
    have xy : x = y := by
      have i1 : y ≤ x := by
        rcases List.mem_cons.mp (p.mem_iff.mp List.mem_cons_self) with e | e
        · omega
        · exact h3 x e
      have i2 : x ≤ y := by
        rcases List.mem_cons.mp (p.mem_iff.mpr List.mem_cons_self) with e | e
        · omega
        · exact h1 y e
      omega
    subst xy
    rw [sorted_unique (List.perm_cons _ |>.mp p) h2 h4]
theorem isort_eq {ns ns' : List Int} (p : ns'.Perm ns) (s : ns'.Pairwise (· ≤ ·)) : ns' = isort ns := sorted_unique (p.trans (isort_perm ns).symm) s (isort_sorted ns)
def keysI : List (D × D) → Option (List Int)
  | [] => some []
  | (.int i, _) :: r => (keysI r).map (i :: ·)
  | _ :: _ => none
theorem keysI_ok : ∀ {kds : List (D × D)} {is : List Int}, keysI kds = some is → kds.map (·.1) = is.map .int
  | [], _, h => by cases h; rfl
  | (.int i, _) :: r, _, h => by obtain ⟨is, e, rfl⟩ := map1 h; simp [keysI_ok e]
  | (.none, _) :: r, _, h => by cases h
  | (.bool _, _) :: r, _, h => by cases h
  | (.str _, _) :: r, _, h => by cases h
  | (.list _, _) :: r, _, h => by cases h
  | (.tuple _, _) :: r, _, h => by cases h
  | (.dict _, _) :: r, _, h => by cases h
theorem kD_ints : ∀ {ks : List Key} {is : List Int}, is.map PyData.int = ks.map kD → ks = is.map Sum.inl
  | [], [], _ => rfl
  | .inl k :: ks, i :: is, h => by
    simp only [List.map_cons, List.cons.injEq, kD, PyData.int.injEq] at h
    rw [kD_ints h.2, ← h.1]; rfl
  | .inr k :: ks, i :: is, h => by simp [kD] at h
  | [], i :: is, h => by simp at h
  | k :: ks, [], h => by simp at h
/-- tuples, each with an item at least, all alike -/
def isTup1 : D → Bool
  | .tuple (_ :: _) => true
  | _ => false
def sortOk (ds : List D) : Bool := PyData.canLayAll0 ds && ds.all isTup1 && ds.all (fun d => ds.all fun e => PySem.W.alike d e) && ds.all fun d => decide (d.depth ≤ 60)
theorem sortOk_ok {ds : List D} (h : sortOk ds = true) : PyData.canLayAll0 ds = true ∧ PySem.W.AllAlike ds ∧ PySem.W.Sortable ds ∧ ∀ d ∈ ds, d.depth ≤ 60 := by
  unfold sortOk at h
  simp only [Bool.and_eq_true, List.all_eq_true, decide_eq_true_eq] at h
  refine ⟨h.1.1.1, fun d hd d' hd' => h.1.2 d hd d' hd', .inl fun d hd => ?_, h.2⟩
  have := h.1.1.2 d hd
  cases d with
  | tuple xs => cases xs with
    | nil => cases this
    | cons x r => exact ⟨x, r, rfl⟩
  | _ => cases this
def keysT : List (D × D) → Option (List D)
  | [(.none, .dict kds)] => some (kds.map (·.1))
  | _ => none
theorem keysT_ok {kds : List (D × D)} {ks : List D} (h : keysT kds = some ks) : ∃ kds', kds = [(.none, .dict kds')] ∧ ks = kds'.map (·.1) := by
  unfold keysT at h
  split at h
  · cases h; exact ⟨_, rfl, rfl⟩
  · cases h
theorem srt_rp {K : PySem.W.Frag} {H : Hp} {xs ys : List V} {ds : List D} (r : RpAll K H xs ds) (s : Srt xs ds ys) : RpAll K H ys (srtD ds) := by
  obtain ⟨ps, rfl, e, hm⟩ := s
  rw [← e]
  have all : ∀ {xs : List V} {ds : List D}, RpAll K H xs ds → ∀ p ∈ xs.zip ds, Rp K H p.1 p.2 := by
    intro xs ds r
    induction ds generalizing xs with
    | nil => cases r; intro p hp; simp at hp
    | cons d ds ih =>
      cases r with
      | cons a b =>
        intro p hp
        rcases List.mem_cons.mp (show p ∈ (_, d) :: _ from hp) with rfl | hp
        · exact a
        · exact ih b p hp
  have h2 : ∀ p ∈ ps, Rp K H p.1 p.2 := fun p hp => all r p (hm p hp)
  clear e hm
  induction ps with
  | nil => exact .nil
  | cons p ps ih => exact .cons (h2 p List.mem_cons_self) (ih fun q hq => h2 q (List.mem_cons_of_mem _ hq))
theorem rp_keyT {K : PySem.W.Frag} {H : Hp} : ∀ ks : List Key, RpAll K H (ks.map kV) (ks.map kD)
  | [] => .nil
  | .inl i :: ks => .cons (.int i) (rp_keyT ks)
  | .inr x :: ks => .cons (.str x) (rp_keyT ks)
theorem rp_keysT {K : PySem.W.Frag} {O : Addr → Prop} {H : Hp} (hpl : ∀ a, O a → ∃ o, H a = some o ∧ plainO o = true) : ∀ {cs : List Addr} {kvs : List (List Key × V)}, cs.length = kvs.length → (∀ (j : Nat) c q, cs[j]? = some c → kvs[j]? = some q → H c = some (.tup (q.1.map kV))) → RpAll K (Fz O H) (cs.map V.ref) (kvs.map fun p => tkD p.1)
  | [], [], _, _ => .nil
  | c :: cs, q :: kvs, hl, h => by
    have hc : H c = some (.tup (q.1.map kV)) := h 0 c q rfl rfl
    refine .cons (.tup (SqT.of (fz_put (fun z => ?_) hc rfl)) (rp_keyT _)) (rp_keysT hpl (by simpa using hl) fun j c' q' e1 e2 => h (j + 1) c' q' (by simpa using e1) (by simpa using e2))
    obtain ⟨o, e, p⟩ := hpl c z
    rw [hc] at e; cases e; cases p
  | [], q :: kvs, hl, _ => by cases hl
  | c :: cs, [], hl, _ => by cases hl
def blD1 : Bl → D → Option R
  | .len, .list ds => some (.fz (.int ds.length))
  | .len, .tuple ds => some (.fz (.int ds.length))
  | .len, .str x => if lenOk x.length then some (.fz (.int x.length)) else none
  | .abs, .int i => some (.fz (.int (if i < 0 then -i else i)))
  | .all, .list ds => (boolsOf ds).map fun bs => .fz (.bool (bs.all id))
  | .list, .list ds => some (.ow (.list ds))
  | .list, .tuple ds => some (.ow (.list ds))
  | .tuple, .list ds => some (.fz (.tuple ds))
  | .tuple, .tuple ds => some (.fz (.tuple ds))
  | .str, .int i => if decide (i.natAbs.log2 < 1920) then some (.fz (.str (toString i))) else none
  | .str, .bool b => some (.fz (.str (if b then "True" else "False")))
  | .sum, .list ds => (intsOf ds).map fun ns => .fz (.int ns.sum)
  | .sorted, .list ds => if sortOk ds then some (.ow (.list (srtD ds))) else (intsOf ds).bind fun ns => if decide (ns.length < 64) then some (.ow (.list ((isort ns).map .int))) else none
  | .sorted, .dict kds => (match keysT kds with
    | some ks => if sortOk ks then some (.ow (.list (srtD ks))) else none
    | none => (keysI kds).bind fun ns => if decide (ns.length < 64) then some (.ow (.list ((isort ns).map .int))) else none)
  | _, _ => none
def blD2 : Bl → D → D → Option R
  | .max2, .int i, .int j => some (.fz (.int (if j > i then j else i)))
  | .min2, .int i, .int j => some (.fz (.int (if j < i then j else i)))
  | _, _, _ => none
def blV : Bl → Value
  | .len => .builtin "len" | .abs => .builtin "abs" | .all => .builtin "all" | .list => .type "list" | .tuple => .type "tuple" | .str => .type "str"
  | .sum => .builtin "sum" | .sorted => .builtin "sorted" | .max2 => .builtin "max" | .min2 => .builtin "min"
section
variable {β : Option Addr} {O : Addr → Prop} {H : Hp} {Q : VK}
theorem blD1_ok (hc : X.calm = true) {b : Bl} {d : D} {v : V} {r : R} (hu : X.A.units + 65 < cLine) (hpl : ∀ a, O a → ∃ o, H a = some o ∧ plainO o = true) (hb : ∀ b, β = some b → O b) (h : blD1 b d = some r) (hv : TopAt X.K β O H v d)
    (q : ∀ v H', Same H H' → ResAt X.K β O H H' v r → Q v H') : Wc X (blV b) [v] H Q := by
  have hO : ∀ a, O a → H a ≠ none := fun a h z => by obtain ⟨o, e, _⟩ := hpl a h; rw [e] at z; cases z
  have nb : ∀ p, H p = none → β ≠ some p := fun p hp z => hO p (hb p z) hp
  unfold blD1 at h
  split at h
  · cases h; obtain ⟨a, xs, rfl, _, h1, h2⟩ := hv
    exact wc_of call_len_seq ⟨_, _, rfl, .inl (SqL.of h1), q _ _ (Same.refl _) (by rw [h2.length]; exact .int _)⟩
  · cases h; obtain ⟨a, xs, rfl, h1, h2⟩ := rp_tup hv
    exact wc_of call_len_seq ⟨_, _, rfl, .inr (fz_tup h1), q _ _ (Same.refl _) (by rw [h2.length]; exact .int _)⟩
  · obtain ⟨c, rfl⟩ := ite_some h; cases hv
    exact wc_of call_len_str ⟨_, rfl, of_decide_eq_true c, q _ _ (Same.refl _) (.int _)⟩
  · cases h; cases hv
    exact wc_of call_abs ⟨_, rfl, q _ _ (Same.refl _) (.int _)⟩
  · obtain ⟨bs, e, rfl⟩ := map1 h
    obtain ⟨a, xs, rfl, _, h1, h2⟩ := hv
    rw [boolsOf_ok e] at h2
    rw [h2.bools] at h1
    exact wc_of (cr_all hc) ⟨_, _, rfl, SqL.of h1, q _ _ (Same.refl _) (.bl _)⟩
  · cases h; obtain ⟨a, xs, rfl, _, h1, h2⟩ := hv
    exact wc_of call_list_of ⟨_, _, rfl, .inl (SqL.of h1), fun p hp => q _ _ (same_laid hp) (fresh_list hp hO (nb p hp) h2)⟩
  · cases h; obtain ⟨a, xs, rfl, h1, h2⟩ := rp_tup hv
    exact wc_of call_list_of ⟨_, _, rfl, .inr (fz_tup h1), fun p hp => q _ _ (same_laid hp) (fresh_list hp hO (nb p hp) h2)⟩
  · cases h; obtain ⟨a, xs, rfl, _, h1, h2⟩ := hv
    exact wc_of call_tuple_of ⟨_, _, rfl, .inl ⟨SqL.of h1, fun p hp => q _ _ (same_laid hp) (fresh_tup hp hO h2)⟩⟩
  · cases h; obtain ⟨a, xs, rfl, h1, h2⟩ := rp_tup hv
    exact wc_of call_tuple_of ⟨_, _, rfl, .inr ⟨fz_tup h1, q _ _ (Same.refl _) (.tup h1 h2)⟩⟩
  · obtain ⟨c, rfl⟩ := ite_some h; cases hv
    exact wc_of call_str_int ⟨_, rfl, of_decide_eq_true c, q _ _ (Same.refl _) (.str _)⟩
  · cases h; cases hv
    exact wc_of call_str_bl ⟨_, rfl, q _ _ (Same.refl _) (.str _)⟩
  · obtain ⟨bs, e, rfl⟩ := map1 h
    obtain ⟨a, xs, rfl, _, h1, h2⟩ := hv
    rw [intsOf_ok e] at h2
    rw [h2.ints] at h1
    exact wc_of (cr_sum hc) ⟨_, _, rfl, SqL.of h1, q _ _ (Same.refl _) (.int _)⟩
  · split at h
    · rename_i c
      obtain ⟨c1, c2, c3, c4⟩ := sortOk_ok c
      cases h
      obtain ⟨a, xs, rfl, _, h1, h2⟩ := hv
      refine wc_of (cr_sortD hu) ⟨_, xs, _, rfl, SqL.of h1, (h2.mono fz_same).dp c1, c2, c3, c4, fun ys p hs hn => ?_⟩
      exact q _ _ (same_laid hn) (fresh_list hn hO (nb p hn) (srt_rp h2 hs))
    obtain ⟨ns, e, h⟩ := bind1 h
    obtain ⟨c, rfl⟩ := ite_some h
    obtain ⟨a, xs, rfl, _, h1, h2⟩ := hv
    rw [intsOf_ok e] at h2
    rw [h2.ints] at h1
    refine wc_of cr_sorted ⟨_, _, rfl, SqL.of h1, of_decide_eq_true c, fun ns' p hp hs hn => ?_⟩
    rw [isort_eq hp hs]
    exact q _ _ (same_laid hn) (fresh_list hn hO (nb p hn) (RpAll.of_ints _))
  · split at h
    · rename_i ks ek
      obtain ⟨c, h⟩ := ite_some h
      cases h
      obtain ⟨c1, c2, c3, c4⟩ := sortOk_ok c
      obtain ⟨kds', rfl, rfl⟩ := keysT_ok ek
      obtain ⟨a, rfl, _, hdc⟩ := hv
      rcases hdc with ⟨kvs, _, h2, _⟩ | ⟨kds'', e6, kvs, h1, h2, h3⟩
      · exfalso
        cases kvs with
        | nil => cases h2
        | cons u kvs =>
          have h2 := (List.cons.inj h2).1
          obtain ⟨k0, _⟩ := u
          cases k0 <;> cases h2
      · cases e6
        have h2 : kds'.map (·.1) = kvs.map fun p => tkD p.1 := h2
        rw [h2] at c2 c3 q
        refine wc_of (cr_sortDT hc hu) ⟨_, kvs, rfl, h1, c2, c3, fun cs ys p hl hcs hs hn => ?_⟩
        exact q _ _ (same_laid hn) (fresh_list hn hO (nb p hn) (srt_rp (rp_keysT hpl hl hcs) hs))
    obtain ⟨ns, e, h⟩ := bind1 h
    obtain ⟨c, rfl⟩ := ite_some h
    obtain ⟨a, rfl, _, hdc⟩ := hv
    obtain ⟨kvs, h1, h2, h3⟩ := Or.resolve_right hdc (fun ⟨_, z, _⟩ => by subst z; cases e)
    rw [keysI_ok e] at h2
    have hk : kvs.map (·.1) = ns.map Sum.inl := kD_ints (by rw [h2, List.map_map]; rfl)
    refine wc_of (call_sortedDI hc) ⟨_, _, ns, rfl, .inl h1, hk, of_decide_eq_true c, fun ns' p hp hs hn => ?_⟩
    rw [isort_eq hp hs]
    exact q _ _ (same_laid hn) (fresh_list hn hO (nb p hn) (RpAll.of_ints _))
  · cases h
theorem blD2_ok (hc : X.calm = true) {b : Bl} {d e : D} {v u : V} {r : R} (h : blD2 b d e = some r) (hv : TopAt X.K β O H v d) (hu : TopAt X.K β O H u e)
    (q : ∀ v H', Same H H' → ResAt X.K β O H H' v r → Q v H') : Wc X (blV b) [v, u] H Q := by
  unfold blD2 at h
  split at h
  · cases h; cases hv; cases hu
    exact wc_of (call_max2 hc) ⟨_, _, rfl, q _ _ (Same.refl _) (.int _)⟩
  · cases h; cases hv; cases hu
    exact wc_of (call_min2 hc) ⟨_, _, rfl, q _ _ (Same.refl _) (.int _)⟩
  · cases h
end
def bltF1 (b : Bl) (f : VF) (env : Env') (st : BSt) : Option (R × BSt) := (f env st).bind fun p => (blD1 b p.1).map fun r => (r, p.2)
def bltF2 (b : Bl) (f g : VF) (env : Env') (st : BSt) : Option (R × BSt) := (f env st).bind fun p => (g env p.2).bind fun q => (blD2 b p.1 q.1).map fun r => (r, q.2)
theorem bl1_call (C : CxS F S X) {x : Str} {b : Bl} {e : Expr} {p pos : Pos} (h : bl1 S x = some b) (hn : noStar e = true) : PE X (.Call (.Name x p) [e] [] pos) (tCB (Wc X (blV b)) (tCons (We X e) tNil)) := by
  unfold bl1 at h
  cases hb : isBlt S x with
  | false => rw [hb] at h; cases h
  | true =>
    rw [hb] at h
    obtain ⟨g, m, n, d⟩ := isBlt_ok C hb
    have hs := noStar_ok hn [] X.env
    have ha : PA X [e] (tCons (We X e) tNil) := pa_cons (we_pe X e) pa_nil hs
    have hp : (backTo pos (starEach [] X.env)).any (·.1) = false := rfl
    simp only [if_true] at h
    split at h
    · rename_i ex; subst ex; cases h; exact pe_callB (wc_call X _) g m PySem.boot_len ha n d hs hp
    split at h
    · rename_i ex; subst ex; cases h; exact pe_callB (wc_call X _) g m PyProof.Rows.boot_abs ha n d hs hp
    split at h
    · rename_i ex; subst ex; cases h; exact pe_callB (wc_call X _) g m PyProof.Rows.boot_all ha n d hs hp
    split at h
    · rename_i ex; subst ex; cases h; exact pe_callTy (wc_call X _) g m PyProof.Rows.boot_list ha n d hs hp
    split at h
    · rename_i ex; subst ex; cases h; exact pe_callTy (wc_call X _) g m PyProof.Rows.boot_tuple ha n d hs hp
    split at h
    · rename_i ex; subst ex; cases h; exact pe_callTy (wc_call X _) g m PyProof.Rows.boot_str ha n d hs hp
    split at h
    · rename_i ex; subst ex; cases h; exact pe_callB (wc_call X _) g m PyProof.Rows.boot_sum ha n d hs hp
    split at h
    · rename_i ex; subst ex; cases h; exact pe_callB (wc_call X _) g m PyProof.Rows.boot_sorted ha n d hs hp
    · cases h
theorem bl2_call (C : CxS F S X) {x : Str} {b : Bl} {e e' : Expr} {p pos : Pos} (h : bl2 S x = some b) (hn : noStar e = true) (hn' : noStar e' = true) : PE X (.Call (.Name x p) [e, e'] [] pos) (tCB (Wc X (blV b)) (tCons (We X e) (tCons (We X e') tNil))) := by
  unfold bl2 at h
  cases hb : isBlt S x with
  | false => rw [hb] at h; cases h
  | true =>
    rw [hb] at h
    obtain ⟨g, m, n, d⟩ := isBlt_ok C hb
    have hs := noStar_ok hn [e'] X.env
    have hs' := noStar_ok hn' [] X.env
    have ha : PA X [e, e'] (tCons (We X e) (tCons (We X e') tNil)) := pa_cons (we_pe X e) (pa_cons (we_pe X e') pa_nil hs') hs
    have hp : (backTo pos (starEach [e'] X.env)).any (·.1) = false := noStars_any (by simp [hn'])
    simp only [if_true] at h
    split at h
    · rename_i ex; subst ex; cases h; exact pe_callB (wc_call X _) g m PyProof.Rows.boot_max ha n d hs hp
    split at h
    · rename_i ex; subst ex; cases h; exact pe_callB (wc_call X _) g m PyProof.Rows.boot_min ha n d hs hp
    · cases h
theorem s_blt1 (C : CxS F S X) {x : Str} {b : Bl} {e : Expr} {p pos : Pos} {f : VF} (h : bl1 S x = some b) (hn : noStar e = true) (he : SoundV X e f) : SoundE X (.Call (.Name x p) [e] [] pos) (bltF1 b f) := by
  intro β Oo H0 O σ H env st r st' Q rel hf q
  obtain ⟨⟨d, s1⟩, e1, hf⟩ := bind1 hf
  obtain ⟨r', e2, hf⟩ := map1 hf
  cases hf
  refine (bl1_call C h hn).we (he rel e1 fun v H1 sb1 bg1 tv => ?_)
  have rel1 := rel.step sb1 bg1
  exact blD1_ok C.calm C.hu rel1.dom rel1.bO' e2 tv fun v H2 sm rs => q _ _ (sb1.trans (same_sb sm)) (same_bag sm bg1) (rs.back sb1)
theorem s_blt2 (C : CxS F S X) {x : Str} {b : Bl} {e e' : Expr} {p pos : Pos} {f g : VF} (h : bl2 S x = some b) (hn : noStar e = true) (hn' : noStar e' = true) (he : SoundV X e f) (he' : SoundV X e' g) : SoundE X (.Call (.Name x p) [e, e'] [] pos) (bltF2 b f g) := by
  intro β Oo H0 O σ H env st r st' Q rel hf q
  obtain ⟨⟨d, s1⟩, e1, hf⟩ := bind1 hf
  obtain ⟨⟨d', s2⟩, e2, hf⟩ := bind1 hf
  obtain ⟨r', e3, hf⟩ := map1 hf
  cases hf
  refine (bl2_call C h hn hn').we (he rel e1 fun v H1 sb1 bg1 tv => ?_)
  have rel1 := rel.step sb1 bg1
  refine he' rel1 e2 fun u H2 sb2 bg2 tu => ?_
  have rel2 := rel1.step sb2 bg2
  exact blD2_ok C.calm e3 (tv.mono (rel1.fzm sb2) sb2) tu fun v H3 sm rs => q _ _ (sb1.trans (sb2.trans (same_sb sm))) (same_bag sm bg2) (rs.back (sb1.trans sb2))
end
end Iv

set_option maxHeartbeats 4000000
namespace Iv
open PySem PySem.Spec PyProof.Rows L2
variable [Nm]
section
variable {F : FT} {S : Sx} {X : Cx}
/-! ### x[i] -/
def ixD : D → D → Option D
  | .list ds, .int i => atI ds i
  | .tuple ds, .int i => atI ds i
  | _, _ => none
theorem atI_rp {K : PySem.W.Frag} {H : Hp} {vs : List V} {ds : List D} {i : Int} {d : D} (h : RpAll K H vs ds) (e : atI ds i = some d) : ∃ v, atI vs i = some v ∧ Rp K H v d := by
  unfold atI at e ⊢
  rw [h.length]
  obtain ⟨j, e1, e2⟩ := bind1 e
  obtain ⟨v, h1, h2⟩ := h.get e2
  exact ⟨v, by rw [e1]; exact h1, h2⟩
def plainIx : Expr → Bool
  | .Slice .. => false
  | _ => true
theorem plainIx_ok {b : Expr} (h : plainIx b = true) : PlainIx b := by
  intro o i
  cases b <;> first | rfl | cases h
def ixF (f g : VF) (env : Env') (st : BSt) : Option (R × BSt) := (f env st).bind fun p => (g env p.2).bind fun q => (ixD p.1 q.1).map fun r => (.fz r, q.2)
theorem s_ix {a b : Expr} {f g : VF} {pos : Pos} (hp : plainIx b = true) (ha : SoundV X a f) (hb : SoundV X b g) : SoundE X (.Subscript a b pos) (ixF f g) := by
  intro β Oo H0 O σ H env st r st' Q rel h q
  obtain ⟨⟨d, s1⟩, e1, h⟩ := bind1 h
  obtain ⟨⟨e, s2⟩, e2, h⟩ := bind1 h
  obtain ⟨r', e3, h⟩ := map1 h
  cases h
  refine (pe_ix ix_seq (we_pe X a) (we_pe X b) (plainIx_ok hp)).we (ha rel e1 fun x H1 sb1 bg1 tx => ?_)
  have rel1 := rel.step sb1 bg1
  refine hb rel1 e2 fun y H2 sb2 bg2 ty => ?_
  have tx := tx.mono (rel1.fzm sb2) sb2
  dsimp only at e3
  unfold ixD at e3
  split at e3
  · obtain ⟨l, xs, rfl, _, h1, h2⟩ := tx
    cases ty
    obtain ⟨v, hv, rv⟩ := atI_rp h2 e3
    exact .inl ⟨_, _, _, _, rfl, rfl, SqL.of h1, hv, q _ _ (sb1.trans sb2) bg2 rv⟩
  · obtain ⟨l, xs, rfl, h1, h2⟩ := rp_tup tx
    cases ty
    obtain ⟨v, hv, rv⟩ := atI_rp h2 e3
    exact .inr (.inl ⟨_, _, _, _, rfl, rfl, fz_tup h1, hv, q _ _ (sb1.trans sb2) bg2 rv⟩)
  · cases e3
/-- an item of the bag, of the script -/
def ixN' (S : Sx) (x : Str) (g : VF) (env : Env') (st : BSt) : Option (R × BSt) := match slotOf S x with
  | some i => (match env[i]? with
    | some (some .bag) => (g env st).bind fun p => (match p.2, p.1 with
      | some b, .int 0 => some (.fz (.int b.1), p.2)
      | some b, .int 1 => some (.fz (.int b.2), p.2)
      | _, _ => none)
    | some (some (.scr ns)) => (g env st).bind fun p => (match p.1 with
      | .int i => (atI ns i).map fun n => (.fz (.int n), p.2)
      | _ => none)
    | _ => none)
  | none => none
theorem atI_map {α γ : Type} (f : α → γ) (l : List α) (i : Int) : atI (l.map f) i = (atI l i).map f := by
  unfold atI
  rw [List.length_map]
  cases ixN l.length i with
  | none => rfl
  | some j => simp
theorem s_ixN (C : CxS F S X) {x : Str} {b : Expr} {g : VF} {p pos : Pos} (hp : plainIx b = true) (hb : SoundV X b g) : SoundE X (.Subscript (.Name x p) b pos) (ixN' S x g) := by
  intro β Oo H0 O σ H env st r st' Q rel h q
  unfold ixN' at h
  cases e : slotOf S x with
  | none => rw [e] at h; cases h
  | some i =>
    rw [e] at h
    obtain ⟨h1, h2, h3, h4⟩ := slotOf_ok C e
    simp only at h
    split at h
    · rename_i e2
      obtain ⟨⟨d, s1⟩, e3, h⟩ := bind1 h
      obtain ⟨v, hv, b0, hβ, rfl⟩ := rel.sl i _ e2
      refine (pe_ix ix_list (pe_var h1 h2 h3 h4) (we_pe X b) (plainIx_ok hp)).we ⟨_, hv, hb rel e3 fun y H1 sb1 bg1 ty => ?_⟩
      obtain ⟨bg, bs, eb0, hbag⟩ := bg1.get hβ
      dsimp only at h
      split at h
      · cases h; cases ty
        cases eb0
        exact ⟨_, _, _, _, rfl, rfl, SqL.of hbag, rfl, q _ _ sb1 bg1 (.int _)⟩
      · cases h; cases ty
        cases eb0
        exact ⟨_, _, _, _, rfl, rfl, SqL.of hbag, rfl, q _ _ sb1 bg1 (.int _)⟩
      · cases h
    · rename_i ns e2
      obtain ⟨⟨d, s1⟩, e3, h⟩ := bind1 h
      obtain ⟨v, hv, a0, rfl, hs⟩ := rel.sl i _ e2
      refine (pe_ix ix_list (pe_var h1 h2 h3 h4) (we_pe X b) (plainIx_ok hp)).we ⟨_, hv, hb rel e3 fun y H1 sb1 bg1 ty => ?_⟩
      simp only at h
      split at h
      · obtain ⟨n, e4, h⟩ := map1 h
        cases h; cases ty
        exact ⟨_, _, _, _, rfl, rfl, (hs.mono sb1 (rel.fzm sb1)).sq, by rw [atI_map, e4]; rfl, q _ _ sb1 bg1 (.int _)⟩
      · cases h
    · cases h
def lenN (S : Sx) (x : Str) (env : Env') (st : BSt) : Option (R × BSt) := match slotOf S x with
  | some i => (match env[i]? with
    | some (some (.scr ns)) => some (.fz (.int ns.length), st)
    | _ => none)
  | none => none
theorem s_lenN (C : CxS F S X) {x y : Str} {p p' pos : Pos} (hb : bl1 S y = some .len) : SoundE X (.Call (.Name y p) [.Name x p'] [] pos) (lenN S x) := by
  intro β Oo H0 O σ H env st r st' Q rel h q
  unfold lenN at h
  cases e : slotOf S x with
  | none => rw [e] at h; cases h
  | some i =>
    rw [e] at h
    obtain ⟨h1, h2, h3, h4⟩ := slotOf_ok C e
    simp only at h
    split at h
    · rename_i ns e2
      cases h
      obtain ⟨v, hv, a0, rfl, hs⟩ := rel.sl i _ e2
      refine (bl1_call C hb rfl).we ((pe_var h1 h2 h3 h4).we ⟨_, hv, ?_⟩)
      exact wc_of call_len_seq ⟨_, _, rfl, .inl hs.sq, q _ _ SB.refl rel.bag (by rw [List.length_map]; exact .int _)⟩
    · cases h
/-! ### slices -/
def intOpt : Option D → Option (Option Int)
  | none => some none
  | some (.int i) => some (some i)
  | _ => none
abbrev OF := Env' → BSt → Option (Option Int × BSt)
def partF : Option VF → Env' → BSt → Option (Option Int × BSt)
  | none, _, st => some (none, st)
  | some f, env, st => (f env st).bind fun p => match p.1 with | .int i => some (some i, p.2) | _ => none
def Wpo (X : Cx) (e : Option Expr) : TO := fun σ H Q => ∃ t, PO X e t ∧ t σ H Q
def SoundO (X : Cx) (e : Option Expr) (f : OF) : Prop := ∃ t, PO X e t ∧ ∀ ⦃β : Option Addr⦄ ⦃Oo : Addr → Prop⦄ ⦃H0 : Hp⦄ ⦃O : Addr → Prop⦄ ⦃σ : L2.St⦄ ⦃H : Hp⦄ ⦃env : Env'⦄ ⦃st : BSt⦄ ⦃o : Option Int⦄ ⦃st' : BSt⦄ ⦃Q : Option Int → Hp → Prop⦄,
  Rel X.K β Oo H0 O σ H env st → f env st = some (o, st') → (∀ H', SB β H H' → BagAt β H' st' → Q o H') → t σ H Q
theorem s_part0 : SoundO X none (partF none) := ⟨_, po_none, fun _ _ _ _ _ _ _ _ _ _ _ rel h q => by cases h; exact q _ SB.refl rel.bag⟩
theorem s_part {e : Expr} {f : VF} (he : SoundV X e f) : SoundO X (some e) (partF (some f)) := by
  refine ⟨_, po_some (we_pe X e), ?_⟩
  intro β Oo H0 O σ H env st o st' Q rel h q
  obtain ⟨⟨d, s1⟩, e1, h⟩ := bind1 h
  simp only at h
  split at h
  · cases h
    refine he rel e1 fun v H1 sb1 bg1 tv => ?_
    cases tv
    exact ⟨_, rfl, q _ sb1 bg1⟩
  · cases h
def cutL {α : Type} (xs : List α) (lo hi : Option Int) : List α := (xs.drop (HT.sIx xs.length 0 lo)).take (HT.sIx xs.length xs.length hi - HT.sIx xs.length 0 lo)
def slD : D → Option Int → Option Int → Option R
  | .list ds, lo, hi => some (.ow (.list (cutL ds lo hi)))
  | .tuple ds, lo, hi => some (.fz (.tuple (cutL ds lo hi)))
  | .str z, lo, hi => if lenOk z.length then some (.fz (.str (cutS z lo hi))) else none
  | _, _, _ => none
theorem cutL_rp {K : PySem.W.Frag} {H : Hp} {vs : List V} {ds : List D} {lo hi : Option Int} (h : RpAll K H vs ds) : RpAll K H (cutV vs lo hi) (cutL ds lo hi) := by
  unfold cutV cutL
  rw [h.length]
  exact (h.drop _).take _
def slF (f : VF) (l u : OF) (env : Env') (st : BSt) : Option (R × BSt) := (f env st).bind fun p => (l env p.2).bind fun a => (u env a.2).bind fun b => (slD p.1 a.1 b.1).map fun r => (r, b.2)
theorem s_slice {a : Expr} {lo hi : Option Expr} {f : VF} {l u : OF} {p2 pos : Pos} (ha : SoundV X a f) (hl : SoundO X lo l) (hu : SoundO X hi u) : SoundE X (.Subscript a (.Slice lo hi none p2) pos) (slF f l u) := by
  intro β Oo H0 O σ H env st r st' Q rel h q
  obtain ⟨⟨d, s1⟩, e1, h⟩ := bind1 h
  obtain ⟨⟨o1, s2⟩, e2, h⟩ := bind1 h
  obtain ⟨⟨o2, s3⟩, e3, h⟩ := bind1 h
  obtain ⟨r', e4, h⟩ := map1 h
  cases h
  obtain ⟨tl, pl, hl⟩ := hl
  obtain ⟨tu, pu, hu⟩ := hu
  refine (pe_slice (sl_list.or (sl_tupA.or sl_str)) (we_pe X a) pl pu).we (ha rel e1 fun x H1 sb1 bg1 tx => ?_)
  have rel1 := rel.step sb1 bg1
  refine hl rel1 e2 fun H2 sb2 bg2 => ?_
  have rel2 := rel1.step sb2 bg2
  refine hu rel2 e3 fun H3 sb3 bg3 => ?_
  have rel3 := rel2.step sb3 bg3
  have tx := (tx.mono (rel1.fzm sb2) sb2).mono (rel2.fzm sb3) sb3
  have sb := sb1.trans (sb2.trans sb3)
  dsimp only at e4
  unfold slD at e4
  split at e4
  · cases e4
    obtain ⟨a, xs, rfl, _, h1, h2⟩ := tx
    exact .inl ⟨_, _, rfl, SqL.of h1, fun p hp => q _ _ (sb.trans (SB.laid hp)) (same_bag (same_laid hp) bg3) ((fresh_list hp rel3.dom' (rel3.neB hp) (cutL_rp h2)).back sb)⟩
  · cases e4
    obtain ⟨a, xs, rfl, h1, h2⟩ := rp_tup tx
    refine .inr (.inl ⟨_, _, rfl, fz_tup h1, fun hw => ?_, fun _ p hp => ?_⟩)
    · refine q _ _ sb bg3 ?_
      have hc : cutV xs o1 o2 = xs := by
        unfold cutV
        rw [hw.1, hw.2]
        simp
      have h3 := cutL_rp (lo := o1) (hi := o2) h2
      rw [hc] at h3
      exact .tup h1 h3
    · exact q _ _ (sb.trans (SB.laid hp)) (same_bag (same_laid hp) bg3) ((fresh_tup hp rel3.dom' (cutL_rp h2)).back sb)
  · obtain ⟨c, rfl⟩ := ite_some e4
    cases tx
    exact .inr (.inr ⟨_, rfl, of_decide_eq_true c, q _ _ sb bg3 (.str _)⟩)
  · cases e4
/-! ### t[::-1] -/
def revF (f : VF) (env : Env') (st : BSt) : Option (R × BSt) := (f env st).bind fun p => match p.1 with
  | .tuple ds => some (.fz (.tuple ds.reverse), p.2)
  | _ => none
theorem s_rev {a : Expr} {f : VF} {k : Nat} {p1 p2 p3 pos : Pos} (ha : SoundV X a f) : SoundE X (.Subscript a (.Slice none none (some (.UnaryOp .USub (.Constant (.int 1) k p1) p2)) p3) pos) (revF f) := by
  intro β Oo H0 O σ H env st r st' Q rel h q
  obtain ⟨⟨d, s1⟩, e1, h⟩ := bind1 h
  dsimp only at h
  split at h
  · cases h
    refine (pe_revT (we_pe X a)).we (ha rel e1 fun v H1 sb1 bg1 tv => ?_)
    have rel1 := rel.step sb1 bg1
    obtain ⟨b, xs, rfl, h1, h2⟩ := rp_tup tv
    exact ⟨_, _, rfl, fz_tup h1, fun p hp => q _ _ (sb1.trans (SB.laid hp)) (same_bag (same_laid hp) bg1) ((fresh_tup hp rel1.dom' h2.reverse).back sb1)⟩
  · cases h
/-! ### sorted(set(xs)) -/
def uins (x : Int) : List Int → List Int
  | [] => [x]
  | y :: ys => if x < y then x :: y :: ys else if x = y then y :: ys else y :: uins x ys
def usort : List Int → List Int
  | [] => []
  | x :: xs => uins x (usort xs)
theorem uins_mem (x z : Int) : ∀ l : List Int, z ∈ uins x l ↔ z = x ∨ z ∈ l
  | [] => by simp [uins]
  | y :: ys => by
    unfold uins
    split
    · simp
    · split
      · rename_i _ e; subst e; simp
      · simp [uins_mem x z ys]; constructor <;> (intro h; rcases h with h | h | h <;> simp [h])
theorem usort_mem (z : Int) : ∀ l : List Int, z ∈ usort l ↔ z ∈ l
  | [] => by simp [usort]
  | x :: xs => by unfold usort; rw [uins_mem, usort_mem z xs, List.mem_cons]
theorem uins_lt (x : Int) : ∀ l : List Int, l.Pairwise (· < ·) → (uins x l).Pairwise (· < ·)
  | [], _ => List.pairwise_singleton _ _
  | y :: ys, h => by
    obtain ⟨h1, h2⟩ := List.pairwise_cons.mp h
    unfold uins
    split
    · rename_i c
      exact List.pairwise_cons.mpr ⟨fun z hz => by
        rcases List.mem_cons.mp hz with rfl | hz
        · exact c
        · exact Int.lt_trans c (h1 z hz), h⟩
    · split
      · exact h
      · refine List.pairwise_cons.mpr ⟨fun z hz => ?_, uins_lt x ys h2⟩
        rcases (uins_mem x z ys).mp hz with rfl | hz
        · omega
        · exact h1 z hz
theorem usort_lt : ∀ l : List Int, (usort l).Pairwise (· < ·)
  | [] => .nil
  | x :: xs => uins_lt x _ (usort_lt xs)
theorem lt_unique : ∀ {a b : List Int}, a.Pairwise (· < ·) → b.Pairwise (· < ·) → (∀ z, z ∈ a ↔ z ∈ b) → a = b
  | [], [], _, _, _ => rfl
  | [], y :: b, _, _, h => by have := (h y).mpr List.mem_cons_self; cases this
  | x :: a, [], _, _, h => by have := (h x).mp List.mem_cons_self; cases this
  | x :: a, y :: b, ha, hb, h => by
    obtain ⟨h1, h2⟩ := List.pairwise_cons.mp ha
    obtain ⟨h3, h4⟩ := List.pairwise_cons.mp hb
    have xy : x = y := by
      rcases List.mem_cons.mp ((h x).mp List.mem_cons_self) with e | e
      · exact e
      · rcases List.mem_cons.mp ((h y).mpr List.mem_cons_self) with f | f
        · exact f.symm
        · have := h1 y f; have := h3 x e; omega
    subst xy
    congr 1
    refine lt_unique h2 h4 fun z => ?_
    have hz := h z
    simp only [List.mem_cons] at hz
    constructor
    · intro m
      rcases hz.mp (.inr m) with e | e
      · have := h1 z m; omega
      · exact e
    · intro m
      rcases hz.mpr (.inr m) with e | e
      · have := h3 z m; omega
      · exact e
def ssF (f : VF) (env : Env') (st : BSt) : Option (R × BSt) := (f env st).bind fun p => match p.1 with
  | .list ds => (intsOf ds).bind fun ns => if decide (ns.length < 64) then some (.ow (.list ((usort ns).map .int)), p.2) else none
  | _ => none
def isB2 (S : Sx) (n x : Str) : Bool := isBlt S x && decide (x = n)
theorem s_ss (C : CxS F S X) {e : Expr} {x y : Str} {f : VF} {p p' pos pos' : Pos} (hx : isB2 S "sorted" x = true) (hy : isB2 S "set" y = true) (hn : noStar e = true) (he : SoundV X e f) : SoundE X (.Call (.Name x p) [.Call (.Name y p') [e] [] pos'] [] pos) (ssF f) := by
  intro β Oo H0 O σ H env st r st' Q rel h q
  unfold isB2 at hx hy
  rw [Bool.and_eq_true] at hx hy
  have ex := of_decide_eq_true hx.2
  have ey := of_decide_eq_true hy.2
  subst ex; subst ey
  obtain ⟨g1, m1, n1, d1⟩ := isBlt_ok C hx.1
  obtain ⟨g2, m2, n2, d2⟩ := isBlt_ok C hy.1
  obtain ⟨⟨d, s1⟩, e1, h⟩ := bind1 h
  dsimp only at h
  split at h
  · obtain ⟨ns, e2, h⟩ := bind1 h
    obtain ⟨c, h⟩ := ite_some h
    cases h
    have hs := noStar_ok hn [] X.env
    have inner : PE X (.Call (.Name "set" p') [e] [] pos') _ := pe_callTy (cr_setL C.calm) g2 m2 PyProof.Rows.boot_set (pa_cons (we_pe X e) pa_nil hs) n2 d2 hs rfl
    refine (pe_callB (cr_sortedSet C.calm) g1 m1 PyProof.Rows.boot_sorted (pa_cons inner pa_nil rfl) n1 d1 rfl rfl).we (he rel e1 fun v H1 sb1 bg1 tv => ?_)
    have rel1 := rel.step sb1 bg1
    obtain ⟨a, xs, rfl, _, h1, h2⟩ := tv
    rw [intsOf_ok e2] at h2
    rw [h2.ints] at h1
    refine ⟨a, ns, rfl, SqL.of h1, of_decide_eq_true c, fun p2 cc hp2 hcc => ?_⟩
    have c64 : ns.length < 64 := of_decide_eq_true c
    refine ⟨p2, _, cc, rfl, upd_same, by omega, fun ns' p3 hp hm _ hp3 => ?_⟩
    have eu : ns' = usort ns := lt_unique hp (usort_lt ns) fun z => by rw [hm z, usort_mem]; simp
    rw [eu]
    have s1 : Same H1 (upd H1 p2 (SetO X.w p2 (fun j => decide (j ∈ ns)) cc)) := same_laid hp2
    have rel2 := rel1.step (same_sb s1) (same_bag s1 bg1)
    exact q _ _ (sb1.trans ((same_sb s1).trans (SB.laid hp3))) (same_bag (same_laid hp3) (same_bag s1 bg1)) ((fresh_list hp3 rel2.dom' (rel2.neB hp3) (RpAll.of_ints _)).back (sb1.trans (same_sb s1)))
  · cases h
/-! ### isinstance -/
def tyD : D → String
  | .none => "NoneType" | .bool _ => "bool" | .int _ => "int" | .str _ => "str" | .list _ => "list" | .tuple _ => "tuple" | .dict _ => "dict"
inductive Ty where
  | int | bool | str | list | tuple
def Ty.s : Ty → String
  | .int => "int" | .bool => "bool" | .str => "str" | .list => "list" | .tuple => "tuple"
def tyOf (S : Sx) : Expr → Option Ty
  | .Name x _ => if isBlt S x then if x = "int" then some .int else if x = "bool" then some .bool else if x = "str" then some .str else if x = "list" then some .list else if x = "tuple" then some .tuple else none else none
  | _ => none
def isD : D → Ty → Bool
  | .bool _, .bool => true
  | .bool _, .int => true
  | .int _, .int => true
  | .str _, .str => true
  | .list _, .list => true
  | .tuple _, .tuple => true
  | _, _ => false
theorem isD_kit (d : D) (t : Ty) : kitB (tyD d) t.s = some (isD d t) := by
  cases t <;> cases d <;> (simp only [tyD, Ty.s, isD]; decide +kernel)
theorem tyOf_ok (C : CxS F S X) {e : Expr} {t : Ty} (h : tyOf S e = some t) : PE X e (tC (.ty t.s)) ∧ noStar e = true := by
  cases e with
  | Name x pos =>
    refine ⟨?_, rfl⟩
    dsimp only [tyOf] at h
    cases hb : isBlt S x with
    | false => rw [hb] at h; cases h
    | true =>
      rw [hb] at h
      obtain ⟨g, m, n, d⟩ := isBlt_ok C hb
      simp only [if_true] at h
      split at h
      · rename_i ex; subst ex; cases h; exact pe_bltn g m PyProof.Rows.boot_int rfl n d
      split at h
      · rename_i ex; subst ex; cases h; exact pe_bltn g m PyProof.Rows.boot_bool rfl n d
      split at h
      · rename_i ex; subst ex; cases h; exact pe_bltn g m PyProof.Rows.boot_str rfl n d
      split at h
      · rename_i ex; subst ex; cases h; exact pe_bltn g m PyProof.Rows.boot_list rfl n d
      split at h
      · rename_i ex; subst ex; cases h; exact pe_bltn g m PyProof.Rows.boot_tuple rfl n d
      · cases h
  | _ => cases h
theorem tyx_of {β : Option Addr} {O : Addr → Prop} {H : Hp} {v : V} {d : D} (h : TopAt X.K β O H v d) : TyX X.K H v (.type (tyD d)) := by
  cases d with
  | list ds => obtain ⟨a, xs, rfl, _, h1, h2⟩ := h; exact .base (.lst h1)
  | dict kds =>
    obtain ⟨a, rfl, _, h⟩ := h
    rcases h with ⟨kvs, h1, _⟩ | ⟨_, _, kvs, h1, _⟩
    · exact .base (.dK h1)
    · exact .base (.dT h1)
  | none => cases h; exact .base .non
  | bool _ => cases h; exact .base (.bl _)
  | int _ => cases h; exact .base (.int _)
  | str _ => cases h; exact .base (.str _)
  | tuple ds =>
    obtain ⟨a, xs, rfl, h1, h2⟩ := rp_tup h
    rcases fz_tup h1 with (z | ⟨o, z⟩) | ⟨o, its, n, z, c, _⟩
    · exact .base (.tup z)
    · exact .fTuple z
    · exact .kTuple z c
def isiF (t : Ty) (f : VF) (env : Env') (st : BSt) : Option (R × BSt) := (f env st).map fun p => (.fz (.bool (isD p.1 t)), p.2)
def isInst (S : Sx) (x : Str) : Bool := isBlt S x && decide (x = "isinstance")
theorem s_isi (C : CxS F S X) {x : Str} {e c : Expr} {t : Ty} {p pos : Pos} {f : VF} (hx : isInst S x = true) (ht : tyOf S c = some t) (hn : noStar e = true) (he : SoundV X e f) : SoundE X (.Call (.Name x p) [e, c] [] pos) (isiF t f) := by
  intro β Oo H0 O σ H env st r st' Q rel h q
  obtain ⟨⟨d, s1⟩, e1, h⟩ := map1 h
  cases h
  unfold isInst at hx
  rw [Bool.and_eq_true] at hx
  have ex := of_decide_eq_true hx.2
  subst ex
  obtain ⟨g, m, n, db⟩ := isBlt_ok C hx.1
  obtain ⟨pc, nc⟩ := tyOf_ok C ht
  have hs := noStar_ok hn [c] X.env
  have hs' := noStar_ok nc [] X.env
  refine (pe_callB call_isi g m PyProof.Rows.boot_isinstance (pa_cons (we_pe X e) (pa_cons pc pa_nil hs') hs) n db hs (noStars_any (by simp [nc]))).we (he rel e1 fun v H1 sb1 bg1 tv => ?_)
  exact ⟨_, _, _, _, _, rfl, .ty _, tyx_of tv, kit_ty (isD_kit d t), q _ _ sb1 bg1 (.bl _)⟩
def isiF2 (t u : Ty) (f : VF) (env : Env') (st : BSt) : Option (R × BSt) := (f env st).map fun p => (.fz (.bool (isD p.1 t || isD p.1 u)), p.2)
theorem s_isi2 (C : CxS F S X) {x : Str} {e c c' : Expr} {t u : Ty} {k : Nat} {p p2 pos : Pos} {f : VF} (hx : isInst S x = true) (ht : tyOf S c = some t) (ht' : tyOf S c' = some u) (hn : noStar e = true) (he : SoundV X e f) :
    SoundE X (.Call (.Name x p) [e, .Tuple [c, c'] k p2] [] pos) (isiF2 t u f) := by
  intro β Oo H0 O σ H env st r st' Q rel h q
  obtain ⟨⟨d, s1⟩, e1, h⟩ := map1 h
  cases h
  unfold isInst at hx
  rw [Bool.and_eq_true] at hx
  have ex := of_decide_eq_true hx.2
  subst ex
  obtain ⟨g, m, n, db⟩ := isBlt_ok C hx.1
  obtain ⟨pc, nc⟩ := tyOf_ok C ht
  obtain ⟨pc', nc'⟩ := tyOf_ok C ht'
  have hs := noStar_ok hn [.Tuple [c, c'] k p2] X.env
  have ha : PA X [c, c'] _ := pa_cons pc (pa_cons pc' pa_nil (noStar_ok nc' [] X.env)) (noStar_ok nc [c'] X.env)
  refine (pe_callB call_isiT g m PyProof.Rows.boot_isinstance (pa_cons (we_pe X e) (pa_cons (pe_tup ha) pa_nil rfl) hs) n db hs rfl).we (he rel e1 fun v H1 sb1 bg1 tv => ?_)
  refine ⟨by show 2 ≤ sizeLine; decide, fun tp htp => ?_⟩
  refine ⟨_, tp, _, _, _, isD d t || isD d u, rfl, upd_same, .cons (.ty _) (.cons (.ty _) .nil), tyx_of (tv.mono (same_fz (same_laid htp)) (SB.laid htp)), ?_, ?_⟩
  · refine kitAny_cons (kit_ty (isD_kit d t)) (fun hf => kitAny_cons (kit_ty (isD_kit d u)) (fun hf' => ?_) (fun hf' => by rw [hf']; simp)) (fun hf => by rw [hf]; rfl)
    rw [hf, hf']; exact kitAny_nil
  · exact q _ _ (sb1.trans (SB.laid htp)) (same_bag (same_laid htp) bg1) (.bl _)
/-! ### x.upper() -/
def noCall0 : Expr → Bool
  | .Call _ [] _ _ => false
  | _ => true
theorem noCall0_ok {o : Expr} (h : noCall0 o = true) (a : Str) (env : Env) (w : Sem Value) : attributeBase o a env w = w := by
  cases o with
  | Call f as ks p =>
    cases as with
    | nil => cases h
    | cons b bs => cases f <;> rfl
  | _ => rfl
def upF (f : VF) (env : Env') (st : BSt) : Option (R × BSt) := (f env st).bind fun p => match p.1 with
  | .str x => if decide (x.length ≤ 5592405) then some (.fz (.str (Txt.upper x)), p.2) else none
  | _ => none
theorem s_up {o : Expr} {f : VF} {apos pos : Pos} (hc : noCall0 o = true) (hl : (apos.endLine == pos.line) = true) (ho : SoundV X o f) : SoundE X (.Call (.Attribute o "upper" apos) [] [] pos) (upF f) := by
  intro β Oo H0 O σ H env st r st' Q rel h q
  obtain ⟨⟨d, s1⟩, e1, h⟩ := bind1 h
  simp only at h
  split at h
  · obtain ⟨c, h⟩ := ite_some h
    cases h
    refine (pe_upper (we_pe X o) (noCall0_ok hc _ _ _) hl).we (ho rel e1 fun v H1 sb1 bg1 tv => ?_)
    cases tv
    exact ⟨⟨_, rfl⟩, _, rfl, rfl, of_decide_eq_true c, q _ _ sb1 bg1 (.str _)⟩
  · cases h
end
end Iv

set_option maxHeartbeats 4000000
/-! zip of two sequences, each a list or a tuple -/
namespace Iv
open PySem PySem.Spec PyProof.Rows L2
inductive SK | l | t
def SK.sq (k : SK) (K : PySem.W.Frag) (H : Hp) (a : Addr) (xs : List V) : Prop := match k with
  | .l => SqL K H a xs
  | .t => SqT K H a xs
def SK.itr (k : SK) (h : Heap) (it a : Addr) (i : Nat) : Prop := match k with
  | .l => h.IsListIter it a i
  | .t => h.IsTupleIter it a i
def SK.isq (k : SK) (h : Heap) (a : Addr) (xs : Array Value) : Prop := match k with
  | .l => h.IsList a xs
  | .t => h.IsTuple a xs
def SK.ob (k : SK) (a : Addr) : Obj := match k with
  | .l => { cls := .type "list_iterator", data := .fields #[.ref a, .int 0 0] }
  | .t => { cls := .type "tuple_iterator", data := .fields #[.ref a, .int 0 0] }
theorem SK.draws {prog : Program} {w : World} {A : Around} (k : SK) (hh : A.handled = none) (it a : Addr) (hne : a ≠ it) (items : Array Value) :
    Draws prog w A it [it, a] items.size (fun i v => items[i]? = some v) (fun i h => k.itr h it a i ∧ k.isq h a items) := by
  cases k
  · exact Draws.list hh it a hne items
  · exact Draws.tuple hh it a hne items
theorem SK.begins (k : SK) (a : Addr) (items : Array Value) : Begins (.ref a) (k.ob a) fun h => k.isq h a items := by
  cases k
  · exact begins_list a items
  · exact begins_tuple a items
theorem SK.start (k : SK) {h : Heap} {it a : Addr} (e : h.get? it = some (k.ob a)) : k.itr h it a 0 := by
  cases k
  · exact ⟨_, e, rfl, rfl⟩
  · exact ⟨_, e, rfl, rfl⟩
theorem SK.obj {k : SK} {h : Heap} {it a : Addr} {i : Nat} (x : k.itr h it a i) : ∃ o, h.get? it = some o ∧ ∀ v, o.data ≠ .cell v := by
  cases k
  · obtain ⟨o, e, _, d⟩ := x; exact ⟨o, e, fun v q => by rw [d] at q; cases q⟩
  · obtain ⟨o, e, _, d⟩ := x; exact ⟨o, e, fun v q => by rw [d] at q; cases q⟩
theorem SK.keep {k : SK} {h h' : Heap} {it a : Addr} {i : Nat} (x : k.itr h it a i) (e : ∀ o, h.get? it = some o → h'.get? it = some o) : k.itr h' it a i := by
  cases k
  · exact Heap.IsListIter.at x e
  · exact Heap.IsTupleIter.at x e
section
variable {X : Cx} {pins : List (Addr × Obj)} {σ : L2.St} {H : Hp} {s : Shared}
theorem SK.get {k : SK} (I : Inv X pins σ H s) {a : Addr} {xs : List V} (h : k.sq X.K H a xs) : ∃ its, Vals xs its ∧ k.isq s.heap a its.toArray ∧ a < s.heap.objs.size := by
  cases k
  · obtain ⟨its, rv, p, _⟩ := I.list h; exact ⟨its, rv, p.isList, p.lt⟩
  · obtain ⟨its, rv, p, _⟩ := I.tuple h
    obtain ⟨o1, ho1, _⟩ := id p
    exact ⟨its, rv, p, Heap.lt_size ho1⟩
theorem SK.inj {k : SK} (I : Inv X pins σ H s) {a : Addr} {xs ys : List V} (h : k.sq X.K H a xs) (h' : k.sq X.K H a ys) : xs = ys := by
  cases k
  · exact I.list_inj h h'
  · exact I.tuple_inj h h'
end
theorem sep_of {z TI TO i1 i2 l1 l2 : Addr} (D : ZipApart z TI TO i1 i2 l1 l2) : ZipSep2 z TI TO i1 i2 [i1, l1] [i2, l2] where
  TIz := D.TIz
  TOz := D.TOz
  TITO := D.TITO
  TIi1 := D.TIi1
  mem1 := by simp
  zf1 := by simp [D.i1z.symm, D.l1z.symm]
  Tf1 := by simp [D.TOi1, D.l1TO.symm]
  TIi2 := D.TIi2
  mem2 := by simp
  zf2 := by simp [D.i2z.symm, D.l2z.symm]
  Tf2 := by simp [D.TOi2, D.l2TO.symm]
  sep1_2 := by simp [D.i12, D.l2i1.symm]
  sep2_1 := by simp [D.i12.symm, D.l1i2.symm]
/-- the sequences as they stand, their items in new pairs -/
def ItzG (K : PySem.W.Frag) (k1 k2 : SK) (a b : Addr) : It :=
  ⟨fun i H => ∃ (xs ys : List V) (x y : V), k1.sq K H a xs ∧ k2.sq K H b ys ∧ xs[i]? = some x ∧ ys[i]? = some y,
    fun i H v H' => ∃ T x y, v = .ref T ∧ H T = none ∧ H' = upd H T (.tup [x, y]) ∧ (∀ xs, k1.sq K H a xs → xs[i]? = some x) ∧ ∀ ys, k2.sq K H b ys → ys[i]? = some y,
    fun i H => ∃ xs ys : List V, k1.sq K H a xs ∧ k2.sq K H b ys ∧ (i = xs.length ∨ i = ys.length) ∧ i ≤ xs.length ∧ i ≤ ys.length⟩
abbrev tnG (k1 k2 : SK) (z TI TO i1 i2 a b : Addr) (i : Nat) (h : Heap) : Prop := IsZip h z TI TO .none ∧ IsPair h TI (.ref i1) (.ref i2) ∧ (∃ x y, IsPair h TO x y) ∧ k1.itr h i1 a i ∧ k2.itr h i2 b i
theorem turn_zipG {P : Program} {w : World} {K : PySem.W.Frag} {k1 k2 : SK} {elts : List Expr} {kk : Nat} {tpos : Pos} {a b z TI TO i1 i2 : Addr} (D : ZipApart z TI TO i1 i2 a b) :
    Turn P w K (.Tuple elts kk tpos) (ItzG K k1 k2 a b) [z, TI, TO, i1, i2] z (tnG k1 k2 z TI TO i1 i2 a b) where
  mem := by simp
  obj := fun i h st c hc => by
    obtain ⟨hz, hTI, ⟨x, y, hTO⟩, h1, h2⟩ := st
    simp only [List.mem_cons, List.not_mem_nil, or_false] at hc
    rcases hc with rfl | rfl | rfl | rfl | rfl
    · exact ⟨_, hz, fun v q => nomatch q⟩
    · exact ⟨_, hTI, fun v q => nomatch q⟩
    · exact ⟨_, hTO, fun v q => nomatch q⟩
    · exact SK.obj h1
    · exact SK.obj h2
  keep := fun i h h' st k => ⟨k z (by simp) _ st.1, k TI (by simp) _ st.2.1, (let ⟨x, y, e⟩ := st.2.2.1; ⟨x, y, k TO (by simp) _ e⟩), SK.keep st.2.2.2.1 fun o q => k i1 (by simp) o q, SK.keep st.2.2.2.2 fun o q => k i2 (by simp) o q⟩
  item := by
    intro X hP hw hK hc i pins s σ H E I hf st hg
    subst hP hw hK
    obtain ⟨hz, hTI, ⟨x0, y0, hTO⟩, h1, h2⟩ := st
    obtain ⟨xs, ys, x, y, hqx, hqy, hx, hy⟩ := hg
    obtain ⟨its, rv, p, _⟩ := SK.get I hqx
    obtain ⟨its2, rv2, p2, _⟩ := SK.get I hqy
    obtain ⟨u, hu, ru⟩ := rv.get hx
    obtain ⟨u2, hu2, ru2⟩ := rv2.get hy
    have hh : X.A.in1.handled = none := I.ok.hd hc
    have hzl : z < s.heap.objs.size := Heap.lt_size hz
    have hi1 : i < its.toArray.size := by simpa using (List.getElem?_eq_some_iff.mp hu).1
    have hi2 : i < its2.toArray.size := by simpa using (List.getElem?_eq_some_iff.mp hu2).1
    refine wpAny_pyNext_zipD2_item (sep_of D) (k1.draws hh i1 a D.l1i1 its.toArray) (k2.draws hh i2 b D.l2i2 its2.toArray) hz hTI hTO ⟨h1, p⟩ ⟨h2, p2⟩ hi1 hi2 fun v1 v2 h' tk e1 e2 z' TO' s1 s2 hT hsz hk => ?_
    have e1 : v1 = u := by rw [show its.toArray[i]? = some u by simpa using hu] at e1; cases e1; rfl
    have e2 : v2 = u2 := by rw [show its2.toArray[i]? = some u2 by simpa using hu2] at e2; cases e2; rfl
    subst e1 e2
    refine ⟨_, rfl, wpAny_letOwnedTupleGo_zip (s := { s with heap := h', toks := tk }) z' fun h'' z'' sb => ?_⟩
    have hT2 : h''.get? s.heap.objs.size = some { cls := .type "tuple", data := .seq #[v1, v2] } := (sb.2 _ (Nat.ne_of_gt hzl)).trans hT
    have new : ObjOk X.prog X.w (upd H s.heap.objs.size (.tup [x, y])) h'' s.heap.objs.size (.tup [x, y]) :=
      ⟨by show 2 ≤ sizeLine; decide, [v1, v2], .cons ru (.cons ru2 .nil), ⟨_, hT2, rfl, _, rfl⟩⟩
    have I1 : Inv X pins σ (upd H s.heap.objs.size (.tup [x, y])) { s with heap := h'', toks := tk } :=
      I.turnedNew (t' := tk) (ch := [z, TI, TO, i1, i2]) (fun c o hb q => by
        simp only [List.mem_cons, List.not_mem_nil, or_false, not_or] at hb
        exact (sb.2 c hb.1).trans (hk c o hb.1 hb.2.2.1 hb.2.2.2.1 hb.2.2.2.2 q)) hf (Nat.le_refl _) new
    refine ⟨.ref s.heap.objs.size, _, I1, rfl, ⟨_, x, y, rfl, I.hok.fresh (Nat.le_refl _), rfl, fun l hl => by rw [SK.inj I hl hqx]; exact hx, fun l hl => by rw [SK.inj I hl hqy]; exact hy⟩, ⟨z'', ?_, ⟨v1, v2, ?_⟩, ?_, ?_⟩, fun c hcm => ?_⟩
    · exact (sb.2 _ D.TIz).trans (hk _ _ D.TIz D.TITO D.TIi1 D.TIi2 hTI)
    · exact (sb.2 _ D.TOz).trans TO'
    · exact SK.keep s1.1 fun o q => (sb.2 _ D.i1z).trans q
    · exact SK.keep s2.1 fun o q => (sb.2 _ D.i2z).trans q
    · have hlt : c < s.heap.objs.size := by
        simp only [List.mem_cons, List.not_mem_nil, or_false] at hcm
        rcases hcm with rfl | rfl | rfl | rfl | rfl
        · exact hzl
        · exact Heap.lt_size hTI
        · exact Heap.lt_size hTO
        · obtain ⟨o, e, _⟩ := SK.obj h1; exact Heap.lt_size e
        · obtain ⟨o, e, _⟩ := SK.obj h2; exact Heap.lt_size e
      rw [upd_ne (Nat.ne_of_lt hlt)]
      exact (hf c hcm).1
  done := by
    intro X hP hw hK hc i pins s σ H E I hf st hg
    subst hP hw hK
    obtain ⟨hz, hTI, ⟨x0, y0, hTO⟩, h1, h2⟩ := st
    obtain ⟨xs, ys, hqx, hqy, hend, hle1, hle2⟩ := hg
    obtain ⟨its, rv, p, _⟩ := SK.get I hqx
    obtain ⟨its2, rv2, p2, _⟩ := SK.get I hqy
    have l1 := rv.length
    have l2 := rv2.length
    have hh : X.A.in1.handled = none := I.ok.hd hc
    refine wpAny_pyNext_zipD2_end (sep_of D) (k1.draws hh i1 a D.l1i1 its.toArray) (k2.draws hh i2 b D.l2i2 its2.toArray) hz hTI hTO ⟨h1, p⟩ ⟨h2, p2⟩ (by simp; omega) (by simp; omega) (by simp; omega) fun h' tk hk => ⟨rfl, I.turnedL (t' := tk) (ch := [z, TI, TO, i1, i2]) (fun c o hb q => ?_) hf⟩
    simp only [List.mem_cons, List.not_mem_nil, or_false, not_or] at hb
    exact hk c o hb.1 hb.2.2.1 hb.2.2.2.1 hb.2.2.2.2 q
  self := fun A i s Q E st h => wpAny_pyIter_zip st.1 h
end Iv

set_option maxHeartbeats 400000
namespace Iv
open PySem PySem.Spec PyProof.Rows L2
def iZipG (K : PySem.W.Frag) (ta : TA) : TI := fun σ H R => ta σ H fun vs H1 => ∃ k1 k2 a b xs ys, vs = [.ref a, .ref b] ∧ SK.sq k1 K H1 a xs ∧ SK.sq k2 K H1 b ys ∧ R (ItzG K k1 k2 a b) H1
theorem pi_zipG {X : Cx} {e e2 : Expr} {ta : TA} {p pos tpos : Pos} {elts : List Expr} {kk : Nat} (hg : Gl X "zip") (hm : X.mg "zip" = none) (ha : PA X [e, e2] ta)
    (hs : starEach [e, e2] X.env = (false, eval e X.env) :: starEach [e2] X.env) (hpl : (backTo pos (starEach [e2] X.env)).any (·.1) = false) :
    PI X (.Tuple elts kk tpos) (.Call (.Name "zip" p) [e, e2] [] pos) (iZipG X.K ta) := by
  refine ⟨fun pins s σ H R I h => ?_⟩
  refine Call_ (ld_blt I hg hm PyProof.Rows.boot_zip (PyProof.Rows.callWith_type1 (thn (ha.run pos pins s σ H _ I h) fun us s1 ⟨vs, H1, I1, r1, q1⟩ => ?_) hs hpl))
  obtain ⟨k1, k2, a, b, xs, ys, rfl, hqx, hqy, q⟩ := q1
  obtain ⟨its, rv, p1, lt1⟩ := SK.get I1 hqx
  obtain ⟨its2, rv2, p2, lt2⟩ := SK.get I1 hqy
  cases r1 with
  | cons r rr =>
  cases rr with
  | cons r' rr =>
    cases rr
    cases r
    cases r'
    have fresh5 : ∀ c, c ∈ [s1.heap.objs.size + 4, s1.heap.objs.size + 2, s1.heap.objs.size + 3, s1.heap.objs.size, s1.heap.objs.size + 1] → FpOk X pins H1 c := fun c hcm => by
      have hle : s1.heap.objs.size ≤ c := by
        generalize s1.heap.objs.size = n at hcm
        simp only [List.mem_cons, List.not_mem_nil, or_false] at hcm
        omega
      exact I1.fpOk hle (I1.hok.fresh hle)
    refine zip_begins2 (k1.begins a its.toArray) (k2.begins b its2.toArray) p1 p2 fun h' hz hTI hTO h1 h2 hsz hk => wpAny_pyIter_zip hz ?_
    have I2 : Inv X pins σ H1 { s1 with heap := h' } := I1.kept (t' := s1.toks) hk
    exact ⟨s1.heap.objs.size + 4, [s1.heap.objs.size + 4, s1.heap.objs.size + 2, s1.heap.objs.size + 3, s1.heap.objs.size, s1.heap.objs.size + 1], _, _, H1, rfl, I2, turn_zipG (k1 := k1) (k2 := k2) (PySem.W.ktu_apart s1.heap.objs.size a b lt1 lt2), ⟨hz, hTI, ⟨_, _, hTO⟩, k1.start h1, k2.start h2⟩, fresh5, q⟩
end Iv

set_option maxHeartbeats 4000000
namespace Iv
open PySem PySem.Spec PyProof.Rows L2
variable [Nm]
/-! ### what is walked -/
def Wi (X : Cx) (tg e : Expr) : TI := fun σ H R => ∀ pins s, Inv X pins σ H s → wpAny (model X.prog X.w) X.A (eval e X.env) (fun v s1 => wpAny (model X.prog X.w) X.A (pyIter v) (PIE X pins σ tg R) X.xe s1) X.xe s
theorem wi_pi (X : Cx) (tg e : Expr) : PI X tg e (Wi X tg e) := ⟨fun pins s _ _ _ I h => h pins s I⟩
theorem _root_.L2.PI.wi {X : Cx} {tg e : Expr} {t : TI} {σ : L2.St} {H : Hp} {R : It → Hp → Prop} (h : PI X tg e t) (q : t σ H R) : Wi X tg e σ H R := fun pins s I => h.run pins s σ H R I q
structure ItOk (K : PySem.W.Frag) (J : It) (Fr : Hp → Prop) (ds : List D) : Prop where
  mono : ∀ {h h' : Hp}, Same h h' → Fr h → Fr h'
  goes : ∀ {O : Addr → Prop} {H : Hp} {i : Nat}, i < ds.length → Fr (Fz O H) → J.go i H
  stops : ∀ {O : Addr → Prop} {H : Hp}, Fr (Fz O H) → J.stop ds.length H
  yld : ∀ {O : Addr → Prop} {H H' : Hp} {i : Nat} {x : V}, i < ds.length → (∀ a, O a → H a ≠ none) → Fr (Fz O H) → J.yld i H x H' → Same H H' ∧ ∃ d, ds[i]? = some d ∧ Rp K (Fz O H') x d
abbrev IF := Env' → BSt → Option (List D × BSt)
def SoundI (X : Cx) (tg e : Expr) (f : IF) : Prop := ∀ ⦃β : Option Addr⦄ ⦃Oo : Addr → Prop⦄ ⦃H0 : Hp⦄ ⦃O : Addr → Prop⦄ ⦃σ : L2.St⦄ ⦃H : Hp⦄ ⦃env : Env'⦄ ⦃st : BSt⦄ ⦃ds : List D⦄ ⦃st' : BSt⦄ ⦃R : It → Hp → Prop⦄,
  Rel X.K β Oo H0 O σ H env st → f env st = some (ds, st') → (∀ J Fr H', SB β H H' → BagAt β H' st' → ItOk X.K J Fr ds → Fr (Fz O H') → R J H') → Wi X tg e σ H R
section
variable {F : FT} {S : Sx} {X : Cx}
theorem rpall_get {K : PySem.W.Frag} {h : Hp} {xs : List V} {ds : List D} (a : RpAll K h xs ds) {i : Nat} {x : V} (e : xs[i]? = some x) : ∃ d, ds[i]? = some d ∧ Rp K h x d := by
  have hi : i < ds.length := by rw [← a.length]; exact (List.getElem?_eq_some_iff.mp e).1
  obtain ⟨v, h1, h2⟩ := a.get (List.getElem?_eq_getElem hi)
  rw [e] at h1; cases h1
  exact ⟨_, List.getElem?_eq_getElem hi, h2⟩
theorem it_list {K : PySem.W.Frag} {a : Addr} {xs : List V} {ds : List D} : ItOk K (Itl K a) (fun h => h a = some (.lst xs) ∧ RpAll K h xs ds) ds where
  mono := fun e z => ⟨e _ _ z.1, z.2.mono e⟩
  goes := fun {O H i} hi z => walk_list.goes i H (by rw [z.2.length]; exact hi) (SqL.of (fz_some z.1).2)
  stops := fun {O H} z => by rw [← z.2.length]; exact walk_list.stops H (SqL.of (fz_some z.1).2)
  yld := fun {O H H' i x} hi _ z y => by
    obtain ⟨rfl, e⟩ := walk_list.yields i H x H' (by rw [z.2.length]; exact hi) (SqL.of (fz_some z.1).2) y
    exact ⟨Same.refl _, rpall_get z.2 e⟩
theorem it_tup {K : PySem.W.Frag} {a : Addr} {xs : List V} {ds : List D} : ItOk K (Itt K a) (fun h => SqT K h a xs ∧ RpAll K h xs ds) ds where
  mono := fun e z => ⟨sameT e z.1, z.2.mono e⟩
  goes := fun {O H i} hi z => walk_tup.goes i H (by rw [z.2.length]; exact hi) (sameT fz_same z.1)
  stops := fun {O H} z => by rw [← z.2.length]; exact walk_tup.stops H (sameT fz_same z.1)
  yld := fun {O H H' i x} hi _ z y => by
    obtain ⟨rfl, e⟩ := walk_tup.yields i H x H' (by rw [z.2.length]; exact hi) (sameT fz_same z.1) y
    exact ⟨Same.refl _, rpall_get z.2 e⟩
def signsD (z : Str) : List D := z.cps.toList.map fun c => .str ⟨#[c]⟩
theorem it_str {K : PySem.W.Frag} {z : Str} : ItOk K (Its z) (fun _ => True) (signsD z) where
  mono := fun _ z => z
  goes := fun {O H i} hi _ => walk_str.goes i H (by simpa [signsD] using hi) True.intro
  stops := fun {O H} _ => by have := (walk_str (z := z)).stops H True.intro; simpa [signsD] using this
  yld := fun {O H H' i x} hi _ _ y => by
    obtain ⟨rfl, c, e, rfl⟩ := walk_str.yields i H x H' (by simpa [signsD] using hi) True.intro y
    exact ⟨Same.refl _, _, by unfold signsD; rw [List.getElem?_map, Array.getElem?_toList, e]; rfl, .str _⟩
def rangeD (n : Nat) : List D := (List.range n).map fun i => .int (i : Nat)
theorem it_range {K : PySem.W.Frag} {n : Nat} : ItOk K (Itr 0 n) (fun _ => True) (rangeD n) where
  mono := fun _ z => z
  goes := fun {O H i} hi _ => walk_range.goes i H (by simpa [rangeD] using hi) True.intro
  stops := fun {O H} _ => by have := (walk_range (lo := 0) (n := n)).stops H True.intro; simpa [rangeD] using this
  yld := fun {O H H' i x} hi _ _ y => by
    have hi' : i < n := by simpa [rangeD] using hi
    obtain ⟨rfl, rfl⟩ := walk_range.yields i H x H' hi' True.intro y
    exact ⟨Same.refl _, .int (i : Nat), by unfold rangeD; rw [List.getElem?_map, List.getElem?_range hi']; rfl, by show Rp K (Fz O H') (.int (0 + (i : Int))) _; rw [Int.zero_add]; exact .int _⟩
theorem ypair {K : PySem.W.Frag} {O : Addr → Prop} {H H' : Hp} {v : V} {d e : D} {T : Addr} {x y : V} (hO : ∀ a, O a → H a ≠ none) (hT : H T = none) (hv : v = .ref T) (h' : H' = upd H T (.tup [x, y])) (hx : Rp K (Fz O H) x d) (hy : Rp K (Fz O H) y e) :
    Same H H' ∧ Rp K (Fz O H') v (.tuple [d, e]) := by
  subst hv h'
  refine ⟨same_laid hT, .tup (SqT.of (fz_put (fun z => hO T z hT) upd_same rfl)) ?_⟩
  have m : Same (Fz O H) (Fz O (upd H T (.tup [x, y]))) := same_fz (same_laid hT)
  exact .cons (hx.mono m) (.cons (hy.mono m) .nil)
def zipD (as bs : List D) : List D := (as.zip bs).map fun p => .tuple [p.1, p.2]
theorem it_zip {K : PySem.W.Frag} {a b : Addr} {xs ys : List V} {ds es : List D} : ItOk K (Itz K a b) (fun h => (h a = some (.lst xs) ∧ RpAll K h xs ds) ∧ (h b = some (.lst ys) ∧ RpAll K h ys es)) (zipD ds es) where
  mono := fun e z => ⟨⟨e _ _ z.1.1, z.1.2.mono e⟩, ⟨e _ _ z.2.1, z.2.2.mono e⟩⟩
  goes := fun {O H i} hi z => (walk_zip (xs := xs) (ys := ys) rfl).goes i H (by rw [z.1.2.length, z.2.2.length]; simpa [zipD] using hi) ⟨SqL.of (fz_some z.1.1).2, SqL.of (fz_some z.2.1).2⟩
  stops := fun {O H} z => by
    have := (walk_zip (K := K) (a := a) (b := b) (xs := xs) (ys := ys) rfl).stops H ⟨SqL.of (fz_some z.1.1).2, SqL.of (fz_some z.2.1).2⟩
    rw [z.1.2.length, z.2.2.length] at this
    simpa [zipD] using this
  yld := fun {O H H' i v} hi hO z y => by
    obtain ⟨T, x, y', h1, h2, h3, h4, h5⟩ := (walk_zip (K := K) (a := a) (b := b) (xs := xs) (ys := ys) rfl).yields i H v H' (by rw [z.1.2.length, z.2.2.length]; simpa [zipD] using hi) ⟨SqL.of (fz_some z.1.1).2, SqL.of (fz_some z.2.1).2⟩ y
    obtain ⟨d, e1, r1⟩ := rpall_get z.1.2 h4
    obtain ⟨e, e2, r2⟩ := rpall_get z.2.2 h5
    obtain ⟨s, r⟩ := ypair hO h2 h1 h3 r1 r2
    refine ⟨s, _, ?_, r⟩
    unfold zipD
    rw [List.getElem?_map, (List.getElem?_zip_eq_some (z := (d, e))).mpr ⟨e1, e2⟩]; rfl
def enumD : Nat → List D → List D
  | _, [] => []
  | n, d :: ds => .tuple [.int (n : Nat), d] :: enumD (n + 1) ds
theorem enumD_len : ∀ (n : Nat) (ds : List D), (enumD n ds).length = ds.length
  | _, [] => rfl
  | n, _ :: ds => by simp [enumD, enumD_len (n + 1) ds]
theorem enumD_get : ∀ (ds : List D) (n i : Nat) {d : D}, ds[i]? = some d → (enumD n ds)[i]? = some (.tuple [.int ((n + i : Nat) : Int), d])
  | d :: ds, n, 0, _, h => by simp at h; subst h; rfl
  | _ :: ds, n, i + 1, _, h => by
    have := enumD_get ds (n + 1) i (by simpa using h)
    simp only [enumD, List.getElem?_cons_succ]
    rw [this, show n + 1 + i = n + (i + 1) by omega]
theorem it_enum {K : PySem.W.Frag} {a : Addr} {xs : List V} {ds : List D} : ItOk K (Ite K a) (fun h => h a = some (.lst xs) ∧ RpAll K h xs ds) (enumD 0 ds) where
  mono := fun e z => ⟨e _ _ z.1, z.2.mono e⟩
  goes := fun {O H i} hi z => walk_enum.goes i H (by rw [z.2.length]; simpa [enumD_len] using hi) (SqL.of (fz_some z.1).2)
  stops := fun {O H} z => by rw [enumD_len, ← z.2.length]; exact walk_enum.stops H (SqL.of (fz_some z.1).2)
  yld := fun {O H H' i v} hi hO z y => by
    obtain ⟨T, x, y', h1, h2, h3, h4, h5⟩ := walk_enum.yields i H v H' (by rw [z.2.length]; simpa [enumD_len] using hi) (SqL.of (fz_some z.1).2) y
    have h4 := Option.some.inj h4
    subst h4
    obtain ⟨e, e2, r2⟩ := rpall_get z.2 h5
    obtain ⟨s, r⟩ := ypair hO h2 h1 h3 (.int _) r2
    exact ⟨s, _, by rw [enumD_get ds 0 i e2, Nat.zero_add], r⟩
theorem it_enumT {K : PySem.W.Frag} {a : Addr} {xs : List V} {ds : List D} : ItOk K (IteT K a) (fun h => SqT K h a xs ∧ RpAll K h xs ds) (enumD 0 ds) where
  mono := fun e z => ⟨sameT e z.1, z.2.mono e⟩
  goes := fun {O H i} hi z => by
    have hl : i < xs.length := by rw [z.2.length]; simpa [enumD_len] using hi
    exact ⟨xs, xs[i], sameT fz_same z.1, List.getElem?_eq_getElem hl⟩
  stops := fun {O H} z => ⟨xs, sameT fz_same z.1, by rw [enumD_len, z.2.length]⟩
  yld := fun {O H H' i v} hi hO z y => by
    obtain ⟨T, x, h1, h2, h3, h4⟩ := y
    obtain ⟨e, e2, r2⟩ := rpall_get z.2 (h4 xs (sameT fz_same z.1))
    obtain ⟨s, r⟩ := ypair hO h2 h1 h3 (.int _) r2
    exact ⟨s, _, by rw [enumD_get ds 0 i e2, Nat.zero_add], r⟩
def itemsD : D → Option (List D)
  | .list ds => some ds
  | .tuple ds => some ds
  | .str z => some (signsD z)
  | _ => none
def plainF (f : EF) (env : Env') (st : BSt) : Option (List D × BSt) := (f env st).bind fun p => p.1.d?.bind fun d => (itemsD d).map fun ds => (ds, p.2)
theorem s_iter {tg e : Expr} {f : EF} (he : SoundE X e f) : SoundI X tg e (plainF f) := by
  intro β Oo H0 O σ H env st ds st' R rel h q
  obtain ⟨⟨r, s1⟩, e1, h⟩ := bind1 h
  obtain ⟨d, e2, h⟩ := bind1 h
  obtain ⟨ds', e3, h⟩ := map1 h
  cases h
  unfold itemsD at e3
  split at e3
  · cases e3
    refine (pi_list (we_pe X e)).wi (he rel e1 fun v H1 sb1 bg1 rv => ?_)
    have rp := rv.rp rel e2
    cases rp with
    | lst h1 h2 => exact ⟨_, rfl, ⟨_, SqL.of (fz_some h1).2⟩, q _ _ _ sb1 bg1 it_list ⟨h1, h2⟩⟩
  · cases e3
    refine (pi_tup (we_pe X e)).wi (he rel e1 fun v H1 sb1 bg1 rv => ?_)
    have rp := rv.rp rel e2
    cases rp with
    | tup h1 h2 => exact ⟨_, rfl, ⟨_, sameT fz_same h1⟩, q _ _ _ sb1 bg1 it_tup ⟨h1, h2⟩⟩
  · cases e3
    refine (pi_str (we_pe X e)).wi (he rel e1 fun v H1 sb1 bg1 rv => ?_)
    have rp := rv.rp rel e2
    cases rp with
    | str z => exact ⟨_, rfl, q _ _ _ sb1 bg1 it_str True.intro⟩
  · cases e3
def rangeF (f : VF) (env : Env') (st : BSt) : Option (List D × BSt) := (f env st).bind fun p => match p.1 with
  | .int n => if decide (-(2 ^ 62) ≤ n) && decide (n < 2 ^ 62) then some (rangeD n.toNat, p.2) else none
  | _ => none
def isB (S : Sx) (n x : Str) : Bool := isBlt S x && decide (x = n)
theorem isB_ok (C : CxS F S X) {n x : Str} (h : isB S n x = true) : x = n ∧ Gl X n ∧ X.mg n = none := by
  unfold isB at h
  rw [Bool.and_eq_true] at h
  have e := of_decide_eq_true h.2
  subst e
  have g := isBlt_ok C h.1
  exact ⟨rfl, g.1, g.2.1⟩
theorem s_range (C : CxS F S X) {tg e : Expr} {x : Str} {f : VF} {p pos : Pos} (hx : isB S "range" x = true) (hn : noStar e = true) (he : SoundV X e f) : SoundI X tg (.Call (.Name x p) [e] [] pos) (rangeF f) := by
  intro β Oo H0 O σ H env st ds st' R rel h q
  obtain ⟨rfl, g, m⟩ := isB_ok C hx
  obtain ⟨⟨d, s1⟩, e1, h⟩ := bind1 h
  dsimp only at h
  split at h
  · obtain ⟨c, h⟩ := ite_some h
    cases h
    rw [Bool.and_eq_true] at c
    refine (pi_range1 g m (pa_cons (we_pe X e) pa_nil (noStar_ok hn [] X.env)) (noStar_ok hn [] X.env)).wi (he rel e1 fun v H1 sb1 bg1 tv => ?_)
    cases tv
    exact ⟨_, rfl, of_decide_eq_true c.1, of_decide_eq_true c.2, q _ _ _ sb1 bg1 it_range True.intro⟩
  · cases h
def rangeD2 (lo : Int) (n : Nat) : List D := (List.range n).map fun i => .int (lo + (i : Nat))
theorem it_range2 {K : PySem.W.Frag} {lo : Int} {n : Nat} : ItOk K (Itr lo n) (fun _ => True) (rangeD2 lo n) where
  mono := fun _ z => z
  goes := fun {O H i} hi _ => walk_range.goes i H (by simpa [rangeD2] using hi) True.intro
  stops := fun {O H} _ => by have := (walk_range (lo := lo) (n := n)).stops H True.intro; simpa [rangeD2] using this
  yld := fun {O H H' i x} hi _ _ y => by
    have hi' : i < n := by simpa [rangeD2] using hi
    obtain ⟨rfl, rfl⟩ := walk_range.yields i H x H' hi' True.intro y
    exact ⟨Same.refl _, .int (lo + (i : Nat)), by unfold rangeD2; rw [List.getElem?_map, List.getElem?_range hi']; rfl, .int _⟩
def rangeF2 (f g : VF) (env : Env') (st : BSt) : Option (List D × BSt) := (f env st).bind fun p => (g env p.2).bind fun q => (match p.1, q.1 with
  | .int i, .int j => if decide (-(2 ^ 62) ≤ i) && decide (i < 2 ^ 62) && decide (-(2 ^ 62) ≤ j) && decide (j < 2 ^ 62) then some (rangeD2 i (j - i).toNat, q.2) else none
  | _, _ => none)
theorem s_range2 (C : CxS F S X) {tg a b : Expr} {x : Str} {f g : VF} {p pos : Pos} (hx : isB S "range" x = true) (hna : noStar a = true) (hnb : noStar b = true) (ha : SoundV X a f) (hb : SoundV X b g) : SoundI X tg (.Call (.Name x p) [a, b] [] pos) (rangeF2 f g) := by
  intro β Oo H0 O σ H env st ds st' R rel h q
  obtain ⟨rfl, gl, m⟩ := isB_ok C hx
  obtain ⟨⟨d, s1⟩, e1, h⟩ := bind1 h
  obtain ⟨⟨e, s2⟩, e2, h⟩ := bind1 h
  dsimp only at h
  split at h
  · obtain ⟨c, h⟩ := ite_some h
    cases h
    simp only [Bool.and_eq_true, decide_eq_true_eq] at c
    refine (pi_range2 gl m (pa_cons (we_pe X a) (pa_cons (we_pe X b) pa_nil (noStar_ok hnb [] X.env)) (noStar_ok hna [b] X.env)) (by rw [noStar_ok hna [b] X.env, noStar_ok hnb [] X.env]; rfl) (by rw [noStar_ok hnb [] X.env]; rfl)).wi (ha rel e1 fun v H1 sb1 bg1 tv => ?_)
    cases tv
    refine hb (rel.step sb1 bg1) e2 fun v2 H2 sb2 bg2 tv2 => ?_
    cases tv2
    exact ⟨_, _, rfl, ⟨c.1.1.1, c.1.1.2, c.1.2, c.2⟩, q _ _ _ (sb1.trans sb2) bg2 it_range2 True.intro⟩
  · cases h
theorem SK.mono {k : SK} {K : PySem.W.Frag} {H H' : Hp} {a : Addr} {xs : List V} (e : Same H H') (h : k.sq K H a xs) : k.sq K H' a xs := by
  cases k
  · exact Same.seq e h
  · exact sameT e h
theorem it_zipG {K : PySem.W.Frag} {k1 k2 : SK} {a b : Addr} {xs ys : List V} {ds es : List D} : ItOk K (ItzG K k1 k2 a b) (fun h => (k1.sq K h a xs ∧ RpAll K h xs ds) ∧ (k2.sq K h b ys ∧ RpAll K h ys es)) (zipD ds es) where
  mono := fun e z => ⟨⟨SK.mono e z.1.1, z.1.2.mono e⟩, ⟨SK.mono e z.2.1, z.2.2.mono e⟩⟩
  goes := fun {O H i} hi z => by
    have hi' : i < ds.length ∧ i < es.length := by simp [zipD] at hi; omega
    have l1 := z.1.2.length
    have l2 := z.2.2.length
    exact ⟨xs, ys, _, _, SK.mono fz_same z.1.1, SK.mono fz_same z.2.1, List.getElem?_eq_getElem (by omega), List.getElem?_eq_getElem (by omega)⟩
  stops := fun {O H} z => by
    have l1 := z.1.2.length
    have l2 := z.2.2.length
    refine ⟨xs, ys, SK.mono fz_same z.1.1, SK.mono fz_same z.2.1, ?_, ?_, ?_⟩ <;> (simp [zipD]; omega)
  yld := fun {O H H' i v} hi hO z y => by
    obtain ⟨T, x, y', h1, h2, h3, h4, h5⟩ := y
    obtain ⟨d, e1, r1⟩ := rpall_get z.1.2 (h4 xs (SK.mono fz_same z.1.1))
    obtain ⟨e, e2, r2⟩ := rpall_get z.2.2 (h5 ys (SK.mono fz_same z.2.1))
    obtain ⟨s, r⟩ := ypair hO h2 h1 h3 r1 r2
    refine ⟨s, _, ?_, r⟩
    unfold zipD
    rw [List.getElem?_map, (List.getElem?_zip_eq_some (z := (d, e))).mpr ⟨e1, e2⟩]; rfl
def seqD : D → Option (List D)
  | .list ds => some ds
  | .tuple ds => some ds
  | _ => none
theorem rp_seq {K : PySem.W.Frag} {h : Hp} {v : V} {d : D} {ds : List D} (r : Rp K h v d) (e : seqD d = some ds) : ∃ (k : SK) (a : Addr) (xs : List V), v = .ref a ∧ k.sq K h a xs ∧ RpAll K h xs ds := by
  cases r with
  | lst h1 h2 => cases e; exact ⟨.l, _, _, rfl, SqL.of h1, h2⟩
  | tup h1 h2 => cases e; exact ⟨.t, _, _, rfl, h1, h2⟩
  | _ => cases e
def zipF (f g : EF) (env : Env') (st : BSt) : Option (List D × BSt) := (f env st).bind fun p => (g env p.2).bind fun q => (p.1.d?).bind fun d => (q.1.d?).bind fun e => (seqD d).bind fun as => (seqD e).map fun bs => (zipD as bs, q.2)
theorem s_zip (C : CxS F S X) {es : List Expr} {k : Nat} {tp : Pos} {a b : Expr} {x : Str} {f g : EF} {p pos : Pos} (hx : isB S "zip" x = true) (hn : noStar a = true) (hn' : noStar b = true) (ha : SoundE X a f) (hb : SoundE X b g) :
    SoundI X (.Tuple es k tp) (.Call (.Name x p) [a, b] [] pos) (zipF f g) := by
  intro β Oo H0 O σ H env st ds st' R rel h q
  obtain ⟨rfl, gg, m⟩ := isB_ok C hx
  obtain ⟨⟨d, s1⟩, e1, h⟩ := bind1 h
  obtain ⟨⟨e, s2⟩, e2, h⟩ := bind1 h
  obtain ⟨d', e3, h⟩ := bind1 h
  obtain ⟨e', e4, h⟩ := bind1 h
  obtain ⟨as, e5, h⟩ := bind1 h
  obtain ⟨bs, e6, h⟩ := map1 h
  cases h
  refine (pi_zipG gg m (pa_cons (we_pe X a) (pa_cons (we_pe X b) pa_nil (noStar_ok hn' [] X.env)) (noStar_ok hn [b] X.env)) (noStar_ok hn [b] X.env) (noStars_any (by simp [hn']))).wi (ha rel e1 fun v H1 sb1 bg1 rv => ?_)
  have rel1 := rel.step sb1 bg1
  refine hb rel1 e2 fun u H2 sb2 bg2 ru => ?_
  obtain ⟨k1, a1, xs, rfl, q1, w1⟩ := rp_seq ((rv.rp rel e3).mono (rel1.fzm sb2)) e5
  obtain ⟨k2, a2, ys, rfl, q2, w2⟩ := rp_seq (ru.rp rel1 e4) e6
  exact ⟨k1, k2, _, _, _, _, rfl, SK.mono fz_same q1, SK.mono fz_same q2, q _ _ _ (sb1.trans sb2) bg2 it_zipG ⟨⟨q1, w1⟩, ⟨q2, w2⟩⟩⟩
def enumF (f : EF) (env : Env') (st : BSt) : Option (List D × BSt) := (f env st).bind fun p => match p.1.d? with
  | some (.list as) => some (enumD 0 as, p.2)
  | some (.tuple as) => some (enumD 0 as, p.2)
  | _ => none
theorem s_enum (C : CxS F S X) {es : List Expr} {k : Nat} {tp : Pos} {a : Expr} {x : Str} {f : EF} {p pos : Pos} (hx : isB S "enumerate" x = true) (hn : noStar a = true) (ha : SoundE X a f) :
    SoundI X (.Tuple es k tp) (.Call (.Name x p) [a] [] pos) (enumF f) := by
  intro β Oo H0 O σ H env st ds st' R rel h q
  obtain ⟨rfl, gg, m⟩ := isB_ok C hx
  obtain ⟨⟨d, s1⟩, e1, h⟩ := bind1 h
  dsimp only at h
  split at h
  · rename_i as e3
    cases h
    refine (pi_enum gg m (pa_cons (we_pe X a) pa_nil (noStar_ok hn [] X.env)) (noStar_ok hn [] X.env)).wi (ha rel e1 fun v H1 sb1 bg1 rv => ?_)
    have r1 := rv.rp rel e3
    cases r1 with
    | lst h1 h2 => exact ⟨_, _, rfl, SqL.of (fz_some h1).2, q _ _ _ sb1 bg1 it_enum ⟨h1, h2⟩⟩
  · rename_i as e3
    cases h
    refine (pi_enumT gg m (pa_cons (we_pe X a) pa_nil (noStar_ok hn [] X.env)) (noStar_ok hn [] X.env)).wi (ha rel e1 fun v H1 sb1 bg1 rv => ?_)
    have r1 := rv.rp rel e3
    cases r1 with
    | tup h1 h2 => exact ⟨_, _, rfl, sameT fz_same h1, q _ _ _ sb1 bg1 it_enumT ⟨h1, h2⟩⟩
  · cases h
end
end Iv

set_option maxHeartbeats 4000000
namespace Iv
open PySem PySem.Spec PyProof.Rows L2
variable [Nm]
/-! ### slots stored -/
section
variable {K : PySem.W.Frag} {β : Option Addr} {Oo O : Addr → Prop} {H0 H H' : Hp} {σ : L2.St} {env : Env'} {st st' : BSt}
theorem get_set {α : Type} {l : List α} {i j : Nat} {a b : α} (h : (l.set i a)[j]? = some b) : (j = i ∧ i < l.length ∧ b = a) ∨ (j ≠ i ∧ l[j]? = some b) := by
  by_cases e : i = j
  · subst e
    by_cases hl : i < l.length
    · rw [List.getElem?_set_self hl] at h; cases h; exact .inl ⟨rfl, hl, rfl⟩
    · rw [List.getElem?_eq_none (by simpa using hl)] at h; cases h
  · rw [List.getElem?_set_ne e] at h; exact .inr ⟨fun z => e z.symm, h⟩
theorem set_ne {α : Type} {l : List α} {i j : Nat} {a : α} (h : j ≠ i) : (l.set i a)[j]? = l[j]? := List.getElem?_set_ne (fun z => h z.symm)
/-- what is not owned is stored -/
theorem Rel.put (r : Rel K β Oo H0 O σ H env st) {v : V} {x : R} (i : Nat) (h : SlAt K β O H v x) (hx : ∀ d, x ≠ .ow d) : Rel K β Oo H0 O (σ.set i (some v)) H (env.set i (some x)) st where
  sl := fun j y e => by
    rcases get_set e with ⟨rfl, hl, e⟩ | ⟨hj, e⟩
    · cases e; exact ⟨v, List.getElem?_set_self (by rw [← r.len]; exact hl), h⟩
    · rw [set_ne hj]; exact r.sl j y e
  ne := fun j k d e a hjk h1 h2 h3 => by
    rcases get_set h1 with ⟨rfl, _, z⟩ | ⟨hj, h1⟩
    · cases z; exact absurd rfl (hx d)
    rcases get_set h2 with ⟨rfl, _, z⟩ | ⟨hk, h2⟩
    · cases z; exact absurd rfl (hx e)
    rw [set_ne hj] at h3
    rw [set_ne hk]
    exact r.ne j k d e a hjk h1 h2 h3
  fr := fun j d a h1 h2 => by
    rcases get_set h1 with ⟨rfl, _, z⟩ | ⟨hj, h1⟩
    · cases z; exact absurd rfl (hx d)
    rw [set_ne hj] at h2
    exact r.fr j d a h1 h2
  len := by rw [List.length_set, List.length_set]; exact r.len
  sub := r.sub
  dom := r.dom
  dom0 := r.dom0
  sb := r.sb
  bag := r.bag
  bO := r.bO
  tabs := r.tabs
/-- a fresh thing is stored: from then on it is owned -/
theorem Rel.putOw (r : Rel K β Oo H0 O σ H env st) {p : Addr} {d : D} (i : Nat) (sb : SB β H H') (bg : BagAt β H' st') (hp : H p = none) (hn : β ≠ some p) (ho : OwAt K (orO O p) H' p d) :
    Rel K β Oo H0 (orO O p) (σ.set i (some (.ref p))) H' (env.set i (some (.ow d))) st' := by
  have nO : ¬ O p := r.notO hp
  have p0 : H0 p = none := by
    exact r.sb.dm p hn hp
  have hp' : H' p ≠ none := by
    cases d with
    | list ds => obtain ⟨xs, h, _⟩ := ho; rw [h]; simp
    | dict ds => obtain ⟨o, h, _⟩ := DcAt.some ho; rw [h]; simp
    | none => exact ho.elim
    | bool _ => exact ho.elim
    | int _ => exact ho.elim
    | str _ => exact ho.elim
    | tuple _ => exact ho.elim
  have fm : Same (Fz O H) (Fz (orO O p) H') := fun a o e => by
    obtain ⟨n, e, t⟩ := fz_some3 e
    have ap : a ≠ p := ne_of_none e hp
    exact fz_put (fun z => z.elim n ap) (sb.go a o (fun z => n (r.bO' a z)) t e) t
  exact {
    sl := fun j y e => by
      rcases get_set e with ⟨rfl, hl, e⟩ | ⟨hj, e⟩
      · cases e; exact ⟨_, List.getElem?_set_self (by rw [← r.len]; exact hl), p, rfl, .inr rfl, hn, ho⟩
      · rw [set_ne hj]
        obtain ⟨v, h1, h2⟩ := r.sl j y e
        exact ⟨v, h1, h2.mono fm sb fun a d _ _ z => .inl z⟩
    ne := fun j k d e a hjk h1 h2 h3 => by
      have old : ∀ (m : Nat) d', env[m]? = some (some (.ow d')) → σ[m]? ≠ some (some (.ref p)) := fun m d' q z => by
        obtain ⟨v, h4, b, rfl, h5, _⟩ := r.sl m _ q
        rw [h4] at z; cases z; exact nO h5
      rcases get_set h1 with ⟨ej, hl, z⟩ | ⟨hj, g1⟩
      · rcases get_set h2 with ⟨ek, _, z2⟩ | ⟨hk, g2⟩
        · exact absurd (ej.trans ek.symm) hjk
        · rw [set_ne hk]
          rw [ej, List.getElem?_set_self (by rw [← r.len]; exact hl)] at h3
          cases h3
          exact old k e g2
      · rw [set_ne hj] at h3
        rcases get_set h2 with ⟨ek, hl, z2⟩ | ⟨hk, g2⟩
        · rw [ek, List.getElem?_set_self (by rw [← r.len]; exact hl)]
          intro z
          cases z
          exact old j d g1 h3
        · rw [set_ne hk]
          exact r.ne j k d e a hjk g1 g2 h3
    fr := fun j d' a h1 h2 => by
      rcases get_set h1 with ⟨rfl, hl, z⟩ | ⟨hj, h1⟩
      · rw [List.getElem?_set_self (by rw [← r.len]; exact hl)] at h2
        cases h2; exact p0
      · rw [set_ne hj] at h2
        exact r.fr j d' a h1 h2
    len := by rw [List.length_set, List.length_set]; exact r.len
    sub := fun a ha => .inl (r.sub a ha)
    dom := fun a ha => by
      rcases ha with ha | rfl
      · exact (r.step sb bg).dom a ha
      · exact ho.plain
    dom0 := r.dom0
    sb := r.sb.trans sb
    bag := bg
    bO := r.bO
    tabs := sb.tb r.tabs }
theorem Rel.putOw_same (r : Rel K β Oo H0 O σ H env st) {p : Addr} (sb : SB β H H') (hp : H p = none) : Same (Fz O H) (Fz (orO O p) H') := fun a o e => by
  obtain ⟨n, e, t⟩ := fz_some3 e
  have ap : a ≠ p := ne_of_none e hp
  exact fz_put (fun z => z.elim n ap) (sb.go a o (fun z => n (r.bO' a z)) t e) t
/-- slots forgotten -/
def wipeE (env : Env') : List Nat → Env'
  | [] => env
  | v :: vs => (wipeE env vs).set v none
theorem wipeE_some {env : Env'} {i : Nat} {x : R} : ∀ {vs : List Nat}, (wipeE env vs)[i]? = some (some x) → env[i]? = some (some x) ∧ i ∉ vs
  | [], h => ⟨h, by simp⟩
  | v :: vs, h => by
    unfold wipeE at h
    rcases get_set h with ⟨_, _, z⟩ | ⟨hj, h⟩
    · cases z
    · obtain ⟨h1, h2⟩ := wipeE_some h
      exact ⟨h1, by simp only [List.mem_cons, not_or]; exact ⟨hj, h2⟩⟩
theorem wipeE_len (env : Env') : ∀ vs, (wipeE env vs).length = env.length
  | [] => rfl
  | v :: vs => by unfold wipeE; rw [List.length_set, wipeE_len env vs]
theorem wipe_get {σ : L2.St} {j : Nat} : ∀ {vs : List Nat}, j ∉ vs → (wipe σ vs)[j]? = σ[j]?
  | [], _ => rfl
  | v :: vs, h => by
    simp only [List.mem_cons, not_or] at h
    unfold wipe
    rw [set_ne h.1]
    exact wipe_get h.2
theorem wipe_in {σ : L2.St} {j : Nat} : ∀ {vs : List Nat}, j ∈ vs → j < σ.length → (wipe σ vs)[j]? = some none
  | v :: vs, h, hl => by
    unfold wipe
    by_cases e : j = v
    · subst e; exact List.getElem?_set_self (by rw [wipe_length]; exact hl)
    · rw [set_ne e]
      exact wipe_in ((List.mem_cons.mp h).resolve_left e) hl
theorem wipe_eq {σ σ' : L2.St} {vs : List Nat} (hl : σ'.length = σ.length) (h : ∀ j, j ∉ vs → σ'[j]? = σ[j]?) : wipe σ' vs = wipe σ vs := by
  apply List.ext_getElem?
  intro j
  by_cases e : j ∈ vs
  · by_cases q : j < σ.length
    · rw [wipe_in e q, wipe_in e (by rw [hl]; exact q)]
    · rw [List.getElem?_eq_none (by rw [wipe_length, hl]; omega), List.getElem?_eq_none (by rw [wipe_length]; omega)]
  · rw [wipe_get e, wipe_get e]; exact h j e
theorem Rel.wipe (r : Rel K β Oo H0 O σ H env st) (vs : List Nat) : Rel K β Oo H0 O (L2.wipe σ vs) H (wipeE env vs) st where
  sl := fun i x e => by
    obtain ⟨h1, h2⟩ := wipeE_some e
    obtain ⟨v, h3, h4⟩ := r.sl i x h1
    exact ⟨v, by rw [wipe_get h2]; exact h3, h4⟩
  ne := fun i j d e a hij h1 h2 h3 => by
    obtain ⟨h1, n1⟩ := wipeE_some h1
    obtain ⟨h2, n2⟩ := wipeE_some h2
    rw [wipe_get n1] at h3
    rw [wipe_get n2]
    exact r.ne i j d e a hij h1 h2 h3
  fr := fun i d a h1 h2 => by
    obtain ⟨h1, n1⟩ := wipeE_some h1
    rw [wipe_get n1] at h2
    exact r.fr i d a h1 h2
  len := by rw [wipeE_len, wipe_length]; exact r.len
  sub := r.sub
  dom := r.dom
  dom0 := r.dom0
  sb := r.sb
  bag := r.bag
  bO := r.bO
  tabs := r.tabs
end
/-! ### targets -/
def Wg (X : Cx) (tg : Expr) : TG := fun v σ H Q => ∀ pins s u, Inv X pins σ H s → RelV v u → wpAny (model X.prog X.w) X.A (assign tg X.env u) (fun _ s' => ∃ σ' H', Inv X pins σ' H' s' ∧ Q σ' H') X.xe s
theorem wg_pg (X : Cx) (tg : Expr) : PG X tg (Wg X tg) := ⟨fun pins s _ _ _ u _ I r h => h pins s u I r⟩
theorem _root_.L2.PG.wg {X : Cx} {tg : Expr} {t : TG} {v : V} {σ : L2.St} {H : Hp} {Q : L2.St → Hp → Prop} (h : PG X tg t) (q : t v σ H Q) : Wg X tg v σ H Q := fun pins s u I r => h.run pins s σ H v u Q I r q
def tgtSlot (S : Sx) (x : Str) : Option Nat := if locK (S.sc.names.lookup x) && (!S.blk || decide (S.sc.names.lookup x = some .local) || decide (x ∈ S.cel)) then ixOf S.N x else none
abbrev GF := D → Env' → Option Env'
def SoundG (X : Cx) (tg : Expr) (sl : List Nat) (g : GF) : Prop := ∀ ⦃β : Option Addr⦄ ⦃Oo : Addr → Prop⦄ ⦃H0 : Hp⦄ ⦃O : Addr → Prop⦄ ⦃σ : L2.St⦄ ⦃H : Hp⦄ ⦃env env' : Env'⦄ ⦃st : BSt⦄ ⦃v : V⦄ ⦃d : D⦄ ⦃Q : L2.St → Hp → Prop⦄,
  Rel X.K β Oo H0 O σ H env st → Rp X.K (Fz O H) v d → g d env = some env' → (∀ σ', Rel X.K β Oo H0 O σ' H env' st → σ'.length = σ.length → (∀ j, j ∉ sl → σ'[j]? = σ[j]?) → Q σ' H) → Wg X tg v σ H Q
section
variable {F : FT} {S : Sx} {X : Cx}
theorem locK_ok {o : Option NameKind} (h : locK o = true) : o = some .local ∨ o = some .cell := by
  unfold locK at h
  split at h <;> simp_all
theorem tgtSlot_ok (C : CxS F S X) {x : Str} {i : Nat} (h : tgtSlot S x = some i) : X.N.Nodup ∧ X.N[i]? = some x ∧ L2.Loc X.env.scope x ∧ (X.fn x = true ∨ X.env.scope.names.lookup x = some .local) := by
  obtain ⟨c, h⟩ : _ ∧ ixOf S.N x = some i := by
    unfold tgtSlot at h
    cases c : locK (S.sc.names.lookup x) && (!S.blk || decide (S.sc.names.lookup x = some .local) || decide (x ∈ S.cel)) with
    | false => rw [c] at h; cases h
    | true => rw [c] at h; exact ⟨c, h⟩
  rw [Bool.and_eq_true] at c
  refine ⟨by rw [C.N]; exact C.nd, by rw [C.N]; exact ixOf_ok h, by unfold L2.Loc; rw [C.sc]; exact locK_ok c.1, ?_⟩
  cases hb : S.blk with
  | false => exact .inl (C.fn hb x)
  | true =>
    rw [hb] at c
    have c2 := c.2
    simp only [Bool.not_true, Bool.false_or, Bool.or_eq_true, decide_eq_true_eq] at c2
    rcases c2 with c2 | c2
    · right; rw [C.sc]; exact c2
    · exact .inl (C.cel x c2)
def setF (i : Nat) : GF := fun d env => some (env.set i (some (.fz d)))
theorem g_name (C : CxS F S X) {x : Str} {i : Nat} {pos : Pos} (h : tgtSlot S x = some i) : SoundG X (.Name x pos) [i] (setF i) := by
  intro β Oo H0 O σ H env env' st v d Q rel rv hg q
  cases hg
  obtain ⟨h1, h2, h3, h4⟩ := tgtSlot_ok C h
  refine (pg_name h1 h2 h3 h4).wg (q _ (rel.put i (x := .fz d) rv (fun _ z => by cases z)) (by simp) fun j hj => ?_)
  rw [set_ne (fun z => hj (by simp [z]))]
/-- several names -/
def slotsT (S : Sx) : List Expr → Option (List Nat)
  | [] => some []
  | .Name x _ :: es => (tgtSlot S x).bind fun i => (slotsT S es).map (i :: ·)
  | _ :: _ => none
def setAll : List Nat → List D → Env' → Option Env'
  | [], [], env => some env
  | i :: is, d :: ds, env => setAll is ds (env.set i (some (.fz d)))
  | _, _, _ => none
def Wgs (X : Cx) (ts : List Expr) : TGs := fun vs σ H Q => ∀ pins s us, Inv X pins σ H s → Vals vs us → wpAny (model X.prog X.w) X.A (assignInOrder ((assignEach ts X.env).map (·.2)) us) (fun _ s' => ∃ σ' H', Inv X pins σ' H' s' ∧ Q σ' H') X.xe s
theorem wgs_pgs (X : Cx) (ts : List Expr) : PGs X ts (Wgs X ts) := ⟨fun pins s _ _ _ us _ I r h => h pins s us I r⟩
theorem g_names (C : CxS F S X) : ∀ {es : List Expr} {is : List Nat}, slotsT S es = some is → ∀ {β : Option Addr} {Oo : Addr → Prop} {H0 : Hp} {O : Addr → Prop} {σ : L2.St} {H : Hp} {env env' : Env'} {st : BSt} {vs : List V} {ds : List D} {Q : L2.St → Hp → Prop},
    Rel X.K β Oo H0 O σ H env st → RpAll X.K (Fz O H) vs ds → setAll is ds env = some env' → (∀ σ', Rel X.K β Oo H0 O σ' H env' st → σ'.length = σ.length → (∀ j, j ∉ is → σ'[j]? = σ[j]?) → Q σ' H) → Wgs X es vs σ H Q
  | [], is, h, β, Oo, H0, O, σ, H, env, env', st, vs, ds, Q, rel, rv, hs, q => by
    cases h
    cases ds with
    | nil =>
      cases hs; cases rv
      intro pins s us I r
      exact pgs_nil.run pins s σ H [] us Q I r ⟨rfl, q σ rel rfl fun _ _ => rfl⟩
    | cons d ds => cases hs
  | .Name x pos :: es, is, h, β, Oo, H0, O, σ, H, env, env', st, vs, ds, Q, rel, rv, hs, q => by
    obtain ⟨i, e1, h⟩ := bind1 h
    obtain ⟨is', e2, rfl⟩ := map1 h
    cases rv with
    | nil => cases hs
    | @cons v vs d ds r1 r2 =>
      intro pins s us I r
      refine (pgs_cons (wg_pg X (.Name x pos)) (wgs_pgs X es) rfl).run pins s σ H (v :: vs) us Q I r ⟨v, vs, rfl, ?_⟩
      refine g_name C e1 rel r1 rfl fun σ1 rel1 hl1 hk1 => ?_
      refine g_names C e2 rel1 r2 hs fun σ2 rel2 hl2 hk2 => q σ2 rel2 (hl2.trans hl1) fun j hj => ?_
      simp only [List.mem_cons, not_or] at hj
      exact (hk2 j hj.2).trans (hk1 j (by simpa using hj.1))
  | .BoolOp .. :: _, _, h, _, _, _, _, _, _, _, _, _, _, _, _, _, _, _, _ => by cases h
  | .NamedExpr .. :: _, _, h, _, _, _, _, _, _, _, _, _, _, _, _, _, _, _, _ => by cases h
  | .BinOp .. :: _, _, h, _, _, _, _, _, _, _, _, _, _, _, _, _, _, _, _ => by cases h
  | .UnaryOp .. :: _, _, h, _, _, _, _, _, _, _, _, _, _, _, _, _, _, _, _ => by cases h
  | .Lambda .. :: _, _, h, _, _, _, _, _, _, _, _, _, _, _, _, _, _, _, _ => by cases h
  | .IfExp .. :: _, _, h, _, _, _, _, _, _, _, _, _, _, _, _, _, _, _, _ => by cases h
  | .Dict .. :: _, _, h, _, _, _, _, _, _, _, _, _, _, _, _, _, _, _, _ => by cases h
  | .Set .. :: _, _, h, _, _, _, _, _, _, _, _, _, _, _, _, _, _, _, _ => by cases h
  | .ListComp .. :: _, _, h, _, _, _, _, _, _, _, _, _, _, _, _, _, _, _, _ => by cases h
  | .SetComp .. :: _, _, h, _, _, _, _, _, _, _, _, _, _, _, _, _, _, _, _ => by cases h
  | .DictComp .. :: _, _, h, _, _, _, _, _, _, _, _, _, _, _, _, _, _, _, _ => by cases h
  | .GeneratorExp .. :: _, _, h, _, _, _, _, _, _, _, _, _, _, _, _, _, _, _, _ => by cases h
  | .Await .. :: _, _, h, _, _, _, _, _, _, _, _, _, _, _, _, _, _, _, _ => by cases h
  | .Yield .. :: _, _, h, _, _, _, _, _, _, _, _, _, _, _, _, _, _, _, _ => by cases h
  | .YieldFrom .. :: _, _, h, _, _, _, _, _, _, _, _, _, _, _, _, _, _, _, _ => by cases h
  | .Compare .. :: _, _, h, _, _, _, _, _, _, _, _, _, _, _, _, _, _, _, _ => by cases h
  | .Call .. :: _, _, h, _, _, _, _, _, _, _, _, _, _, _, _, _, _, _, _ => by cases h
  | .FormattedValue .. :: _, _, h, _, _, _, _, _, _, _, _, _, _, _, _, _, _, _, _ => by cases h
  | .JoinedStr .. :: _, _, h, _, _, _, _, _, _, _, _, _, _, _, _, _, _, _, _ => by cases h
  | .Constant .. :: _, _, h, _, _, _, _, _, _, _, _, _, _, _, _, _, _, _, _ => by cases h
  | .Attribute .. :: _, _, h, _, _, _, _, _, _, _, _, _, _, _, _, _, _, _, _ => by cases h
  | .Subscript .. :: _, _, h, _, _, _, _, _, _, _, _, _, _, _, _, _, _, _, _ => by cases h
  | .Starred .. :: _, _, h, _, _, _, _, _, _, _, _, _, _, _, _, _, _, _, _ => by cases h
  | .List .. :: _, _, h, _, _, _, _, _, _, _, _, _, _, _, _, _, _, _, _ => by cases h
  | .Tuple .. :: _, _, h, _, _, _, _, _, _, _, _, _, _, _, _, _, _, _, _ => by cases h
  | .Slice .. :: _, _, h, _, _, _, _, _, _, _, _, _, _, _, _, _, _, _, _ => by cases h
theorem names_each {env : Env} : ∀ {es : List Expr} {is : List Nat}, slotsT S es = some is → (assignEach es env).length = es.length ∧ (assignEach es env).findIdx? (·.1) = none := by
  intro es
  induction es with
  | nil => exact fun _ => ⟨rfl, rfl⟩
  | cons e es ih =>
    intro is h
    cases e with
    | Name x pos =>
      obtain ⟨i, e1, h⟩ := bind1 h
      obtain ⟨is', e2, rfl⟩ := map1 h
      obtain ⟨h1, h2⟩ := ih e2
      have e3 : assignEach (.Name x pos :: es) env = (false, assign (.Name x pos) env) :: assignEach es env := rfl
      rw [e3]
      refine ⟨by simp [h1], ?_⟩
      rw [List.findIdx?_cons]
      simp [h2]
    | _ => cases h
def unF (is : List Nat) : GF := fun d env => match d with
  | .tuple ds => setAll is ds env
  | .list ds => setAll is ds env
  | _ => none
theorem setAll_len : ∀ {is : List Nat} {ds : List D} {env env' : Env'}, setAll is ds env = some env' → ds.length = is.length
  | [], [], _, _, _ => rfl
  | _ :: is, _ :: ds, _, _, h => by simp [setAll_len (is := is) h]
  | [], _ :: _, _, _, h => by cases h
  | _ :: _, [], _, _, h => by cases h
theorem slotsT_len : ∀ {es : List Expr} {is : List Nat}, slotsT S es = some is → is.length = es.length := by
  intro es
  induction es with
  | nil => intro is h; cases h; rfl
  | cons e es ih =>
    intro is h
    cases e with
    | Name x pos =>
      obtain ⟨i, e1, h⟩ := bind1 h
      obtain ⟨is', e2, rfl⟩ := map1 h
      simp [ih e2]
    | _ => cases h
theorem g_tup (C : CxS F S X) {es : List Expr} {is : List Nat} {k : Nat} {pos : Pos} (h : slotsT S es = some is) : SoundG X (.Tuple es k pos) is (unF is) := by
  intro β Oo H0 O σ H env env' st v d Q rel rv hg q
  have ne := names_each (env := X.env) h
  unfold unF at hg
  split at hg
  · obtain ⟨a, xs, rfl, h1, h2⟩ := rp_tup rv
    refine (pg_tup C.calm (wgs_pgs X es) ne.1 ne.2).wg ⟨a, xs, rfl, fz_tup h1, ?_, g_names C h rel h2 hg q⟩
    rw [h2.length, setAll_len hg, slotsT_len h]
  · cases rv with
    | lst h1 h2 =>
      refine (pg_unl C.calm (wgs_pgs X es) ne.1 ne.2).wg ⟨_, _, rfl, SqL.of (fz_some h1).2, ?_, g_names C h rel h2 hg q⟩
      rw [h2.length, setAll_len hg, slotsT_len h]
  · cases hg
end
end Iv

set_option maxHeartbeats 4000000
namespace Iv
open PySem PySem.Spec PyProof.Rows L2
variable [Nm]
/-! ### list comprehensions -/
def relS (scope sc : Scope) : Scope :=
  { scope with names := scope.names.map fun (n, k) => if (k == .free && sc.kind == .function && sc.names.lookup n == some .cell) then (n, .cell) else (n, k) }
def Sx.inner (S : Sx) (scope : Scope) : Sx := { S with sc := relS scope S.sc, blk := true, args := [], made := [], cap := [], nest := none, hks := [], tks := [], cel := scope.names.filterMap fun p => if scope.names.lookup p.1 == some .cell then some p.1 else none }
def ownOf (N : List Str) : List (Str × NameKind) → List (Str × Nat)
  | [] => []
  | (x, k) :: r => match k, ixOf N x with
    | .local, some i => (x, i) :: ownOf N r
    | .cell, some i => (x, i) :: ownOf N r
    | _, _ => ownOf N r
def lcLoop (g : GF) (t : TF) (e : EF) (env0 : Env') : List D → List D → BSt → Option (List D × BSt)
  | [], acc, st => some (acc, st)
  | d :: ds, acc, st => (g d env0).bind fun env1 => (t env1 st).bind fun p =>
    if p.1 then (e env1 p.2).bind fun q => q.1.d?.bind fun x => if decide (acc.length < sizeLine) then lcLoop g t e env0 ds (acc ++ [x]) q.2 else none
    else lcLoop g t e env0 ds acc p.2
def lcF (i : IF) (own : List Nat) (g : GF) (t : TF) (e : EF) (env : Env') (st : BSt) : Option (R × BSt) := (i env st).bind fun p => (lcLoop g t e (wipeE env own) p.1 [] p.2).map fun q => (.ow (.list q.1), q.2)
def yesT (_ : Env') (st : BSt) : Option (Bool × BSt) := some (true, st)
section
variable {F : FT} {S : Sx} {X : Cx}
theorem CxS.inner (C : CxS F S X) {scope : Scope} (hk : scope.kind = .function) (s : Shared) (H : Hp) (C0 : Addr) (cl : List (Str × Addr)) (fp : List Addr) : CxS F (S.inner scope) (X.blk s H scope (compEnvC scope cl C0 X.env) fp) where
  N := C.N
  sc := by
    show relabel scope X.env = relS scope S.sc
    unfold relabel relS
    rw [← C.sc]
    rfl
  calm := C.calm
  nd := C.nd
  hu := C.hu
  fn := fun h => by cases h
  cel := fun x hx => by
    obtain ⟨p, _, e⟩ := List.mem_filterMap.mp hx
    show (scope.names.lookup x == some .cell) = true
    cases c : (scope.names.lookup p.1 == some .cell) with
    | false => rw [c] at e; cases e
    | true => rw [c] at e; cases e; exact c
  gl := fun x g e => by
    have h := C.gl x g e
    cases g with
    | blt => exact h
    | cst d => exact h
    | fn => exact h
  xe := rfl
  kind := hk
  clo := fun _ _ _ _ h => by cases h
  mad := fun _ _ h => by cases h
def SoundTs (X : Cx) (ifs : List Expr) (f : TF) : Prop := ∃ tt, PTs X ifs tt ∧ ∀ ⦃β : Option Addr⦄ ⦃Oo : Addr → Prop⦄ ⦃H0 : Hp⦄ ⦃O : Addr → Prop⦄ ⦃σ : L2.St⦄ ⦃H : Hp⦄ ⦃env : Env'⦄ ⦃st : BSt⦄ ⦃b : Bool⦄ ⦃st' : BSt⦄ ⦃Q : Bool → Hp → Prop⦄,
  Rel X.K β Oo H0 O σ H env st → f env st = some (b, st') → (∀ H', SB β H H' → BagAt β H' st' → Q b H') → tt σ H Q
theorem s_ifs0 : SoundTs X [] yesT := ⟨_, pts_nil, fun _ _ _ _ _ _ _ _ _ _ _ rel h q => by cases h; exact q _ SB.refl rel.bag⟩
theorem s_ifs1 {c : Expr} {f : TF} (h : SoundT X c f) : SoundTs X [c] f := ⟨_, pts_one (wt_pt X c), fun _ _ _ _ _ _ _ _ _ _ _ rel hf q => h rel hf q⟩
def noSetI : Expr → Bool
  | .Set .. => false
  | _ => true
theorem noSetI_ok {e : Expr} (h : noSetI e = true) (env : Env) : ∀ x, foldedSetIterable e env x = pure x := by
  intro x
  cases e <;> first | rfl | cases h
variable {tg iter elt : Expr} {ifs : List Expr} {scope : Scope} {own : List (Str × Nat)} {i : IF} {g : GF} {t : TF} {e : EF} {sl : List Nat}
/-- the reading of the comprehension holds -/
theorem lc_read (C : CxS F S X) (hk : scope.kind = .function) (hi : SoundI X tg iter i) (hsl : ∀ j ∈ sl, j ∈ own.map (·.2))
    (hg : ∀ X', CxS F (S.inner scope) X' → X'.K = X.K → SoundG X' tg sl g) (ht : ∀ X', CxS F (S.inner scope) X' → X'.K = X.K → SoundTs X' ifs t) (he : ∀ X', CxS F (S.inner scope) X' → X'.K = X.K → SoundE X' elt e) :
    ∃ (gg : TG) (tt : TT) (te : TE), (∀ (s : Shared) (H : Hp) (C : Addr) (cl : List (Str × Addr)) (fp : List Addr), PG (X.blk s H scope (compEnvC scope cl C X.env) fp) tg gg) ∧
      (∀ (s : Shared) (H : Hp) (C : Addr) (cl : List (Str × Addr)) (fp : List Addr), PTs (X.blk s H scope (compEnvC scope cl C X.env) fp) ifs tt) ∧
      (∀ (s : Shared) (H : Hp) (C : Addr) (cl : List (Str × Addr)) (fp : List Addr), PE (X.blk s H scope (compEnvC scope cl C X.env) fp) elt te) ∧
      ∀ {β : Option Addr} {Oo : Addr → Prop} {H0 : Hp} {O : Addr → Prop} {σ : L2.St} {H : Hp} {env : Env'} {st : BSt} {r : R} {st' : BSt} {Q : VK},
        Rel X.K β Oo H0 O σ H env st → lcF i (own.map (·.2)) g t e env st = some (r, st') → (∀ v H', SB β H H' → BagAt β H' st' → ResAt X.K β O H H' v r → Q v H') → tLc (Wi X tg iter) gg tt te (own.map (·.2)) σ H Q := by
  refine ⟨fun v σ H Q => ∀ (s : Shared) (H' : Hp) (C : Addr) (cl : List (Str × Addr)) (fp : List Addr), Wg (X.blk s H' scope (compEnvC scope cl C X.env) fp) tg v σ H Q,
    fun σ H Q => ∀ (s : Shared) (H' : Hp) (C : Addr) (cl : List (Str × Addr)) (fp : List Addr), ∃ tt, PTs (X.blk s H' scope (compEnvC scope cl C X.env) fp) ifs tt ∧ tt σ H Q,
    fun σ H Q => ∀ (s : Shared) (H' : Hp) (C : Addr) (cl : List (Str × Addr)) (fp : List Addr), We (X.blk s H' scope (compEnvC scope cl C X.env) fp) elt σ H Q, ?_, ?_, ?_, ?_⟩
  · exact fun s H' C cl fp => ⟨fun pins s1 σ H v u Q I rr h => h s H' C cl fp pins s1 u I rr⟩
  · exact fun s H' C cl fp => ⟨fun pins s1 σ H Q I h => let ⟨tt, pt, q⟩ := h s H' C cl fp; pt.run pins s1 σ H Q I q⟩
  · exact fun s H' C cl fp => ⟨fun pins s1 σ H Q I h => h s H' C cl fp pins s1 I⟩
  intro β Oo H0 O σ H env st r st' Q rel h q
  obtain ⟨⟨ds, s1⟩, e1, h⟩ := bind1 h
  obtain ⟨⟨out, s2⟩, e2, h⟩ := map1 h
  cases h
  refine hi rel e1 fun J Fr H1 sb1 bg1 ok fr => fun D hD => ?_
  have rel1 := rel.step sb1 bg1
  have nD : ¬ O D := rel1.notO hD
  have bD : β ≠ some D := rel1.neB hD
  -- the invariant
  let Pv : Nat → Hp → Prop := fun n Hn => ∃ acc accV sn, lcLoop g t e (wipeE env (own.map (·.2))) (ds.drop n) acc sn = some (out, s2) ∧ BagAt β Hn sn ∧ SB β H1 Hn ∧ Hn D = some (.lst accV) ∧ RpAll X.K (Fz (orO O D) Hn) accV acc
  have relN : ∀ {Hn : Hp} {sn : BSt}, SB β H1 Hn → BagAt β Hn sn → (∃ xs, Hn D = some (.lst xs)) → Rel X.K β Oo H0 (orO O D) (L2.wipe σ (own.map (·.2))) Hn (wipeE env (own.map (·.2))) sn := fun {Hn sn} sb bg hd => by
    have r1 := (rel1.step sb bg).wipe (own.map (·.2))
    have fm : Same (Fz O H1) (Fz (orO O D) Hn) := rel1.putOw_same sb hD
    have r0 := rel1.wipe (own.map (·.2))
    exact { sl := fun j y ej => by
              obtain ⟨v, h1, h2⟩ := r0.sl j y ej
              exact ⟨v, h1, h2.mono fm sb fun a d _ _ z => .inl z⟩
            ne := r1.ne
            fr := r1.fr
            len := r1.len
            sub := fun a ha => .inl (r1.sub a ha)
            dom := fun a ha => by
              rcases ha with ha | rfl
              · exact r1.dom a ha
              · obtain ⟨xs, hd⟩ := hd; exact ⟨_, hd, rfl⟩
            dom0 := r1.dom0
            sb := r1.sb
            bag := bg
            bO := r1.bO
            tabs := r1.tabs }
  have frN : ∀ {Hn : Hp}, SB β H1 Hn → Fr (Fz (orO O D) Hn) := fun sb => ok.mono (rel1.putOw_same sb hD) fr
  refine ⟨fun n m Hn => m = ds.length - n ∧ n ≤ ds.length ∧ Pv n Hn, ⟨ds.length, rfl, Nat.zero_le _, ⟨[], [], s1, by simpa using e2, ?_, SB.laid hD, upd_same, .nil⟩⟩, ?_⟩
  · exact same_bag (same_laid hD) bg1
  rintro n m Hn ⟨rfl, hn, acc, accV, sn, el, bg, sb, hDn, rac⟩
  by_cases hlt : n < ds.length
  · refine .inr ⟨ok.goes hlt (frN sb), fun Hx => Pv (n + 1) Hx, fun Hx px => ⟨ds.length - (n + 1), by omega, rfl, by omega, px⟩, fun x Hy y => ?_⟩
    have rn := relN sb bg ⟨_, hDn⟩
    obtain ⟨sm, d, ed, rx⟩ := ok.yld hlt rn.dom' (frN sb) y
    have edrop : ds.drop n = d :: ds.drop (n + 1) := by
      rw [List.drop_eq_getElem_cons hlt]
      rw [List.getElem?_eq_getElem hlt] at ed
      cases ed; rfl
    rw [edrop] at el
    obtain ⟨env1, g1, el⟩ := bind1 el
    obtain ⟨⟨b, sn1⟩, t1, el⟩ := bind1 el
    have rny := rn.step (same_sb sm) (same_bag sm bg)
    intro s H' C0 cl fp
    refine hg _ (C.inner hk s H' C0 cl fp) rfl rny rx g1 fun σ2 rel2 hl2 hk2 => ⟨?_, ?_⟩
    · refine (wipe_eq hl2 fun j hj => hk2 j fun z => hj (hsl j z)).trans ?_
      refine wipe_eq (wipe_length _ _) fun j hj => wipe_get hj
    intro s' H'' C0' cl' fp'
    obtain ⟨tt, pt, ht'⟩ := ht _ (C.inner hk s' H'' C0' cl' fp') rfl
    refine ⟨tt, pt, ht' rel2 t1 fun H3 sb3 bg3 => ?_⟩
    have smD : ∀ {Ha Hb : Hp} {xs : List V}, SB β Ha Hb → Ha D = some (.lst xs) → Hb D = some (.lst xs) := fun s q => s.go D _ bD rfl q
    cases b with
    | false =>
      refine iteF ⟨acc, accV, sn1, el, bg3, sb.trans ((same_sb sm).trans sb3), smD sb3 (sm _ _ hDn), ?_⟩
      exact (rac.mono (same_fz sm)).mono (rel2.fzm sb3)
    | true =>
      refine iteT ?_
      intro s4 H4' C4 cl4 fp4
      obtain ⟨⟨rr, sn2⟩, e3, el⟩ := bind1 el
      obtain ⟨dx, e4, el⟩ := bind1 el
      have hsz : acc.length < sizeLine ∧ lcLoop g t e (wipeE env (own.map (·.2))) (ds.drop (n + 1)) (acc ++ [dx]) sn2 = some (out, s2) := by
        cases hc : decide (acc.length < sizeLine) with
        | false => simp only [hc] at el; cases el
        | true => simp only [hc, if_true] at el; exact ⟨of_decide_eq_true hc, el⟩
      have rel3 := rel2.step sb3 bg3
      refine he _ (C.inner hk s4 H4' C4 cl4 fp4) rfl rel3 e3 fun y H4 sb4 bg4 ry => ?_
      have ry' := ry.rp rel3 e4
      have hD4 := smD sb4 (smD sb3 (sm _ _ hDn))
      have ra4 := ((rac.mono (same_fz sm)).mono (rel2.fzm sb3)).mono (rel3.fzm sb4)
      refine ⟨accV, hD4, by rw [ra4.length]; exact hsz.1, acc ++ [dx], accV ++ [y], sn2, hsz.2, ?_, ?_, upd_same, ?_⟩
      · exact bg4.mono fun b0 o hb0 e => by rw [upd_ne (fun z => bD (by rw [hb0, z]))]; exact e
      · exact (((sb.trans (same_sb sm)).trans sb3).trans sb4).mut hD4 rfl (.inr hD)
      · refine (ra4.append (.one ry')).mono fun a o ea => ?_
        obtain ⟨na, ea, t⟩ := fz_some3 ea
        exact fz_put na (by rw [upd_ne (fun z => na (.inr z))]; exact ea) t
  · have en : n = ds.length := by omega
    subst en
    rw [List.drop_length] at el
    cases el
    refine .inl ⟨ok.stops (frN sb), q _ _ (sb1.trans sb) bg ⟨D, rfl, ?_, bD, accV, hDn, rac⟩⟩
    exact sb1.dm D bD hD
theorem s_lc (C : CxS F S X) (hk : scope.kind = .function) (ok : blkC S.N S.sc scope own = true) (hni : noSetI iter = true) {pos : Pos} (hi : SoundI X tg iter i) (hsl : ∀ j ∈ sl, j ∈ own.map (·.2))
    (hg : ∀ X', CxS F (S.inner scope) X' → X'.K = X.K → SoundG X' tg sl g) (ht : ∀ X', CxS F (S.inner scope) X' → X'.K = X.K → SoundTs X' ifs t) (he : ∀ X', CxS F (S.inner scope) X' → X'.K = X.K → SoundE X' elt e) :
    SoundE X (.ListComp elt [⟨tg, iter, ifs, 0⟩] scope pos) (lcF i (own.map (·.2)) g t e) := by
  obtain ⟨gg, tt, te, h1, h2, h3, h4⟩ := lc_read C hk hi hsl hg ht he
  intro β Oo H0 O σ H env st r st' Q rel h q
  have bo : BlkOk X.N X.env.scope scope own := by rw [C.N, C.sc]; exact blkOk_by ok
  exact (pe_lc C.calm (by rw [C.N]; exact C.nd) (wi_pi X tg iter) bo h1 h2 h3 (noSetI_ok hni X.env)).we (h4 rel h q)
end
end Iv

set_option maxHeartbeats 4000000
namespace Iv
open PySem PySem.Spec PyProof.Rows L2
variable [Nm]
/-! ### list comprehensions with two fors -/
def noOwB (env : Env') : Bool := env.all fun x => match x with | some (.ow _) => false | _ => true
def lcLoop2 (g : GF) (t : TF) (i1 : IF) (own1 : List Nat) (g1 : GF) (t1 : TF) (e : EF) (env0 : Env') : List D → List D → BSt → Option (List D × BSt)
  | [], acc, st => some (acc, st)
  | d :: ds, acc, st => (g d env0).bind fun env1 => (t env1 st).bind fun p =>
    if p.1 then (if noOwB env1 then (i1 env1 p.2).bind fun q => (lcLoop g1 t1 e (wipeE env1 own1) q.1 acc q.2).bind fun r => lcLoop2 g t i1 own1 g1 t1 e env0 ds r.1 r.2 else none)
    else lcLoop2 g t i1 own1 g1 t1 e env0 ds acc p.2
def lcF2 (i : IF) (own : List Nat) (g : GF) (t : TF) (i1 : IF) (own1 : List Nat) (g1 : GF) (t1 : TF) (e : EF) (env : Env') (st : BSt) : Option (R × BSt) := (i env st).bind fun p => (lcLoop2 g t i1 own1 g1 t1 e (wipeE env own) p.1 [] p.2).map fun q => (.ow (.list q.1), q.2)
section
variable {F : FT} {S : Sx} {X : Cx}
theorem ite_some' {α : Type} {c : Bool} {a : Option α} {r : α} (h : (if c then a else none) = some r) : c = true ∧ a = some r := by
  cases c with
  | true => exact ⟨rfl, h⟩
  | false => cases h
/-- all but D stays -/
def GoX (β : Option Addr) (D : Addr) (H H' : Hp) : Prop := ∀ a o, β ≠ some a → a ≠ D → isTbl o = false → H a = some o → H' a = some o
theorem noOwB_ok {env : Env'} (h : noOwB env = true) {i : Nat} {d : D} (e : env[i]? = some (some (.ow d))) : False := by
  have := List.all_eq_true.mp h _ (List.mem_of_getElem? e)
  cases this
theorem Rel.stepX {K : PySem.W.Frag} {β : Option Addr} {Oo O : Addr → Prop} {H0 H H' : Hp} {σ : L2.St} {env : Env'} {st st' : BSt} {D : Addr} {l0 l1 : List V} (r : Rel K β Oo H0 (orO O D) σ H env st) (no : noOwB env = true) (go : GoX β D H H') (hD : H D = some (.lst l0)) (hD' : H' D = some (.lst l1))
    (sb : SB β H0 H') (bg : BagAt β H' st') (tb : NdefX.TabsN Tb0 H') : Rel K β Oo H0 (orO O D) σ H' env st' ∧ Same (Fz (orO O D) H) (Fz (orO O D) H') := by
  have fm : Same (Fz (orO O D) H) (Fz (orO O D) H') := fun a o e => by
    obtain ⟨n, e, t⟩ := fz_some3 e
    exact fz_put n (go a o (fun z => n (r.sub a (r.bO a z))) (fun z => n (.inr z)) t e) t
  refine ⟨?_, fm⟩
  have neD : ∀ {a : Addr} {o : HO}, H a = some o → plainO o = false → a ≠ D := fun {a o} e p z => by rw [z, hD] at e; cases e; cases p
  exact {
    sl := fun i x e => by
      obtain ⟨v, h1, h2⟩ := r.sl i x e
      refine ⟨v, h1, ?_⟩
      cases x with
      | fz d => exact Rp.mono fm h2
      | ow d => exact (noOwB_ok no e).elim
      | bag => exact h2
      | scr ns =>
        obtain ⟨a, rfl, g⟩ := h2
        refine ⟨a, rfl, ?_⟩
        rcases g with ⟨g1, o, g2⟩ | g | ⟨g1, g2⟩
        · exact .inl ⟨g1, o, go a _ g1 (neD g2 rfl) rfl g2⟩
        · exact .inr (.inl g)
        · exact .inr (.inr ⟨g1, fm _ _ g2⟩)
      | fnc f F ws ds =>
        obtain ⟨rfl, g⟩ := h2
        exact ⟨rfl, g.nf, g.nc, go _ _ g.nf (neD g.ob rfl) rfl g.ob, go _ _ g.nc (neD g.co rfl) rfl g.co, g.rp.mono fm⟩
    ne := fun i j d e a _ h1 _ _ => (noOwB_ok no h1).elim
    fr := fun i d a h1 _ => (noOwB_ok no h1).elim
    len := r.len
    sub := r.sub
    dom := fun a ha => by
      by_cases hb : β = some a
      · obtain ⟨g, s, _, e⟩ := bg.get hb; exact ⟨_, e, rfl⟩
      · by_cases z : a = D
        · rw [z]; exact ⟨_, hD', rfl⟩
        · obtain ⟨o, e, p⟩ := r.dom a ha
          exact ⟨o, go a o hb z (plain_noTbl p) e, p⟩
    dom0 := r.dom0
    sb := sb
    bag := bg
    bO := r.bO
    tabs := tb }
variable {tg iter elt tg1 iter1 : Expr} {ifs ifs1 : List Expr} {scope : Scope} {own : List (Str × Nat)} {i i1 : IF} {g g1 : GF} {t t1 : TF} {e : EF} {sl sl1 : List Nat}
theorem lc2_read (C : CxS F S X) (hk : scope.kind = .function) (hi : SoundI X tg iter i) (hsl : ∀ j ∈ sl, j ∈ own.map (·.2))
    (hg : ∀ X', CxS F (S.inner scope) X' → X'.K = X.K → SoundG X' tg sl g) (ht : ∀ X', CxS F (S.inner scope) X' → X'.K = X.K → SoundTs X' ifs t)
    (hi1 : ∀ X', CxS F (S.inner scope) X' → X'.K = X.K → SoundI X' tg1 iter1 i1) (hg1 : ∀ X', CxS F (S.inner scope) X' → X'.K = X.K → SoundG X' tg1 sl1 g1) (ht1 : ∀ X', CxS F (S.inner scope) X' → X'.K = X.K → SoundTs X' ifs1 t1) (he : ∀ X', CxS F (S.inner scope) X' → X'.K = X.K → SoundE X' elt e) :
    ∃ (gg gg1 : TG) (tt tt1 : TT) (wi1 : TI) (te : TE), (∀ (s : Shared) (H : Hp) (C : Addr) (cl : List (Str × Addr)) (fp : List Addr), PG (X.blk s H scope (compEnvC scope cl C X.env) fp) tg gg) ∧
      (∀ (s : Shared) (H : Hp) (C : Addr) (cl : List (Str × Addr)) (fp : List Addr), PTs (X.blk s H scope (compEnvC scope cl C X.env) fp) ifs tt) ∧
      (∀ (s : Shared) (H : Hp) (C : Addr) (cl : List (Str × Addr)) (fp : List Addr), PI (X.blk s H scope (compEnvC scope cl C X.env) fp) tg1 iter1 wi1) ∧
      (∀ (s : Shared) (H : Hp) (C : Addr) (cl : List (Str × Addr)) (fp : List Addr), PG (X.blk s H scope (compEnvC scope cl C X.env) fp) tg1 gg1) ∧
      (∀ (s : Shared) (H : Hp) (C : Addr) (cl : List (Str × Addr)) (fp : List Addr), PTs (X.blk s H scope (compEnvC scope cl C X.env) fp) ifs1 tt1) ∧
      (∀ (s : Shared) (H : Hp) (C : Addr) (cl : List (Str × Addr)) (fp : List Addr), PE (X.blk s H scope (compEnvC scope cl C X.env) fp) elt te) ∧
      ∀ {β : Option Addr} {Oo : Addr → Prop} {H0 : Hp} {O : Addr → Prop} {σ : L2.St} {H : Hp} {env : Env'} {st : BSt} {r : R} {st' : BSt} {Q : VK},
        Rel X.K β Oo H0 O σ H env st → lcF2 i (own.map (·.2)) g t i1 sl1 g1 t1 e env st = some (r, st') → (∀ v H', SB β H H' → BagAt β H' st' → ResAt X.K β O H H' v r → Q v H') → tLc2 (Wi X tg iter) gg tt wi1 gg1 tt1 te (own.map (·.2)) sl1 σ H Q := by
  refine ⟨fun v σ H Q => ∀ (s : Shared) (H' : Hp) (C : Addr) (cl : List (Str × Addr)) (fp : List Addr), Wg (X.blk s H' scope (compEnvC scope cl C X.env) fp) tg v σ H Q,
    fun v σ H Q => ∀ (s : Shared) (H' : Hp) (C : Addr) (cl : List (Str × Addr)) (fp : List Addr), Wg (X.blk s H' scope (compEnvC scope cl C X.env) fp) tg1 v σ H Q,
    fun σ H Q => ∀ (s : Shared) (H' : Hp) (C : Addr) (cl : List (Str × Addr)) (fp : List Addr), ∃ tt, PTs (X.blk s H' scope (compEnvC scope cl C X.env) fp) ifs tt ∧ tt σ H Q,
    fun σ H Q => ∀ (s : Shared) (H' : Hp) (C : Addr) (cl : List (Str × Addr)) (fp : List Addr), ∃ tt, PTs (X.blk s H' scope (compEnvC scope cl C X.env) fp) ifs1 tt ∧ tt σ H Q,
    fun σ H R => ∀ (s : Shared) (H' : Hp) (C : Addr) (cl : List (Str × Addr)) (fp : List Addr), Wi (X.blk s H' scope (compEnvC scope cl C X.env) fp) tg1 iter1 σ H R,
    fun σ H Q => ∀ (s : Shared) (H' : Hp) (C : Addr) (cl : List (Str × Addr)) (fp : List Addr), We (X.blk s H' scope (compEnvC scope cl C X.env) fp) elt σ H Q, ?_, ?_, ?_, ?_, ?_, ?_, ?_⟩
  · exact fun s H' C cl fp => ⟨fun pins s1 σ H v u Q I rr h => h s H' C cl fp pins s1 u I rr⟩
  · exact fun s H' C cl fp => ⟨fun pins s1 σ H Q I h => let ⟨tt, pt, q⟩ := h s H' C cl fp; pt.run pins s1 σ H Q I q⟩
  · exact fun s H' C cl fp => ⟨fun pins s1 σ H R I h => h s H' C cl fp pins s1 I⟩
  · exact fun s H' C cl fp => ⟨fun pins s1 σ H v u Q I rr h => h s H' C cl fp pins s1 u I rr⟩
  · exact fun s H' C cl fp => ⟨fun pins s1 σ H Q I h => let ⟨tt, pt, q⟩ := h s H' C cl fp; pt.run pins s1 σ H Q I q⟩
  · exact fun s H' C cl fp => ⟨fun pins s1 σ H Q I h => h s H' C cl fp pins s1 I⟩
  intro β Oo H0 O σ H env st r st' Q rel h q
  obtain ⟨⟨ds, s1⟩, e1, h⟩ := bind1 h
  obtain ⟨⟨out, s2⟩, e2, h⟩ := map1 h
  cases h
  refine hi rel e1 fun J Fr H1 sb1 bg1 ok fr => fun D hD => ?_
  have rel1 := rel.step sb1 bg1
  have nD : ¬ O D := rel1.notO hD
  have bD : β ≠ some D := rel1.neB hD
  let Pv : Nat → Hp → Prop := fun n Hn => ∃ acc accV sn, lcLoop2 g t i1 sl1 g1 t1 e (wipeE env (own.map (·.2))) (ds.drop n) acc sn = some (out, s2) ∧ BagAt β Hn sn ∧ SB β H1 Hn ∧ Hn D = some (.lst accV) ∧ RpAll X.K (Fz (orO O D) Hn) accV acc
  have relN : ∀ {Hn : Hp} {sn : BSt}, SB β H1 Hn → BagAt β Hn sn → (∃ xs, Hn D = some (.lst xs)) → Rel X.K β Oo H0 (orO O D) (L2.wipe σ (own.map (·.2))) Hn (wipeE env (own.map (·.2))) sn := fun {Hn sn} sb bg hd => by
    have r1 := (rel1.step sb bg).wipe (own.map (·.2))
    have fm : Same (Fz O H1) (Fz (orO O D) Hn) := rel1.putOw_same sb hD
    have r0 := rel1.wipe (own.map (·.2))
    exact { sl := fun j y ej => by
              obtain ⟨v, h1, h2⟩ := r0.sl j y ej
              exact ⟨v, h1, h2.mono fm sb fun a d _ _ z => .inl z⟩
            ne := r1.ne
            fr := r1.fr
            len := r1.len
            sub := fun a ha => .inl (r1.sub a ha)
            dom := fun a ha => by
              rcases ha with ha | rfl
              · exact r1.dom a ha
              · obtain ⟨xs, hd⟩ := hd; exact ⟨_, hd, rfl⟩
            dom0 := r1.dom0
            sb := r1.sb
            bag := bg
            bO := r1.bO
            tabs := r1.tabs }
  have frN : ∀ {Hn : Hp}, SB β H1 Hn → Fr (Fz (orO O D) Hn) := fun sb => ok.mono (rel1.putOw_same sb hD) fr
  refine ⟨fun n m Hn => m = ds.length - n ∧ n ≤ ds.length ∧ Pv n Hn, ⟨ds.length, rfl, Nat.zero_le _, ⟨[], [], s1, by simpa using e2, ?_, SB.laid hD, upd_same, .nil⟩⟩, ?_⟩
  · exact same_bag (same_laid hD) bg1
  rintro n m Hn ⟨rfl, hn, acc, accV, sn, el, bg, sb, hDn, rac⟩
  by_cases hlt : n < ds.length
  · refine .inr ⟨ok.goes hlt (frN sb), fun Hx => Pv (n + 1) Hx, fun Hx px => ⟨ds.length - (n + 1), by omega, rfl, by omega, px⟩, fun x Hy y => ?_⟩
    have rn := relN sb bg ⟨_, hDn⟩
    obtain ⟨sm, d, ed, rx⟩ := ok.yld hlt rn.dom' (frN sb) y
    have edrop : ds.drop n = d :: ds.drop (n + 1) := by
      rw [List.drop_eq_getElem_cons hlt]
      rw [List.getElem?_eq_getElem hlt] at ed
      cases ed; rfl
    rw [edrop] at el
    obtain ⟨env1, g1e, el⟩ := bind1 el
    obtain ⟨⟨b, sn1⟩, t1e, el⟩ := bind1 el
    have rny := rn.step (same_sb sm) (same_bag sm bg)
    intro s H' C0 cl fp
    refine hg _ (C.inner hk s H' C0 cl fp) rfl rny rx g1e fun σ2 rel2 hl2 hk2 => ⟨?_, ?_⟩
    · refine (wipe_eq hl2 fun j hj => hk2 j fun z => hj (hsl j z)).trans ?_
      refine wipe_eq (wipe_length _ _) fun j hj => wipe_get hj
    intro s' H'' C0' cl' fp'
    obtain ⟨tt, pt, ht'⟩ := ht _ (C.inner hk s' H'' C0' cl' fp') rfl
    refine ⟨tt, pt, ht' rel2 t1e fun H3 sb3 bg3 => ?_⟩
    have smD : ∀ {Ha Hb : Hp} {xs : List V}, SB β Ha Hb → Ha D = some (.lst xs) → Hb D = some (.lst xs) := fun s q => s.go D _ bD rfl q
    cases b with
    | false =>
      refine iteF ⟨acc, accV, sn1, el, bg3, sb.trans ((same_sb sm).trans sb3), smD sb3 (sm _ _ hDn), ?_⟩
      exact (rac.mono (same_fz sm)).mono (rel2.fzm sb3)
    | true =>
      refine iteT ?_
      have el : (if noOwB env1 then (i1 env1 sn1).bind fun q => (lcLoop g1 t1 e (wipeE env1 sl1) q.1 acc q.2).bind fun r => lcLoop2 g t i1 sl1 g1 t1 e (wipeE env (own.map (·.2))) (ds.drop (n + 1)) r.1 r.2 else none) = some (out, s2) := el
      obtain ⟨noB, el⟩ := ite_some' el
      obtain ⟨⟨ds1, sn2⟩, e4, el⟩ := bind1 el
      obtain ⟨⟨acc2, sn3⟩, e5, el⟩ := bind1 el
      have rel3 := rel2.step sb3 bg3
      intro sA HA CA clA fpA
      refine hi1 _ (C.inner hk sA HA CA clA fpA) rfl rel3 e4 fun J1 Fr1 H4 sb4 bg4 ok1 fr1 => ?_
      have rel4 := rel3.step sb4 bg4
      have hD4 := smD sb4 (smD sb3 (sm _ _ hDn))
      have ra4 := ((rac.mono (same_fz sm)).mono (rel2.fzm sb3)).mono (rel3.fzm sb4)
      have sb14 : SB β H1 H4 := sb.trans ((same_sb sm).trans (sb3.trans sb4))
      let Pv1 : Nat → Hp → Prop := fun j Hj => ∃ acc accV sj, lcLoop g1 t1 e (wipeE env1 sl1) (ds1.drop j) acc sj = some (acc2, sn3) ∧ BagAt β Hj sj ∧ SB β H1 Hj ∧ GoX β D H4 Hj ∧ Hj D = some (.lst accV) ∧ RpAll X.K (Fz (orO O D) Hj) accV acc
      refine ⟨fun j m Hj => m = ds1.length - j ∧ j ≤ ds1.length ∧ Pv1 j Hj, ⟨ds1.length, rfl, Nat.zero_le _, ⟨acc, accV, sn2, by simpa using e5, bg4, sb14, fun _ _ _ _ _ z => z, hD4, ra4⟩⟩, ?_⟩
      rintro j m Hj ⟨rfl, hj, accJ, accVJ, sj, elJ, bgJ, sbJ, goJ, hDJ, racJ⟩
      obtain ⟨relJ, fmJ⟩ := rel4.stepX noB goJ hD4 hDJ (rel1.sb.trans sbJ) bgJ (sbJ.tb rel1.tabs)
      have frJ : Fr1 (Fz (orO O D) Hj) := ok1.mono fmJ fr1
      by_cases hltJ : j < ds1.length
      · refine .inr ⟨ok1.goes hltJ frJ, fun Hx => Pv1 (j + 1) Hx, fun Hx px => ⟨ds1.length - (j + 1), by omega, rfl, by omega, px⟩, fun x1 Hz y1 => ?_⟩
        have rwJ := relJ.wipe sl1
        obtain ⟨sm1, d1, ed1, rx1⟩ := ok1.yld hltJ rwJ.dom' frJ y1
        have edrop1 : ds1.drop j = d1 :: ds1.drop (j + 1) := by
          rw [List.drop_eq_getElem_cons hltJ]
          rw [List.getElem?_eq_getElem hltJ] at ed1
          cases ed1; rfl
        rw [edrop1] at elJ
        obtain ⟨env2, g2e, elJ⟩ := bind1 elJ
        obtain ⟨⟨b1, sj1⟩, t2e, elJ⟩ := bind1 elJ
        have rzJ := rwJ.step (same_sb sm1) (same_bag sm1 bgJ)
        intro sB HB CB clB fpB
        refine hg1 _ (C.inner hk sB HB CB clB fpB) rfl rzJ rx1 g2e fun σ3 rel5 hl5 hk5 => ⟨?_, ?_⟩
        · refine (wipe_eq hl5 fun j hj => hk5 j hj).trans ?_
          refine wipe_eq (wipe_length _ _) fun j hj => wipe_get hj
        intro sE HE CE' clE fpE
        obtain ⟨tt1, pt1, ht1'⟩ := ht1 _ (C.inner hk sE HE CE' clE fpE) rfl
        refine ⟨tt1, pt1, ht1' rel5 t2e fun H6 sb6 bg6 => ?_⟩
        have goSm : ∀ {Ha Hb : Hp}, SB β Ha Hb → GoX β D Ha Hb := fun s a o h1 _ h3 h4 => s.go a o h1 h3 h4
        cases b1 with
        | false =>
          refine iteF ⟨accJ, accVJ, sj1, elJ, bg6, sbJ.trans ((same_sb sm1).trans sb6), ?_, smD sb6 (sm1 _ _ hDJ), ?_⟩
          · exact fun a o h1 h2 h3 h4 => sb6.go a o h1 h3 (sm1 _ _ (goJ a o h1 h2 h3 h4))
          · exact (racJ.mono (same_fz sm1)).mono (rel5.fzm sb6)
        | true =>
          refine iteT ?_
          intro sG HG CG clG fpG
          obtain ⟨⟨rr, sj2⟩, e3, elJ⟩ := bind1 elJ
          obtain ⟨dx, e6, elJ⟩ := bind1 elJ
          have hsz : accJ.length < sizeLine ∧ lcLoop g1 t1 e (wipeE env1 sl1) (ds1.drop (j + 1)) (accJ ++ [dx]) sj2 = some (acc2, sn3) := by
            cases hc : decide (accJ.length < sizeLine) with
            | false => simp only [hc] at elJ; cases elJ
            | true => simp only [hc, if_true] at elJ; exact ⟨of_decide_eq_true hc, elJ⟩
          have rel6 := rel5.step sb6 bg6
          refine he _ (C.inner hk sG HG CG clG fpG) rfl rel6 e3 fun yv H7 sb7 bg7 ry => ?_
          have ry' := ry.rp rel6 e6
          have hD7 := smD sb7 (smD sb6 (sm1 _ _ hDJ))
          have ra7 := ((racJ.mono (same_fz sm1)).mono (rel5.fzm sb6)).mono (rel6.fzm sb7)
          refine ⟨accVJ, hD7, by rw [ra7.length]; exact hsz.1, accJ ++ [dx], accVJ ++ [yv], sj2, hsz.2, ?_, ?_, ?_, upd_same, ?_⟩
          · exact bg7.mono fun b0 o hb0 e => by rw [upd_ne (fun z => bD (by rw [hb0, z]))]; exact e
          · exact (((sbJ.trans (same_sb sm1)).trans sb6).trans sb7).mut hD7 rfl (.inr hD)
          · exact fun a o h1 h2 h3 h4 => by rw [upd_ne h2]; exact sb7.go a o h1 h3 (sb6.go a o h1 h3 (sm1 _ _ (goJ a o h1 h2 h3 h4)))
          · refine (ra7.append (.one ry')).mono fun a o ea => ?_
            obtain ⟨na, ea, t⟩ := fz_some3 ea
            exact fz_put na (by rw [upd_ne (fun z => na (.inr z))]; exact ea) t
      · have en : j = ds1.length := by omega
        subst en
        rw [List.drop_length] at elJ
        cases elJ
        exact .inl ⟨ok1.stops frJ, _, accVJ, _, el, bgJ, sbJ, hDJ, racJ⟩
  · have en : n = ds.length := by omega
    subst en
    rw [List.drop_length] at el
    cases el
    refine .inl ⟨ok.stops (frN sb), q _ _ (sb1.trans sb) bg ⟨D, rfl, ?_, bD, accV, hDn, rac⟩⟩
    exact sb1.dm D bD hD
theorem s_lc2 (C : CxS F S X) (hk : scope.kind = .function) (bok : blkC S.N S.sc scope own = true) (hni : noSetI iter = true) (hni1 : noSetI iter1 = true) {pos : Pos} (hi : SoundI X tg iter i) (hsl : ∀ j ∈ sl, j ∈ own.map (·.2)) (hsl1 : ∀ j ∈ sl1, j ∈ own.map (·.2))
    (hg : ∀ X', CxS F (S.inner scope) X' → X'.K = X.K → SoundG X' tg sl g) (ht : ∀ X', CxS F (S.inner scope) X' → X'.K = X.K → SoundTs X' ifs t)
    (hi1 : ∀ X', CxS F (S.inner scope) X' → X'.K = X.K → SoundI X' tg1 iter1 i1) (hg1 : ∀ X', CxS F (S.inner scope) X' → X'.K = X.K → SoundG X' tg1 sl1 g1) (ht1 : ∀ X', CxS F (S.inner scope) X' → X'.K = X.K → SoundTs X' ifs1 t1) (he : ∀ X', CxS F (S.inner scope) X' → X'.K = X.K → SoundE X' elt e) :
    SoundE X (.ListComp elt [⟨tg, iter, ifs, 0⟩, ⟨tg1, iter1, ifs1, 0⟩] scope pos) (lcF2 i (own.map (·.2)) g t i1 sl1 g1 t1 e) := by
  obtain ⟨gg, gg1, tt, tt1, wi1, te, h1, h2, h3, h4, h5, h6, h7⟩ := lc2_read C hk hi hsl hg ht hi1 hg1 ht1 he
  intro β Oo H0 O σ H env st r st' Q rel h q
  have bo : BlkOk X.N X.env.scope scope own := by rw [C.N, C.sc]; exact blkOk_by bok
  exact (pe_lc2 C.calm (by rw [C.N]; exact C.nd) (wi_pi X tg iter) bo hsl1 h1 h2 h3 h4 h5 h6 (noSetI_ok hni X.env) (fun env => noSetI_ok hni1 env)).we (h7 rel h q)
end
end Iv

set_option maxHeartbeats 4000000
namespace Iv
open PySem PySem.Spec PyProof.Rows L2
variable [Nm]
/-! ### statements -/
inductive Out where
  | nx | rt (r : R) | bk | ct
abbrev SF := Env' → BSt → Option (Out × Env' × BSt)
def Ws (X : Cx) (s : Stmt) : TS := fun D σ H => ∀ pins sh, Inv X pins σ H sh → wpAny (model X.prog X.w) X.A (exec s X.env) (SP X pins D) X.xe sh
def Wss (X : Cx) (s : List Stmt) : TS := fun D σ H => ∀ pins sh, Inv X pins σ H sh → wpAny (model X.prog X.w) X.A (execs s X.env) (SP X pins D) X.xe sh
theorem ws_ps (X : Cx) (s : Stmt) : PS X s (Ws X s) := ⟨fun pins sh _ _ _ I h => h pins sh I⟩
theorem wss_pss (X : Cx) (s : List Stmt) : PSs X s (Wss X s) := ⟨fun pins sh _ _ _ I h => h pins sh I⟩
theorem _root_.L2.PS.ws {X : Cx} {s : Stmt} {t : TS} {D : Ends} {σ : L2.St} {H : Hp} (h : PS X s t) (q : t D σ H) : Ws X s D σ H := fun pins sh I => h.run pins sh σ H D I q
theorem _root_.L2.PSs.wss {X : Cx} {s : List Stmt} {t : TS} {D : Ends} {σ : L2.St} {H : Hp} (h : PSs X s t) (q : t D σ H) : Wss X s D σ H := fun pins sh I => h.run pins sh σ H D I q
def Post (K : PySem.W.Frag) (β : Option Addr) (Oo : Addr → Prop) (H0 : Hp) (O : Addr → Prop) (H : Hp) (D : Ends) : Out → Env' → BSt → Prop
  | .nx, env', st' => ∀ σ' H' O', Rel K β Oo H0 O' σ' H' env' st' → Same (Fz O H) (Fz O' H') → D.nx σ' H'
  | .bk, env', st' => ∀ σ' H' O', Rel K β Oo H0 O' σ' H' env' st' → Same (Fz O H) (Fz O' H') → D.bk σ' H'
  | .ct, env', st' => ∀ σ' H' O', Rel K β Oo H0 O' σ' H' env' st' → Same (Fz O H) (Fz O' H') → D.ct σ' H'
  | .rt r, _, st' => ∀ v H', SB β H0 H' → BagAt β H' st' → ResAt K β Oo H0 H' v r → D.rt v H'
theorem Post.mono {K : PySem.W.Frag} {β : Option Addr} {Oo : Addr → Prop} {H0 : Hp} {O O1 : Addr → Prop} {H H1 : Hp} {D : Ends} {o : Out} {env' : Env'} {st' : BSt} (h : Post K β Oo H0 O H D o env' st') (e : Same (Fz O H) (Fz O1 H1)) : Post K β Oo H0 O1 H1 D o env' st' := by
  cases o with
  | nx => exact fun σ' H' O' r s => h σ' H' O' r (e.trans s)
  | bk => exact fun σ' H' O' r s => h σ' H' O' r (e.trans s)
  | ct => exact fun σ' H' O' r s => h σ' H' O' r (e.trans s)
  | rt r => exact h
def SoundS (X : Cx) (s : Stmt) (f : SF) : Prop := ∀ ⦃β : Option Addr⦄ ⦃Oo : Addr → Prop⦄ ⦃H0 : Hp⦄ ⦃O : Addr → Prop⦄ ⦃σ : L2.St⦄ ⦃H : Hp⦄ ⦃env env' : Env'⦄ ⦃st st' : BSt⦄ ⦃o : Out⦄ ⦃D : Ends⦄,
  Rel X.K β Oo H0 O σ H env st → f env st = some (o, env', st') → Post X.K β Oo H0 O H D o env' st' → Ws X s D σ H
def SoundSs (X : Cx) (s : List Stmt) (f : SF) : Prop := ∀ ⦃β : Option Addr⦄ ⦃Oo : Addr → Prop⦄ ⦃H0 : Hp⦄ ⦃O : Addr → Prop⦄ ⦃σ : L2.St⦄ ⦃H : Hp⦄ ⦃env env' : Env'⦄ ⦃st st' : BSt⦄ ⦃o : Out⦄ ⦃D : Ends⦄,
  Rel X.K β Oo H0 O σ H env st → f env st = some (o, env', st') → Post X.K β Oo H0 O H D o env' st' → Wss X s D σ H
def failS (_ : Env') (_ : BSt) : Option (Out × Env' × BSt) := none
def skipS (env : Env') (st : BSt) : Option (Out × Env' × BSt) := some (.nx, env, st)
def seqS (f g : SF) (env : Env') (st : BSt) : Option (Out × Env' × BSt) := (f env st).bind fun p => match p.1 with
  | .nx => g p.2.1 p.2.2
  | o => some (o, p.2)
section
variable {F : FT} {S : Sx} {X : Cx}
theorem ss_fail {s : Stmt} : SoundS X s failS := fun _ _ _ _ _ _ _ _ _ _ _ _ _ h => by cases h
theorem ss_nil : SoundSs X [] skipS := fun _ _ _ _ _ _ _ _ _ _ _ _ rel h q => by cases h; exact pss_nil.wss (q _ _ _ rel (Same.refl _))
theorem ss_cons {s : Stmt} {ss : List Stmt} {f g : SF} (hf : SoundS X s f) (hg : SoundSs X ss g) : SoundSs X (s :: ss) (seqS f g) := by
  intro β Oo H0 O σ H env env' st st' o D rel h q
  obtain ⟨⟨o1, env1, st1⟩, e1, h⟩ := bind1 h
  refine (pss_cons (ws_ps X s) (wss_pss X ss)).wss (hf rel e1 ?_)
  cases o1 with
  | nx => exact fun σ1 H1 O1 rel1 sm => hg rel1 h (q.mono sm)
  | bk => cases h; exact q
  | ct => cases h; exact q
  | rt r => cases h; exact q
theorem ss_pass {pos : Pos} : SoundS X (.Pass pos) skipS := fun _ _ _ _ _ _ _ _ _ _ _ _ rel h q => by cases h; exact ps_pass.ws (q _ _ _ rel (Same.refl _))
theorem ss_break {pos : Pos} : SoundS X (.Break pos) (fun env st => some (.bk, env, st)) := fun _ _ _ _ _ _ _ _ _ _ _ _ rel h q => by cases h; exact ps_break.ws (q _ _ _ rel (Same.refl _))
theorem ss_continue {pos : Pos} : SoundS X (.Continue pos) (fun env st => some (.ct, env, st)) := fun _ _ _ _ _ _ _ _ _ _ _ _ rel h q => by cases h; exact ps_continue.ws (q _ _ _ rel (Same.refl _))
/-! freezing -/
def frz1 (i : Nat) (env : Env') : Env' := match env[i]? with
  | some (some (.ow d)) => env.set i (some (.fz d))
  | _ => env
def frzs : List Nat → Env' → Env'
  | [], env => env
  | i :: is, env => frzs is (frz1 i env)
theorem rp_of_ow {K : PySem.W.Frag} {O O' : Addr → Prop} {H : Hp} {a : Addr} {d : D} (h : OwAt K O H a d) (hOa : O a) (hO : ∀ b, O' b → O b) (ha : ¬ O' a) : Rp K (Fz O' H) (.ref a) d := by
  refine rp_of_fresh ha (OwAt.mono (O := O) h ?_ fun o _ q => q)
  intro b o q
  obtain ⟨n, q, t⟩ := fz_some3 q
  exact fz_put (fun z => z.elim (fun z => n (hO b z)) fun z => n (by rw [z]; exact hOa)) q t
theorem Rel.frz1 {K : PySem.W.Frag} {β : Option Addr} {Oo O : Addr → Prop} {H0 H : Hp} {σ : L2.St} {env : Env'} {st : BSt} (r : Rel K β Oo H0 O σ H env st) (i : Nat) : ∃ O', Rel K β Oo H0 O' σ H (frz1 i env) st ∧ Same (Fz O H) (Fz O' H) := by
  unfold Iv.frz1
  split
  · rename_i d e
    obtain ⟨v, hv, a, rfl, hO, hn, how⟩ := r.sl i _ e
    have a0 := r.fr i d a e hv
    have hsub : ∀ b, (O b ∧ b ≠ a) → O b := fun b z => z.1
    have fm : Same (Fz O H) (Fz (fun b => O b ∧ b ≠ a) H) := fz_mono hsub fun b o _ _ q => q
    have sig : ∀ (j : Nat) d', j ≠ i → env[j]? = some (some (.ow d')) → ∀ b, σ[j]? = some (some (.ref b)) → b ≠ a := fun j d' hj e' b hb z => by
      subst z
      exact r.ne i j d d' b (fun z => hj z.symm) e e' hv hb
    refine ⟨fun b => O b ∧ b ≠ a, ?_, fm⟩
    exact {
      sl := fun j y ej => by
        rcases get_set ej with ⟨rfl, _, z⟩ | ⟨hj, ej⟩
        · cases z; exact ⟨_, hv, rp_of_ow how hO hsub (fun z => z.2 rfl)⟩
        · obtain ⟨w, h1, h2⟩ := r.sl j y ej
          exact ⟨w, h1, h2.mono fm SB.refl fun b d' hd hw hb => ⟨hb, sig j d' hj (by rw [ej, hd]) b (by rw [h1, hw])⟩⟩
      ne := fun j k d' e' b hjk h1 h2 h3 => by
        rcases get_set h1 with ⟨_, _, z⟩ | ⟨hj, h1⟩
        · cases z
        rcases get_set h2 with ⟨_, _, z⟩ | ⟨hk, h2⟩
        · cases z
        exact r.ne j k d' e' b hjk h1 h2 h3
      fr := fun j d' b h1 h2 => by
        rcases get_set h1 with ⟨_, _, z⟩ | ⟨hj, h1⟩
        · cases z
        exact r.fr j d' b h1 h2
      len := by rw [List.length_set]; exact r.len
      sub := fun b hb => ⟨r.sub b hb, fun z => r.dom0 b hb (by rw [z]; exact a0)⟩
      dom := fun b hb => r.dom b hb.1
      dom0 := r.dom0
      sb := r.sb
      bag := r.bag
      bO := r.bO
      tabs := r.tabs }
  · exact ⟨O, r, Same.refl _⟩
theorem Rel.frzs {K : PySem.W.Frag} {β : Option Addr} {Oo : Addr → Prop} {H0 H : Hp} {σ : L2.St} {st : BSt} : ∀ (is : List Nat) {O : Addr → Prop} {env : Env'}, Rel K β Oo H0 O σ H env st → ∃ O', Rel K β Oo H0 O' σ H (frzs is env) st ∧ Same (Fz O H) (Fz O' H)
  | [], O, _, r => ⟨O, r, Same.refl _⟩
  | i :: is, O, _, r => by
    obtain ⟨O1, r1, s1⟩ := r.frz1 i
    obtain ⟨O2, r2, s2⟩ := Rel.frzs is r1
    exact ⟨O2, r2, s1.trans s2⟩
def frzS (is : List Nat) (f : SF) (env : Env') (st : BSt) : Option (Out × Env' × BSt) := f (frzs is env) st
theorem ss_frz {s : Stmt} {f : SF} (is : List Nat) (h : SoundS X s f) : SoundS X s (frzS is f) := fun _ _ _ _ _ _ _ _ _ _ _ _ rel hf q => by
  obtain ⟨O', r', sm⟩ := rel.frzs is
  exact h r' hf (q.mono sm)
/-! ### return -/
theorem ResAt.out {K : PySem.W.Frag} {β : Option Addr} {Oo O : Addr → Prop} {H0 H H' : Hp} {σ : L2.St} {env : Env'} {st : BSt} (r : Rel K β Oo H0 O σ H env st) {v : V} {x : R} (h : ResAt K β O H H' v x) : ResAt K β Oo H0 H' v x := by
  cases x with
  | fz d => exact Rp.mono (fz_mono r.sub fun a o _ _ q => q) h
  | ow d =>
    obtain ⟨p, h1, h2, h3, h4⟩ := h
    refine ⟨p, h1, ?_, h3, h4.mono (fz_mono (fun a z => z.elim (fun z => .inl (r.sub a z)) .inr) fun a o _ _ q => q) fun o _ q => q⟩
    exact r.sb.dm p h3 h2
  | bag => exact h
  | scr _ =>
    obtain ⟨a, h1, h2⟩ := h
    exact ⟨a, h1, h2.mono SB.refl (fz_mono r.sub fun a o _ _ q => q)⟩
  | fnc _ _ _ _ => exact h
def retF (f : EF) (env : Env') (st : BSt) : Option (Out × Env' × BSt) := (f env st).map fun p => (.rt p.1, env, p.2)
theorem ss_ret {e : Expr} {f : EF} {pos : Pos} (he : SoundE X e f) : SoundS X (.Return (some e) pos) (retF f) := by
  intro β Oo H0 O σ H env env' st st' o D rel h q
  obtain ⟨⟨r, s1⟩, e1, h⟩ := map1 h
  cases h
  exact (ps_ret (we_pe X e)).ws (he rel e1 fun v H1 sb1 bg1 rv => q v H1 (rel.sb.trans sb1) bg1 (rv.out rel))
def retN (S : Sx) (x : Str) (f : SF) (env : Env') (st : BSt) : Option (Out × Env' × BSt) := match slotOf S x with
  | some i => (match env[i]? with
    | some (some (.ow d)) => some (.rt (.ow d), env, st)
    | _ => f env st)
  | none => f env st
theorem ss_retN (C : CxS F S X) {x : Str} {f : SF} {p pos : Pos} (hf : SoundS X (.Return (some (.Name x p)) pos) f) : SoundS X (.Return (some (.Name x p)) pos) (retN S x f) := by
  intro β Oo H0 O σ H env env' st st' o D rel h q
  unfold retN at h
  cases e : slotOf S x with
  | none => rw [e] at h; exact hf rel h q
  | some i =>
    rw [e] at h
    obtain ⟨h1, h2, h3, h4⟩ := slotOf_ok C e
    dsimp only at h
    split at h
    · rename_i d e2
      cases h
      obtain ⟨v, hv, a, rfl, hO, hn, how⟩ := rel.sl i _ e2
      refine (ps_ret (pe_var h1 h2 h3 h4)).ws ⟨_, hv, q _ H rel.sb rel.bag ⟨a, rfl, rel.fr i d a e2 hv, hn, how.mono ?_ fun o _ q => q⟩⟩
      exact fz_mono (fun b z => z.elim (rel.sub b) fun z => by rw [z]; exact hO) fun b o _ _ q => q
    · exact hf rel h q
/-! ### if, while, for -/
def ifS (c : TF) (f g : SF) (env : Env') (st : BSt) : Option (Out × Env' × BSt) := (c env st).bind fun p => if p.1 then f env p.2 else g env p.2
theorem ss_if {c : Expr} {a b : List Stmt} {k : TF} {f g : SF} {pos : Pos} (hc : SoundT X c k) (ha : SoundSs X a f) (hb : SoundSs X b g) : SoundS X (.If c a b pos) (ifS k f g) := by
  intro β Oo H0 O σ H env env' st st' o D rel h q
  obtain ⟨⟨b, s1⟩, e1, h⟩ := bind1 h
  refine (ps_if (wt_pt X c) (wss_pss X a) (wss_pss X _)).ws (hc rel e1 fun H1 sb1 bg1 => ?_)
  have rel1 := rel.step sb1 bg1
  cases b with
  | true => exact iteT (ha rel1 h (q.mono (rel.fzm sb1)))
  | false => exact iteF (hb rel1 h (q.mono (rel.fzm sb1)))
def whileN (c : TF) (f : SF) : Nat → SF
  | 0 => failS
  | n + 1 => fun env st => (c env st).bind fun p => if p.1 then (f env p.2).bind fun q => (match q.1 with
      | .nx => whileN c f n q.2.1 q.2.2
      | .ct => whileN c f n q.2.1 q.2.2
      | .bk => some (.nx, q.2)
      | .rt r => some (.rt r, q.2)) else some (.nx, env, p.2)
/-- any way to find how a loop ends, that tells no lies -/
abbrev Wh := TF → SF → SF
def WhOk (w : Wh) : Prop := ∀ c f env st r, w c f env st = some r → ∃ n, whileN c f n env st = some r
theorem ss_while (C : CxS F S X) {w : Wh} (hw : WhOk w) {c : Expr} {a : List Stmt} {k : TF} {f : SF} {pos : Pos} (hc : SoundT X c k) (ha : SoundSs X a f) : SoundS X (.While c a [] pos) (w k f) := by
  intro β Oo H0 O σ H env env' st st' o D rel h q
  obtain ⟨n, h⟩ := hw _ _ _ _ _ h
  refine (ps_while (by rw [C.xe]; exact PassesOwn.never) (wt_pt X c) (wss_pss X a)).ws ?_
  refine ⟨fun m σm Hm => ∃ O1 env1 st1, Rel X.K β Oo H0 O1 σm Hm env1 st1 ∧ Same (Fz O H) (Fz O1 Hm) ∧ whileN k f m env1 st1 = some (o, env', st'), ⟨n, O, env, st, rel, Same.refl _, h⟩, ?_⟩
  rintro m σm Hm ⟨O1, env1, st1, rel1, sm1, e1⟩
  cases m with
  | zero => cases e1
  | succ m =>
    obtain ⟨⟨b, s2⟩, e2, e1⟩ := bind1 e1
    refine hc rel1 e2 fun H2 sb2 bg2 => ?_
    have rel2 := rel1.step sb2 bg2
    have sm2 := sm1.trans (rel1.fzm sb2)
    cases b with
    | false => cases e1; exact iteF (q _ _ _ rel2 sm2)
    | true =>
      refine iteT ⟨fun σ' H' => ∃ O1 env1 st1, Rel X.K β Oo H0 O1 σ' H' env1 st1 ∧ Same (Fz O H) (Fz O1 H') ∧ whileN k f m env1 st1 = some (o, env', st'), fun σ' H' z => ⟨m, Nat.lt_succ_self m, z⟩, ?_⟩
      obtain ⟨⟨o3, env3, st3⟩, e3, e1⟩ := bind1 e1
      refine ha rel2 e3 ?_
      cases o3 with
      | nx => exact fun σ' H' O' r' s' => ⟨O', env3, st3, r', sm2.trans s', e1⟩
      | ct => exact fun σ' H' O' r' s' => ⟨O', env3, st3, r', sm2.trans s', e1⟩
      | bk => cases e1; exact fun σ' H' O' r' s' => q σ' H' O' r' (sm2.trans s')
      | rt r => cases e1; exact q
def forL (g : GF) (f : SF) : List D → SF
  | [] => skipS
  | d :: ds => fun env st => (g d env).bind fun env1 => (f env1 st).bind fun q => match q.1 with
      | .nx => forL g f ds q.2.1 q.2.2
      | .ct => forL g f ds q.2.1 q.2.2
      | .bk => some (.nx, q.2)
      | .rt r => some (.rt r, q.2)
def forF (i : IF) (g : GF) (f : SF) (env : Env') (st : BSt) : Option (Out × Env' × BSt) := (i env st).bind fun p => forL g f p.1 env p.2
theorem ss_for (C : CxS F S X) {tg it : Expr} {a : List Stmt} {i : IF} {g : GF} {sl : List Nat} {f : SF} {pos : Pos} (hni : noSetI it = true) (hi : SoundI X tg it i) (hg : SoundG X tg sl g) (ha : SoundSs X a f) : SoundS X (.For tg it a [] pos) (forF i g f) := by
  intro β Oo H0 O σ H env env' st st' o D rel h q
  obtain ⟨⟨ds, s1⟩, e1, h⟩ := bind1 h
  refine (ps_for (by rw [C.xe]; exact PassesOwn.never) C.calm (wi_pi X tg it) (wg_pg X tg) (wss_pss X a) (noSetI_ok hni X.env)).ws (hi rel e1 fun J Fr H1 sb1 bg1 ok fr => ?_)
  have rel1 := rel.step sb1 bg1
  refine ⟨fun n m σm Hm => m = ds.length - n ∧ n ≤ ds.length ∧ ∃ O1 env1 st1, Rel X.K β Oo H0 O1 σm Hm env1 st1 ∧ Same (Fz O H1) (Fz O1 Hm) ∧ forL g f (ds.drop n) env1 st1 = some (o, env', st'),
    ⟨ds.length, rfl, Nat.zero_le _, O, env, s1, rel1, Same.refl _, by simpa using h⟩, ?_⟩
  rintro n m σm Hm ⟨rfl, hn, O1, env1, st1, rel2, sm2, e2⟩
  have fr2 := ok.mono sm2 fr
  by_cases hlt : n < ds.length
  · refine .inr ⟨ok.goes hlt fr2, fun σ' H' => ∃ O1 env1 st1, Rel X.K β Oo H0 O1 σ' H' env1 st1 ∧ Same (Fz O H1) (Fz O1 H') ∧ forL g f (ds.drop (n + 1)) env1 st1 = some (o, env', st'),
      fun σ' H' z => ⟨ds.length - (n + 1), by omega, rfl, by omega, z⟩, fun x H3 y => ?_⟩
    obtain ⟨sm, d, ed, rx⟩ := ok.yld hlt rel2.dom' fr2 y
    have edrop : ds.drop n = d :: ds.drop (n + 1) := by
      rw [List.drop_eq_getElem_cons hlt]
      rw [List.getElem?_eq_getElem hlt] at ed
      cases ed; rfl
    rw [edrop] at e2
    obtain ⟨env3, g3, e2⟩ := bind1 e2
    obtain ⟨⟨o4, env4, st4⟩, e4, e2⟩ := bind1 e2
    have rel3 := rel2.step (same_sb sm) (same_bag sm rel2.bag)
    have sm3 := sm2.trans (same_fz sm)
    refine hg rel3 rx g3 fun σ4 rel4 _ _ => ha rel4 e4 ?_
    cases o4 with
    | nx => exact fun σ' H' O' r' s' => ⟨O', env4, st4, r', sm3.trans s', e2⟩
    | ct => exact fun σ' H' O' r' s' => ⟨O', env4, st4, r', sm3.trans s', e2⟩
    | bk => cases e2; exact fun σ' H' O' r' s' => q σ' H' O' r' ((rel.fzm sb1).trans (sm3.trans s'))
    | rt r => cases e2; exact q
  · have en : n = ds.length := by omega
    subst en
    rw [List.drop_length] at e2
    cases e2
    exact .inl ⟨ok.stops fr2, q σm Hm O1 rel2 ((rel.fzm sb1).trans sm2)⟩
end
end Iv

set_option maxHeartbeats 4000000
namespace Iv
open PySem PySem.Spec PyProof.Rows L2
variable [Nm]
section
variable {F : FT} {S : Sx} {X : Cx}
/-- a result goes into a slot -/
theorem Rel.store {K : PySem.W.Frag} {β : Option Addr} {Oo O : Addr → Prop} {H0 H H' : Hp} {σ : L2.St} {env : Env'} {st st' : BSt} (r : Rel K β Oo H0 O σ H env st) (i : Nat) {v : V} {x : R} (sb : SB β H H') (bg : BagAt β H' st') (h : ResAt K β O H H' v x) :
    ∃ O', Rel K β Oo H0 O' (σ.set i (some v)) H' (env.set i (some x)) st' ∧ Same (Fz O H) (Fz O' H') ∧ ∀ a, O a → O' a := by
  cases x with
  | fz d => exact ⟨O, (r.step sb bg).put i (x := .fz d) h (fun _ z => by cases z), r.fzm sb, fun _ z => z⟩
  | ow d =>
    obtain ⟨p, rfl, h1, h2, h3⟩ := h
    exact ⟨orO O p, r.putOw i sb bg h1 h2 h3, r.putOw_same sb h1, fun _ z => .inl z⟩
  | bag => exact ⟨O, (r.step sb bg).put i (x := .bag) h (fun _ z => by cases z), r.fzm sb, fun _ z => z⟩
  | scr ns => exact ⟨O, (r.step sb bg).put i (x := .scr ns) h (fun _ z => by cases z), r.fzm sb, fun _ z => z⟩
  | fnc _ _ _ _ => exact h.elim
def noComp : Expr → Bool
  | .ListComp .. => false | .SetComp .. => false | .DictComp .. => false
  | _ => true
theorem noComp_ok {e : Expr} (h : noComp e = true) (t : Option Expr) (l : Nat) (env : Env) : swapsWith e t l env = pure false := by
  cases e <;> first | rfl | cases h
def asgF (i : Nat) (f : EF) (env : Env') (st : BSt) : Option (Out × Env' × BSt) := (f env st).map fun p => (.nx, env.set i (some p.1), p.2)
theorem ss_asg (C : CxS F S X) {x : Str} {i : Nat} {e : Expr} {f : EF} {p pos : Pos} (hx : tgtSlot S x = some i) (hc : noComp e = true) (he : SoundE X e f) : SoundS X (.Assign [.Name x p] e pos) (asgF i f) := by
  intro β Oo H0 O σ H env env' st st' o D rel h q
  obtain ⟨⟨r, s1⟩, e1, h⟩ := map1 h
  cases h
  obtain ⟨h1, h2, h3, h4⟩ := tgtSlot_ok C hx
  refine (ps_set h1 h2 h3 (we_pe X e) (noComp_ok hc _ _ _) h4).ws (he rel e1 fun v H1 sb1 bg1 rv => ?_)
  obtain ⟨O', r', sm, _⟩ := rel.store i sb1 bg1 rv
  exact q _ _ _ r' sm
variable {tg iter elt : Expr} {ifs : List Expr} {scope : Scope} {own : List (Str × Nat)} {ii : IF} {g : GF} {t : TF} {e : EF} {sl : List Nat}
/-- y = [..] -/
theorem ss_asgLc (C : CxS F S X) (hk : scope.kind = .function) (ok : blkC S.N S.sc scope own = true) (hni : noSetI iter = true) {y : Str} {i : Nat} {p pos spos : Pos} (hx : tgtSlot S y = some i) (hi : SoundI X tg iter ii) (hsl : ∀ j ∈ sl, j ∈ own.map (·.2))
    (hg : ∀ X', CxS F (S.inner scope) X' → X'.K = X.K → SoundG X' tg sl g) (ht : ∀ X', CxS F (S.inner scope) X' → X'.K = X.K → SoundTs X' ifs t) (he : ∀ X', CxS F (S.inner scope) X' → X'.K = X.K → SoundE X' elt e) :
    SoundS X (.Assign [.Name y p] (.ListComp elt [⟨tg, iter, ifs, 0⟩] scope pos) spos) (asgF i (lcF ii (own.map (·.2)) g t e)) := by
  obtain ⟨gg, tt, te, k1, k2, k3, k4⟩ := lc_read C hk hi hsl hg ht he
  intro β Oo H0 O σ H env env' st st' o D rel h q
  obtain ⟨⟨r, s1⟩, e1, h⟩ := map1 h
  cases h
  obtain ⟨h1, h2, h3, h4⟩ := tgtSlot_ok C hx
  have bo : BlkOk X.N X.env.scope scope own := by rw [C.N, C.sc]; exact blkOk_by ok
  have rd : tAsg (tLc (Wi X tg iter) gg tt te (own.map (·.2))) (gName i) D σ H := k4 rel e1 fun v H1 sb1 bg1 rv => by
    obtain ⟨O', r', sm, _⟩ := rel.store i sb1 bg1 rv
    exact q _ _ _ r' sm
  have sw : swapsWith (.ListComp elt [⟨tg, iter, ifs, 0⟩] scope pos) (some (.Name y p)) spos.line X.env = pure (X.env.blockKind == .function && X.env.kindOf y == some .local && p.line == pos.line && !(scope.names.any fun (n, k) => n == y && (k == .local || k == .cell))) := rfl
  cases hb : (X.env.blockKind == .function && X.env.kindOf y == some .local && p.line == pos.line && !(scope.names.any fun (n, k) => n == y && (k == .local || k == .cell))) with
  | true =>
    rw [hb] at sw
    have hy : X.env.scope.names.lookup y = some .local := by
      simp only [Bool.and_eq_true] at hb
      exact eq_of_beq hb.1.1.2
    exact (ps_setLc C.calm h1 h2 hy sw (wi_pi X tg iter) bo k1 k2 k3 (noSetI_ok hni X.env)).ws rd
  | false =>
    rw [hb] at sw
    exact (ps_set h1 h2 h3 (pe_lc C.calm h1 (wi_pi X tg iter) bo k1 k2 k3 (noSetI_ok hni X.env)) sw h4).ws rd
/-- a, b = e: unpacked -/
def noTup : Expr → Bool
  | .Tuple .. => false
  | _ => true
theorem noTup_ok {v : Expr} (h : noTup v = true) (ts : List Expr) (k : Nat) (pos : Pos) (env : Env) : swappedStores [.Tuple ts k pos] v env = pure none := by
  cases v <;> first | rfl | cases h
theorem sole_ok (v : Expr) (ts : List Expr) (k : Nat) (pos : Pos) (l : Nat) (env : Env) : swapsWithSole [.Tuple ts k pos] v l env = pure false := by
  cases v <;> rfl
def unpF (f : EF) (g : GF) (env : Env') (st : BSt) : Option (Out × Env' × BSt) := (f env st).bind fun p => p.1.d?.bind fun d => (g d env).map fun env' => (.nx, env', p.2)
theorem ss_unp {ts : List Expr} {k : Nat} {pt pos : Pos} {v : Expr} {f : EF} (hn : noTup v = true) (he : SoundE X v f) (hg : SoundG X (.Tuple ts k pt) sl g) : SoundS X (.Assign [.Tuple ts k pt] v pos) (unpF f g) := by
  intro β Oo H0 O σ H env env' st st' o D rel h q
  obtain ⟨⟨r, s1⟩, e1, h⟩ := bind1 h
  obtain ⟨d, e2, h⟩ := bind1 h
  obtain ⟨env1, e3, h⟩ := map1 h
  cases h
  refine (ps_asg (we_pe X v) (wg_pg X _) (sole_ok v ts k pt _ _) (noTup_ok hn ts k pt X.env) rfl).ws (he rel e1 fun w H1 sb1 bg1 rv => ?_)
  have rel1 := rel.step sb1 bg1
  exact hg rel1 (rv.rp rel e2) e3 fun σ' r' _ _ => q _ _ _ r' (rel.fzm sb1)
/-! several at once -/
def swap2 (S : Sx) (x y : Str) (px py : Pos) (a b : Expr) : Bool :=
  decide (S.sc.names.lookup x = some .local) && decide (S.sc.names.lookup y = some .local) && (py.line == px.line) && decide (x ≠ y) && noStar a && noStar b && !([a, b].all (foldedForSure 8)) && !([a, b].all (constantsAlone 8))
theorem noStar_any (a : Expr) : noStar a = true → (match a with | .Starred .. => true | _ => false) = false := by
  intro h
  cases a <;> first | rfl | cases h
theorem blockKind_ok {env : Env} (h : env.scope.kind = .function) : env.blockKind = .function := by unfold Env.blockKind; rw [h]; rfl
theorem swap2_ok (C : CxS F S X) {x y : Str} {px py pt pt2 : Pos} {k k2 : Nat} {a b : Expr} (h : swap2 S x y px py a b = true) :
    swappedStores [.Tuple [.Name x px, .Name y py] k pt] (.Tuple [a, b] k2 pt2) X.env = pure (some [x, y]) ∧ X.env.scope.names.lookup x = some .local ∧ X.env.scope.names.lookup y = some .local ∧ x ≠ y ∧ noStar a = true ∧ noStar b = true := by
  unfold swap2 at h
  simp only [Bool.and_eq_true, decide_eq_true_eq, Bool.not_eq_true'] at h
  obtain ⟨⟨⟨⟨⟨⟨⟨h1, h2⟩, h3⟩, h4⟩, h5⟩, h6⟩, h7⟩, h8⟩ := h
  rw [← C.sc] at h1 h2
  refine ⟨?_, h1, h2, h4, h5, h6⟩
  have k1 : X.env.kindOf x = some .local := h1
  have k2' : X.env.kindOf y = some .local := h2
  have bk := blockKind_ok C.kind
  have n1 := noStar_any a h5
  have n2 := noStar_any b h6
  have h3' : py.line = px.line := eq_of_beq h3
  have fm : ([Expr.Name x px, Expr.Name y py].filterMap fun
    | .Name id pos => if X.env.kindOf id == some .local && pos.line == px.line then some id else none
    | _ => none) = [x, y] := by
    rw [List.filterMap_cons, List.filterMap_cons, List.filterMap_nil]
    simp [k1, k2', h3']
  have ed : ([x, y] : List Str).eraseDups.length = 2 := by
    rw [List.eraseDups_cons]
    simp [List.eraseDups_cons, Ne.symm h4]
  have an : ([a, b].any fun | .Starred .. => true | _ => false) = false := by
    simp only [List.any_cons, List.any_nil, Bool.or_false]
    exact Bool.or_eq_false_iff.mpr ⟨n1, n2⟩
  unfold swappedStores
  simp only [List.length_cons, List.length_nil, bk, h7, h8, List.head?_cons, Option.map_some, Option.getD_some, Expr.pos]
  refine (if_neg (by decide)).trans ((if_neg (fun z => Bool.noConfusion (an.symm.trans z))).trans ((if_neg (fun z => ?_)).trans ((if_neg (by decide)).trans ((if_neg (by decide)).trans ?_))))
  · have e1 := congrArg List.length fm
    have e2 := congrArg (fun l => (List.eraseDups l).length) fm
    have z' := z
    revert z'
    show ¬ ((([Expr.Name x px, Expr.Name y py].filterMap fun
        | .Name id pos => if X.env.kindOf id == some .local && pos.line == px.line then some id else none
        | _ => none).length != 2 || ([Expr.Name x px, Expr.Name y py].filterMap fun
        | .Name id pos => if X.env.kindOf id == some .local && pos.line == px.line then some id else none
        | _ => none).eraseDups.length != ([Expr.Name x px, Expr.Name y py].filterMap fun
        | .Name id pos => if X.env.kindOf id == some .local && pos.line == px.line then some id else none
        | _ => none).length) = true)
    rw [fm, ed]
    exact (by decide : ¬ ((2 != 2 || 2 != 2) = true))
  · exact congrArg (fun l => (pure (some l) : Sem (Option (List Str)))) fm
def par2F (i j : Nat) (f g : EF) (env : Env') (st : BSt) : Option (Out × Env' × BSt) := (f env st).bind fun p => (g env p.2).map fun q => (.nx, (env.set i (some p.1)).set j (some q.1), q.2)
structure Held (K : PySem.W.Frag) (β : Option Addr) (H0 : Hp) (O : Addr → Prop) (σ : L2.St) (env : Env') (H : Hp) (v : V) (x : R) : Prop where
  sl : SlAt K β O H v x
  fr : ∀ d p, x = .ow d → v = .ref p → H0 p = none
  ne : ∀ d p, x = .ow d → v = .ref p → ∀ (j : Nat) d', env[j]? = some (some (.ow d')) → σ[j]? ≠ some (some (.ref p))
section
variable {K : PySem.W.Frag} {β : Option Addr} {Oo O O' : Addr → Prop} {H0 H H' : Hp} {σ : L2.St} {env : Env'} {st st' : BSt} {v : V} {x : R}
/-- a result is held: what is fresh is owned from now on, by no slot yet -/
theorem Rel.grab (r : Rel K β Oo H0 O σ H env st) (sb : SB β H H') (bg : BagAt β H' st') (h : ResAt K β O H H' v x) :
    ∃ O', Rel K β Oo H0 O' σ H' env st' ∧ Same (Fz O H) (Fz O' H') ∧ (∀ a, O a → O' a) ∧ Held K β H0 O' σ env H' v x ∧ ∀ d p, x = .ow d → v = .ref p → ¬ O p := by
  cases x with
  | fz d => exact ⟨O, r.step sb bg, r.fzm sb, fun _ z => z, ⟨h, (fun _ _ z => by cases z), (fun _ _ z => by cases z)⟩, fun _ _ z => by cases z⟩
  | bag => exact ⟨O, r.step sb bg, r.fzm sb, fun _ z => z, ⟨h, (fun _ _ z => by cases z), (fun _ _ z => by cases z)⟩, fun _ _ z => by cases z⟩
  | scr ns => exact ⟨O, r.step sb bg, r.fzm sb, fun _ z => z, ⟨h, (fun _ _ z => by cases z), (fun _ _ z => by cases z)⟩, fun _ _ z => by cases z⟩
  | fnc _ _ _ _ => exact h.elim
  | ow d =>
    obtain ⟨p, rfl, h1, h2, h3⟩ := h
    have w := r.putOw σ.length sb bg h1 h2 h3
    have e1 : σ.set σ.length (some (.ref p)) = σ := List.set_eq_of_length_le (Nat.le_refl _)
    have e2 : env.set σ.length (some (.ow d)) = env := List.set_eq_of_length_le (by rw [r.len]; exact Nat.le_refl _)
    rw [e1, e2] at w
    have nO := r.notO h1
    refine ⟨orO O p, w, r.putOw_same sb h1, fun _ z => .inl z, ⟨⟨p, rfl, .inr rfl, h2, h3⟩, fun d' p' _ e => ?_, fun d' p' _ e j d2 ej z => ?_⟩, fun d' p' _ e => ?_⟩
    · cases e
      exact r.sb.dm p h2 h1
    · cases e
      obtain ⟨u, g1, b, rfl, g2, _⟩ := r.sl j _ ej
      rw [g1] at z; cases z
      exact nO g2
    · cases e; exact nO
theorem Held.later (h : Held K β H0 O σ env H v x) (e : Same (Fz O H) (Fz O' H')) (sb : SB β H H') (hO : ∀ a, O a → O' a) : Held K β H0 O' σ env H' v x :=
  ⟨h.sl.mono e sb fun a d _ _ z => hO a z, h.fr, h.ne⟩
theorem Rel.putH (r : Rel K β Oo H0 O σ H env st) (i : Nat) (h : Held K β H0 O σ env H v x) : Rel K β Oo H0 O (σ.set i (some v)) H (env.set i (some x)) st where
  sl := fun j y e => by
    rcases get_set e with ⟨rfl, hl, e⟩ | ⟨hj, e⟩
    · cases e; exact ⟨v, List.getElem?_set_self (by rw [← r.len]; exact hl), h.sl⟩
    · rw [set_ne hj]; exact r.sl j y e
  ne := fun j k d e a hjk h1 h2 h3 => by
    rcases get_set h1 with ⟨ej, hl, z⟩ | ⟨hj, g1⟩
    · rcases get_set h2 with ⟨ek, _, z2⟩ | ⟨hk, g2⟩
      · exact absurd (ej.trans ek.symm) hjk
      · rw [set_ne hk]
        rw [ej, List.getElem?_set_self (by rw [← r.len]; exact hl)] at h3
        cases h3
        exact h.ne d a (Option.some.inj z).symm rfl k e g2
    · rw [set_ne hj] at h3
      rcases get_set h2 with ⟨ek, hl, z2⟩ | ⟨hk, g2⟩
      · rw [ek, List.getElem?_set_self (by rw [← r.len]; exact hl)]
        intro z
        cases z
        exact h.ne e a (Option.some.inj z2).symm rfl j d g1 h3
      · rw [set_ne hk]
        exact r.ne j k d e a hjk g1 g2 h3
  fr := fun j d' a h1 h2 => by
    rcases get_set h1 with ⟨rfl, hl, z⟩ | ⟨hj, h1⟩
    · rw [List.getElem?_set_self (by rw [← r.len]; exact hl)] at h2
      cases h2; exact h.fr d' a (Option.some.inj z).symm rfl
    · rw [set_ne hj] at h2
      exact r.fr j d' a h1 h2
  len := by rw [List.length_set, List.length_set]; exact r.len
  sub := r.sub
  dom := r.dom
  dom0 := r.dom0
  sb := r.sb
  bag := r.bag
  bO := r.bO
  tabs := r.tabs
/-- held beside another one that was stored -/
theorem Held.beside (r : Rel K β Oo H0 O σ H env st) (h : Held K β H0 O' σ env H' v x) {v1 : V} {x1 : R} (i : Nat) (h1 : Held K β H0 O σ env H v1 x1) (hn : ∀ d p, x = .ow d → v = .ref p → ¬ O p) : Held K β H0 O' (σ.set i (some v1)) (env.set i (some x1)) H' v x where
  sl := h.sl
  fr := h.fr
  ne := fun d p hx hv j d' ej z => by
    rcases get_set ej with ⟨rfl, hl, e⟩ | ⟨hj, ej⟩
    · rw [List.getElem?_set_self (by rw [← r.len]; exact hl)] at z
      cases z
      cases e
      obtain ⟨a, e1, e2, _⟩ := h1.sl
      cases e1
      exact hn d p hx hv e2
    · rw [set_ne hj] at z
      exact h.ne d p hx hv j d' ej z
end
theorem ss_par2 (C : CxS F S X) {x y : Str} {i j : Nat} {px py pt pt2 pos : Pos} {k k2 : Nat} {a b : Expr} {f g : EF} (h : swap2 S x y px py a b = true) (hx : tgtSlot S x = some i) (hy : tgtSlot S y = some j) (hij : i ≠ j) (ha : SoundE X a f) (hb : SoundE X b g) :
    SoundS X (.Assign [.Tuple [.Name x px, .Name y py] k pt] (.Tuple [a, b] k2 pt2) pos) (par2F i j f g) := by
  intro β Oo H0 O σ H env env' st st' o D rel hf q
  obtain ⟨⟨r1, s1⟩, e1, hf⟩ := bind1 hf
  obtain ⟨⟨r2, s2⟩, e2, hf⟩ := map1 hf
  cases hf
  obtain ⟨sw, lx, ly, _, na, nb⟩ := swap2_ok C (k := k) (pt := pt) (k2 := k2) (pt2 := pt2) h
  obtain ⟨h1, h2, _, _⟩ := tgtSlot_ok C hx
  obtain ⟨_, h3, _, _⟩ := tgtSlot_ok C hy
  have pa : PA X [a, b] _ := pa_cons (we_pe X a) (pa_cons (we_pe X b) pa_nil (noStar_ok nb [] X.env)) (noStar_ok na [b] X.env)
  refine (ps_par C.calm h1 h2 h3 hij lx ly pa sw (sole_ok _ _ _ _ _ _)).ws (ha rel e1 fun v H1 sb1 bg1 rv => ?_)
  obtain ⟨O1, rel1, sm1, hO1, hd1, _⟩ := rel.grab sb1 bg1 rv
  refine hb rel1 e2 fun w H2 sb2 bg2 rw' => ⟨v, w, rfl, ?_⟩
  obtain ⟨O2, rel2, sm2, hO2, hd2, hn2⟩ := rel1.grab sb2 bg2 rw'
  have r3 := rel2.putH i (hd1.later sm2 sb2 hO2)
  exact q _ _ _ (r3.putH j (hd2.beside rel1 i hd1 hn2)) (sm1.trans sm2)
def swap3 (S : Sx) (x y z : Str) (px py pz : Pos) (a b c : Expr) : Bool :=
  decide (S.sc.names.lookup x = some .local) && decide (S.sc.names.lookup y = some .local) && decide (S.sc.names.lookup z = some .local) && (py.line == px.line) && (pz.line == px.line) && decide (x ≠ y) && decide (x ≠ z) && decide (y ≠ z) && noStar a && noStar b && noStar c && !([a, b, c].all (foldedForSure 8)) && !([a, b, c].all (constantsAlone 8))
theorem swap3_ok (C : CxS F S X) {x y z : Str} {px py pz pt pt2 : Pos} {k k2 : Nat} {a b c : Expr} (h : swap3 S x y z px py pz a b c = true) :
    swappedStores [.Tuple [.Name x px, .Name y py, .Name z pz] k pt] (.Tuple [a, b, c] k2 pt2) X.env = pure (some [x, y, z]) ∧ X.env.scope.names.lookup x = some .local ∧ X.env.scope.names.lookup y = some .local ∧ X.env.scope.names.lookup z = some .local ∧ noStar a = true ∧ noStar b = true ∧ noStar c = true := by
  unfold swap3 at h
  simp only [Bool.and_eq_true, decide_eq_true_eq, Bool.not_eq_true'] at h
  obtain ⟨⟨⟨⟨⟨⟨⟨⟨⟨⟨⟨⟨h1, h2⟩, h3⟩, l1⟩, l2⟩, n1⟩, n2⟩, n3⟩, a1⟩, a2⟩, a3⟩, h7⟩, h8⟩ := h
  rw [← C.sc] at h1 h2 h3
  refine ⟨?_, h1, h2, h3, a1, a2, a3⟩
  have k1 : X.env.kindOf x = some .local := h1
  have k2' : X.env.kindOf y = some .local := h2
  have k3 : X.env.kindOf z = some .local := h3
  have bk := blockKind_ok C.kind
  have m1 := noStar_any a a1
  have m2 := noStar_any b a2
  have m3 := noStar_any c a3
  have l1' : py.line = px.line := eq_of_beq l1
  have l2' : pz.line = px.line := eq_of_beq l2
  have fm : ([Expr.Name x px, Expr.Name y py, Expr.Name z pz].filterMap fun
    | .Name id pos => if X.env.kindOf id == some .local && pos.line == px.line then some id else none
    | _ => none) = [x, y, z] := by
    rw [List.filterMap_cons, List.filterMap_cons, List.filterMap_cons, List.filterMap_nil]
    simp [k1, k2', k3, l1', l2']
  have ed : ([x, y, z] : List Str).eraseDups.length = 3 := by
    simp [List.eraseDups_cons, Ne.symm n1, Ne.symm n2, Ne.symm n3]
  have an : ([a, b, c].any fun | .Starred .. => true | _ => false) = false := by
    simp only [List.any_cons, List.any_nil, Bool.or_false]
    exact Bool.or_eq_false_iff.mpr ⟨m1, Bool.or_eq_false_iff.mpr ⟨m2, m3⟩⟩
  unfold swappedStores
  simp only [List.length_cons, List.length_nil, bk, h7, h8, List.head?_cons, Option.map_some, Option.getD_some, Expr.pos]
  refine (if_neg (by decide)).trans ((if_neg (fun z => Bool.noConfusion (an.symm.trans z))).trans ((if_neg (fun w => ?_)).trans ((if_neg (by decide)).trans ((if_neg (by decide)).trans ?_))))
  · have z' := w
    revert z'
    show ¬ ((([Expr.Name x px, Expr.Name y py, Expr.Name z pz].filterMap fun
        | .Name id pos => if X.env.kindOf id == some .local && pos.line == px.line then some id else none
        | _ => none).length != 3 || ([Expr.Name x px, Expr.Name y py, Expr.Name z pz].filterMap fun
        | .Name id pos => if X.env.kindOf id == some .local && pos.line == px.line then some id else none
        | _ => none).eraseDups.length != ([Expr.Name x px, Expr.Name y py, Expr.Name z pz].filterMap fun
        | .Name id pos => if X.env.kindOf id == some .local && pos.line == px.line then some id else none
        | _ => none).length) = true)
    rw [fm, ed]
    exact (by decide : ¬ ((3 != 3 || 3 != 3) = true))
  · exact congrArg (fun l => (pure (some l) : Sem (Option (List Str)))) fm
def par3F (i j l : Nat) (f g e : EF) (env : Env') (st : BSt) : Option (Out × Env' × BSt) := (f env st).bind fun p => (g env p.2).bind fun q => (e env q.2).map fun w => (.nx, ((env.set i (some p.1)).set j (some q.1)).set l (some w.1), w.2)
theorem ss_par3 (C : CxS F S X) {x y z : Str} {i j l : Nat} {px py pz pt pt2 pos : Pos} {k k2 : Nat} {a b c : Expr} {f g e : EF} (h : swap3 S x y z px py pz a b c = true) (hx : tgtSlot S x = some i) (hy : tgtSlot S y = some j) (hz : tgtSlot S z = some l)
    (hij : i ≠ j) (hil : i ≠ l) (hjl : j ≠ l) (ha : SoundE X a f) (hb : SoundE X b g) (hc : SoundE X c e) :
    SoundS X (.Assign [.Tuple [.Name x px, .Name y py, .Name z pz] k pt] (.Tuple [a, b, c] k2 pt2) pos) (par3F i j l f g e) := by
  intro β Oo H0 O σ H env env' st st' o D rel hf q
  obtain ⟨⟨r1, s1⟩, e1, hf⟩ := bind1 hf
  obtain ⟨⟨r2, s2⟩, e2, hf⟩ := bind1 hf
  obtain ⟨⟨r3, s3⟩, e3, hf⟩ := map1 hf
  cases hf
  obtain ⟨sw, lx, ly, lz, na, nb, nc⟩ := swap3_ok C (k := k) (pt := pt) (k2 := k2) (pt2 := pt2) h
  obtain ⟨h1, h2, _, _⟩ := tgtSlot_ok C hx
  obtain ⟨_, h3, _, _⟩ := tgtSlot_ok C hy
  obtain ⟨_, h4, _, _⟩ := tgtSlot_ok C hz
  have pa : PA X [a, b, c] _ := pa_cons (we_pe X a) (pa_cons (we_pe X b) (pa_cons (we_pe X c) pa_nil (noStar_ok nc [] X.env)) (noStar_ok nb [c] X.env)) (noStar_ok na [b, c] X.env)
  refine (ps_par3 C.calm h1 h2 h3 h4 hij hil hjl lx ly lz pa sw (sole_ok _ _ _ _ _ _)).ws (ha rel e1 fun v H1 sb1 bg1 rv => ?_)
  obtain ⟨O1, rel1, sm1, hO1, hd1, _⟩ := rel.grab sb1 bg1 rv
  refine hb rel1 e2 fun w H2 sb2 bg2 rw' => ?_
  obtain ⟨O2, rel2, sm2, hO2, hd2, hn2⟩ := rel1.grab sb2 bg2 rw'
  refine hc rel2 e3 fun u H3 sb3 bg3 ru => ⟨v, w, u, rfl, ?_⟩
  obtain ⟨O3, rel3, sm3, hO3, hd3, hn3⟩ := rel2.grab sb3 bg3 ru
  have d1' := hd1.later sm2 sb2 hO2
  have q1 := rel3.putH i (d1'.later sm3 sb3 hO3)
  have q2 := q1.putH j ((hd2.later sm3 sb3 hO3).beside rel1 i hd1 hn2)
  have b3 := hd3.beside rel2 i d1' hn3
  have b3' := b3.beside (rel2.putH i d1') j (hd2.beside rel1 i hd1 hn2) hn3
  exact q _ _ _ (q2.putH l b3') (sm1.trans (sm2.trans sm3))
end
end Iv

set_option maxHeartbeats 4000000
namespace Iv
open PySem PySem.Spec PyProof.Rows L2
variable [Nm]
section
variable {F : FT} {S : Sx} {X : Cx}
/-- what a slot owns changes -/
theorem Rel.mut {K : PySem.W.Frag} {β : Option Addr} {Oo O : Addr → Prop} {H0 H : Hp} {σ : L2.St} {env : Env'} {st : BSt} (r : Rel K β Oo H0 O σ H env st) {i : Nat} {d d' : D} {a : Addr} {ob o' : HO} (hi : env[i]? = some (some (.ow d))) (hv : σ[i]? = some (some (.ref a)))
    (hob : H a = some ob) (hnf : plainO ob = true) (ho : OwAt K O (upd H a o') a d') : Rel K β Oo H0 O σ (upd H a o') (env.set i (some (.ow d'))) st ∧ Same (Fz O H) (Fz O (upd H a o')) := by
  obtain ⟨v, hv', b, rfl, hO, hn, _⟩ := r.sl i _ hi
  rw [hv] at hv'; cases hv'
  have a0 := r.fr i d a hi hv
  have fm : Same (Fz O H) (Fz O (upd H a o')) := fun b o e => by
    obtain ⟨n, e, t⟩ := fz_some3 e
    exact fz_put n (by rw [upd_ne (fun z => n (by rw [z]; exact hO))]; exact e) t
  refine ⟨?_, fm⟩
  exact {
    sl := fun j y ej => by
      rcases get_set ej with ⟨rfl, _, z⟩ | ⟨hj, ej⟩
      · cases z; exact ⟨_, hv, a, rfl, hO, hn, ho⟩
      · obtain ⟨w, h1, h2⟩ := r.sl j y ej
        refine ⟨w, h1, ?_⟩
        cases y with
        | fz dy => exact Rp.mono fm h2
        | ow dy =>
          obtain ⟨b, rfl, g1, g2, g3⟩ := h2
          have ne : b ≠ a := fun z => by subst z; exact r.ne i j d dy b (fun z => hj z.symm) hi ej hv h1
          exact ⟨b, rfl, g1, g2, g3.mono fm fun o _ q => by rw [upd_ne ne]; exact q⟩
        | bag => exact h2
        | scr ns =>
          obtain ⟨b, rfl, g2⟩ := h2
          refine ⟨b, rfl, ?_⟩
          rcases g2 with ⟨g1, o, g2⟩ | g2 | ⟨g1, g2⟩
          · exact .inl ⟨g1, o, by rw [upd_ne (fun z => by rw [z, hob] at g2; cases g2; cases hnf)]; exact g2⟩
          · exact .inr (.inl g2)
          · exact .inr (.inr ⟨g1, fm _ _ g2⟩)
        | fnc f F ws dsF =>
          obtain ⟨rfl, g⟩ := h2
          refine ⟨rfl, g.nf, g.nc, ?_, ?_, g.rp.mono fm⟩
          · rw [upd_ne (fun z => by have := g.ob; rw [z, hob] at this; cases this; cases hnf)]; exact g.ob
          · rw [upd_ne (fun z => by have := g.co; rw [z, hob] at this; cases this; cases hnf)]; exact g.co
    ne := fun j k d1 e1 b hjk h1 h2 h3 => by
      have f : ∀ {m : Nat} {dm : D}, (env.set i (some (.ow d')))[m]? = some (some (.ow dm)) → ∃ dm', env[m]? = some (some (.ow dm')) := fun {m dm} q => by
        rcases get_set q with ⟨rfl, _, z⟩ | ⟨hm, q⟩
        · exact ⟨d, hi⟩
        · exact ⟨dm, q⟩
      obtain ⟨_, g1⟩ := f h1
      obtain ⟨_, g2⟩ := f h2
      exact r.ne j k _ _ b hjk g1 g2 h3
    fr := fun j dj b h1 h2 => by
      rcases get_set h1 with ⟨rfl, _, z⟩ | ⟨hj, h1⟩
      · exact r.fr j d b hi h2
      · exact r.fr j dj b h1 h2
    len := by rw [List.length_set]; exact r.len
    sub := r.sub
    dom := fun b hb => by
      by_cases z : b = a
      · rw [z]; exact ho.plain
      · rw [upd_ne z]; exact r.dom b hb
    dom0 := r.dom0
    sb := r.sb.mut hob hnf (.inr a0)
    bag := r.bag.mono fun b o hb e => by rw [upd_ne (fun z => hn (by rw [hb, z]))]; exact e
    bO := r.bO
    tabs := fun p hp => tab_upd hob hnf (r.tabs p hp) }
/-- the bag changes -/
theorem Rel.setBag {K : PySem.W.Frag} {β : Option Addr} {Oo O : Addr → Prop} {H0 H : Hp} {σ : L2.St} {env : Env'} {st : BSt} {g s : Int} (r : Rel K β Oo H0 O σ H env st) {b : Addr} (hβ : β = some b) :
    Rel K β Oo H0 O σ (upd H b (.lst [.int g, .int s])) env (some (g, s)) ∧ Same (Fz O H) (Fz O (upd H b (.lst [.int g, .int s]))) := by
  obtain ⟨g0, s0, _, hb0⟩ := r.bag.get hβ
  have sb : SB β H (upd H b (.lst [.int g, .int s])) := SB.refl.mut hb0 rfl (.inl hβ)
  exact ⟨r.step sb ⟨b, hβ, upd_same⟩, r.fzm sb⟩
/-! ### x.append(e) -/
def appF (S : Sx) (x : Str) (f : EF) (env : Env') (st : BSt) : Option (Out × Env' × BSt) := match slotOf S x with
  | some i => (f env st).bind fun p => p.1.d?.bind fun d => (match env[i]? with
    | some (some (.ow (.list ds))) => if decide (ds.length < sizeLine) then some (.nx, env.set i (some (.ow (.list (ds ++ [d])))), p.2) else none
    | _ => none)
  | none => none
theorem few_ok {e : Expr} (h : noStar e = true) (env : Env) (cpos : Pos) : ((backTo cpos (starEach [e] env)).all (fun x => !x.1) && (backToKw cpos (keywordEach [] env)).all (fun x => x.1.isSome)
      && decide (([e] : List Expr).length + ([] : List Keyword).length + (if ([] : List Keyword).isEmpty then 0 else 1) < 30)) = true := by
  rw [noStar_ok h]; rfl
theorem ss_app (C : CxS F S X) {x : Str} {e : Expr} {f : EF} {p apos cpos pos : Pos} (hl : (apos.endLine == cpos.line) = true) (hn : noStar e = true) (he : SoundE X e f) : SoundS X (.Expr (.Call (.Attribute (.Name x p) "append" apos) [e] [] cpos) pos) (appF S x f) := by
  intro β Oo H0 O σ H env env' st st' o D rel h q
  unfold appF at h
  cases es : slotOf S x with
  | none => rw [es] at h; cases h
  | some i =>
    rw [es] at h
    obtain ⟨h1, h2, h3, h4⟩ := slotOf_ok C es
    obtain ⟨⟨r, s1⟩, e1, h⟩ := bind1 h
    obtain ⟨d, e2, h⟩ := bind1 h
    dsimp only at h
    split at h
    · rename_i ds e3
      obtain ⟨c, h⟩ := ite_some h
      cases h
      obtain ⟨v, hv, a, rfl, hO, hn', xs, ha, rxs⟩ := rel.sl i _ e3
      refine (ps_expr (pe_bm PySem.F.plainAttrs_list PySem.F.slot_list_append PySem.F.type_list_append mt_append (pe_var h1 h2 h3 h4) (pa_cons (we_pe X e) pa_nil (noStar_ok hn [] X.env)) rfl (few_ok hn X.env cpos) hl (noStar_ok hn [] X.env) rfl) rfl).ws
        ⟨_, hv, .inl ⟨rfl, _, SqL.of ha⟩, he rel e1 fun w H1 sb1 bg1 rw' => ?_⟩
      have rel1 := rel.step sb1 bg1
      have ha1 := sb1.go a _ hn' rfl ha
      have rx1 := rxs.mono (rel.fzm sb1)
      refine ⟨a, xs, w, rfl, rfl, ha1, by rw [rxs.length]; exact of_decide_eq_true c, ?_⟩
      obtain ⟨r2, sm⟩ := rel1.mut (d' := .list (ds ++ [d])) (o' := .lst (xs ++ [w])) e3 hv ha1 rfl ⟨_, upd_same, (rx1.append (.one (rw'.rp rel e2))).mono fun b o q => by
        obtain ⟨n, q, t⟩ := fz_some3 q
        exact fz_put n (by rw [upd_ne (fun z => n (by rw [z]; exact hO))]; exact q) t⟩
      exact q _ _ _ r2 ((rel.fzm sb1).trans sm)
    · cases h
/-! ### x[i] = e: a list's, a dict's, the bag's -/
def keyOf : D → Option Key
  | .int i => some (.inl i)
  | .str x => some (.inr x)
  | _ => none
theorem keyOf_ok {d : D} {k : Key} (h : keyOf d = some k) : d = kD k := by
  cases d <;> cases h <;> rfl
def putD (kds : List (D × D)) (k : Key) (v : D) : List (D × D) :=
  if (kds.any fun kv => decide (keyOf kv.1 = some k)) = true then kds.map (fun kv => if keyOf kv.1 = some k then (kv.1, v) else kv) else kds ++ [(kD k, v)]
def setN (S : Sx) (x : Str) (f : EF) (g : VF) (env : Env') (st : BSt) : Option (Out × Env' × BSt) := match slotOf S x with
  | some i => (f env st).bind fun p => p.1.d?.bind fun d => (g env p.2).bind fun q => (match env[i]? with
    | some (some (.ow (.list ds))) => (match q.1 with
      | .int k => (ixN ds.length k).map fun j => (.nx, env.set i (some (.ow (.list (ds.set j d)))), q.2)
      | _ => none)
    | some (some (.ow (.dict kds))) => (keyOf q.1).bind fun k => if decide (kds.length < sizeLine) && plainK kds then some (.nx, env.set i (some (.ow (.dict (putD kds k d)))), q.2) else none
    | some (some .bag) => (match q.2, q.1, d with
      | some b, .int 0, .int n => some (.nx, env, some (n, b.2))
      | some b, .int 1, .int n => some (.nx, env, some (b.1, n))
      | _, _, _ => none)
    | _ => none)
  | none => none
theorem keyOf_kD (k : Key) : keyOf (kD k) = some k := by cases k <;> rfl
theorem any_keys {k : Key} : ∀ {kds : List (D × D)} {kvs : List (Key × V)}, kds.map (·.1) = kvs.map (fun p => kD p.1) → (kds.any fun kv => decide (keyOf kv.1 = some k)) = (kvs.any fun kv => decide (kv.1 = k))
  | [], [], _ => rfl
  | [], _ :: _, h => by simp at h
  | _ :: _, [], h => by simp at h
  | d :: kds, v :: kvs, h => by
    simp only [List.map_cons, List.cons.injEq] at h
    simp only [List.any_cons]
    rw [any_keys h.2, h.1, keyOf_kD]
    congr 1
    simp
theorem map_keys {k : Key} {v : D} {w : V} : ∀ {kds : List (D × D)} {kvs : List (Key × V)}, kds.map (·.1) = kvs.map (fun p => kD p.1) →
    (kds.map (fun kv => if keyOf kv.1 = some k then (kv.1, v) else kv)).map (·.1) = (kvs.map (fun kv => if kv.1 = k then (kv.1, w) else kv)).map (fun p => kD p.1)
  | [], [], _ => rfl
  | [], _ :: _, h => by simp at h
  | _ :: _, [], h => by simp at h
  | d :: kds, u :: kvs, h => by
    simp only [List.map_cons, List.cons.injEq] at h
    simp only [List.map_cons]
    rw [map_keys (v := v) (w := w) h.2, h.1, keyOf_kD]
    congr 1
    by_cases e : u.1 = k
    · simp [e, h.1]
    · simp [e, h.1]
theorem map_vals {K : PySem.W.Frag} {hp : Hp} {k : Key} {v : D} {w : V} (hv : Rp K hp w v) : ∀ {kds : List (D × D)} {kvs : List (Key × V)}, kds.map (·.1) = kvs.map (fun p => kD p.1) → RpAll K hp (kvs.map (·.2)) (kds.map (·.2)) →
    RpAll K hp ((kvs.map (fun kv => if kv.1 = k then (kv.1, w) else kv)).map (·.2)) ((kds.map (fun kv => if keyOf kv.1 = some k then (kv.1, v) else kv)).map (·.2))
  | [], [], _, _ => .nil
  | [], _ :: _, h, _ => by simp at h
  | _ :: _, [], h, _ => by simp at h
  | d :: kds, u :: kvs, h, r => by
    simp only [List.map_cons, List.cons.injEq] at h
    simp only [List.map_cons] at r ⊢
    cases r with
    | cons r1 r2 =>
      refine .cons ?_ (map_vals hv h.2 r2)
      rw [h.1, keyOf_kD]
      by_cases e : u.1 = k
      · simp [e]; exact hv
      · simp [e]; exact r1
theorem putD_ok {K : PySem.W.Frag} {hp : Hp} {k : Key} {v : D} {w : V} {kds : List (D × D)} {kvs : List (Key × V)} (hv : Rp K hp w v) (h : kds.map (·.1) = kvs.map (fun p => kD p.1)) (r : RpAll K hp (kvs.map (·.2)) (kds.map (·.2))) :
    (putD kds k v).map (·.1) = (putK kvs k w).map (fun p => kD p.1) ∧ RpAll K hp ((putK kvs k w).map (·.2)) ((putD kds k v).map (·.2)) := by
  unfold putD putK
  rw [any_keys h]
  split
  · exact ⟨map_keys h, map_vals hv h r⟩
  · simp only [List.map_append, List.map_cons, List.map_nil]
    exact ⟨by rw [h], r.append (.one hv)⟩
theorem assignSub_ok (o i : Expr) (pos : Pos) (env : Env) (hi : plainIx i = true) : ∀ v, assign (.Subscript o i pos) env v = (do
      let ov ← holding [v] (eval o env)
      let iv ← holding [v, ov] (eval i env)
      standAt pos
      holding [v, ov, iv] (setItem ov iv v)
      release [v, ov, iv] []) := by
  intro v
  cases i <;> first | rfl | cases hi
theorem ss_setN (C : CxS F S X) {x : Str} {i e : Expr} {f : EF} {g : VF} {p ps pos : Pos} (hp : plainIx i = true) (hc : noComp e = true) (he : SoundE X e f) (hi : SoundV X i g) : SoundS X (.Assign [.Subscript (.Name x p) i ps] e pos) (setN S x f g) := by
  intro β Oo H0 O σ H env env' st st' o D rel h q
  unfold setN at h
  cases es : slotOf S x with
  | none => rw [es] at h; cases h
  | some n =>
    rw [es] at h
    obtain ⟨h1, h2, h3, h4⟩ := slotOf_ok C es
    obtain ⟨⟨r, s1⟩, e1, h⟩ := bind1 h
    obtain ⟨d, e2, h⟩ := bind1 h
    obtain ⟨⟨di, s2⟩, e3, h⟩ := bind1 h
    have hsw : swapsWith e (some (.Subscript (.Name x p) i ps)) pos.line X.env = pure false := noComp_ok hc _ _ _
    have hss : swappedStores [.Subscript (.Name x p) i ps] e X.env = pure none := by cases e <;> rfl
    dsimp only at h
    split at h
    · rename_i ds e4
      split at h
      · rename_i k
        obtain ⟨j, e5, h⟩ := map1 h
        cases h
        obtain ⟨v, hv, a, rfl, hO, hn, xs, ha, rxs⟩ := rel.sl n _ e4
        refine (ps_asg (we_pe X e) (pg_sub (pe_var h1 h2 h3 h4) (we_pe X i) set_list (assignSub_ok _ _ _ _ hp)) hsw hss rfl).ws (he rel e1 fun w H1 sb1 bg1 rw' => ⟨_, hv, ?_⟩)
        have rel1 := rel.step sb1 bg1
        refine hi rel1 e3 fun y H2 sb2 bg2 ty => ?_
        have rel2 := rel1.step sb2 bg2
        cases ty
        have ha2 := sb2.go a _ hn rfl (sb1.go a _ hn rfl ha)
        have rx2 := (rxs.mono (rel.fzm sb1)).mono (rel1.fzm sb2)
        have rd := (rw'.rp rel e2).mono (rel1.fzm sb2)
        refine ⟨a, xs, k, j, rfl, rfl, ha2, by rw [rxs.length]; exact e5, ?_⟩
        obtain ⟨r2, sm⟩ := rel2.mut (d' := .list (ds.set j d)) (o' := .lst (xs.set j w)) e4 hv ha2 rfl ⟨_, upd_same, (rx2.set j rd).mono fun b o q => by
          obtain ⟨n, q, t⟩ := fz_some3 q
          exact fz_put n (by rw [upd_ne (fun z => n (by rw [z]; exact hO))]; exact q) t⟩
        exact q _ _ _ r2 ((rel.fzm sb1).trans ((rel1.fzm sb2).trans sm))
      · cases h
    · rename_i kds e4
      obtain ⟨k, e5, h⟩ := bind1 h
      obtain ⟨c, h⟩ := ite_some h
      cases h
      rw [Bool.and_eq_true] at c
      obtain ⟨c, cp⟩ := c
      obtain ⟨v, hv, a, rfl, hO, hn, hdc⟩ := rel.sl n _ e4
      obtain ⟨kvs, ha, hks, rxs⟩ := DcAt.k hdc cp
      refine (ps_dput (by have := C.hu; omega) (pe_var h1 h2 h3 h4) (we_pe X i) (we_pe X e) hsw).ws (he rel e1 fun w H1 sb1 bg1 rw' => ⟨_, hv, ?_⟩)
      have rel1 := rel.step sb1 bg1
      refine hi rel1 e3 fun y H2 sb2 bg2 ty => ?_
      have rel2 := rel1.step sb2 bg2
      have ha2 := sb2.go a _ hn rfl (sb1.go a _ hn rfl ha)
      have rx2 := (rxs.mono (rel.fzm sb1)).mono (rel1.fzm sb2)
      have rd := (rw'.rp rel e2).mono (rel1.fzm sb2)
      have ey : y = kV k := by
        rw [keyOf_ok e5] at ty
        cases k with
        | inl i => cases ty; rfl
        | inr i => cases ty; rfl
      have lk : kvs.length = kds.length := by simpa using congrArg List.length hks.symm
      rw [ey]
      refine ⟨a, _, rfl, DPut.k ha2 (by rw [lk]; exact of_decide_eq_true c), ?_⟩
      obtain ⟨p1, p2⟩ := putD_ok (k := k) rd hks rx2
      obtain ⟨r2, sm⟩ := rel2.mut (d' := .dict (putD kds k d)) (o' := .dK (putK kvs k w)) e4 hv ha2 rfl (.inl ⟨_, upd_same, p1, p2.mono fun b o q => by
        obtain ⟨n, q, t⟩ := fz_some3 q
        exact fz_put n (by rw [upd_ne (fun z => n (by rw [z]; exact hO))]; exact q) t⟩)
      exact q _ _ _ r2 ((rel.fzm sb1).trans ((rel1.fzm sb2).trans sm))
    · rename_i e4
      obtain ⟨v, hv, b, hβ, rfl⟩ := rel.sl n _ e4
      have go : ∀ (m : Int) (kk : Int) (j : Nat) (bb : Int × Int) (g1 g2 : Int), d = .int m → di = .int kk → ixN 2 kk = some j → s2 = some bb → (∀ w : V, w = .int m → ([V.int bb.1, V.int bb.2].set j w) = [V.int g1, V.int g2]) → st' = some (g1, g2) → o = .nx → env' = env → Ws X (.Assign [.Subscript (.Name x p) i ps] e pos) D σ H := by
        rintro m kk j bb g1 g2 rfl rfl hj hbb hset rfl rfl rfl
        refine (ps_asg (we_pe X e) (pg_sub (pe_var h1 h2 h3 h4) (we_pe X i) set_list (assignSub_ok _ _ _ _ hp)) hsw hss rfl).ws (he rel e1 fun w H1 sb1 bg1 rw' => ⟨_, hv, ?_⟩)
        have rel1 := rel.step sb1 bg1
        refine hi rel1 e3 fun y H2 sb2 bg2 ty => ?_
        have rel2 := rel1.step sb2 bg2
        cases ty
        have rd := rw'.rp rel e2
        cases rd
        obtain ⟨u1, u2, eb, hb2⟩ := bg2.get hβ
        rw [hbb] at eb
        cases eb
        refine ⟨b, _, kk, j, rfl, rfl, hb2, hj, ?_⟩
        rw [hset _ rfl]
        obtain ⟨r3, sm⟩ := rel2.setBag (g := g1) (s := g2) hβ
        exact q _ _ _ r3 ((rel.fzm sb1).trans ((rel1.fzm sb2).trans sm))
      split at h
      · cases h
        exact go _ 0 0 _ _ _ rfl rfl rfl rfl (fun w hw => by rw [hw]; rfl) rfl rfl rfl
      · cases h
        exact go _ 1 1 _ _ _ rfl rfl rfl rfl (fun w hw => by rw [hw]; rfl) rfl rfl rfl
      · cases h
    · cases h
end
end Iv

set_option maxHeartbeats 4000000
namespace Iv
open PySem PySem.Spec PyProof.Rows L2
variable [Nm]
section
variable {F : FT} {S : Sx} {X : Cx}
/-! ### x[i], x[j] = e -/
def swF (S : Sx) (x : Str) (f : EF) (g1 g2 : VF) (env : Env') (st : BSt) : Option (Out × Env' × BSt) := match slotOf S x with
  | some n => (f env st).bind fun p => (match p.1.d? with
    | some (.tuple [d1, d2]) => (g1 env p.2).bind fun q1 => (match env[n]? with
      | some (some (.ow (.list ds))) => (match q1.1 with
        | .int k1 => (ixN ds.length k1).bind fun j1 => (g2 (env.set n (some (.ow (.list (ds.set j1 d1))))) q1.2).bind fun q2 => (match q2.1 with
          | .int k2 => (ixN ds.length k2).map fun j2 => (.nx, env.set n (some (.ow (.list ((ds.set j1 d1).set j2 d2)))), q2.2)
          | _ => none)
        | _ => none)
      | _ => none)
    | _ => none)
  | none => none
theorem swSub_ok (x y : Expr) (i j : Expr) (k : Nat) (p1 p2 pt : Pos) (v : Expr) (env : Env) : swappedStores [.Tuple [.Subscript x i p1, .Subscript y j p2] k pt] v env = pure none := by
  cases v with
  | Tuple vs kk pp =>
    unfold swappedStores
    simp only [List.length_cons, List.length_nil]
    split
    · rfl
    · split
      · rfl
      · refine if_pos ?_
        rfl
  | _ => rfl
theorem ss_sw (C : CxS F S X) {x : Str} {i j v : Expr} {f : EF} {g1 g2 : VF} {k : Nat} {p p' ps ps' pt pos : Pos} (hi' : plainIx i = true) (hj' : plainIx j = true) (he : SoundE X v f) (hi : SoundV X i g1) (hj : SoundV X j g2) :
    SoundS X (.Assign [.Tuple [.Subscript (.Name x p) i ps, .Subscript (.Name x p') j ps'] k pt] v pos) (swF S x f g1 g2) := by
  intro β Oo H0 O σ H env env' st st' o D rel h q
  unfold swF at h
  cases es : slotOf S x with
  | none => rw [es] at h; cases h
  | some n =>
    rw [es] at h
    obtain ⟨h1, h2, h3, h4⟩ := slotOf_ok C es
    obtain ⟨⟨r, s1⟩, e1, h⟩ := bind1 h
    dsimp only at h
    split at h
    · rename_i d1 d2 e2
      obtain ⟨⟨di, s2⟩, e3, h⟩ := bind1 h
      dsimp only at h
      split at h
      · rename_i ds e4
        split at h
        · rename_i k1
          obtain ⟨j1, e5, h⟩ := bind1 h
          obtain ⟨⟨dj, s3⟩, e6, h⟩ := bind1 h
          dsimp only at h
          split at h
          · rename_i k2
            obtain ⟨j2, e7, h⟩ := map1 h
            cases h
            obtain ⟨v0, hv, a, rfl, hO, hn, xs, ha, rxs⟩ := rel.sl n _ e4
            refine (ps_asg (we_pe X v) (pg_tup C.calm (pgs_cons (pg_sub (pe_var h1 h2 h3 h4) (we_pe X i) set_list (assignSub_ok _ _ _ _ hi')) (pgs_cons (pg_sub (pe_var h1 h2 h3 h4) (we_pe X j) set_list (assignSub_ok _ _ _ _ hj')) pgs_nil rfl) rfl) rfl rfl) (sole_ok v _ _ _ _ _) (swSub_ok _ _ _ _ _ _ _ _ v X.env) rfl).ws (he rel e1 fun w H1 sb1 bg1 rw' => ?_)
            have rel1 := rel.step sb1 bg1
            obtain ⟨t, ws, rfl, ht, hws⟩ := rp_tup (rw'.rp rel e2)
            cases hws with
            | @cons w1 ws1 _ _ hw1 hws =>
              cases hws with
              | @cons w2 ws2 _ _ hw2 hws =>
                cases hws
                refine ⟨t, _, rfl, fz_tup ht, rfl, w1, [w2], rfl, _, hv, hi rel1 e3 fun y H2 sb2 bg2 ty => ?_⟩
                have rel2 := rel1.step sb2 bg2
                cases ty
                have ha2 := sb2.go a _ hn rfl (sb1.go a _ hn rfl ha)
                have rx2 := (rxs.mono (rel.fzm sb1)).mono (rel1.fzm sb2)
                have rd1 := hw1.mono (rel1.fzm sb2)
                have rd2 := hw2.mono (rel1.fzm sb2)
                refine ⟨a, xs, k1, j1, rfl, rfl, ha2, by rw [rxs.length]; exact e5, ?_⟩
                obtain ⟨r3, sm3⟩ := rel2.mut (d' := .list (ds.set j1 d1)) (o' := .lst (xs.set j1 w1)) e4 hv ha2 rfl ⟨_, upd_same, (rx2.set j1 rd1).mono fun b o q => by
                  obtain ⟨n, q, t⟩ := fz_some3 q
                  exact fz_put n (by rw [upd_ne (fun z => n (by rw [z]; exact hO))]; exact q) t⟩
                refine ⟨w2, [], rfl, _, hv, hj r3 e6 fun y2 H4 sb4 bg4 ty2 => ?_⟩
                have r4 := r3.step sb4 bg4
                cases ty2
                have ha4 := sb4.go a _ hn rfl (upd_same (H := H2) (a := a) (o := .lst (xs.set j1 w1)))
                have rx4 := ((rx2.set j1 rd1).mono sm3).mono (r3.fzm sb4)
                have rd4 := (rd2.mono sm3).mono (r3.fzm sb4)
                refine ⟨a, _, k2, j2, rfl, rfl, ha4, by rw [List.length_set, rxs.length]; exact e7, ?_⟩
                have hl : n < env.length := (List.getElem?_eq_some_iff.mp e4).1
                obtain ⟨r5, sm5⟩ := r4.mut (i := n) (d := .list (ds.set j1 d1)) (d' := .list ((ds.set j1 d1).set j2 d2)) (o' := .lst ((xs.set j1 w1).set j2 w2)) (List.getElem?_set_self hl) hv ha4 rfl ⟨_, upd_same, (rx4.set j2 rd4).mono fun b o q => by
                  obtain ⟨n, q, t⟩ := fz_some3 q
                  exact fz_put n (by rw [upd_ne (fun z => n (by rw [z]; exact hO))]; exact q) t⟩
                rw [List.set_set] at r5
                exact ⟨rfl, q _ _ _ r5 ((rel.fzm sb1).trans ((rel1.fzm sb2).trans (sm3.trans ((r3.fzm sb4).trans sm5))))⟩
          · cases h
        · cases h
      · cases h
    · cases h
/-! ### {}, {k: v} -/
def dict0 (_ : Env') (st : BSt) : Option (R × BSt) := some (.ow (.dict []), st)
theorem s_dict0 {pos : Pos} : SoundE X (.Dict [] [] pos) dict0 := by
  intro β Oo H0 O σ H env st r st' Q rel h q
  cases h
  refine pe_dnewK.we fun p hp => q _ _ (SB.laid hp) (same_bag (same_laid hp) rel.bag) ⟨p, rfl, hp, rel.neB hp, .inl ⟨[], upd_same, rfl, .nil⟩⟩
def dict1 (k v : VF) (env : Env') (st : BSt) : Option (R × BSt) := (k env st).bind fun p => (keyOf p.1).bind fun kk => (v env p.2).bind fun q => if flatD q.1 then some (.ow (.dict [(kD kk, q.1)]), q.2) else none
theorem s_dict1 {k v : Expr} {f g : VF} {pos : Pos} (hk : SoundV X k f) (hv : SoundV X v g) : SoundE X (.Dict [some k] [v] pos) (dict1 f g) := by
  intro β Oo H0 O σ H env st r st' Q rel h q
  obtain ⟨⟨dk, s1⟩, e1, h⟩ := bind1 h
  obtain ⟨kk, e2, h⟩ := bind1 h
  obtain ⟨⟨dv, s2⟩, e3, h⟩ := bind1 h
  obtain ⟨c, h⟩ := ite_some h
  cases h
  refine (pe_disp (pps_cons (we_pe X k) (we_pe X v) pps_nil) rfl rfl (fun z => by cases z) (by show 1 ≤ 15; decide)).we fun p hp => ?_
  have sb0 : SB β H (upd H p (.dK [])) := SB.laid hp
  have rel0 := rel.step sb0 (same_bag (same_laid hp) rel.bag)
  refine hk rel0 e1 fun x H1 sb1 bg1 tx => ?_
  have rel1 := rel0.step sb1 bg1
  refine hv rel1 e3 fun y H2 sb2 bg2 ty => ?_
  have rel2 := rel1.step sb2 bg2
  have np := rel.neB hp
  have ep : H2 p = some (.dK []) := sb2.go p _ np rfl (sb1.go p _ np rfl upd_same)
  have ex : x = kV kk := by
    have e2' : dk = kD kk := keyOf_ok e2
    rw [e2'] at tx
    cases kk with
    | inl i => cases tx; rfl
    | inr i => cases tx; rfl
  have ry : ∀ hp', Rp X.K hp' y dv := by
    intro hp'
    have c : flatD dv = true := c
    cases dv with
    | none => cases ty; exact .non
    | bool b => cases ty; exact .bl b
    | int i => cases ty; exact .int i
    | str z => cases ty; exact .str z
    | list _ => cases c
    | tuple _ => cases c
    | dict _ => cases c
  refine ⟨ep, [(kk, y)], by rw [ex]; rfl, by show 1 ≤ 15; decide, ?_⟩
  have nO : ¬ O p := rel.notO hp
  refine q _ _ ?_ ?_ ⟨p, rfl, hp, np, .inl ⟨[(kk, y)], ?_, rfl, .one (ry _)⟩⟩
  · exact ((sb0.trans sb1).trans sb2).mut ep rfl (.inr hp)
  · exact bg2.mono fun b o hb e => by rw [upd_ne (fun z => np (by rw [hb, z]))]; exact e
  · rw [upd_same]; rfl
/-! ### the bag is made -/
def frzAll (env : Env') : Env' := frzs (List.range env.length) env
def noOwS : Option R → Bool
  | some (.ow _) => false
  | _ => true
def noOw (env : Env') : Bool := env.all noOwS
def unbag : Option R → Option R
  | some .bag => none
  | x => x
theorem noOw_ok {env : Env'} (h : noOw env = true) {i : Nat} {d : D} (e : env[i]? = some (some (.ow d))) : False := by
  have := List.all_eq_true.mp h _ (List.mem_of_getElem? e)
  cases this
def noBagS : Option R → Bool
  | some .bag => false
  | _ => true
def bagF (i : Nat) (f : EF) (g : SF) (env : Env') (st : BSt) : Option (Out × Env' × BSt) := match st with
  | none => if noOw (frzAll env) && (frzAll env).all noBagS then (f (frzAll env) none).bind fun p => (match p with
    | (.ow (.list [.int a, .int b]), none) => (g ((frzAll env).set i (some .bag)) (some (a, b))).bind fun q => (match q.1 with
      | .rt (.fz d) => some (.rt (.fz d), env, none)
      | .rt _ => none
      | o => if noOw (frzAll q.2.1) then some (o, (frzAll q.2.1).map unbag, none) else none)
    | _ => none) else none
  | some _ => none
theorem ss_bag (C : CxS F S X) {x : Str} {i : Nat} {e : Expr} {rest : List Stmt} {f : EF} {g : SF} {p pos : Pos} (hx : tgtSlot S x = some i) (hc : noComp e = true) (he : SoundE X e f) (hg : SoundSs X rest g) : SoundSs X (.Assign [.Name x p] e pos :: rest) (bagF i f g) := by
  intro β Oo H0 O σ H env env' st st' o D rel h q
  unfold bagF at h
  cases st with
  | some _ => cases h
  | none =>
  have hβ : β = none := rel.bag
  cases hcc : noOw (frzAll env) && (frzAll env).all noBagS with
  | false => rw [hcc] at h; cases h
  | true =>
  rw [hcc] at h
  rw [Bool.and_eq_true] at hcc
  obtain ⟨c1, c2⟩ := hcc
  simp only [if_true] at h
  obtain ⟨O1, rel1, sm1⟩ := rel.frzs (List.range env.length)
  change Rel X.K β Oo H0 O1 σ H (frzAll env) none at rel1
  obtain ⟨⟨r, s1⟩, e1, h⟩ := bind1 h
  split at h
  · rename_i a b es
    cases es
    obtain ⟨⟨o2, env2, st2⟩, e2, h⟩ := bind1 h
    obtain ⟨h1, h2, h3, h4⟩ := tgtSlot_ok C hx
    refine (pss_cons (ps_set h1 h2 h3 (we_pe X e) (noComp_ok hc _ _ _) h4) (wss_pss X rest)).wss (he rel1 e1 fun v H1 sb1 bg1 rv => ?_)
    obtain ⟨pb, rfl, g1, g2, xs, g3, g4⟩ := rv
    have exs : xs = [.int a, .int b] := by
      cases g4 with
      | cons z1 z2 => cases z1; cases z2 with
        | cons z3 z4 => cases z3; cases z4; rfl
    subst exs
    have nO : ¬ O1 pb := rel1.notO g1
    have fm1 : Same (Fz O1 H) (Fz (orO O1 pb) H1) := rel1.putOw_same sb1 g1
    have relI : Rel X.K (some pb) (orO O1 pb) H1 (orO O1 pb) (σ.set i (some (.ref pb))) H1 ((frzAll env).set i (some .bag)) (some (a, b)) := {
      sl := fun j y ej => by
        rcases get_set ej with ⟨rfl, hl, z⟩ | ⟨hj, ej⟩
        · cases z; exact ⟨_, List.getElem?_set_self (by rw [← rel1.len]; exact hl), pb, rfl, rfl⟩
        · rw [set_ne hj]
          obtain ⟨w, w1, w2⟩ := rel1.sl j y ej
          refine ⟨w, w1, ?_⟩
          cases y with
          | fz d => exact Rp.mono fm1 w2
          | ow d => exact (noOw_ok c1 ej).elim
          | bag => have := List.all_eq_true.mp c2 _ (List.mem_of_getElem? ej); cases this
          | scr ns =>
            obtain ⟨aa, rfl, w4⟩ := w2
            rcases w4 with ⟨w3, oo, w4⟩ | w4 | ⟨w3, w4⟩
            · exact ⟨aa, rfl, .inl ⟨(fun z => by have z := Option.some.inj z; rw [← z, g1] at w4; cases w4), oo, sb1.go aa _ w3 rfl w4⟩⟩
            · exact ⟨aa, rfl, .inr (.inl w4)⟩
            · exact ⟨aa, rfl, .inr (.inr ⟨(fun z => by have z := Option.some.inj z; have w5 := (fz_some w4).2; rw [← z, g1] at w5; cases w5), fm1 _ _ w4⟩)⟩
          | fnc f F ws dsF =>
            obtain ⟨rfl, g⟩ := w2
            refine ⟨rfl, (fun z => ?_), (fun z => ?_), sb1.go _ _ g.nf rfl g.ob, sb1.go _ _ g.nc rfl g.co, g.rp.mono fm1⟩
            · have z := Option.some.inj z; have := g.ob; rw [← z, g1] at this; cases this
            · have z := Option.some.inj z; have := g.co; rw [← z, g1] at this; cases this
      ne := fun j k d e' aa hjk k1 k2 k3 => by
        rcases get_set k1 with ⟨_, _, z⟩ | ⟨_, k1⟩
        · cases z
        · exact (noOw_ok c1 k1).elim
      fr := fun j d aa k1 k2 => by
        rcases get_set k1 with ⟨_, _, z⟩ | ⟨_, k1⟩
        · cases z
        · exact (noOw_ok c1 k1).elim
      len := by rw [List.length_set, List.length_set]; exact rel1.len
      sub := fun _ z => z
      dom := fun aa ha => by
        rcases ha with ha | rfl
        · exact (rel1.step sb1 bg1).dom aa ha
        · exact ⟨_, g3, rfl⟩
      dom0 := fun aa ha => by
        rcases ha with ha | rfl
        · exact (rel1.step sb1 bg1).dom' aa ha
        · rw [g3]; simp
      sb := SB.refl
      bag := ⟨pb, rfl, g3⟩
      bO := fun b' z => .inr (Option.some.inj z).symm
      tabs := sb1.tb rel1.tabs }
    have over : ∀ {H2 : Hp}, SB (some pb) H1 H2 → SB β H H2 := fun {H2} s => by
      refine ⟨fun aa oo nb t ea => ?_, fun aa nb ea => ?_, fun t => s.tb (sb1.tb t)⟩
      · have ap : aa ≠ pb := ne_of_none ea g1
        exact s.go aa oo (fun z => ap (Option.some.inj z).symm) t (sb1.go aa oo nb t ea)
      · by_cases ap : aa = pb
        · rw [ap]; exact g1
        · exact sb1.dm aa nb (s.dm aa (fun z => ap (Option.some.inj z).symm) ea)
    have sub2 : ∀ {O2 : Addr → Prop} {σ2 : L2.St} {H2 : Hp} {env2 : Env'} {st2 : BSt}, Rel X.K (some pb) (orO O1 pb) H1 O2 σ2 H2 env2 st2 → Same (Fz (orO O1 pb) H1) (Fz O2 H2) → noOw (frzAll env2) = true →
        ∃ O4, Rel X.K β Oo H0 O4 σ2 H2 ((frzAll env2).map unbag) none ∧ Same (Fz O H) (Fz O4 H2) := fun {O2 σ2 H2 env2 st2} r2 sm2 n2 => by
      obtain ⟨O3, r3, sm3⟩ := r2.frzs (List.range env2.length)
      change Rel X.K (some pb) (orO O1 pb) H1 O3 σ2 H2 (frzAll env2) st2 at r3
      have un : ∀ {j : Nat} {y : R}, ((frzAll env2).map unbag)[j]? = some (some y) → (frzAll env2)[j]? = some (some y) ∧ y ≠ .bag := fun {j y} ej => by
        rw [List.getElem?_map] at ej
        obtain ⟨z, e1, e2⟩ := map1 ej
        cases z with
        | none => cases e2
        | some z => cases z <;> cases e2 <;> exact ⟨e1, fun z => by cases z⟩
      have fm2 : Same (Fz O3 H2) (Fz (orO O1 pb) H2) := fz_mono r3.sub fun _ _ _ _ z => z
      refine ⟨orO O1 pb, {
        sl := fun j y ej => by
          obtain ⟨ej, nb⟩ := un ej
          obtain ⟨w, w1, w2⟩ := r3.sl j y ej
          refine ⟨w, w1, ?_⟩
          cases y with
          | fz d => exact Rp.mono fm2 w2
          | ow d => exact (noOw_ok n2 ej).elim
          | bag => exact absurd rfl nb
          | scr ns =>
            obtain ⟨aa, rfl, w4⟩ := w2
            rcases w4 with ⟨w3, oo, w4⟩ | w4 | ⟨w3, w4⟩
            · exact ⟨aa, rfl, .inl ⟨by rw [hβ]; simp, oo, w4⟩⟩
            · exact ⟨aa, rfl, .inr (.inl w4)⟩
            · exact ⟨aa, rfl, .inr (.inr ⟨by rw [hβ]; simp, fm2 _ _ w4⟩)⟩
          | fnc f F ws dsF =>
            obtain ⟨rfl, g⟩ := w2
            exact ⟨rfl, (by rw [hβ]; simp), (by rw [hβ]; simp), g.ob, g.co, g.rp.mono fm2⟩
        ne := fun j k d e' aa hjk k1 k2 k3 => (noOw_ok n2 (un k1).1).elim
        fr := fun j d aa k1 k2 => (noOw_ok n2 (un k1).1).elim
        len := by rw [List.length_map]; exact r3.len
        sub := fun aa ha => .inl (rel1.sub aa ha)
        dom := fun aa ha => r3.dom aa (r3.sub aa ha)
        dom0 := rel1.dom0
        sb := rel1.sb.trans (over r3.sb)
        bag := hβ
        bO := rel1.bO
        tabs := r3.tabs }, ?_⟩
      exact sm1.trans (fm1.trans (sm2.trans (fz_mono r2.sub fun _ _ _ _ z => z)))
    have ne2 : ∀ {o3 : Out}, (if noOw (frzAll env2) = true then some (o3, (frzAll env2).map unbag, (none : BSt)) else none) = some (o, env', st') → noOw (frzAll env2) = true ∧ o3 = o ∧ (frzAll env2).map unbag = env' ∧ none = st' := fun {o3} hh => by
      cases hn : noOw (frzAll env2) with
      | false => rw [hn] at hh; cases hh
      | true => rw [hn] at hh; cases hh; exact ⟨rfl, rfl, rfl, rfl⟩
    refine hg relI e2 ?_
    cases o2 with
    | nx =>
      obtain ⟨n2, rfl, rfl, rfl⟩ := ne2 h
      exact fun σ2 H2 O2 r2 sm2 => let ⟨O4, r4, sm4⟩ := sub2 r2 sm2 n2; q _ _ _ r4 sm4
    | bk =>
      obtain ⟨n2, rfl, rfl, rfl⟩ := ne2 h
      exact fun σ2 H2 O2 r2 sm2 => let ⟨O4, r4, sm4⟩ := sub2 r2 sm2 n2; q _ _ _ r4 sm4
    | ct =>
      obtain ⟨n2, rfl, rfl, rfl⟩ := ne2 h
      exact fun σ2 H2 O2 r2 sm2 => let ⟨O4, r4, sm4⟩ := sub2 r2 sm2 n2; q _ _ _ r4 sm4
    | rt r =>
      cases r with
      | fz d =>
        cases h
        intro v H2 sb2 _ rv
        exact q v H2 (rel1.sb.trans (over sb2)) hβ (Rp.mono (fz_mono (fun aa ha => .inl (rel1.sub aa ha)) fun _ _ _ _ z => z) rv)
      | ow d => cases h
      | bag => cases h
      | scr ns => cases h
      | fnc _ _ _ _ => cases h
  · cases h
end
end Iv

set_option maxHeartbeats 4000000
namespace Iv
open PySem PySem.Spec PyProof.Rows L2
variable [Nm]
/-! ### a def that was handed in is called -/
open Classical in
noncomputable def cloF (F : FT) (as : List R) (i : Nat) (af : AF) (env : Env') (st : BSt) : Option (R × BSt) := match env[i]? with
  | some (some (.fnc f F' ws ds)) => if R.fnc f F' ws ds ∈ as then (af env st).bind fun p => F F'.qual (p.1 ++ ds.map .fz) p.2 else none
  | _ => none
section
variable {F : FT} {S : Sx} {X : Cx}
theorem s_clo (C : CxS F S X) {x : Str} {i : Nat} {e : Expr} {es : List Expr} {f : AF} {p pos : Pos} (hx : slotOf S x = some i) (hn : noStar e = true) (hns : es.all noStar = true) (h : SoundA X (e :: es) f) :
    SoundE X (.Call (.Name x p) (e :: es) [] pos) (cloF F S.args i f) := by
  intro β Oo H0 O σ H env st r st' Q rel hf q
  unfold cloF at hf
  split at hf
  · rename_i fa F' ws ds e0
    split at hf
    · rename_i hm
      obtain ⟨⟨rs, s1⟩, e1, hf⟩ := bind1 hf
      obtain ⟨v, hv, rfl, hat⟩ := rel.sl i _ e0
      obtain ⟨h1, h2, h3, h4⟩ := slotOf_ok C hx
      obtain ⟨k, nd, hr, no, hlen, hc, hnf⟩ := C.clo _ _ _ _ hm
      intro pins s I
      refine wpAny_Call_Name_kw (thn ((pe_var (pos := p) h1 h2 h3 h4).run pins s σ H (fun v H1 => v = .ref fa ∧ H1 = H) I ⟨.ref fa, hv, rfl, rfl⟩) fun u s1' ⟨v, H1, I1, r1, q1⟩ => ?_)
      obtain ⟨ev, eH⟩ := q1
      subst ev
      rw [eH] at I1
      obtain rfl : u = Value.ref fa := r1
      have key : Wa X (e :: es) σ H fun vs H1 => H1 fa = some (NdefX.FnO fa F') ∧ H1 F'.c = some (LamX.CodeO F'.c F'.qual) ∧ spN X.K nd.ps.length (F F'.qual) (ws.map some) vs H1 Q E0 := by
        refine h rel e1 fun vs H1 sb1 bg1 av _ => ?_
        have rel1 := rel.step sb1 bg1
        refine ⟨sb1.go _ _ hat.nf rfl hat.ob, sb1.go _ _ hat.nc rfl hat.co, ?_, β, O, rs, ws, ds, _, r, st', rfl, av, hat.rp.mono (rel.fzm sb1), rel1.bO', rel1.dom, bg1, rel1.tabs, hf, fun v H2 sb2 bg2 rv => ?_⟩
        · have hl : rs.length + ds.length = nd.ps.length + nd.fr.length := by
            have := hlen _ _ _ hf
            rw [List.length_append, List.length_map] at this
            exact this
          have hw : ds.length = nd.fr.length := by
            have := hc.len
            rw [List.length_map] at this
            rw [← hat.rp.length]; exact this
          rw [paired_length av]; omega
        · exact q _ _ (sb1.trans sb2) bg2 (rv.back sb1)
      refine PySem.W.callWith_F (first := []) (NdefX.fnAt_of I1 hat.ob) (thn (key pos pins s1' I1) fun us s2 ⟨vs, H2, I2, r', g1, g2, g3⟩ => ⟨NdefX.fnAt_of I2 g1, ?_⟩) (noStar_ok hn es X.env) (noStars_any hns)
      show wpAny _ _ (call (.ref fa) us) _ _ _
      refine wpAny_call (codeAny_mono (no.run X.A X.stack s2 H2 us vs _ Q E0 hr I2.env0 g1 g2 (hc.later (fun y c e => (hnf y c e).1) (fun y c e => (hnf y c e).2) I2) r' g3) fun r s' hq => ?_)
      cases r with
      | error e => exact (pass0 : Passes CX0 X E0) pins σ H2 s2 e s' I2 hq
      | ok fl =>
        cases fl with
        | ret u => exact I2.after hq
        | next => exact False.elim hq
        | brk => exact False.elim hq
        | cont => exact False.elim hq
    · cases hf
  · cases hf
/-! ### a def that was made here is handed on, as the last argument -/
def capD (env : Env') : List Nat → Option (List D)
  | [] => some []
  | j :: js => match env[j]? with
    | some (some (.fz d)) => (capD env js).map (d :: ·)
    | _ => none
theorem capD_ok {K : PySem.W.Frag} {β : Option Addr} {Oo O : Addr → Prop} {H0 H : Hp} {σ : L2.St} {env : Env'} {st : BSt} (r : Rel K β Oo H0 O σ H env st) : ∀ {js : List Nat} {ds : List D}, capD env js = some ds → ∃ ws, RpAll K (Fz O H) ws ds ∧ js.map (NdefX.slotAt σ) = ws.map some
  | [], ds, h => by cases h; exact ⟨[], .nil, rfl⟩
  | j :: js, ds, h => by
    unfold capD at h
    split at h
    · rename_i d e
      obtain ⟨ds', e2, rfl⟩ := map1 h
      obtain ⟨ws, h1, h2⟩ := capD_ok r e2
      obtain ⟨v, hv, hr⟩ := r.sl j _ e
      exact ⟨v :: ws, .cons hr h1, by rw [List.map_cons, List.map_cons, h2, NdefX.slotAt_of hv]⟩
    · cases h
open Classical in
noncomputable def callC (F : FT) (g q : Str) (rs : List R) (ds : List D) (st : BSt) : Option (R × BSt) :=
  if h : ∃ o, ∀ (f : Addr) (F' : NdefX.NF) (ws : List V), F'.qual = q → ws.length = ds.length → F g (rs ++ [.fnc f F' ws ds]) st = some o then some (Classical.choose h) else none
theorem callC_ok {g q : Str} {rs : List R} {ds : List D} {st : BSt} {o : R × BSt} (h : callC F g q rs ds st = some o) (f : Addr) (F' : NdefX.NF) (ws : List V) (hq : F'.qual = q) (hl : ws.length = ds.length) : F g (rs ++ [.fnc f F' ws ds]) st = some o := by
  unfold callC at h
  split at h
  · rename_i z
    cases h
    exact Classical.choose_spec z f F' ws hq hl
  · cases h
theorem callC_eq {g q : Str} {rs : List R} {ds : List D} {st : BSt} {o : R × BSt} (h : ∀ (f : Addr) (F' : NdefX.NF) (ws : List V), F'.qual = q → ws.length = ds.length → F g (rs ++ [.fnc f F' ws ds]) st = some o) : callC F g q rs ds st = some o := by
  unfold callC
  have ex : ∃ o, ∀ (f : Addr) (F' : NdefX.NF) (ws : List V), F'.qual = q → ws.length = ds.length → F g (rs ++ [.fnc f F' ws ds]) st = some o := ⟨o, h⟩
  rw [dif_pos ex]
  have a := Classical.choose_spec ex 0 (NdefX.NF.of (.Pass ⟨0, 0, 0, 0⟩) q q [] 0) (List.replicate ds.length V.non) rfl (by simp)
  have b := h 0 (NdefX.NF.of (.Pass ⟨0, 0, 0, 0⟩) q q [] 0) (List.replicate ds.length V.non) rfl (by simp)
  rw [b] at a
  exact a.symm
open Classical in
noncomputable def clF (F : FT) (mk : List R) (js : List Nat) (g : Str) (i : Nat) (af : AF) (env : Env') (st : BSt) : Option (R × BSt) := match env[i]? with
  | some (some (.fnc f F' [] [])) => if R.fnc f F' [] [] ∈ mk then (af env st).bind fun p => (capD env js).bind fun ds => callC F g F'.qual p.1 ds p.2 else none
  | _ => none
/-- arguments, and a name behind them -/
inductive Prs (X : Cx) : List Expr → List EF → Prop
  | nil : Prs X [] []
  | cons {e : Expr} {f : EF} {es : List Expr} {fs : List EF} : noStar e = true → SoundE X e f → Prs X es fs → Prs X (e :: es) (f :: fs)
theorem wa_snoc {y : Str} {i : Nat} {py : Pos} (h1 : X.N[i]? = some y) (h2 : Vis X.env.scope y) (h3 : (y == ("__debug__" : Str)) = false) (h4 : (y == ("__classdict__" : Str)) = false) :
    ∀ {es : List Expr} {fs : List EF}, Prs X es fs → ∀ {β : Option Addr} {Oo : Addr → Prop} {H0 : Hp} {O : Addr → Prop} {σ : L2.St} {H : Hp} {env : Env'} {st st' : BSt} {rs : List R} {v : V} {Q : List V → Hp → Prop},
      Rel X.K β Oo H0 O σ H env st → argsF fs env st = some (rs, st') → σ[i]? = some (some v) → (∀ vs H', SB β H H' → BagAt β H' st' → ArgsAt X.K β O H' vs rs → NoF rs → Q (vs ++ [v]) H') → Wa X (es ++ [.Name y py]) σ H Q
  | _, _, .nil, β, Oo, H0, O, σ, H, env, st, st', rs, v, Q, rel, h, hv, q => by
    cases h
    exact (pa_cons (pe_var h1 h2 h3 h4) pa_nil (noStar_ok (e := .Name y py) rfl [] X.env)).wa ⟨v, hv, q [] H SB.refl rel.bag .nil (fun _ _ _ _ h => by cases h)⟩
  | _, _, .cons hn he hs, β, Oo, H0, O, σ, H, env, st, st', rs, v, Q, rel, h, hv, q => by
    rename_i e f es fs
    obtain ⟨⟨r, s1⟩, e1, h⟩ := bind1 h
    obtain ⟨⟨rs', s2⟩, e2, h⟩ := map1 h
    cases h
    refine (pa_cons (we_pe X e) (wa_pa X (es ++ [.Name y py])) (noStar_ok hn (es ++ [.Name y py]) X.env)).wa (he rel e1 fun w H1 sb1 bg1 rv => ?_)
    have rel1 := rel.step sb1 bg1
    refine wa_snoc h1 h2 h3 h4 hs rel1 e2 hv fun vs H2 sb2 bg2 rvs nf => ?_
    exact q _ _ (sb1.trans sb2) bg2 (.cons ((argAt_of rel rv).mono (rel1.fzm sb2) sb2) rvs) (noF_cons rv nf)
theorem prs_stars {es : List Expr} {fs : List EF} (h : Prs X es fs) : es.all noStar = true := by
  induction h with
  | nil => rfl
  | cons a _ _ ih => rw [List.all_cons, a, ih]; rfl
theorem s_cl (C : CxS F S X) {g y : Str} {i : Nat} {e : Expr} {es : List Expr} {f : EF} {fs : List EF} {p py pos : Pos} (hx : isFn S g = true) (hy : slotOf S y = some i) (h : Prs X (e :: es) (f :: fs)) :
    SoundE X (.Call (.Name g p) (e :: (es ++ [.Name y py])) [] pos) (clF F S.made S.cap g i (argsF (f :: fs))) := by
  intro β Oo H0 O σ H env st r st' Q rel hf q
  unfold clF at hf
  split at hf
  · rename_i fa F' e0
    split at hf
    · rename_i hm
      obtain ⟨⟨rs, s1⟩, e1, hf⟩ := bind1 hf
      obtain ⟨ds, e2, hf⟩ := bind1 hf
      obtain ⟨v, hv, rfl, hat⟩ := rel.sl i _ e0
      obtain ⟨h1, h2, h3, h4⟩ := slotOf_ok C hy
      obtain ⟨gg, ⟨k, ga, gd, ps, g1, g2, g3, g4, g5, g6⟩, hd⟩ := isFn_ok C hx
      obtain ⟨nd, c, hnd, hF, hcap⟩ := C.mad _ _ hm
      obtain ⟨ws, rw1, hws⟩ := capD_ok rel e2
      have hcall := callC_ok hf fa F' ws rfl rw1.length
      have hst : (es ++ [Expr.Name y py]).all noStar = true := by
        have := prs_stars h
        rw [List.all_cons, Bool.and_eq_true] at this
        rw [List.all_append, this.2]; rfl
      have hne : noStar e = true := by
        have := prs_stars h
        rw [List.all_cons, Bool.and_eq_true] at this
        exact this.1
      refine we_call g5 g4 gg g1 g2 g3 hd hne hst (wa_snoc h1 h2 h3 h4 h rel e1 hv fun vs H1 sb1 bg1 av nf pins s I => ?_)
      have rel1 := rel.step sb1 bg1
      refine ⟨?_, β, O, vs, rs, some (fa, F', ws, ds), s1, r, st', rfl, av, nf, ⟨⟨hat.nf, hat.nc, sb1.go _ _ hat.nf rfl hat.ob, sb1.go _ _ hat.nc rfl hat.co, rw1.mono (rel.fzm sb1)⟩, nd, F'.cl, c, hnd, hF, ?_, (hcap I.ok).1⟩, rel1.bO', rel1.dom, bg1, rel1.tabs, hcall, fun v H2 sb2 bg2 rv => q _ _ (sb1.trans sb2) bg2 (rv.back sb1)⟩
      · have hl := g6 _ _ _ hcall
        rw [List.length_append] at hl ⊢
        rw [paired_length av]; exact hl
      · have := NdefX.cells_of I (hcap I.ok).2
        rw [hws] at this
        exact this
    · cases hf
  · cases hf
end
end Iv

set_option maxHeartbeats 4000000
namespace Iv
open PySem PySem.Spec PyProof.Rows L2
variable [Nm]
/-! ### targets within targets -/
def setG : List GF → List D → Env' → Option Env'
  | [], [], env => some env
  | g :: gs, d :: ds, env => (g d env).bind fun env1 => setG gs ds env1
  | _, _, _ => none
def unG (gs : List GF) : GF := fun d env => match d with
  | .tuple ds => setG gs ds env
  | _ => none
def plainTg : Expr → Bool
  | .Name .. => true
  | .Tuple .. => true
  | _ => false
section
variable {F : FT} {S : Sx} {X : Cx}
inductive Tgs (X : Cx) : List Expr → List Nat → List GF → Prop
  | nil : Tgs X [] [] []
  | cons {e : Expr} {sl : List Nat} {g : GF} {es : List Expr} {sls : List Nat} {gs : List GF} : plainTg e = true → SoundG X e sl g → Tgs X es sls gs → Tgs X (e :: es) (sl ++ sls) (g :: gs)
theorem each_cons {e : Expr} {es : List Expr} {env : Env} (h : plainTg e = true) : assignEach (e :: es) env = (false, assign e env) :: assignEach es env := by
  cases e <;> first | rfl | cases h
theorem tgs_each {es : List Expr} {sl : List Nat} {gs : List GF} {env : Env} (h : Tgs X es sl gs) : (assignEach es env).length = es.length ∧ (assignEach es env).findIdx? (·.1) = none := by
  induction h with
  | nil => exact ⟨rfl, rfl⟩
  | cons hp _ _ ih =>
    rw [each_cons hp]
    refine ⟨by simp [ih.1], ?_⟩
    rw [List.findIdx?_cons]
    simp [ih.2]
theorem tgs_len {es : List Expr} {sl : List Nat} {gs : List GF} (h : Tgs X es sl gs) : gs.length = es.length := by
  induction h with
  | nil => rfl
  | cons _ _ _ ih => simp [ih]
theorem setG_len : ∀ {gs : List GF} {ds : List D} {env env' : Env'}, setG gs ds env = some env' → ds.length = gs.length
  | [], [], _, _, _ => rfl
  | _ :: gs, _ :: ds, _, _, h => by
    obtain ⟨e1, _, h⟩ := bind1 h
    simp [setG_len (gs := gs) h]
  | [], _ :: _, _, _, h => by cases h
  | _ :: _, [], _, _, h => by cases h
theorem g_tgs : ∀ {es : List Expr} {sl : List Nat} {gs : List GF}, Tgs X es sl gs → ∀ {β : Option Addr} {Oo : Addr → Prop} {H0 : Hp} {O : Addr → Prop} {σ : L2.St} {H : Hp} {env env' : Env'} {st : BSt} {vs : List V} {ds : List D} {Q : L2.St → Hp → Prop},
    Rel X.K β Oo H0 O σ H env st → RpAll X.K (Fz O H) vs ds → setG gs ds env = some env' → (∀ σ', Rel X.K β Oo H0 O σ' H env' st → σ'.length = σ.length → (∀ j, j ∉ sl → σ'[j]? = σ[j]?) → Q σ' H) → Wgs X es vs σ H Q
  | _, _, _, .nil, β, Oo, H0, O, σ, H, env, env', st, vs, ds, Q, rel, rv, hs, q => by
    cases ds with
    | nil =>
      cases hs; cases rv
      intro pins s us I r
      exact pgs_nil.run pins s σ H [] us Q I r ⟨rfl, q σ rel rfl fun _ _ => rfl⟩
    | cons d ds => cases hs
  | _, _, _, .cons hp hg ht, β, Oo, H0, O, σ, H, env, env', st, vs, ds, Q, rel, rv, hs, q => by
    rename_i e sl g es sls gs
    cases rv with
    | nil => cases hs
    | @cons v vs d ds r1 r2 =>
      obtain ⟨env1, e1, hs⟩ := bind1 hs
      intro pins s us I r
      refine (pgs_cons (wg_pg X e) (wgs_pgs X es) (by rw [each_cons hp]; rfl)).run pins s σ H (v :: vs) us Q I r ⟨v, vs, rfl, ?_⟩
      refine hg rel r1 e1 fun σ1 rel1 hl1 hk1 => ?_
      refine g_tgs ht rel1 r2 hs fun σ2 rel2 hl2 hk2 => q σ2 rel2 (hl2.trans hl1) fun j hj => ?_
      simp only [List.mem_append, not_or] at hj
      exact (hk2 j hj.2).trans (hk1 j hj.1)
theorem g_tupG (C : CxS F S X) {es : List Expr} {sl : List Nat} {gs : List GF} {k : Nat} {pos : Pos} (h : Tgs X es sl gs) : SoundG X (.Tuple es k pos) sl (unG gs) := by
  intro β Oo H0 O σ H env env' st v d Q rel rv hg q
  have ne := tgs_each (env := X.env) h
  unfold unG at hg
  split at hg
  · obtain ⟨a, xs, rfl, h1, h2⟩ := rp_tup rv
    refine (pg_tup C.calm (wgs_pgs X es) ne.1 ne.2).wg ⟨a, xs, rfl, fz_tup h1, ?_, g_tgs h rel h2 hg q⟩
    rw [h2.length, setG_len hg, tgs_len h]
  · cases hg
/-- names, and tuples of names, one within another -/
def tgN : Nat → Sx → Expr → Option (List Nat × GF)
  | _, S, .Name x _ => (tgtSlot S x).map fun i => ([i], setF i)
  | 0, _, _ => none
  | n + 1, S, .Tuple es _ _ => (match slotsT S es with
    | some is => some (is, unF is)
    | none => (tgL n S es).map fun p => (p.1, unG p.2))
  | _, _, _ => none
where tgL (n : Nat) (S : Sx) : List Expr → Option (List Nat × List GF)
  | [] => some ([], [])
  | e :: es => if plainTg e then (tgN n S e).bind fun p => (tgL n S es).map fun q => (p.1 ++ q.1, p.2 :: q.2) else none
/-! ### x += e, x -= e -/
def augO : Operator → Int → Int → Option Int
  | .Add, a, b => some (a + b)
  | .Sub, a, b => some (a - b)
  | _, _, _ => none
def augF (op : Operator) (i : Nat) (f : VF) (env : Env') (st : BSt) : Option (Out × Env' × BSt) := match env[i]? with
  | some (some (.fz (.int a))) => (f env st).bind fun p => (match p.1 with
    | .int b => (augO op a b).map fun c => (.nx, env.set i (some (.fz (.int c))), p.2)
    | _ => none)
  | some (some (.ow (.list ds))) => (f env st).bind fun p => (match op, p.1 with
    | .Add, .list es => if lenOk (ds.length + es.length) then some (.nx, env.set i (some (.ow (.list (ds ++ es)))), p.2) else none
    | _, _ => none)
  | _ => none
theorem tgN_ok (C : CxS F S X) : ∀ (n : Nat) {tg : Expr} {p : List Nat × GF}, tgN n S tg = some p → SoundG X tg p.1 p.2 := by
  have nm : ∀ {x : Str} {pos : Pos} {p : List Nat × GF}, ((tgtSlot S x).map fun i => ([i], setF i)) = some p → SoundG X (.Name x pos) p.1 p.2 := fun h => by
    obtain ⟨i, e, rfl⟩ := map1 h; exact g_name C e
  intro n
  induction n with
  | zero =>
    intro tg p h
    cases tg with
    | Name x pos => exact nm h
    | _ => cases h
  | succ n ih =>
    have hL : ∀ {es : List Expr} {q : List Nat × List GF}, tgN.tgL n S es = some q → Tgs X es q.1 q.2 := by
      intro es
      induction es with
      | nil => intro q h; cases h; exact .nil
      | cons e es ihe =>
        intro q h
        unfold tgN.tgL at h
        split at h
        · rename_i hp
          obtain ⟨p1, e1, h⟩ := bind1 h
          obtain ⟨q1, e2, rfl⟩ := map1 h
          exact .cons hp (ih e1) (ihe e2)
        · cases h
    intro tg p h
    cases tg with
    | Name x pos => exact nm h
    | Tuple es k pos =>
      unfold tgN at h
      split at h
      · rename_i is e1
        cases h
        exact g_tup C e1
      · obtain ⟨q, e2, rfl⟩ := map1 h
        exact g_tupG C (hL e2)
    | _ => cases h
theorem ss_aug (C : CxS F S X) {x : Str} {i : Nat} {e : Expr} {op : Operator} {f : VF} {p pos : Pos} (hx : tgtSlot S x = some i) (hf : SoundV X e f) : SoundS X (.AugAssign (.Name x p) op e pos) (augF op i f) := by
  intro β Oo H0 O σ H env env' st st' o D rel h q
  unfold augF at h
  split at h
  · rename_i a e0
    obtain ⟨⟨d, s1⟩, e1, h⟩ := bind1 h
    dsimp only at h
    split at h
    · rename_i b
      obtain ⟨c, e2, h⟩ := map1 h
      cases h
      obtain ⟨h1, h2, h3, h4⟩ := tgtSlot_ok C hx
      obtain ⟨v, hv, hr⟩ := rel.sl i _ e0
      have hv' : v = .int a := by cases hr; rfl
      subst hv'
      have go : ∀ H1, SB β H H1 → BagAt β H1 st' → D.nx (σ.set i (some (.int c))) H1 := fun H1 sb1 bg1 =>
        q _ _ _ ((rel.step sb1 bg1).put i (v := .int c) (x := .fz (.int c)) (.int c) (fun _ z => by cases z)) (rel.fzm sb1)
      unfold augO at e2
      split at e2
      · cases e2
        exact (ps_aug h1 h2 h3 (we_pe X e) ip_add h4).ws ⟨_, hv, hf rel e1 fun y H1 sb1 bg1 ty => by cases ty; exact ⟨_, _, rfl, rfl, go H1 sb1 bg1⟩⟩
      · cases e2
        exact (ps_aug h1 h2 h3 (we_pe X e) ip_sub h4).ws ⟨_, hv, hf rel e1 fun y H1 sb1 bg1 ty => by cases ty; exact ⟨_, _, rfl, rfl, go H1 sb1 bg1⟩⟩
      · cases e2
    · cases h
  · rename_i ds e0
    obtain ⟨⟨d, s1⟩, e1, h⟩ := bind1 h
    dsimp only at h
    split at h
    · rename_i es _
      obtain ⟨c, h⟩ := ite_some h
      cases h
      obtain ⟨h1, h2, h3, h4⟩ := tgtSlot_ok C hx
      obtain ⟨v, hv, a, rfl, hO, hn, xs, ha, rxs⟩ := rel.sl i _ e0
      refine (ps_aug h1 h2 h3 (we_pe X e) ip_addL h4).ws ⟨_, hv, hf rel e1 fun y H1 sb1 bg1 ty => ?_⟩
      obtain ⟨b, ys, rfl, hnb, hb, rys⟩ := ty
      have rel1 := rel.step sb1 bg1
      have ha1 := sb1.go a _ hn rfl ha
      have rx1 := rxs.mono (rel.fzm sb1)
      have c := of_decide_eq_true c
      refine ⟨a, b, xs, ys, rfl, rfl, ha1, hb, by rw [rxs.length, rys.length]; exact c, ?_⟩
      have es0 : σ.set i (some (V.ref a)) = σ := by
        refine List.ext_getElem? fun j => ?_
        by_cases hj : i = j
        · subst hj
          rw [List.getElem?_set_self ((List.getElem?_eq_some_iff.mp hv).1), hv]
        · rw [List.getElem?_set_ne hj]
      show D.nx (σ.set i (some (V.ref a))) _
      rw [es0]
      obtain ⟨r2, sm⟩ := rel1.mut (d' := .list (ds ++ es)) (o' := .lst (xs ++ ys)) e0 hv ha1 rfl ⟨_, upd_same, (rx1.append rys).mono fun b o q => by
        obtain ⟨n, q, t⟩ := fz_some3 q
        exact fz_put n (by rw [upd_ne (fun z => n (by rw [z]; exact hO))]; exact q) t⟩
      exact q _ _ _ r2 ((rel.fzm sb1).trans sm)
    · cases h
  · cases h
/-! ### xs.index(e) -/
def idxD (ds : List D) (d : D) : Option Nat := ds.findIdx? fun z => PyData.eqv z d
def idxF (f g : VF) (env : Env') (st : BSt) : Option (R × BSt) := (f env st).bind fun p => (g env p.2).bind fun q => (match p.1 with
  | .list ds => if SeqAt.shaped (.list ds) && SeqAt.shaped q.1 then (idxD ds q.1).map fun j => (.fz (.int (j : Nat)), q.2) else none
  | _ => none)
theorem s_idx (C : CxS F S X) {o e : Expr} {f g : VF} {apos pos : Pos} (hc : noCall0 o = true) (hl : (apos.endLine == pos.line) = true) (hn : noStar e = true) (ho : SoundV X o f) (he : SoundV X e g) : SoundE X (.Call (.Attribute o "index" apos) [e] [] pos) (idxF f g) := by
  intro β Oo H0 O σ H env st r st' Q rel h q
  obtain ⟨⟨d1, s1⟩, e1, h⟩ := bind1 h
  obtain ⟨⟨d2, s2⟩, e2, h⟩ := bind1 h
  dsimp only at h
  cases d1 with
  | list ds =>
    dsimp only at h
    split at h
    case isFalse => cases h
    rename_i c
    rw [Bool.and_eq_true] at c
    obtain ⟨j, e3, h⟩ := map1 h
    cases h
    refine (pe_bm PySem.F.plainAttrs_list PySem.F.slot_list_index PySem.F.type_list_index (mt_indexD C.hu) (we_pe X o) (pa_cons (we_pe X e) pa_nil (noStar_ok hn [] X.env)) (noCall0_ok hc _ _ _) (few_ok hn X.env pos) hl (noStar_ok hn [] X.env) rfl).we (ho rel e1 fun v H1 sb1 bg1 tv => ?_)
    have rel1 := rel.step sb1 bg1
    have tv0 := tv
    obtain ⟨a, xs, rfl, hna, ha, rxs⟩ := tv
    refine ⟨.inl ⟨rfl, _, SqL.of ha⟩, he rel1 e2 fun w H2 sb2 bg2 tw => ?_⟩
    obtain ⟨hj, hz⟩ := List.findIdx?_eq_some_iff_findIdx_eq.mp e3
    have hzj : ds[j]? = some ds[j] := List.getElem?_eq_getElem hj
    have hfi : List.findIdx (fun z => PyData.eqv z d2) ds = j := hz
    refine ⟨a, w, d2, ds, j, ds[j], rfl, rfl, (tv0.mono (rel1.fzm sb2) sb2).dp c.1, tw.dp c.2, c.1, c.2, hzj, ?_, fun m z' hm hz' => ?_, q _ _ (sb1.trans sb2) bg2 (.int _)⟩
    · have hl' : List.findIdx (fun z => PyData.eqv z d2) ds < ds.length := by rw [hfi]; exact hj
      have := List.findIdx_getElem (w := hl')
      simp only [hfi] at this
      exact this
    · obtain ⟨hm2, rfl⟩ := List.getElem?_eq_some_iff.mp hz'
      have := List.not_of_lt_findIdx (p := fun z => PyData.eqv z d2) (xs := ds) (i := m) (by rw [hfi]; exact hm)
      simpa using this
  | _ => cases h
/-! ### xs[i] += e, of a list of one's own -/
theorem get_listN : PGet X (fun o i H Q => ∃ (p : Addr) (xs : List V) (j : Nat) (v : V), o = .ref p ∧ i = .int ((j : Nat) : Int) ∧ SqL X.K H p xs ∧ xs[j]? = some v ∧ Q v H) := by
  intro pins s σ H x y v u Q I rx ry h
  obtain ⟨p, xs, j, z, rfl, rfl, hq, he, q⟩ := h
  cases rx
  obtain ⟨t, rfl⟩ := ry
  obtain ⟨its, r, pl, hz⟩ := I.list hq
  obtain ⟨w, ew, rw'⟩ := r.get he
  have hl := r.length
  have hn := line63
  have hj := (List.getElem?_eq_some_iff.mp he).1
  exact wpAny_getItem_list pl.isList (by omega) (by omega) (by simpa using ew) ⟨z, H, I, rw', q⟩
def augSF (op : Operator) (n : Nat) (g f : VF) (env : Env') (st : BSt) : Option (Out × Env' × BSt) := match env[n]? with
  | some (some (.ow (.list ds))) => (g env st).bind fun q => (match q.1 with
    | .int k => if decide (0 ≤ k) then (match ds[k.toNat]? with
      | some (.int a) => (f env q.2).bind fun p => (match p.1 with
        | .int b => (augO op a b).map fun c => (.nx, env.set n (some (.ow (.list (ds.set k.toNat (.int c))))), p.2)
        | _ => none)
      | _ => none) else none
    | _ => none)
  | _ => none
theorem augStore_ok (i : Expr) (hi : plainIx i = true) : ∀ ov iv new, augStore i ov iv new = (do holding [new, ov, iv] (setItem ov iv new); release [new, ov, iv] []; pure .next) := by
  intro ov iv new
  cases i <;> first | rfl | cases hi
theorem ss_augS (C : CxS F S X) {x : Str} {n : Nat} {i e : Expr} {op : Operator} {g f : VF} {p ps pos : Pos} (hx : slotOf S x = some n) (hp : plainIx i = true) (hg : SoundV X i g) (hf : SoundV X e f) : SoundS X (.AugAssign (.Subscript (.Name x p) i ps) op e pos) (augSF op n g f) := by
  intro β Oo H0 O σ H env env' st st' o D rel h q
  unfold augSF at h
  cases e0 : env[n]? with
  | none => rw [e0] at h; cases h
  | some r0 =>
  rw [e0] at h
  cases r0 with
  | none => cases h
  | some r0 =>
  cases r0 with
  | ow d0 =>
    cases d0 with
    | list ds =>
      dsimp only at h
      obtain ⟨⟨d1, s1⟩, e1, h⟩ := bind1 h
      dsimp only at h
      cases d1 with
      | int k =>
        dsimp only at h
        cases hk : decide (0 ≤ k) with
        | false => rw [hk] at h; cases h
        | true =>
          rw [hk] at h
          simp only [if_true] at h
          have hk' := of_decide_eq_true hk
          cases e2 : ds[k.toNat]? with
          | none => rw [e2] at h; cases h
          | some d2 =>
            rw [e2] at h
            cases d2 with
            | int a =>
              dsimp only at h
              obtain ⟨⟨d3, s2⟩, e3, h⟩ := bind1 h
              dsimp only at h
              cases d3 with
              | int b =>
                dsimp only at h
                obtain ⟨c, e4, h⟩ := map1 h
                cases h
                obtain ⟨h1, h2, h3, h4⟩ := slotOf_ok C hx
                obtain ⟨v, hv, aa, rfl, hO, hn, xs, ha, rxs⟩ := rel.sl n _ e0
                have fin : ∀ H1 H2, SB β H H1 → BagAt β H1 s1 → SB β H1 H2 → BagAt β H2 st' → ∃ (p : Addr) (xs : List V) (k' : Int) (j : Nat), V.ref aa = .ref p ∧ V.int k = .int k' ∧ H2 p = some (.lst xs) ∧ ixN xs.length k' = some j ∧ D.nx σ (upd H2 p (.lst (xs.set j (.int c)))) := fun H1 H2 sb1 bg1 sb2 bg2 => by
                  have rel1 := rel.step sb1 bg1
                  have rel2 := rel1.step sb2 bg2
                  have ha2 := sb2.go aa _ hn rfl (sb1.go aa _ hn rfl ha)
                  have rx2 := (rxs.mono (rel.fzm sb1)).mono (rel1.fzm sb2)
                  have hj : k.toNat < xs.length := by rw [rxs.length]; exact (List.getElem?_eq_some_iff.mp e2).1
                  refine ⟨aa, xs, k, k.toNat, rfl, rfl, ha2, by unfold ixN; rw [if_pos hk', if_pos (by omega)], ?_⟩
                  obtain ⟨r2, sm⟩ := rel2.mut (d' := .list (ds.set k.toNat (.int c))) (o' := .lst (xs.set k.toNat (.int c))) e0 hv ha2 rfl ⟨_, upd_same, (rx2.set k.toNat (.int c)).mono fun b o q => by
                    obtain ⟨n, q, t⟩ := fz_some3 q
                    exact fz_put n (by rw [upd_ne (fun z => n (by rw [z]; exact hO))]; exact q) t⟩
                  exact q _ _ _ r2 ((rel.fzm sb1).trans ((rel1.fzm sb2).trans sm))
                have rd : ∀ H1, SB β H H1 → BagAt β H1 s1 → ∃ (p : Addr) (xs : List V) (j : Nat) (v : V), V.ref aa = .ref p ∧ V.int k = .int ((j : Nat) : Int) ∧ SqL X.K H1 p xs ∧ xs[j]? = some v ∧ v = .int a := fun H1 sb1 bg1 => by
                  obtain ⟨w, hw, rw'⟩ := rxs.get e2
                  cases rw'
                  exact ⟨aa, xs, k.toNat, .int a, rfl, by rw [show ((k.toNat : Nat) : Int) = k by omega], SqL.of (sb1.go aa _ hn rfl ha), hw, rfl⟩
                unfold augO at e4
                split at e4
                · cases e4
                  refine (ps_augS (pe_var h1 h2 h3 h4) (we_pe X i) get_listN (we_pe X e) ip_add set_list (augStore_ok i hp)).ws ⟨_, hv, hg rel e1 fun y H1 sb1 bg1 ty => ?_⟩
                  cases ty
                  obtain ⟨pp, xs', j, v, g1, g2, g3, g4, rfl⟩ := rd H1 sb1 bg1
                  refine ⟨pp, xs', j, _, g1, g2, g3, g4, hf (rel.step sb1 bg1) e3 fun y2 H2 sb2 bg2 ty2 => ?_⟩
                  cases ty2
                  exact ⟨_, _, rfl, rfl, fin H1 H2 sb1 bg1 sb2 bg2⟩
                · cases e4
                  refine (ps_augS (pe_var h1 h2 h3 h4) (we_pe X i) get_listN (we_pe X e) ip_sub set_list (augStore_ok i hp)).ws ⟨_, hv, hg rel e1 fun y H1 sb1 bg1 ty => ?_⟩
                  cases ty
                  obtain ⟨pp, xs', j, v, g1, g2, g3, g4, rfl⟩ := rd H1 sb1 bg1
                  refine ⟨pp, xs', j, _, g1, g2, g3, g4, hf (rel.step sb1 bg1) e3 fun y2 H2 sb2 bg2 ty2 => ?_⟩
                  cases ty2
                  exact ⟨_, _, rfl, rfl, fin H1 H2 sb1 bg1 sb2 bg2⟩
                · cases e4
              | _ => cases h
            | _ => cases h
      | _ => cases h
    | _ => cases h
  | _ => cases h
end
end Iv

set_option maxHeartbeats 4000000
namespace Iv
open PySem PySem.Spec PyProof.Rows L2
variable [Nm]
/-! ### dicts by any kind of key -/
section
variable {κ : Type} [DecidableEq κ] {enc : κ → D} {dec : D → Option κ}
def valG (dec : D → Option κ) (kds : List (D × D)) (k : κ) : Option D := (kds.find? fun kv => decide (dec kv.1 = some k)).map (·.2)
def putG (enc : κ → D) (dec : D → Option κ) (kds : List (D × D)) (k : κ) (v : D) : List (D × D) :=
  if (kds.any fun kv => decide (dec kv.1 = some k)) = true then kds.map (fun kv => if dec kv.1 = some k then (kv.1, v) else kv) else kds ++ [(enc k, v)]
theorem valG_ok {K : PySem.W.Frag} {H : Hp} (hd : ∀ k, dec (enc k) = some k) {k : κ} : ∀ {kds : List (D × D)} {kvs : List (κ × V)}, kds.map (·.1) = kvs.map (fun p => enc p.1) → RpAll K H (kvs.map (·.2)) (kds.map (·.2)) → ∀ {d : D}, valG dec kds k = some d → ∃ v, valV kvs k = some v ∧ Rp K H v d
  | [], [], _, _, d, h => by cases h
  | [], _ :: _, h, _, _, _ => by simp at h
  | _ :: _, [], h, _, _, _ => by simp at h
  | p :: kds, u :: kvs, h, r, d, hv => by
    simp only [List.map_cons, List.cons.injEq] at h
    simp only [List.map_cons] at r
    cases r with
    | cons r1 r2 =>
      unfold valG at hv
      unfold valV
      rw [List.find?_cons] at hv ⊢
      rw [h.1, hd] at hv
      by_cases e : u.1 = k
      · rw [decide_eq_true (by rw [e])] at hv
        rw [decide_eq_true e]
        cases hv
        exact ⟨_, rfl, r1⟩
      · rw [decide_eq_false (fun z => e (Option.some.inj z))] at hv
        rw [decide_eq_false e]
        exact valG_ok hd h.2 r2 hv
theorem anyG {k : κ} (hd : ∀ k, dec (enc k) = some k) : ∀ {kds : List (D × D)} {kvs : List (κ × V)}, kds.map (·.1) = kvs.map (fun p => enc p.1) → (kds.any fun kv => decide (dec kv.1 = some k)) = (kvs.any fun kv => decide (kv.1 = k))
  | [], [], _ => rfl
  | [], _ :: _, h => by simp at h
  | _ :: _, [], h => by simp at h
  | d :: kds, v :: kvs, h => by
    simp only [List.map_cons, List.cons.injEq] at h
    simp only [List.any_cons]
    rw [anyG hd h.2, h.1, hd]
    congr 1
    simp
theorem mapG {k : κ} (hd : ∀ k, dec (enc k) = some k) {K : PySem.W.Frag} {hp : Hp} {v : D} {w : V} (hv : Rp K hp w v) : ∀ {kds : List (D × D)} {kvs : List (κ × V)}, kds.map (·.1) = kvs.map (fun p => enc p.1) → RpAll K hp (kvs.map (·.2)) (kds.map (·.2)) →
    (kds.map (fun kv => if dec kv.1 = some k then (kv.1, v) else kv)).map (·.1) = (kvs.map (fun kv => if kv.1 = k then (kv.1, w) else kv)).map (fun p => enc p.1) ∧ RpAll K hp ((kvs.map (fun kv => if kv.1 = k then (kv.1, w) else kv)).map (·.2)) ((kds.map (fun kv => if dec kv.1 = some k then (kv.1, v) else kv)).map (·.2))
  | [], [], _, _ => ⟨rfl, .nil⟩
  | [], _ :: _, h, _ => by simp at h
  | _ :: _, [], h, _ => by simp at h
  | d :: kds, u :: kvs, h, r => by
    simp only [List.map_cons, List.cons.injEq] at h
    simp only [List.map_cons] at r
    cases r with
    | cons r1 r2 =>
      obtain ⟨i1, i2⟩ := mapG (k := k) hd hv h.2 r2
      simp only [List.map_cons]
      by_cases e : u.1 = k
      · have e' : dec d.1 = some k := by rw [h.1, hd, e]
        rw [if_pos e', if_pos e]
        exact ⟨by rw [i1, h.1], .cons hv i2⟩
      · have e' : ¬ dec d.1 = some k := by rw [h.1, hd]; exact fun z => e (Option.some.inj z)
        rw [if_neg e', if_neg e]
        exact ⟨by rw [i1, h.1], .cons r1 i2⟩
theorem putG_ok {k : κ} (hd : ∀ k, dec (enc k) = some k) {K : PySem.W.Frag} {hp : Hp} {v : D} {w : V} {kds : List (D × D)} {kvs : List (κ × V)} (hv : Rp K hp w v) (h : kds.map (·.1) = kvs.map (fun p => enc p.1)) (r : RpAll K hp (kvs.map (·.2)) (kds.map (·.2))) :
    (putG enc dec kds k v).map (·.1) = (putK kvs k w).map (fun p => enc p.1) ∧ RpAll K hp ((putK kvs k w).map (·.2)) ((putG enc dec kds k v).map (·.2)) := by
  unfold putG putK
  rw [anyG hd h]
  split
  · exact mapG hd hv h r
  · refine ⟨?_, ?_⟩
    · rw [List.map_append, List.map_append, h]; rfl
    · rw [List.map_append, List.map_append]
      exact r.append (.one hv)
end
def encT (ks : List Key) : D := .tuple (ks.map kD)
def keysOf : List D → Option (List Key)
  | [] => some []
  | d :: ds => (Iv.keyOf d).bind fun k => (keysOf ds).map (k :: ·)
def decT : D → Option (List Key)
  | .tuple ds => keysOf ds
  | _ => none
theorem keysOf_kD : ∀ ks : List Key, keysOf (ks.map kD) = some ks
  | [] => rfl
  | k :: ks => by
    show (Iv.keyOf (kD k)).bind _ = _
    rw [keyOf_kD]
    simp only [Option.bind_some]
    rw [keysOf_kD ks]; rfl
theorem decT_enc (ks : List Key) : decT (encT ks) = some ks := keysOf_kD ks
theorem keysOf_ok : ∀ {ds : List D} {ks : List Key}, keysOf ds = some ks → ds = ks.map kD
  | [], ks, h => by cases h; rfl
  | d :: ds, ks, h => by
    obtain ⟨k, e1, h⟩ := bind1 h
    obtain ⟨ks', e2, rfl⟩ := map1 h
    rw [keyOf_ok e1, keysOf_ok e2]; rfl
theorem rp_keys {K : PySem.W.Frag} {H : Hp} : ∀ {ks : List Key} {vs : List V}, RpAll K H vs (ks.map kD) → vs = ks.map kV
  | [], _, h => by cases h; rfl
  | k :: ks, _, h => by
    cases h with
    | cons a b =>
      rw [rp_keys b]
      cases k with
      | inl i => cases a; rfl
      | inr z => cases a; rfl
section
variable {F : FT} {S : Sx} {X : Cx}
/-! ### d[k] -/
def ixG (f g : VF) (env : Env') (st : BSt) : Option (R × BSt) := (f env st).bind fun p => (g env p.2).bind fun q => (match p.1 with
  | .dict kds => if plainK kds then (Iv.keyOf q.1).bind fun k => (valG Iv.keyOf kds k).map fun d => (.fz d, q.2) else (match kds, q.1 with
    | [(.none, .dict kds')], .tuple ks => (keysOf ks).bind fun kk => (valG decT kds' kk).map fun d => (.fz d, q.2)
    | _, _ => none)
  | d => (ixD d q.1).map fun r => (.fz r, q.2))
theorem s_ixG (C : CxS F S X) {a b : Expr} {f g : VF} {pos : Pos} (hp : plainIx b = true) (ha : SoundV X a f) (hb : SoundV X b g) : SoundE X (.Subscript a b pos) (ixG f g) := by
  intro β Oo H0 O σ H env st r st' Q rel h q
  obtain ⟨⟨d, s1⟩, e1, h⟩ := bind1 h
  obtain ⟨⟨e, s2⟩, e2, h⟩ := bind1 h
  have old : (ixD d e).map (fun r => (R.fz r, s2)) = some (r, st') → We X (.Subscript a b pos) σ H Q := fun h => s_ix hp ha hb rel (by unfold ixF; rw [e1]; simp only [Option.bind_some]; rw [e2]; exact h) q
  cases d with
  | dict kds =>
    dsimp only at h
    split at h
    case isFalse =>
      split at h
      · rename_i kds' ks
        obtain ⟨key, e3, h⟩ := bind1 h
        obtain ⟨d', e4, h⟩ := map1 h
        cases h
        refine (pe_dgetT (by have := C.hu; omega) (we_pe X a) (we_pe X b) (plainIx_ok hp)).we (ha rel e1 fun x H1 sb1 bg1 tx => ?_)
        have rel1 := rel.step sb1 bg1
        refine hb rel1 e2 fun y H2 sb2 bg2 ty => ?_
        obtain ⟨aa, rfl, hna, hdc⟩ := tx.mono (rel1.fzm sb2) sb2
        rcases hdc with ⟨kvs, _, h2, _⟩ | ⟨kds'', e6, kvs, h1, h2, h3⟩
        · exfalso
          cases kvs with
          | nil => cases h2
          | cons u kvs =>
            have h2 := (List.cons.inj h2).1
            obtain ⟨k0, _⟩ := u
            cases k0 <;> cases h2
        · cases e6
          obtain ⟨v, hv, rv⟩ := valG_ok (enc := encT) decT_enc h2 h3 e4
          obtain ⟨bb, xs, rfl, hb1, hb2⟩ := rp_tup ty
          rw [keysOf_ok e3] at hb2
          exact ⟨aa, kvs, key, bb, v, rfl, rfl, h1, by rw [← rp_keys hb2]; exact fz_tup hb1, hv, q _ _ (sb1.trans sb2) bg2 rv⟩
      · cases h
    rename_i c
    obtain ⟨k, e3, h⟩ := bind1 h
    obtain ⟨d', e4, h⟩ := map1 h
    cases h
    refine (pe_dget (by have := C.hu; omega) (we_pe X a) (we_pe X b) (plainIx_ok hp)).we (ha rel e1 fun x H1 sb1 bg1 tx => ?_)
    have rel1 := rel.step sb1 bg1
    refine hb rel1 e2 fun y H2 sb2 bg2 ty => ?_
    obtain ⟨aa, rfl, hna, hdc⟩ := tx.mono (rel1.fzm sb2) sb2
    obtain ⟨kvs, h1, h2, h3⟩ := DcAt.k hdc c
    obtain ⟨v, hv, rv⟩ := valG_ok (enc := kD) keyOf_kD h2 h3 e4
    have ey : y = kV k := by
      rw [keyOf_ok e3] at ty
      cases k with
      | inl i => cases ty; rfl
      | inr i => cases ty; rfl
    refine ⟨aa, v, rfl, ?_, q _ _ (sb1.trans sb2) bg2 rv⟩
    rw [ey, ← hv]
    exact DGet.k h1
  | _ => exact old h
/-! ### d[e, ..], keys that are tuples written there -/
def ixTF (f : VF) (af : AF) (env : Env') (st : BSt) : Option (R × BSt) := (f env st).bind fun p => (af env p.2).bind fun q => (dsOf q.1).bind fun ks => (keysOf ks).bind fun kk => (match p.1 with
  | .dict [(.none, .dict kds)] => if lenOk ks.length then (valG decT kds kk).map fun d => (.fz d, q.2) else none
  | _ => none)
theorem s_ixT (C : CxS F S X) {a : Expr} {es : List Expr} {kk : Nat} {f : VF} {af : AF} {p2 pos : Pos} (ha : SoundV X a f) (hb : SoundA X es af) : SoundE X (.Subscript a (.Tuple es kk p2) pos) (ixTF f af) := by
  intro β Oo H0 O σ H env st r st' Q rel h q
  obtain ⟨⟨d, s1⟩, e1, h⟩ := bind1 h
  obtain ⟨⟨rs, s2⟩, e2, h⟩ := bind1 h
  obtain ⟨ks, e3, h⟩ := bind1 h
  obtain ⟨key, e4, h⟩ := bind1 h
  dsimp only at h
  split at h
  · rename_i kds _
    split at h
    case isFalse => cases h
    rename_i c
    obtain ⟨d', e5, h⟩ := map1 h
    cases h
    refine (pe_dget (by have := C.hu; omega) (we_pe X a) (pe_tup (wa_pa X es)) (fun _ _ => rfl)).we (ha rel e1 fun x H1 sb1 bg1 tx => ?_)
    have rel1 := rel.step sb1 bg1
    refine hb rel1 e2 fun vs H2 sb2 bg2 av _ => ?_
    have rel2 := rel1.step sb2 bg2
    have rp := dsOf_ok e3 av
    refine ⟨by rw [rp.length]; exact of_decide_eq_true c, fun b hb0 => ?_⟩
    obtain ⟨aa, rfl, hna, hdc⟩ := tx.mono (rel1.fzm sb2) sb2
    rcases hdc with ⟨kvs, _, h2, _⟩ | ⟨kds', e6, kvs, h1, h2, h3⟩
    · exfalso
      cases kvs with
      | nil => cases h2
      | cons u kvs =>
        have h2 := (List.cons.inj h2).1
        obtain ⟨k0, _⟩ := u
        cases k0 <;> cases h2
    · cases e6
      have e7 : valG (κ := List Key) decT _ key = some d' := e5
      obtain ⟨v, hv, rv⟩ := valG_ok (enc := encT) decT_enc h2 h3 e7
      have ek : vs = key.map kV := by
        rw [keysOf_ok e4] at rp
        exact rp_keys rp
      refine ⟨aa, v, rfl, ?_, q _ _ (sb1.trans (sb2.trans (SB.laid hb0))) (same_bag (same_laid hb0) bg2) (rv.mono (same_fz (same_laid hb0)))⟩
      rw [← hv]
      exact DGet.t (by rw [upd_ne (ne_of_none h1 hb0)]; exact h1) (by rw [upd_same, ek])
  · cases h
/-! ### {} for such keys, d[e, ..] = v -/
def dict0T (_ : Env') (st : BSt) : Option (R × BSt) := some (.ow (.dict [(.none, .dict [])]), st)
theorem s_dict0T {pos : Pos} : SoundE X (.Dict [] [] pos) dict0T := by
  intro β Oo H0 O σ H env st r st' Q rel h q
  cases h
  exact pe_dnewT.we fun p hp => q _ _ (SB.laid hp) (same_bag (same_laid hp) rel.bag) ⟨p, rfl, hp, rel.neB hp, .inr ⟨[], rfl, [], upd_same, rfl, .nil⟩⟩
end
end Iv

set_option maxHeartbeats 4000000
namespace Iv
open PySem PySem.Spec PyProof.Rows L2
variable [Nm]
section
variable {F : FT} {S : Sx} {X : Cx}
/-! ### d[e, ..] = v -/
def setTF (n : Nat) (f : EF) (af : AF) (env : Env') (st : BSt) : Option (Out × Env' × BSt) := (f env st).bind fun p => p.1.d?.bind fun d => (af env p.2).bind fun q => (dsOf q.1).bind fun ks => (keysOf ks).bind fun kk => (match env[n]? with
  | some (some (.ow (.dict [(.none, .dict kds)]))) => if lenOk ks.length && decide (kds.length < sizeLine) then some (.nx, env.set n (some (.ow (.dict [(.none, .dict (putG encT decT kds kk d))]))), q.2) else none
  | _ => none)
theorem ss_setT (C : CxS F S X) {x : Str} {n : Nat} {es : List Expr} {e : Expr} {kk : Nat} {f : EF} {af : AF} {p p2 ps pos : Pos} (hx : slotOf S x = some n) (hc : noComp e = true) (he : SoundE X e f) (hb : SoundA X es af) :
    SoundS X (.Assign [.Subscript (.Name x p) (.Tuple es kk p2) ps] e pos) (setTF n f af) := by
  intro β Oo H0 O σ H env env' st st' o D rel h q
  obtain ⟨⟨r, s1⟩, e1, h⟩ := bind1 h
  obtain ⟨d, e2, h⟩ := bind1 h
  obtain ⟨⟨rs, s2⟩, e3, h⟩ := bind1 h
  obtain ⟨ks, e4, h⟩ := bind1 h
  obtain ⟨key, e5, h⟩ := bind1 h
  obtain ⟨h1, h2, h3, h4⟩ := slotOf_ok C hx
  have hsw : swapsWith e (some (.Subscript (.Name x p) (.Tuple es kk p2) ps)) pos.line X.env = pure false := noComp_ok hc _ _ _
  have main : ∀ kds, env[n]? = some (some (.ow (.dict [(.none, .dict kds)]))) → (if lenOk ks.length && decide (kds.length < sizeLine) then some (Out.nx, env.set n (some (R.ow (.dict [(.none, .dict (putG encT decT kds key d))]))), s2) else none) = some (o, env', st') → Ws X (.Assign [.Subscript (.Name x p) (.Tuple es kk p2) ps] e pos) D σ H := by
    intro kds e6 h
    obtain ⟨c, h⟩ := ite_some h
    cases h
    rw [Bool.and_eq_true] at c
    obtain ⟨v0, hv, a, rfl, hO, hn, hdc⟩ := rel.sl n _ e6
    have hdc : DcAt X.K O H a [(.none, .dict kds)] := hdc
    rcases hdc with ⟨kvs, _, h2, _⟩ | ⟨kds', e7, kvs, ha, hks, rxs⟩
    · exfalso
      cases kvs with
      | nil => cases h2
      | cons u kvs =>
        have h2 := (List.cons.inj h2).1
        obtain ⟨k0, _⟩ := u
        cases k0 <;> cases h2
    cases e7
    refine (ps_dput (by have := C.hu; omega) (pe_var h1 h2 h3 h4) (pe_tup (wa_pa X es)) (we_pe X e) hsw).ws (he rel e1 fun w H1 sb1 bg1 rw' => ⟨_, hv, ?_⟩)
    have rel1 := rel.step sb1 bg1
    refine hb rel1 e3 fun vs H2 sb2 bg2 av _ => ?_
    have rel2 := rel1.step sb2 bg2
    have rp := dsOf_ok e4 av
    refine ⟨by rw [rp.length]; exact of_decide_eq_true c.1, fun b hb0 => ?_⟩
    have rel3 := rel2.step (SB.laid (o := .tup vs) hb0) (same_bag (same_laid hb0) bg2)
    have sm3 := rel2.fzm (SB.laid (o := .tup vs) hb0)
    have ha2 := sb2.go a _ hn rfl (sb1.go a _ hn rfl ha)
    have ha3 : upd H2 b (.tup vs) a = some (.dT kvs) := by rw [upd_ne (ne_of_none ha2 hb0)]; exact ha2
    have rx3 := ((rxs.mono (rel.fzm sb1)).mono (rel1.fzm sb2)).mono sm3
    have rd := ((rw'.rp rel e2).mono (rel1.fzm sb2)).mono sm3
    have ek : vs = key.map kV := by
      rw [keysOf_ok e5] at rp
      exact rp_keys rp
    have lk : kvs.length = kds.length := by simpa using congrArg List.length hks.symm
    obtain ⟨p1, p2'⟩ := putG_ok (κ := List Key) (enc := encT) (dec := decT) (k := key) decT_enc rd hks rx3
    refine ⟨a, _, rfl, DPut.t (k := key) ha3 (by rw [upd_same, ek]) (by rw [lk]; exact of_decide_eq_true c.2), ?_⟩
    obtain ⟨r2, sm⟩ := rel3.mut (d' := .dict [(.none, .dict (putG encT decT kds key d))]) (o' := .dT (putK kvs key w)) e6 hv ha3 rfl (.inr ⟨_, rfl, _, upd_same, p1, p2'.mono fun b' o' q => by
      obtain ⟨n', q, t⟩ := fz_some3 q
      exact fz_put n' (by rw [upd_ne (fun z => n' (by rw [z]; exact hO))]; exact q) t⟩)
    exact q _ _ _ r2 ((rel.fzm sb1).trans ((rel1.fzm sb2).trans (sm3.trans sm)))
  dsimp only at h
  split at h
  · rename_i e6
    exact main _ e6 h
  · cases h
/-! ### dict([(k, v), ..]) -/
def pairsD : List D → Option (List (Key × D))
  | [] => some []
  | .tuple [k, v] :: ds => (Iv.keyOf k).bind fun kk => (pairsD ds).map ((kk, v) :: ·)
  | _ :: _ => none
def mkD (kvs : List (Key × D)) : List (D × D) := kvs.foldl (fun acc kv => putG kD Iv.keyOf acc kv.1 kv.2) []
theorem pairsD_ok {K : PySem.W.Frag} {H : Hp} : ∀ {ds : List D} {vs : List V} {kds : List (Key × D)}, pairsD ds = some kds → RpAll K H vs ds → ∃ (ps : List Addr) (kvs : List (Key × V)), vs = ps.map V.ref ∧ Paired (fun p kv => SqT K H p [kV kv.1, kv.2]) ps kvs ∧ kds.map (·.1) = kvs.map (·.1) ∧ RpAll K H (kvs.map (·.2)) (kds.map (·.2))
  | [], _, _, h, .nil => by cases h; exact ⟨[], [], rfl, .nil, rfl, .nil⟩
  | d :: ds, _, kds, h, .cons r1 r2 => by
    unfold pairsD at h
    split at h
    · rename_i z; cases z
    · rename_i k v ds' e
      cases e
      obtain ⟨kk, e1, h⟩ := bind1 h
      obtain ⟨kds', e2, rfl⟩ := map1 h
      obtain ⟨ps, kvs, rfl, h2, h3, h4⟩ := pairsD_ok e2 r2
      cases r1 with
      | @tup a xs _ g1 g2 =>
        cases g2 with
        | @cons x1 xs1 _ _ q1 q2 =>
          cases q2 with
          | @cons x2 xs2 _ _ q3 q4 =>
            cases q4
            have ex : x1 = kV kk := by
              rw [keyOf_ok e1] at q1
              cases kk with
              | inl i => cases q1; rfl
              | inr i => cases q1; rfl
            subst ex
            exact ⟨a :: ps, (kk, x2) :: kvs, rfl, .cons g1 h2, by simp [h3], .cons q3 h4⟩
    · cases h
theorem merge_ok {K : PySem.W.Frag} {H : Hp} : ∀ {kds : List (Key × D)} {kvs : List (Key × V)} {acc : List (D × D)} {avs : List (Key × V)}, kds.map (·.1) = kvs.map (·.1) → RpAll K H (kvs.map (·.2)) (kds.map (·.2)) → acc.map (·.1) = avs.map (fun p => kD p.1) → RpAll K H (avs.map (·.2)) (acc.map (·.2)) →
    (kds.foldl (fun acc kv => putG kD Iv.keyOf acc kv.1 kv.2) acc).map (·.1) = (mergeK avs kvs).map (fun p => kD p.1) ∧ RpAll K H ((mergeK avs kvs).map (·.2)) ((kds.foldl (fun acc kv => putG kD Iv.keyOf acc kv.1 kv.2) acc).map (·.2))
  | [], [], _, _, _, _, h1, h2 => ⟨h1, h2⟩
  | [], _ :: _, _, _, h, _, _, _ => by simp at h
  | _ :: _, [], _, _, h, _, _, _ => by simp at h
  | kd :: kds, kv :: kvs, acc, avs, h, r, h1, h2 => by
    simp only [List.map_cons, List.cons.injEq] at h
    simp only [List.map_cons] at r
    cases r with
    | cons r1 r2 =>
      obtain ⟨p1, p2⟩ := putG_ok (κ := Key) (enc := kD) (dec := Iv.keyOf) (k := kv.1) keyOf_kD r1 h1 h2
      have := merge_ok h.2 r2 p1 p2
      rw [← h.1] at this
      rw [List.foldl_cons]
      have em : mergeK avs (kv :: kvs) = mergeK (putK avs kd.1 kv.2) kvs := by rw [h.1]; rfl
      rw [em]
      exact this
theorem paired_imp {α γ : Type} {P Q : α → γ → Prop} (h : ∀ a b, P a b → Q a b) : ∀ {l : List α} {m : List γ}, Paired P l m → Paired Q l m
  | _, _, .nil => .nil
  | _, _, .cons a b => .cons (h _ _ a) (paired_imp h b)
def dicF (f : VF) (env : Env') (st : BSt) : Option (R × BSt) := (f env st).bind fun p => (match p.1 with
  | .list ds => (pairsD ds).map fun kds => (.ow (.dict (mkD kds)), p.2)
  | _ => none)
theorem s_dic (C : CxS F S X) {x : Str} {e : Expr} {f : VF} {p pos : Pos} (hx : isB S "dict" x = true) (hn : noStar e = true) (he : SoundV X e f) : SoundE X (.Call (.Name x p) [e] [] pos) (dicF f) := by
  intro β Oo H0 O σ H env st r st' Q rel h q
  obtain ⟨⟨d, s1⟩, e1, h⟩ := bind1 h
  cases d with
  | list ds =>
    dsimp only at h
    obtain ⟨kds, e2, h⟩ := map1 h
    cases h
    unfold isB at hx
    rw [Bool.and_eq_true] at hx
    have ex := of_decide_eq_true hx.2
    subst ex
    obtain ⟨g, m, n, dd⟩ := isBlt_ok C hx.1
    refine (pe_callTy (call_dictP C.calm) g m (by decide +kernel) (pa_cons (we_pe X e) pa_nil (noStar_ok hn [] X.env)) n dd (noStar_ok hn [] X.env) rfl).we (he rel e1 fun v H1 sb1 bg1 tv => ?_)
    have rel1 := rel.step sb1 bg1
    obtain ⟨a, xs, rfl, hna, ha, rxs⟩ := tv
    obtain ⟨ps, kvs, rfl, h2, h3, h4⟩ := pairsD_ok e2 rxs
    refine ⟨a, ps, kvs, rfl, SqL.of ha, paired_imp (fun _ _ z => fz_tup z) h2, fun b hb0 => ?_⟩
    obtain ⟨p1, p2⟩ := merge_ok (acc := []) (avs := []) h3 h4 rfl .nil
    refine q _ _ (sb1.trans (SB.laid hb0)) (same_bag (same_laid hb0) bg1) ⟨b, rfl, sb1.dm b (rel1.neB hb0) hb0, rel1.neB hb0, .inl ⟨_, upd_same, p1, p2.mono fun a' o' e' => ?_⟩⟩
    obtain ⟨n', e', t⟩ := fz_some3 e'
    have ap : a' ≠ b := ne_of_none e' hb0
    exact fz_put (fun z => z.elim n' ap) (by rw [upd_ne ap]; exact e') t
  | _ => cases h
end
end Iv

set_option maxHeartbeats 4000000
namespace Iv
open PySem PySem.Spec PyProof.Rows L2
variable [Nm]
/-! ### the evaluator -/
structure Ev where
  e : Sx → Expr → EF
  t : Sx → Expr → TF
  s : Sx → List Stmt → SF
structure EvOk (F : FT) (P : Ev) : Prop where
  e : ∀ {S X}, CxS F S X → ∀ x, SoundE X x (P.e S x)
  t : ∀ {S X}, CxS F S X → ∀ x, SoundT X x (P.t S x)
  s : ∀ {S X}, CxS F S X → ∀ x, SoundSs X x (P.s S x)
def failT (_ : Env') (_ : BSt) : Option (Bool × BSt) := none
def failI (_ : Env') (_ : BSt) : Option (List D × BSt) := none
def pV (P : Ev) (S : Sx) : Expr → VF
  | .Name x _ => nameV S x
  | e => valF (P.e S e)
def orElse (f g : EF) (env : Env') (st : BSt) : Option (R × BSt) := match f env st with
  | some r => some r
  | none => g env st
section
variable {F : FT} {P : Ev} {S : Sx} {X : Cx}
theorem pV_ok (h : EvOk F P) (C : CxS F S X) (e : Expr) : SoundV X e (pV P S e) := by
  cases e with
  | Name x p => exact s_nameV C
  | _ => exact s_val (h.e C _)
theorem s_or {e : Expr} {f g : EF} (hf : SoundE X e f) (hg : SoundE X e g) : SoundE X e (orElse f g) := by
  intro β Oo H0 O σ H env st r st' Q rel h q
  unfold orElse at h
  split at h
  · rename_i r' e1; cases h; exact hf rel e1 q
  · exact hg rel h q
theorem t_fail {e : Expr} : SoundT X e failT := fun _ _ _ _ _ _ _ _ _ _ _ _ h => by cases h
theorem i_fail {tg e : Expr} : SoundI X tg e failI := fun _ _ _ _ _ _ _ _ _ _ _ _ h => by cases h
theorem ite_e {e : Expr} {c : Bool} {f : EF} (h : c = true → SoundE X e f) : SoundE X e (if c then f else failE) := by
  cases c with
  | true => exact h rfl
  | false => exact s_fail
theorem ite_s {s : Stmt} {c : Bool} {f : SF} (h : c = true → SoundS X s f) : SoundS X s (if c then f else failS) := by
  cases c with
  | true => exact h rfl
  | false => exact ss_fail
theorem args_ok (h : EvOk F P) (C : CxS F S X) : ∀ {es : List Expr}, es.all noStar = true → SoundA X es (argsF (es.map (P.e S)))
  | [], _ => s_args0
  | e :: es, hs => by
    simp only [List.all_cons, Bool.and_eq_true] at hs
    exact s_args hs.1 (h.e C e) (args_ok h C hs.2)
/-! pieces -/
def unE (P : Ev) (S : Sx) : UnaryOp → Expr → EF
  | .Not, a => notE (pV P S a)
  | .USub, a => negE (pV P S a)
  | _, _ => failE
theorem unE_ok (h : EvOk F P) (C : CxS F S X) {op : UnaryOp} {a : Expr} {pos : Pos} : SoundE X (.UnaryOp op a pos) (unE P S op a) := by
  cases op with
  | Not => exact s_notE (pV_ok h C a)
  | USub => exact s_negE (pV_ok h C a)
  | _ => exact s_fail
def boE (P : Ev) (S : Sx) (pos : Pos) : BoolOp → List Expr → EF
  | _, [a] => P.e S a
  | .And, a :: b :: r => andE (pV P S a) (P.e S (.BoolOp .And (b :: r) pos))
  | .Or, a :: b :: r => orE (pV P S a) (P.e S (.BoolOp .Or (b :: r) pos))
  | _, [] => failE
theorem boE_ok (h : EvOk F P) (C : CxS F S X) {op : BoolOp} {es : List Expr} {pos : Pos} : SoundE X (.BoolOp op es pos) (boE P S pos op es) := by
  cases es with
  | nil => cases op <;> exact s_fail
  | cons a r =>
    cases r with
    | nil => cases op <;> exact s_one (h.e C a)
    | cons b r => cases op with
      | And => exact s_andE (pV_ok h C a) (h.e C _)
      | Or => exact s_orE (pV_ok h C a) (h.e C _)
def cmE (P : Ev) (S : Sx) (a : Expr) : List CmpOp → List Expr → EF
  | [op], [b] => if noSet b then blF (cmpF op (pV P S a) (pV P S b)) else failE
  | [op, op'], [b, c] => if noSet b && noSet c then blF (chainF op op' (pV P S a) (pV P S b) (pV P S c)) else failE
  | _, _ => failE
theorem cmE_ok (h : EvOk F P) (C : CxS F S X) {a : Expr} {ops : List CmpOp} {bs : List Expr} {pos : Pos} : SoundE X (.Compare a ops bs pos) (cmE P S a ops bs) := by
  unfold cmE
  split
  · exact ite_e fun c => s_cmp C c (pV_ok h C a) (pV_ok h C _)
  · exact ite_e fun c => by
      rw [Bool.and_eq_true] at c
      exact (s_chain C c.1 c.2 (pV_ok h C a) (pV_ok h C _) (pV_ok h C _)).1
  · exact s_fail
def cmT (P : Ev) (S : Sx) (a : Expr) : List CmpOp → List Expr → TF
  | [op], [b] => if noSet b then cmpF op (pV P S a) (pV P S b) else failT
  | [op, op'], [b, c] => if noSet b && noSet c then chainF op op' (pV P S a) (pV P S b) (pV P S c) else failT
  | _, _ => failT
theorem cmT_ok (h : EvOk F P) (C : CxS F S X) {a : Expr} {ops : List CmpOp} {bs : List Expr} {pos : Pos} : SoundT X (.Compare a ops bs pos) (cmT P S a ops bs) := by
  unfold cmT
  split
  · split
    · rename_i c; exact s_cmpT C c (pV_ok h C a) (pV_ok h C _)
    · exact t_fail
  · split
    · rename_i c
      rw [Bool.and_eq_true] at c
      exact (s_chain C c.1 c.2 (pV_ok h C a) (pV_ok h C _) (pV_ok h C _)).2
    · exact t_fail
  · exact t_fail
def diE (P : Ev) (S : Sx) : List (Option Expr) → List Expr → EF
  | [], [] => dict0
  | [some k], [v] => dict1 (pV P S k) (pV P S v)
  | _, _ => failE
theorem diE_ok (h : EvOk F P) (C : CxS F S X) {ks : List (Option Expr)} {vs : List Expr} {pos : Pos} : SoundE X (.Dict ks vs pos) (diE P S ks vs) := by
  unfold diE
  split
  · exact s_dict0
  · exact s_dict1 (pV_ok h C _) (pV_ok h C _)
  · exact s_fail
def partE (P : Ev) (S : Sx) : Option Expr → OF
  | none => partF none
  | some e => partF (some (pV P S e))
theorem partE_ok (h : EvOk F P) (C : CxS F S X) (o : Option Expr) : SoundO X o (partE P S o) := by
  cases o with
  | none => exact s_part0
  | some e => exact s_part (pV_ok h C e)
def suE (P : Ev) (S : Sx) (a : Expr) : Expr → EF
  | .Slice lo hi none _ => slF (pV P S a) (partE P S lo) (partE P S hi)
  | .Slice none none (some (.UnaryOp .USub (.Constant (.int 1) _ _) _)) _ => revF (pV P S a)
  | .Tuple es _ _ => if es.all noStar then ixTF (pV P S a) (argsF (es.map (P.e S))) else failE
  | i => if plainIx i then (match a with
    | .Name x _ => orElse (ixN' S x (pV P S i)) (ixG (pV P S a) (pV P S i))
    | _ => ixG (pV P S a) (pV P S i)) else failE
theorem suE_ok (h : EvOk F P) (C : CxS F S X) {a i : Expr} {pos : Pos} : SoundE X (.Subscript a i pos) (suE P S a i) := by
  unfold suE
  split
  · exact s_slice (pV_ok h C a) (partE_ok h C _) (partE_ok h C _)
  · exact s_rev (pV_ok h C a)
  · exact ite_e fun c => s_ixT C (pV_ok h C _) (args_ok h C c)
  · refine ite_e fun c => ?_
    split
    · exact s_or (s_ixN C c (pV_ok h C _)) (s_ixG C c (pV_ok h C _) (pV_ok h C _))
    · exact s_ixG C c (pV_ok h C _) (pV_ok h C _)
def isE (P : Ev) (S : Sx) (e : Expr) : Expr → EF
  | .Tuple [c, c'] _ _ => (match tyOf S c, tyOf S c' with
    | some t, some u => isiF2 t u (pV P S e)
    | _, _ => failE)
  | c => (match tyOf S c with
    | some t => isiF t (pV P S e)
    | none => failE)
def splitL : List Expr → Option (List Expr × Expr)
  | [] => none
  | [a] => some ([], a)
  | a :: b :: r => (splitL (b :: r)).map fun p => (a :: p.1, p.2)
theorem splitL_ok : ∀ {es : List Expr} {p : List Expr × Expr}, splitL es = some p → es = p.1 ++ [p.2]
  | [a], p, h => by cases h; rfl
  | a :: b :: r, p, h => by
    unfold splitL at h
    obtain ⟨q, e, rfl⟩ := map1 h
    rw [splitL_ok e]; rfl
theorem prs_ok (h : EvOk F P) (C : CxS F S X) : ∀ {es : List Expr}, es.all noStar = true → Prs X es (es.map (P.e S))
  | [], _ => .nil
  | e :: es, hs => by
    simp only [List.all_cons, Bool.and_eq_true] at hs
    exact .cons hs.1 (h.e C e) (prs_ok h C hs.2)
/-- the last argument is the def that was made here -/
def nestE (S : Sx) (es : List Expr) : Option (List Expr × Nat) := match S.nest with
  | none => none
  | some n => (match splitL es with
    | some (es', .Name y _) => if decide (y = n) then (slotOf S y).map fun i => (es', i) else none
    | _ => none)
theorem nestE_ok {es es' : List Expr} {i : Nat} (h : nestE S es = some (es', i)) : ∃ y py, es = es' ++ [.Name y py] ∧ slotOf S y = some i := by
  unfold nestE at h
  split at h
  · cases h
  · split at h
    · rename_i es2 y py e1
      split at h
      · obtain ⟨j, e2, e3⟩ := map1 h
        cases e3
        exact ⟨y, py, splitL_ok e1, e2⟩
      · cases h
    · cases h
noncomputable def caE (F : FT) (P : Ev) (S : Sx) (pos : Pos) : Expr → List Expr → List Keyword → EF
  | .Name x _, e :: es, [] =>
    if (e :: es).all noStar then
      if isFn S x then (match nestE S es with
        | some (es', i) => clF F S.made S.cap x i (argsF ((e :: es').map (P.e S)))
        | none => callF F x (argsF ((e :: es).map (P.e S))))
      else if decide (x ∈ S.hks) then (match slotOf S x with
        | some i => cloF F S.args i (argsF ((e :: es).map (P.e S)))
        | none => failE)
      else match es with
        | [] => if isB S "dict" x then dicF (pV P S e) else (match bl1 S x with
          | some .len => (match e with
            | .Name y _ => orElse (lenN S y) (bltF1 .len (pV P S e))
            | _ => bltF1 .len (pV P S e))
          | some .sorted => (match e with
            | .Call (.Name y _) [e'] [] _ => if isB2 S "sorted" x && isB2 S "set" y && noStar e' then ssF (pV P S e') else bltF1 .sorted (pV P S e)
            | _ => bltF1 .sorted (pV P S e))
          | some b => bltF1 b (pV P S e)
          | none => failE)
        | [c] => if isInst S x then isE P S e c else (match bl2 S x with
          | some b => bltF2 b (pV P S e) (pV P S c)
          | none => failE)
        | _ => failE
    else failE
  | .Attribute o m apos, [e], [] => if decide (m = "index") && noCall0 o && (apos.endLine == pos.line) && noStar e then idxF (pV P S o) (pV P S e) else failE
  | .Attribute o m apos, [], [] => if decide (m = "upper") && noCall0 o && (apos.endLine == pos.line) then upF (pV P S o) else failE
  | _, _, _ => failE
theorem isE_ok (h : EvOk F P) (C : CxS F S X) {x : Str} {e c : Expr} {p pos : Pos} (hx : isInst S x = true) (hn : noStar e = true) : SoundE X (.Call (.Name x p) [e, c] [] pos) (isE P S e c) := by
  unfold isE
  split
  · split
    · rename_i t u e1 e2; exact s_isi2 C hx e1 e2 hn (pV_ok h C e)
    · exact s_fail
  · split
    · rename_i t e1; exact s_isi C hx e1 hn (pV_ok h C e)
    · exact s_fail
theorem caE_ok (h : EvOk F P) (C : CxS F S X) {f : Expr} {as : List Expr} {ks : List Keyword} {pos : Pos} : SoundE X (.Call f as ks pos) (caE F P S pos f as ks) := by
  unfold caE
  split
  · rename_i x p e es
    refine ite_e fun c => ?_
    have c' := c
    simp only [List.all_cons, Bool.and_eq_true] at c'
    split
    · rename_i hx
      split
      · rename_i es' i e1
        obtain ⟨y, py, rfl, e2⟩ := nestE_ok e1
        rw [List.all_append, Bool.and_eq_true] at c'
        exact s_cl C hx e2 (prs_ok h C (es := e :: es') (by rw [List.all_cons, c'.1, c'.2.1]; rfl))
      · exact s_call C hx c'.1 c'.2 (args_ok h C c)
    · split
      · split
        · rename_i i e1
          exact s_clo C e1 c'.1 c'.2 (args_ok h C c)
        · exact s_fail
      split
      · split
        · rename_i hd; exact s_dic C hd c'.1 (pV_ok h C _)
        split
        · rename_i hb
          split
          · exact s_or (s_lenN C hb) (s_blt1 C hb c'.1 (pV_ok h C _))
          · exact s_blt1 C hb c'.1 (pV_ok h C _)
        · rename_i hb
          split
          · split
            · rename_i c3
              simp only [Bool.and_eq_true] at c3
              exact s_ss C c3.1.1 c3.1.2 c3.2 (pV_ok h C _)
            · exact s_blt1 C hb c'.1 (pV_ok h C _)
          · exact s_blt1 C hb c'.1 (pV_ok h C _)
        · rename_i b hb; exact s_blt1 C hb c'.1 (pV_ok h C _)
        · exact s_fail
      · rename_i cc
        have c2 : noStar cc = true := by simpa using c'.2
        split
        · rename_i hx; exact isE_ok h C hx c'.1
        · split
          · rename_i b hb; exact s_blt2 C hb c'.1 c2 (pV_ok h C _) (pV_ok h C _)
          · exact s_fail
      · exact s_fail
  · refine ite_e fun c => ?_
    simp only [Bool.and_eq_true] at c
    have em := of_decide_eq_true c.1.1.1
    subst em
    exact s_idx C c.1.1.2 c.1.2 c.2 (pV_ok h C _) (pV_ok h C _)
  · refine ite_e fun c => ?_
    simp only [Bool.and_eq_true] at c
    have em := of_decide_eq_true c.1.1
    subst em
    exact s_up c.1.2 c.2 (pV_ok h C _)
  · exact s_fail
/-! targets, iterables, comprehensions -/
def tgE (S : Sx) (tg : Expr) : Option (List Nat × GF) := tgN 2 S tg
theorem tgE_ok (C : CxS F S X) {tg : Expr} {p : List Nat × GF} (h : tgE S tg = some p) : SoundG X tg p.1 p.2 := tgN_ok C 2 h
def isTupT : Expr → Bool
  | .Tuple .. => true
  | _ => false
def itE (P : Ev) (S : Sx) (tg : Expr) (e : Expr) : IF := match e with
  | .Call (.Name x _) [a] [] _ => if isB S "range" x && noStar a then rangeF (pV P S a) else if isB S "enumerate" x && noStar a && isTupT tg then enumF (P.e S a) else plainF (P.e S e)
  | .Call (.Name x _) [a, b] [] _ => if isB S "zip" x && noStar a && noStar b && isTupT tg then zipF (P.e S a) (P.e S b) else if isB S "range" x && noStar a && noStar b then rangeF2 (pV P S a) (pV P S b) else plainF (P.e S e)
  | _ => plainF (P.e S e)
theorem itE_ok (h : EvOk F P) (C : CxS F S X) (tg e : Expr) : SoundI X tg e (itE P S tg e) := by
  unfold itE
  split
  · split
    · rename_i c; rw [Bool.and_eq_true] at c; exact s_range C c.1 c.2 (pV_ok h C _)
    · split
      · rename_i c
        simp only [Bool.and_eq_true] at c
        cases tg with
        | Tuple es k tp => exact s_enum C c.1.1 c.1.2 (h.e C _)
        | _ => cases c.2
      · exact s_iter (h.e C _)
  · split
    · rename_i c
      simp only [Bool.and_eq_true] at c
      cases tg with
      | Tuple es k tp => exact s_zip C c.1.1.1 c.1.1.2 c.1.2 (h.e C _) (h.e C _)
      | _ => cases c.2
    · split
      · rename_i c
        simp only [Bool.and_eq_true] at c
        exact s_range2 C c.1.1 c.1.2 c.2 (pV_ok h C _) (pV_ok h C _)
      · exact s_iter (h.e C _)
  · exact s_iter (h.e C _)
def isFnK : ScopeKind → Bool
  | .function => true
  | _ => false
def ifsE (P : Ev) (S : Sx) : List Expr → TF
  | [] => yesT
  | [c] => P.t S c
  | _ => failT
theorem ifsE_ok (h : EvOk F P) (C : CxS F S X) (ifs : List Expr) : SoundTs X ifs (ifsE P S ifs) ∨ ifsE P S ifs = failT := by
  cases ifs with
  | nil => exact .inl s_ifs0
  | cons c r =>
    cases r with
    | nil => exact .inl (s_ifs1 (h.t C c))
    | cons d r => exact .inr rfl
def lcOk (S : Sx) (scope : Scope) (iter : Expr) (ifs : List Expr) (sl : List Nat) : Bool :=
  isFnK scope.kind && blkC S.N S.sc scope (ownOf S.N scope.names) && noSetI iter && (sl.all fun j => decide (j ∈ (ownOf S.N scope.names).map (·.2))) && decide (ifs.length ≤ 1)
def lcE (P : Ev) (S : Sx) (elt : Expr) (gens : List Comprehension) (scope : Scope) : EF := match gens with
  | [⟨tg, iter, ifs, 0⟩] => (match tgE (S.inner scope) tg with
    | some p => if lcOk S scope iter ifs p.1 then lcF (itE P S tg iter) ((ownOf S.N scope.names).map (·.2)) p.2 (ifsE P (S.inner scope) ifs) (P.e (S.inner scope) elt) else failE
    | none => failE)
  | [⟨tg, iter, ifs, 0⟩, ⟨tg1, iter1, ifs1, 0⟩] => (match tgE (S.inner scope) tg, tgE (S.inner scope) tg1 with
    | some p, some p1 => if lcOk S scope iter ifs p.1 && lcOk S scope iter1 ifs1 p1.1 then lcF2 (itE P S tg iter) ((ownOf S.N scope.names).map (·.2)) p.2 (ifsE P (S.inner scope) ifs) (itE P (S.inner scope) tg1 iter1) p1.1 p1.2 (ifsE P (S.inner scope) ifs1) (P.e (S.inner scope) elt) else failE
    | _, _ => failE)
  | _ => failE
theorem lcOk_ok {scope : Scope} {iter : Expr} {ifs : List Expr} {sl : List Nat} (c : lcOk S scope iter ifs sl = true) : scope.kind = .function ∧ blkC S.N S.sc scope (ownOf S.N scope.names) = true ∧ noSetI iter = true ∧ (∀ j ∈ sl, j ∈ (ownOf S.N scope.names).map (·.2)) ∧ ifs.length ≤ 1 := by
  unfold lcOk at c
  simp only [Bool.and_eq_true, decide_eq_true_eq, List.all_eq_true] at c
  refine ⟨?_, c.1.1.1.2, c.1.1.2, c.1.2, c.2⟩
  have k := c.1.1.1.1
  revert k
  cases scope.kind <;> simp [isFnK]
theorem ifs_sound (h : EvOk F P) (C : CxS F S X) {ifs : List Expr} (hl : ifs.length ≤ 1) : SoundTs X ifs (ifsE P S ifs) := by
  match ifs, hl with
  | [], _ => exact s_ifs0
  | [c], _ => exact s_ifs1 (h.t C c)
theorem lcE_ok (h : EvOk F P) (C : CxS F S X) {elt : Expr} {gens : List Comprehension} {scope : Scope} {pos : Pos} : SoundE X (.ListComp elt gens scope pos) (lcE P S elt gens scope) := by
  unfold lcE
  split
  · split
    · rename_i p e1
      refine ite_e fun c => ?_
      obtain ⟨c1, c2, c3, c4, c5⟩ := lcOk_ok c
      exact s_lc C c1 c2 c3 (itE_ok h C _ _) c4 (fun X' C' _ => tgE_ok C' e1) (fun X' C' _ => ifs_sound h C' c5) (fun X' C' _ => h.e C' _)
    · exact s_fail
  · split
    · rename_i p p1 e1 e2
      refine ite_e fun c => ?_
      rw [Bool.and_eq_true] at c
      obtain ⟨c1, c2, c3, c4, c5⟩ := lcOk_ok c.1
      obtain ⟨d1, d2, d3, d4, d5⟩ := lcOk_ok c.2
      exact s_lc2 C c1 c2 c3 d3 (itE_ok h C _ _) c4 d4 (fun X' C' _ => tgE_ok C' e1) (fun X' C' _ => ifs_sound h C' c5) (fun X' C' _ => itE_ok h C' _ _) (fun X' C' _ => tgE_ok C' e2) (fun X' C' _ => ifs_sound h C' d5) (fun X' C' _ => h.e C' _)
    · exact s_fail
  · exact s_fail
noncomputable def stepE (F : FT) (P : Ev) (S : Sx) : Expr → EF
  | .Constant c _ _ => constF c
  | .Name x _ => nameF S x
  | .BinOp a op b _ => binF op (pV P S a) (pV P S b)
  | .UnaryOp op a _ => unE P S op a
  | .BoolOp op es pos => boE P S pos op es
  | .IfExp c a b _ => ifE (P.t S c) (P.e S a) (P.e S b)
  | .Compare a ops bs _ => cmE P S a ops bs
  | .Tuple es _ _ => if es.all noStar then tupF (argsF (es.map (P.e S))) else failE
  | .List es _ => if es.all noStar then lstF (argsF (es.map (P.e S))) else failE
  | .Dict ks vs _ => diE P S ks vs
  | .Subscript a i _ => suE P S a i
  | .Call f as ks pos => caE F P S pos f as ks
  | .ListComp elt gens scope _ => lcE P S elt gens scope
  | _ => failE
theorem stepE_ok (h : EvOk F P) (C : CxS F S X) (e : Expr) : SoundE X e (stepE F P S e) := by
  cases e with
  | Constant c k p => exact s_const
  | Name x p => exact s_name C
  | BinOp a op b p => exact s_bin (pV_ok h C a) (pV_ok h C b)
  | UnaryOp op a p => exact unE_ok h C
  | BoolOp op es p => exact boE_ok h C
  | IfExp c a b p => exact s_if (h.t C c) (h.e C a) (h.e C b)
  | Compare a ops bs p => exact cmE_ok h C
  | Tuple es k p => exact ite_e fun c => s_tup (args_ok h C c)
  | List es p => exact ite_e fun c => s_lst (args_ok h C c)
  | Dict ks vs p => exact diE_ok h C
  | Subscript a i p => exact suE_ok h C
  | Call f as ks p => exact caE_ok h C
  | ListComp elt gens scope p => exact lcE_ok h C
  | _ => exact s_fail
def boT (P : Ev) (S : Sx) : BoolOp → List Expr → TF
  | _, [] => failT
  | _, [a] => P.t S a
  | .And, a :: b :: r => andT (P.t S a) (boT P S .And (b :: r))
  | .Or, a :: b :: r => orT (P.t S a) (boT P S .Or (b :: r))
theorem boT_ok (h : EvOk F P) (C : CxS F S X) {op : BoolOp} {pos : Pos} : ∀ {es : List Expr}, SoundW X (.BoolOp op es pos) (boT P S op es)
  | [] => fun _ _ _ _ _ _ _ _ _ _ _ _ hf => by cases op <;> cases hf
  | [a] => by cases op with
    | And => exact s_and1 (h.t C a)
    | Or => exact s_or1 (h.t C a)
  | a :: b :: r => by cases op with
    | And => exact s_andT (h.t C a) (boT_ok h C)
    | Or => exact s_orT (h.t C a) (boT_ok h C)
noncomputable def stepT (F : FT) (P : Ev) (S : Sx) : Expr → TF
  | .UnaryOp .Not a _ => notT (P.t S a)
  | .BoolOp op es _ => boT P S op es
  | .Compare a ops bs _ => cmT P S a ops bs
  | e => if plainT e then tstF (valF (stepE F P S e)) else failT
theorem stepT_ok (h : EvOk F P) (C : CxS F S X) (e : Expr) : SoundT X e (stepT F P S e) := by
  have d : ∀ e, SoundT X e (if plainT e then tstF (valF (stepE F P S e)) else failT) := fun e => by
    split
    · rename_i c; exact s_tst c (s_val (stepE_ok h C e))
    · exact t_fail
  unfold stepT
  split
  · exact s_notT (h.t C _)
  · exact (boT_ok h C).t
  · exact cmT_ok h C
  · exact d e
end
end Iv

set_option maxHeartbeats 4000000
namespace Iv
open PySem PySem.Spec PyProof.Rows L2
variable [Nm]
/-! ### names that get away -/
def eats : List Str := ["len", "abs", "all", "list", "tuple", "str", "sum", "sorted", "isinstance", "set"]
def topx (f : Expr → List Str) : Expr → List Str
  | .Name _ _ => []
  | e => f e
def esc : Nat → Expr → List Str
  | 0, _ => []
  | _ + 1, .Name x _ => [x]
  | n + 1, .Call (.Name f _) as _ _ => if f ∈ eats then as.flatMap (topx (esc n)) else as.flatMap (esc n)
  | n + 1, .Call (.Attribute o _ _) as _ _ => topx (esc n) o ++ as.flatMap (esc n)
  | n + 1, .BinOp a _ b _ => topx (esc n) a ++ topx (esc n) b
  | n + 1, .UnaryOp _ a _ => topx (esc n) a
  | n + 1, .BoolOp _ es _ => es.flatMap (topx (esc n))
  | n + 1, .Compare a _ bs _ => topx (esc n) a ++ bs.flatMap (topx (esc n))
  | n + 1, .IfExp c a b _ => topx (esc n) c ++ esc n a ++ esc n b
  | n + 1, .Tuple es _ _ => es.flatMap (esc n)
  | n + 1, .List es _ => es.flatMap (esc n)
  | n + 1, .Subscript a i _ => topx (esc n) a ++ topx (esc n) i
  | n + 1, .Slice lo hi _ _ => (match lo with | some e => esc n e | none => []) ++ (match hi with | some e => esc n e | none => [])
  | n + 1, .ListComp elt gens _ _ => esc n elt ++ gens.flatMap fun g => esc n g.iter ++ g.ifs.flatMap (topx (esc n))
  | _, _ => []
def escS : Stmt → List Str
  | .Assign _ e _ => esc 12 e
  | .Return (some (.Name _ _)) _ => []
  | .Return (some e) _ => esc 12 e
  | .Expr (.Call (.Attribute (.Name _ _) _ _) as _ _) _ => as.flatMap (esc 12)
  | .If c _ _ _ => topx (esc 12) c
  | .While c _ _ _ => topx (esc 12) c
  | .For _ it _ _ _ => esc 12 it
  | .AugAssign _ _ e _ => esc 12 e
  | _ => []
def escI (S : Sx) (s : Stmt) : List Nat := (escS s).filterMap (slotOf S)
section
variable {F : FT} {P : Ev} {S : Sx} {X : Cx} {w : Wh}
/-! ### statements -/
def asN (P : Ev) (S : Sx) (i : Nat) : Expr → SF
  | .ListComp elt [⟨tg, iter, ifs, 0⟩] scope _ => (match tgE (S.inner scope) tg with
    | some p => if lcOk S scope iter ifs p.1 then asgF i (lcF (itE P S tg iter) ((ownOf S.N scope.names).map (·.2)) p.2 (ifsE P (S.inner scope) ifs) (P.e (S.inner scope) elt)) else failS
    | none => failS)
  | e => if noComp e then asgF i (P.e S e) else failS
theorem asN_ok (h : EvOk F P) (C : CxS F S X) {x : Str} {i : Nat} (hx : tgtSlot S x = some i) (e : Expr) {p pos : Pos} : SoundS X (.Assign [.Name x p] e pos) (asN P S i e) := by
  unfold asN
  split
  · split
    · rename_i q e1
      refine ite_s fun c => ?_
      obtain ⟨c1, c2, c3, c4, c5⟩ := lcOk_ok c
      exact ss_asgLc C c1 c2 c3 hx (itE_ok h C _ _) c4 (fun X' C' _ => tgE_ok C' e1) (fun X' C' _ => ifs_sound h C' c5) (fun X' C' _ => h.e C' _)
    · exact ss_fail
  · exact ite_s fun c => ss_asg C hx c (h.e C _)
def asT (P : Ev) (S : Sx) (ts : List Expr) (k : Nat) (pt : Pos) (v : Expr) : SF :=
  match ts, v with
  | [.Name x px, .Name y py], .Tuple [a, b] _ _ => (match tgtSlot S x, tgtSlot S y with
    | some i, some j => if swap2 S x y px py a b && decide (i ≠ j) then par2F i j (P.e S a) (P.e S b) else failS
    | _, _ => failS)
  | [.Name x px, .Name y py, .Name z pz], .Tuple [a, b, c] _ _ => (match tgtSlot S x, tgtSlot S y, tgtSlot S z with
    | some i, some j, some l => if swap3 S x y z px py pz a b c && decide (i ≠ j) && decide (i ≠ l) && decide (j ≠ l) then par3F i j l (P.e S a) (P.e S b) (P.e S c) else failS
    | _, _, _ => failS)
  | [.Subscript (.Name x _) i _, .Subscript (.Name y _) j _], v => if decide (x = y) && plainIx i && plainIx j then swF S x (P.e S v) (pV P S i) (pV P S j) else failS
  | ts, v => if noTup v then (match slotsT S ts with
    | some is => unpF (P.e S v) (unF is)
    | none => failS) else failS
theorem asT_ok (h : EvOk F P) (C : CxS F S X) (ts : List Expr) (k : Nat) (pt : Pos) (v : Expr) {pos : Pos} : SoundS X (.Assign [.Tuple ts k pt] v pos) (asT P S ts k pt v) := by
  unfold asT
  split
  · split
    · rename_i i j e1 e2
      refine ite_s fun c => ?_
      rw [Bool.and_eq_true] at c
      exact ss_par2 C c.1 e1 e2 (of_decide_eq_true c.2) (h.e C _) (h.e C _)
    · exact ss_fail
  · split
    · rename_i i j l e1 e2 e3
      refine ite_s fun c => ?_
      simp only [Bool.and_eq_true] at c
      exact ss_par3 C c.1.1.1 e1 e2 e3 (of_decide_eq_true c.1.1.2) (of_decide_eq_true c.1.2) (of_decide_eq_true c.2) (h.e C _) (h.e C _) (h.e C _)
    · exact ss_fail
  · refine ite_s fun c => ?_
    simp only [Bool.and_eq_true] at c
    have e1 := of_decide_eq_true c.1.1
    subst e1
    exact ss_sw C c.1.2 c.2 (h.e C _) (pV_ok h C _) (pV_ok h C _)
  · refine ite_s fun c => ?_
    split
    · rename_i is e1
      exact ss_unp c (h.e C _) (g_tup C e1)
    · exact ss_fail
def isD0 : Expr → Bool
  | .Dict [] [] _ => true
  | _ => false
theorem isD0_ok {e : Expr} (h : isD0 e = true) : ∃ pos, e = .Dict [] [] pos := by
  unfold isD0 at h
  split at h
  · exact ⟨_, rfl⟩
  · cases h
def asE (P : Ev) (S : Sx) : List Expr → Expr → SF
  | [.Name x _], e => (match tgtSlot S x with
    | some i => if isD0 e && decide (x ∈ S.tks) then asgF i dict0T else asN P S i e
    | none => failS)
  | [.Tuple ts k pt], v => asT P S ts k pt v
  | [.Subscript (.Name x _) (.Tuple es _ _) _], e => (match slotOf S x with
    | some n => if es.all noStar && noComp e then setTF n (P.e S e) (argsF (es.map (P.e S))) else failS
    | none => failS)
  | [.Subscript (.Name x _) i _], e => if plainIx i && noComp e then setN S x (P.e S e) (pV P S i) else failS
  | _, _ => failS
theorem asE_ok (h : EvOk F P) (C : CxS F S X) {ts : List Expr} {v : Expr} {pos : Pos} : SoundS X (.Assign ts v pos) (asE P S ts v) := by
  unfold asE
  split
  · split
    · rename_i i e1
      split
      · rename_i c
        rw [Bool.and_eq_true] at c
        obtain ⟨pos', rfl⟩ := isD0_ok c.1
        exact ss_asg C e1 rfl s_dict0T
      · exact asN_ok h C e1 _
    · exact ss_fail
  · exact asT_ok h C _ _ _ _
  · split
    · rename_i n e1
      refine ite_s fun c => ?_
      rw [Bool.and_eq_true] at c
      exact ss_setT C e1 c.2 (h.e C _) (args_ok h C c.1)
    · exact ss_fail
  · refine ite_s fun c => ?_
    rw [Bool.and_eq_true] at c
    exact ss_setN C c.1 c.2 (h.e C _) (pV_ok h C _)
  · exact ss_fail
def exE (P : Ev) (S : Sx) : Expr → SF
  | .Call (.Attribute (.Name x _) m apos) [e] [] cpos => if decide (m = "append") && (apos.endLine == cpos.line) && noStar e then appF S x (P.e S e) else failS
  | .Constant (.str _) _ _ => skipS
  | _ => failS
theorem exE_ok (h : EvOk F P) (C : CxS F S X) {e : Expr} {pos : Pos} : SoundS X (.Expr e pos) (exE P S e) := by
  unfold exE
  split
  · refine ite_s fun c => ?_
    simp only [Bool.and_eq_true] at c
    have em := of_decide_eq_true c.1.1
    subst em
    exact ss_app C c.1.2 c.2 (h.e C _)
  · intro β Oo H0 O σ H env env' st st' o D rel hf q
    cases hf
    exact ps_doc.ws (q _ _ _ rel (Same.refl _))
  · exact ss_fail
def stepS (w : Wh) (P : Ev) (S : Sx) : Stmt → SF
  | .Assign ts v _ => asE P S ts v
  | .Expr e _ => exE P S e
  | .Return (some (.Name x p)) _ => retN S x (retF (P.e S (.Name x p)))
  | .Return (some e) _ => retF (P.e S e)
  | .If c a b _ => ifS (P.t S c) (P.s S a) (P.s S b)
  | .While c a [] _ => w (P.t S c) (P.s S a)
  | .For tg it a [] _ => (match tgE S tg with
    | some p => if noSetI it then forF (itE P S tg it) p.2 (P.s S a) else failS
    | none => failS)
  | .AugAssign (.Name x _) op e _ => (match tgtSlot S x with
    | some i => augF op i (pV P S e)
    | none => failS)
  | .AugAssign (.Subscript (.Name x _) i _) op e _ => (match slotOf S x with
    | some n => if plainIx i then augSF op n (pV P S i) (pV P S e) else failS
    | none => failS)
  | .Pass _ => skipS
  | .Break _ => fun env st => some (.bk, env, st)
  | .Continue _ => fun env st => some (.ct, env, st)
  | _ => failS
theorem stepS_ok (hw : WhOk w) (h : EvOk F P) (C : CxS F S X) (s : Stmt) : SoundS X s (stepS w P S s) := by
  unfold stepS
  split
  · exact asE_ok h C
  · exact exE_ok h C
  · exact ss_retN C (ss_ret (h.e C _))
  · exact ss_ret (h.e C _)
  · exact ss_if (h.t C _) (h.s C _) (h.s C _)
  · exact ss_while C hw (h.t C _) (h.s C _)
  · split
    · rename_i p e1
      exact ite_s fun c => ss_for C c (itE_ok h C _ _) (tgE_ok C e1) (h.s C _)
    · exact ss_fail
  · split
    · rename_i i e1; exact ss_aug C e1 (pV_ok h C _)
    · exact ss_fail
  · split
    · rename_i n e1; exact ite_s fun c => ss_augS C e1 c (pV_ok h C _) (pV_ok h C _)
    · exact ss_fail
  · exact ss_pass
  · exact ss_break
  · exact ss_continue
  · exact ss_fail
def bagMk : Stmt → Bool
  | .Assign [.Name _ _] (.Call (.Name f _) _ _ _) _ => decide (f = "_law_bag")
  | _ => false
def blkS (w : Wh) (P : Ev) (S : Sx) : List Stmt → SF
  | [] => skipS
  | s :: rest => if bagMk s then (match s with
    | .Assign [.Name x _] e _ => (match tgtSlot S x with
      | some i => if noComp e then bagF i (P.e S e) (P.s S rest) else failS
      | none => failS)
    | _ => failS) else seqS (frzS (escI S s) (stepS w P S s)) (P.s S rest)
theorem sss_fail {s : List Stmt} : SoundSs X s failS := fun _ _ _ _ _ _ _ _ _ _ _ _ _ h => by cases h
theorem blkS_ok (hw : WhOk w) (h : EvOk F P) (C : CxS F S X) (ss : List Stmt) : SoundSs X ss (blkS w P S ss) := by
  cases ss with
  | nil => exact ss_nil
  | cons s rest =>
    dsimp only [blkS]
    split
    · split
      · split
        · rename_i i e1
          split
          · rename_i c; exact ss_bag C e1 c (h.e C _) (h.s C _)
          · exact sss_fail
        · exact sss_fail
      · exact sss_fail
    · exact ss_cons (ss_frz _ (stepS_ok hw h C s)) (h.s C rest)
noncomputable def ev (w : Wh) (F : FT) : Nat → Ev
  | 0 => ⟨fun _ _ => failE, fun _ _ => failT, fun _ _ => failS⟩
  | n + 1 => ⟨fun S => stepE F (ev w F n) S, fun S => stepT F (ev w F n) S, fun S => blkS w (ev w F n) S⟩
theorem ev_ok (hw : WhOk w) : ∀ n, EvOk F (ev w F n)
  | 0 => ⟨fun _ _ => s_fail, fun _ _ => t_fail, fun _ _ => sss_fail⟩
  | n + 1 => ⟨fun C x => stepE_ok (ev_ok hw n) C x, fun C x => stepT_ok (ev_ok hw n) C x, fun C x => blkS_ok hw (ev_ok hw n) C x⟩
end
/-! ### defs -/
/-- a def of the text: its names by slot, its parameters -/
structure Df where
  st : Stmt
  N : List Str
  ps : List Str
  nd : Option Nd := none
  hks : List Str := []
  tks : List Str := []
def fin (o : Option (Out × Env' × BSt)) : Option (R × BSt) := o.bind fun p => (match p.1 with
      | .rt r => some (r, p.2.2)
      | .nx => some (.fz .none, p.2.2)
      | _ => none)
def env0 (n : Nat) (rs : List R) : Env' := rs.map some ++ List.replicate (n - rs.length) none
open Classical in
/-- what comes out whatever the made def's object is -/
noncomputable def uni (q : Str) (g : Addr → NdefX.NF → Option (R × BSt)) : Option (R × BSt) := if h : ∃ o, ∀ f F', F'.qual = q → g f F' = some o then some (Classical.choose h) else none
theorem uni_ok {q : Str} {g : Addr → NdefX.NF → Option (R × BSt)} {o : R × BSt} (h : uni q g = some o) (f : Addr) (F' : NdefX.NF) (hq : F'.qual = q) : g f F' = some o := by
  unfold uni at h
  split at h
  · rename_i z
    cases h
    exact Classical.choose_spec z f F' hq
  · cases h
theorem uni_eq {q : Str} {g : Addr → NdefX.NF → Option (R × BSt)} {o : R × BSt} (h : ∀ f F', F'.qual = q → g f F' = some o) : uni q g = some o := by
  unfold uni
  have ex : ∃ o, ∀ f F', F'.qual = q → g f F' = some o := ⟨o, h⟩
  rw [dif_pos ex]
  have a := Classical.choose_spec ex 0 (NdefX.NF.of (.Pass ⟨0, 0, 0, 0⟩) q q [] 0) rfl
  have b := h 0 (NdefX.NF.of (.Pass ⟨0, 0, 0, 0⟩) q q [] 0) rfl
  rw [b] at a
  exact a.symm
noncomputable def runDf (w : Wh) (F : FT) (gl : Str → Option Gv) (n : Nat) (d : Df) (rs : List R) (st : BSt) : Option (R × BSt) :=
  if rs.length = d.ps.length then (match d.nd with
    | none => fin ((ev w F n).s { N := d.N, sc := defScope d.st, gl := gl, args := rs, hks := d.hks, tks := d.tks } (defBody d.st) (env0 d.N.length rs) st)
    | some nd => uni nd.q fun f F' => fin ((ev w F n).s { N := d.N, sc := defScope d.st, gl := gl, made := [.fnc f F' [] []], cap := nd.cap, nest := some nd.name, tks := d.tks } (defBody d.st).tail ((env0 d.N.length rs).set nd.ix (some (.fnc f F' [] []))) st))
  else none
noncomputable def runNd (w : Wh) (F : FT) (gl : Str → Option Gv) (n : Nat) (nd : Nd) (rs : List R) (st : BSt) : Option (R × BSt) :=
  if rs.length = nd.ps.length + nd.fr.length then fin ((ev w F n).s { N := nd.N, sc := C8.fnScope nd.st, gl := gl, blk := true } (C8.fnBody nd.st) (env0 nd.N.length rs) st) else none
section
variable {P : Program} {w : World} {K : PySem.W.Frag} {mg : Str → Option Value} {base : Heap}
theorem args_slots {β : Option Addr} {Oo : Addr → Prop} {H : Hp} : ∀ {vs : List V} {rs : List R}, ArgsAt K β Oo H vs rs → ∀ (i : Nat) r, rs[i]? = some r → ∃ v, vs[i]? = some v ∧ ArgAt K β Oo H v r
  | _, _, .nil, i, r, e => by simp at e
  | _, _, .cons a b, 0, r, e => by simp at e; subst e; exact ⟨_, rfl, a⟩
  | _, _, .cons a b, i + 1, r, e => by
    obtain ⟨v, h1, h2⟩ := args_slots b i r (by simpa using e)
    exact ⟨v, by simpa using h1, h2⟩
theorem args_app {β : Option Addr} {Oo : Addr → Prop} {H : Hp} : ∀ {vs ws : List V} {rs qs : List R}, ArgsAt K β Oo H vs rs → ArgsAt K β Oo H ws qs → ArgsAt K β Oo H (vs ++ ws) (rs ++ qs)
  | _, _, _, _, .nil, h => h
  | _, _, _, _, .cons a b, h => .cons a (args_app b h)
theorem args_rp {β : Option Addr} {Oo : Addr → Prop} {H : Hp} : ∀ {ws : List V} {ds : List D}, RpAll K (Fz Oo H) ws ds → ArgsAt K β Oo H ws (ds.map .fz)
  | _, _, .nil => .nil
  | _, _, .cons a b => .cons ⟨(fun _ z => by cases z), a⟩ (args_rp b)
/-- a def's slots at its entry -/
theorem rel_start {β : Option Addr} {Oo : Addr → Prop} {H : Hp} {N : List Str} {vs : List V} {rs : List R} {st : BSt} (av : ArgsAt K β Oo H vs rs) (hN : rs.length ≤ N.length) (hb : ∀ b, β = some b → Oo b) (hO : ∀ a, Oo a → ∃ o, H a = some o ∧ plainO o = true) (bg : BagAt β H st) (tb : NdefX.TabsN Tb0 H) :
    Rel K β Oo H Oo (L2.start N vs) H (env0 N.length rs) st := by
  have hl : vs.length = rs.length := paired_length av
  have no : ∀ (i : Nat) d1, (env0 N.length rs)[i]? = some (some (.ow d1)) → False := fun i d1 h1 => by
    unfold env0 at h1
    rcases Nat.lt_or_ge i rs.length with hi | hi
    · rw [List.getElem?_append_left (by simpa using hi), List.getElem?_map] at h1
      obtain ⟨r2, e2, e3⟩ := map1 h1
      cases e3
      obtain ⟨v, _, h2⟩ := args_slots av i _ e2
      exact h2.1 _ rfl
    · rw [List.getElem?_append_right (by simpa using hi), List.getElem?_replicate] at h1
      split at h1 <;> cases h1
  exact {
    sl := fun i r' e => by
      unfold env0 at e
      rcases Nat.lt_or_ge i rs.length with hi | hi
      · rw [List.getElem?_append_left (by simpa using hi), List.getElem?_map] at e
        obtain ⟨r2, e2, e3⟩ := map1 e
        cases e3
        obtain ⟨v, h1, h2⟩ := args_slots av i r' e2
        refine ⟨v, ?_, h2.2⟩
        unfold L2.start
        rw [List.getElem?_append_left (by rw [List.length_map, hl]; exact hi), List.getElem?_map, h1]; rfl
      · rw [List.getElem?_append_right (by simpa using hi), List.getElem?_replicate] at e
        split at e <;> cases e
    ne := fun i j d1 d2 a _ h1 _ _ => (no i d1 h1).elim
    fr := fun i d1 a h1 _ => (no i d1 h1).elim
    len := by
      unfold L2.start env0
      simp only [List.length_append, List.length_map, List.length_replicate]
      omega
    sub := fun _ z => z
    dom := hO
    dom0 := fun a h z => by
      obtain ⟨o, e, _⟩ := hO a h
      rw [e] at z; cases z
    sb := SB.refl
    bag := bg
    bO := hb
    tabs := tb }
/-- fn_of, where the promise asks of the heap and of the callers -/
theorem fn_ofS {k : Nat} {f : Addr} {name qual : Str} {params : Arguments} {body : List Stmt} {scope : Scope} {dV kV doc pm cdv ct oc : Value} {an od : Option Addr}
    {osl : Array (Option Value)} {N ps : List Str} {sp : SpS} (lk : K.lookup f = some ⟨oc, od, .func (PySem.W.fnOf name qual params body scope dV kV doc pm an cdv ct), osl⟩) (hcd : PySem.W.codeIn K cdv qual = true) (S : FnScope N ps scope)
    (len : ∀ outer s vs H Q E, sp outer s vs H Q E → vs.length = ps.length)
    (hbody : ∀ (A : Around) (outer : List Env) (s : Shared) (H : Hp) (vs : List V) (Q : VK) (E : XK), Room k (A.deeper (envOfC qual scope s.heap.objs.size f cdv)) → Env0 P w K mg base A outer s H → sp outer s vs H Q E →
      ∃ t, PSs (cxOf CX0 P w K mg base N qual scope f cdv A outer s H E) body t ∧ t { nx := fun _ H' => Q .non H', rt := Q } (L2.start N vs) H) :
    FnOkS P w K mg base (k + 1) f (PySem.W.fnOf name qual params body scope dV kV doc pm an cdv ct) ps sp := by
  refine ⟨len, fun A outer s H args us vs Q E hr e0 hb r hsp => ?_⟩
  have hl := len _ _ _ _ _ _ hsp
  have KX : K.In s.heap := e0.mod.kin.keeps fun b o e => (e0.bs b o e).1
  have lim : s.heap.NoLimit := e0.mod.nolimit.keeps fun b o e => (e0.bs b o e).1
  have hkind : ∀ y ∈ ps.zip us, scope.names.lookup y.1 = some .local ∨ (scope.names.lookup y.1 = some .cell ∧ ((cellsFrom (s.heap.objs.size + 1) scope.names []).lookup y.1).isSome = true) := fun ⟨n, v⟩ hy => by
    rcases S.par n (List.of_mem_zip hy).1 with q | q
    · exact .inl q
    · exact .inr ⟨q, PySem.W.cellsFrom_some _ _ _ (.inl q)⟩
  refine codeAny_call_function hr.depth (KX _ _ lk) rfl S.co S.gen rfl (PySem.W.codeRec_of KX hcd) (hb _ _ _ _ ?_)
  refine wpAny_newFunctionEnv_cells S.kind hkind fun env he s1 x => ?_
  subst he
  refine ⟨lim.keeps x.toInCall.keep, codeAny_func ?_⟩
  obtain ⟨t, ht, hq⟩ := hbody A outer s H vs Q E (hr.deeper _) e0 hsp
  have I : Inv (cxOf CX0 P w K mg base N qual scope f cdv A outer s H E) [] (L2.start N vs) H s1 := inv_start S hr.hd e0 hl r x
  refine wpAny_mono (ht.run [] s1 (L2.start N vs) H _ I hq) (fun fl s' hs => ?_) fun e s' hs => hs
  have fin : ∀ {σ' : L2.St} {H' : Hp} {v : V} {u : Value}, Inv (cxOf CX0 P w K mg base N qual scope f cdv A outer s H E) [] σ' H' s' → RelV v u → Q v H' → CE outer P w H s Q u s' :=
    fun {σ' H' v u} J rv q => ⟨v, H', J.os, J.bare, J.base, J.hok, rv, q⟩
  cases fl with
  | ret u =>
    obtain ⟨v, σ', H', J, rv, q⟩ := hs
    exact fin J rv q
  | next =>
    obtain ⟨σ', H', J, q⟩ := hs
    exact fin (v := V.non) (u := Value.none) J rfl q
  | brk =>
    obtain ⟨_, _, _, q⟩ := hs
    exact False.elim q
  | cont =>
    obtain ⟨_, _, _, q⟩ := hs
    exact False.elim q
/-! ### what a table says of its defs within defs -/
structure NdOk (nd : Nd) : Prop where
  sc : NdefX.NScope nd.N nd.ps nd.fr (C8.fnScope nd.st)
  bi : ∀ (q : Str) (cl : List (Str × Addr)) (c : Addr) (doc pm ctv : Value) (us : List Value), us.length = nd.ps.length → bindArgs ((NdefX.NF.of nd.st nd.name q cl c).fd doc pm ctv) ⟨us, []⟩ = pure (nd.ps.zip us)
structure NdIn (x : Str) (d : Df) (nd : Nd) : Prop where
  hd : defBody d.st = nd.st :: (defBody d.st).tail
  q : nd.q = x ++ ".<locals>." ++ nd.name
  nds : Nm.nds nd.q = some nd
  st : ∃ pos : Pos, nd.st = .FunctionDef nd.name (C8.fnArgs nd.st) (C8.fnBody nd.st) [] none [] (C8.fnScope nd.st) none nd.name pos ∧ Nm.nm pos.line pos.col = nd.q
  free : NdefX.ndefB (defScope d.st) (C8.fnScope nd.st) nd.fr = true
  d0 : (C8.fnArgs nd.st).defaults = []
  k0 : (C8.fnArgs nd.st).kw_defaults = []
  ann : ∀ env, annTrees (C8.fnArgs nd.st) none env = []
  ix : d.N[nd.ix]? = some nd.name
  loc : (defScope d.st).names.lookup nd.name = some .local
  cap : nd.cap.map (fun j => d.N[j]?) = nd.fr.map some
/-- the globals of the module, read once: all but the room -/
structure Glb (P : Program) (w : World) (K : PySem.W.Frag) (mg : Str → Option Value) (base : Heap) (gl : Str → Option Gv) (F : FT) (k : Nat) : Prop where
  blt : ∀ x, gl x = some .blt → mg x = none
  cst : ∀ x d, gl x = some (.cst d) → ∃ v u, mg x = some u ∧ RelV v u ∧ ∀ H, Rp K H v d
  fn : ∀ x, gl x = some .fn → ∃ f fd ps, mg x = some (.ref f) ∧ PySem.W.keepIn K (.ref f) = true ∧ Binds K fd ps [] ∧ FnOkS P w K mg base k f fd ps (spI K ps.length (F x)) ∧ ∀ rs st r, F x rs st = some r → rs.length = ps.length
  nf : ∀ q nd, Nm.nds q = some nd → ∀ f cl c, NdefX.NOk P w K mg base CX0 k f (NdefX.NF.of nd.st nd.name q cl c) nd.ps nd.fr (spN K nd.ps.length (F q)) ∧ ∀ rs st r, F q rs st = some r → rs.length = nd.ps.length + nd.fr.length
end
end Iv

set_option maxHeartbeats 4000000
namespace Iv
open PySem PySem.Spec PyProof.Rows L2
variable [Nm]
section
variable {P : Program} {w : World} {K : PySem.W.Frag} {mg : Str → Option Value} {base : Heap}
theorem fin_some {o : Option (Out × Env' × BSt)} {r : R × BSt} (h : fin o = some r) : ∃ p, o = some p ∧ (match p.1 with
      | .rt r => some (r, p.2.2)
      | .nx => some (.fz .none, p.2.2)
      | _ => none) = some r := by
  unfold fin at h
  obtain ⟨p, e, h⟩ := bind1 h
  exact ⟨p, e, h⟩
theorem gl_of {F : FT} {gl : Str → Option Gv} {k : Nat} (G : Glb P w K mg base gl F k) {X : Cx} (e1 : X.prog = P) (e2 : X.w = w) (e3 : X.K = K) (e4 : X.mg = mg) (e5 : X.base = base) (hr : Room k X.A) (y : Str) (g : Gv) (e : gl y = some g) : GvOk X F y g := by
  subst e1 e2 e3 e4 e5
  cases g with
  | blt => exact G.blt y e
  | cst dd => exact G.cst y dd e
  | fn =>
    obtain ⟨f', fd', ps', h1, h2, h3, h4, h5⟩ := G.fn y e
    exact ⟨k, f', fd', ps', h1, h2, h3, hr, h4, h5⟩
/-- a def within a def keeps its promise -/
theorem nd_ok {wh : Wh} (hw : WhOk wh) {F : FT} {gl : Str → Option Gv} {k : Nat} (G : Glb P w K mg base gl F k) (n : Nat) {nd : Nd} (ok : NdOk nd) (q : Str) (f : Addr) (cl : List (Str × Addr)) (c : Addr) :
    NdefX.NOk P w K mg base CX0 (k + 1) f (NdefX.NF.of nd.st nd.name q cl c) nd.ps nd.fr (spN K nd.ps.length (runNd wh F gl n nd)) := by
  refine NdefX.nok_of (N := nd.N) ok.sc (fun doc pm ctv us hl => ok.bi q cl c doc pm ctv us hl) (fun ws vs H Q E h => h.1) fun A outer s H vs wo Q E hr hf hc hlw h => ?_
  obtain ⟨hl, β, Oo, rs, ws, ds, st, r, st', rfl, av, rp, hb, hO, bg, tb, hf2, q2⟩ := h
  unfold runNd at hf2
  have hrl : (rs ++ ds.map R.fz).length = nd.ps.length + nd.fr.length := by
    rw [List.length_append, List.length_map, ← paired_length av, hl, ← rp.length]
    rw [List.length_map] at hlw
    omega
  rw [if_pos hrl] at hf2
  obtain ⟨⟨o, env', st1⟩, e1, hf2⟩ := fin_some hf2
  let X := (NdefX.ncx CX0 P w K mg base nd.N (NdefX.NF.of nd.st nd.name q cl c) f A outer s H E).nox
  have C : CxS F { N := nd.N, sc := C8.fnScope nd.st, gl := gl, blk := true } X := {
    N := rfl
    sc := rfl
    calm := rfl
    nd := ok.sc.nd
    hu := by
      have h1 := hr.un
      show (A.deeper _).units + 65 < cLine
      omega
    fn := fun h => by cases h
    cel := fun _ h => by cases h
    gl := fun y g e => gl_of G rfl rfl rfl rfl rfl hr y g e
    xe := rfl
    kind := ok.sc.kind
    clo := fun _ _ _ _ h => by cases h
    mad := fun _ _ h => by cases h }
  refine ⟨_, PSs.nox (wss_pss X (C8.fnBody nd.st)), ?_⟩
  have hN : nd.ps.length + nd.fr.length ≤ nd.N.length := by
    have := congrArg List.length ok.sc.pre
    rw [List.length_take, List.length_append] at this
    omega
  have rel := rel_start (N := nd.N) (st := st) (args_app av (args_rp rp)) (by rw [hrl]; exact hN) hb hO bg tb
  have es : L2.start nd.N (vs ++ ws) = NdefX.startF nd.N vs (ws.map some) := by
    unfold L2.start NdefX.startF
    rw [List.map_append, List.append_assoc, List.length_append, List.length_map, Nat.sub_sub]
  rw [es] at rel
  refine (ev_ok hw n).s C (C8.fnBody nd.st) rel e1 ?_
  cases o with
  | rt r' => cases hf2; exact fun v H' s1 b1 r1 => q2 v H' s1 b1 r1
  | nx => cases hf2; exact fun σ' H' O' r1 s1 => q2 _ H' r1.sb r1.bag .non
  | bk => cases hf2
  | ct => cases hf2
/-- a plain def keeps its promise -/
theorem df_ok {wh : Wh} (hw : WhOk wh) {F : FT} {gl : Str → Option Gv} {k : Nat} (G : Glb P w K mg base gl F k) {x : Str} {d : Df} {f : Addr} {fd : FuncData} (n : Nat) (U : FunD K x x (defArgs d.st) (defBody d.st) (defScope d.st) [] [] f fd) (Sc : FnScope d.N d.ps (defScope d.st)) (hnd : d.nd = none) :
    FnOkS P w K mg base (k + 1) f fd d.ps (spI K d.ps.length (runDf wh F gl n d)) := by
  obtain ⟨oc, od, dV, kV, doc, pm, an, cdv, ct, osl, rfl, lk, hcd, _, _⟩ := U.ex
  refine fn_ofS lk hcd Sc (fun outer s vs H Q E h => h.1) (fun A outer s H vs Q E hr e0 h => ?_)
  obtain ⟨hl, β, Oo, vs1, rs, cv, st, r, st', rfl, av, nf, hcv, hb, hO, bg, tb, hf, q⟩ := h
  have av' : ArgsAt K β Oo H (vs1 ++ cvV cv) (rs ++ cvR cv) := by
    refine args_app av ?_
    cases cv with
    | none => exact .nil
    | some c => exact .cons ⟨(fun _ z => by cases z), rfl, hcv.1⟩ .nil
  unfold runDf at hf
  have hrl : (rs ++ cvR cv).length = d.ps.length := by rw [← paired_length av']; exact hl
  rw [if_pos hrl, hnd] at hf
  obtain ⟨⟨o, env', st1⟩, e1, hf⟩ := fin_some hf
  let X := (cxOf CX0 P w K mg base d.N x (defScope d.st) f cdv A outer s H E).nox
  have C : CxS F { N := d.N, sc := defScope d.st, gl := gl, args := rs ++ cvR cv, hks := d.hks, tks := d.tks } X := {
    N := rfl
    sc := rfl
    calm := rfl
    nd := Sc.nd
    hu := by
      have h1 := hr.un
      show (A.deeper (envOfC x (defScope d.st) s.heap.objs.size f cdv)).units + 65 < cLine
      omega
    fn := fun _ _ => rfl
    cel := fun _ h => by cases h
    gl := fun y g e => gl_of G rfl rfl rfl rfl rfl hr y g e
    xe := rfl
    kind := Sc.kind
    clo := fun f' F' ws ds hm => by
      rcases List.mem_append.mp hm with hm | hm
      · exact (nf _ _ _ _ hm).elim
      · cases cv with
        | none => cases hm
        | some c =>
          obtain ⟨c1, c2, c3, c4⟩ := c
          have e := List.mem_singleton.mp hm
          cases e
          obtain ⟨_, nd, cl, cc, h1, h2, h3, h4⟩ := hcv
          obtain ⟨g1, g2⟩ := G.nf _ _ h1 c1 cl cc
          have h2 : c2 = NdefX.NF.of nd.st nd.name c2.qual cl cc := h2
          rw [← h2] at g1
          exact ⟨k, nd, hr, g1, g2, h3, fun y c e => ⟨h4 y c e, fun z => by cases z⟩⟩
    mad := fun _ _ h => by cases h }
  refine ⟨_, PSs.nox (wss_pss X (defBody d.st)), ?_⟩
  have hNl : d.ps.length ≤ d.N.length := by have := congrArg List.length Sc.pre; rw [List.length_take] at this; omega
  have rel := rel_start (N := d.N) (st := st) av' (by rw [hrl]; exact hNl) hb hO bg tb
  refine (ev_ok hw n).s C (defBody d.st) rel e1 ?_
  cases o with
  | rt r' => cases hf; exact fun v H' s1 b1 r1 => q v H' s1 b1 r1
  | nx => cases hf; exact fun σ' H' O' r1 s1 => q _ H' r1.sb r1.bag .non
  | bk => cases hf
  | ct => cases hf
end
end Iv

set_option maxHeartbeats 4000000
namespace Iv
open PySem PySem.Spec PyProof.Rows L2
variable [Nm]
theorem cells_above : ∀ (names : List (Str × NameKind)) (n : Nat) (acc : List (Str × Addr)) (m : Nat), m ≤ n → (∀ q ∈ acc, m ≤ q.2) → ∀ q ∈ cellsFrom n names acc, m ≤ q.2
  | [], _, acc, m, _, h, q, hq => h q hq
  | (x, k) :: r, n, acc, m, hn, h, q, hq => by
    unfold cellsFrom at hq
    cases k with
    | cell =>
      refine cells_above r (n + 1) ((x, n) :: acc) m (by omega) (fun q' hq' => ?_) q hq
      rcases List.mem_cons.mp hq' with rfl | hq'
      · exact hn
      · exact h q' hq'
    | _ => exact cells_above r n acc m hn h q hq
section
variable {P : Program} {w : World} {K : PySem.W.Frag} {mg : Str → Option Value} {base : Heap}
/-- a def that makes a def keeps its promise -/
theorem dfn_ok {wh : Wh} (hw : WhOk wh) {F : FT} {gl : Str → Option Gv} {k : Nat} (G : Glb P w K mg base gl F k) {x : Str} {d : Df} {fd : FuncData} (n : Nat) (U : FunD K x x (defArgs d.st) (defBody d.st) (defScope d.st) [] [] (He.ga K x) fd) (Sc : FnScope d.N d.ps (defScope d.st)) {nd : Nd} (hnd : d.nd = some nd) (I : NdIn x d nd)
    (TB : LamX.TabB base mg (He.cT K (x, none)).1 (He.cT K (x, none)).2) (hTm : (He.cT K (x, none)).2 ∈ Nm.tabs) :
    FnOkS P w K mg base (k + 1) (He.ga K x) fd d.ps (spI K d.ps.length (runDf wh F gl n d)) := by
  obtain ⟨oc, od, dV, kV, doc, pm, an, cdv, ct, osl, rfl, lk, hcd, _, _⟩ := U.ex
  refine fn_ofS lk hcd Sc (fun outer s vs H Q E h => h.1) (fun A outer s H vs Q E hr e0 h => ?_)
  obtain ⟨hl, β, Oo, vs1, rs, cv, st, r, st', rfl, av, nf, hcv, hb, hO, bg, tb, hf, q⟩ := h
  have av' : ArgsAt K β Oo H (vs1 ++ cvV cv) (rs ++ cvR cv) := by
    refine args_app av ?_
    cases cv with
    | none => exact .nil
    | some c => exact .cons ⟨(fun _ z => by cases z), rfl, hcv.1⟩ .nil
  unfold runDf at hf
  have hrl : (rs ++ cvR cv).length = d.ps.length := by rw [← paired_length av']; exact hl
  rw [if_pos hrl, hnd] at hf
  let X := (cxOf CX0 P w K mg base d.N x (defScope d.st) (He.ga K x) cdv A outer s H E).nox
  have hNl : d.ps.length ≤ d.N.length := by have := congrArg List.length Sc.pre; rw [List.length_take] at this; omega
  have rel := rel_start (N := d.N) (st := st) av' (by rw [hrl]; exact hNl) hb hO bg tb
  obtain ⟨pos, hst, hnm⟩ := I.st
  obtain ⟨c, rfl⟩ := He.codeIn_ref hcd
  have ec : (He.cT K (x, none)).1 = c := He.codeOf_eq (p := (x, none)) lk rfl
  have hfree := NdefX.ndef_free I.free
  have hfr := NdefX.ndef_fr I.free
  have hq : X.env.qual ++ nd.name = nd.q := I.q.symm
  rw [ec] at TB
  have PS1 := NdefX.ps_ndefMS (X := X) (T := Tb0) (nm := Nm.nm) (name := nd.name) (i := nd.ix) hst TB rfl (List.mem_map_of_mem hTm) (by rw [hq]; exact hnm) (fun p hp _ => by
      obtain ⟨P', _, rfl⟩ := List.mem_map.mp hp
      rfl) hfree I.d0 I.k0 (I.ann _) Sc.nd I.ix (.inl I.loc) (.inl rfl)
  refine ⟨tSeq (NdefX.tNdefM Tb0 nd.ix (NdefX.NF.of nd.st nd.name (X.env.qual ++ nd.name) (cloFrom X.env.cells (C8.fnScope nd.st).names []))) (Wss X (defBody d.st).tail), ?_, ?_⟩
  · have := PSs.nox (X := cxOf CX0 P w K mg base d.N x (defScope d.st) (He.ga K x) (.ref c) A outer s H E) (pss_cons PS1 (wss_pss X (defBody d.st).tail))
    rw [← I.hd] at this
    exact this
  refine ⟨tb, fun fa c' H1 eN nn T1 f0 f1 c1 => ?_⟩
  have hq' : (NdefX.NF.of nd.st nd.name (X.env.qual ++ nd.name) (cloFrom X.env.cells (C8.fnScope nd.st).names []) c').qual = nd.q := hq
  have hf := uni_ok hf fa _ hq'
  obtain ⟨⟨o, env', st1⟩, e1, hf⟩ := fin_some hf
  have sb : SB β H H1 := ⟨fun a o _ t e => eN a o e (fun ps z => by rw [z] at t; cases t), fun a _ e => nn a e, fun _ => T1⟩
  have bg1 : BagAt β H1 st := bg.mono fun b o hb' e => by
    obtain ⟨g, s', _, e2⟩ := bg.get hb'
    rw [e2] at e
    cases e
    exact eN _ _ e2 (fun ps z => by cases z)
  have rel1 := rel.step sb bg1
  have rel2 := rel1.put (v := .ref fa) (x := .fnc fa (NdefX.NF.of nd.st nd.name (X.env.qual ++ nd.name) (cloFrom X.env.cells (C8.fnScope nd.st).names []) c') [] []) nd.ix ⟨rfl, (fun z => by obtain ⟨o, e, _⟩ := hO fa (hb fa z); rw [f0] at e; cases e), (fun z => by
      obtain ⟨g, s', _, e2⟩ := bg1.get z
      have c1' : H1 c' = _ := c1
      have e2' : H1 c' = _ := e2
      rw [c1'] at e2'
      cases e2'), f1, c1, .nil⟩ (fun _ z => by cases z)
  have C : CxS F { N := d.N, sc := defScope d.st, gl := gl, made := [.fnc fa (NdefX.NF.of nd.st nd.name (X.env.qual ++ nd.name) (cloFrom X.env.cells (C8.fnScope nd.st).names []) c') [] []], cap := nd.cap, nest := some nd.name, tks := d.tks } X := {
    N := rfl
    sc := rfl
    calm := rfl
    nd := Sc.nd
    hu := by
      have h1 := hr.un
      show (A.deeper (envOfC x (defScope d.st) s.heap.objs.size (He.ga K x) (.ref c))).units + 65 < cLine
      omega
    fn := fun _ _ => rfl
    cel := fun _ h => by cases h
    gl := fun y g e => gl_of G rfl rfl rfl rfl rfl hr y g e
    xe := rfl
    kind := Sc.kind
    clo := fun _ _ _ _ h => by cases h
    mad := fun f' F' hm => by
      have e := List.mem_singleton.mp hm
      cases e
      refine ⟨nd, c', by rw [hq']; exact I.nds, rfl, fun ok => ⟨fun y cc ey => ?_, NdefX.Caps.made ok hfree hfr I.cap⟩⟩
      have hf' : ∀ y ∈ (C8.fnScope nd.st).names, y.2 = .free → ∃ c, X.env.cells.lookup y.1 = some c := fun y hy e => (hfree y hy e).elim (fun z => ok.has _ (.inl z)) fun z => ok.has _ (.inr z)
      have ec2 := NdefX.clo_cm hf' ey
      have ab : s.heap.objs.size + 1 ≤ cc := cells_above (defScope d.st).names (s.heap.objs.size + 1) [] _ (Nat.le_refl _) (fun _ h => by cases h) (y, cc) (PySem.mem_of_lookup ec2)
      intro hm
      have hm : cc ∈ s.heap.objs.size :: frs outer := hm
      rcases List.mem_cons.mp hm with e | hm
      · rw [e] at ab
        exact Nat.not_succ_le_self _ ab
      · obtain ⟨_, o', ho, _⟩ := Heap.FunFrames.mem e0.funs hm
        exact Nat.lt_irrefl _ (Nat.lt_of_lt_of_le (Heap.lt_size ho) (Nat.le_of_succ_le ab)) }
  refine (ev_ok hw n).s C (defBody d.st).tail rel2 e1 ?_
  cases o with
  | rt r' =>
    cases hf
    exact fun v H' s1 b1 r1 => q v H' s1 b1 r1
  | nx => cases hf; exact fun σ' H' O' r1 s1 => q _ H' r1.sb r1.bag .non
  | bk => cases hf
  | ct => cases hf
end
end Iv

set_option maxHeartbeats 4000000
namespace Iv
open PySem PySem.Spec PyProof.Rows L2
/-! ### the table of a text -/
structure Tbl where
  dfs : List (Str × Df)
  csts : List (Str × Sum Int Str)
  tups : List (Str × List (Sum Int Str)) := []
  blts : List Str
  nfs : List (Str × Nd) := []
def cstD : Sum Int Str → D
  | .inl i => .int i
  | .inr z => .str z
def cstFa (x : Str) : Sum Int Str → He.Fa
  | .inl i => .int x i
  | .inr z => .str x z
def cstDv : Sum Int Str → He.Dv
  | .inl i => .int i
  | .inr z => .str z
def Tbl.gl (T : Tbl) (x : Str) : Option Gv := match T.dfs.lookup x with
  | some _ => some .fn
  | none => (match T.csts.lookup x with
    | some c => some (.cst (cstD c))
    | none => (match T.tups.lookup x with
      | some cs => some (.cst (.tuple (cs.map cstD)))
      | none => if x ∈ T.blts then some .blt else none))
noncomputable def Tbl.F (T : Tbl) (wh : Wh) (n : Nat) : Nat → FT
  | 0 => fun _ _ _ => none
  | k + 1 => fun x rs st => match T.dfs.lookup x with
    | some d => runDf wh (T.F wh n k) T.gl n d rs st
    | none => (T.nfs.lookup x).bind fun nd => runNd wh (T.F wh n k) T.gl n nd rs st
def Tbl.fa (T : Tbl) : List He.Fa := T.dfs.map (fun p => .glo p.1) ++ (T.csts.map (fun p => cstFa p.1 p.2) ++ (T.tups.map (fun p => .glo p.1) ++ T.blts.map .free))
def toD (p : Str × Df) : He.DefD := ⟨(p.1, none), p.1, p.1, defArgs p.2.st, defBody p.2.st, defScope p.2.st, [], []⟩
def Tbl.fn (T : Tbl) : List He.DefD := T.dfs.map toD
/-- the defs that make a def -/
def Tbl.tf (T : Tbl) : List He.Defn := T.dfs.filterMap fun p => if p.2.nd.isSome then some (p.1, none) else none
def Tbl.ex (T : Tbl) (K : PySem.W.Frag) : Bool := T.tups.all fun p => He.tupB K p.1 (p.2.map cstDv)
theorem lookup_at {β : Type} : ∀ {l : List (Str × β)} {x : Str} {d : β}, l.lookup x = some d → ∃ i : Nat, l[i]? = some (x, d)
  | (y, e) :: l, x, d, h => by
    rw [List.lookup_cons] at h
    by_cases q : x == y
    · rw [q] at h; cases h; exact ⟨0, by rw [eq_of_beq q]; rfl⟩
    · simp only [q] at h
      obtain ⟨i, hi⟩ := lookup_at h
      exact ⟨i + 1, by simpa using hi⟩
theorem rp_csts {K : PySem.W.Frag} {H : Hp} : ∀ cs : List (Sum Int Str), RpAll K H ((cs.map cstDv).map (He.Dv.v K)) (cs.map cstD)
  | [] => .nil
  | .inl i :: cs => .cons (.int i) (rp_csts cs)
  | .inr z :: cs => .cons (.str z) (rp_csts cs)
structure DefB (d : Df) : Prop where
  sc : FnScope d.N d.ps (defScope d.st)
  bi : ∀ (x : Str) (kV doc pm : Value) (an : Option Addr) (cdv ct : Value) (us : List Value), us.length = d.ps.length → bindArgs (PySem.W.fnOf x x (defArgs d.st) (defBody d.st) (defScope d.st) .none kV doc pm an cdv ct) ⟨us, []⟩ = pure (d.ps.zip us)
variable [Nm]
/-- all that is asked of a table: each def's scope, each made def -/
structure TblOk (T : Tbl) : Prop where
  df : ∀ p ∈ T.dfs, DefB p.2
  nd : ∀ p ∈ T.dfs, ∀ nd, p.2.nd = some nd → NdIn p.1 p.2 nd
  nf : ∀ q nd, Nm.nds q = some nd → T.nfs.lookup q = some nd ∧ T.dfs.lookup q = none ∧ NdOk nd
section
variable {T : Tbl} {wh : Wh} {P : Program} {w : World} {K : PySem.W.Frag} {mg : Str → Option Value} {base h : Heap}
theorem fact_of (c : He.SaysD T.fa T.fn K) {f : He.Fa} (hf : f ∈ T.fa) : f.ok K = true := by
  obtain ⟨i, hi⟩ := List.getElem?_of_mem hf
  exact c.fact i hi
theorem tf_mem {p : Str × Df} (hp : p ∈ T.dfs) {nd : Nd} (h : p.2.nd = some nd) : ((p.1, none) : He.Defn) ∈ T.tf := by
  unfold Tbl.tf
  rw [List.mem_filterMap]
  exact ⟨p, hp, by rw [h]; rfl⟩
theorem Tbl.glb1 (hw : WhOk wh) (hok : TblOk T) (c : He.SaysD T.fa T.fn K) (ce : T.ex K = true) (X : K.In h) (G : h.Ns mainGlobals mg) (TB : ∀ p ∈ T.tf, LamX.TabB base mg (He.cT K p).1 (He.cT K p).2) (hT : ∀ p ∈ T.tf, (He.cT K p).2 ∈ Nm.tabs) (n k : Nat)
    (prev : ∀ j, k = j + 1 → Glb P w K mg base T.gl (T.F wh n j) j) : Glb P w K mg base T.gl (T.F wh n k) k := {
    blt := fun x e => by
      unfold Tbl.gl at e
      split at e
      · cases e
      · split at e
        · cases e
        · split at e
          · cases e
          · split at e
            · rename_i hm
              exact He.free_ok X G (fact_of c (f := .free x) (by unfold Tbl.fa; simp [hm]))
            · cases e
    cst := fun x d e => by
      unfold Tbl.gl at e
      split at e
      · cases e
      · split at e
        · rename_i cc ec
          cases e
          obtain ⟨i, hi⟩ := lookup_at ec
          have hm : cstFa x cc ∈ T.fa := by
            unfold Tbl.fa
            simp only [List.mem_append, List.mem_map]
            exact .inr (.inl ⟨(x, cc), List.mem_of_getElem? hi, rfl⟩)
          have f := fact_of c hm
          cases cc with
          | inl j => obtain ⟨t, ht⟩ := He.int_ok X G f; exact ⟨.int j, _, ht, ⟨t, rfl⟩, fun _ => .int j⟩
          | inr z => obtain ⟨t, ht⟩ := He.str_ok X G f; exact ⟨.str z, _, ht, ⟨t, rfl⟩, fun _ => .str z⟩
        · split at e
          · rename_i cs ec
            cases e
            obtain ⟨i, hi⟩ := lookup_at ec
            have hm := List.mem_of_getElem? hi
            have g := He.glo_ok X G (fact_of c (f := .glo x) (by unfold Tbl.fa; simp only [List.mem_append, List.mem_map]; exact .inr (.inr (.inl ⟨(x, cs), hm, rfl⟩))))
            have tb := List.all_eq_true.mp ce _ hm
            exact ⟨.ref (He.ga K x), _, g, rfl, fun H => .tup (He.tupB_ok tb H) (rp_csts cs)⟩
          · split at e <;> cases e
    fn := fun x e => by
      unfold Tbl.gl at e
      split at e
      · rename_i d ed
        obtain ⟨i, hi⟩ := lookup_at ed
        have hm := List.mem_of_getElem? hi
        have g := He.glo_ok X G (fact_of c (f := .glo x) (by unfold Tbl.fa; simp only [List.mem_append, List.mem_map]; exact .inl ⟨(x, d), hm, rfl⟩))
        obtain ⟨fd, U⟩ := c.def_ i (d := toD (x, d)) (by unfold Tbl.fn; rw [List.getElem?_map, hi]; rfl)
        have U : FunD K x x (defArgs d.st) (defBody d.st) (defScope d.st) [] [] (He.ga K x) fd := U
        have ok := hok.df _ hm
        have b : Binds K fd d.ps [] := U.bindsN fun kV doc pm an cdv ct us hl => ok.bi x kV doc pm an cdv ct us hl
        refine ⟨He.ga K x, fd, d.ps, g, U.kp, b, ?_, ?_⟩
        · cases k with
          | zero =>
            refine ⟨fun outer s vs H Q E z => z.1, fun A outer s H args us vs Q E hr he hb hv z => ?_⟩
            obtain ⟨_, β, Oo, vs1, rs, cv, st, r, st', _, _, _, _, _, _, _, _, z, _⟩ := z
            cases z
          | succ k =>
            have e : T.F wh n (k + 1) x = runDf wh (T.F wh n k) T.gl n d := by
              funext rs st
              show (match T.dfs.lookup x with
                | some d => runDf wh (T.F wh n k) T.gl n d rs st
                | none => (T.nfs.lookup x).bind fun nd => runNd wh (T.F wh n k) T.gl n nd rs st) = _
              rw [ed]
            rw [e]
            cases hnd : d.nd with
            | none => exact df_ok hw (prev k rfl) n U ok.sc hnd
            | some nd => exact dfn_ok hw (prev k rfl) n U ok.sc hnd (hok.nd _ hm nd hnd) (TB _ (tf_mem hm hnd)) (hT _ (tf_mem hm hnd))
        · intro rs st r z
          cases k with
          | zero => cases z
          | succ k =>
            have z : (match T.dfs.lookup x with
                | some d => runDf wh (T.F wh n k) T.gl n d rs st
                | none => (T.nfs.lookup x).bind fun nd => runNd wh (T.F wh n k) T.gl n nd rs st) = some r := z
            rw [ed] at z
            simp only at z
            unfold runDf at z
            split at z
            · rename_i q; exact q
            · cases z
      · split at e
        · cases e
        · split at e
          · cases e
          · split at e <;> cases e
    nf := fun q nd e f cl cc => by
      obtain ⟨h1, h2, h3⟩ := hok.nf q nd e
      cases k with
      | zero =>
        refine ⟨⟨fun ws vs H Q E z => z.1, fun A outer s H us vs ws Q E _ _ _ _ _ _ z => ?_⟩, fun rs st r z => by cases z⟩
        obtain ⟨_, β, Oo, rs, ws, ds, st, r, st', _, _, _, _, _, _, _, z, _⟩ := z
        cases z
      | succ k =>
        have e : T.F wh n (k + 1) q = runNd wh (T.F wh n k) T.gl n nd := by
          funext rs st
          show (match T.dfs.lookup q with
                | some d => runDf wh (T.F wh n k) T.gl n d rs st
                | none => (T.nfs.lookup q).bind fun nd => runNd wh (T.F wh n k) T.gl n nd rs st) = _
          rw [h2, h1]; rfl
        rw [e]
        refine ⟨nd_ok hw (prev k rfl) n h3 q f cl cc, fun rs st r z => ?_⟩
        unfold runNd at z
        split at z
        · rename_i q; exact q
        · cases z }
theorem Tbl.glb (hw : WhOk wh) (hok : TblOk T) (c : He.SaysD T.fa T.fn K) (ce : T.ex K = true) (X : K.In h) (G : h.Ns mainGlobals mg) (TB : ∀ p ∈ T.tf, LamX.TabB base mg (He.cT K p).1 (He.cT K p).2) (hT : ∀ p ∈ T.tf, (He.cT K p).2 ∈ Nm.tabs) (n : Nat) : ∀ k, Glb P w K mg base T.gl (T.F wh n k) k
  | 0 => Tbl.glb1 hw hok c ce X G TB hT n 0 (fun j z => by omega)
  | k + 1 => Tbl.glb1 hw hok c ce X G TB hT n (k + 1) (fun j z => by
    have e : k = j := by omega
    subst e
    exact Tbl.glb hw hok c ce X G TB hT n k)
/-- the law's own promise, from what the evaluator says of every script -/
def spL (K : PySem.W.Frag) (m : Nat) : Sp := fun vs H Q _ => ∃ (a : Addr) (ns : List Int), vs = [.ref a] ∧ ScAt K none (fun _ => False) H a ns ∧ ns.length ≤ m ∧ NdefX.TabsN Tb0 H ∧ ∀ H', Q (.bl true) H'
theorem Tbl.law (hw : WhOk wh) (hok : TblOk T) (c : He.SaysD T.fa T.fn K) (ce : T.ex K = true) (X : K.In h) (G : h.Ns mainGlobals mg) (hT : ∀ p ∈ T.tf, (He.cT K p).2 ∈ Nm.tabs) (n k m : Nat) {f : Addr} (hfa : mg ("law" : Str) = some (.ref f)) {d : Df} (hl : T.dfs.lookup ("law" : Str) = some d) (hnd : d.nd = none) (hps : d.ps = [("script" : Str)])
    (ans : ∀ ns : List Int, ns.length ≤ m → T.F wh n k ("law" : Str) [.scr ns] none = some (.fz (.bool true), none)) :
    ∃ fd : FuncData, (∀ (s : Shared) (v : Value), BindsTo s fd ⟨[v], []⟩ [("script", v)]) ∧ ∀ base : Heap, K.In base → base.Ns mainGlobals mg → (∀ p ∈ T.tf, LamX.TabB base mg (He.cT K p).1 (He.cT K p).2) → FnOk P w K mg base CX0 k f fd ["script"] (spL K m) := by
  have ex : ∃ fd, FunD K "law" "law" (defArgs d.st) (defBody d.st) (defScope d.st) [] [] (He.ga K "law") fd := by
    obtain ⟨i, hi⟩ := lookup_at hl
    exact c.def_ i (d := toD ("law", d)) (by unfold Tbl.fn; rw [List.getElem?_map, hi]; rfl)
  obtain ⟨i, hi⟩ := lookup_at hl
  have hm := List.mem_of_getElem? hi
  have g := He.glo_ok X G (fact_of c (f := .glo "law") (by unfold Tbl.fa; simp only [List.mem_append, List.mem_map]; exact .inl ⟨("law", d), hm, rfl⟩))
  have ef := hfa.symm.trans g
  cases ef
  obtain ⟨fd, U⟩ := ex
  have ok := hok.df _ hm
  have bA := U.bindsA (ps := d.ps) fun kV doc pm an cdv ct us hl => ok.bi "law" kV doc pm an cdv ct us hl
  refine ⟨fd, fun s v => by have := bA s [v] (by rw [hps]; rfl); rw [hps] at this; exact this, fun base _ _ TB => ?_⟩
  cases k with
  | zero => exact absurd (ans [] (Nat.zero_le _)) (fun z => by cases z)
  | succ k =>
    have o := df_ok hw (Tbl.glb hw hok c ce X G TB hT n k) (P := P) (w := w) (base := base) n U ok.sc hnd
    rw [← hps]
    refine ⟨fun vs H Q E z => by obtain ⟨a, ns, rfl, _⟩ := z; rw [hps]; rfl, fun A outer s H args us vs Q E hr he hb hv z => o.run A outer s H args us vs Q E hr he hb hv ?_⟩
    obtain ⟨a, ns, rfl, hS, hlen, tbs, q⟩ := z
    refine ⟨by rw [hps]; rfl, none, fun _ => False, [.ref a], [.scr ns], none, none, .fz (.bool true), none, rfl, .cons ⟨(fun _ z => by cases z), a, rfl, hS⟩ .nil, (fun _ _ _ _ z => by simp at z), trivial, (fun _ z => by cases z), (fun _ z => z.elim), rfl, tbs, ?_, fun v H' _ _ r => ?_⟩
    · have e := ans ns hlen
      have e' : (match T.dfs.lookup ("law" : Str) with
                | some d => runDf wh (T.F wh n k) T.gl n d [.scr ns] none
                | none => (T.nfs.lookup ("law" : Str)).bind fun nd => runNd wh (T.F wh n k) T.gl n nd [.scr ns] none) = some (.fz (.bool true), none) := e
      rw [hl] at e'
      exact e'
    · cases r
      exact q H'
theorem sc_of {K : PySem.W.Frag} {H : Hp} {a : Addr} {ns : List Int} (h : SqL K H a (ns.map V.int)) : ScAt K none (fun _ => False) H a ns := by
  rcases h with (h | ⟨o, h⟩) | h
  · exact .inr (.inr ⟨(fun z => by cases z), fz_put (fun z => z) h rfl⟩)
  · exact .inl ⟨(fun z => by cases z), o, h⟩
  · exact .inr (.inl fun H' => .inr h)
end
end Iv

set_option maxHeartbeats 4000000
namespace Iv
open PySem PySem.Spec PyProof.Rows L2
variable [Nm]
/-! ### the evaluator's terms in short: what a def comes to -/
def vE (i : Nat) (env : Env') (st : BSt) : Option (R × BSt) := match env[i]? with
  | some (some (.fz d)) => some (.fz d, st)
  | some (some .bag) => some (.bag, st)
  | some (some (.scr ns)) => some (.scr ns, st)
  | _ => none
def vV (i : Nat) (env : Env') (st : BSt) : Option (D × BSt) := match env[i]? with
  | some (some (.fz d)) => some (d, st)
  | some (some (.ow d)) => some (d, st)
  | _ => none
def kE (d : D) (_ : Env') (st : BSt) : Option (R × BSt) := some (.fz d, st)
def kV' (d : D) (_ : Env') (st : BSt) : Option (D × BSt) := some (d, st)
def ixS (i : Nat) (g : VF) (env : Env') (st : BSt) : Option (R × BSt) := match env[i]? with
  | some (some .bag) => (g env st).bind fun p => (match p.2, p.1 with
    | some b, .int 0 => some (.fz (.int b.1), p.2)
    | some b, .int 1 => some (.fz (.int b.2), p.2)
    | _, _ => none)
  | some (some (.scr ns)) => (g env st).bind fun p => (match p.1 with
    | .int i => (atI ns i).map fun n => (.fz (.int n), p.2)
    | _ => none)
  | _ => none
def lenS (i : Nat) (env : Env') (st : BSt) : Option (R × BSt) := match env[i]? with
  | some (some (.scr ns)) => some (.fz (.int ns.length), st)
  | _ => none
def appS (i : Nat) (f : EF) (env : Env') (st : BSt) : Option (Out × Env' × BSt) := (f env st).bind fun p => p.1.d?.bind fun d => (match env[i]? with
    | some (some (.ow (.list ds))) => if decide (ds.length < sizeLine) then some (.nx, env.set i (some (.ow (.list (ds ++ [d])))), p.2) else none
    | _ => none)
def setS (i : Nat) (f : EF) (g : VF) (env : Env') (st : BSt) : Option (Out × Env' × BSt) := (f env st).bind fun p => p.1.d?.bind fun d => (g env p.2).bind fun q => (match env[i]? with
    | some (some (.ow (.list ds))) => (match q.1 with
      | .int k => (ixN ds.length k).map fun j => (.nx, env.set i (some (.ow (.list (ds.set j d)))), q.2)
      | _ => none)
    | some (some (.ow (.dict kds))) => (keyOf q.1).bind fun k => if decide (kds.length < sizeLine) && plainK kds then some (.nx, env.set i (some (.ow (.dict (putD kds k d)))), q.2) else none
    | some (some .bag) => (match q.2, q.1, d with
      | some b, .int 0, .int n => some (.nx, env, some (n, b.2))
      | some b, .int 1, .int n => some (.nx, env, some (b.1, n))
      | _, _, _ => none)
    | _ => none)
def retS (i : Nat) (f : SF) (env : Env') (st : BSt) : Option (Out × Env' × BSt) := match env[i]? with
    | some (some (.ow d)) => some (.rt (.ow d), env, st)
    | _ => f env st
def swS (n : Nat) (f : EF) (g1 g2 : VF) (env : Env') (st : BSt) : Option (Out × Env' × BSt) := (f env st).bind fun p => (match p.1.d? with
    | some (.tuple [d1, d2]) => (g1 env p.2).bind fun q1 => (match env[n]? with
      | some (some (.ow (.list ds))) => (match q1.1 with
        | .int k1 => (ixN ds.length k1).bind fun j1 => (g2 (env.set n (some (.ow (.list (ds.set j1 d1))))) q1.2).bind fun q2 => (match q2.1 with
          | .int k2 => (ixN ds.length k2).map fun j2 => (.nx, env.set n (some (.ow (.list ((ds.set j1 d1).set j2 d2)))), q2.2)
          | _ => none)
        | _ => none)
      | _ => none)
    | _ => none)
def runM (m n : Nat) (f : SF) (rs : List R) (st : BSt) : Option (R × BSt) :=
  if rs.length = m then (f (rs.map some ++ List.replicate (n - rs.length) none) st).bind fun p => (match p.1 with
      | .rt r => some (r, p.2.2)
      | .nx => some (.fz .none, p.2.2)
      | _ => none)
  else none
end Iv

set_option maxHeartbeats 4000000
namespace Iv
open PySem PySem.Spec PyProof.Rows L2
variable [Nm]
/-! ### what comes out, told by what is wanted of it -/
def wp {α : Type} (o : Option α) (Q : α → Prop) : Prop := ∃ a, o = some a ∧ Q a
section
variable {α β : Type}
theorem wp_some {a : α} {Q : α → Prop} : wp (some a) Q ↔ Q a := ⟨fun ⟨_, h, q⟩ => (by cases h; exact q), fun q => ⟨a, rfl, q⟩⟩
theorem wp_none {Q : α → Prop} : wp none Q ↔ False := ⟨fun ⟨_, h, _⟩ => (by cases h), fun h => h.elim⟩
theorem wp_bind {o : Option α} {f : α → Option β} {Q : β → Prop} : wp (o.bind f) Q ↔ wp o fun a => wp (f a) Q := by
  cases o with
  | none => exact ⟨fun ⟨_, h, _⟩ => (by cases h), fun ⟨_, h, _⟩ => (by cases h)⟩
  | some a => exact ⟨fun h => ⟨a, rfl, h⟩, fun ⟨b, h, q⟩ => (by cases h; exact q)⟩
theorem wp_map {o : Option α} {f : α → β} {Q : β → Prop} : wp (o.map f) Q ↔ wp o fun a => Q (f a) := by
  cases o with
  | none => exact ⟨fun ⟨_, h, _⟩ => (by cases h), fun ⟨_, h, _⟩ => (by cases h)⟩
  | some a => exact ⟨fun ⟨_, h, q⟩ => ⟨a, rfl, (by cases h; exact q)⟩, fun ⟨b, h, q⟩ => by cases h; exact ⟨_, rfl, q⟩⟩
theorem wp_mono {o : Option α} {P Q : α → Prop} (h : wp o P) (q : ∀ a, P a → Q a) : wp o Q := let ⟨a, e, p⟩ := h; ⟨a, e, q a p⟩
theorem wp_eq {o : Option α} {Q : α → Prop} {a : α} (h : o = some a) (q : Q a) : wp o Q := ⟨a, h, q⟩
theorem wp_get {o : Option α} {a : α} (h : wp o fun b => b = a) : o = some a := by obtain ⟨b, e, rfl⟩ := h; exact e
theorem wp_if {c : Prop} [Decidable c] {a b : Option α} {Q : α → Prop} : wp (if c then a else b) Q ↔ (if c then wp a Q else wp b Q) := by split <;> exact Iff.rfl
end
/-! ### statements -/
theorem wp_seq {f g : SF} {env : Env'} {st : BSt} {Q : Out × Env' × BSt → Prop} (h : wp (f env st) fun p => match p.1 with | .nx => wp (g p.2.1 p.2.2) Q | o => Q (o, p.2)) : wp (seqS f g env st) Q := by
  obtain ⟨⟨o, env1, st1⟩, e, q⟩ := h
  unfold seqS
  rw [e]
  cases o with
  | nx => exact q
  | _ => exact ⟨_, rfl, q⟩
theorem wp_frz {is : List Nat} {f : SF} {env : Env'} {st : BSt} {Q : Out × Env' × BSt → Prop} : wp (frzS is f env st) Q ↔ wp (f (frzs is env) st) Q := Iff.rfl
theorem wp_ifs {c : TF} {f g : SF} {env : Env'} {st : BSt} {Q : Out × Env' × BSt → Prop} (h : wp (c env st) fun p => if p.1 then wp (f env p.2) Q else wp (g env p.2) Q) : wp (ifS c f g env st) Q := by
  obtain ⟨⟨b, s1⟩, e, q⟩ := h
  unfold ifS
  rw [e]
  cases b <;> exact q
theorem wp_run {m n : Nat} {f : SF} {rs : List R} {st : BSt} {Q : R × BSt → Prop} (hl : rs.length = m) (h : wp (f (rs.map some ++ List.replicate (n - rs.length) none) st) fun p => match p.1 with | .rt r => Q (r, p.2.2) | .nx => Q (.fz .none, p.2.2) | _ => False) : wp (runM m n f rs st) Q := by
  obtain ⟨⟨o, env1, st1⟩, e, q⟩ := h
  unfold runM
  rw [if_pos hl, e]
  cases o with
  | rt r => exact ⟨_, rfl, q⟩
  | nx => exact ⟨_, rfl, q⟩
  | _ => exact q.elim
/-- a loop that keeps something; it may end the def -/
theorem wp_forL {g : GF} {f : SF} {I : Nat → Env' → BSt → Prop} {Q : Out × Env' × BSt → Prop} : ∀ (ds : List D) (j : Nat) (env : Env') (st : BSt), I j env st →
    (∀ i d env st, ds[i]? = some d → I (j + i) env st → ∃ env1, g d env = some env1 ∧ wp (f env1 st) fun p => match p.1 with | .nx => I (j + i + 1) p.2.1 p.2.2 | .ct => I (j + i + 1) p.2.1 p.2.2 | .bk => Q (.nx, p.2) | .rt r => Q (.rt r, p.2)) →
    (∀ env st, I (j + ds.length) env st → Q (.nx, env, st)) → wp (forL g f ds env st) Q
  | [], j, env, st, h, _, q => ⟨_, rfl, q _ _ h⟩
  | d :: ds, j, env, st, h, hb, q => by
    obtain ⟨e1, h1, ⟨o, e2, s2⟩, h2, h3⟩ := hb 0 d env st rfl h
    have ih := fun (h : I (j + 1) e2 s2) => wp_forL ds (j + 1) e2 s2 (Q := Q) h (fun i d env st hd hI => by
      have := hb (i + 1) d env st (by simpa using hd) (by rw [show j + (i + 1) = j + 1 + i by omega]; exact hI)
      rw [show j + (i + 1) + 1 = j + 1 + i + 1 by omega] at this
      exact this) (fun env st hI => q env st (by rw [List.length_cons, show j + (ds.length + 1) = j + 1 + ds.length by omega]; exact hI))
    unfold forL
    simp only [h1, Option.bind_some, h2]
    cases o with
    | nx => exact ih h3
    | ct => exact ih h3
    | bk => exact ⟨_, rfl, h3⟩
    | rt r => exact ⟨_, rfl, h3⟩
theorem wp_for {i : IF} {g : GF} {f : SF} {env : Env'} {st : BSt} {I : Nat → Env' → BSt → Prop} {Q : Out × Env' × BSt → Prop} {ds : List D} {st1 : BSt} (hi : i env st = some (ds, st1)) (h0 : I 0 env st1)
    (hb : ∀ i d env st, ds[i]? = some d → I i env st → ∃ env1, g d env = some env1 ∧ wp (f env1 st) fun p => match p.1 with | .nx => I (i + 1) p.2.1 p.2.2 | .ct => I (i + 1) p.2.1 p.2.2 | .bk => Q (.nx, p.2) | .rt r => Q (.rt r, p.2))
    (q : ∀ env st, I ds.length env st → Q (.nx, env, st)) : wp (forF i g f env st) Q := by
  unfold forF
  rw [hi]
  exact wp_forL ds 0 env st1 h0 (fun i d env st hd hI => by
    rw [Nat.zero_add] at hI ⊢
    exact hb i d env st hd hI) (fun env st hI => q env st (by rw [Nat.zero_add] at hI; exact hI))
/-- a comprehension that keeps something -/
theorem wp_lcL {g : GF} {t : TF} {e : EF} {env0 : Env'} {I : Nat → List D → BSt → Prop} {Q : List D × BSt → Prop} : ∀ (ds : List D) (j : Nat) (acc : List D) (st : BSt), I j acc st → acc.length + ds.length ≤ sizeLine →
    (∀ i d acc st, ds[i]? = some d → I (j + i) acc st → ∃ env1, g d env0 = some env1 ∧ wp (t env1 st) fun p => if p.1 then wp (e env1 p.2) fun q => ∃ x, q.1.d? = some x ∧ I (j + i + 1) (acc ++ [x]) q.2 else I (j + i + 1) acc p.2) →
    (∀ acc st, I (j + ds.length) acc st → Q (acc, st)) → wp (lcLoop g t e env0 ds acc st) Q
  | [], j, acc, st, h, _, _, q => ⟨_, rfl, q _ _ h⟩
  | d :: ds, j, acc, st, h, hl, hb, q => by
    obtain ⟨e1, h1, ⟨b, s1⟩, h2, h3⟩ := hb 0 d acc st rfl h
    have hl' : acc.length + (ds.length + 1) ≤ sizeLine := hl
    have ih := fun (acc' : List D) (s2 : BSt) (hl2 : acc'.length ≤ acc.length + 1) (h : I (j + 1) acc' s2) => wp_lcL ds (j + 1) acc' s2 (Q := Q) h (by omega) (fun i d acc st hd hI => by
      have := hb (i + 1) d acc st (by simpa using hd) (by rw [show j + (i + 1) = j + 1 + i by omega]; exact hI)
      rw [show j + (i + 1) + 1 = j + 1 + i + 1 by omega] at this
      exact this) (fun acc st hI => q acc st (by rw [List.length_cons, show j + (ds.length + 1) = j + 1 + ds.length by omega]; exact hI))
    unfold lcLoop
    simp only [h1, Option.bind_some, h2]
    cases b with
    | true =>
      obtain ⟨⟨r, s2⟩, h4, x, h5, h6⟩ := h3
      simp only [if_true, h4, Option.bind_some, h5]
      rw [if_pos (decide_eq_true (by omega))]
      exact ih _ _ (by simp) h6
    | false => exact ih _ _ (by omega) h3
theorem wp_lc {i : IF} {own : List Nat} {g : GF} {t : TF} {e : EF} {env : Env'} {st : BSt} {I : Nat → List D → BSt → Prop} {Q : R × BSt → Prop} {ds : List D} {st1 : BSt} (hi : i env st = some (ds, st1)) (hl : ds.length ≤ sizeLine) (h0 : I 0 [] st1)
    (hb : ∀ i d acc st, ds[i]? = some d → I i acc st → ∃ env1, g d (wipeE env own) = some env1 ∧ wp (t env1 st) fun p => if p.1 then wp (e env1 p.2) fun q => ∃ x, q.1.d? = some x ∧ I (i + 1) (acc ++ [x]) q.2 else I (i + 1) acc p.2)
    (q : ∀ acc st, I ds.length acc st → Q (.ow (.list acc), st)) : wp (lcF i own g t e env st) Q := by
  unfold lcF
  rw [hi]
  simp only [Option.bind_some]
  rw [wp_map]
  exact wp_lcL ds 0 [] st1 h0 (by simpa using hl) (fun i d acc st hd hI => by
    rw [Nat.zero_add] at hI ⊢
    exact hb i d acc st hd hI) (fun acc st hI => q acc st (by rw [Nat.zero_add] at hI; exact hI))
theorem ar_nil' (env : Env') (st : BSt) : argsF [] env st = some ([], st) := rfl
theorem ar_cons' (f : EF) (fs : List EF) (env : Env') (st : BSt) : argsF (f :: fs) env st = (f env st).bind fun p => (argsF fs env p.2).map fun q => (p.1.down :: q.1, q.2) := rfl
theorem ds_nil : dsOf [] = some [] := rfl
theorem ds_fz (d : D) (rs : List R) : dsOf (.fz d :: rs) = (dsOf rs).map (d :: ·) := by
  simp only [dsOf]
theorem lenOk_of {n : Nat} (h : n ≤ 16777216) : lenOk n = true := decide_eq_true (by rw [sizeLine_eq]; exact h)
theorem range_i {f : VF} {env : Env'} {st st1 : BSt} {n : Int} (hf : f env st = some (.int n, st1)) (h0 : 0 ≤ n) (h1 : n < 1000000) : rangeF f env st = some (rangeD n.toNat, st1) := by
  unfold rangeF
  rw [hf]
  simp only [Option.bind_some]
  rw [if_pos]
  rw [Bool.and_eq_true]
  exact ⟨decide_eq_true (by omega), decide_eq_true (by omega)⟩
theorem range_get {n i : Nat} {d : D} (h : (rangeD n)[i]? = some d) : d = .int (i : Nat) ∧ i < n := by
  unfold rangeD at h
  rw [List.getElem?_map] at h
  obtain ⟨j, h1, h2⟩ := map1 h
  have := List.getElem?_eq_some_iff.mp h1
  obtain ⟨h3, h4⟩ := this
  rw [List.getElem_range] at h4
  rw [List.length_range] at h3
  subst h4
  exact ⟨h2.symm, h3⟩
theorem wp_fl {g : GF} {f : SF} {env : Env'} {st : BSt} {ds : List D} {Q : Out × Env' × BSt → Prop} (I : Nat → Env' → BSt → Prop) (h0 : I 0 env st)
    (hb : ∀ i d env st, ds[i]? = some d → I i env st → ∃ env1, g d env = some env1 ∧ wp (f env1 st) fun p => match p.1 with | .nx => I (i + 1) p.2.1 p.2.2 | .ct => I (i + 1) p.2.1 p.2.2 | .bk => Q (.nx, p.2) | .rt r => Q (.rt r, p.2))
    (q : ∀ env st, I ds.length env st → Q (.nx, env, st)) : wp (forL g f ds env st) Q :=
  wp_forL ds 0 env st h0 (fun i d env st hd hI => by
    rw [Nat.zero_add] at hI ⊢
    exact hb i d env st hd hI) (fun env st hI => q env st (by rw [Nat.zero_add] at hI; exact hI))
theorem wp_forI {i : IF} {g : GF} {f : SF} {env : Env'} {st : BSt} {Q : Out × Env' × BSt → Prop} (h : wp (i env st) fun p => wp (forL g f p.1 env p.2) Q) : wp (forF i g f env st) Q := by
  unfold forF; rw [wp_bind]; exact h
theorem wp_lcI {i : IF} {own : List Nat} {g : GF} {t : TF} {e : EF} {env : Env'} {st : BSt} {Q : R × BSt → Prop} (h : wp (i env st) fun p => wp (lcLoop g t e (wipeE env own) p.1 [] p.2) fun q => Q (.ow (.list q.1), q.2)) : wp (lcF i own g t e env st) Q := by
  unfold lcF; rw [wp_bind]; exact wp_mono h fun p hp => by rw [wp_map]; exact hp
theorem wp_ll {g : GF} {t : TF} {e : EF} {env0 : Env'} {st : BSt} {ds : List D} {Q : List D × BSt → Prop} (I : Nat → List D → BSt → Prop) (h0 : I 0 [] st) (hl : ds.length ≤ 16777216)
    (hb : ∀ i d acc st, ds[i]? = some d → I i acc st → ∃ env1, g d env0 = some env1 ∧ wp (t env1 st) fun p => if p.1 then wp (e env1 p.2) fun q => ∃ x, q.1.d? = some x ∧ I (i + 1) (acc ++ [x]) q.2 else I (i + 1) acc p.2)
    (q : ∀ acc st, I ds.length acc st → Q (acc, st)) : wp (lcLoop g t e env0 ds [] st) Q :=
  wp_lcL ds 0 [] st h0 (by rw [sizeLine_eq]; simpa using hl) (fun i d acc st hd hI => by
    rw [Nat.zero_add] at hI ⊢
    exact hb i d acc st hd hI) (fun acc st hI => q acc st (by rw [Nat.zero_add] at hI; exact hI))
theorem wp_range {f : VF} {env : Env'} {st : BSt} {Q : List D × BSt → Prop} (h : wp (f env st) fun p => ∃ n : Int, p.1 = .int n ∧ 0 ≤ n ∧ n < 1000000 ∧ Q (rangeD n.toNat, p.2)) : wp (rangeF f env st) Q := by
  obtain ⟨⟨d, s1⟩, e, n, rfl, h0, h1, q⟩ := h
  exact ⟨_, range_i e h0 h1, q⟩
theorem range_len (n : Nat) : (rangeD n).length = n := by simp [rangeD]
end Iv

set_option maxHeartbeats 4000000
namespace Iv
open PySem PySem.Spec PyProof.Rows L2
variable [Nm]
/-! ### the bag's block, told by what is wanted of it -/
theorem frz1_len (i : Nat) (env : Env') : (frz1 i env).length = env.length := by
  unfold frz1
  split
  · rw [List.length_set]
  · rfl
theorem frzs_len : ∀ (is : List Nat) (env : Env'), (frzs is env).length = env.length
  | [], _ => rfl
  | i :: is, env => by
    show (frzs is (frz1 i env)).length = _
    rw [frzs_len is, frz1_len]
theorem frz1_get (i j : Nat) (env : Env') : (frz1 i env)[j]? = if i = j then (match env[j]? with | some (some (.ow d)) => some (some (.fz d)) | x => x) else env[j]? := by
  unfold frz1
  split
  · rename_i d e
    by_cases h : i = j
    · subst h
      rw [if_pos rfl, e, List.getElem?_set_self ((List.getElem?_eq_some_iff.mp e).1)]
    · rw [if_neg h, List.getElem?_set_ne h]
  · rename_i h0
    by_cases h : i = j
    · subst h
      rw [if_pos rfl]
      split
      · rename_i d e; exact absurd e (h0 d)
      · rfl
    · rw [if_neg h]
def frzO : Option (Option R) → Option (Option R)
  | some (some (.ow d)) => some (some (.fz d))
  | x => x
theorem frzO_idem (x : Option (Option R)) : frzO (frzO x) = frzO x := by
  rcases x with _ | _ | r
  · rfl
  · rfl
  · cases r <;> rfl
theorem frz1_get' (i j : Nat) (env : Env') : (frz1 i env)[j]? = if i = j then frzO env[j]? else env[j]? := by
  rw [frz1_get]
  split
  · rcases env[j]? with _ | _ | r
    · rfl
    · rfl
    · cases r <;> rfl
  · rfl
theorem frzs_get : ∀ (is : List Nat) (env : Env') (j : Nat), (frzs is env)[j]? = if j ∈ is then frzO env[j]? else env[j]?
  | [], _, _ => by simp [frzs]
  | i :: is, env, j => by
    show (frzs is (frz1 i env))[j]? = _
    rw [frzs_get is, frz1_get']
    by_cases h : i = j
    · subst h
      simp only [if_pos, List.mem_cons_self]
      split
      · exact frzO_idem _
      · rfl
    · rw [if_neg h]
      have : (j ∈ i :: is) ↔ j ∈ is := by
        rw [List.mem_cons]
        exact ⟨fun z => z.elim (fun z => absurd z.symm h) id, .inr⟩
      simp only [this]
theorem frzAll_get (env : Env') (j : Nat) : (frzAll env)[j]? = frzO env[j]? := by
  unfold frzAll
  rw [frzs_get]
  split
  · rfl
  · rename_i h
    rw [List.mem_range] at h
    rw [List.getElem?_eq_none (by omega)]; rfl
theorem frzAll_len (env : Env') : (frzAll env).length = env.length := frzs_len _ _
theorem noOw_frzAll (env : Env') : noOw (frzAll env) = true := by
  unfold noOw
  rw [List.all_eq_true]
  intro x hx
  obtain ⟨j, hj⟩ := List.getElem?_of_mem hx
  rw [frzAll_get] at hj
  rcases e : env[j]? with _ | _ | r
  · rw [e] at hj; cases hj
  · rw [e] at hj; cases hj; rfl
  · rw [e] at hj
    cases r <;> cases hj <;> rfl
theorem frzAll_id {env : Env'} (h : noOw env = true) : frzAll env = env := by
  refine List.ext_getElem? fun j => ?_
  rw [frzAll_get]
  rcases e : env[j]? with _ | _ | r
  · rfl
  · rfl
  · cases r with
    | ow d => exact (noOw_ok h e).elim
    | _ => rfl
/-- what is kept from cell to cell: the script in its slot, no list of one's own, no bag -/
structure Cell (ns : List Int) (m : Nat) (env : Env') : Prop where
  len : env.length = m
  scr : env[0]? = some (some (.scr ns))
  ow : noOw env = true
  bag : env.all noBagS = true
theorem Cell.set {ns : List Int} {m : Nat} {env : Env'} (h : Cell ns m env) {i : Nat} (hi : i ≠ 0) (d : D) : Cell ns m (env.set i (some (.fz d))) := by
  refine ⟨by rw [List.length_set]; exact h.len, by rw [List.getElem?_set_ne hi]; exact h.scr, ?_, ?_⟩
  · unfold noOw
    rw [List.all_eq_true]
    intro x hx
    rcases List.mem_or_eq_of_mem_set hx with hx | rfl
    · exact List.all_eq_true.mp h.ow x hx
    · rfl
  · rw [List.all_eq_true]
    intro x hx
    rcases List.mem_or_eq_of_mem_set hx with hx | rfl
    · exact List.all_eq_true.mp h.bag x hx
    · rfl
theorem cell_after {ns : List Int} {m : Nat} {env : Env'} (hl : env.length = m) (h0 : env[0]? = some (some (.scr ns))) : Cell ns m ((frzAll env).map unbag) := by
  refine ⟨by rw [List.length_map, frzAll_len]; exact hl, by rw [List.getElem?_map, frzAll_get, h0]; rfl, ?_, ?_⟩
  · unfold noOw
    rw [List.all_map, List.all_eq_true]
    intro x hx
    have := List.all_eq_true.mp (noOw_frzAll env) x hx
    rcases x with _ | r
    · rfl
    · cases r <;> first | rfl | exact this
  · rw [List.all_map, List.all_eq_true]
    intro x hx
    rcases x with _ | r
    · rfl
    · cases r <;> rfl
theorem wp_bag {ns : List Int} {m i : Nat} {f : EF} {g : SF} {env : Env'} {a b : Int} {Q : Out × Env' × BSt → Prop} (C : Cell ns m env) (hf : f env none = some (.ow (.list [.int a, .int b]), none))
    (hg : wp (g (env.set i (some .bag)) (some (a, b))) fun q => q.1 = .nx ∧ q.2.1.length = m ∧ q.2.1[0]? = some (some (.scr ns))) (q : ∀ env, Cell ns m env → Q (.nx, env, none)) : wp (bagF i f g env none) Q := by
  obtain ⟨⟨o, e1, s1⟩, e, ho, hl, h0⟩ := hg
  have ho : o = .nx := ho
  subst ho
  refine ⟨(.nx, (frzAll e1).map unbag, none), ?_, q _ (cell_after hl h0)⟩
  have id1 := frzAll_id C.ow
  unfold bagF
  simp only [id1, C.ow, C.bag, Bool.and_self, if_true]
  rw [hf]
  simp only [Option.bind_some]
  rw [e]
  simp only [Option.bind_some]
  rw [noOw_frzAll]
  rfl
end Iv

set_option maxHeartbeats 4000000
namespace Iv
open PySem PySem.Spec PyProof.Rows L2
/-- no made defs: for the plain mathematics, which asks nothing of it -/
abbrev nmZ : Nm := ⟨fun _ _ => "", [], fun _ => none⟩
local instance nmZ_IvX : Iv.Nm := Iv.nmZ
/-! ### loops: any end that some number of turns reaches -/
open Classical in
noncomputable def whR : Wh := fun c f env st => if h : ∃ n, (whileN c f n env st).isSome = true then whileN c f (Classical.choose h) env st else none
theorem whR_ok [Nm] : WhOk whR := fun c f env st r h => by
  unfold whR at h
  split at h
  · rename_i z; exact ⟨_, h⟩
  · cases h
theorem whileN_up (c : TF) (f : SF) : ∀ (n : Nat) (env : Env') (st : BSt) (r : Out × Env' × BSt), whileN c f n env st = some r → ∀ m, n ≤ m → whileN c f m env st = some r
  | 0, _, _, _, h, _, _ => by cases h
  | n + 1, env, st, r, h, 0, hm => by omega
  | n + 1, env, st, r, h, m + 1, hm => by
    obtain ⟨⟨b, s1⟩, e1, h⟩ := bind1 h
    unfold whileN
    rw [e1]
    cases b with
    | false => exact h
    | true =>
      simp only [if_true] at h
      obtain ⟨⟨o, env1, s2⟩, e2, h⟩ := bind1 h
      simp only [Option.bind_some, if_true, e2]
      cases o with
      | nx => exact whileN_up c f n _ _ _ h m (by omega)
      | ct => exact whileN_up c f n _ _ _ h m (by omega)
      | bk => exact h
      | rt r => exact h
theorem whR_eq {c : TF} {f : SF} {n : Nat} {env : Env'} {st : BSt} {r : Out × Env' × BSt} (h : whileN c f n env st = some r) : whR c f env st = some r := by
  unfold whR
  have ex : ∃ n, (whileN c f n env st).isSome = true := ⟨n, by rw [h]; rfl⟩
  rw [dif_pos ex]
  have hc := Classical.choose_spec ex
  generalize Classical.choose ex = m at hc
  obtain ⟨r', e'⟩ := Option.isSome_iff_exists.mp hc
  have a := whileN_up c f n env st r h (max n m) (Nat.le_max_left _ _)
  have b := whileN_up c f m env st r' e' (max n m) (Nat.le_max_right _ _)
  rw [a] at b
  rw [e', ← b]
variable {st : BSt}
theorem ar_nil (env : Env') (st : BSt) : argsF [] env st = some ([], st) := rfl
theorem ar_cons (f : EF) (fs : List EF) (env : Env') (st : BSt) : argsF (f :: fs) env st = (f env st).bind fun p => (argsF fs env p.2).map fun q => (p.1.down :: q.1, q.2) := rfl
/-! ### single steps -/
theorem d_fz (d : D) : R.d? (.fz d) = some d := rfl
theorem d_ow (d : D) : R.d? (.ow d) = some d := rfl
theorem dn_fz (d : D) : R.down (.fz d) = .fz d := rfl
theorem dn_ow (d : D) : R.down (.ow d) = .fz d := rfl
theorem dn_bag : R.down .bag = .bag := rfl
theorem dn_scr (ns : List Int) : R.down (.scr ns) = .scr ns := rfl
theorem b_of (b : Bool) : boolOf (.bool b) = some b := rfl
theorem l_list (ds : List D) : blD1 .len (.list ds) = some (.fz (.int ds.length)) := rfl
theorem l_tuple (ds : List D) : blD1 .len (.tuple ds) = some (.fz (.int ds.length)) := rfl
theorem l_str {z : Str} (h : z.length ≤ sizeLine) : blD1 .len (.str z) = some (.fz (.int z.length)) := by
  show (if lenOk z.length then _ else none) = _
  exact if_pos (decide_eq_true h)
theorem l_all (bs : List Bool) : blD1 .all (.list (bs.map .bool)) = some (.fz (.bool (bs.all id))) := by
  show (boolsOf _).map _ = _
  have e : ∀ l : List Bool, boolsOf (l.map PyData.bool) = some l := fun l => by
    induction l with
    | nil => rfl
    | cons b l ih => simp [boolsOf, ih]
  rw [e]; rfl
theorem l_listL (ds : List D) : blD1 .list (.list ds) = some (.ow (.list ds)) := rfl
theorem l_listT (ds : List D) : blD1 .list (.tuple ds) = some (.ow (.list ds)) := rfl
theorem l_tupL (ds : List D) : blD1 .tuple (.list ds) = some (.fz (.tuple ds)) := rfl
theorem l_tupT (ds : List D) : blD1 .tuple (.tuple ds) = some (.fz (.tuple ds)) := rfl
theorem l_abs (i : Int) : blD1 .abs (.int i) = some (.fz (.int (if i < 0 then -i else i))) := rfl
theorem c_lt (i j : Int) : cmpD .Lt (.int i) (.int j) = some (decide (i < j)) := rfl
theorem c_le (i j : Int) : cmpD .LtE (.int i) (.int j) = some (decide (i ≤ j)) := rfl
theorem c_gt (i j : Int) : cmpD .Gt (.int i) (.int j) = some (decide (j < i)) := rfl
theorem c_ge (i j : Int) : cmpD .GtE (.int i) (.int j) = some (decide (j ≤ i)) := rfl
theorem sh_int (i : Int) : SeqAt.shaped (.int i) = true := rfl
theorem sh_bool (i : Bool) : SeqAt.shaped (.bool i) = true := rfl
theorem sh_str {i : Str} (h : PyData.strOk i = true) : SeqAt.shaped (.str i) = true := by
  show (PyData.strOk i && _) = true
  rw [h]; rfl
theorem c_eqI (i j : Int) : cmpD .Eq (.int i) (.int j) = some (i == j) := rfl
theorem c_neI (i j : Int) : cmpD .NotEq (.int i) (.int j) = some (!(i == j)) := rfl
theorem c_eqS {i j : Str} (hi : PyData.strOk i = true) (hj : PyData.strOk j = true) : cmpD .Eq (.str i) (.str j) = some (i == j) := by
  show (if SeqAt.shaped (.str i) && SeqAt.shaped (.str j) then some (PyData.eqv (.str i) (.str j)) else none) = _
  rw [sh_str hi, sh_str hj]; rfl
theorem c_inS (c : Nat) (z : Str) : cmpD .In (.str ⟨#[c]⟩) (.str z) = some (decide (c ∈ z.cps.toList)) := rfl
theorem c_niS (c : Nat) (z : Str) : cmpD .NotIn (.str ⟨#[c]⟩) (.str z) = some (!decide (c ∈ z.cps.toList)) := rfl
theorem i_list (ds : List D) : itemsD (.list ds) = some ds := rfl
theorem i_tuple (ds : List D) : itemsD (.tuple ds) = some ds := rfl
theorem i_str (z : Str) : itemsD (.str z) = some (signsD z) := rfl
theorem x_list (ds : List D) (i : Int) : ixD (.list ds) (.int i) = atI ds i := rfl
theorem x_tuple (ds : List D) (i : Int) : ixD (.tuple ds) (.int i) = atI ds i := rfl
theorem y_list (ds : List D) (a b : Option Int) : slD (.list ds) a b = some (.ow (.list (cutL ds a b))) := rfl
theorem y_tuple (ds : List D) (a b : Option Int) : slD (.tuple ds) a b = some (.fz (.tuple (cutL ds a b))) := rfl
/-! ### comprehensions over plain data -/
theorem lc_map {g : GF} {e : EF} {env0 : Env'} {x : D → D} : ∀ (ds acc : List D), (∀ d ∈ ds, ∃ env1 r, g d env0 = some env1 ∧ e env1 st = some (r, st) ∧ r.d? = some (x d)) → acc.length + ds.length ≤ sizeLine →
    lcLoop g yesT e env0 ds acc st = some (acc ++ ds.map x, st)
  | [], acc, _, _ => by simp [lcLoop]
  | d :: ds, acc, h, hl => by
    obtain ⟨env1, r, h1, h2, h3⟩ := h d List.mem_cons_self
    simp only [List.length_cons] at hl
    have ih := lc_map ds (acc ++ [x d]) (fun y hy => h y (List.mem_cons_of_mem _ hy)) (by simp; omega)
    unfold lcLoop
    simp only [h1, yesT, Option.bind_some, if_true, h2, h3]
    rw [if_pos (by simp; omega), ih]
    simp
theorem lc_filter {g : GF} {t : TF} {e : EF} {env0 : Env'} {p : D → Bool} : ∀ (ds acc : List D), (∀ d ∈ ds, ∃ env1, g d env0 = some env1 ∧ t env1 st = some (p d, st) ∧ (∃ r, e env1 st = some (r, st) ∧ r.d? = some d)) → acc.length + ds.length ≤ sizeLine →
    lcLoop g t e env0 ds acc st = some (acc ++ ds.filter p, st)
  | [], acc, _, _ => by simp [lcLoop]
  | d :: ds, acc, h, hl => by
    obtain ⟨env1, h1, h2, r, h3, h4⟩ := h d List.mem_cons_self
    simp only [List.length_cons] at hl
    unfold lcLoop
    simp only [h1, Option.bind_some, h2]
    cases hp : p d with
    | true =>
      simp only [if_true, h3, Option.bind_some, h4]
      rw [if_pos (by simp; omega), lc_filter ds (acc ++ [d]) (fun y hy => h y (List.mem_cons_of_mem _ hy)) (by simp; omega), List.filter_cons_of_pos hp]
      simp
    | false =>
      simp only [Bool.false_eq_true, if_false]
      rw [lc_filter ds acc (fun y hy => h y (List.mem_cons_of_mem _ hy)) (by omega), List.filter_cons_of_neg (by simp [hp])]
theorem lcF_map {i : IF} {own : List Nat} {g : GF} {e : EF} {env : Env'} {ds : List D} (x : D → D) (hi : i env st = some (ds, st)) (h : ∀ d ∈ ds, ∃ env1 r, g d (wipeE env own) = some env1 ∧ e env1 st = some (r, st) ∧ r.d? = some (x d)) (hl : ds.length ≤ sizeLine) :
    lcF i own g yesT e env st = some (.ow (.list (ds.map x)), st) := by
  unfold lcF
  rw [hi]
  simp only [Option.bind_some]
  rw [lc_map ds [] h (by simpa using hl)]
  rfl
theorem lcF_filter {i : IF} {own : List Nat} {g : GF} {t : TF} {e : EF} {env : Env'} {ds : List D} (p : D → Bool) (hi : i env st = some (ds, st)) (h : ∀ d ∈ ds, ∃ env1, g d (wipeE env own) = some env1 ∧ t env1 st = some (p d, st) ∧ (∃ r, e env1 st = some (r, st) ∧ r.d? = some d)) (hl : ds.length ≤ sizeLine) :
    lcF i own g t e env st = some (.ow (.list (ds.filter p)), st) := by
  unfold lcF
  rw [hi]
  simp only [Option.bind_some]
  rw [lc_filter ds [] h (by simpa using hl)]
  rfl
theorem boolsOf_map (l : List Bool) : boolsOf (l.map PyData.bool) = some l := by
  induction l with
  | nil => rfl
  | cons b l ih => simp [boolsOf, ih]
theorem cutL1 {α : Type} (xs : List α) : cutL xs (some 1) none = xs.drop 1 := by
  unfold cutL
  rw [show HT.sIx xs.length 0 (some 1) = min 1 xs.length from HT.sIx_nat xs.length 0 1, HT.sIx_none]
  cases xs with
  | nil => rfl
  | cons x r =>
    have e : min 1 (x :: r).length = 1 := by simp
    rw [e]
    simp
theorem zipD_ints (ns ms : List Int) : zipD (ns.map PyData.int) (ms.map PyData.int) = (List.zip ns ms).map fun p => PyData.tuple [.int p.1, .int p.2] := by
  unfold zipD
  rw [List.zip_map, List.map_map]
  rfl
theorem mod_int (a b : Nat) (h : 0 < b) : binD .Mod (.int a) (.int b) = some (.fz (.int ((a % b : Nat) : Int))) := by
  show (if decide ((0 : Int) < b) then _ else none) = _
  rw [if_pos (decide_eq_true (by omega))]
  rfl
theorem seq_nx {f g : SF} {env env1 : Env'} {st st1 : BSt} (h : f env st = some (.nx, env1, st1)) : seqS f g env st = g env1 st1 := by unfold seqS; rw [h]; rfl
theorem seq_rt {f g : SF} {env env1 : Env'} {st st1 : BSt} {r : R} (h : f env st = some (.rt r, env1, st1)) : seqS f g env st = some (.rt r, env1, st1) := by unfold seqS; rw [h]; rfl
theorem run_rt {m n : Nat} {f : SF} {rs : List R} {st st1 : BSt} {env1 : Env'} {r : R} (hl : rs.length = m) (h : f (rs.map some ++ List.replicate (n - rs.length) none) st = some (.rt r, env1, st1)) : runM m n f rs st = some (r, st1) := by
  unfold runM; rw [if_pos hl, h]; rfl
theorem nat_of {i : Int} (h : 0 ≤ i) : ((i.toNat : Nat) : Int) = i := by omega
theorem lay_strs : ∀ {l : List Str}, (∀ x ∈ l, PyData.strOk x = true) → PyData.canLayAll0 (l.map PyData.str) = true
  | [], _ => rfl
  | x :: l, h => by
    show (PyData.strOk x && PyData.canLayAll0 (l.map PyData.str)) = true
    rw [h x List.mem_cons_self, lay_strs fun y hy => h y (List.mem_cons_of_mem _ hy)]; rfl
theorem dep_strs : ∀ l : List Str, PyData.depthAll (l.map PyData.str) = 0
  | [] => rfl
  | x :: l => by
    show max 0 (PyData.depthAll (l.map PyData.str)) = 0
    rw [dep_strs l]; rfl
theorem sh_strs {l : List Str} (h : ∀ x ∈ l, PyData.strOk x = true) : SeqAt.shaped (.list (l.map PyData.str)) = true := by
  show (PyData.canLayAll0 (l.map PyData.str) && decide (PyData.depthAll (l.map PyData.str) + 1 ≤ 64)) = true
  rw [lay_strs h, dep_strs]; rfl
def hasS (l : List Str) (n : Str) : Bool := l.any fun z => z == n
theorem any_strs (l : List Str) (n : Str) : ((l.map PyData.str).any fun z => PyData.eqv z (.str n)) = hasS l n := by
  unfold hasS
  rw [List.any_map]
  rfl
theorem c_inL {l : List Str} {n : Str} (hn : PyData.strOk n = true) (h : ∀ x ∈ l, PyData.strOk x = true) : cmpD .In (.str n) (.list (l.map PyData.str)) = some (hasS l n) := by
  show (if SeqAt.shaped (.str n) && SeqAt.shaped (.list (l.map PyData.str)) then some ((l.map PyData.str).any fun z => PyData.eqv z (.str n)) else none) = _
  rw [sh_str hn, sh_strs h, any_strs]; rfl
theorem c_niL {l : List Str} {n : Str} (hn : PyData.strOk n = true) (h : ∀ x ∈ l, PyData.strOk x = true) : cmpD .NotIn (.str n) (.list (l.map PyData.str)) = some (!hasS l n) := by
  show (if SeqAt.shaped (.str n) && SeqAt.shaped (.list (l.map PyData.str)) then some (!((l.map PyData.str).any fun z => PyData.eqv z (.str n))) else none) = _
  rw [sh_str hn, sh_strs h, any_strs]; rfl
theorem cut_take {α : Type} (xs : List α) (i : Nat) : cutL xs none (some (i : Int)) = xs.take i := by
  unfold cutL
  rw [HT.sIx_none, HT.sIx_nat]
  simp only [List.drop_zero, Nat.sub_zero]
  rcases Nat.le_total i xs.length with h | h
  · rw [Nat.min_eq_left h]
  · rw [Nat.min_eq_right h, List.take_of_length_le (Nat.le_refl _), List.take_of_length_le h]
theorem cut_drop {α : Type} (xs : List α) (i : Nat) : cutL xs (some (i : Int)) none = xs.drop i := by
  unfold cutL
  rw [HT.sIx_none, HT.sIx_nat]
  rcases Nat.le_total i xs.length with h | h
  · rw [Nat.min_eq_left h, List.take_of_length_le (by rw [List.length_drop]; omega)]
  · rw [Nat.min_eq_right h, List.drop_of_length_le (Nat.le_refl _), List.drop_of_length_le h, List.take_nil]
theorem enumD_mem : ∀ (ds : List D) (n : Nat) {x : D}, x ∈ enumD n ds → ∃ (i : Nat) (d : D), x = .tuple [.int (i : Nat), d] ∧ d ∈ ds
  | d :: ds, n, x, h => by
    rcases List.mem_cons.mp (show x ∈ PyData.tuple [.int (n : Nat), d] :: enumD (n + 1) ds from h) with rfl | h
    · exact ⟨n, d, rfl, List.mem_cons_self⟩
    · obtain ⟨i, e, h1, h2⟩ := enumD_mem ds (n + 1) h
      exact ⟨i, e, h1, List.mem_cons_of_mem _ h2⟩
def bgOk (s : Int × Int) : Prop := 0 ≤ s.2 ∧ s.2 < 2147483647
theorem d_mod {i j : Int} (h : 0 < j) : binD .Mod (.int i) (.int j) = some (.fz (.int (i % j))) := by
  show (if decide (0 < j) then _ else none) = _
  rw [decide_eq_true h]; rfl
theorem lg31 {x : Nat} (h : x < 2147483648) : x.log2 < 31 := by
  by_cases e : x = 0
  · subst e; decide
  · exact (Nat.log2_lt e).mpr h
theorem lg60 {x : Nat} (h : x < 1152921504606846976) : x.log2 < 60 := by
  by_cases e : x = 0
  · subst e; decide
  · exact (Nat.log2_lt e).mpr h
theorem divOk_of {m : Int} (h : 0 < m) (h2 : m < 1152921504606846976) : divOk m = true := by
  have l := lg60 (x := m.natAbs) (by omega)
  unfold divOk
  rw [decide_eq_true h, decide_eq_true (by omega)]; rfl
theorem wp_at {xs : List D} {i : Int} {Q : D → Prop} (h0 : 0 ≤ i) (h1 : i < (xs.length : Int)) (q : ∀ x ∈ xs, Q x) : wp (atI xs i) Q := by
  have hi : i.toNat < xs.length := by omega
  have hx : atI xs i = some xs[i.toNat] := by
    have := atI_nat (xs := xs) (j := i.toNat) (v := xs[i.toNat]) (List.getElem?_eq_getElem hi)
    rw [show ((i.toNat : Nat) : Int) = i from by omega] at this
    exact this
  exact wp_eq hx (q _ (List.getElem_mem hi))
theorem b_add (x y : Int) : binD .Add (.int x) (.int y) = some (.fz (.int (x + y))) := rfl
theorem b_sub (x y : Int) : binD .Sub (.int x) (.int y) = some (.fz (.int (x - y))) := rfl
theorem b_addL {xs ys : List D} (h : xs.length + ys.length ≤ 16777216) : binD .Add (.list xs) (.list ys) = some (.ow (.list (xs ++ ys))) := by
  show (if lenOk _ then _ else none) = _
  rw [lenOk_of h]; rfl
theorem b_addT {xs ys : List D} (h : xs.length + ys.length ≤ 16777216) : binD .Add (.tuple xs) (.tuple ys) = some (.fz (.tuple (xs ++ ys))) := by
  show (if lenOk _ then _ else none) = _
  rw [lenOk_of h]; rfl
end Iv

set_option maxHeartbeats 0
namespace K08
open PySem PySem.Spec PyProof.Rows L2 Iv
def topS (i : Nat) : Stmt := PySem.Challenge.pw_holetubs_k08_asked_backward.main.body.getD i (.Pass ⟨0, 0, 0, 0⟩)
def d_names_of : Df := { st := topS 3, N := ["tubs", "name", "ground", "holes"], ps := ["tubs"] }
def d_holes_of : Df := { st := topS 4, N := ["tubs", "name", "ground", "holes", "height", "rate", "into"], ps := ["tubs"] }
def d_tub_at : Df := { st := topS 5, N := ["tubs", "name"], ps := ["tubs", "name"] }
def d_place_of : Df := { st := topS 6, N := ["tubs", "hole", "name", "height", "at", "row"], ps := ["tubs", "hole"] }
def d_without_holes : Df := { st := topS 7, N := ["tubs", "plugs", "hole", "name", "ground", "holes"], ps := ["tubs", "plugs"] }
def d_flows : Df := { st := topS 9, N := ["tubs", "rain", "letting", "names", "comes", "lets", "at", "name", "ground", "holes", "own", "height", "rate", "into", "much"], ps := ["tubs", "rain", "letting"], hks := ["letting"] }
def d_shared_out : Df := { st := topS 13, N := ["holes", "much", "lets", "left", "height", "rate", "into"], ps := ["holes", "much"] }
def n_flows_in_the_end : Nd := { st := (defBody (topS 14)).headD (.Pass ⟨0, 0, 0, 0⟩), name := "letting", q := "flows_in_the_end.<locals>.letting", ix := 2, cap := [0], ps := ["at", "much"], fr := ["tubs"], N := ["at", "much", "tubs"] }
def d_flows_in_the_end : Df := { st := topS 14, N := ["tubs", "rain", "letting"], ps := ["tubs", "rain"], nd := some n_flows_in_the_end }
def d_lets_in_the_end : Df := { st := topS 15, N := ["tubs", "rain", "hole", "at", "which", "came", "lets"], ps := ["tubs", "rain", "hole"] }
def d_rest_of : Df := { st := topS 16, N := ["holes", "much", "least", "left", "height", "rate", "into"], ps := ["holes", "much"] }
def d_comes : Df := { st := topS 17, N := ["tubs", "rain"], ps := ["tubs", "rain"] }
def d_rests : Df := { st := topS 18, N := ["tubs", "rain", "name", "ground", "holes", "much"], ps := ["tubs", "rain"] }
def d_rain_with : Df := { st := topS 21, N := ["tubs", "rain", "name", "much", "at"], ps := ["tubs", "rain", "name", "much"] }
def d_comes_up_to : Df := { st := topS 22, N := ["tubs", "rain", "name", "height", "rest"], ps := ["tubs", "rain", "name", "height"] }
def d_least_rain : Df := { st := topS 23, N := ["tubs", "rain", "name", "other", "height", "least", "enough", "middle"], ps := ["tubs", "rain", "name", "other", "height"] }
def d_with_rate : Df := { st := topS 24, N := ["tubs", "hole", "rate", "at", "which", "name", "ground", "holes", "height", "old", "into", "tub"], ps := ["tubs", "hole", "rate"] }
def d_rates_by : Df := { st := topS 25, N := ["tubs", "rain", "hole", "another", "lets", "rate"], ps := ["tubs", "rain", "hole", "another", "lets"] }
def d_choices : Df := { st := topS 26, N := ["things", "many", "told", "at", "thing", "others"], ps := ["things", "many"] }
def d_fewest_plugs : Df := { st := topS 27, N := ["tubs", "rain", "name", "much", "at", "holes", "many", "plugs"], ps := ["tubs", "rain", "name", "much"] }
def d__law_bag : Df := { st := topS 29, N := ["script", "k", "cell"], ps := ["script", "k"] }
def d__law_take : Df := { st := topS 30, N := ["bag", "many", "found"], ps := ["bag", "many"] }
def d__law_of : Df := { st := topS 31, N := ["bag", "some"], ps := ["bag", "some"] }
def d__law_within : Df := { st := topS 32, N := ["thing", "least", "most"], ps := ["thing", "least", "most"] }
def d__law_tubs : Df := { st := topS 33, N := ["bag", "most", "names", "found", "at", "name", "levels", "wide", "turn", "holes", "level", "rate"], ps := ["bag", "most"] }
def d__law_rain : Df := { st := topS 34, N := ["bag", "tubs", "found", "name", "ground", "holes", "sums", "total", "hole"], ps := ["bag", "tubs"] }
def d__law_ends : Df := { st := topS 35, N := ["tubs", "rain", "coming", "tub", "rate", "lets", "name", "ground", "holes", "left", "level", "into"], ps := ["tubs", "rain"], tks := ["lets"] }
def d__law_rest : Df := { st := topS 36, N := ["holes", "much", "sums", "hole", "at", "total", "low"], ps := ["holes", "much"] }
def d__law_stands_so : Df := { st := topS 37, N := ["tubs", "rain", "at", "level", "rest"], ps := ["tubs", "rain", "at", "level"] }
def d__law_least_so : Df := { st := topS 38, N := ["tubs", "rain", "one", "other", "level", "told", "ahead", "behind"], ps := ["tubs", "rain", "one", "other", "level"] }
def d__law_rated : Df := { st := topS 39, N := ["tubs", "key", "rate", "found", "name", "ground", "holes", "some", "level", "old", "into"], ps := ["tubs", "key", "rate"] }
def d__law_plugged : Df := { st := topS 40, N := ["tubs", "lot", "found", "name", "ground", "holes", "hole"], ps := ["tubs", "lot"] }
def d__law_lots : Df := { st := topS 41, N := ["some", "many", "found", "at", "one", "lot"], ps := ["some", "many"] }
def d__law_plugs : Df := { st := topS 42, N := ["tubs", "rain", "at", "much", "keys", "name", "ground", "holes", "hole", "many", "lot"], ps := ["tubs", "rain", "at", "much"] }
def d_law : Df := { st := topS 43, N := ["script", "k", "bag", "tubs", "rain", "coming", "lets", "turn", "one", "other", "level", "hole", "much", "keys", "key", "another", "due", "rate"], ps := ["script"] }
def dfs0 : List (Str × Df) := [(("names_of" : Str), d_names_of), (("holes_of" : Str), d_holes_of), (("tub_at" : Str), d_tub_at), (("place_of" : Str), d_place_of), (("without_holes" : Str), d_without_holes), (("flows" : Str), d_flows), (("shared_out" : Str), d_shared_out), (("flows_in_the_end" : Str), d_flows_in_the_end)]
def dfs1 : List (Str × Df) := [(("lets_in_the_end" : Str), d_lets_in_the_end), (("rest_of" : Str), d_rest_of), (("comes" : Str), d_comes), (("rests" : Str), d_rests), (("rain_with" : Str), d_rain_with), (("comes_up_to" : Str), d_comes_up_to), (("least_rain" : Str), d_least_rain), (("with_rate" : Str), d_with_rate)]
def dfs2 : List (Str × Df) := [(("rates_by" : Str), d_rates_by), (("choices" : Str), d_choices), (("fewest_plugs" : Str), d_fewest_plugs), (("_law_bag" : Str), d__law_bag), (("_law_take" : Str), d__law_take), (("_law_of" : Str), d__law_of), (("_law_within" : Str), d__law_within), (("_law_tubs" : Str), d__law_tubs)]
def dfs3 : List (Str × Df) := [(("_law_rain" : Str), d__law_rain), (("_law_ends" : Str), d__law_ends), (("_law_rest" : Str), d__law_rest), (("_law_stands_so" : Str), d__law_stands_so), (("_law_least_so" : Str), d__law_least_so), (("_law_rated" : Str), d__law_rated), (("_law_plugged" : Str), d__law_plugged), (("_law_lots" : Str), d__law_lots)]
def dfs4 : List (Str × Df) := [(("_law_plugs" : Str), d__law_plugs), (("law" : Str), d_law)]
def tbl : Tbl where
  dfs := dfs0 ++ dfs1 ++ dfs2 ++ dfs3 ++ dfs4
  csts := [(("AWAY" : Str), .inr ("" : Str)), (("GREATEST_RATE" : Str), .inl 100), (("BOTTOM" : Str), .inl 0), (("GREATEST_LEAST_RAIN" : Str), .inl 100000)]
  tups := [(("RISES" : Str), [.inr ("rises" : Str)])]
  blts := (["tuple", "list", "enumerate", "zip", "min", "range", "sorted", "len"] : List Str) ++ (["abs", "isinstance", "int", "bool", "dict", "max"] : List Str)
  nfs := [(("flows_in_the_end.<locals>.letting" : Str), n_flows_in_the_end)]
theorem k_names_of : DefB d_names_of := ⟨⟨rfl, rfl, rfl, by decide +kernel, rfl, by decide +kernel, by decide +kernel⟩, fun _ _ _ _ _ _ _ us hl => match us, hl with | [_], _ => rfl⟩
theorem k_holes_of : DefB d_holes_of := ⟨⟨rfl, rfl, rfl, by decide +kernel, rfl, by decide +kernel, by decide +kernel⟩, fun _ _ _ _ _ _ _ us hl => match us, hl with | [_], _ => rfl⟩
theorem k_tub_at : DefB d_tub_at := ⟨⟨rfl, rfl, rfl, by decide +kernel, rfl, by decide +kernel, by decide +kernel⟩, fun _ _ _ _ _ _ _ us hl => match us, hl with | [_, _], _ => rfl⟩
theorem k_place_of : DefB d_place_of := ⟨⟨rfl, rfl, rfl, by decide +kernel, rfl, by decide +kernel, by decide +kernel⟩, fun _ _ _ _ _ _ _ us hl => match us, hl with | [_, _], _ => rfl⟩
theorem k_without_holes : DefB d_without_holes := ⟨⟨rfl, rfl, rfl, by decide +kernel, rfl, by decide +kernel, by decide +kernel⟩, fun _ _ _ _ _ _ _ us hl => match us, hl with | [_, _], _ => rfl⟩
theorem k_flows : DefB d_flows := ⟨⟨rfl, rfl, rfl, by decide +kernel, rfl, by decide +kernel, by decide +kernel⟩, fun _ _ _ _ _ _ _ us hl => match us, hl with | [_, _, _], _ => rfl⟩
theorem k_shared_out : DefB d_shared_out := ⟨⟨rfl, rfl, rfl, by decide +kernel, rfl, by decide +kernel, by decide +kernel⟩, fun _ _ _ _ _ _ _ us hl => match us, hl with | [_, _], _ => rfl⟩
theorem k_flows_in_the_end : DefB d_flows_in_the_end := ⟨⟨rfl, rfl, rfl, by decide +kernel, rfl, by decide +kernel, by decide +kernel⟩, fun _ _ _ _ _ _ _ us hl => match us, hl with | [_, _], _ => rfl⟩
theorem k_lets_in_the_end : DefB d_lets_in_the_end := ⟨⟨rfl, rfl, rfl, by decide +kernel, rfl, by decide +kernel, by decide +kernel⟩, fun _ _ _ _ _ _ _ us hl => match us, hl with | [_, _, _], _ => rfl⟩
theorem k_rest_of : DefB d_rest_of := ⟨⟨rfl, rfl, rfl, by decide +kernel, rfl, by decide +kernel, by decide +kernel⟩, fun _ _ _ _ _ _ _ us hl => match us, hl with | [_, _], _ => rfl⟩
theorem k_comes : DefB d_comes := ⟨⟨rfl, rfl, rfl, by decide +kernel, rfl, by decide +kernel, by decide +kernel⟩, fun _ _ _ _ _ _ _ us hl => match us, hl with | [_, _], _ => rfl⟩
theorem k_rests : DefB d_rests := ⟨⟨rfl, rfl, rfl, by decide +kernel, rfl, by decide +kernel, by decide +kernel⟩, fun _ _ _ _ _ _ _ us hl => match us, hl with | [_, _], _ => rfl⟩
theorem k_rain_with : DefB d_rain_with := ⟨⟨rfl, rfl, rfl, by decide +kernel, rfl, by decide +kernel, by decide +kernel⟩, fun _ _ _ _ _ _ _ us hl => match us, hl with | [_, _, _, _], _ => rfl⟩
theorem k_comes_up_to : DefB d_comes_up_to := ⟨⟨rfl, rfl, rfl, by decide +kernel, rfl, by decide +kernel, by decide +kernel⟩, fun _ _ _ _ _ _ _ us hl => match us, hl with | [_, _, _, _], _ => rfl⟩
theorem k_least_rain : DefB d_least_rain := ⟨⟨rfl, rfl, rfl, by decide +kernel, rfl, by decide +kernel, by decide +kernel⟩, fun _ _ _ _ _ _ _ us hl => match us, hl with | [_, _, _, _, _], _ => rfl⟩
theorem k_with_rate : DefB d_with_rate := ⟨⟨rfl, rfl, rfl, by decide +kernel, rfl, by decide +kernel, by decide +kernel⟩, fun _ _ _ _ _ _ _ us hl => match us, hl with | [_, _, _], _ => rfl⟩
theorem k_rates_by : DefB d_rates_by := ⟨⟨rfl, rfl, rfl, by decide +kernel, rfl, by decide +kernel, by decide +kernel⟩, fun _ _ _ _ _ _ _ us hl => match us, hl with | [_, _, _, _, _], _ => rfl⟩
theorem k_choices : DefB d_choices := ⟨⟨rfl, rfl, rfl, by decide +kernel, rfl, by decide +kernel, by decide +kernel⟩, fun _ _ _ _ _ _ _ us hl => match us, hl with | [_, _], _ => rfl⟩
theorem k_fewest_plugs : DefB d_fewest_plugs := ⟨⟨rfl, rfl, rfl, by decide +kernel, rfl, by decide +kernel, by decide +kernel⟩, fun _ _ _ _ _ _ _ us hl => match us, hl with | [_, _, _, _], _ => rfl⟩
theorem k__law_bag : DefB d__law_bag := ⟨⟨rfl, rfl, rfl, by decide +kernel, rfl, by decide +kernel, by decide +kernel⟩, fun _ _ _ _ _ _ _ us hl => match us, hl with | [_, _], _ => rfl⟩
theorem k__law_take : DefB d__law_take := ⟨⟨rfl, rfl, rfl, by decide +kernel, rfl, by decide +kernel, by decide +kernel⟩, fun _ _ _ _ _ _ _ us hl => match us, hl with | [_, _], _ => rfl⟩
theorem k__law_of : DefB d__law_of := ⟨⟨rfl, rfl, rfl, by decide +kernel, rfl, by decide +kernel, by decide +kernel⟩, fun _ _ _ _ _ _ _ us hl => match us, hl with | [_, _], _ => rfl⟩
theorem k__law_within : DefB d__law_within := ⟨⟨rfl, rfl, rfl, by decide +kernel, rfl, by decide +kernel, by decide +kernel⟩, fun _ _ _ _ _ _ _ us hl => match us, hl with | [_, _, _], _ => rfl⟩
theorem k__law_tubs : DefB d__law_tubs := ⟨⟨rfl, rfl, rfl, by decide +kernel, rfl, by decide +kernel, by decide +kernel⟩, fun _ _ _ _ _ _ _ us hl => match us, hl with | [_, _], _ => rfl⟩
theorem k__law_rain : DefB d__law_rain := ⟨⟨rfl, rfl, rfl, by decide +kernel, rfl, by decide +kernel, by decide +kernel⟩, fun _ _ _ _ _ _ _ us hl => match us, hl with | [_, _], _ => rfl⟩
theorem k__law_ends : DefB d__law_ends := ⟨⟨rfl, rfl, rfl, by decide +kernel, rfl, by decide +kernel, by decide +kernel⟩, fun _ _ _ _ _ _ _ us hl => match us, hl with | [_, _], _ => rfl⟩
theorem k__law_rest : DefB d__law_rest := ⟨⟨rfl, rfl, rfl, by decide +kernel, rfl, by decide +kernel, by decide +kernel⟩, fun _ _ _ _ _ _ _ us hl => match us, hl with | [_, _], _ => rfl⟩
theorem k__law_stands_so : DefB d__law_stands_so := ⟨⟨rfl, rfl, rfl, by decide +kernel, rfl, by decide +kernel, by decide +kernel⟩, fun _ _ _ _ _ _ _ us hl => match us, hl with | [_, _, _, _], _ => rfl⟩
theorem k__law_least_so : DefB d__law_least_so := ⟨⟨rfl, rfl, rfl, by decide +kernel, rfl, by decide +kernel, by decide +kernel⟩, fun _ _ _ _ _ _ _ us hl => match us, hl with | [_, _, _, _, _], _ => rfl⟩
theorem k__law_rated : DefB d__law_rated := ⟨⟨rfl, rfl, rfl, by decide +kernel, rfl, by decide +kernel, by decide +kernel⟩, fun _ _ _ _ _ _ _ us hl => match us, hl with | [_, _, _], _ => rfl⟩
theorem k__law_plugged : DefB d__law_plugged := ⟨⟨rfl, rfl, rfl, by decide +kernel, rfl, by decide +kernel, by decide +kernel⟩, fun _ _ _ _ _ _ _ us hl => match us, hl with | [_, _], _ => rfl⟩
theorem k__law_lots : DefB d__law_lots := ⟨⟨rfl, rfl, rfl, by decide +kernel, rfl, by decide +kernel, by decide +kernel⟩, fun _ _ _ _ _ _ _ us hl => match us, hl with | [_, _], _ => rfl⟩
theorem k__law_plugs : DefB d__law_plugs := ⟨⟨rfl, rfl, rfl, by decide +kernel, rfl, by decide +kernel, by decide +kernel⟩, fun _ _ _ _ _ _ _ us hl => match us, hl with | [_, _, _, _], _ => rfl⟩
theorem k_law : DefB d_law := ⟨⟨rfl, rfl, rfl, by decide +kernel, rfl, by decide +kernel, by decide +kernel⟩, fun _ _ _ _ _ _ _ us hl => match us, hl with | [_], _ => rfl⟩
def nmf (_ _ : Nat) : Str := "flows_in_the_end.<locals>.letting"
abbrev nmI (ts : List Addr) : Nm := ⟨nmf, ts, fun q => tbl.nfs.lookup q⟩
theorem ko_flows_in_the_end : NdOk n_flows_in_the_end := ⟨NdefX.nscope_by (by decide +kernel), fun _ _ _ _ _ _ us hl => match us, hl with | [_, _], _ => rfl⟩
theorem ki_flows_in_the_end (ts : List Addr) : @NdIn (nmI ts) "flows_in_the_end" d_flows_in_the_end n_flows_in_the_end := by
  letI : Nm := nmI ts
  exact ⟨rfl, rfl, rfl, ⟨_, rfl, rfl⟩, by decide +kernel, rfl, rfl, fun _ => rfl, rfl, by decide +kernel, rfl⟩
theorem oks (ts : List Addr) : @TblOk (nmI ts) tbl := by
  letI : Nm := nmI ts
  refine ⟨fun p hp => ?_, fun p hp nd h => ?_, fun q nd h => ?_⟩
  · simp only [tbl, dfs0, dfs1, dfs2, dfs3, dfs4, List.mem_append, List.mem_cons, List.not_mem_nil, or_false] at hp
    rcases hp with (((((rfl | rfl | rfl | rfl | rfl | rfl | rfl | rfl) | (rfl | rfl | rfl | rfl | rfl | rfl | rfl | rfl)) | (rfl | rfl | rfl | rfl | rfl | rfl | rfl | rfl)) | (rfl | rfl | rfl | rfl | rfl | rfl | rfl | rfl)) | (rfl | rfl))
    · exact k_names_of
    · exact k_holes_of
    · exact k_tub_at
    · exact k_place_of
    · exact k_without_holes
    · exact k_flows
    · exact k_shared_out
    · exact k_flows_in_the_end
    · exact k_lets_in_the_end
    · exact k_rest_of
    · exact k_comes
    · exact k_rests
    · exact k_rain_with
    · exact k_comes_up_to
    · exact k_least_rain
    · exact k_with_rate
    · exact k_rates_by
    · exact k_choices
    · exact k_fewest_plugs
    · exact k__law_bag
    · exact k__law_take
    · exact k__law_of
    · exact k__law_within
    · exact k__law_tubs
    · exact k__law_rain
    · exact k__law_ends
    · exact k__law_rest
    · exact k__law_stands_so
    · exact k__law_least_so
    · exact k__law_rated
    · exact k__law_plugged
    · exact k__law_lots
    · exact k__law_plugs
    · exact k_law
  · simp only [tbl, dfs0, dfs1, dfs2, dfs3, dfs4, List.mem_append, List.mem_cons, List.not_mem_nil, or_false] at hp
    rcases hp with (((((rfl | rfl | rfl | rfl | rfl | rfl | rfl | rfl) | (rfl | rfl | rfl | rfl | rfl | rfl | rfl | rfl)) | (rfl | rfl | rfl | rfl | rfl | rfl | rfl | rfl)) | (rfl | rfl | rfl | rfl | rfl | rfl | rfl | rfl)) | (rfl | rfl))
    · cases h
    · cases h
    · cases h
    · cases h
    · cases h
    · cases h
    · cases h
    · cases h; exact ki_flows_in_the_end ts
    · cases h
    · cases h
    · cases h
    · cases h
    · cases h
    · cases h
    · cases h
    · cases h
    · cases h
    · cases h
    · cases h
    · cases h
    · cases h
    · cases h
    · cases h
    · cases h
    · cases h
    · cases h
    · cases h
    · cases h
    · cases h
    · cases h
    · cases h
    · cases h
    · cases h
    · cases h
  · have h : List.lookup q [(("flows_in_the_end.<locals>.letting" : Str), n_flows_in_the_end)] = some nd := h
    rw [List.lookup_cons] at h
    split at h
    · rename_i e; cases h; have e := eq_of_beq e; subst e; exact ⟨rfl, by decide +kernel, ko_flows_in_the_end⟩
    · cases h
def loose : List Str := (["__name__", "AWAY", "GREATEST_RATE", "names_of", "holes_of", "tub_at", "place_of", "without_holes", "flows", "RISES"] : List Str) ++ (["BOTTOM", "shared_out", "flows_in_the_end", "lets_in_the_end", "rest_of", "comes", "rests", "GREATEST_LEAST_RAIN", "rain_with", "comes_up_to"] : List Str) ++ (["least_rain", "with_rate", "rates_by", "choices", "fewest_plugs", "_law_bag", "_law_take", "_law_of", "_law_within", "_law_tubs"] : List Str) ++ (["_law_rain", "_law_ends", "_law_rest", "_law_stands_so", "_law_least_so", "_law_rated", "_law_plugged", "_law_lots", "_law_plugs"] : List Str)
abbrev RR : PySem.W.OpenRow := PySem.W.OpenLaw.row PySem.Challenge.rw_holetubs_k08_asked_backward
abbrev hk : PySem.W.Hook := He.hookX 4 tbl.fa tbl.fn [] tbl.tf tbl.ex
def ob (s : PySem.W.SharedT) : He.AlX := He.obsX 4 tbl.fa tbl.fn [] tbl.tf tbl.ex (HandSHeadRun.getT s)
theorem ob_eq (s : PySem.W.SharedT) : ob s = hk.obs s.abs := He.obsX_eq (HandSHeadRun.getT_eq s)
theorem run (w : World) : HandSHeadRun.RunEq RR (PySem.W.view RR.prog [43]) hk ob 4000 loose w := by
  intro os
  kernel_rfl
end K08

set_option maxHeartbeats 0
noncomputable section
namespace K08
open PySem PySem.Spec PyProof.Rows L2 Iv
variable {wh : Wh} {k : Nat}
def m_names_of (wh : Wh) (F : FT) : SF :=
    (seqS (frzS [0] (retF (lcF (plainF (vE 0)) [1, 2, 3] (unF [1, 2, 3]) yesT (vE 1))))
    skipS)
theorem e_names_of : tbl.F wh 60 (k + 1) "names_of" = runM 1 4 (m_names_of wh (tbl.F wh 60 k)) := by kernel_rfl
def m_holes_of (wh : Wh) (F : FT) : SF :=
    (seqS (frzS [0] (retF (lcF2 (plainF (vE 0)) [1, 2, 3, 4, 5, 6] (unF [1, 2, 3]) yesT (plainF (vE 3)) [4, 5, 6] (unF [4, 5, 6]) yesT (tupF (argsF [(vE 1), (vE 4)])))))
    skipS)
theorem e_holes_of : tbl.F wh 60 (k + 1) "holes_of" = runM 1 7 (m_holes_of wh (tbl.F wh 60 k)) := by kernel_rfl
def m_tub_at (wh : Wh) (F : FT) : SF :=
    (seqS (frzS [0, 1] (retF (idxF (valF (callF F "names_of" (argsF [(vE 0)]))) (vV 1))))
    skipS)
theorem e_tub_at : tbl.F wh 60 (k + 1) "tub_at" = runM 2 2 (m_tub_at wh (tbl.F wh 60 k)) := by kernel_rfl
def m_place_of (wh : Wh) (F : FT) : SF :=
    (seqS (frzS [1] (unpF (vE 1) (unF [2, 3])))
    (seqS (frzS [0, 2] (asgF 4 (callF F "tub_at" (argsF [(vE 0), (vE 2)]))))
    (seqS (frzS [4, 3] (retF (tupF (argsF [(vE 4), (idxF (valF (lcF (plainF (ixG (valF (orElse (ixS 0 (vV 4)) (ixG (vV 0) (vV 4)))) (valF (kE (.int 2))))) [5] (setF 5) yesT (orElse (ixS 5 (valF (kE (.int 0)))) (ixG (vV 5) (valF (kE (.int 0))))))) (vV 3))]))))
    skipS)))
theorem e_place_of : tbl.F wh 60 (k + 1) "place_of" = runM 2 6 (m_place_of wh (tbl.F wh 60 k)) := by kernel_rfl
def m_without_holes (wh : Wh) (F : FT) : SF :=
    (seqS (frzS [0] (retF (bltF1 .tuple (valF (lcF (plainF (vE 0)) [3, 4, 5] (unF [3, 4, 5]) yesT (tupF (argsF [(vE 3), (vE 4), (bltF1 .tuple (valF (lcF (plainF (vE 5)) [2] (setF 2) (cmpF .NotIn (valF (tupF (argsF [(vE 3), (orElse (ixS 2 (valF (kE (.int 0)))) (ixG (vV 2) (valF (kE (.int 0)))))]))) (vV 1)) (vE 2))))])))))))
    skipS)
theorem e_without_holes : tbl.F wh 60 (k + 1) "without_holes" = runM 2 6 (m_without_holes wh (tbl.F wh 60 k)) := by kernel_rfl
def m_flows (wh : Wh) (F : FT) (as : List R) : SF :=
    (seqS (frzS [0] (asgF 3 (callF F "names_of" (argsF [(vE 0)]))))
    (seqS (frzS [] (asgF 4 (bltF1 .list (vV 1))))
    (seqS (frzS [] (asgF 5 (lstF (argsF []))))
    (seqS (frzS [0] (forF (enumF (vE 0)) (unG [setF 6, unF [7, 8, 9]]) (seqS (frzS [6] (asgF 10 (cloF F as 2 (argsF [(vE 6), (orElse (ixS 4 (vV 6)) (ixG (vV 4) (vV 6)))]))))
    (seqS (frzS [10] (appS 5 (vE 10)))
    (seqS (frzS [9, 10] (forF (zipF (vE 9) (vE 10)) (unG [unF [11, 12, 13], setF 14]) (seqS (frzS [] (ifS (cmpF .NotEq (vV 13) (kV' (.str ""))) (seqS (frzS [14] (augSF .Add 4 (valF (idxF (vV 3) (vV 13))) (vV 14)))
    skipS) skipS))
    skipS)))
    skipS)))))
    (seqS (frzS [4, 5] (retF (tupF (argsF [(vE 4), (vE 5)]))))
    skipS)))))
theorem e_flows (rs : List R) : tbl.F wh 60 (k + 1) "flows" rs = runM 3 15 (m_flows wh (tbl.F wh 60 k) rs) rs := by kernel_rfl
def m_shared_out (wh : Wh) (F : FT) : SF :=
    (seqS (frzS [] (asgF 2 (lstF (argsF []))))
    (seqS (frzS [1] (asgF 3 (vE 1)))
    (seqS (frzS [0] (forF (plainF (vE 0)) (unF [4, 5, 6]) (seqS (frzS [3, 5] (appS 2 (bltF2 .min2 (vV 3) (vV 5))))
    (seqS (frzS [] (augF .Sub 3 (valF (orElse (ixS 2 (valF (negE (valF (kE (.int 1)))))) (ixG (vV 2) (valF (negE (valF (kE (.int 1))))))))))
    skipS))))
    (seqS (frzS [] (retS 2 (retF (vE 2))))
    skipS))))
theorem e_shared_out : tbl.F wh 60 (k + 1) "shared_out" = runM 2 7 (m_shared_out wh (tbl.F wh 60 k)) := by kernel_rfl
def m_letting (wh : Wh) (F : FT) : SF :=
    (seqS (frzS [1] (retF (callF F "shared_out" (argsF [(ixG (valF (orElse (ixS 2 (vV 0)) (ixG (vV 2) (vV 0)))) (valF (kE (.int 2)))), (vE 1)]))))
    skipS)
theorem e_letting : tbl.F wh 60 (k + 1) "flows_in_the_end.<locals>.letting" = runM 3 3 (m_letting wh (tbl.F wh 60 k)) := by kernel_rfl
def m_flows_in_the_end (wh : Wh) (F : FT) (as : List R) : SF :=
    (seqS (frzS [0, 1, 2] (retF (clF F as [0] "flows" 2 (argsF [(vE 0), (vE 1)]))))
    skipS)
theorem e_flows_in_the_end (rs : List R) (st : BSt) : tbl.F wh 60 (k + 1) "flows_in_the_end" rs st = if rs.length = 2 then uni "flows_in_the_end.<locals>.letting" (fun f F' => fin (m_flows_in_the_end wh (tbl.F wh 60 k) [.fnc f F' [] []] ((env0 3 rs).set 2 (some (.fnc f F' [] []))) st)) else none := by kernel_rfl
def m_lets_in_the_end (wh : Wh) (F : FT) : SF :=
    (seqS (frzS [0, 2] (unpF (callF F "place_of" (argsF [(vE 0), (vE 2)])) (unF [3, 4])))
    (seqS (frzS [0, 1] (unpF (callF F "flows_in_the_end" (argsF [(vE 0), (vE 1)])) (unF [5, 6])))
    (seqS (frzS [] (retF (ixG (valF (orElse (ixS 6 (vV 3)) (ixG (vV 6) (vV 3)))) (vV 4))))
    skipS)))
theorem e_lets_in_the_end : tbl.F wh 60 (k + 1) "lets_in_the_end" = runM 3 7 (m_lets_in_the_end wh (tbl.F wh 60 k)) := by kernel_rfl
def m_rest_of (wh : Wh) (F : FT) : SF :=
    (seqS (frzS [] (asgF 2 (kE (.int 0))))
    (seqS (frzS [1] (asgF 3 (vE 1)))
    (seqS (frzS [0] (forF (plainF (vE 0)) (unF [4, 5, 6]) (seqS (frzS [] (ifS (cmpF .Eq (vV 3) (valF (kE (.int 0)))) (seqS (frzS [2, 4] (retF (tupF (argsF [(vE 2), (vE 4)]))))
    skipS) skipS))
    (seqS (frzS [] (ifS (cmpF .Lt (vV 3) (vV 5)) (seqS (frzS [4, 4] (retF (tupF (argsF [(vE 4), (vE 4)]))))
    skipS) skipS))
    (seqS (frzS [5] (augF .Sub 3 (vV 5)))
    (seqS (frzS [4] (asgF 2 (vE 4)))
    skipS))))))
    (seqS (frzS [2] (retF (ifE (cmpF .Eq (vV 3) (valF (kE (.int 0)))) (tupF (argsF [(vE 2), (kE .none)])) (kE (.tuple [.str "rises"])))))
    skipS))))
theorem e_rest_of : tbl.F wh 60 (k + 1) "rest_of" = runM 2 7 (m_rest_of wh (tbl.F wh 60 k)) := by kernel_rfl
def m_comes (wh : Wh) (F : FT) : SF :=
    (seqS (frzS [0, 1] (retF (bltF1 .tuple (valF (ixG (valF (callF F "flows_in_the_end" (argsF [(vE 0), (vE 1)]))) (valF (kE (.int 0))))))))
    skipS)
theorem e_comes : tbl.F wh 60 (k + 1) "comes" = runM 2 2 (m_comes wh (tbl.F wh 60 k)) := by kernel_rfl
def m_rests (wh : Wh) (F : FT) : SF :=
    (seqS (frzS [0, 0, 1] (retF (lcF (zipF (vE 0) (callF F "comes" (argsF [(vE 0), (vE 1)]))) [2, 3, 4, 5] (unG [unF [2, 3, 4], setF 5]) yesT (callF F "rest_of" (argsF [(vE 4), (vE 5)])))))
    skipS)
theorem e_rests : tbl.F wh 60 (k + 1) "rests" = runM 2 6 (m_rests wh (tbl.F wh 60 k)) := by kernel_rfl
def m_rain_with (wh : Wh) (F : FT) : SF :=
    (seqS (frzS [0, 2] (asgF 4 (callF F "tub_at" (argsF [(vE 0), (vE 2)]))))
    (seqS (frzS [4, 3] (retF (binF .Add (valF (binF .Add (valF (slF (vV 1) (partF none) (partF (some (vV 4))))) (valF (tupF (argsF [(vE 3)]))))) (valF (slF (vV 1) (partF (some (valF (binF .Add (vV 4) (valF (kE (.int 1))))))) (partF none))))))
    skipS))
theorem e_rain_with : tbl.F wh 60 (k + 1) "rain_with" = runM 4 5 (m_rain_with wh (tbl.F wh 60 k)) := by kernel_rfl
def m_comes_up_to (wh : Wh) (F : FT) : SF :=
    (seqS (frzS [0, 1, 0, 2] (asgF 4 (ixG (valF (callF F "rests" (argsF [(vE 0), (vE 1)]))) (valF (callF F "tub_at" (argsF [(vE 0), (vE 2)]))))))
    (seqS (frzS [] (retF (orE (valF (blF (cmpF .Eq (vV 4) (kV' (.tuple [.str "rises"]))))) (blF (cmpF .GtE (valF (orElse (ixS 4 (valF (kE (.int 0)))) (ixG (vV 4) (valF (kE (.int 0)))))) (vV 3))))))
    skipS))
theorem e_comes_up_to : tbl.F wh 60 (k + 1) "comes_up_to" = runM 4 5 (m_comes_up_to wh (tbl.F wh 60 k)) := by kernel_rfl
def m_least_rain (wh : Wh) (F : FT) : SF :=
    (seqS (frzS [0, 0, 1, 2, 3, 4] (ifS (notT (tstF (valF (callF F "comes_up_to" (argsF [(vE 0), (callF F "rain_with" (argsF [(vE 0), (vE 1), (vE 2), (kE (.int 100000))])), (vE 3), (vE 4)]))))) (seqS (frzS [] (retF (kE .none)))
    skipS) skipS))
    (seqS (frzS [] (asgF 5 (kE (.int 0))))
    (seqS (frzS [] (asgF 6 (kE (.int 100000))))
    (seqS (frzS [] (wh (cmpF .Lt (vV 5) (vV 6)) (seqS (frzS [] (asgF 7 (binF .FloorDiv (valF (binF .Add (vV 5) (vV 6))) (valF (kE (.int 2))))))
    (seqS (frzS [0, 0, 1, 2, 7, 3, 4] (ifS (tstF (valF (callF F "comes_up_to" (argsF [(vE 0), (callF F "rain_with" (argsF [(vE 0), (vE 1), (vE 2), (vE 7)])), (vE 3), (vE 4)])))) (seqS (frzS [7] (asgF 6 (vE 7)))
    skipS) (seqS (frzS [] (asgF 5 (binF .Add (vV 7) (valF (kE (.int 1))))))
    skipS)))
    skipS))))
    (seqS (frzS [] (retS 5 (retF (vE 5))))
    skipS)))))
theorem e_least_rain : tbl.F wh 60 (k + 1) "least_rain" = runM 5 8 (m_least_rain wh (tbl.F wh 60 k)) := by kernel_rfl
def m_with_rate (wh : Wh) (F : FT) : SF :=
    (seqS (frzS [0, 1] (unpF (callF F "place_of" (argsF [(vE 0), (vE 1)])) (unF [3, 4])))
    (seqS (frzS [] (unpF (orElse (ixS 0 (vV 3)) (ixG (vV 0) (vV 3))) (unF [5, 6, 7])))
    (seqS (frzS [] (unpF (orElse (ixS 7 (vV 4)) (ixG (vV 7) (vV 4))) (unF [8, 9, 10])))
    (seqS (frzS [5, 6, 4, 8, 2, 10] (asgF 11 (tupF (argsF [(vE 5), (vE 6), (binF .Add (valF (binF .Add (valF (slF (vV 7) (partF none) (partF (some (vV 4))))) (valF (tupF (argsF [(tupF (argsF [(vE 8), (vE 2), (vE 10)]))]))))) (valF (slF (vV 7) (partF (some (valF (binF .Add (vV 4) (valF (kE (.int 1))))))) (partF none))))]))))
    (seqS (frzS [3, 11] (retF (binF .Add (valF (binF .Add (valF (slF (vV 0) (partF none) (partF (some (vV 3))))) (valF (tupF (argsF [(vE 11)]))))) (valF (slF (vV 0) (partF (some (valF (binF .Add (vV 3) (valF (kE (.int 1))))))) (partF none))))))
    skipS)))))
theorem e_with_rate : tbl.F wh 60 (k + 1) "with_rate" = runM 3 12 (m_with_rate wh (tbl.F wh 60 k)) := by kernel_rfl
def m_rates_by (wh : Wh) (F : FT) : SF :=
    (seqS (frzS [0, 2, 1, 3] (retF (lcF (rangeF2 (valF (kE (.int 1))) (valF (binF .Add (kV' (.int 100)) (valF (kE (.int 1)))))) [5] (setF 5) (cmpF .Eq (valF (callF F "lets_in_the_end" (argsF [(callF F "with_rate" (argsF [(vE 0), (vE 2), (vE 5)])), (vE 1), (vE 3)]))) (vV 4)) (vE 5))))
    skipS)
theorem e_rates_by : tbl.F wh 60 (k + 1) "rates_by" = runM 5 6 (m_rates_by wh (tbl.F wh 60 k)) := by kernel_rfl
def m_choices (wh : Wh) (F : FT) : SF :=
    (seqS (frzS [] (ifS (cmpF .Eq (vV 1) (valF (kE (.int 0)))) (seqS (frzS [] (retF (lstF (argsF [(tupF (argsF []))]))))
    skipS) skipS))
    (seqS (frzS [] (asgF 2 (lstF (argsF []))))
    (seqS (frzS [0] (forF (enumF (vE 0)) (unF [3, 4]) (seqS (frzS [4] (augF .Add 2 (valF (lcF (plainF (callF F "choices" (argsF [(slF (vV 0) (partF (some (valF (binF .Add (vV 3) (valF (kE (.int 1))))))) (partF none)), (binF .Sub (vV 1) (valF (kE (.int 1))))]))) [5] (setF 5) yesT (binF .Add (valF (tupF (argsF [(vE 4)]))) (vV 5))))))
    skipS)))
    (seqS (frzS [] (retS 2 (retF (vE 2))))
    skipS))))
theorem e_choices : tbl.F wh 60 (k + 1) "choices" = runM 2 6 (m_choices wh (tbl.F wh 60 k)) := by kernel_rfl
def m_fewest_plugs (wh : Wh) (F : FT) : SF :=
    (seqS (frzS [0, 2] (asgF 4 (callF F "tub_at" (argsF [(vE 0), (vE 2)]))))
    (seqS (frzS [0] (asgF 5 (bltF1 .sorted (valF (callF F "holes_of" (argsF [(vE 0)]))))))
    (seqS (frzS [] (forF (rangeF (valF (binF .Add (valF (orElse (lenS 5) (bltF1 .len (vV 5)))) (valF (kE (.int 1)))))) (setF 6) (seqS (frzS [5, 6] (forF (plainF (callF F "choices" (argsF [(vE 5), (vE 6)]))) (setF 7) (seqS (frzS [0, 7, 1] (ifS (cmpF .GtE (valF (ixG (valF (callF F "comes" (argsF [(callF F "without_holes" (argsF [(vE 0), (vE 7)])), (vE 1)]))) (vV 4))) (vV 3)) (seqS (frzS [] (retS 7 (retF (vE 7))))
    skipS) skipS))
    skipS)))
    skipS)))
    (seqS (frzS [] (retF (kE .none)))
    skipS))))
theorem e_fewest_plugs : tbl.F wh 60 (k + 1) "fewest_plugs" = runM 4 8 (m_fewest_plugs wh (tbl.F wh 60 k)) := by kernel_rfl
def m__law_bag (wh : Wh) (F : FT) : SF :=
    (seqS (frzS [] (asgF 2 (kE (.int 0))))
    (seqS (frzS [] (ifS (cmpF .Lt (vV 1) (valF (orElse (lenS 0) (bltF1 .len (vV 0))))) (seqS (frzS [] (asgF 2 (bltF1 .abs (valF (orElse (ixS 0 (vV 1)) (ixG (vV 0) (vV 1)))))))
    skipS) skipS))
    (seqS (frzS [] (ifS (cmpF .Lt (vV 2) (valF (binF .Pow (valF (kE (.int 10))) (valF (kE (.int 18)))))) (seqS (frzS [] (retF (lstF (argsF [(kE (.int 0)), (binF .Add (valF (kE (.int 1))) (valF (binF .Mod (valF (binF .Add (valF (binF .Mult (vV 2) (valF (kE (.int 7919))))) (valF (binF .Mult (valF (kE (.int 104729))) (vV 1))))) (valF (kE (.int 2147483646))))))]))))
    skipS) skipS))
    (seqS (frzS [2] (retF (lstF (argsF [(vE 2), (binF .Add (valF (kE (.int 1))) (valF (binF .Mod (valF (binF .Add (vV 2) (vV 1))) (valF (kE (.int 2147483646))))))]))))
    skipS))))
theorem e__law_bag : tbl.F wh 60 (k + 1) "_law_bag" = runM 2 3 (m__law_bag wh (tbl.F wh 60 k)) := by kernel_rfl
def m__law_take (wh : Wh) (F : FT) : SF :=
    (seqS (frzS [] (ifS (cmpF .Gt (valF (orElse (ixS 0 (valF (kE (.int 0)))) (ixG (vV 0) (valF (kE (.int 0)))))) (valF (kE (.int 0)))) (seqS (frzS [] (asgF 2 (binF .Mod (valF (orElse (ixS 0 (valF (kE (.int 0)))) (ixG (vV 0) (valF (kE (.int 0)))))) (vV 1))))
    (seqS (frzS [] (setS 0 (binF .FloorDiv (valF (orElse (ixS 0 (valF (kE (.int 0)))) (ixG (vV 0) (valF (kE (.int 0)))))) (vV 1)) (valF (kE (.int 0)))))
    (seqS (frzS [] (retS 2 (retF (vE 2))))
    skipS))) skipS))
    (seqS (frzS [] (setS 0 (binF .Mod (valF (binF .Mult (valF (orElse (ixS 0 (valF (kE (.int 1)))) (ixG (vV 0) (valF (kE (.int 1)))))) (valF (kE (.int 48271))))) (valF (kE (.int 2147483647)))) (valF (kE (.int 1)))))
    (seqS (frzS [] (retF (binF .Mod (valF (binF .FloorDiv (valF (binF .Mod (valF (binF .Mult (valF (orElse (ixS 0 (valF (kE (.int 1)))) (ixG (vV 0) (valF (kE (.int 1)))))) (valF (orElse (ixS 0 (valF (kE (.int 1)))) (ixG (vV 0) (valF (kE (.int 1)))))))) (valF (kE (.int 2147483629))))) (valF (kE (.int 64))))) (vV 1))))
    skipS)))
theorem e__law_take : tbl.F wh 60 (k + 1) "_law_take" = runM 2 3 (m__law_take wh (tbl.F wh 60 k)) := by kernel_rfl
def m__law_of (wh : Wh) (F : FT) : SF :=
    (seqS (frzS [0] (retF (orElse (ixS 1 (valF (callF F "_law_take" (argsF [(vE 0), (orElse (lenS 1) (bltF1 .len (vV 1)))])))) (ixG (vV 1) (valF (callF F "_law_take" (argsF [(vE 0), (orElse (lenS 1) (bltF1 .len (vV 1)))])))))))
    skipS)
theorem e__law_of : tbl.F wh 60 (k + 1) "_law_of" = runM 2 2 (m__law_of wh (tbl.F wh 60 k)) := by kernel_rfl
def m__law_within (wh : Wh) (F : FT) : SF :=
    (seqS (frzS [] (retF (andE (valF (isiF .int (vV 0))) (andE (valF (notE (valF (isiF .bool (vV 0))))) (blF (chainF .LtE .LtE (vV 1) (vV 0) (vV 2)))))))
    skipS)
theorem e__law_within : tbl.F wh 60 (k + 1) "_law_within" = runM 3 3 (m__law_within wh (tbl.F wh 60 k)) := by kernel_rfl
def m__law_tubs (wh : Wh) (F : FT) : SF :=
    (seqS (frzS [0, 0, 1] (asgF 2 (slF (valF (callF F "_law_of" (argsF [(vE 0), (lstF (argsF [(lstF (argsF [(kE (.str "ann")), (kE (.str "bo")), (kE (.str "cy"))])), (lstF (argsF [(kE (.str "cy")), (kE (.str "ann")), (kE (.str "bo"))]))]))]))) (partF none) (partF (some (valF (binF .Add (valF (kE (.int 1))) (valF (callF F "_law_take" (argsF [(vE 0), (vE 1)]))))))))))
    (seqS (frzS [] (asgF 3 (lstF (argsF []))))
    (seqS (frzS [2] (forF (enumF (vE 2)) (unF [4, 5]) (seqS (frzS [] (asgF 6 dict0))
    (seqS (frzS [0] (asgF 7 (ixG (valF (lstF (argsF [(kE (.int 4)), (kE (.int 12)), (kE (.int 1001))]))) (valF (callF F "_law_take" (argsF [(vE 0), (kE (.int 3))]))))))
    (seqS (frzS [0] (forF (rangeF (valF (callF F "_law_take" (argsF [(vE 0), (kE (.int 4))])))) (setF 8) (seqS (frzS [] (setS 6 (kE (.bool true)) (valF (callF F "_law_take" (argsF [(vE 0), (vE 7)])))))
    skipS)))
    (seqS (frzS [] (asgF 9 (lstF (argsF []))))
    (seqS (frzS [] (forF (plainF (bltF1 .sorted (vV 6))) (setF 10) (seqS (frzS [0, 0] (asgF 11 (binF .Add (valF (kE (.int 1))) (valF (callF F "_law_take" (argsF [(vE 0), (ixG (valF (lstF (argsF [(kE (.int 4)), (kE (.int 100))]))) (valF (callF F "_law_take" (argsF [(vE 0), (kE (.int 2))]))))]))))))
    (seqS (frzS [10, 11, 0] (appS 9 (tupF (argsF [(vE 10), (vE 11), (callF F "_law_of" (argsF [(vE 0), (binF .Add (valF (binF .Add (valF (lstF (argsF [(kE (.str ""))]))) (valF (slF (vV 2) (partF (some (valF (binF .Add (vV 4) (valF (kE (.int 1))))))) (partF none))))) (valF (slF (vV 2) (partF (some (valF (binF .Add (vV 4) (valF (kE (.int 1))))))) (partF none))))]))]))))
    skipS))))
    (seqS (frzS [5, 0, 0] (appS 3 (tupF (argsF [(vE 5), (binF .Add (valF (kE (.int 1))) (valF (callF F "_law_take" (argsF [(vE 0), (ixG (valF (lstF (argsF [(kE (.int 3)), (kE (.int 30))]))) (valF (callF F "_law_take" (argsF [(vE 0), (kE (.int 2))]))))])))), (bltF1 .tuple (vV 9))]))))
    skipS))))))))
    (seqS (frzS [] (retF (bltF1 .tuple (vV 3))))
    skipS))))
theorem e__law_tubs : tbl.F wh 60 (k + 1) "_law_tubs" = runM 2 12 (m__law_tubs wh (tbl.F wh 60 k)) := by kernel_rfl
def m__law_rain (wh : Wh) (F : FT) : SF :=
    (seqS (frzS [] (asgF 2 (lstF (argsF []))))
    (seqS (frzS [1] (forF (plainF (vE 1)) (unF [3, 4, 5]) (seqS (frzS [] (par2F 6 7 (lstF (argsF [(kE (.int 0))])) (kE (.int 0))))
    (seqS (frzS [5] (forF (plainF (vE 5)) (setF 8) (seqS (frzS [] (asgF 7 (binF .Add (vV 7) (valF (orElse (ixS 8 (valF (kE (.int 1)))) (ixG (vV 8) (valF (kE (.int 1)))))))))
    (seqS (frzS [7] (appS 6 (vE 7)))
    skipS))))
    (seqS (frzS [0, 6, 0, 0, 0] (appS 2 (ixG (valF (lstF (argsF [(callF F "_law_of" (argsF [(vE 0), (vE 6)])), (callF F "_law_take" (argsF [(vE 0), (kE (.int 8))])), (callF F "_law_take" (argsF [(vE 0), (kE (.int 200))])), (kE (.int 0))]))) (valF (callF F "_law_take" (argsF [(vE 0), (kE (.int 4))]))))))
    skipS)))))
    (seqS (frzS [] (retF (bltF1 .tuple (vV 2))))
    skipS)))
theorem e__law_rain : tbl.F wh 60 (k + 1) "_law_rain" = runM 2 9 (m__law_rain wh (tbl.F wh 60 k)) := by kernel_rfl
def m__law_ends (wh : Wh) (F : FT) : SF :=
    (seqS (frzS [4, 0, 1] (asgF 2 (dicF (valF (lcF (zipF (vE 0) (vE 1)) [3, 4] (unF [3, 4]) yesT (tupF (argsF [(orElse (ixS 3 (valF (kE (.int 0)))) (ixG (vV 3) (valF (kE (.int 0))))), (vE 4)])))))))
    (seqS (frzS [] (asgF 5 dict0T))
    (seqS (frzS [0] (forF (plainF (vE 0)) (unF [6, 7, 8]) (seqS (frzS [] (asgF 9 (orElse (ixS 2 (vV 6)) (ixG (vV 2) (vV 6)))))
    (seqS (frzS [8] (forF (plainF (vE 8)) (unF [10, 4, 11]) (seqS (frzS [4, 9] (setTF 5 (bltF2 .min2 (vV 4) (vV 9)) (argsF [(vE 6), (vE 10)])))
    (seqS (frzS [4, 9] (asgF 9 (binF .Sub (vV 9) (valF (bltF2 .min2 (vV 4) (vV 9))))))
    (seqS (frzS [] (ifS (cmpF .NotEq (vV 11) (valF (kE (.str "")))) (seqS (frzS [6, 10] (setS 2 (binF .Add (valF (orElse (ixS 2 (vV 11)) (ixG (vV 2) (vV 11)))) (valF (ixTF (vV 5) (argsF [(vE 6), (vE 10)])))) (vV 11)))
    skipS) skipS))
    skipS)))))
    skipS))))
    (seqS (frzS [0, 5] (retF (tupF (argsF [(lcF (plainF (vE 0)) [3] (setF 3) yesT (orElse (ixS 2 (valF (orElse (ixS 3 (valF (kE (.int 0)))) (ixG (vV 3) (valF (kE (.int 0))))))) (ixG (vV 2) (valF (orElse (ixS 3 (valF (kE (.int 0)))) (ixG (vV 3) (valF (kE (.int 0))))))))), (vE 5)]))))
    skipS))))
theorem e__law_ends : tbl.F wh 60 (k + 1) "_law_ends" = runM 2 12 (m__law_ends wh (tbl.F wh 60 k)) := by kernel_rfl
def m__law_rest (wh : Wh) (F : FT) : SF :=
    (seqS (frzS [] (asgF 2 (lstF (argsF [(kE (.int 0))]))))
    (seqS (frzS [0] (forF (plainF (vE 0)) (setF 3) (seqS (frzS [] (appS 2 (binF .Add (valF (orElse (ixS 2 (valF (negE (valF (kE (.int 1)))))) (ixG (vV 2) (valF (negE (valF (kE (.int 1)))))))) (valF (orElse (ixS 3 (valF (kE (.int 1)))) (ixG (vV 3) (valF (kE (.int 1)))))))))
    skipS)))
    (seqS (frzS [] (ifS (cmpF .Gt (vV 1) (valF (orElse (ixS 2 (valF (negE (valF (kE (.int 1)))))) (ixG (vV 2) (valF (negE (valF (kE (.int 1))))))))) (seqS (frzS [] (retF (tupF (argsF [(kE (.str "rises"))]))))
    skipS) skipS))
    (seqS (frzS [2] (forF (enumF (vE 2)) (unF [4, 5]) (seqS (frzS [] (ifS (cmpF .Eq (vV 5) (vV 1)) (seqS (frzS [] (asgF 6 (ifE (cmpF .Eq (vV 4) (valF (kE (.int 0)))) (kE (.int 0)) (ixG (valF (orElse (ixS 0 (valF (binF .Sub (vV 4) (valF (kE (.int 1)))))) (ixG (vV 0) (valF (binF .Sub (vV 4) (valF (kE (.int 1)))))))) (valF (kE (.int 0)))))))
    (seqS (frzS [6] (retF (tupF (argsF [(vE 6), (ifE (cmpF .Lt (vV 4) (valF (orElse (lenS 0) (bltF1 .len (vV 0))))) (ixG (valF (orElse (ixS 0 (vV 4)) (ixG (vV 0) (vV 4)))) (valF (kE (.int 0)))) (kE .none))]))))
    skipS)) skipS))
    (seqS (frzS [] (ifS (chainF .Lt .Lt (vV 5) (vV 1) (valF (orElse (ixS 2 (valF (binF .Add (vV 4) (valF (kE (.int 1)))))) (ixG (vV 2) (valF (binF .Add (vV 4) (valF (kE (.int 1))))))))) (seqS (frzS [] (retF (tupF (argsF [(ixG (valF (orElse (ixS 0 (vV 4)) (ixG (vV 0) (vV 4)))) (valF (kE (.int 0)))), (ixG (valF (orElse (ixS 0 (vV 4)) (ixG (vV 0) (vV 4)))) (valF (kE (.int 0))))]))))
    skipS) skipS))
    skipS))))
    (seqS (frzS [] (retF (kE .none)))
    skipS)))))
theorem e__law_rest : tbl.F wh 60 (k + 1) "_law_rest" = runM 2 7 (m__law_rest wh (tbl.F wh 60 k)) := by kernel_rfl
def m__law_stands_so (wh : Wh) (F : FT) : SF :=
    (seqS (frzS [0, 1] (asgF 4 (callF F "_law_rest" (argsF [(ixG (valF (orElse (ixS 0 (vV 2)) (ixG (vV 0) (vV 2)))) (valF (kE (.int 2)))), (ixG (valF (ixG (valF (callF F "_law_ends" (argsF [(vE 0), (vE 1)]))) (valF (kE (.int 0))))) (vV 2))]))))
    (seqS (frzS [] (retF (orE (valF (blF (cmpF .Eq (vV 4) (valF (tupF (argsF [(kE (.str "rises"))])))))) (blF (cmpF .GtE (valF (orElse (ixS 4 (valF (kE (.int 0)))) (ixG (vV 4) (valF (kE (.int 0)))))) (vV 3))))))
    skipS))
theorem e__law_stands_so : tbl.F wh 60 (k + 1) "_law_stands_so" = runM 4 5 (m__law_stands_so wh (tbl.F wh 60 k)) := by kernel_rfl
def m__law_least_so (wh : Wh) (F : FT) : SF :=
    (seqS (frzS [0, 1, 4] (asgF 5 (callF F "least_rain" (argsF [(vE 0), (vE 1), (ixG (valF (orElse (ixS 0 (vV 2)) (ixG (vV 0) (vV 2)))) (valF (kE (.int 0)))), (ixG (valF (orElse (ixS 0 (vV 3)) (ixG (vV 0) (vV 3)))) (valF (kE (.int 0)))), (vE 4)]))))
    (seqS (frzS [2] (par2F 6 7 (slF (vV 1) (partF none) (partF (some (vV 2)))) (slF (vV 1) (partF (some (valF (binF .Add (vV 2) (valF (kE (.int 1))))))) (partF none))))
    (seqS (frzS [] (ifS (cmpF .Is (vV 5) (valF (kE .none))) (seqS (frzS [0, 3, 4] (retF (notE (valF (callF F "_law_stands_so" (argsF [(vE 0), (binF .Add (valF (binF .Add (vV 6) (valF (tupF (argsF [(kE (.int 100000))]))))) (vV 7)), (vE 3), (vE 4)]))))))
    skipS) skipS))
    (seqS (frzS [5] (ifS (notT (tstF (valF (callF F "_law_within" (argsF [(vE 5), (kE (.int 0)), (kE (.int 100000))]))))) (seqS (frzS [] (retF (kE (.bool false))))
    skipS) skipS))
    (seqS (frzS [0, 5, 3, 4] (ifS (notT (tstF (valF (callF F "_law_stands_so" (argsF [(vE 0), (binF .Add (valF (binF .Add (vV 6) (valF (tupF (argsF [(vE 5)]))))) (vV 7)), (vE 3), (vE 4)]))))) (seqS (frzS [] (retF (kE (.bool false))))
    skipS) skipS))
    (seqS (frzS [] (ifS (cmpF .Eq (vV 5) (valF (kE (.int 0)))) (seqS (frzS [] (retF (kE (.bool true))))
    skipS) skipS))
    (seqS (frzS [0, 3, 4] (retF (notE (valF (callF F "_law_stands_so" (argsF [(vE 0), (binF .Add (valF (binF .Add (vV 6) (valF (tupF (argsF [(binF .Sub (vV 5) (valF (kE (.int 1))))]))))) (vV 7)), (vE 3), (vE 4)]))))))
    skipS)))))))
theorem e__law_least_so : tbl.F wh 60 (k + 1) "_law_least_so" = runM 5 8 (m__law_least_so wh (tbl.F wh 60 k)) := by kernel_rfl
def m__law_rated (wh : Wh) (F : FT) : SF :=
    (seqS (frzS [] (asgF 3 (lstF (argsF []))))
    (seqS (frzS [0] (forF (plainF (vE 0)) (unF [4, 5, 6]) (seqS (frzS [] (asgF 7 (lstF (argsF []))))
    (seqS (frzS [6] (forF (plainF (vE 6)) (unF [8, 9, 10]) (seqS (frzS [8, 4, 8, 2, 9, 10] (appS 7 (tupF (argsF [(vE 8), (ifE (cmpF .Eq (valF (tupF (argsF [(vE 4), (vE 8)]))) (vV 1)) (vE 2) (vE 9)), (vE 10)]))))
    skipS)))
    (seqS (frzS [4, 5] (appS 3 (tupF (argsF [(vE 4), (vE 5), (bltF1 .tuple (vV 7))]))))
    skipS)))))
    (seqS (frzS [] (retF (bltF1 .tuple (vV 3))))
    skipS)))
theorem e__law_rated : tbl.F wh 60 (k + 1) "_law_rated" = runM 3 11 (m__law_rated wh (tbl.F wh 60 k)) := by kernel_rfl
def m__law_plugged (wh : Wh) (F : FT) : SF :=
    (seqS (frzS [] (asgF 2 (lstF (argsF []))))
    (seqS (frzS [0] (forF (plainF (vE 0)) (unF [3, 4, 5]) (seqS (frzS [3, 4, 5, 3] (appS 2 (tupF (argsF [(vE 3), (vE 4), (bltF1 .tuple (valF (lcF (plainF (vE 5)) [6] (setF 6) (cmpF .NotIn (valF (tupF (argsF [(vE 3), (orElse (ixS 6 (valF (kE (.int 0)))) (ixG (vV 6) (valF (kE (.int 0)))))]))) (vV 1)) (vE 6))))]))))
    skipS)))
    (seqS (frzS [] (retF (bltF1 .tuple (vV 2))))
    skipS)))
theorem e__law_plugged : tbl.F wh 60 (k + 1) "_law_plugged" = runM 2 7 (m__law_plugged wh (tbl.F wh 60 k)) := by kernel_rfl
def m__law_lots (wh : Wh) (F : FT) : SF :=
    (seqS (frzS [] (ifS (cmpF .Eq (vV 1) (valF (kE (.int 0)))) (seqS (frzS [] (retF (lstF (argsF [(tupF (argsF []))]))))
    skipS) skipS))
    (seqS (frzS [] (asgF 2 (lstF (argsF []))))
    (seqS (frzS [0] (forF (enumF (vE 0)) (unF [3, 4]) (seqS (frzS [4] (asgF 2 (binF .Add (vV 2) (valF (lcF (plainF (callF F "_law_lots" (argsF [(slF (vV 0) (partF (some (valF (binF .Add (vV 3) (valF (kE (.int 1))))))) (partF none)), (binF .Sub (vV 1) (valF (kE (.int 1))))]))) [5] (setF 5) yesT (binF .Add (valF (tupF (argsF [(vE 4)]))) (vV 5)))))))
    skipS)))
    (seqS (frzS [] (retS 2 (retF (vE 2))))
    skipS))))
theorem e__law_lots : tbl.F wh 60 (k + 1) "_law_lots" = runM 2 6 (m__law_lots wh (tbl.F wh 60 k)) := by kernel_rfl
def m__law_plugs (wh : Wh) (F : FT) : SF :=
    (seqS (frzS [] (asgF 4 (lstF (argsF []))))
    (seqS (frzS [0] (forF (plainF (vE 0)) (unF [5, 6, 7]) (seqS (frzS [5, 7] (asgF 4 (binF .Add (vV 4) (valF (lcF (plainF (vE 7)) [8] (setF 8) yesT (tupF (argsF [(vE 5), (orElse (ixS 8 (valF (kE (.int 0)))) (ixG (vV 8) (valF (kE (.int 0)))))])))))))
    skipS)))
    (seqS (frzS [] (asgF 4 (bltF1 .sorted (vV 4))))
    (seqS (frzS [] (forF (rangeF (valF (binF .Add (valF (orElse (lenS 4) (bltF1 .len (vV 4)))) (valF (kE (.int 1)))))) (setF 9) (seqS (frzS [4, 9] (forF (plainF (callF F "_law_lots" (argsF [(vE 4), (vE 9)]))) (setF 10) (seqS (frzS [0, 10, 1] (ifS (cmpF .GtE (valF (ixG (valF (ixG (valF (callF F "_law_ends" (argsF [(callF F "_law_plugged" (argsF [(vE 0), (vE 10)])), (vE 1)]))) (valF (kE (.int 0))))) (vV 2))) (vV 3)) (seqS (frzS [] (retS 10 (retF (vE 10))))
    skipS) skipS))
    skipS)))
    skipS)))
    (seqS (frzS [] (retF (kE .none)))
    skipS)))))
theorem e__law_plugs : tbl.F wh 60 (k + 1) "_law_plugs" = runM 4 11 (m__law_plugs wh (tbl.F wh 60 k)) := by kernel_rfl
def m_law (wh : Wh) (F : FT) : SF :=
    (seqS (frzS [] (forF (rangeF (valF (binF .Add (valF (kE (.int 1))) (valF (bltF2 .min2 (valF (orElse (lenS 0) (bltF1 .len (vV 0)))) (valF (kE (.int 5)))))))) (setF 1) (bagF 2 (callF F "_law_bag" (argsF [(vE 0), (vE 1)])) (seqS (frzS [2] (asgF 3 (callF F "_law_tubs" (argsF [(vE 2), (kE (.int 3))]))))
    (seqS (frzS [2, 3] (asgF 4 (callF F "_law_rain" (argsF [(vE 2), (vE 3)]))))
    (seqS (frzS [3, 4] (unpF (callF F "_law_ends" (argsF [(vE 3), (vE 4)])) (unF [5, 6])))
    (seqS (frzS [] (forF (rangeF (valF (kE (.int 4)))) (setF 7) (seqS (frzS [2, 2] (par2F 8 9 (callF F "_law_take" (argsF [(vE 2), (orElse (lenS 3) (bltF1 .len (vV 3)))])) (callF F "_law_take" (argsF [(vE 2), (orElse (lenS 3) (bltF1 .len (vV 3)))]))))
    (seqS (frzS [2, 2] (asgF 10 (callF F "_law_of" (argsF [(vE 2), (binF .Add (valF (binF .Add (valF (lstF (argsF [(callF F "_law_take" (argsF [(vE 2), (kE (.int 12))]))]))) (valF (lcF (plainF (ixG (valF (orElse (ixS 3 (vV 9)) (ixG (vV 3) (vV 9)))) (valF (kE (.int 2))))) [11] (setF 11) yesT (orElse (ixS 11 (valF (kE (.int 0)))) (ixG (vV 11) (valF (kE (.int 0))))))))) (valF (lstF (argsF [(kE (.int 1000))]))))]))))
    (seqS (frzS [3, 4, 8, 9, 10] (ifS (notT (tstF (valF (callF F "_law_least_so" (argsF [(vE 3), (vE 4), (vE 8), (vE 9), (vE 10)]))))) (seqS (frzS [] (retF (kE (.bool false))))
    skipS) skipS))
    (seqS (frzS [2] (asgF 12 (bltF2 .max2 (valF (kE (.int 0))) (valF (binF .Sub (valF (binF .Add (valF (orElse (ixS 5 (vV 9)) (ixG (vV 5) (vV 9)))) (valF (callF F "_law_take" (argsF [(vE 2), (kE (.int 12))]))))) (valF (kE (.int 2))))))))
    (seqS (frzS [3, 4, 12, 3, 4, 9, 12] (ifS (cmpF .NotEq (valF (callF F "fewest_plugs" (argsF [(vE 3), (vE 4), (ixG (valF (orElse (ixS 3 (vV 9)) (ixG (vV 3) (vV 9)))) (valF (kE (.int 0)))), (vE 12)]))) (valF (callF F "_law_plugs" (argsF [(vE 3), (vE 4), (vE 9), (vE 12)])))) (seqS (frzS [] (retF (kE (.bool false))))
    skipS) skipS))
    skipS)))))))
    (seqS (frzS [] (asgF 13 (bltF1 .sorted (vV 6))))
    (seqS (frzS [] (forF (plainF (slF (vV 13) (partF none) (partF (some (valF (kE (.int 3))))))) (setF 14) (seqS (frzS [2, 13] (asgF 15 (callF F "_law_of" (argsF [(vE 2), (vE 13)]))))
    (seqS (frzS [2] (asgF 12 (bltF2 .min2 (valF (kE (.int 100))) (valF (bltF2 .max2 (valF (kE (.int 0))) (valF (binF .Sub (valF (binF .Add (valF (orElse (ixS 6 (vV 15)) (ixG (vV 6) (vV 15)))) (valF (callF F "_law_take" (argsF [(vE 2), (kE (.int 3))]))))) (valF (kE (.int 1))))))))))
    (seqS (frzS [] (asgF 16 (lstF (argsF []))))
    (seqS (frzS [] (forF (rangeF2 (valF (kE (.int 1))) (valF (kE (.int 101)))) (setF 17) (seqS (frzS [3, 14, 17, 4] (ifS (cmpF .Eq (valF (ixG (valF (ixG (valF (callF F "_law_ends" (argsF [(callF F "_law_rated" (argsF [(vE 3), (vE 14), (vE 17)])), (vE 4)]))) (valF (kE (.int 1))))) (vV 15))) (vV 12)) (seqS (frzS [17] (appS 16 (vE 17)))
    skipS) skipS))
    skipS)))
    (seqS (frzS [3, 4, 14, 15, 12] (ifS (cmpF .NotEq (valF (callF F "rates_by" (argsF [(vE 3), (vE 4), (vE 14), (vE 15), (vE 12)]))) (vV 16)) (seqS (frzS [] (retF (kE (.bool false))))
    skipS) skipS))
    skipS)))))))
    skipS)))))))))
    (seqS (frzS [] (retF (kE (.bool true))))
    skipS))
theorem e_law : tbl.F wh 60 (k + 1) "law" = runM 1 18 (m_law wh (tbl.F wh 60 k)) := by kernel_rfl
end K08

set_option maxHeartbeats 4000000
namespace K08
open PySem PySem.Spec PyProof.Rows L2 Iv
local instance nmZ_K08P : Iv.Nm := Iv.nmZ
noncomputable abbrev FF (k : Nat) : FT := tbl.F whR 60 k
variable {k : Nat}
theorem f_law_take (m : Int) (hm : 0 < m) (hd' : m < 1152921504606846976) (s : Int × Int) (hs : bgOk s) : ∃ (i : Int) (s' : Int × Int), FF (k + 1) "_law_take" [.bag, .fz (.int m)] (some s) = some (.fz (.int i), some s') ∧ 0 ≤ i ∧ i < m ∧ bgOk s' := by
  unfold FF
  rw [e__law_take]
  have hd := divOk_of hm hd'
  obtain ⟨a, b⟩ := s
  obtain ⟨h1, h2⟩ := hs
  have h1 : 0 ≤ b := h1
  have h2 : b < 2147483647 := h2
  cases c : decide (0 < a) with
  | true =>
    have fd : binD .FloorDiv (.int a) (.int m) = some (.fz (.int (a / m))) := by
      show (if divOk m then _ else none) = _
      rw [hd]; rfl
    have c' : decide (a > 0) = true := c
    refine ⟨a % m, (a / m, b), ?_, Int.emod_nonneg _ (by omega), Int.emod_lt_of_pos _ hm, h1, h2⟩
    simp only [m__law_take, runM, seqS, frzS, frzs, frz1, retF, retS, ifS, skipS, andE, orE, notE, ifE, valF, vE, vV, kE, kV', callF, ar_nil, ar_cons, dn_fz, dn_ow, dn_bag, dn_scr, d_fz, d_ow, b_of, isiF, isD, blF, cmpF, chainF, orElse, lenS, bltF1, notT, andT, orT, tstF, l_list, l_tuple, l_all, l_listL, l_listT, l_tupL, l_tupT, l_abs, c_lt, c_le, c_gt, c_ge, c_eqI, c_neI, c_inS, c_niS, i_list, i_tuple, i_str, x_list, x_tuple, plainF, ixF, ixG, ixS, asgF, unpF, unF, setAll, List.length_cons, List.length_nil, List.map_cons, List.map_nil, if_true, if_false, List.cons_append, List.nil_append, List.append_nil, List.getElem?_cons_zero, List.getElem?_cons_succ, List.replicate, List.set_cons_zero, List.set_cons_succ, Option.bind_some, Option.map_some, Option.bind_none, Option.map_none, Bool.not_true, Bool.not_false, Bool.false_eq_true, Bool.or_false, Bool.or_true, Nat.reduceAdd, Nat.reduceSub, Nat.zero_add, decide_true, decide_false, Bool.true_and, Bool.false_and, Bool.and_true, Bool.and_false, binF, d_mod hm, fd, c', setS]
  | false =>
    have c' : decide (a > 0) = false := c
    have mk : ∀ x y : Int, 0 ≤ x → x < 2147483647 → 0 ≤ y → y < 2147483647 → binD .Mult (.int x) (.int y) = some (.fz (.int (x * y))) := fun x y hx hx' hy hy' => by
      show (if mulOk x y then _ else none) = _
      have : mulOk x y = true := by
        have l1 := lg31 (x := x.natAbs) (by omega)
        have l2 := lg31 (x := y.natAbs) (by omega)
        exact decide_eq_true (by omega)
      rw [this]; rfl
    have q1 := mk b 48271 h1 h2 (by omega) (by omega)
    have m1 := d_mod (i := b * 48271) (j := 2147483647) (by omega)
    have n1 : 0 ≤ b * 48271 % 2147483647 := Int.emod_nonneg _ (by omega)
    have n2 : b * 48271 % 2147483647 < 2147483647 := Int.emod_lt_of_pos _ (by omega)
    generalize b * 48271 % 2147483647 = y at m1 n1 n2
    have q2 := mk y y n1 n2 n1 n2
    have m2 := d_mod (i := y * y) (j := 2147483629) (by omega)
    generalize y * y = yy at q2 m2
    generalize yy % 2147483629 = w at m2
    have q3 : binD .FloorDiv (.int w) (.int 64) = some (.fz (.int (w / 64))) := by
      show (if divOk 64 then _ else none) = _
      rw [show divOk 64 = true from by decide +kernel]; rfl
    refine ⟨w / 64 % m, (a, y), ?_, Int.emod_nonneg _ (by omega), Int.emod_lt_of_pos _ hm, n1, n2⟩
    simp only [m__law_take, runM, seqS, frzS, frzs, frz1, retF, retS, ifS, skipS, andE, orE, notE, ifE, valF, vE, vV, kE, kV', callF, ar_nil, ar_cons, dn_fz, dn_ow, dn_bag, dn_scr, d_fz, d_ow, b_of, isiF, isD, blF, cmpF, chainF, orElse, lenS, bltF1, notT, andT, orT, tstF, l_list, l_tuple, l_all, l_listL, l_listT, l_tupL, l_tupT, l_abs, c_lt, c_le, c_gt, c_ge, c_eqI, c_neI, c_inS, c_niS, i_list, i_tuple, i_str, x_list, x_tuple, plainF, ixF, ixG, ixS, asgF, unpF, unF, setAll, List.length_cons, List.length_nil, List.map_cons, List.map_nil, if_true, if_false, List.cons_append, List.nil_append, List.append_nil, List.getElem?_cons_zero, List.getElem?_cons_succ, List.replicate, List.set_cons_zero, List.set_cons_succ, Option.bind_some, Option.map_some, Option.bind_none, Option.map_none, Bool.not_true, Bool.not_false, Bool.false_eq_true, Bool.or_false, Bool.or_true, Nat.reduceAdd, Nat.reduceSub, Nat.zero_add, decide_true, decide_false, Bool.true_and, Bool.false_and, Bool.and_true, Bool.and_false, binF, c', setS, q1, m1, q2, m2, q3, d_mod hm]
theorem f_law_of (xs : List D) (h0 : xs ≠ []) (hl : xs.length ≤ 1000000) (s : Int × Int) (hs : bgOk s) : ∃ (x : D) (s' : Int × Int), FF (k + 2) "_law_of" [.bag, .fz (.list xs)] (some s) = some (.fz x, some s') ∧ x ∈ xs ∧ bgOk s' := by
  have hp : 0 < xs.length := by
    cases xs with
    | nil => exact absurd rfl h0
    | cons a b => simp
  obtain ⟨i, s', h1, h2, h3, h4⟩ := f_law_take (k := k) (xs.length : Int) (by omega) (by omega) s hs
  unfold FF at h1 ⊢
  rw [e__law_of]
  have hi : i.toNat < xs.length := by omega
  have hx : atI xs i = some xs[i.toNat] := by
    have := atI_nat (xs := xs) (j := i.toNat) (v := xs[i.toNat]) (List.getElem?_eq_getElem hi)
    rw [show ((i.toNat : Nat) : Int) = i from by omega] at this
    exact this
  refine ⟨xs[i.toNat], s', ?_, List.getElem_mem hi, h4⟩
  generalize xs[i.toNat] = x at hx
  simp only [m__law_of, runM, seqS, frzS, frzs, frz1, retF, retS, ifS, skipS, andE, orE, notE, ifE, valF, vE, vV, kE, kV', callF, ar_nil, ar_cons, dn_fz, dn_ow, dn_bag, dn_scr, d_fz, d_ow, b_of, isiF, isD, blF, cmpF, chainF, orElse, lenS, bltF1, notT, andT, orT, tstF, l_list, l_tuple, l_all, l_listL, l_listT, l_tupL, l_tupT, l_abs, c_lt, c_le, c_gt, c_ge, c_eqI, c_neI, c_inS, c_niS, i_list, i_tuple, i_str, x_list, x_tuple, plainF, ixF, ixG, ixS, asgF, unpF, unF, setAll, List.length_cons, List.length_nil, List.map_cons, List.map_nil, if_true, if_false, List.cons_append, List.nil_append, List.append_nil, List.getElem?_cons_zero, List.getElem?_cons_succ, List.replicate, List.set_cons_zero, List.set_cons_succ, Option.bind_some, Option.map_some, Option.bind_none, Option.map_none, Bool.not_true, Bool.not_false, Bool.false_eq_true, Bool.or_false, Bool.or_true, Nat.reduceAdd, Nat.reduceSub, Nat.zero_add, decide_true, decide_false, Bool.true_and, Bool.false_and, Bool.and_true, Bool.and_false, h1, hx]
def bagV (ns : List Int) (j : Nat) : Int := match ns[j]? with
  | some n => if n < 0 then -n else n
  | none => 0
theorem bagV_nn (ns : List Int) (j : Nat) : 0 ≤ bagV ns j := by
  unfold bagV
  split
  · split <;> omega
  · omega
theorem f_law_bag (ns : List Int) (j : Nat) (hj : j ≤ 1000) : ∃ s, FF (k + 1) "_law_bag" [.scr ns, .fz (.int (j : Nat))] none = some (.ow (.list [.int s.1, .int s.2]), none) ∧ bgOk s := by
  unfold FF
  rw [e__law_bag]
  have hp : binD .Pow (.int 10) (.int 18) = some (.fz (.int 1000000000000000000)) := by
    show (if powOk 10 18 then _ else none) = _
    rw [show powOk 10 18 = true from by decide +kernel]
    rfl
  have hv := bagV_nn ns j
  have st2 : (frzS [] (ifS (cmpF .Lt (vV 1) (valF (orElse (lenS 0) (bltF1 .len (vV 0))))) (seqS (frzS [] (asgF 2 (bltF1 .abs (valF (orElse (ixS 0 (vV 1)) (ixG (vV 0) (vV 1))))))) skipS) skipS)) [some (.scr ns), some (.fz (.int (j : Nat))), some (.fz (.int 0))] none = some (.nx, [some (.scr ns), some (.fz (.int (j : Nat))), some (.fz (.int (bagV ns j)))], none) := by
    cases hn : ns[j]? with
    | none =>
      have : decide ((j : Int) < (ns.length : Int)) = false := by
        have := List.getElem?_eq_none_iff.mp hn
        exact decide_eq_false (by omega)
      simp only [runM, seqS, frzS, frzs, frz1, retF, retS, ifS, skipS, andE, orE, notE, ifE, valF, vE, vV, kE, kV', callF, ar_nil, ar_cons, dn_fz, dn_ow, dn_bag, dn_scr, d_fz, d_ow, b_of, isiF, isD, blF, cmpF, chainF, orElse, lenS, bltF1, notT, andT, orT, tstF, l_list, l_tuple, l_all, l_listL, l_listT, l_tupL, l_tupT, l_abs, c_lt, c_le, c_gt, c_ge, c_eqI, c_neI, c_inS, c_niS, i_list, i_tuple, i_str, x_list, x_tuple, plainF, ixF, ixG, ixS, asgF, unpF, unF, setAll, List.length_cons, List.length_nil, List.map_cons, List.map_nil, if_true, if_false, List.cons_append, List.nil_append, List.append_nil, List.getElem?_cons_zero, List.getElem?_cons_succ, List.replicate, List.set_cons_zero, List.set_cons_succ, Option.bind_some, Option.map_some, Option.bind_none, Option.map_none, Bool.not_true, Bool.not_false, Bool.false_eq_true, Bool.or_false, Bool.or_true, Nat.reduceAdd, Nat.reduceSub, Nat.zero_add, decide_true, decide_false, Bool.true_and, Bool.false_and, Bool.and_true, Bool.and_false, this, bagV, hn]
    | some n =>
      have hlt : decide ((j : Int) < (ns.length : Int)) = true := by
        have := (List.getElem?_eq_some_iff.mp hn).1
        exact decide_eq_true (by omega)
      have hx : atI ns (j : Int) = some n := atI_nat hn
      simp only [runM, seqS, frzS, frzs, frz1, retF, retS, ifS, skipS, andE, orE, notE, ifE, valF, vE, vV, kE, kV', callF, ar_nil, ar_cons, dn_fz, dn_ow, dn_bag, dn_scr, d_fz, d_ow, b_of, isiF, isD, blF, cmpF, chainF, orElse, lenS, bltF1, notT, andT, orT, tstF, l_list, l_tuple, l_all, l_listL, l_listT, l_tupL, l_tupT, l_abs, c_lt, c_le, c_gt, c_ge, c_eqI, c_neI, c_inS, c_niS, i_list, i_tuple, i_str, x_list, x_tuple, plainF, ixF, ixG, ixS, asgF, unpF, unF, setAll, List.length_cons, List.length_nil, List.map_cons, List.map_nil, if_true, if_false, List.cons_append, List.nil_append, List.append_nil, List.getElem?_cons_zero, List.getElem?_cons_succ, List.replicate, List.set_cons_zero, List.set_cons_succ, Option.bind_some, Option.map_some, Option.bind_none, Option.map_none, Bool.not_true, Bool.not_false, Bool.false_eq_true, Bool.or_false, Bool.or_true, Nat.reduceAdd, Nat.reduceSub, Nat.zero_add, decide_true, decide_false, Bool.true_and, Bool.false_and, Bool.and_true, Bool.and_false, hlt, bagV, hn, hx]
  have mk : ∀ x y : Int, 0 ≤ x → x < 1152921504606846976 → 0 ≤ y → y < 1152921504606846976 → binD .Mult (.int x) (.int y) = some (.fz (.int (x * y))) := fun x y hx hx' hy hy' => by
    show (if mulOk x y then _ else none) = _
    have : mulOk x y = true := by
      have l1 := lg60 (x := x.natAbs) (by omega)
      have l2 := lg60 (x := y.natAbs) (by omega)
      exact decide_eq_true (by omega)
    rw [this]; rfl
  generalize bagV ns j = v at hv st2
  have ad : ∀ x y : Int, binD .Add (.int x) (.int y) = some (.fz (.int (x + y))) := fun _ _ => rfl
  have md := fun x : Int => d_mod (i := x) (j := 2147483646) (by omega)
  have b0 : ∀ x : Int, 0 ≤ 1 + x % 2147483646 ∧ 1 + x % 2147483646 < 2147483647 := fun x => by
    have h1 := Int.emod_nonneg x (b := 2147483646) (by omega)
    have h2 := Int.emod_lt_of_pos x (b := 2147483646) (by omega)
    omega
  cases c : decide (v < 1000000000000000000) with
  | true =>
    have c' := of_decide_eq_true c
    have m1 := mk v 7919 hv (by omega) (by omega) (by omega)
    have m2 := mk 104729 (j : Int) (by omega) (by omega) (by omega) (by omega)
    refine ⟨(0, 1 + (v * 7919 + 104729 * (j : Int)) % 2147483646), ?_, b0 _⟩
    refine run_rt (env1 := [some (.scr ns), some (.fz (.int (j : Nat))), some (.fz (.int v))]) rfl ?_
    unfold m__law_bag
    rw [seq_nx (env1 := [some (.scr ns), some (.fz (.int (j : Nat))), some (.fz (.int 0))]) (st1 := none) rfl]
    rw [seq_nx st2]
    refine seq_rt ?_
    simp only [runM, seqS, frzS, frzs, frz1, retF, retS, ifS, skipS, andE, orE, notE, ifE, valF, vE, vV, kE, kV', callF, ar_nil, ar_cons, dn_fz, dn_ow, dn_bag, dn_scr, d_fz, d_ow, b_of, isiF, isD, blF, cmpF, chainF, orElse, lenS, bltF1, notT, andT, orT, tstF, l_list, l_tuple, l_all, l_listL, l_listT, l_tupL, l_tupT, l_abs, c_lt, c_le, c_gt, c_ge, c_eqI, c_neI, c_inS, c_niS, i_list, i_tuple, i_str, x_list, x_tuple, plainF, ixF, ixG, ixS, asgF, unpF, unF, setAll, List.length_cons, List.length_nil, List.map_cons, List.map_nil, if_true, if_false, List.cons_append, List.nil_append, List.append_nil, List.getElem?_cons_zero, List.getElem?_cons_succ, List.replicate, List.set_cons_zero, List.set_cons_succ, Option.bind_some, Option.map_some, Option.bind_none, Option.map_none, Bool.not_true, Bool.not_false, Bool.false_eq_true, Bool.or_false, Bool.or_true, Nat.reduceAdd, Nat.reduceSub, Nat.zero_add, decide_true, decide_false, Bool.true_and, Bool.false_and, Bool.and_true, Bool.and_false, binF, hp, c, m1, m2, ad, md, lstF]
    rfl
  | false =>
    refine ⟨(v, 1 + (v + (j : Int)) % 2147483646), ?_, b0 _⟩
    refine run_rt (env1 := [some (.scr ns), some (.fz (.int (j : Nat))), some (.fz (.int v))]) rfl ?_
    unfold m__law_bag
    rw [seq_nx (env1 := [some (.scr ns), some (.fz (.int (j : Nat))), some (.fz (.int 0))]) (st1 := none) rfl]
    rw [seq_nx st2]
    rw [seq_nx (env1 := [some (.scr ns), some (.fz (.int (j : Nat))), some (.fz (.int v))]) (st1 := none) (by simp only [runM, seqS, frzS, frzs, frz1, retF, retS, ifS, skipS, andE, orE, notE, ifE, valF, vE, vV, kE, kV', callF, ar_nil, ar_cons, dn_fz, dn_ow, dn_bag, dn_scr, d_fz, d_ow, b_of, isiF, isD, blF, cmpF, chainF, orElse, lenS, bltF1, notT, andT, orT, tstF, l_list, l_tuple, l_all, l_listL, l_listT, l_tupL, l_tupT, l_abs, c_lt, c_le, c_gt, c_ge, c_eqI, c_neI, c_inS, c_niS, i_list, i_tuple, i_str, x_list, x_tuple, plainF, ixF, ixG, ixS, asgF, unpF, unF, setAll, List.length_cons, List.length_nil, List.map_cons, List.map_nil, if_true, if_false, List.cons_append, List.nil_append, List.append_nil, List.getElem?_cons_zero, List.getElem?_cons_succ, List.replicate, List.set_cons_zero, List.set_cons_succ, Option.bind_some, Option.map_some, Option.bind_none, Option.map_none, Bool.not_true, Bool.not_false, Bool.false_eq_true, Bool.or_false, Bool.or_true, Nat.reduceAdd, Nat.reduceSub, Nat.zero_add, decide_true, decide_false, Bool.true_and, Bool.false_and, Bool.and_true, Bool.and_false, binF, hp, c])]
    refine seq_rt ?_
    simp only [runM, seqS, frzS, frzs, frz1, retF, retS, ifS, skipS, andE, orE, notE, ifE, valF, vE, vV, kE, kV', callF, ar_nil, ar_cons, dn_fz, dn_ow, dn_bag, dn_scr, d_fz, d_ow, b_of, isiF, isD, blF, cmpF, chainF, orElse, lenS, bltF1, notT, andT, orT, tstF, l_list, l_tuple, l_all, l_listL, l_listT, l_tupL, l_tupT, l_abs, c_lt, c_le, c_gt, c_ge, c_eqI, c_neI, c_inS, c_niS, i_list, i_tuple, i_str, x_list, x_tuple, plainF, ixF, ixG, ixS, asgF, unpF, unF, setAll, List.length_cons, List.length_nil, List.map_cons, List.map_nil, if_true, if_false, List.cons_append, List.nil_append, List.append_nil, List.getElem?_cons_zero, List.getElem?_cons_succ, List.replicate, List.set_cons_zero, List.set_cons_succ, Option.bind_some, Option.map_some, Option.bind_none, Option.map_none, Bool.not_true, Bool.not_false, Bool.false_eq_true, Bool.or_false, Bool.or_true, Nat.reduceAdd, Nat.reduceSub, Nat.zero_add, decide_true, decide_false, Bool.true_and, Bool.false_and, Bool.and_true, Bool.and_false, binF, ad, md, lstF]
    rfl
end K08

set_option maxHeartbeats 4000000
namespace K08
open PySem PySem.Spec PyProof.Rows L2 Iv
local instance nmZ_K08A : Iv.Nm := Iv.nmZ
variable {k : Nat}
/-! ### makers, by what is wanted of them -/
structure Hl where
  h : Nat
  r : Nat
  to : Str
def Hl.d (x : Hl) : D := .tuple [.int x.h, .int x.r, .str x.to]
structure Tb where
  n : Str
  g : Nat
  hs : List Hl
def Tb.d (t : Tb) : D := .tuple [.str t.n, .int t.g, .tuple (t.hs.map Hl.d)]
structure GoodHs (later : List Str) (hs : List Hl) : Prop where
  len : hs.length ≤ 3
  up : hs.Pairwise fun a b => a.h < b.h
  hi : ∀ x ∈ hs, x.h ≤ 1000
  lo : ∀ x ∈ hs, 1 ≤ x.r
  ra : ∀ x ∈ hs, x.r ≤ 100
  to : ∀ x ∈ hs, x.to = "" ∨ x.to ∈ later
structure GoodT (later : List Str) (t : Tb) : Prop where
  g0 : 1 ≤ t.g
  g1 : t.g ≤ 30
  hs : GoodHs later t.hs
def nls : List (List Str) := [["ann", "bo", "cy"], ["cy", "ann", "bo"]]
structure GoodTs (ts : List Tb) : Prop where
  pos : 1 ≤ ts.length
  len : ts.length ≤ 3
  nm : ∃ nl ∈ nls, ts.map Tb.n = nl.take ts.length
  tb : ∀ (j : Nat) (t : Tb), ts[j]? = some t → GoodT ((ts.map Tb.n).drop (j + 1)) t
theorem w_take {m : Int} {s : Int × Int} {Q : R × BSt → Prop} (hs : bgOk s) (hm : 0 < m) (hm' : m < 1152921504606846976) (q : ∀ i s', 0 ≤ i → i < m → bgOk s' → Q (.fz (.int i), some s')) : wp (tbl.F whR 60 (k + 1) "_law_take" [.bag, .fz (.int m)] (some s)) Q := by
  obtain ⟨i, s', h1, h2, h3, h4⟩ := f_law_take (k := k) m hm hm' s hs
  exact wp_eq h1 (q i s' h2 h3 h4)
theorem w_of {xs : List D} {s : Int × Int} {Q : R × BSt → Prop} (hs : bgOk s) (h0 : xs ≠ []) (hl : xs.length ≤ 1000000) (q : ∀ x s', x ∈ xs → bgOk s' → Q (.fz x, some s')) : wp (tbl.F whR 60 (k + 2) "_law_of" [.bag, .fz (.list xs)] (some s)) Q := by
  obtain ⟨x, s', h1, h2, h3⟩ := f_law_of (k := k) xs h0 hl s hs
  exact wp_eq h1 (q x s' h2 h3)
/-! sorting -/
theorem isort_mem (z : Int) (l : List Int) : z ∈ isort l ↔ z ∈ l := (isort_perm l).mem_iff
/-- the keys of a dict that is used as a set of numbers -/
structure KeySet (kds : List (D × D)) (ks : List Int) : Prop where
  eq : kds = ks.map fun i => (.int i, .bool true)
  nd : ks.Nodup
theorem keySet_plain {kds : List (D × D)} {ks : List Int} (h : KeySet kds ks) : plainK kds = true := by
  rw [h.eq]; unfold plainK
  rw [List.all_eq_true]
  intro x hx
  obtain ⟨i, _, rfl⟩ := List.mem_map.mp hx
  rfl
theorem keySet_nil : KeySet [] [] := ⟨rfl, .nil⟩
theorem keysI_set (ks : List Int) : keysI (ks.map fun i => (PyData.int i, PyData.bool true)) = some ks := by
  induction ks with
  | nil => rfl
  | cons i ks ih => simp only [List.map_cons, keysI, ih]; rfl
theorem any_keys (ks : List Int) (n : Int) : ((ks.map fun i => ((PyData.int i, PyData.bool true) : D × D)).any fun kv => decide (Iv.keyOf kv.1 = some (.inl n))) = decide (n ∈ ks) := by
  induction ks with
  | nil => rfl
  | cons i ks ih =>
    rw [List.map_cons, List.any_cons, ih]
    show (decide (some (Sum.inl i : Key) = some (.inl n)) || decide (n ∈ ks)) = _
    by_cases h : i = n
    · subst h; simp
    · have : ¬ n = i := fun z => h z.symm
      have h2 : ¬ (some (Sum.inl i : Key) = some (.inl n)) := fun z => h (by cases z; rfl)
      rw [decide_eq_false h2]
      simp [this]
theorem keySet_put {kds : List (D × D)} {ks : List Int} (h : KeySet kds ks) (n : Int) : ∃ ks', KeySet (putD kds (.inl n) (.bool true)) ks' ∧ (∀ i, i ∈ ks' ↔ i ∈ ks ∨ i = n) ∧ ks'.length ≤ ks.length + 1 := by
  obtain ⟨rfl, nd⟩ := h
  unfold putD
  rw [any_keys]
  by_cases hn : n ∈ ks
  · rw [decide_eq_true hn, if_pos rfl]
    refine ⟨ks, ⟨?_, nd⟩, fun i => ⟨.inl, fun z => z.elim id fun z => z ▸ hn⟩, by omega⟩
    rw [List.map_map]
    refine List.map_congr_left fun i hi => ?_
    show (if Iv.keyOf (PyData.int i) = some (.inl n) then (PyData.int i, PyData.bool true) else (PyData.int i, PyData.bool true)) = _
    split <;> rfl
  · rw [decide_eq_false hn, if_neg (by simp)]
    refine ⟨ks ++ [n], ⟨by rw [List.map_append]; rfl, ?_⟩, fun i => by simp, by simp⟩
    rw [List.nodup_append]
    refine ⟨nd, by simp, fun a ha b hb => ?_⟩
    rw [List.mem_singleton.mp hb]
    exact fun z => hn (z ▸ ha)
theorem isort_lt {ks : List Int} (h : ks.Nodup) : (isort ks).Pairwise (· < ·) := by
  have h1 := isort_sorted ks
  have h2 : (isort ks).Nodup := (isort_perm ks).nodup_iff.mpr h
  exact (h1.and h2).imp fun ⟨a, b⟩ => by omega
end K08

set_option maxHeartbeats 4000000
namespace K08
open PySem PySem.Spec PyProof.Rows L2 Iv
local instance nmZ_K08B : Iv.Nm := Iv.nmZ
variable {k : Nat}
theorem enum_get {ds : List D} {n i : Nat} {x : D} (h : (enumD n ds)[i]? = some x) : ∃ d, ds[i]? = some d ∧ x = .tuple [.int ((n + i : Nat) : Int), d] := by
  have hl : i < ds.length := by
    have := (List.getElem?_eq_some_iff.mp h).1
    rwa [enumD_len] at this
  have e := enumD_get ds n i (List.getElem?_eq_getElem hl)
  rw [h] at e
  exact ⟨_, List.getElem?_eq_getElem hl, Option.some.inj e⟩
theorem w_tubs {s : Int × Int} {Q : R × BSt → Prop} (hs : bgOk s) (q : ∀ ts s', GoodTs ts → bgOk s' → Q (.fz (.tuple (ts.map Tb.d)), some s')) : wp (tbl.F whR 60 (k + 3) "_law_tubs" [.bag, .fz (.int 3)] (some s)) Q := by
  rw [e__law_tubs]
  refine wp_run rfl ?_
  unfold m__law_tubs
  refine wp_seq ?_
  try simp only [frzS, frzs, frz1, retF, retS, ifS, skipS, andE, orE, notE, ifE, valF, vE, vV, kE, kV', callF, ar_nil, ar_cons, dn_fz, dn_ow, dn_bag, dn_scr, d_fz, d_ow, b_of, isiF, isD, blF, cmpF, chainF, orElse, lenS, bltF1, notT, andT, orT, tstF, l_list, l_tuple, l_all, l_listL, l_listT, l_tupL, l_tupT, l_abs, c_lt, c_le, c_gt, c_ge, c_eqI, c_neI, c_inS, c_niS, i_list, i_tuple, i_str, x_list, x_tuple, plainF, ixF, ixG, ixS, asgF, unpF, unF, setAll, List.length_cons, List.length_nil, List.map_cons, List.map_nil, if_true, if_false, List.cons_append, List.nil_append, List.append_nil, List.getElem?_cons_zero, List.getElem?_cons_succ, List.replicate, List.set_cons_zero, List.set_cons_succ, Option.bind_some, Option.map_some, Option.bind_none, Option.map_none, Bool.not_true, Bool.not_false, Bool.false_eq_true, Bool.or_false, Bool.or_true, Nat.reduceAdd, Nat.reduceSub, Nat.zero_add, decide_true, decide_false, Bool.true_and, Bool.false_and, Bool.and_true, Bool.and_false, wp_some, wp_none, wp_bind, wp_map, wp_if, binF, slF, partF, negE, y_list, y_tuple, lstF, tupF, ds_nil, ds_fz, setF, setS, appS, par2F, par3F, wp_frz, dict0, dict1, Iv.keyOf, kD, flatD, upF, revF, bltF2, swS, isiF2, lenOk_of, Nat.reduceLeDiff, b_add, b_sub, Int.reduceBEq, beq_self_eq_true, Int.reduceAdd, Int.reduceSub]
  refine w_of hs (by simp) (by simp) fun x s1 hx b1 => ?_
  have hx : ∃ nl ∈ nls, x = .list (nl.map .str) := by
    rcases List.mem_cons.mp hx with rfl | hx
    · exact ⟨_, List.mem_cons_self, rfl⟩
    · rw [List.mem_singleton.mp hx]; exact ⟨_, List.mem_cons_of_mem _ List.mem_cons_self, rfl⟩
  obtain ⟨nl, hnl, rfl⟩ := hx
  try simp only [frzS, frzs, frz1, retF, retS, ifS, skipS, andE, orE, notE, ifE, valF, vE, vV, kE, kV', callF, ar_nil, ar_cons, dn_fz, dn_ow, dn_bag, dn_scr, d_fz, d_ow, b_of, isiF, isD, blF, cmpF, chainF, orElse, lenS, bltF1, notT, andT, orT, tstF, l_list, l_tuple, l_all, l_listL, l_listT, l_tupL, l_tupT, l_abs, c_lt, c_le, c_gt, c_ge, c_eqI, c_neI, c_inS, c_niS, i_list, i_tuple, i_str, x_list, x_tuple, plainF, ixF, ixG, ixS, asgF, unpF, unF, setAll, List.length_cons, List.length_nil, List.map_cons, List.map_nil, if_true, if_false, List.cons_append, List.nil_append, List.append_nil, List.getElem?_cons_zero, List.getElem?_cons_succ, List.replicate, List.set_cons_zero, List.set_cons_succ, Option.bind_some, Option.map_some, Option.bind_none, Option.map_none, Bool.not_true, Bool.not_false, Bool.false_eq_true, Bool.or_false, Bool.or_true, Nat.reduceAdd, Nat.reduceSub, Nat.zero_add, decide_true, decide_false, Bool.true_and, Bool.false_and, Bool.and_true, Bool.and_false, wp_some, wp_none, wp_bind, wp_map, wp_if, binF, slF, partF, negE, y_list, y_tuple, lstF, tupF, ds_nil, ds_fz, setF, setS, appS, par2F, par3F, wp_frz, dict0, dict1, Iv.keyOf, kD, flatD, upF, revF, bltF2, swS, isiF2, lenOk_of, Nat.reduceLeDiff, b_add, b_sub, Int.reduceBEq, beq_self_eq_true, Int.reduceAdd, Int.reduceSub]
  refine w_take b1 (by omega) (by omega) fun i s2 i0 i1 b2 => ?_
  obtain ⟨n, hn, n1, n3⟩ : ∃ n : Nat, 1 + i = (n : Int) ∧ 1 ≤ n ∧ n ≤ 3 := ⟨(1 + i).toNat, by omega, by omega, by omega⟩
  simp only [frzS, frzs, frz1, retF, retS, ifS, skipS, andE, orE, notE, ifE, valF, vE, vV, kE, kV', callF, ar_nil, ar_cons, dn_fz, dn_ow, dn_bag, dn_scr, d_fz, d_ow, b_of, isiF, isD, blF, cmpF, chainF, orElse, lenS, bltF1, notT, andT, orT, tstF, l_list, l_tuple, l_all, l_listL, l_listT, l_tupL, l_tupT, l_abs, c_lt, c_le, c_gt, c_ge, c_eqI, c_neI, c_inS, c_niS, i_list, i_tuple, i_str, x_list, x_tuple, plainF, ixF, ixG, ixS, asgF, unpF, unF, setAll, List.length_cons, List.length_nil, List.map_cons, List.map_nil, if_true, if_false, List.cons_append, List.nil_append, List.append_nil, List.getElem?_cons_zero, List.getElem?_cons_succ, List.replicate, List.set_cons_zero, List.set_cons_succ, Option.bind_some, Option.map_some, Option.bind_none, Option.map_none, Bool.not_true, Bool.not_false, Bool.false_eq_true, Bool.or_false, Bool.or_true, Nat.reduceAdd, Nat.reduceSub, Nat.zero_add, decide_true, decide_false, Bool.true_and, Bool.false_and, Bool.and_true, Bool.and_false, wp_some, wp_none, wp_bind, wp_map, wp_if, binF, slF, partF, negE, y_list, y_tuple, lstF, tupF, ds_nil, ds_fz, setF, setS, appS, par2F, par3F, wp_frz, dict0, dict1, Iv.keyOf, kD, flatD, upF, revF, bltF2, swS, isiF2, lenOk_of, Nat.reduceLeDiff, b_add, b_sub, Int.reduceBEq, beq_self_eq_true, Int.reduceAdd, Int.reduceSub, hn, cut_take, ← List.map_take]
  have hnl3 : nl.length = 3 := by
    unfold nls at hnl
    rcases List.mem_cons.mp hnl with rfl | hnl
    · rfl
    · rw [List.mem_singleton.mp hnl]; rfl
  obtain ⟨names, hnames, hlen⟩ : ∃ names, names = nl.take n ∧ names.length = n := ⟨_, rfl, by rw [List.length_take]; omega⟩
  rw [← hnames]
  refine wp_seq ?_
  try simp only [frzS, frzs, frz1, retF, retS, ifS, skipS, andE, orE, notE, ifE, valF, vE, vV, kE, kV', callF, ar_nil, ar_cons, dn_fz, dn_ow, dn_bag, dn_scr, d_fz, d_ow, b_of, isiF, isD, blF, cmpF, chainF, orElse, lenS, bltF1, notT, andT, orT, tstF, l_list, l_tuple, l_all, l_listL, l_listT, l_tupL, l_tupT, l_abs, c_lt, c_le, c_gt, c_ge, c_eqI, c_neI, c_inS, c_niS, i_list, i_tuple, i_str, x_list, x_tuple, plainF, ixF, ixG, ixS, asgF, unpF, unF, setAll, List.length_cons, List.length_nil, List.map_cons, List.map_nil, if_true, if_false, List.cons_append, List.nil_append, List.append_nil, List.getElem?_cons_zero, List.getElem?_cons_succ, List.replicate, List.set_cons_zero, List.set_cons_succ, Option.bind_some, Option.map_some, Option.bind_none, Option.map_none, Bool.not_true, Bool.not_false, Bool.false_eq_true, Bool.or_false, Bool.or_true, Nat.reduceAdd, Nat.reduceSub, Nat.zero_add, decide_true, decide_false, Bool.true_and, Bool.false_and, Bool.and_true, Bool.and_false, wp_some, wp_none, wp_bind, wp_map, wp_if, binF, slF, partF, negE, y_list, y_tuple, lstF, tupF, ds_nil, ds_fz, setF, setS, appS, par2F, par3F, wp_frz, dict0, dict1, Iv.keyOf, kD, flatD, upF, revF, bltF2, swS, isiF2, lenOk_of, Nat.reduceLeDiff, b_add, b_sub, Int.reduceBEq, beq_self_eq_true, Int.reduceAdd, Int.reduceSub]
  refine wp_seq ?_
  simp only [wp_frz, frzs, frz1, List.getElem?_cons_zero, List.getElem?_cons_succ, List.set_cons_zero, List.set_cons_succ]
  refine wp_for (ds := enumD 0 (names.map .str)) (st1 := some s2) (I := fun i env st => ∃ s ts z4 z5 z6 z7 z8 z9 z10 z11, bgOk s ∧ st = some s ∧ env = [some .bag, some (.fz (.int 3)), some (.fz (.list (names.map .str))), some (.ow (.list (ts.map Tb.d))), z4, z5, z6, z7, z8, z9, z10, z11] ∧ ts.length = i ∧ ∀ (j : Nat) (t : Tb), ts[j]? = some t → names[j]? = some t.n ∧ GoodT (names.drop (j + 1)) t) rfl ⟨s2, [], _, _, _, _, _, _, _, _, b2, rfl, rfl, rfl, fun j t h => by simp at h⟩ ?body ?rest
  case rest =>
    rintro env st ⟨s3, ts, z4, z5, z6, z7, z8, z9, z10, z11, b3, rfl, rfl, hl, hg⟩
    rw [enumD_len, List.length_map, hlen] at hl
    refine wp_seq ?_
    try simp only [frzS, frzs, frz1, retF, retS, ifS, skipS, andE, orE, notE, ifE, valF, vE, vV, kE, kV', callF, ar_nil, ar_cons, dn_fz, dn_ow, dn_bag, dn_scr, d_fz, d_ow, b_of, isiF, isD, blF, cmpF, chainF, orElse, lenS, bltF1, notT, andT, orT, tstF, l_list, l_tuple, l_all, l_listL, l_listT, l_tupL, l_tupT, l_abs, c_lt, c_le, c_gt, c_ge, c_eqI, c_neI, c_inS, c_niS, i_list, i_tuple, i_str, x_list, x_tuple, plainF, ixF, ixG, ixS, asgF, unpF, unF, setAll, List.length_cons, List.length_nil, List.map_cons, List.map_nil, if_true, if_false, List.cons_append, List.nil_append, List.append_nil, List.getElem?_cons_zero, List.getElem?_cons_succ, List.replicate, List.set_cons_zero, List.set_cons_succ, Option.bind_some, Option.map_some, Option.bind_none, Option.map_none, Bool.not_true, Bool.not_false, Bool.false_eq_true, Bool.or_false, Bool.or_true, Nat.reduceAdd, Nat.reduceSub, Nat.zero_add, decide_true, decide_false, Bool.true_and, Bool.false_and, Bool.and_true, Bool.and_false, wp_some, wp_none, wp_bind, wp_map, wp_if, binF, slF, partF, negE, y_list, y_tuple, lstF, tupF, ds_nil, ds_fz, setF, setS, appS, par2F, par3F, wp_frz, dict0, dict1, Iv.keyOf, kD, flatD, upF, revF, bltF2, swS, isiF2, lenOk_of, Nat.reduceLeDiff, b_add, b_sub, Int.reduceBEq, beq_self_eq_true, Int.reduceAdd, Int.reduceSub]
    refine q ts s3 ⟨by omega, by omega, ⟨nl, hnl, ?_⟩, ?_⟩ b3
    · rw [hl, ← hnames]
      refine List.ext_getElem? fun j => ?_
      rw [List.getElem?_map]
      cases hj : ts[j]? with
      | none =>
        have := List.getElem?_eq_none_iff.mp hj
        rw [List.getElem?_eq_none (by omega)]; rfl
      | some t => rw [(hg j t hj).1]; rfl
    · have e : ts.map Tb.n = names := by
        refine List.ext_getElem? fun j => ?_
        rw [List.getElem?_map]
        cases hj : ts[j]? with
        | none =>
          have := List.getElem?_eq_none_iff.mp hj
          rw [List.getElem?_eq_none (by omega)]; rfl
        | some t => rw [(hg j t hj).1]; rfl
      rw [e]
      exact fun j t h => (hg j t h).2
  case body =>
    rintro i d env st hd ⟨s3, ts, z4, z5, z6, z7, z8, z9, z10, z11, b3, rfl, rfl, hl, hg⟩
    obtain ⟨d, hd1, rfl⟩ := enum_get hd
    rw [List.getElem?_map] at hd1
    obtain ⟨nm, hd2, rfl⟩ := map1 hd1
    rw [Nat.zero_add]
    refine ⟨_, rfl, ?_⟩
    refine wp_seq ?_
    try simp only [frzS, frzs, frz1, retF, retS, ifS, skipS, andE, orE, notE, ifE, valF, vE, vV, kE, kV', callF, ar_nil, ar_cons, dn_fz, dn_ow, dn_bag, dn_scr, d_fz, d_ow, b_of, isiF, isD, blF, cmpF, chainF, orElse, lenS, bltF1, notT, andT, orT, tstF, l_list, l_tuple, l_all, l_listL, l_listT, l_tupL, l_tupT, l_abs, c_lt, c_le, c_gt, c_ge, c_eqI, c_neI, c_inS, c_niS, i_list, i_tuple, i_str, x_list, x_tuple, plainF, ixF, ixG, ixS, asgF, unpF, unF, setAll, List.length_cons, List.length_nil, List.map_cons, List.map_nil, if_true, if_false, List.cons_append, List.nil_append, List.append_nil, List.getElem?_cons_zero, List.getElem?_cons_succ, List.replicate, List.set_cons_zero, List.set_cons_succ, Option.bind_some, Option.map_some, Option.bind_none, Option.map_none, Bool.not_true, Bool.not_false, Bool.false_eq_true, Bool.or_false, Bool.or_true, Nat.reduceAdd, Nat.reduceSub, Nat.zero_add, decide_true, decide_false, Bool.true_and, Bool.false_and, Bool.and_true, Bool.and_false, wp_some, wp_none, wp_bind, wp_map, wp_if, binF, slF, partF, negE, y_list, y_tuple, lstF, tupF, ds_nil, ds_fz, setF, setS, appS, par2F, par3F, wp_frz, dict0, dict1, Iv.keyOf, kD, flatD, upF, revF, bltF2, swS, isiF2, lenOk_of, Nat.reduceLeDiff, b_add, b_sub, Int.reduceBEq, beq_self_eq_true, Int.reduceAdd, Int.reduceSub]
    refine wp_seq ?_
    try simp only [frzS, frzs, frz1, retF, retS, ifS, skipS, andE, orE, notE, ifE, valF, vE, vV, kE, kV', callF, ar_nil, ar_cons, dn_fz, dn_ow, dn_bag, dn_scr, d_fz, d_ow, b_of, isiF, isD, blF, cmpF, chainF, orElse, lenS, bltF1, notT, andT, orT, tstF, l_list, l_tuple, l_all, l_listL, l_listT, l_tupL, l_tupT, l_abs, c_lt, c_le, c_gt, c_ge, c_eqI, c_neI, c_inS, c_niS, i_list, i_tuple, i_str, x_list, x_tuple, plainF, ixF, ixG, ixS, asgF, unpF, unF, setAll, List.length_cons, List.length_nil, List.map_cons, List.map_nil, if_true, if_false, List.cons_append, List.nil_append, List.append_nil, List.getElem?_cons_zero, List.getElem?_cons_succ, List.replicate, List.set_cons_zero, List.set_cons_succ, Option.bind_some, Option.map_some, Option.bind_none, Option.map_none, Bool.not_true, Bool.not_false, Bool.false_eq_true, Bool.or_false, Bool.or_true, Nat.reduceAdd, Nat.reduceSub, Nat.zero_add, decide_true, decide_false, Bool.true_and, Bool.false_and, Bool.and_true, Bool.and_false, wp_some, wp_none, wp_bind, wp_map, wp_if, binF, slF, partF, negE, y_list, y_tuple, lstF, tupF, ds_nil, ds_fz, setF, setS, appS, par2F, par3F, wp_frz, dict0, dict1, Iv.keyOf, kD, flatD, upF, revF, bltF2, swS, isiF2, lenOk_of, Nat.reduceLeDiff, b_add, b_sub, Int.reduceBEq, beq_self_eq_true, Int.reduceAdd, Int.reduceSub]
    refine w_take b3 (by omega) (by omega) fun i1 s4 _ _ b4 => ?_
    try simp only [frzS, frzs, frz1, retF, retS, ifS, skipS, andE, orE, notE, ifE, valF, vE, vV, kE, kV', callF, ar_nil, ar_cons, dn_fz, dn_ow, dn_bag, dn_scr, d_fz, d_ow, b_of, isiF, isD, blF, cmpF, chainF, orElse, lenS, bltF1, notT, andT, orT, tstF, l_list, l_tuple, l_all, l_listL, l_listT, l_tupL, l_tupT, l_abs, c_lt, c_le, c_gt, c_ge, c_eqI, c_neI, c_inS, c_niS, i_list, i_tuple, i_str, x_list, x_tuple, plainF, ixF, ixG, ixS, asgF, unpF, unF, setAll, List.length_cons, List.length_nil, List.map_cons, List.map_nil, if_true, if_false, List.cons_append, List.nil_append, List.append_nil, List.getElem?_cons_zero, List.getElem?_cons_succ, List.replicate, List.set_cons_zero, List.set_cons_succ, Option.bind_some, Option.map_some, Option.bind_none, Option.map_none, Bool.not_true, Bool.not_false, Bool.false_eq_true, Bool.or_false, Bool.or_true, Nat.reduceAdd, Nat.reduceSub, Nat.zero_add, decide_true, decide_false, Bool.true_and, Bool.false_and, Bool.and_true, Bool.and_false, wp_some, wp_none, wp_bind, wp_map, wp_if, binF, slF, partF, negE, y_list, y_tuple, lstF, tupF, ds_nil, ds_fz, setF, setS, appS, par2F, par3F, wp_frz, dict0, dict1, Iv.keyOf, kD, flatD, upF, revF, bltF2, swS, isiF2, lenOk_of, Nat.reduceLeDiff, b_add, b_sub, Int.reduceBEq, beq_self_eq_true, Int.reduceAdd, Int.reduceSub]
    refine wp_at (by omega) (by simp; omega) fun x hx => ?_
    obtain ⟨wd, rfl, hw0, hw1⟩ : ∃ wd : Int, x = .int wd ∧ 0 < wd ∧ wd ≤ 1001 := by
      simp only [List.mem_cons, List.not_mem_nil, or_false] at hx
      rcases hx with rfl | rfl | rfl <;> exact ⟨_, rfl, by omega, by omega⟩
    try simp only [frzS, frzs, frz1, retF, retS, ifS, skipS, andE, orE, notE, ifE, valF, vE, vV, kE, kV', callF, ar_nil, ar_cons, dn_fz, dn_ow, dn_bag, dn_scr, d_fz, d_ow, b_of, isiF, isD, blF, cmpF, chainF, orElse, lenS, bltF1, notT, andT, orT, tstF, l_list, l_tuple, l_all, l_listL, l_listT, l_tupL, l_tupT, l_abs, c_lt, c_le, c_gt, c_ge, c_eqI, c_neI, c_inS, c_niS, i_list, i_tuple, i_str, x_list, x_tuple, plainF, ixF, ixG, ixS, asgF, unpF, unF, setAll, List.length_cons, List.length_nil, List.map_cons, List.map_nil, if_true, if_false, List.cons_append, List.nil_append, List.append_nil, List.getElem?_cons_zero, List.getElem?_cons_succ, List.replicate, List.set_cons_zero, List.set_cons_succ, Option.bind_some, Option.map_some, Option.bind_none, Option.map_none, Bool.not_true, Bool.not_false, Bool.false_eq_true, Bool.or_false, Bool.or_true, Nat.reduceAdd, Nat.reduceSub, Nat.zero_add, decide_true, decide_false, Bool.true_and, Bool.false_and, Bool.and_true, Bool.and_false, wp_some, wp_none, wp_bind, wp_map, wp_if, binF, slF, partF, negE, y_list, y_tuple, lstF, tupF, ds_nil, ds_fz, setF, setS, appS, par2F, par3F, wp_frz, dict0, dict1, Iv.keyOf, kD, flatD, upF, revF, bltF2, swS, isiF2, lenOk_of, Nat.reduceLeDiff, b_add, b_sub, Int.reduceBEq, beq_self_eq_true, Int.reduceAdd, Int.reduceSub]
    refine wp_seq ?_
    simp only [wp_frz, frzs, frz1, List.getElem?_cons_zero, List.getElem?_cons_succ, List.set_cons_zero, List.set_cons_succ]
    refine wp_forI (wp_range ?_)
    try simp only [frzS, frzs, frz1, retF, retS, ifS, skipS, andE, orE, notE, ifE, valF, vE, vV, kE, kV', callF, ar_nil, ar_cons, dn_fz, dn_ow, dn_bag, dn_scr, d_fz, d_ow, b_of, isiF, isD, blF, cmpF, chainF, orElse, lenS, bltF1, notT, andT, orT, tstF, l_list, l_tuple, l_all, l_listL, l_listT, l_tupL, l_tupT, l_abs, c_lt, c_le, c_gt, c_ge, c_eqI, c_neI, c_inS, c_niS, i_list, i_tuple, i_str, x_list, x_tuple, plainF, ixF, ixG, ixS, asgF, unpF, unF, setAll, List.length_cons, List.length_nil, List.map_cons, List.map_nil, if_true, if_false, List.cons_append, List.nil_append, List.append_nil, List.getElem?_cons_zero, List.getElem?_cons_succ, List.replicate, List.set_cons_zero, List.set_cons_succ, Option.bind_some, Option.map_some, Option.bind_none, Option.map_none, Bool.not_true, Bool.not_false, Bool.false_eq_true, Bool.or_false, Bool.or_true, Nat.reduceAdd, Nat.reduceSub, Nat.zero_add, decide_true, decide_false, Bool.true_and, Bool.false_and, Bool.and_true, Bool.and_false, wp_some, wp_none, wp_bind, wp_map, wp_if, binF, slF, partF, negE, y_list, y_tuple, lstF, tupF, ds_nil, ds_fz, setF, setS, appS, par2F, par3F, wp_frz, dict0, dict1, Iv.keyOf, kD, flatD, upF, revF, bltF2, swS, isiF2, lenOk_of, Nat.reduceLeDiff, b_add, b_sub, Int.reduceBEq, beq_self_eq_true, Int.reduceAdd, Int.reduceSub]
    refine w_take b4 (by omega) (by omega) fun i2 s5 _ _ b5 => ?_
    refine ⟨_, rfl, i2, rfl, by omega, by omega, ?_⟩
    refine wp_fl (fun c env st => ∃ s kds ks z8, bgOk s ∧ st = some s ∧ env = [some .bag, some (.fz (.int 3)), some (.fz (.list (names.map .str))), some (.ow (.list (ts.map Tb.d))), some (.fz (.int (i : Nat))), some (.fz (.str nm)), some (.ow (.dict kds)), some (.fz (.int wd)), z8, z9, z10, z11] ∧ KeySet kds ks ∧ ks.length ≤ c ∧ ∀ x ∈ ks, 0 ≤ x ∧ x < wd) ⟨s5, [], [], _, b5, rfl, rfl, keySet_nil, Nat.le_refl _, fun x hx => by cases hx⟩ ?b2 ?r2
    case b2 =>
      rintro c d env st hc ⟨s6, kds, ks, z8, b6, rfl, rfl, hK, hkl, hkb⟩
      refine ⟨_, rfl, ?_⟩
      refine wp_seq ?_
      try simp only [frzS, frzs, frz1, retF, retS, ifS, skipS, andE, orE, notE, ifE, valF, vE, vV, kE, kV', callF, ar_nil, ar_cons, dn_fz, dn_ow, dn_bag, dn_scr, d_fz, d_ow, b_of, isiF, isD, blF, cmpF, chainF, orElse, lenS, bltF1, notT, andT, orT, tstF, l_list, l_tuple, l_all, l_listL, l_listT, l_tupL, l_tupT, l_abs, c_lt, c_le, c_gt, c_ge, c_eqI, c_neI, c_inS, c_niS, i_list, i_tuple, i_str, x_list, x_tuple, plainF, ixF, ixG, ixS, asgF, unpF, unF, setAll, List.length_cons, List.length_nil, List.map_cons, List.map_nil, if_true, if_false, List.cons_append, List.nil_append, List.append_nil, List.getElem?_cons_zero, List.getElem?_cons_succ, List.replicate, List.set_cons_zero, List.set_cons_succ, Option.bind_some, Option.map_some, Option.bind_none, Option.map_none, Bool.not_true, Bool.not_false, Bool.false_eq_true, Bool.or_false, Bool.or_true, Nat.reduceAdd, Nat.reduceSub, Nat.zero_add, decide_true, decide_false, Bool.true_and, Bool.false_and, Bool.and_true, Bool.and_false, wp_some, wp_none, wp_bind, wp_map, wp_if, binF, slF, partF, negE, y_list, y_tuple, lstF, tupF, ds_nil, ds_fz, setF, setS, appS, par2F, par3F, wp_frz, dict0, dict1, Iv.keyOf, kD, flatD, upF, revF, bltF2, swS, isiF2, lenOk_of, Nat.reduceLeDiff, b_add, b_sub, Int.reduceBEq, beq_self_eq_true, Int.reduceAdd, Int.reduceSub]
      refine w_take b6 (by omega) (by omega) fun i3 s7 h30 h31 b7 => ?_
      have hsz : kds.length < sizeLine := by
        rw [hK.eq, List.length_map, sizeLine_eq]
        have := (range_get hc).2
        omega
      have hpk := keySet_plain hK
      try simp only [frzS, frzs, frz1, retF, retS, ifS, skipS, andE, orE, notE, ifE, valF, vE, vV, kE, kV', callF, ar_nil, ar_cons, dn_fz, dn_ow, dn_bag, dn_scr, d_fz, d_ow, b_of, isiF, isD, blF, cmpF, chainF, orElse, lenS, bltF1, notT, andT, orT, tstF, l_list, l_tuple, l_all, l_listL, l_listT, l_tupL, l_tupT, l_abs, c_lt, c_le, c_gt, c_ge, c_eqI, c_neI, c_inS, c_niS, i_list, i_tuple, i_str, x_list, x_tuple, plainF, ixF, ixG, ixS, asgF, unpF, unF, setAll, List.length_cons, List.length_nil, List.map_cons, List.map_nil, if_true, if_false, List.cons_append, List.nil_append, List.append_nil, List.getElem?_cons_zero, List.getElem?_cons_succ, List.replicate, List.set_cons_zero, List.set_cons_succ, Option.bind_some, Option.map_some, Option.bind_none, Option.map_none, Bool.not_true, Bool.not_false, Bool.false_eq_true, Bool.or_false, Bool.or_true, Nat.reduceAdd, Nat.reduceSub, Nat.zero_add, decide_true, decide_false, Bool.true_and, Bool.false_and, Bool.and_true, Bool.and_false, wp_some, wp_none, wp_bind, wp_map, wp_if, binF, slF, partF, negE, y_list, y_tuple, lstF, tupF, ds_nil, ds_fz, setF, setS, appS, par2F, par3F, wp_frz, dict0, dict1, Iv.keyOf, kD, flatD, upF, revF, bltF2, swS, isiF2, lenOk_of, Nat.reduceLeDiff, b_add, b_sub, Int.reduceBEq, beq_self_eq_true, Int.reduceAdd, Int.reduceSub, hsz, hpk]
      obtain ⟨ks', hK', hm', hl'⟩ := keySet_put hK i3
      refine ⟨s7, _, ks', _, b7, rfl, rfl, hK', by omega, fun x hx => ?_⟩
      rcases (hm' x).mp hx with hx | rfl
      · exact hkb x hx
      · exact ⟨h30, h31⟩
    case r2 =>
      rintro env st ⟨s6, kds, ks, z8, b6, rfl, rfl, hK, hkl, hkb⟩
      rw [range_len] at hkl
      refine wp_seq ?_
      try simp only [frzS, frzs, frz1, retF, retS, ifS, skipS, andE, orE, notE, ifE, valF, vE, vV, kE, kV', callF, ar_nil, ar_cons, dn_fz, dn_ow, dn_bag, dn_scr, d_fz, d_ow, b_of, isiF, isD, blF, cmpF, chainF, orElse, lenS, bltF1, notT, andT, orT, tstF, l_list, l_tuple, l_all, l_listL, l_listT, l_tupL, l_tupT, l_abs, c_lt, c_le, c_gt, c_ge, c_eqI, c_neI, c_inS, c_niS, i_list, i_tuple, i_str, x_list, x_tuple, plainF, ixF, ixG, ixS, asgF, unpF, unF, setAll, List.length_cons, List.length_nil, List.map_cons, List.map_nil, if_true, if_false, List.cons_append, List.nil_append, List.append_nil, List.getElem?_cons_zero, List.getElem?_cons_succ, List.replicate, List.set_cons_zero, List.set_cons_succ, Option.bind_some, Option.map_some, Option.bind_none, Option.map_none, Bool.not_true, Bool.not_false, Bool.false_eq_true, Bool.or_false, Bool.or_true, Nat.reduceAdd, Nat.reduceSub, Nat.zero_add, decide_true, decide_false, Bool.true_and, Bool.false_and, Bool.and_true, Bool.and_false, wp_some, wp_none, wp_bind, wp_map, wp_if, binF, slF, partF, negE, y_list, y_tuple, lstF, tupF, ds_nil, ds_fz, setF, setS, appS, par2F, par3F, wp_frz, dict0, dict1, Iv.keyOf, kD, flatD, upF, revF, bltF2, swS, isiF2, lenOk_of, Nat.reduceLeDiff, b_add, b_sub, Int.reduceBEq, beq_self_eq_true, Int.reduceAdd, Int.reduceSub]
      refine wp_seq ?_
      simp only [wp_frz, frzs]
      have so : blD1 .sorted (.dict kds) = some (.ow (.list ((isort ks).map .int))) := by
        have kt : keysT kds = none := by
          rw [hK.eq]
          match ks with
          | [] => rfl
          | [_] => rfl
          | _ :: _ :: _ => rfl
        unfold blD1
        simp only [kt]
        rw [hK.eq, keysI_set]
        simp only [Option.bind_some]
        rw [if_pos (decide_eq_true (by omega))]
      have up := isort_lt hK.nd
      have mem : ∀ x ∈ isort ks, 0 ≤ x ∧ x < wd := fun x hx => hkb x ((isort_mem x ks).mp hx)
      have len : (isort ks).length = ks.length := (isort_perm ks).length_eq
      generalize isort ks = ls at so up mem len
      refine wp_for (ds := ls.map .int) (st1 := some s6) (I := fun c env st => ∃ (s : Int × Int) (hs : List Hl) (z10 z11 : Option R), bgOk s ∧ st = some s ∧ env = [some .bag, some (.fz (.int 3)), some (.fz (.list (names.map .str))), some (.ow (.list (ts.map Tb.d))), some (.fz (.int (i : Nat))), some (.fz (.str nm)), some (.ow (.dict kds)), some (.fz (.int wd)), z8, some (.ow (.list (hs.map Hl.d))), z10, z11] ∧ hs.map (fun x => (x.h : Int)) = ls.take c ∧ ∀ x ∈ hs, 1 ≤ x.r ∧ x.r ≤ 100 ∧ (x.to = "" ∨ x.to ∈ names.drop (i + 1))) ?i3 ⟨s6, [], _, _, b6, rfl, rfl, rfl, fun x hx => by cases hx⟩ ?b3 ?r3
      case i3 => simp only [frzS, frzs, frz1, retF, retS, ifS, skipS, andE, orE, notE, ifE, valF, vE, vV, kE, kV', callF, ar_nil, ar_cons, dn_fz, dn_ow, dn_bag, dn_scr, d_fz, d_ow, b_of, isiF, isD, blF, cmpF, chainF, orElse, lenS, bltF1, notT, andT, orT, tstF, l_list, l_tuple, l_all, l_listL, l_listT, l_tupL, l_tupT, l_abs, c_lt, c_le, c_gt, c_ge, c_eqI, c_neI, c_inS, c_niS, i_list, i_tuple, i_str, x_list, x_tuple, plainF, ixF, ixG, ixS, asgF, unpF, unF, setAll, List.length_cons, List.length_nil, List.map_cons, List.map_nil, if_true, if_false, List.cons_append, List.nil_append, List.append_nil, List.getElem?_cons_zero, List.getElem?_cons_succ, List.replicate, List.set_cons_zero, List.set_cons_succ, Option.bind_some, Option.map_some, Option.bind_none, Option.map_none, Bool.not_true, Bool.not_false, Bool.false_eq_true, Bool.or_false, Bool.or_true, Nat.reduceAdd, Nat.reduceSub, Nat.zero_add, decide_true, decide_false, Bool.true_and, Bool.false_and, Bool.and_true, Bool.and_false, wp_some, wp_none, wp_bind, wp_map, wp_if, binF, slF, partF, negE, y_list, y_tuple, lstF, tupF, ds_nil, ds_fz, setF, setS, appS, par2F, par3F, wp_frz, dict0, dict1, Iv.keyOf, kD, flatD, upF, revF, bltF2, swS, isiF2, lenOk_of, Nat.reduceLeDiff, b_add, b_sub, Int.reduceBEq, beq_self_eq_true, Int.reduceAdd, Int.reduceSub, so]
      case b3 =>
        rintro c d env st hc ⟨s7, hs, z10, z11, b7, rfl, rfl, hh, hr⟩
        rw [List.getElem?_map] at hc
        obtain ⟨lv, hlv, rfl⟩ := map1 hc
        refine ⟨_, rfl, ?_⟩
        refine wp_seq ?_
        try simp only [frzS, frzs, frz1, retF, retS, ifS, skipS, andE, orE, notE, ifE, valF, vE, vV, kE, kV', callF, ar_nil, ar_cons, dn_fz, dn_ow, dn_bag, dn_scr, d_fz, d_ow, b_of, isiF, isD, blF, cmpF, chainF, orElse, lenS, bltF1, notT, andT, orT, tstF, l_list, l_tuple, l_all, l_listL, l_listT, l_tupL, l_tupT, l_abs, c_lt, c_le, c_gt, c_ge, c_eqI, c_neI, c_inS, c_niS, i_list, i_tuple, i_str, x_list, x_tuple, plainF, ixF, ixG, ixS, asgF, unpF, unF, setAll, List.length_cons, List.length_nil, List.map_cons, List.map_nil, if_true, if_false, List.cons_append, List.nil_append, List.append_nil, List.getElem?_cons_zero, List.getElem?_cons_succ, List.replicate, List.set_cons_zero, List.set_cons_succ, Option.bind_some, Option.map_some, Option.bind_none, Option.map_none, Bool.not_true, Bool.not_false, Bool.false_eq_true, Bool.or_false, Bool.or_true, Nat.reduceAdd, Nat.reduceSub, Nat.zero_add, decide_true, decide_false, Bool.true_and, Bool.false_and, Bool.and_true, Bool.and_false, wp_some, wp_none, wp_bind, wp_map, wp_if, binF, slF, partF, negE, y_list, y_tuple, lstF, tupF, ds_nil, ds_fz, setF, setS, appS, par2F, par3F, wp_frz, dict0, dict1, Iv.keyOf, kD, flatD, upF, revF, bltF2, swS, isiF2, lenOk_of, Nat.reduceLeDiff, b_add, b_sub, Int.reduceBEq, beq_self_eq_true, Int.reduceAdd, Int.reduceSub]
        refine w_take b7 (by omega) (by omega) fun i4 s8 h40 h41 b8 => ?_
        try simp only [frzS, frzs, frz1, retF, retS, ifS, skipS, andE, orE, notE, ifE, valF, vE, vV, kE, kV', callF, ar_nil, ar_cons, dn_fz, dn_ow, dn_bag, dn_scr, d_fz, d_ow, b_of, isiF, isD, blF, cmpF, chainF, orElse, lenS, bltF1, notT, andT, orT, tstF, l_list, l_tuple, l_all, l_listL, l_listT, l_tupL, l_tupT, l_abs, c_lt, c_le, c_gt, c_ge, c_eqI, c_neI, c_inS, c_niS, i_list, i_tuple, i_str, x_list, x_tuple, plainF, ixF, ixG, ixS, asgF, unpF, unF, setAll, List.length_cons, List.length_nil, List.map_cons, List.map_nil, if_true, if_false, List.cons_append, List.nil_append, List.append_nil, List.getElem?_cons_zero, List.getElem?_cons_succ, List.replicate, List.set_cons_zero, List.set_cons_succ, Option.bind_some, Option.map_some, Option.bind_none, Option.map_none, Bool.not_true, Bool.not_false, Bool.false_eq_true, Bool.or_false, Bool.or_true, Nat.reduceAdd, Nat.reduceSub, Nat.zero_add, decide_true, decide_false, Bool.true_and, Bool.false_and, Bool.and_true, Bool.and_false, wp_some, wp_none, wp_bind, wp_map, wp_if, binF, slF, partF, negE, y_list, y_tuple, lstF, tupF, ds_nil, ds_fz, setF, setS, appS, par2F, par3F, wp_frz, dict0, dict1, Iv.keyOf, kD, flatD, upF, revF, bltF2, swS, isiF2, lenOk_of, Nat.reduceLeDiff, b_add, b_sub, Int.reduceBEq, beq_self_eq_true, Int.reduceAdd, Int.reduceSub]
        refine wp_at (by omega) (by simp; omega) fun x hx => ?_
        obtain ⟨rt, rfl, hr0, hr1⟩ : ∃ rt : Int, x = .int rt ∧ 0 < rt ∧ rt ≤ 100 := by
          simp only [List.mem_cons, List.not_mem_nil, or_false] at hx
          rcases hx with rfl | rfl <;> exact ⟨_, rfl, by omega, by omega⟩
        try simp only [frzS, frzs, frz1, retF, retS, ifS, skipS, andE, orE, notE, ifE, valF, vE, vV, kE, kV', callF, ar_nil, ar_cons, dn_fz, dn_ow, dn_bag, dn_scr, d_fz, d_ow, b_of, isiF, isD, blF, cmpF, chainF, orElse, lenS, bltF1, notT, andT, orT, tstF, l_list, l_tuple, l_all, l_listL, l_listT, l_tupL, l_tupT, l_abs, c_lt, c_le, c_gt, c_ge, c_eqI, c_neI, c_inS, c_niS, i_list, i_tuple, i_str, x_list, x_tuple, plainF, ixF, ixG, ixS, asgF, unpF, unF, setAll, List.length_cons, List.length_nil, List.map_cons, List.map_nil, if_true, if_false, List.cons_append, List.nil_append, List.append_nil, List.getElem?_cons_zero, List.getElem?_cons_succ, List.replicate, List.set_cons_zero, List.set_cons_succ, Option.bind_some, Option.map_some, Option.bind_none, Option.map_none, Bool.not_true, Bool.not_false, Bool.false_eq_true, Bool.or_false, Bool.or_true, Nat.reduceAdd, Nat.reduceSub, Nat.zero_add, decide_true, decide_false, Bool.true_and, Bool.false_and, Bool.and_true, Bool.and_false, wp_some, wp_none, wp_bind, wp_map, wp_if, binF, slF, partF, negE, y_list, y_tuple, lstF, tupF, ds_nil, ds_fz, setF, setS, appS, par2F, par3F, wp_frz, dict0, dict1, Iv.keyOf, kD, flatD, upF, revF, bltF2, swS, isiF2, lenOk_of, Nat.reduceLeDiff, b_add, b_sub, Int.reduceBEq, beq_self_eq_true, Int.reduceAdd, Int.reduceSub]
        refine w_take b8 (by omega) (by omega) fun i5 s9 h50 h51 b9 => ?_
        try simp only [frzS, frzs, frz1, retF, retS, ifS, skipS, andE, orE, notE, ifE, valF, vE, vV, kE, kV', callF, ar_nil, ar_cons, dn_fz, dn_ow, dn_bag, dn_scr, d_fz, d_ow, b_of, isiF, isD, blF, cmpF, chainF, orElse, lenS, bltF1, notT, andT, orT, tstF, l_list, l_tuple, l_all, l_listL, l_listT, l_tupL, l_tupT, l_abs, c_lt, c_le, c_gt, c_ge, c_eqI, c_neI, c_inS, c_niS, i_list, i_tuple, i_str, x_list, x_tuple, plainF, ixF, ixG, ixS, asgF, unpF, unF, setAll, List.length_cons, List.length_nil, List.map_cons, List.map_nil, if_true, if_false, List.cons_append, List.nil_append, List.append_nil, List.getElem?_cons_zero, List.getElem?_cons_succ, List.replicate, List.set_cons_zero, List.set_cons_succ, Option.bind_some, Option.map_some, Option.bind_none, Option.map_none, Bool.not_true, Bool.not_false, Bool.false_eq_true, Bool.or_false, Bool.or_true, Nat.reduceAdd, Nat.reduceSub, Nat.zero_add, decide_true, decide_false, Bool.true_and, Bool.false_and, Bool.and_true, Bool.and_false, wp_some, wp_none, wp_bind, wp_map, wp_if, binF, slF, partF, negE, y_list, y_tuple, lstF, tupF, ds_nil, ds_fz, setF, setS, appS, par2F, par3F, wp_frz, dict0, dict1, Iv.keyOf, kD, flatD, upF, revF, bltF2, swS, isiF2, lenOk_of, Nat.reduceLeDiff, b_add, b_sub, Int.reduceBEq, beq_self_eq_true, Int.reduceAdd, Int.reduceSub]
        refine wp_seq ?_
        have cd : cutL (names.map PyData.str) (some ((i : Int) + 1)) none = (names.drop (i + 1)).map .str := by
          have := cut_drop (names.map PyData.str) (i + 1)
          rw [List.map_drop]
          exact this
        have ln : ((names.drop (i + 1)).map PyData.str).length ≤ 3 := by rw [List.length_map, List.length_drop]; omega
        have a1 : binD .Add (.list [PyData.str ""]) (.list ((names.drop (i + 1)).map .str)) = some (.ow (.list ([PyData.str ""] ++ (names.drop (i + 1)).map .str))) := b_addL (by simp only [List.length_cons, List.length_nil]; omega)
        have a2 : binD .Add (.list ([PyData.str ""] ++ (names.drop (i + 1)).map .str)) (.list ((names.drop (i + 1)).map .str)) = some (.ow (.list ([PyData.str ""] ++ (names.drop (i + 1)).map .str ++ (names.drop (i + 1)).map .str))) := b_addL (by rw [List.length_append]; simp only [List.length_cons, List.length_nil]; omega)
        have m3 : ∀ x ∈ [PyData.str ""] ++ (names.drop (i + 1)).map .str ++ (names.drop (i + 1)).map .str, ∃ z : Str, x = .str z ∧ (z = "" ∨ z ∈ names.drop (i + 1)) := fun x hx => by
          have : x ∈ [PyData.str ""] ∨ x ∈ (names.drop (i + 1)).map PyData.str := by
            rcases List.mem_append.mp hx with hx | hx
            · exact List.mem_append.mp hx
            · exact .inr hx
          rcases this with hx | hx
          · rw [List.mem_singleton.mp hx]; exact ⟨_, rfl, .inl rfl⟩
          · obtain ⟨z, hz, rfl⟩ := List.mem_map.mp hx
            exact ⟨z, rfl, .inr hz⟩
        have l3 : ([PyData.str ""] ++ (names.drop (i + 1)).map PyData.str ++ (names.drop (i + 1)).map PyData.str).length ≤ 1000000 := by rw [List.length_append, List.length_append]; simp only [List.length_cons, List.length_nil]; omega
        have n3 : [PyData.str ""] ++ (names.drop (i + 1)).map .str ++ (names.drop (i + 1)).map .str ≠ [] := by simp
        generalize [PyData.str ""] ++ (names.drop (i + 1)).map .str ++ (names.drop (i + 1)).map .str = L3 at a2 m3 l3 n3
        generalize [PyData.str ""] ++ (names.drop (i + 1)).map .str = L2 at a1 a2
        generalize (names.drop (i + 1)).map PyData.str = L1 at cd a1 a2
        generalize names.map PyData.str = L0 at cd ⊢
        try simp only [frzS, frzs, frz1, retF, retS, ifS, skipS, andE, orE, notE, ifE, valF, vE, vV, kE, kV', callF, ar_nil, ar_cons, dn_fz, dn_ow, dn_bag, dn_scr, d_fz, d_ow, b_of, isiF, isD, blF, cmpF, chainF, orElse, lenS, bltF1, notT, andT, orT, tstF, l_list, l_tuple, l_all, l_listL, l_listT, l_tupL, l_tupT, l_abs, c_lt, c_le, c_gt, c_ge, c_eqI, c_neI, c_inS, c_niS, i_list, i_tuple, i_str, x_list, x_tuple, plainF, ixF, ixG, ixS, asgF, unpF, unF, setAll, List.length_cons, List.length_nil, List.map_cons, List.map_nil, if_true, if_false, List.cons_append, List.nil_append, List.append_nil, List.getElem?_cons_zero, List.getElem?_cons_succ, List.replicate, List.set_cons_zero, List.set_cons_succ, Option.bind_some, Option.map_some, Option.bind_none, Option.map_none, Bool.not_true, Bool.not_false, Bool.false_eq_true, Bool.or_false, Bool.or_true, Nat.reduceAdd, Nat.reduceSub, Nat.zero_add, decide_true, decide_false, Bool.true_and, Bool.false_and, Bool.and_true, Bool.and_false, wp_some, wp_none, wp_bind, wp_map, wp_if, binF, slF, partF, negE, y_list, y_tuple, lstF, tupF, ds_nil, ds_fz, setF, setS, appS, par2F, par3F, wp_frz, dict0, dict1, Iv.keyOf, kD, flatD, upF, revF, bltF2, swS, isiF2, lenOk_of, Nat.reduceLeDiff, b_add, b_sub, Int.reduceBEq, beq_self_eq_true, Int.reduceAdd, Int.reduceSub, cd, a1, a2]
        refine w_of b9 n3 l3 fun x s10 hx b10 => ?_
        obtain ⟨z, rfl, hz⟩ := m3 x hx
        have hsl : (hs.map Hl.d).length < sizeLine := by
          have := congrArg List.length hh
          rw [List.length_map, List.length_take] at this
          rw [List.length_map, sizeLine_eq]; omega
        try simp only [frzS, frzs, frz1, retF, retS, ifS, skipS, andE, orE, notE, ifE, valF, vE, vV, kE, kV', callF, ar_nil, ar_cons, dn_fz, dn_ow, dn_bag, dn_scr, d_fz, d_ow, b_of, isiF, isD, blF, cmpF, chainF, orElse, lenS, bltF1, notT, andT, orT, tstF, l_list, l_tuple, l_all, l_listL, l_listT, l_tupL, l_tupT, l_abs, c_lt, c_le, c_gt, c_ge, c_eqI, c_neI, c_inS, c_niS, i_list, i_tuple, i_str, x_list, x_tuple, plainF, ixF, ixG, ixS, asgF, unpF, unF, setAll, List.length_cons, List.length_nil, List.map_cons, List.map_nil, if_true, if_false, List.cons_append, List.nil_append, List.append_nil, List.getElem?_cons_zero, List.getElem?_cons_succ, List.replicate, List.set_cons_zero, List.set_cons_succ, Option.bind_some, Option.map_some, Option.bind_none, Option.map_none, Bool.not_true, Bool.not_false, Bool.false_eq_true, Bool.or_false, Bool.or_true, Nat.reduceAdd, Nat.reduceSub, Nat.zero_add, decide_true, decide_false, Bool.true_and, Bool.false_and, Bool.and_true, Bool.and_false, wp_some, wp_none, wp_bind, wp_map, wp_if, binF, slF, partF, negE, y_list, y_tuple, lstF, tupF, ds_nil, ds_fz, setF, setS, appS, par2F, par3F, wp_frz, dict0, dict1, Iv.keyOf, kD, flatD, upF, revF, bltF2, swS, isiF2, lenOk_of, Nat.reduceLeDiff, b_add, b_sub, Int.reduceBEq, beq_self_eq_true, Int.reduceAdd, Int.reduceSub, hsl]
        have hlc : c < ls.length := (List.getElem?_eq_some_iff.mp hlv).1
        have hlm : lv ∈ ls := List.mem_of_getElem? hlv
        have e9 : hs.map Hl.d ++ [PyData.tuple [.int lv, .int (1 + i5), .str z]] = (hs ++ [(⟨lv.toNat, (1 + i5).toNat, z⟩ : Hl)]).map Hl.d := by
          rw [List.map_append]
          simp only [List.map_cons, List.map_nil, Hl.d]
          rw [show ((lv.toNat : Nat) : Int) = lv from by have := (mem lv hlm).1; omega, show (((1 + i5).toNat : Nat) : Int) = 1 + i5 from by omega]
        rw [e9]
        refine ⟨s10, hs ++ [⟨lv.toNat, (1 + i5).toNat, z⟩], _, _, b10, rfl, rfl, ?_, fun y hy => ?_⟩
        · rw [List.map_append, hh, List.take_add_one, hlv]
          simp only [List.map_cons, List.map_nil, Option.toList_some]
          rw [show ((lv.toNat : Nat) : Int) = lv from by have := (mem lv hlm).1; omega]
        · rcases List.mem_append.mp hy with hy | hy
          · exact hr y hy
          · rw [List.mem_singleton.mp hy]
            exact ⟨by show 1 ≤ (1 + i5).toNat; omega, by show (1 + i5).toNat ≤ 100; omega, hz⟩
      case r3 =>
        rintro env st ⟨s7, hs, z10, z11, b7, rfl, rfl, hh, hr⟩
        rw [List.length_map, List.take_length] at hh
        refine wp_seq ?_
        have hsl : (ts.map Tb.d).length < sizeLine := by
          have := (List.getElem?_eq_some_iff.mp hd2).1
          rw [List.length_map, sizeLine_eq]; omega
        generalize hE : hs.map Hl.d = HD
        try simp only [frzS, frzs, frz1, retF, retS, ifS, skipS, andE, orE, notE, ifE, valF, vE, vV, kE, kV', callF, ar_nil, ar_cons, dn_fz, dn_ow, dn_bag, dn_scr, d_fz, d_ow, b_of, isiF, isD, blF, cmpF, chainF, orElse, lenS, bltF1, notT, andT, orT, tstF, l_list, l_tuple, l_all, l_listL, l_listT, l_tupL, l_tupT, l_abs, c_lt, c_le, c_gt, c_ge, c_eqI, c_neI, c_inS, c_niS, i_list, i_tuple, i_str, x_list, x_tuple, plainF, ixF, ixG, ixS, asgF, unpF, unF, setAll, List.length_cons, List.length_nil, List.map_cons, List.map_nil, if_true, if_false, List.cons_append, List.nil_append, List.append_nil, List.getElem?_cons_zero, List.getElem?_cons_succ, List.replicate, List.set_cons_zero, List.set_cons_succ, Option.bind_some, Option.map_some, Option.bind_none, Option.map_none, Bool.not_true, Bool.not_false, Bool.false_eq_true, Bool.or_false, Bool.or_true, Nat.reduceAdd, Nat.reduceSub, Nat.zero_add, decide_true, decide_false, Bool.true_and, Bool.false_and, Bool.and_true, Bool.and_false, wp_some, wp_none, wp_bind, wp_map, wp_if, binF, slF, partF, negE, y_list, y_tuple, lstF, tupF, ds_nil, ds_fz, setF, setS, appS, par2F, par3F, wp_frz, dict0, dict1, Iv.keyOf, kD, flatD, upF, revF, bltF2, swS, isiF2, lenOk_of, Nat.reduceLeDiff, b_add, b_sub, Int.reduceBEq, beq_self_eq_true, Int.reduceAdd, Int.reduceSub]
        refine w_take b7 (by omega) (by omega) fun i6 s8 h60 h61 b8 => ?_
        try simp only [frzS, frzs, frz1, retF, retS, ifS, skipS, andE, orE, notE, ifE, valF, vE, vV, kE, kV', callF, ar_nil, ar_cons, dn_fz, dn_ow, dn_bag, dn_scr, d_fz, d_ow, b_of, isiF, isD, blF, cmpF, chainF, orElse, lenS, bltF1, notT, andT, orT, tstF, l_list, l_tuple, l_all, l_listL, l_listT, l_tupL, l_tupT, l_abs, c_lt, c_le, c_gt, c_ge, c_eqI, c_neI, c_inS, c_niS, i_list, i_tuple, i_str, x_list, x_tuple, plainF, ixF, ixG, ixS, asgF, unpF, unF, setAll, List.length_cons, List.length_nil, List.map_cons, List.map_nil, if_true, if_false, List.cons_append, List.nil_append, List.append_nil, List.getElem?_cons_zero, List.getElem?_cons_succ, List.replicate, List.set_cons_zero, List.set_cons_succ, Option.bind_some, Option.map_some, Option.bind_none, Option.map_none, Bool.not_true, Bool.not_false, Bool.false_eq_true, Bool.or_false, Bool.or_true, Nat.reduceAdd, Nat.reduceSub, Nat.zero_add, decide_true, decide_false, Bool.true_and, Bool.false_and, Bool.and_true, Bool.and_false, wp_some, wp_none, wp_bind, wp_map, wp_if, binF, slF, partF, negE, y_list, y_tuple, lstF, tupF, ds_nil, ds_fz, setF, setS, appS, par2F, par3F, wp_frz, dict0, dict1, Iv.keyOf, kD, flatD, upF, revF, bltF2, swS, isiF2, lenOk_of, Nat.reduceLeDiff, b_add, b_sub, Int.reduceBEq, beq_self_eq_true, Int.reduceAdd, Int.reduceSub]
        refine wp_at (by omega) (by simp; omega) fun x hx => ?_
        obtain ⟨rt, rfl, hr0, hr1⟩ : ∃ rt : Int, x = .int rt ∧ 0 < rt ∧ rt ≤ 30 := by
          simp only [List.mem_cons, List.not_mem_nil, or_false] at hx
          rcases hx with rfl | rfl <;> exact ⟨_, rfl, by omega, by omega⟩
        try simp only [frzS, frzs, frz1, retF, retS, ifS, skipS, andE, orE, notE, ifE, valF, vE, vV, kE, kV', callF, ar_nil, ar_cons, dn_fz, dn_ow, dn_bag, dn_scr, d_fz, d_ow, b_of, isiF, isD, blF, cmpF, chainF, orElse, lenS, bltF1, notT, andT, orT, tstF, l_list, l_tuple, l_all, l_listL, l_listT, l_tupL, l_tupT, l_abs, c_lt, c_le, c_gt, c_ge, c_eqI, c_neI, c_inS, c_niS, i_list, i_tuple, i_str, x_list, x_tuple, plainF, ixF, ixG, ixS, asgF, unpF, unF, setAll, List.length_cons, List.length_nil, List.map_cons, List.map_nil, if_true, if_false, List.cons_append, List.nil_append, List.append_nil, List.getElem?_cons_zero, List.getElem?_cons_succ, List.replicate, List.set_cons_zero, List.set_cons_succ, Option.bind_some, Option.map_some, Option.bind_none, Option.map_none, Bool.not_true, Bool.not_false, Bool.false_eq_true, Bool.or_false, Bool.or_true, Nat.reduceAdd, Nat.reduceSub, Nat.zero_add, decide_true, decide_false, Bool.true_and, Bool.false_and, Bool.and_true, Bool.and_false, wp_some, wp_none, wp_bind, wp_map, wp_if, binF, slF, partF, negE, y_list, y_tuple, lstF, tupF, ds_nil, ds_fz, setF, setS, appS, par2F, par3F, wp_frz, dict0, dict1, Iv.keyOf, kD, flatD, upF, revF, bltF2, swS, isiF2, lenOk_of, Nat.reduceLeDiff, b_add, b_sub, Int.reduceBEq, beq_self_eq_true, Int.reduceAdd, Int.reduceSub]
        refine w_take b8 (by omega) (by omega) fun i7 s9 h70 h71 b9 => ?_
        try simp only [frzS, frzs, frz1, retF, retS, ifS, skipS, andE, orE, notE, ifE, valF, vE, vV, kE, kV', callF, ar_nil, ar_cons, dn_fz, dn_ow, dn_bag, dn_scr, d_fz, d_ow, b_of, isiF, isD, blF, cmpF, chainF, orElse, lenS, bltF1, notT, andT, orT, tstF, l_list, l_tuple, l_all, l_listL, l_listT, l_tupL, l_tupT, l_abs, c_lt, c_le, c_gt, c_ge, c_eqI, c_neI, c_inS, c_niS, i_list, i_tuple, i_str, x_list, x_tuple, plainF, ixF, ixG, ixS, asgF, unpF, unF, setAll, List.length_cons, List.length_nil, List.map_cons, List.map_nil, if_true, if_false, List.cons_append, List.nil_append, List.append_nil, List.getElem?_cons_zero, List.getElem?_cons_succ, List.replicate, List.set_cons_zero, List.set_cons_succ, Option.bind_some, Option.map_some, Option.bind_none, Option.map_none, Bool.not_true, Bool.not_false, Bool.false_eq_true, Bool.or_false, Bool.or_true, Nat.reduceAdd, Nat.reduceSub, Nat.zero_add, decide_true, decide_false, Bool.true_and, Bool.false_and, Bool.and_true, Bool.and_false, wp_some, wp_none, wp_bind, wp_map, wp_if, binF, slF, partF, negE, y_list, y_tuple, lstF, tupF, ds_nil, ds_fz, setF, setS, appS, par2F, par3F, wp_frz, dict0, dict1, Iv.keyOf, kD, flatD, upF, revF, bltF2, swS, isiF2, lenOk_of, Nat.reduceLeDiff, b_add, b_sub, Int.reduceBEq, beq_self_eq_true, Int.reduceAdd, Int.reduceSub, hsl]
        have hle : hs.length = ls.length := by have := congrArg List.length hh; rwa [List.length_map] at this
        have hin : ∀ x ∈ hs, (x.h : Int) ∈ ls := fun x hx => by rw [← hh]; exact List.mem_map_of_mem hx
        have e9 : ts.map Tb.d ++ [PyData.tuple [.str nm, .int (1 + i7), .tuple HD]] = (ts ++ [(⟨nm, (1 + i7).toNat, hs⟩ : Tb)]).map Tb.d := by
          rw [List.map_append]
          simp only [List.map_cons, List.map_nil, Tb.d, hE]
          rw [show (((1 + i7).toNat : Nat) : Int) = 1 + i7 from by omega]
        rw [e9]
        refine ⟨s9, ts ++ [⟨nm, (1 + i7).toNat, hs⟩], _, _, _, _, _, _, _, _, b9, rfl, rfl, by rw [List.length_append, hl]; rfl, fun j t hj => ?_⟩
        · rcases Nat.lt_or_ge j ts.length with h | h
          · rw [List.getElem?_append_left h] at hj
            exact hg j t hj
          · rw [List.getElem?_append_right h] at hj
            have hj0 : j = i := by
              have := (List.getElem?_eq_some_iff.mp hj).1
              simp at this; omega
            subst hj0
            rw [hl, Nat.sub_self] at hj
            cases hj
            refine ⟨hd2, ⟨by show 1 ≤ (1 + i7).toNat; omega, by show (1 + i7).toNat ≤ 30; omega, ?_⟩⟩
            refine ⟨by show hs.length ≤ 3; omega, ?_, fun x hx => ?_, fun x hx => (hr x hx).1, fun x hx => (hr x hx).2.1, fun x hx => (hr x hx).2.2⟩
            · rw [← hh, List.pairwise_map] at up
              exact up.imp fun h => by omega
            · have := mem _ (hin x hx)
              omega
end K08

set_option maxHeartbeats 4000000
namespace K08
open PySem PySem.Spec PyProof.Rows L2 Iv
local instance nmZ_K08C : Iv.Nm := Iv.nmZ
variable {k : Nat}
def intD (n : Nat) : D := .int (n : Nat)
structure TbOk (t : Tb) : Prop where
  len : t.hs.length ≤ 3
  hi : ∀ x ∈ t.hs, x.h ≤ 1000
  ra : ∀ x ∈ t.hs, x.r ≤ 100
theorem GoodTs.ok {ts : List Tb} (h : GoodTs ts) : ∀ t ∈ ts, TbOk t := fun t ht => by
  obtain ⟨j, hj⟩ := List.getElem?_of_mem ht
  have g := h.tb j t hj
  exact ⟨g.hs.len, g.hs.hi, g.hs.ra⟩
theorem sum_take_le {l : List Nat} {b : Nat} (h : ∀ x ∈ l, x ≤ b) (c : Nat) : (l.take c).sum ≤ b * c := by
  induction l generalizing c with
  | nil => simp
  | cons x l ih =>
    cases c with
    | zero => simp
    | succ c =>
      simp only [List.take_succ_cons, List.sum_cons]
      have h1 := h x List.mem_cons_self
      have h2 := ih (fun y hy => h y (List.mem_cons_of_mem _ hy)) c
      rw [Nat.mul_succ]; omega
theorem w_rain {ts : List Tb} {s : Int × Int} {Q : R × BSt → Prop} (ht : ∀ t ∈ ts, TbOk t) (hl : ts.length ≤ 3) (hs : bgOk s) (q : ∀ (rs : List Nat) (s' : Int × Int), rs.length = ts.length → (∀ r ∈ rs, r ≤ 1000) → bgOk s' → Q (.fz (.tuple (rs.map intD)), some s')) : wp (tbl.F whR 60 (k + 3) "_law_rain" [.bag, .fz (.tuple (ts.map Tb.d))] (some s)) Q := by
  rw [e__law_rain]
  refine wp_run rfl ?_
  unfold m__law_rain
  refine wp_seq ?_
  try simp only [frzS, frzs, frz1, retF, retS, ifS, skipS, andE, orE, notE, ifE, valF, vE, vV, kE, kV', callF, ar_nil, ar_cons, dn_fz, dn_ow, dn_bag, dn_scr, d_fz, d_ow, b_of, isiF, isD, blF, cmpF, chainF, orElse, lenS, bltF1, notT, andT, orT, tstF, l_list, l_tuple, l_all, l_listL, l_listT, l_tupL, l_tupT, l_abs, c_lt, c_le, c_gt, c_ge, c_eqI, c_neI, c_inS, c_niS, i_list, i_tuple, i_str, x_list, x_tuple, plainF, ixF, ixG, ixS, asgF, unpF, unF, setAll, List.length_cons, List.length_nil, List.map_cons, List.map_nil, if_true, if_false, List.cons_append, List.nil_append, List.append_nil, List.getElem?_cons_zero, List.getElem?_cons_succ, List.replicate, List.set_cons_zero, List.set_cons_succ, Option.bind_some, Option.map_some, Option.bind_none, Option.map_none, Bool.not_true, Bool.not_false, Bool.false_eq_true, Bool.or_false, Bool.or_true, Nat.reduceAdd, Nat.reduceSub, Nat.zero_add, decide_true, decide_false, Bool.true_and, Bool.false_and, Bool.and_true, Bool.and_false, wp_some, wp_none, wp_bind, wp_map, wp_if, binF, slF, partF, negE, y_list, y_tuple, lstF, tupF, ds_nil, ds_fz, setF, setS, appS, par2F, par3F, wp_frz, dict0, dict1, Iv.keyOf, kD, flatD, upF, revF, bltF2, swS, isiF2, lenOk_of, Nat.reduceLeDiff, b_add, b_sub, Int.reduceBEq, beq_self_eq_true, Int.reduceAdd, Int.reduceSub]
  refine wp_seq ?_
  refine wp_for (ds := ts.map Tb.d) (st1 := some s) (I := fun i env st => ∃ (s : Int × Int) (rs : List Nat) (z3 z4 z5 z6 z7 z8 : Option R), bgOk s ∧ st = some s ∧ env = [some .bag, some (.fz (.tuple (ts.map Tb.d))), some (.ow (.list (rs.map intD))), z3, z4, z5, z6, z7, z8] ∧ rs.length = i ∧ ∀ r ∈ rs, r ≤ 1000) rfl ⟨s, [], _, _, _, _, _, _, hs, rfl, rfl, rfl, fun r hr => by cases hr⟩ ?body ?rest
  case rest =>
    rintro env st ⟨s1, rs, z3, z4, z5, z6, z7, z8, b1, rfl, rfl, hl1, hr⟩
    refine wp_seq ?_
    try simp only [frzS, frzs, frz1, retF, retS, ifS, skipS, andE, orE, notE, ifE, valF, vE, vV, kE, kV', callF, ar_nil, ar_cons, dn_fz, dn_ow, dn_bag, dn_scr, d_fz, d_ow, b_of, isiF, isD, blF, cmpF, chainF, orElse, lenS, bltF1, notT, andT, orT, tstF, l_list, l_tuple, l_all, l_listL, l_listT, l_tupL, l_tupT, l_abs, c_lt, c_le, c_gt, c_ge, c_eqI, c_neI, c_inS, c_niS, i_list, i_tuple, i_str, x_list, x_tuple, plainF, ixF, ixG, ixS, asgF, unpF, unF, setAll, List.length_cons, List.length_nil, List.map_cons, List.map_nil, if_true, if_false, List.cons_append, List.nil_append, List.append_nil, List.getElem?_cons_zero, List.getElem?_cons_succ, List.replicate, List.set_cons_zero, List.set_cons_succ, Option.bind_some, Option.map_some, Option.bind_none, Option.map_none, Bool.not_true, Bool.not_false, Bool.false_eq_true, Bool.or_false, Bool.or_true, Nat.reduceAdd, Nat.reduceSub, Nat.zero_add, decide_true, decide_false, Bool.true_and, Bool.false_and, Bool.and_true, Bool.and_false, wp_some, wp_none, wp_bind, wp_map, wp_if, binF, slF, partF, negE, y_list, y_tuple, lstF, tupF, ds_nil, ds_fz, setF, setS, appS, par2F, par3F, wp_frz, dict0, dict1, Iv.keyOf, kD, flatD, upF, revF, bltF2, swS, isiF2, lenOk_of, Nat.reduceLeDiff, b_add, b_sub, Int.reduceBEq, beq_self_eq_true, Int.reduceAdd, Int.reduceSub]
    exact q rs s1 (by rw [hl1, List.length_map]) hr b1
  case body =>
    rintro i d env st hd ⟨s1, rs, z3, z4, z5, z6, z7, z8, b1, rfl, rfl, hl1, hr⟩
    rw [List.getElem?_map] at hd
    obtain ⟨t, htt, rfl⟩ := map1 hd
    have tok := ht t (List.mem_of_getElem? htt)
    refine ⟨_, rfl, ?_⟩
    refine wp_seq ?_
    try simp only [frzS, frzs, frz1, retF, retS, ifS, skipS, andE, orE, notE, ifE, valF, vE, vV, kE, kV', callF, ar_nil, ar_cons, dn_fz, dn_ow, dn_bag, dn_scr, d_fz, d_ow, b_of, isiF, isD, blF, cmpF, chainF, orElse, lenS, bltF1, notT, andT, orT, tstF, l_list, l_tuple, l_all, l_listL, l_listT, l_tupL, l_tupT, l_abs, c_lt, c_le, c_gt, c_ge, c_eqI, c_neI, c_inS, c_niS, i_list, i_tuple, i_str, x_list, x_tuple, plainF, ixF, ixG, ixS, asgF, unpF, unF, setAll, List.length_cons, List.length_nil, List.map_cons, List.map_nil, if_true, if_false, List.cons_append, List.nil_append, List.append_nil, List.getElem?_cons_zero, List.getElem?_cons_succ, List.replicate, List.set_cons_zero, List.set_cons_succ, Option.bind_some, Option.map_some, Option.bind_none, Option.map_none, Bool.not_true, Bool.not_false, Bool.false_eq_true, Bool.or_false, Bool.or_true, Nat.reduceAdd, Nat.reduceSub, Nat.zero_add, decide_true, decide_false, Bool.true_and, Bool.false_and, Bool.and_true, Bool.and_false, wp_some, wp_none, wp_bind, wp_map, wp_if, binF, slF, partF, negE, y_list, y_tuple, lstF, tupF, ds_nil, ds_fz, setF, setS, appS, par2F, par3F, wp_frz, dict0, dict1, Iv.keyOf, kD, flatD, upF, revF, bltF2, swS, isiF2, lenOk_of, Nat.reduceLeDiff, b_add, b_sub, Int.reduceBEq, beq_self_eq_true, Int.reduceAdd, Int.reduceSub]
    refine wp_seq ?_
    refine wp_for (ds := t.hs.map Hl.d) (st1 := some s1) (I := fun c env st => ∃ (us : List Nat) (z8 : Option R), st = some s1 ∧ env = [some .bag, some (.fz (.tuple (ts.map Tb.d))), some (.ow (.list (rs.map intD))), some (.fz (.str t.n)), some (.fz (.int t.g)), some (.fz (.tuple (t.hs.map Hl.d))), some (.ow (.list (us.map intD))), some (.fz (.int (((t.hs.map Hl.r).take c).sum : Nat))), z8] ∧ us.length = c + 1 ∧ ∀ r ∈ us, r ≤ 100 * c) ?i2 ⟨[0], _, rfl, rfl, rfl, fun r hr => by rw [List.mem_singleton.mp hr]; omega⟩ ?b2 ?r2
    case i2 => rfl
    case b2 =>
      rintro c d env st hc ⟨us, z8, rfl, rfl, hul, hu⟩
      rw [List.getElem?_map] at hc
      obtain ⟨x, hx, rfl⟩ := map1 hc
      have hxr : (t.hs.map Hl.r)[c]? = some x.r := by rw [List.getElem?_map, hx]; rfl
      have hcl := (List.getElem?_eq_some_iff.mp hx).1
      refine ⟨_, rfl, ?_⟩
      refine wp_seq ?_
      have x1 : atI [PyData.int x.h, .int x.r, .str x.to] 1 = some (.int x.r) := rfl
      have et : (((t.hs.map Hl.r).take (c + 1)).sum : Nat) = ((t.hs.map Hl.r).take c).sum + x.r := by
        rw [List.take_add_one, hxr]; simp
      have le := sum_take_le (l := t.hs.map Hl.r) (b := 100) (fun y hy => by obtain ⟨z, hz, rfl⟩ := List.mem_map.mp hy; exact tok.ra z hz) (c + 1)
      have tl := tok.len
      rw [et] at le ⊢
      generalize ((t.hs.map Hl.r).take c).sum = tot at le ⊢
      have sz : (us.map intD).length < sizeLine := by rw [List.length_map, sizeLine_eq]; omega
      try simp only [frzS, frzs, frz1, retF, retS, ifS, skipS, andE, orE, notE, ifE, valF, vE, vV, kE, kV', callF, ar_nil, ar_cons, dn_fz, dn_ow, dn_bag, dn_scr, d_fz, d_ow, b_of, isiF, isD, blF, cmpF, chainF, orElse, lenS, bltF1, notT, andT, orT, tstF, l_list, l_tuple, l_all, l_listL, l_listT, l_tupL, l_tupT, l_abs, c_lt, c_le, c_gt, c_ge, c_eqI, c_neI, c_inS, c_niS, i_list, i_tuple, i_str, x_list, x_tuple, plainF, ixF, ixG, ixS, asgF, unpF, unF, setAll, List.length_cons, List.length_nil, List.map_cons, List.map_nil, if_true, if_false, List.cons_append, List.nil_append, List.append_nil, List.getElem?_cons_zero, List.getElem?_cons_succ, List.replicate, List.set_cons_zero, List.set_cons_succ, Option.bind_some, Option.map_some, Option.bind_none, Option.map_none, Bool.not_true, Bool.not_false, Bool.false_eq_true, Bool.or_false, Bool.or_true, Nat.reduceAdd, Nat.reduceSub, Nat.zero_add, decide_true, decide_false, Bool.true_and, Bool.false_and, Bool.and_true, Bool.and_false, wp_some, wp_none, wp_bind, wp_map, wp_if, binF, slF, partF, negE, y_list, y_tuple, lstF, tupF, ds_nil, ds_fz, setF, setS, appS, par2F, par3F, wp_frz, dict0, dict1, Iv.keyOf, kD, flatD, upF, revF, bltF2, swS, isiF2, lenOk_of, Nat.reduceLeDiff, b_add, b_sub, Int.reduceBEq, beq_self_eq_true, Int.reduceAdd, Int.reduceSub, Hl.d, x1]
      refine wp_seq ?_
      try simp only [frzS, frzs, frz1, retF, retS, ifS, skipS, andE, orE, notE, ifE, valF, vE, vV, kE, kV', callF, ar_nil, ar_cons, dn_fz, dn_ow, dn_bag, dn_scr, d_fz, d_ow, b_of, isiF, isD, blF, cmpF, chainF, orElse, lenS, bltF1, notT, andT, orT, tstF, l_list, l_tuple, l_all, l_listL, l_listT, l_tupL, l_tupT, l_abs, c_lt, c_le, c_gt, c_ge, c_eqI, c_neI, c_inS, c_niS, i_list, i_tuple, i_str, x_list, x_tuple, plainF, ixF, ixG, ixS, asgF, unpF, unF, setAll, List.length_cons, List.length_nil, List.map_cons, List.map_nil, if_true, if_false, List.cons_append, List.nil_append, List.append_nil, List.getElem?_cons_zero, List.getElem?_cons_succ, List.replicate, List.set_cons_zero, List.set_cons_succ, Option.bind_some, Option.map_some, Option.bind_none, Option.map_none, Bool.not_true, Bool.not_false, Bool.false_eq_true, Bool.or_false, Bool.or_true, Nat.reduceAdd, Nat.reduceSub, Nat.zero_add, decide_true, decide_false, Bool.true_and, Bool.false_and, Bool.and_true, Bool.and_false, wp_some, wp_none, wp_bind, wp_map, wp_if, binF, slF, partF, negE, y_list, y_tuple, lstF, tupF, ds_nil, ds_fz, setF, setS, appS, par2F, par3F, wp_frz, dict0, dict1, Iv.keyOf, kD, flatD, upF, revF, bltF2, swS, isiF2, lenOk_of, Nat.reduceLeDiff, b_add, b_sub, Int.reduceBEq, beq_self_eq_true, Int.reduceAdd, Int.reduceSub, sz]
      have e9 : us.map intD ++ [PyData.int ((tot : Int) + (x.r : Int))] = (us ++ [tot + x.r]).map intD := by
        rw [List.map_append]; rfl
      rw [e9]
      refine ⟨us ++ [tot + x.r], _, (by first | exact rfl | trivial), rfl, by rw [List.length_append, hul]; rfl, fun r hr => ?_⟩
      rcases List.mem_append.mp hr with hr | hr
      · have := hu r hr; omega
      · rw [List.mem_singleton.mp hr]; omega
    case r2 =>
      rintro env st ⟨us, z8, rfl, rfl, hul, hu⟩
      rw [List.length_map] at hul hu
      have tl := tok.len
      refine wp_seq ?_
      generalize (((t.hs.map Hl.r).take (t.hs.map Hl.d).length).sum : Nat) = tot
      have hun : us.map intD ≠ [] := by
        intro e; have := congrArg List.length e; rw [List.length_map, List.length_nil] at this; omega
      have hul2 : (us.map intD).length ≤ 1000000 := by rw [List.length_map]; omega
      have hum : ∀ x ∈ us.map intD, ∃ n : Nat, x = .int (n : Nat) ∧ n ≤ 1000 := fun x hx => by
        obtain ⟨n, hn, rfl⟩ := List.mem_map.mp hx
        exact ⟨n, rfl, by have := hu n hn; omega⟩
      generalize us.map intD = UD at hun hul2 hum
      have sz : (rs.map intD).length < sizeLine := by
        have := (List.getElem?_eq_some_iff.mp htt).1
        rw [List.length_map, sizeLine_eq]; omega
      try simp only [frzS, frzs, frz1, retF, retS, ifS, skipS, andE, orE, notE, ifE, valF, vE, vV, kE, kV', callF, ar_nil, ar_cons, dn_fz, dn_ow, dn_bag, dn_scr, d_fz, d_ow, b_of, isiF, isD, blF, cmpF, chainF, orElse, lenS, bltF1, notT, andT, orT, tstF, l_list, l_tuple, l_all, l_listL, l_listT, l_tupL, l_tupT, l_abs, c_lt, c_le, c_gt, c_ge, c_eqI, c_neI, c_inS, c_niS, i_list, i_tuple, i_str, x_list, x_tuple, plainF, ixF, ixG, ixS, asgF, unpF, unF, setAll, List.length_cons, List.length_nil, List.map_cons, List.map_nil, if_true, if_false, List.cons_append, List.nil_append, List.append_nil, List.getElem?_cons_zero, List.getElem?_cons_succ, List.replicate, List.set_cons_zero, List.set_cons_succ, Option.bind_some, Option.map_some, Option.bind_none, Option.map_none, Bool.not_true, Bool.not_false, Bool.false_eq_true, Bool.or_false, Bool.or_true, Nat.reduceAdd, Nat.reduceSub, Nat.zero_add, decide_true, decide_false, Bool.true_and, Bool.false_and, Bool.and_true, Bool.and_false, wp_some, wp_none, wp_bind, wp_map, wp_if, binF, slF, partF, negE, y_list, y_tuple, lstF, tupF, ds_nil, ds_fz, setF, setS, appS, par2F, par3F, wp_frz, dict0, dict1, Iv.keyOf, kD, flatD, upF, revF, bltF2, swS, isiF2, lenOk_of, Nat.reduceLeDiff, b_add, b_sub, Int.reduceBEq, beq_self_eq_true, Int.reduceAdd, Int.reduceSub]
      refine w_of b1 hun hul2 fun x s2 hx b2 => ?_
      obtain ⟨n1, rfl, hn1⟩ := hum x hx
      try simp only [frzS, frzs, frz1, retF, retS, ifS, skipS, andE, orE, notE, ifE, valF, vE, vV, kE, kV', callF, ar_nil, ar_cons, dn_fz, dn_ow, dn_bag, dn_scr, d_fz, d_ow, b_of, isiF, isD, blF, cmpF, chainF, orElse, lenS, bltF1, notT, andT, orT, tstF, l_list, l_tuple, l_all, l_listL, l_listT, l_tupL, l_tupT, l_abs, c_lt, c_le, c_gt, c_ge, c_eqI, c_neI, c_inS, c_niS, i_list, i_tuple, i_str, x_list, x_tuple, plainF, ixF, ixG, ixS, asgF, unpF, unF, setAll, List.length_cons, List.length_nil, List.map_cons, List.map_nil, if_true, if_false, List.cons_append, List.nil_append, List.append_nil, List.getElem?_cons_zero, List.getElem?_cons_succ, List.replicate, List.set_cons_zero, List.set_cons_succ, Option.bind_some, Option.map_some, Option.bind_none, Option.map_none, Bool.not_true, Bool.not_false, Bool.false_eq_true, Bool.or_false, Bool.or_true, Nat.reduceAdd, Nat.reduceSub, Nat.zero_add, decide_true, decide_false, Bool.true_and, Bool.false_and, Bool.and_true, Bool.and_false, wp_some, wp_none, wp_bind, wp_map, wp_if, binF, slF, partF, negE, y_list, y_tuple, lstF, tupF, ds_nil, ds_fz, setF, setS, appS, par2F, par3F, wp_frz, dict0, dict1, Iv.keyOf, kD, flatD, upF, revF, bltF2, swS, isiF2, lenOk_of, Nat.reduceLeDiff, b_add, b_sub, Int.reduceBEq, beq_self_eq_true, Int.reduceAdd, Int.reduceSub]
      refine w_take b2 (by omega) (by omega) fun i2 s3 _ _ b3 => ?_
      try simp only [frzS, frzs, frz1, retF, retS, ifS, skipS, andE, orE, notE, ifE, valF, vE, vV, kE, kV', callF, ar_nil, ar_cons, dn_fz, dn_ow, dn_bag, dn_scr, d_fz, d_ow, b_of, isiF, isD, blF, cmpF, chainF, orElse, lenS, bltF1, notT, andT, orT, tstF, l_list, l_tuple, l_all, l_listL, l_listT, l_tupL, l_tupT, l_abs, c_lt, c_le, c_gt, c_ge, c_eqI, c_neI, c_inS, c_niS, i_list, i_tuple, i_str, x_list, x_tuple, plainF, ixF, ixG, ixS, asgF, unpF, unF, setAll, List.length_cons, List.length_nil, List.map_cons, List.map_nil, if_true, if_false, List.cons_append, List.nil_append, List.append_nil, List.getElem?_cons_zero, List.getElem?_cons_succ, List.replicate, List.set_cons_zero, List.set_cons_succ, Option.bind_some, Option.map_some, Option.bind_none, Option.map_none, Bool.not_true, Bool.not_false, Bool.false_eq_true, Bool.or_false, Bool.or_true, Nat.reduceAdd, Nat.reduceSub, Nat.zero_add, decide_true, decide_false, Bool.true_and, Bool.false_and, Bool.and_true, Bool.and_false, wp_some, wp_none, wp_bind, wp_map, wp_if, binF, slF, partF, negE, y_list, y_tuple, lstF, tupF, ds_nil, ds_fz, setF, setS, appS, par2F, par3F, wp_frz, dict0, dict1, Iv.keyOf, kD, flatD, upF, revF, bltF2, swS, isiF2, lenOk_of, Nat.reduceLeDiff, b_add, b_sub, Int.reduceBEq, beq_self_eq_true, Int.reduceAdd, Int.reduceSub]
      refine w_take b3 (by omega) (by omega) fun i3 s4 _ _ b4 => ?_
      try simp only [frzS, frzs, frz1, retF, retS, ifS, skipS, andE, orE, notE, ifE, valF, vE, vV, kE, kV', callF, ar_nil, ar_cons, dn_fz, dn_ow, dn_bag, dn_scr, d_fz, d_ow, b_of, isiF, isD, blF, cmpF, chainF, orElse, lenS, bltF1, notT, andT, orT, tstF, l_list, l_tuple, l_all, l_listL, l_listT, l_tupL, l_tupT, l_abs, c_lt, c_le, c_gt, c_ge, c_eqI, c_neI, c_inS, c_niS, i_list, i_tuple, i_str, x_list, x_tuple, plainF, ixF, ixG, ixS, asgF, unpF, unF, setAll, List.length_cons, List.length_nil, List.map_cons, List.map_nil, if_true, if_false, List.cons_append, List.nil_append, List.append_nil, List.getElem?_cons_zero, List.getElem?_cons_succ, List.replicate, List.set_cons_zero, List.set_cons_succ, Option.bind_some, Option.map_some, Option.bind_none, Option.map_none, Bool.not_true, Bool.not_false, Bool.false_eq_true, Bool.or_false, Bool.or_true, Nat.reduceAdd, Nat.reduceSub, Nat.zero_add, decide_true, decide_false, Bool.true_and, Bool.false_and, Bool.and_true, Bool.and_false, wp_some, wp_none, wp_bind, wp_map, wp_if, binF, slF, partF, negE, y_list, y_tuple, lstF, tupF, ds_nil, ds_fz, setF, setS, appS, par2F, par3F, wp_frz, dict0, dict1, Iv.keyOf, kD, flatD, upF, revF, bltF2, swS, isiF2, lenOk_of, Nat.reduceLeDiff, b_add, b_sub, Int.reduceBEq, beq_self_eq_true, Int.reduceAdd, Int.reduceSub]
      refine w_take b4 (by omega) (by omega) fun i4 s5 _ _ b5 => ?_
      try simp only [frzS, frzs, frz1, retF, retS, ifS, skipS, andE, orE, notE, ifE, valF, vE, vV, kE, kV', callF, ar_nil, ar_cons, dn_fz, dn_ow, dn_bag, dn_scr, d_fz, d_ow, b_of, isiF, isD, blF, cmpF, chainF, orElse, lenS, bltF1, notT, andT, orT, tstF, l_list, l_tuple, l_all, l_listL, l_listT, l_tupL, l_tupT, l_abs, c_lt, c_le, c_gt, c_ge, c_eqI, c_neI, c_inS, c_niS, i_list, i_tuple, i_str, x_list, x_tuple, plainF, ixF, ixG, ixS, asgF, unpF, unF, setAll, List.length_cons, List.length_nil, List.map_cons, List.map_nil, if_true, if_false, List.cons_append, List.nil_append, List.append_nil, List.getElem?_cons_zero, List.getElem?_cons_succ, List.replicate, List.set_cons_zero, List.set_cons_succ, Option.bind_some, Option.map_some, Option.bind_none, Option.map_none, Bool.not_true, Bool.not_false, Bool.false_eq_true, Bool.or_false, Bool.or_true, Nat.reduceAdd, Nat.reduceSub, Nat.zero_add, decide_true, decide_false, Bool.true_and, Bool.false_and, Bool.and_true, Bool.and_false, wp_some, wp_none, wp_bind, wp_map, wp_if, binF, slF, partF, negE, y_list, y_tuple, lstF, tupF, ds_nil, ds_fz, setF, setS, appS, par2F, par3F, wp_frz, dict0, dict1, Iv.keyOf, kD, flatD, upF, revF, bltF2, swS, isiF2, lenOk_of, Nat.reduceLeDiff, b_add, b_sub, Int.reduceBEq, beq_self_eq_true, Int.reduceAdd, Int.reduceSub]
      refine wp_at (by omega) (by simp; omega) fun x hx => ?_
      obtain ⟨n, rfl, hn⟩ : ∃ n : Nat, x = .int (n : Nat) ∧ n ≤ 1000 := by
        simp only [List.mem_cons, List.not_mem_nil, or_false] at hx
        rcases hx with rfl | rfl | rfl | rfl
        · exact ⟨n1, rfl, hn1⟩
        · exact ⟨i2.toNat, by rw [show ((i2.toNat : Nat) : Int) = i2 from by omega], by omega⟩
        · exact ⟨i3.toNat, by rw [show ((i3.toNat : Nat) : Int) = i3 from by omega], by omega⟩
        · exact ⟨0, rfl, by omega⟩
      try simp only [frzS, frzs, frz1, retF, retS, ifS, skipS, andE, orE, notE, ifE, valF, vE, vV, kE, kV', callF, ar_nil, ar_cons, dn_fz, dn_ow, dn_bag, dn_scr, d_fz, d_ow, b_of, isiF, isD, blF, cmpF, chainF, orElse, lenS, bltF1, notT, andT, orT, tstF, l_list, l_tuple, l_all, l_listL, l_listT, l_tupL, l_tupT, l_abs, c_lt, c_le, c_gt, c_ge, c_eqI, c_neI, c_inS, c_niS, i_list, i_tuple, i_str, x_list, x_tuple, plainF, ixF, ixG, ixS, asgF, unpF, unF, setAll, List.length_cons, List.length_nil, List.map_cons, List.map_nil, if_true, if_false, List.cons_append, List.nil_append, List.append_nil, List.getElem?_cons_zero, List.getElem?_cons_succ, List.replicate, List.set_cons_zero, List.set_cons_succ, Option.bind_some, Option.map_some, Option.bind_none, Option.map_none, Bool.not_true, Bool.not_false, Bool.false_eq_true, Bool.or_false, Bool.or_true, Nat.reduceAdd, Nat.reduceSub, Nat.zero_add, decide_true, decide_false, Bool.true_and, Bool.false_and, Bool.and_true, Bool.and_false, wp_some, wp_none, wp_bind, wp_map, wp_if, binF, slF, partF, negE, y_list, y_tuple, lstF, tupF, ds_nil, ds_fz, setF, setS, appS, par2F, par3F, wp_frz, dict0, dict1, Iv.keyOf, kD, flatD, upF, revF, bltF2, swS, isiF2, lenOk_of, Nat.reduceLeDiff, b_add, b_sub, Int.reduceBEq, beq_self_eq_true, Int.reduceAdd, Int.reduceSub, sz]
      have e9 : rs.map intD ++ [PyData.int (n : Nat)] = (rs ++ [n]).map intD := by rw [List.map_append]; rfl
      rw [e9]
      refine ⟨s5, rs ++ [n], _, _, _, _, _, _, b5, rfl, rfl, by rw [List.length_append, hl1]; rfl, fun r hr' => ?_⟩
      rcases List.mem_append.mp hr' with h | h
      · exact hr r h
      · rw [List.mem_singleton.mp h]; exact hn
end K08

set_option maxHeartbeats 4000000
namespace K08
open PySem PySem.Spec PyProof.Rows L2 Iv
local instance nmZ_K08D : Iv.Nm := Iv.nmZ
variable {k : Nat} {st : BSt}
/-! ### what comes, shared out over the holes -/
def shareI : List Hl → Int → List Int
  | [], _ => []
  | x :: hs, m => min m x.r :: shareI hs (m - min m x.r)
def iD (i : Int) : D := .int i
theorem min_i (a b : Int) : blD2 .min2 (.int a) (.int b) = some (.fz (.int (min a b))) := by
  show some (R.fz (.int (if b < a then b else a))) = _
  congr 3
  split <;> omega
theorem at_last {α : Type} (l : List α) (x : α) : atI (l ++ [x]) (-1) = some x := by
  unfold atI
  simp [ixN]
  rw [if_pos (by omega)]
  rw [show (-1 + ((l.length : Int) + 1)).toNat = l.length from by omega]
  simp
noncomputable def bodyShare : SF := (seqS (frzS [3, 5] (appS 2 (bltF2 .min2 (vV 3) (vV 5))))
    (seqS (frzS [] (augF .Sub 3 (valF (orElse (ixS 2 (valF (negE (valF (kE (.int 1)))))) (ixG (vV 2) (valF (negE (valF (kE (.int 1))))))))))
    skipS))
theorem loop_share {a0 a1 : Option R} : ∀ (hs : List Hl) (acc : List D) (m : Int) (z4 z5 z6 : Option R), acc.length + hs.length ≤ 16777216 →
    ∃ l z4' z5' z6', forL (unF [4, 5, 6]) bodyShare (hs.map Hl.d) [a0, a1, some (.ow (.list acc)), some (.fz (.int m)), z4, z5, z6] st = some (.nx, [a0, a1, some (.ow (.list (acc ++ (shareI hs m).map iD))), l, z4', z5', z6'], st)
  | [], acc, m, z4, z5, z6, _ => ⟨_, z4, z5, z6, by simp [shareI, forL]; rfl⟩
  | x :: hs, acc, m, z4, z5, z6, hl => by
    simp only [List.length_cons] at hl
    obtain ⟨l, y4, y5, y6, ih⟩ := loop_share (a0 := a0) (a1 := a1) hs (acc ++ [.int (min m x.r)]) (m - min m x.r) (some (.fz (.int x.h))) (some (.fz (.int x.r))) (some (.fz (.str x.to))) (by simp; omega)
    refine ⟨l, y4, y5, y6, ?_⟩
    rw [List.map_cons]
    unfold forL
    have hsz : acc.length < sizeLine := by rw [sizeLine_eq]; omega
    have hb : bodyShare [a0, a1, some (.ow (.list acc)), some (.fz (.int m)), some (.fz (.int x.h)), some (.fz (.int x.r)), some (.fz (.str x.to))] st = some (.nx, [a0, a1, some (.ow (.list (acc ++ [.int (min m x.r)]))), some (.fz (.int (m - min m x.r))), some (.fz (.int x.h)), some (.fz (.int x.r)), some (.fz (.str x.to))], st) := by
      unfold bodyShare
      simp only [runM, seqS, frzS, frzs, frz1, retF, retS, ifS, skipS, andE, orE, notE, ifE, valF, vE, vV, kE, kV', callF, ar_nil, ar_cons, dn_fz, dn_ow, dn_bag, dn_scr, d_fz, d_ow, b_of, isiF, isD, blF, cmpF, chainF, orElse, lenS, bltF1, notT, andT, orT, tstF, l_list, l_tuple, l_all, l_listL, l_listT, l_tupL, l_tupT, l_abs, c_lt, c_le, c_gt, c_ge, c_eqI, c_neI, c_inS, c_niS, i_list, i_tuple, i_str, x_list, x_tuple, plainF, ixF, ixG, ixS, asgF, unpF, unF, setAll, List.length_cons, List.length_nil, List.map_cons, List.map_nil, if_true, if_false, List.cons_append, List.nil_append, List.append_nil, List.getElem?_cons_zero, List.getElem?_cons_succ, List.replicate, List.set_cons_zero, List.set_cons_succ, Option.bind_some, Option.map_some, Option.bind_none, Option.map_none, Bool.not_true, Bool.not_false, Bool.false_eq_true, Bool.or_false, Bool.or_true, Nat.reduceAdd, Nat.reduceSub, Nat.zero_add, decide_true, decide_false, Bool.true_and, Bool.false_and, Bool.and_true, Bool.and_false, appS, bltF2, min_i, augF, augO, hsz, negE, at_last]
    have hg : unF [4, 5, 6] x.d [a0, a1, some (.ow (.list acc)), some (.fz (.int m)), z4, z5, z6] = some [a0, a1, some (.ow (.list acc)), some (.fz (.int m)), some (.fz (.int x.h)), some (.fz (.int x.r)), some (.fz (.str x.to))] := rfl
    simp only [hg, Option.bind_some, hb, ih, shareI, List.map_cons, iD, List.append_assoc, List.cons_append, List.nil_append]
theorem f_shared_out (hs : List Hl) (m : Int) (hl : hs.length ≤ 16777216) : FF (k + 1) "shared_out" [.fz (.tuple (hs.map Hl.d)), .fz (.int m)] st = some (.ow (.list ((shareI hs m).map iD)), st) := by
  unfold FF
  rw [e_shared_out]
  obtain ⟨l, y4, y5, y6, h⟩ := loop_share (st := st) (a0 := some (.fz (.tuple (hs.map Hl.d)))) (a1 := some (.fz (.int m))) hs [] m none none none (by simpa using hl)
  refine run_rt (env1 := [some (.fz (.tuple (hs.map Hl.d))), some (.fz (.int m)), some (.ow (.list ((shareI hs m).map iD))), l, y4, y5, y6]) rfl ?_
  unfold m_shared_out
  rw [seq_nx (env1 := [some (.fz (.tuple (hs.map Hl.d))), some (.fz (.int m)), some (.ow (.list [])), none, none, none, none]) (st1 := st) rfl]
  rw [seq_nx (env1 := [some (.fz (.tuple (hs.map Hl.d))), some (.fz (.int m)), some (.ow (.list [])), some (.fz (.int m)), none, none, none]) (st1 := st) rfl]
  have h' : frzS [0] (forF (plainF (vE 0)) (unF [4, 5, 6]) bodyShare) [some (.fz (.tuple (hs.map Hl.d))), some (.fz (.int m)), some (.ow (.list [])), some (.fz (.int m)), none, none, none] st = some (.nx, [some (.fz (.tuple (hs.map Hl.d))), some (.fz (.int m)), some (.ow (.list ((shareI hs m).map iD))), l, y4, y5, y6], st) := h
  exact (seq_nx h').trans rfl
/-- the def within flows_in_the_end -/
theorem f_letting (ts : List Tb) (i : Nat) (t : Tb) (m : Int) (hi : ts[i]? = some t) (hl : t.hs.length ≤ 16777216) : FF (k + 2) "flows_in_the_end.<locals>.letting" [.fz (.int (i : Nat)), .fz (.int m), .fz (.tuple (ts.map Tb.d))] st = some (.ow (.list ((shareI t.hs m).map iD)), st) := by
  have h := fun st => f_shared_out (k := k) (st := st) t.hs m hl
  unfold FF at h ⊢
  rw [e_letting]
  have hx : atI (ts.map Tb.d) (i : Int) = some t.d := atI_nat (by rw [List.getElem?_map, hi]; rfl)
  have hy : ∀ a b c : D, atI [a, b, c] 2 = some c := fun _ _ _ => rfl
  simp only [m_letting, runM, seqS, frzS, frzs, frz1, retF, retS, ifS, skipS, andE, orE, notE, ifE, valF, vE, vV, kE, kV', callF, ar_nil, ar_cons, dn_fz, dn_ow, dn_bag, dn_scr, d_fz, d_ow, b_of, isiF, isD, blF, cmpF, chainF, orElse, lenS, bltF1, notT, andT, orT, tstF, l_list, l_tuple, l_all, l_listL, l_listT, l_tupL, l_tupT, l_abs, c_lt, c_le, c_gt, c_ge, c_eqI, c_neI, c_inS, c_niS, i_list, i_tuple, i_str, x_list, x_tuple, plainF, ixF, ixG, ixS, asgF, unpF, unF, setAll, List.length_cons, List.length_nil, List.map_cons, List.map_nil, if_true, if_false, List.cons_append, List.nil_append, List.append_nil, List.getElem?_cons_zero, List.getElem?_cons_succ, List.replicate, List.set_cons_zero, List.set_cons_succ, Option.bind_some, Option.map_some, Option.bind_none, Option.map_none, Bool.not_true, Bool.not_false, Bool.false_eq_true, Bool.or_false, Bool.or_true, Nat.reduceAdd, Nat.reduceSub, Nat.zero_add, decide_true, decide_false, Bool.true_and, Bool.false_and, Bool.and_true, Bool.and_false, hx, Tb.d, hy, h]
end K08

set_option maxHeartbeats 4000000
namespace K08
open PySem PySem.Spec PyProof.Rows L2 Iv
local instance nmZ_K08E : Iv.Nm := Iv.nmZ
variable {k : Nat} {st : BSt}
/-! ### what the holes let out, added to what comes -/
def idx (names : List Str) (z : Str) : Option Nat := names.findIdx? fun y => y == z
def add1 (names : List Str) (cs : List Int) (z : Str) (y : Int) : List Int := if z = "" then cs else match idx names z with
  | some j => cs.set j (cs.getD j 0 + y)
  | none => cs
def pour (names : List Str) : List Int → List (Hl × Int) → List Int
  | cs, [] => cs
  | cs, p :: r => pour names (add1 names cs p.1.to p.2) r
theorem add1_len (names : List Str) (cs : List Int) (z : Str) (y : Int) : (add1 names cs z y).length = cs.length := by
  unfold add1
  split
  · rfl
  · split <;> simp
theorem pour_len (names : List Str) : ∀ (ps : List (Hl × Int)) (cs : List Int), (pour names cs ps).length = cs.length
  | [], _ => rfl
  | p :: r, cs => by unfold pour; rw [pour_len names r, add1_len]
theorem idx_mem {names : List Str} {z : Str} (h : z ∈ names) : ∃ j, idx names z = some j ∧ j < names.length := by
  unfold idx
  cases e : names.findIdx? fun y => y == z with
  | none =>
    rw [List.findIdx?_eq_none_iff] at e
    have := e z h
    simp at this
  | some j =>
    exact ⟨j, rfl, (List.findIdx?_eq_some_iff_findIdx_eq.mp e).1⟩
theorem idxD_strs (names : List Str) (z : Str) : idxD (names.map .str) (.str z) = idx names z := by
  unfold idxD idx
  rw [List.findIdx?_map]
  rfl
theorem c_neS {i j : Str} (hi : PyData.strOk i = true) (hj : PyData.strOk j = true) : cmpD .NotEq (.str i) (.str j) = some (!(i == j)) := by
  show (if SeqAt.shaped (.str i) && SeqAt.shaped (.str j) then some (!PyData.eqv (.str i) (.str j)) else none) = _
  rw [sh_str hi, sh_str hj]; rfl
theorem ok0 : PyData.strOk ("" : Str) = true := by decide +kernel
noncomputable def bodyPour : SF := (seqS (frzS [] (ifS (cmpF .NotEq (vV 13) (kV' (.str ""))) (seqS (frzS [14] (augSF .Add 4 (valF (idxF (vV 3) (vV 13))) (vV 14)))
    skipS) skipS))
    skipS)
def prD (p : Hl × Int) : D := .tuple [p.1.d, .int p.2]
theorem loop_pour {names : List Str} (hok : ∀ z ∈ names, PyData.strOk z = true) {a0 a1 a2 a5 a6 a7 a8 a9 a10 : Option R} : ∀ (ps : List (Hl × Int)) (cs : List Int) (z11 z12 z13 z14 : Option R), cs.length = names.length → (∀ p ∈ ps, p.1.to = "" ∨ p.1.to ∈ names) →
    ∃ y11 y12 y13 y14, forL (unG [unF [11, 12, 13], setF 14]) bodyPour (ps.map prD) [a0, a1, a2, some (.ow (.list (names.map .str))), some (.ow (.list (cs.map iD))), a5, a6, a7, a8, a9, a10, z11, z12, z13, z14] st = some (.nx, [a0, a1, a2, some (.ow (.list (names.map .str))), some (.ow (.list ((pour names cs ps).map iD))), a5, a6, a7, a8, a9, a10, y11, y12, y13, y14], st)
  | [], cs, z11, z12, z13, z14, _, _ => ⟨z11, z12, z13, z14, rfl⟩
  | p :: ps, cs, z11, z12, z13, z14, hl, hp => by
    obtain ⟨x, y⟩ := p
    obtain ⟨y11, y12, y13, y14, ih⟩ := loop_pour hok (a0 := a0) (a1 := a1) (a2 := a2) (a5 := a5) (a6 := a6) (a7 := a7) (a8 := a8) (a9 := a9) (a10 := a10) ps (add1 names cs x.to y) (some (.fz (.int x.h))) (some (.fz (.int x.r))) (some (.fz (.str x.to))) (some (.fz (.int y))) (by rw [add1_len]; exact hl) (fun q hq => hp q (List.mem_cons_of_mem _ hq))
    refine ⟨y11, y12, y13, y14, ?_⟩
    rw [List.map_cons]
    unfold forL
    have hg : unG [unF [11, 12, 13], setF 14] (prD (x, y)) [a0, a1, a2, some (.ow (.list (names.map .str))), some (.ow (.list (cs.map iD))), a5, a6, a7, a8, a9, a10, z11, z12, z13, z14] = some [a0, a1, a2, some (.ow (.list (names.map .str))), some (.ow (.list (cs.map iD))), a5, a6, a7, a8, a9, a10, some (.fz (.int x.h)), some (.fz (.int x.r)), some (.fz (.str x.to)), some (.fz (.int y))] := rfl
    have hb : bodyPour [a0, a1, a2, some (.ow (.list (names.map .str))), some (.ow (.list (cs.map iD))), a5, a6, a7, a8, a9, a10, some (.fz (.int x.h)), some (.fz (.int x.r)), some (.fz (.str x.to)), some (.fz (.int y))] st = some (.nx, [a0, a1, a2, some (.ow (.list (names.map .str))), some (.ow (.list ((add1 names cs x.to y).map iD))), a5, a6, a7, a8, a9, a10, some (.fz (.int x.h)), some (.fz (.int x.r)), some (.fz (.str x.to)), some (.fz (.int y))], st) := by
      by_cases e : x.to = ""
      · rw [e]
        have c := c_neS ok0 ok0
        rw [show (!(("" : Str) == "")) = false from by decide +kernel] at c
        unfold bodyPour
        simp only [runM, seqS, frzS, frzs, frz1, retF, retS, ifS, skipS, andE, orE, notE, ifE, valF, vE, vV, kE, kV', callF, ar_nil, ar_cons, dn_fz, dn_ow, dn_bag, dn_scr, d_fz, d_ow, b_of, isiF, isD, blF, cmpF, chainF, orElse, lenS, bltF1, notT, andT, orT, tstF, l_list, l_tuple, l_all, l_listL, l_listT, l_tupL, l_tupT, l_abs, c_lt, c_le, c_gt, c_ge, c_eqI, c_neI, c_inS, c_niS, i_list, i_tuple, i_str, x_list, x_tuple, plainF, ixF, ixG, ixS, asgF, unpF, unF, setAll, List.length_cons, List.length_nil, List.map_cons, List.map_nil, if_true, if_false, List.cons_append, List.nil_append, List.append_nil, List.getElem?_cons_zero, List.getElem?_cons_succ, List.replicate, List.set_cons_zero, List.set_cons_succ, Option.bind_some, Option.map_some, Option.bind_none, Option.map_none, Bool.not_true, Bool.not_false, Bool.false_eq_true, Bool.or_false, Bool.or_true, Nat.reduceAdd, Nat.reduceSub, Nat.zero_add, decide_true, decide_false, Bool.true_and, Bool.false_and, Bool.and_true, Bool.and_false, c]
        unfold add1
        rw [if_pos rfl]
      · have hm : x.to ∈ names := (hp (x, y) List.mem_cons_self).resolve_left e
        obtain ⟨j, hj, hjl⟩ := idx_mem hm
        have c := c_neS (hok _ hm) ok0
        rw [show (!(x.to == "")) = true from by simpa using e] at c
        have hjc : j < cs.length := by omega
        have hget : (cs.map iD)[j]? = some (.int (cs.getD j 0)) := by
          rw [List.getElem?_map, List.getElem?_eq_getElem hjc]
          simp [iD, List.getD, List.getElem?_eq_getElem hjc]
        have hd0 : decide ((0 : Int) ≤ (j : Int)) = true := decide_eq_true (by omega)
        have hx : valF (idxF (vV 3) (vV 13)) [a0, a1, a2, some (.ow (.list (names.map .str))), some (.ow (.list (cs.map iD))), a5, a6, a7, a8, a9, a10, some (.fz (.int x.h)), some (.fz (.int x.r)), some (.fz (.str x.to)), some (.fz (.int y))] st = some (.int (j : Int), st) := by
          simp only [runM, seqS, frzS, frzs, frz1, retF, retS, ifS, skipS, andE, orE, notE, ifE, valF, vE, vV, kE, kV', callF, ar_nil, ar_cons, dn_fz, dn_ow, dn_bag, dn_scr, d_fz, d_ow, b_of, isiF, isD, blF, cmpF, chainF, orElse, lenS, bltF1, notT, andT, orT, tstF, l_list, l_tuple, l_all, l_listL, l_listT, l_tupL, l_tupT, l_abs, c_lt, c_le, c_gt, c_ge, c_eqI, c_neI, c_inS, c_niS, i_list, i_tuple, i_str, x_list, x_tuple, plainF, ixF, ixG, ixS, asgF, unpF, unF, setAll, List.length_cons, List.length_nil, List.map_cons, List.map_nil, if_true, if_false, List.cons_append, List.nil_append, List.append_nil, List.getElem?_cons_zero, List.getElem?_cons_succ, List.replicate, List.set_cons_zero, List.set_cons_succ, Option.bind_some, Option.map_some, Option.bind_none, Option.map_none, Bool.not_true, Bool.not_false, Bool.false_eq_true, Bool.or_false, Bool.or_true, Nat.reduceAdd, Nat.reduceSub, Nat.zero_add, decide_true, decide_false, Bool.true_and, Bool.false_and, Bool.and_true, Bool.and_false, idxF, sh_strs hok, sh_str (hok _ hm), idxD_strs, hj]
        have hs : augSF .Add 4 (valF (idxF (vV 3) (vV 13))) (vV 14) [a0, a1, a2, some (.ow (.list (names.map .str))), some (.ow (.list (cs.map iD))), a5, a6, a7, a8, a9, a10, some (.fz (.int x.h)), some (.fz (.int x.r)), some (.fz (.str x.to)), some (.fz (.int y))] st = some (.nx, [a0, a1, a2, some (.ow (.list (names.map .str))), some (.ow (.list ((add1 names cs x.to y).map iD))), a5, a6, a7, a8, a9, a10, some (.fz (.int x.h)), some (.fz (.int x.r)), some (.fz (.str x.to)), some (.fz (.int y))], st) := by
          have ea : (add1 names cs x.to y).map iD = (cs.map iD).set j (.int (cs.getD j 0 + y)) := by
            unfold add1
            rw [if_neg e, hj]
            simp [iD]
          rw [ea]
          unfold augSF
          simp only [runM, seqS, frzS, frzs, frz1, retF, retS, ifS, skipS, andE, orE, notE, ifE, valF, vE, vV, kE, kV', callF, ar_nil, ar_cons, dn_fz, dn_ow, dn_bag, dn_scr, d_fz, d_ow, b_of, isiF, isD, blF, cmpF, chainF, orElse, lenS, bltF1, notT, andT, orT, tstF, l_list, l_tuple, l_all, l_listL, l_listT, l_tupL, l_tupT, l_abs, c_lt, c_le, c_gt, c_ge, c_eqI, c_neI, c_inS, c_niS, i_list, i_tuple, i_str, x_list, x_tuple, plainF, ixF, ixG, ixS, asgF, unpF, unF, setAll, List.length_cons, List.length_nil, List.map_cons, List.map_nil, if_true, if_false, List.cons_append, List.nil_append, List.append_nil, List.getElem?_cons_zero, List.getElem?_cons_succ, List.replicate, List.set_cons_zero, List.set_cons_succ, Option.bind_some, Option.map_some, Option.bind_none, Option.map_none, Bool.not_true, Bool.not_false, Bool.false_eq_true, Bool.or_false, Bool.or_true, Nat.reduceAdd, Nat.reduceSub, Nat.zero_add, decide_true, decide_false, Bool.true_and, Bool.false_and, Bool.and_true, Bool.and_false] at hx ⊢
          simp only [runM, seqS, frzS, frzs, frz1, retF, retS, ifS, skipS, andE, orE, notE, ifE, valF, vE, vV, kE, kV', callF, ar_nil, ar_cons, dn_fz, dn_ow, dn_bag, dn_scr, d_fz, d_ow, b_of, isiF, isD, blF, cmpF, chainF, orElse, lenS, bltF1, notT, andT, orT, tstF, l_list, l_tuple, l_all, l_listL, l_listT, l_tupL, l_tupT, l_abs, c_lt, c_le, c_gt, c_ge, c_eqI, c_neI, c_inS, c_niS, i_list, i_tuple, i_str, x_list, x_tuple, plainF, ixF, ixG, ixS, asgF, unpF, unF, setAll, List.length_cons, List.length_nil, List.map_cons, List.map_nil, if_true, if_false, List.cons_append, List.nil_append, List.append_nil, List.getElem?_cons_zero, List.getElem?_cons_succ, List.replicate, List.set_cons_zero, List.set_cons_succ, Option.bind_some, Option.map_some, Option.bind_none, Option.map_none, Bool.not_true, Bool.not_false, Bool.false_eq_true, Bool.or_false, Bool.or_true, Nat.reduceAdd, Nat.reduceSub, Nat.zero_add, decide_true, decide_false, Bool.true_and, Bool.false_and, Bool.and_true, Bool.and_false, hx, Int.toNat_natCast, hget, hd0, augO]
        unfold bodyPour
        simp only [seqS, frzS, ifS, cmpF, vV, kV', List.getElem?_cons_succ, List.getElem?_cons_zero, Option.bind_some, c, Option.map_some, if_true, frzs, frz1, hs, skipS]
    simp only [hg, Option.bind_some, hb, ih, pour]
end K08

set_option maxHeartbeats 4000000
namespace K08
open PySem PySem.Spec PyProof.Rows L2 Iv
local instance nmZ_K08F : Iv.Nm := Iv.nmZ
variable {k : Nat} {st : BSt}
/-! ### what comes to each tub -/
def flowC (names : List Str) : Nat → List Tb → List Int → List Int
  | _, [], cs => cs
  | i, t :: r, cs => flowC names (i + 1) r (pour names cs (t.hs.zip (shareI t.hs (cs.getD i 0))))
def flowL (names : List Str) : Nat → List Tb → List Int → List D
  | _, [], _ => []
  | i, t :: r, cs => .list ((shareI t.hs (cs.getD i 0)).map iD) :: flowL names (i + 1) r (pour names cs (t.hs.zip (shareI t.hs (cs.getD i 0))))
theorem share_len : ∀ (hs : List Hl) (m : Int), (shareI hs m).length = hs.length
  | [], _ => rfl
  | x :: hs, m => by simp [shareI, share_len hs]
noncomputable def bodyFlow (F : FT) (as : List R) : SF := (seqS (frzS [6] (asgF 10 (cloF F as 2 (argsF [(vE 6), (orElse (ixS 4 (vV 6)) (ixG (vV 4) (vV 6)))]))))
    (seqS (frzS [10] (appS 5 (vE 10)))
    (seqS (frzS [9, 10] (forF (zipF (vE 9) (vE 10)) (unG [unF [11, 12, 13], setF 14]) bodyPour))
    skipS)))
theorem zip_pr (hs : List Hl) (ys : List Int) : zipD (hs.map Hl.d) (ys.map iD) = (List.zip hs ys).map prD := by
  unfold zipD
  rw [List.zip_map, List.map_map]
  rfl
theorem loop_flow {ts : List Tb} {names : List Str} (hok : ∀ z ∈ names, PyData.strOk z = true) {f : Addr} {F' : NdefX.NF} {ws : List V} (hq : F'.qual = "flows_in_the_end.<locals>.letting") {as : List R} (ha : R.fnc f F' ws [.tuple (ts.map Tb.d)] ∈ as) {a0 a1 : Option R} : ∀ (r : List Tb) (i : Nat) (cs : List Int) (ls : List D) (z6 z7 z8 z9 z10 z11 z12 z13 z14 : Option R),
    (∀ (j : Nat) t, r[j]? = some t → ts[i + j]? = some t) → i + r.length ≤ cs.length → cs.length = names.length → (∀ t ∈ r, t.hs.length ≤ 3 ∧ ∀ x ∈ t.hs, x.to = "" ∨ x.to ∈ names) → ls.length + r.length ≤ 1000 →
    ∃ y6 y7 y8 y9 y10 y11 y12 y13 y14, forL (unG [setF 6, unF [7, 8, 9]]) (bodyFlow (FF (k + 2)) as) (enumD i (r.map Tb.d)) [a0, a1, some (.fnc f F' ws [.tuple (ts.map Tb.d)]), some (.ow (.list (names.map .str))), some (.ow (.list (cs.map iD))), some (.ow (.list ls)), z6, z7, z8, z9, z10, z11, z12, z13, z14] st = some (.nx, [a0, a1, some (.fnc f F' ws [.tuple (ts.map Tb.d)]), some (.ow (.list (names.map .str))), some (.ow (.list ((flowC names i r cs).map iD))), some (.ow (.list (ls ++ flowL names i r cs))), y6, y7, y8, y9, y10, y11, y12, y13, y14], st)
  | [], i, cs, ls, z6, z7, z8, z9, z10, z11, z12, z13, z14, _, _, _, _, _ => ⟨z6, z7, z8, z9, z10, z11, z12, z13, z14, by rw [show ls ++ flowL names i [] cs = ls from List.append_nil _]; rfl⟩
  | t :: r, i, cs, ls, z6, z7, z8, z9, z10, z11, z12, z13, z14, hr, hi, hl, ht, hn => by
    simp only [List.length_cons] at hi hn
    have hic : i < cs.length := by omega
    have hti : ts[i]? = some t := hr 0 t rfl
    obtain ⟨ht1, ht2⟩ := ht t List.mem_cons_self
    obtain ⟨y11, y12, y13, y14, hp⟩ := loop_pour (st := st) hok (a0 := a0) (a1 := a1) (a2 := some (.fnc f F' ws [.tuple (ts.map Tb.d)])) (a5 := some (.ow (.list (ls ++ [.list ((shareI t.hs (cs.getD i 0)).map iD)])))) (a6 := some (.fz (.int (i : Nat)))) (a7 := some (.fz (.str t.n))) (a8 := some (.fz (.int t.g))) (a9 := some (.fz (.tuple (t.hs.map Hl.d)))) (a10 := some (.fz (.list ((shareI t.hs (cs.getD i 0)).map iD)))) (t.hs.zip (shareI t.hs (cs.getD i 0))) cs z11 z12 z13 z14 hl (fun p hp => ht2 p.1 (List.of_mem_zip hp).1)
    obtain ⟨x6, x7, x8, x9, x10, x11, x12, x13, x14, ih⟩ := loop_flow hok hq ha (a0 := a0) (a1 := a1) r (i + 1) (pour names cs (t.hs.zip (shareI t.hs (cs.getD i 0)))) (ls ++ [.list ((shareI t.hs (cs.getD i 0)).map iD)]) (some (.fz (.int (i : Nat)))) (some (.fz (.str t.n))) (some (.fz (.int t.g))) (some (.fz (.tuple (t.hs.map Hl.d)))) (some (.fz (.list ((shareI t.hs (cs.getD i 0)).map iD)))) y11 y12 y13 y14
      (fun j u h => by rw [show i + 1 + j = i + (j + 1) by omega]; exact hr (j + 1) u (by simpa using h)) (by rw [pour_len]; omega) (by rw [pour_len]; exact hl) (fun u hu => ht u (List.mem_cons_of_mem _ hu)) (by simp; omega)
    refine ⟨x6, x7, x8, x9, x10, x11, x12, x13, x14, ?_⟩
    rw [List.map_cons]
    have he : enumD i (t.d :: r.map Tb.d) = .tuple [.int (i : Nat), t.d] :: enumD (i + 1) (r.map Tb.d) := rfl
    rw [he]
    unfold forL
    have hg : unG [setF 6, unF [7, 8, 9]] (.tuple [.int (i : Nat), t.d]) [a0, a1, some (.fnc f F' ws [.tuple (ts.map Tb.d)]), some (.ow (.list (names.map .str))), some (.ow (.list (cs.map iD))), some (.ow (.list ls)), z6, z7, z8, z9, z10, z11, z12, z13, z14] = some [a0, a1, some (.fnc f F' ws [.tuple (ts.map Tb.d)]), some (.ow (.list (names.map .str))), some (.ow (.list (cs.map iD))), some (.ow (.list ls)), some (.fz (.int (i : Nat))), some (.fz (.str t.n)), some (.fz (.int t.g)), some (.fz (.tuple (t.hs.map Hl.d))), z10, z11, z12, z13, z14] := rfl
    have hlet := f_letting (k := k) (st := st) ts i t (cs.getD i 0) hti (by omega)
    have hx : atI (cs.map iD) (i : Int) = some (.int (cs.getD i 0)) := atI_nat (by
      rw [List.getElem?_map, List.getElem?_eq_getElem hic]
      simp [iD, List.getD, List.getElem?_eq_getElem hic])
    have hb : bodyFlow (FF (k + 2)) as [a0, a1, some (.fnc f F' ws [.tuple (ts.map Tb.d)]), some (.ow (.list (names.map .str))), some (.ow (.list (cs.map iD))), some (.ow (.list ls)), some (.fz (.int (i : Nat))), some (.fz (.str t.n)), some (.fz (.int t.g)), some (.fz (.tuple (t.hs.map Hl.d))), z10, z11, z12, z13, z14] st = some (.nx, [a0, a1, some (.fnc f F' ws [.tuple (ts.map Tb.d)]), some (.ow (.list (names.map .str))), some (.ow (.list ((pour names cs (t.hs.zip (shareI t.hs (cs.getD i 0)))).map iD))), some (.ow (.list (ls ++ [.list ((shareI t.hs (cs.getD i 0)).map iD)]))), some (.fz (.int (i : Nat))), some (.fz (.str t.n)), some (.fz (.int t.g)), some (.fz (.tuple (t.hs.map Hl.d))), some (.fz (.list ((shareI t.hs (cs.getD i 0)).map iD))), y11, y12, y13, y14], st) := by
      unfold bodyFlow
      rw [seq_nx (env1 := [a0, a1, some (.fnc f F' ws [.tuple (ts.map Tb.d)]), some (.ow (.list (names.map .str))), some (.ow (.list (cs.map iD))), some (.ow (.list ls)), some (.fz (.int (i : Nat))), some (.fz (.str t.n)), some (.fz (.int t.g)), some (.fz (.tuple (t.hs.map Hl.d))), some (.ow (.list ((shareI t.hs (cs.getD i 0)).map iD))), z11, z12, z13, z14]) (st1 := st)]
      · have hsz : ls.length < sizeLine := by rw [sizeLine_eq]; omega
        rw [seq_nx (env1 := [a0, a1, some (.fnc f F' ws [.tuple (ts.map Tb.d)]), some (.ow (.list (names.map .str))), some (.ow (.list (cs.map iD))), some (.ow (.list (ls ++ [.list ((shareI t.hs (cs.getD i 0)).map iD)]))), some (.fz (.int (i : Nat))), some (.fz (.str t.n)), some (.fz (.int t.g)), some (.fz (.tuple (t.hs.map Hl.d))), some (.fz (.list ((shareI t.hs (cs.getD i 0)).map iD))), z11, z12, z13, z14]) (st1 := st)]
        · refine (seq_nx (env1 := _) (st1 := st) ?_).trans rfl
          rw [← zip_pr] at hp
          exact hp
        · simp only [runM, seqS, frzS, frzs, frz1, retF, retS, ifS, skipS, andE, orE, notE, ifE, valF, vE, vV, kE, kV', callF, ar_nil, ar_cons, dn_fz, dn_ow, dn_bag, dn_scr, d_fz, d_ow, b_of, isiF, isD, blF, cmpF, chainF, orElse, lenS, bltF1, notT, andT, orT, tstF, l_list, l_tuple, l_all, l_listL, l_listT, l_tupL, l_tupT, l_abs, c_lt, c_le, c_gt, c_ge, c_eqI, c_neI, c_inS, c_niS, i_list, i_tuple, i_str, x_list, x_tuple, plainF, ixF, ixG, ixS, asgF, unpF, unF, setAll, List.length_cons, List.length_nil, List.map_cons, List.map_nil, if_true, if_false, List.cons_append, List.nil_append, List.append_nil, List.getElem?_cons_zero, List.getElem?_cons_succ, List.replicate, List.set_cons_zero, List.set_cons_succ, Option.bind_some, Option.map_some, Option.bind_none, Option.map_none, Bool.not_true, Bool.not_false, Bool.false_eq_true, Bool.or_false, Bool.or_true, Nat.reduceAdd, Nat.reduceSub, Nat.zero_add, decide_true, decide_false, Bool.true_and, Bool.false_and, Bool.and_true, Bool.and_false, appS, hsz]
      · unfold cloF
        simp only [runM, seqS, frzS, frzs, frz1, retF, retS, ifS, skipS, andE, orE, notE, ifE, valF, vE, vV, kE, kV', callF, ar_nil, ar_cons, dn_fz, dn_ow, dn_bag, dn_scr, d_fz, d_ow, b_of, isiF, isD, blF, cmpF, chainF, orElse, lenS, bltF1, notT, andT, orT, tstF, l_list, l_tuple, l_all, l_listL, l_listT, l_tupL, l_tupT, l_abs, c_lt, c_le, c_gt, c_ge, c_eqI, c_neI, c_inS, c_niS, i_list, i_tuple, i_str, x_list, x_tuple, plainF, ixF, ixG, ixS, asgF, unpF, unF, setAll, List.length_cons, List.length_nil, List.map_cons, List.map_nil, if_true, if_false, List.cons_append, List.nil_append, List.append_nil, List.getElem?_cons_zero, List.getElem?_cons_succ, List.replicate, List.set_cons_zero, List.set_cons_succ, Option.bind_some, Option.map_some, Option.bind_none, Option.map_none, Bool.not_true, Bool.not_false, Bool.false_eq_true, Bool.or_false, Bool.or_true, Nat.reduceAdd, Nat.reduceSub, Nat.zero_add, decide_true, decide_false, Bool.true_and, Bool.false_and, Bool.and_true, Bool.and_false, hx, hq, ha, hlet]
    simp only [hg, Option.bind_some, hb, ih, flowC, flowL, List.append_assoc, List.cons_append, List.nil_append]
end K08

set_option maxHeartbeats 4000000
namespace K08
open PySem PySem.Spec PyProof.Rows L2 Iv
local instance nmZ_K08G : Iv.Nm := Iv.nmZ
variable {k : Nat} {st : BSt}
def fst3 : D → D
  | .tuple [a, _, _] => a
  | _ => .none
abbrev nms (ts : List Tb) : List Str := ts.map Tb.n
abbrev tsD (ts : List Tb) : D := .tuple (ts.map Tb.d)
theorem f_names_of (ts : List Tb) (hl : ts.length ≤ 1000) : FF (k + 1) "names_of" [.fz (tsD ts)] st = some (.ow (.list ((nms ts).map .str)), st) := by
  unfold FF
  rw [e_names_of]
  have h : lcF (plainF (vE 0)) [1, 2, 3] (unF [1, 2, 3]) yesT (vE 1) [some (.fz (tsD ts)), none, none, none] st = some (.ow (.list ((ts.map Tb.d).map fst3)), st) :=
    lcF_map fst3 (ds := ts.map Tb.d) rfl (fun d hd => by
      obtain ⟨t, _, rfl⟩ := List.mem_map.mp hd
      exact ⟨_, _, rfl, rfl, rfl⟩) (by rw [List.length_map, sizeLine_eq]; omega)
  have e : (ts.map Tb.d).map fst3 = (nms ts).map .str := by rw [List.map_map, List.map_map]; rfl
  rw [e] at h
  refine run_rt (env1 := [some (.fz (tsD ts)), none, none, none]) rfl ?_
  unfold m_names_of
  refine seq_rt ?_
  have h' : retF (lcF (plainF (vE 0)) [1, 2, 3] (unF [1, 2, 3]) yesT (vE 1)) [some (.fz (tsD ts)), none, none, none] st = some (.rt (.ow (.list ((nms ts).map .str))), [some (.fz (tsD ts)), none, none, none], st) := by
    simp only [retF, h, Option.bind_some, Option.map_some]
  exact h'
structure TsOk (ts : List Tb) : Prop where
  len : ts.length ≤ 3
  ok : ∀ z ∈ nms ts, PyData.strOk z = true
  hs : ∀ t ∈ ts, t.hs.length ≤ 3 ∧ ∀ x ∈ t.hs, x.to = "" ∨ x.to ∈ nms ts
theorem f_flows {ts : List Tb} (T : TsOk ts) (cs : List Int) (hc : cs.length = ts.length) {f : Addr} {F' : NdefX.NF} {ws : List V} (hq : F'.qual = "flows_in_the_end.<locals>.letting") :
    FF (k + 3) "flows" [.fz (tsD ts), .fz (.tuple (cs.map iD)), .fnc f F' ws [tsD ts]] st = some (.fz (.tuple [.list ((flowC (nms ts) 0 ts cs).map iD), .list (flowL (nms ts) 0 ts cs)]), st) := by
  have hl := T.len
  have hN := f_names_of (k := k + 1) (st := st) ts (by omega)
  obtain ⟨y6, y7, y8, y9, y10, y11, y12, y13, y14, h⟩ := loop_flow (k := k) (st := st) (f := f) (ws := ws) T.ok (ts := ts) hq (as := [.fz (tsD ts), .fz (.tuple (cs.map iD)), .fnc f F' ws [tsD ts]]) (by simp) (a0 := some (.fz (tsD ts))) (a1 := some (.fz (.tuple (cs.map iD)))) ts 0 cs [] none none none none none none none none none
    (fun j t h => by rw [Nat.zero_add]; exact h) (by omega) (by rw [hc, List.length_map]) T.hs (by simp; omega)
  unfold FF at hN ⊢
  rw [e_flows]
  refine run_rt (env1 := [some (.fz (tsD ts)), some (.fz (.tuple (cs.map iD))), some (.fnc f F' ws [tsD ts]), some (.ow (.list ((nms ts).map .str))), some (.fz (.list ((flowC (nms ts) 0 ts cs).map iD))), some (.fz (.list (flowL (nms ts) 0 ts cs))), y6, y7, y8, y9, y10, y11, y12, y13, y14]) rfl ?_
  unfold m_flows
  refine (seq_nx (env1 := [some (.fz (tsD ts)), some (.fz (.tuple (cs.map iD))), some (.fnc f F' ws [tsD ts]), some (.ow (.list ((nms ts).map .str))), none, none, none, none, none, none, none, none, none, none, none]) (st1 := st) ?_).trans ?_
  · simp only [runM, seqS, frzS, frzs, frz1, retF, retS, ifS, skipS, andE, orE, notE, ifE, valF, vE, vV, kE, kV', callF, ar_nil, ar_cons, dn_fz, dn_ow, dn_bag, dn_scr, d_fz, d_ow, b_of, isiF, isD, blF, cmpF, chainF, orElse, lenS, bltF1, notT, andT, orT, tstF, l_list, l_tuple, l_all, l_listL, l_listT, l_tupL, l_tupT, l_abs, c_lt, c_le, c_gt, c_ge, c_eqI, c_neI, c_inS, c_niS, i_list, i_tuple, i_str, x_list, x_tuple, plainF, ixF, ixG, ixS, asgF, unpF, unF, setAll, List.length_cons, List.length_nil, List.map_cons, List.map_nil, if_true, if_false, List.cons_append, List.nil_append, List.append_nil, List.getElem?_cons_zero, List.getElem?_cons_succ, List.replicate, List.set_cons_zero, List.set_cons_succ, Option.bind_some, Option.map_some, Option.bind_none, Option.map_none, Bool.not_true, Bool.not_false, Bool.false_eq_true, Bool.or_false, Bool.or_true, Nat.reduceAdd, Nat.reduceSub, Nat.zero_add, decide_true, decide_false, Bool.true_and, Bool.false_and, Bool.and_true, Bool.and_false, hN]
  refine (seq_nx (env1 := [some (.fz (tsD ts)), some (.fz (.tuple (cs.map iD))), some (.fnc f F' ws [tsD ts]), some (.ow (.list ((nms ts).map .str))), some (.ow (.list (cs.map iD))), none, none, none, none, none, none, none, none, none, none]) (st1 := st) rfl).trans ?_
  refine (seq_nx (env1 := [some (.fz (tsD ts)), some (.fz (.tuple (cs.map iD))), some (.fnc f F' ws [tsD ts]), some (.ow (.list ((nms ts).map .str))), some (.ow (.list (cs.map iD))), some (.ow (.list [])), none, none, none, none, none, none, none, none, none]) (st1 := st) rfl).trans ?_
  have h' : frzS [0] (forF (enumF (vE 0)) (unG [setF 6, unF [7, 8, 9]]) (bodyFlow (FF (k + 2)) [.fz (tsD ts), .fz (.tuple (cs.map iD)), .fnc f F' ws [tsD ts]])) [some (.fz (tsD ts)), some (.fz (.tuple (cs.map iD))), some (.fnc f F' ws [tsD ts]), some (.ow (.list ((nms ts).map .str))), some (.ow (.list (cs.map iD))), some (.ow (.list [])), none, none, none, none, none, none, none, none, none] st = some (.nx, [some (.fz (tsD ts)), some (.fz (.tuple (cs.map iD))), some (.fnc f F' ws [tsD ts]), some (.ow (.list ((nms ts).map .str))), some (.ow (.list ((flowC (nms ts) 0 ts cs).map iD))), some (.ow (.list (flowL (nms ts) 0 ts cs))), y6, y7, y8, y9, y10, y11, y12, y13, y14], st) := h
  exact (seq_nx h').trans rfl
theorem f_end {ts : List Tb} (T : TsOk ts) (cs : List Int) (hc : cs.length = ts.length) :
    FF (k + 4) "flows_in_the_end" [.fz (tsD ts), .fz (.tuple (cs.map iD))] st = some (.fz (.tuple [.list ((flowC (nms ts) 0 ts cs).map iD), .list (flowL (nms ts) 0 ts cs)]), st) := by
  unfold FF
  rw [e_flows_in_the_end]
  refine (if_pos rfl).trans ?_
  refine uni_eq fun f F' hq => ?_
  have h : callC (tbl.F whR 60 (k + 3)) "flows" F'.qual [.fz (tsD ts), .fz (.tuple (cs.map iD))] [tsD ts] st = some (.fz (.tuple [.list ((flowC (nms ts) 0 ts cs).map iD), .list (flowL (nms ts) 0 ts cs)]), st) :=
    callC_eq fun f2 F2 ws hq2 _ => f_flows T cs hc (hq2.trans hq)
  have c : clF (tbl.F whR 60 (k + 3)) [.fnc f F' [] []] [0] "flows" 2 (argsF [(vE 0), (vE 1)]) [some (.fz (tsD ts)), some (.fz (.tuple (cs.map iD))), some (.fnc f F' [] [])] st = some (.fz (.tuple [.list ((flowC (nms ts) 0 ts cs).map iD), .list (flowL (nms ts) 0 ts cs)]), st) := by
    unfold clF
    simp only [List.getElem?_cons_succ, List.getElem?_cons_zero, List.mem_cons, true_or, if_true]
    exact h
  have m : m_flows_in_the_end whR (tbl.F whR 60 (k + 3)) [.fnc f F' [] []] [some (.fz (tsD ts)), some (.fz (.tuple (cs.map iD))), some (.fnc f F' [] [])] st = some (.rt (.fz (.tuple [.list ((flowC (nms ts) 0 ts cs).map iD), .list (flowL (nms ts) 0 ts cs)])), [some (.fz (tsD ts)), some (.fz (.tuple (cs.map iD))), some (.fnc f F' [] [])], st) := by
    unfold m_flows_in_the_end
    refine seq_rt ?_
    have r : retF (clF (tbl.F whR 60 (k + 3)) [.fnc f F' [] []] [0] "flows" 2 (argsF [(vE 0), (vE 1)])) [some (.fz (tsD ts)), some (.fz (.tuple (cs.map iD))), some (.fnc f F' [] [])] st = some (.rt (.fz (.tuple [.list ((flowC (nms ts) 0 ts cs).map iD), .list (flowL (nms ts) 0 ts cs)])), [some (.fz (tsD ts)), some (.fz (.tuple (cs.map iD))), some (.fnc f F' [] [])], st) := by
      simp only [retF, c, Option.bind_some, Option.map_some]
    exact r
  exact congrArg fin m
theorem f_comes {ts : List Tb} (T : TsOk ts) (cs : List Int) (hc : cs.length = ts.length) :
    FF (k + 5) "comes" [.fz (tsD ts), .fz (.tuple (cs.map iD))] st = some (.fz (.tuple ((flowC (nms ts) 0 ts cs).map iD)), st) := by
  have h := fun st => f_end (k := k) (st := st) T cs hc
  unfold FF at h ⊢
  rw [e_comes]
  have hy : ∀ a b : D, atI [a, b] 0 = some a := fun _ _ => rfl
  simp only [m_comes, runM, seqS, frzS, frzs, frz1, retF, retS, ifS, skipS, andE, orE, notE, ifE, valF, vE, vV, kE, kV', callF, ar_nil, ar_cons, dn_fz, dn_ow, dn_bag, dn_scr, d_fz, d_ow, b_of, isiF, isD, blF, cmpF, chainF, orElse, lenS, bltF1, notT, andT, orT, tstF, l_list, l_tuple, l_all, l_listL, l_listT, l_tupL, l_tupT, l_abs, c_lt, c_le, c_gt, c_ge, c_eqI, c_neI, c_inS, c_niS, i_list, i_tuple, i_str, x_list, x_tuple, plainF, ixF, ixG, ixS, asgF, unpF, unF, setAll, List.length_cons, List.length_nil, List.map_cons, List.map_nil, if_true, if_false, List.cons_append, List.nil_append, List.append_nil, List.getElem?_cons_zero, List.getElem?_cons_succ, List.replicate, List.set_cons_zero, List.set_cons_succ, Option.bind_some, Option.map_some, Option.bind_none, Option.map_none, Bool.not_true, Bool.not_false, Bool.false_eq_true, Bool.or_false, Bool.or_true, Nat.reduceAdd, Nat.reduceSub, Nat.zero_add, decide_true, decide_false, Bool.true_and, Bool.false_and, Bool.and_true, Bool.and_false, h, hy]
end K08

set_option maxHeartbeats 4000000
namespace K08
open PySem PySem.Spec PyProof.Rows L2 Iv
local instance nmZ_K08I : Iv.Nm := Iv.nmZ
variable {k : Nat} {st : BSt}
/-! ### where the water rests -/
def restF : List Hl → Int → Int → D
  | [], least, left => if left = 0 then .tuple [.int least, .none] else .tuple [.str "rises"]
  | x :: hs, least, left => if left = 0 then .tuple [.int least, .int x.h] else if left < x.r then .tuple [.int x.h, .int x.h] else restF hs x.h (left - x.r)
noncomputable def bodyRest : SF := (seqS (frzS [] (ifS (cmpF .Eq (vV 3) (valF (kE (.int 0)))) (seqS (frzS [2, 4] (retF (tupF (argsF [(vE 2), (vE 4)]))))
    skipS) skipS))
    (seqS (frzS [] (ifS (cmpF .Lt (vV 3) (vV 5)) (seqS (frzS [4, 4] (retF (tupF (argsF [(vE 4), (vE 4)]))))
    skipS) skipS))
    (seqS (frzS [5] (augF .Sub 3 (vV 5)))
    (seqS (frzS [4] (asgF 2 (vE 4)))
    skipS))))
theorem loop_rest {a0 a1 : Option R} : ∀ (hs : List Hl) (least left : Int) (z4 z5 z6 : Option R),
    ∃ o env', forL (unF [4, 5, 6]) bodyRest (hs.map Hl.d) [a0, a1, some (.fz (.int least)), some (.fz (.int left)), z4, z5, z6] st = some (o, env', st) ∧
      (o = .rt (.fz (restF hs least left)) ∨ (o = .nx ∧ ∃ l2 l3 y4 y5 y6, env' = [a0, a1, some (.fz (.int l2)), some (.fz (.int l3)), y4, y5, y6] ∧ restF hs least left = restF [] l2 l3))
  | [], least, left, z4, z5, z6 => ⟨_, _, rfl, .inr ⟨rfl, least, left, z4, z5, z6, rfl, rfl⟩⟩
  | x :: hs, least, left, z4, z5, z6 => by
    have hg : unF [4, 5, 6] x.d [a0, a1, some (.fz (.int least)), some (.fz (.int left)), z4, z5, z6] = some [a0, a1, some (.fz (.int least)), some (.fz (.int left)), some (.fz (.int x.h)), some (.fz (.int x.r)), some (.fz (.str x.to))] := rfl
    rw [List.map_cons]
    unfold forL
    simp only [hg, Option.bind_some]
    by_cases c1 : left = 0
    · have hb : bodyRest [a0, a1, some (.fz (.int least)), some (.fz (.int left)), some (.fz (.int x.h)), some (.fz (.int x.r)), some (.fz (.str x.to))] st = some (.rt (.fz (.tuple [.int least, .int x.h])), [a0, a1, some (.fz (.int least)), some (.fz (.int left)), some (.fz (.int x.h)), some (.fz (.int x.r)), some (.fz (.str x.to))], st) := by
        have e : (left == 0) = true := by simpa using c1
        unfold bodyRest
        simp only [runM, seqS, frzS, frzs, frz1, retF, retS, ifS, skipS, andE, orE, notE, ifE, valF, vE, vV, kE, kV', callF, ar_nil, ar_cons, dn_fz, dn_ow, dn_bag, dn_scr, d_fz, d_ow, b_of, isiF, isD, blF, cmpF, chainF, orElse, lenS, bltF1, notT, andT, orT, tstF, l_list, l_tuple, l_all, l_listL, l_listT, l_tupL, l_tupT, l_abs, c_lt, c_le, c_gt, c_ge, c_eqI, c_neI, c_inS, c_niS, i_list, i_tuple, i_str, x_list, x_tuple, plainF, ixF, ixG, ixS, asgF, unpF, unF, setAll, List.length_cons, List.length_nil, List.map_cons, List.map_nil, if_true, if_false, List.cons_append, List.nil_append, List.append_nil, List.getElem?_cons_zero, List.getElem?_cons_succ, List.replicate, List.set_cons_zero, List.set_cons_succ, Option.bind_some, Option.map_some, Option.bind_none, Option.map_none, Bool.not_true, Bool.not_false, Bool.false_eq_true, Bool.or_false, Bool.or_true, Nat.reduceAdd, Nat.reduceSub, Nat.zero_add, decide_true, decide_false, Bool.true_and, Bool.false_and, Bool.and_true, Bool.and_false, tupF, ds_nil, ds_fz, e]
        rfl
      simp only [hb, Option.bind_some]
      exact ⟨_, _, rfl, .inl (by unfold restF; rw [if_pos c1])⟩
    · have e : (left == 0) = false := by simpa using c1
      by_cases c2 : left < x.r
      · have hb : bodyRest [a0, a1, some (.fz (.int least)), some (.fz (.int left)), some (.fz (.int x.h)), some (.fz (.int x.r)), some (.fz (.str x.to))] st = some (.rt (.fz (.tuple [.int x.h, .int x.h])), [a0, a1, some (.fz (.int least)), some (.fz (.int left)), some (.fz (.int x.h)), some (.fz (.int x.r)), some (.fz (.str x.to))], st) := by
          unfold bodyRest
          simp only [runM, seqS, frzS, frzs, frz1, retF, retS, ifS, skipS, andE, orE, notE, ifE, valF, vE, vV, kE, kV', callF, ar_nil, ar_cons, dn_fz, dn_ow, dn_bag, dn_scr, d_fz, d_ow, b_of, isiF, isD, blF, cmpF, chainF, orElse, lenS, bltF1, notT, andT, orT, tstF, l_list, l_tuple, l_all, l_listL, l_listT, l_tupL, l_tupT, l_abs, c_lt, c_le, c_gt, c_ge, c_eqI, c_neI, c_inS, c_niS, i_list, i_tuple, i_str, x_list, x_tuple, plainF, ixF, ixG, ixS, asgF, unpF, unF, setAll, List.length_cons, List.length_nil, List.map_cons, List.map_nil, if_true, if_false, List.cons_append, List.nil_append, List.append_nil, List.getElem?_cons_zero, List.getElem?_cons_succ, List.replicate, List.set_cons_zero, List.set_cons_succ, Option.bind_some, Option.map_some, Option.bind_none, Option.map_none, Bool.not_true, Bool.not_false, Bool.false_eq_true, Bool.or_false, Bool.or_true, Nat.reduceAdd, Nat.reduceSub, Nat.zero_add, decide_true, decide_false, Bool.true_and, Bool.false_and, Bool.and_true, Bool.and_false, tupF, ds_nil, ds_fz, e, c2]
          rfl
        simp only [hb, Option.bind_some]
        exact ⟨_, _, rfl, .inl (by rw [restF, if_neg c1, if_pos c2])⟩
      · have hb : bodyRest [a0, a1, some (.fz (.int least)), some (.fz (.int left)), some (.fz (.int x.h)), some (.fz (.int x.r)), some (.fz (.str x.to))] st = some (.nx, [a0, a1, some (.fz (.int x.h)), some (.fz (.int (left - x.r))), some (.fz (.int x.h)), some (.fz (.int x.r)), some (.fz (.str x.to))], st) := by
          unfold bodyRest
          simp only [runM, seqS, frzS, frzs, frz1, retF, retS, ifS, skipS, andE, orE, notE, ifE, valF, vE, vV, kE, kV', callF, ar_nil, ar_cons, dn_fz, dn_ow, dn_bag, dn_scr, d_fz, d_ow, b_of, isiF, isD, blF, cmpF, chainF, orElse, lenS, bltF1, notT, andT, orT, tstF, l_list, l_tuple, l_all, l_listL, l_listT, l_tupL, l_tupT, l_abs, c_lt, c_le, c_gt, c_ge, c_eqI, c_neI, c_inS, c_niS, i_list, i_tuple, i_str, x_list, x_tuple, plainF, ixF, ixG, ixS, asgF, unpF, unF, setAll, List.length_cons, List.length_nil, List.map_cons, List.map_nil, if_true, if_false, List.cons_append, List.nil_append, List.append_nil, List.getElem?_cons_zero, List.getElem?_cons_succ, List.replicate, List.set_cons_zero, List.set_cons_succ, Option.bind_some, Option.map_some, Option.bind_none, Option.map_none, Bool.not_true, Bool.not_false, Bool.false_eq_true, Bool.or_false, Bool.or_true, Nat.reduceAdd, Nat.reduceSub, Nat.zero_add, decide_true, decide_false, Bool.true_and, Bool.false_and, Bool.and_true, Bool.and_false, augF, augO, e, c2]
        simp only [hb, Option.bind_some]
        obtain ⟨o, env', h1, h2⟩ := loop_rest (a0 := a0) (a1 := a1) hs x.h (left - x.r) (some (.fz (.int x.h))) (some (.fz (.int x.r))) (some (.fz (.str x.to)))
        refine ⟨o, env', h1, ?_⟩
        rw [show restF (x :: hs) least left = restF hs x.h (left - x.r) by rw [restF, if_neg c1, if_neg c2]]
        exact h2
theorem f_rest_of (hs : List Hl) (m : Int) : FF (k + 1) "rest_of" [.fz (.tuple (hs.map Hl.d)), .fz (.int m)] st = some (.fz (restF hs 0 m), st) := by
  unfold FF
  rw [e_rest_of]
  obtain ⟨o, env', h, q⟩ := loop_rest (st := st) (a0 := some (.fz (.tuple (hs.map Hl.d)))) (a1 := some (.fz (.int m))) hs 0 m none none none
  have h' : frzS [0] (forF (plainF (vE 0)) (unF [4, 5, 6]) bodyRest) [some (.fz (.tuple (hs.map Hl.d))), some (.fz (.int m)), some (.fz (.int 0)), some (.fz (.int m)), none, none, none] st = some (o, env', st) := h
  have s1 : ∀ g : SF, seqS (frzS [] (asgF 2 (kE (.int 0)))) (seqS (frzS [1] (asgF 3 (vE 1))) g) [some (.fz (.tuple (hs.map Hl.d))), some (.fz (.int m)), none, none, none, none, none] st = g [some (.fz (.tuple (hs.map Hl.d))), some (.fz (.int m)), some (.fz (.int 0)), some (.fz (.int m)), none, none, none] st := fun g => rfl
  rcases q with rfl | ⟨rfl, l2, l3, y4, y5, y6, rfl, e⟩
  · refine run_rt (env1 := env') rfl ?_
    unfold m_rest_of
    exact (s1 _).trans (seq_rt h')
  · rw [e]
    refine run_rt (env1 := [some (.fz (.tuple (hs.map Hl.d))), some (.fz (.int m)), some (.fz (.int l2)), some (.fz (.int l3)), y4, y5, y6]) rfl ?_
    unfold m_rest_of
    refine (s1 _).trans ((seq_nx h').trans (seq_rt ?_))
    by_cases c : l3 = 0
    · have e0 : (l3 == 0) = true := by simpa using c
      rw [restF, if_pos c]
      simp only [runM, seqS, frzS, frzs, frz1, retF, retS, ifS, skipS, andE, orE, notE, ifE, valF, vE, vV, kE, kV', callF, ar_nil, ar_cons, dn_fz, dn_ow, dn_bag, dn_scr, d_fz, d_ow, b_of, isiF, isD, blF, cmpF, chainF, orElse, lenS, bltF1, notT, andT, orT, tstF, l_list, l_tuple, l_all, l_listL, l_listT, l_tupL, l_tupT, l_abs, c_lt, c_le, c_gt, c_ge, c_eqI, c_neI, c_inS, c_niS, i_list, i_tuple, i_str, x_list, x_tuple, plainF, ixF, ixG, ixS, asgF, unpF, unF, setAll, List.length_cons, List.length_nil, List.map_cons, List.map_nil, if_true, if_false, List.cons_append, List.nil_append, List.append_nil, List.getElem?_cons_zero, List.getElem?_cons_succ, List.replicate, List.set_cons_zero, List.set_cons_succ, Option.bind_some, Option.map_some, Option.bind_none, Option.map_none, Bool.not_true, Bool.not_false, Bool.false_eq_true, Bool.or_false, Bool.or_true, Nat.reduceAdd, Nat.reduceSub, Nat.zero_add, decide_true, decide_false, Bool.true_and, Bool.false_and, Bool.and_true, Bool.and_false, tupF, ds_nil, ds_fz, e0]
      rfl
    · have e0 : (l3 == 0) = false := by simpa using c
      rw [restF, if_neg c]
      simp only [runM, seqS, frzS, frzs, frz1, retF, retS, ifS, skipS, andE, orE, notE, ifE, valF, vE, vV, kE, kV', callF, ar_nil, ar_cons, dn_fz, dn_ow, dn_bag, dn_scr, d_fz, d_ow, b_of, isiF, isD, blF, cmpF, chainF, orElse, lenS, bltF1, notT, andT, orT, tstF, l_list, l_tuple, l_all, l_listL, l_listT, l_tupL, l_tupT, l_abs, c_lt, c_le, c_gt, c_ge, c_eqI, c_neI, c_inS, c_niS, i_list, i_tuple, i_str, x_list, x_tuple, plainF, ixF, ixG, ixS, asgF, unpF, unF, setAll, List.length_cons, List.length_nil, List.map_cons, List.map_nil, if_true, if_false, List.cons_append, List.nil_append, List.append_nil, List.getElem?_cons_zero, List.getElem?_cons_succ, List.replicate, List.set_cons_zero, List.set_cons_succ, Option.bind_some, Option.map_some, Option.bind_none, Option.map_none, Bool.not_true, Bool.not_false, Bool.false_eq_true, Bool.or_false, Bool.or_true, Nat.reduceAdd, Nat.reduceSub, Nat.zero_add, decide_true, decide_false, Bool.true_and, Bool.false_and, Bool.and_true, Bool.and_false, tupF, ds_nil, ds_fz, e0]
end K08

set_option maxHeartbeats 4000000
namespace K08
open PySem PySem.Spec PyProof.Rows L2 Iv
local instance nmZ_K08J : Iv.Nm := Iv.nmZ
variable {k : Nat} {st : BSt}
def tcD (p : Tb × Int) : D := .tuple [p.1.d, .int p.2]
def tubD : D → List D × D
  | .tuple [.tuple [_, _, .tuple hs], c] => (hs, c)
  | _ => ([], .none)
theorem zip_tc (ts : List Tb) (cs : List Int) : zipD (ts.map Tb.d) (cs.map iD) = (List.zip ts cs).map tcD := by
  unfold zipD
  rw [List.zip_map, List.map_map]
  rfl
/-- a comprehension over pairs, told by the pairs -/
theorem lc_pairs {α : Type} {g : GF} {e : EF} {env0 : Env'} {d : α → D} {x : α → D} : ∀ (ps : List α) (acc : List D), (∀ p ∈ ps, ∃ env1 r, g (d p) env0 = some env1 ∧ e env1 st = some (r, st) ∧ r.d? = some (x p)) → acc.length + ps.length ≤ 16777216 →
    lcLoop g yesT e env0 (ps.map d) acc st = some (acc ++ ps.map x, st)
  | [], acc, _, _ => by simp [lcLoop]
  | p :: ps, acc, h, hl => by
    obtain ⟨env1, r, h1, h2, h3⟩ := h p List.mem_cons_self
    simp only [List.length_cons] at hl
    have ih := lc_pairs (d := d) (x := x) ps (acc ++ [x p]) (fun y hy => h y (List.mem_cons_of_mem _ hy)) (by simp; omega)
    rw [List.map_cons]
    unfold lcLoop
    simp only [h1, yesT, Option.bind_some, if_true, h2, h3]
    rw [if_pos (decide_eq_true (by rw [sizeLine_eq]; omega)), ih]
    simp
theorem f_rests {ts : List Tb} (T : TsOk ts) (cs : List Int) (hc : cs.length = ts.length) :
    FF (k + 6) "rests" [.fz (tsD ts), .fz (.tuple (cs.map iD))] st = some (.ow (.list ((ts.zip (flowC (nms ts) 0 ts cs)).map fun p => restF p.1.hs 0 p.2)), st) := by
  have hl := T.len
  have h := f_comes (k := k) (st := st) T cs hc
  have hr := fun st hs m => f_rest_of (k := k + 4) (st := st) hs m
  unfold FF at h hr ⊢
  rw [e_rests]
  have hz : zipF (vE 0) (callF (tbl.F whR 60 (k + 5)) "comes" (argsF [(vE 0), (vE 1)])) [some (.fz (tsD ts)), some (.fz (.tuple (cs.map iD))), none, none, none, none] st = some ((ts.zip (flowC (nms ts) 0 ts cs)).map tcD, st) := by
    rw [← zip_tc]
    simp only [zipF, runM, seqS, frzS, frzs, frz1, retF, retS, ifS, skipS, andE, orE, notE, ifE, valF, vE, vV, kE, kV', callF, ar_nil, ar_cons, dn_fz, dn_ow, dn_bag, dn_scr, d_fz, d_ow, b_of, isiF, isD, blF, cmpF, chainF, orElse, lenS, bltF1, notT, andT, orT, tstF, l_list, l_tuple, l_all, l_listL, l_listT, l_tupL, l_tupT, l_abs, c_lt, c_le, c_gt, c_ge, c_eqI, c_neI, c_inS, c_niS, i_list, i_tuple, i_str, x_list, x_tuple, plainF, ixF, ixG, ixS, asgF, unpF, unF, setAll, List.length_cons, List.length_nil, List.map_cons, List.map_nil, if_true, if_false, List.cons_append, List.nil_append, List.append_nil, List.getElem?_cons_zero, List.getElem?_cons_succ, List.replicate, List.set_cons_zero, List.set_cons_succ, Option.bind_some, Option.map_some, Option.bind_none, Option.map_none, Bool.not_true, Bool.not_false, Bool.false_eq_true, Bool.or_false, Bool.or_true, Nat.reduceAdd, Nat.reduceSub, Nat.zero_add, decide_true, decide_false, Bool.true_and, Bool.false_and, Bool.and_true, Bool.and_false, h, seqD]
  have hlc : lcF (zipF (vE 0) (callF (tbl.F whR 60 (k + 5)) "comes" (argsF [(vE 0), (vE 1)]))) [2, 3, 4, 5] (unG [unF [2, 3, 4], setF 5]) yesT (callF (tbl.F whR 60 (k + 5)) "rest_of" (argsF [(vE 4), (vE 5)])) [some (.fz (tsD ts)), some (.fz (.tuple (cs.map iD))), none, none, none, none] st = some (.ow (.list ((ts.zip (flowC (nms ts) 0 ts cs)).map fun p => restF p.1.hs 0 p.2)), st) := by
    unfold lcF
    rw [hz]
    simp only [Option.bind_some]
    rw [lc_pairs (d := tcD) (x := fun p => restF p.1.hs 0 p.2)]
    · rfl
    · intro p _
      refine ⟨[some (.fz (tsD ts)), some (.fz (.tuple (cs.map iD))), some (.fz (.str p.1.n)), some (.fz (.int p.1.g)), some (.fz (.tuple (p.1.hs.map Hl.d))), some (.fz (.int p.2))], .fz (restF p.1.hs 0 p.2), rfl, ?_, rfl⟩
      simp only [runM, seqS, frzS, frzs, frz1, retF, retS, ifS, skipS, andE, orE, notE, ifE, valF, vE, vV, kE, kV', callF, ar_nil, ar_cons, dn_fz, dn_ow, dn_bag, dn_scr, d_fz, d_ow, b_of, isiF, isD, blF, cmpF, chainF, orElse, lenS, bltF1, notT, andT, orT, tstF, l_list, l_tuple, l_all, l_listL, l_listT, l_tupL, l_tupT, l_abs, c_lt, c_le, c_gt, c_ge, c_eqI, c_neI, c_inS, c_niS, i_list, i_tuple, i_str, x_list, x_tuple, plainF, ixF, ixG, ixS, asgF, unpF, unF, setAll, List.length_cons, List.length_nil, List.map_cons, List.map_nil, if_true, if_false, List.cons_append, List.nil_append, List.append_nil, List.getElem?_cons_zero, List.getElem?_cons_succ, List.replicate, List.set_cons_zero, List.set_cons_succ, Option.bind_some, Option.map_some, Option.bind_none, Option.map_none, Bool.not_true, Bool.not_false, Bool.false_eq_true, Bool.or_false, Bool.or_true, Nat.reduceAdd, Nat.reduceSub, Nat.zero_add, decide_true, decide_false, Bool.true_and, Bool.false_and, Bool.and_true, Bool.and_false, hr]
    · simp; omega
  refine run_rt (env1 := [some (.fz (tsD ts)), some (.fz (.tuple (cs.map iD))), none, none, none, none]) rfl ?_
  unfold m_rests
  refine seq_rt ?_
  have h' : retF (lcF (zipF (vE 0) (callF (tbl.F whR 60 (k + 5)) "comes" (argsF [(vE 0), (vE 1)]))) [2, 3, 4, 5] (unG [unF [2, 3, 4], setF 5]) yesT (callF (tbl.F whR 60 (k + 5)) "rest_of" (argsF [(vE 4), (vE 5)]))) [some (.fz (tsD ts)), some (.fz (.tuple (cs.map iD))), none, none, none, none] st = some (.rt (.ow (.list ((ts.zip (flowC (nms ts) 0 ts cs)).map fun p => restF p.1.hs 0 p.2))), [some (.fz (tsD ts)), some (.fz (.tuple (cs.map iD))), none, none, none, none], st) := by
    simp only [retF, hlc, Option.bind_some, Option.map_some]
  exact h'
end K08

set_option maxHeartbeats 4000000
namespace K08
open PySem PySem.Spec PyProof.Rows L2 Iv
local instance nmZ_K08K : Iv.Nm := Iv.nmZ
variable {k : Nat} {st : BSt}
/-! ### the law's sums of rates -/
def sumsI : Int → List Hl → List Int
  | _, [] => []
  | s, x :: hs => (s + x.r) :: sumsI (s + x.r) hs
noncomputable def bodySums : SF := (seqS (frzS [] (appS 2 (binF .Add (valF (orElse (ixS 2 (valF (negE (valF (kE (.int 1)))))) (ixG (vV 2) (valF (negE (valF (kE (.int 1)))))))) (valF (orElse (ixS 3 (valF (kE (.int 1)))) (ixG (vV 3) (valF (kE (.int 1)))))))))
    skipS)
theorem loop_sums {a0 a1 a4 a5 a6 : Option R} : ∀ (hs : List Hl) (acc : List D) (s : Int) (z3 : Option R), acc.length + hs.length ≤ 1000 →
    ∃ y3, forL (setF 3) bodySums (hs.map Hl.d) [a0, a1, some (.ow (.list (acc ++ [.int s]))), z3, a4, a5, a6] st = some (.nx, [a0, a1, some (.ow (.list (acc ++ [.int s] ++ (sumsI s hs).map iD))), y3, a4, a5, a6], st)
  | [], acc, s, z3, _ => ⟨z3, by rw [show (sumsI s []).map iD = ([] : List D) from rfl, List.append_nil]; rfl⟩
  | x :: hs, acc, s, z3, hl => by
    simp only [List.length_cons] at hl
    obtain ⟨y3, ih⟩ := loop_sums (a0 := a0) (a1 := a1) (a4 := a4) (a5 := a5) (a6 := a6) hs (acc ++ [.int s]) (s + x.r) (some (.fz x.d)) (by simp; omega)
    refine ⟨y3, ?_⟩
    rw [List.map_cons]
    unfold forL
    have hg : setF 3 x.d [a0, a1, some (.ow (.list (acc ++ [.int s]))), z3, a4, a5, a6] = some [a0, a1, some (.ow (.list (acc ++ [.int s]))), some (.fz x.d), a4, a5, a6] := rfl
    have hsz : (acc ++ [PyData.int s]).length < sizeLine := by rw [sizeLine_eq]; simp; omega
    have hy : ∀ a b c : D, atI [a, b, c] 1 = some b := fun _ _ _ => rfl
    have hb : bodySums [a0, a1, some (.ow (.list (acc ++ [.int s]))), some (.fz x.d), a4, a5, a6] st = some (.nx, [a0, a1, some (.ow (.list (acc ++ [.int s] ++ [.int (s + x.r)]))), some (.fz x.d), a4, a5, a6], st) := by
      unfold bodySums
      simp only [runM, seqS, frzS, frzs, frz1, retF, retS, ifS, skipS, andE, orE, notE, ifE, valF, vE, vV, kE, kV', callF, ar_nil, ar_cons, dn_fz, dn_ow, dn_bag, dn_scr, d_fz, d_ow, b_of, isiF, isD, blF, cmpF, chainF, orElse, lenS, bltF1, notT, andT, orT, tstF, l_list, l_tuple, l_all, l_listL, l_listT, l_tupL, l_tupT, l_abs, c_lt, c_le, c_gt, c_ge, c_eqI, c_neI, c_inS, c_niS, i_list, i_tuple, i_str, x_list, x_tuple, plainF, ixF, ixG, ixS, asgF, unpF, unF, setAll, List.length_cons, List.length_nil, List.map_cons, List.map_nil, if_true, if_false, List.cons_append, List.nil_append, List.append_nil, List.getElem?_cons_zero, List.getElem?_cons_succ, List.replicate, List.set_cons_zero, List.set_cons_succ, Option.bind_some, Option.map_some, Option.bind_none, Option.map_none, Bool.not_true, Bool.not_false, Bool.false_eq_true, Bool.or_false, Bool.or_true, Nat.reduceAdd, Nat.reduceSub, Nat.zero_add, decide_true, decide_false, Bool.true_and, Bool.false_and, Bool.and_true, Bool.and_false, appS, binF, negE, at_last, b_add, hsz, Hl.d, hy]
    simp only [List.append_assoc, List.cons_append, List.nil_append] at ih hb
    simp only [hg, Option.bind_some, hb, ih, sumsI, List.map_cons, iD, List.append_assoc, List.cons_append, List.nil_append]
end K08

set_option maxHeartbeats 4000000
namespace K08
open PySem PySem.Spec PyProof.Rows L2 Iv
local instance nmZ_K08L : Iv.Nm := Iv.nmZ
/-! ### nothing falls below 0 -/
theorem share_nn : ∀ (hs : List Hl) (m : Int), 0 ≤ m → ∀ y ∈ shareI hs m, 0 ≤ y
  | [], _, _, y, hy => by cases hy
  | x :: hs, m, h, y, hy => by
    unfold shareI at hy
    rcases List.mem_cons.mp hy with rfl | hy
    · omega
    · exact share_nn hs _ (by omega) y hy
theorem getD_nn {cs : List Int} (h : ∀ c ∈ cs, 0 ≤ c) (i : Nat) : 0 ≤ cs.getD i 0 := by
  rw [List.getD_eq_getElem?_getD]
  cases e : cs[i]? with
  | none => exact Int.le_refl 0
  | some c => exact h c (List.mem_of_getElem? e)
theorem add1_nn {names : List Str} {cs : List Int} {z : Str} {y : Int} (h : ∀ c ∈ cs, 0 ≤ c) (hy : 0 ≤ y) : ∀ c ∈ add1 names cs z y, 0 ≤ c := by
  intro c hc
  unfold add1 at hc
  split at hc
  · exact h c hc
  · split at hc
    · rcases List.mem_or_eq_of_mem_set hc with hc | rfl
      · exact h c hc
      · have := getD_nn h (by assumption)
        omega
    · exact h c hc
theorem pour_nn {names : List Str} : ∀ (ps : List (Hl × Int)) (cs : List Int), (∀ c ∈ cs, 0 ≤ c) → (∀ p ∈ ps, 0 ≤ p.2) → ∀ c ∈ pour names cs ps, 0 ≤ c
  | [], cs, h, _ => h
  | p :: r, cs, h, hp => by
    unfold pour
    exact pour_nn r _ (add1_nn h (hp p List.mem_cons_self)) fun q hq => hp q (List.mem_cons_of_mem _ hq)
theorem flow_nn {names : List Str} : ∀ (r : List Tb) (i : Nat) (cs : List Int), (∀ c ∈ cs, 0 ≤ c) → ∀ c ∈ flowC names i r cs, 0 ≤ c
  | [], _, cs, h => h
  | t :: r, i, cs, h => by
    unfold flowC
    exact flow_nn r _ _ (pour_nn _ _ h fun p hp => share_nn _ _ (getD_nn h i) p.2 (List.of_mem_zip hp).2)
theorem flow_len {names : List Str} : ∀ (r : List Tb) (i : Nat) (cs : List Int), (flowC names i r cs).length = cs.length
  | [], _, _ => rfl
  | t :: r, i, cs => by unfold flowC; rw [flow_len r, pour_len]
end K08

set_option maxHeartbeats 4000000
namespace K08
open PySem PySem.Spec PyProof.Rows L2 Iv
local instance nmZ_K08N : Iv.Nm := Iv.nmZ
variable {k : Nat} {st : BSt}
/-! ### a dict from names to numbers -/
def kv1 (p : Str × Int) : D × D := (.str p.1, .int p.2)
def kvD (names : List Str) (cs : List Int) : List (D × D) := (names.zip cs).map kv1
theorem idx_cons (n : Str) (names : List Str) (z : Str) : idx (n :: names) z = if n = z then some 0 else (idx names z).map (· + 1) := by
  unfold idx
  rw [List.findIdx?_cons]
  by_cases h : n = z
  · rw [if_pos h]; simp [h]
  · rw [if_neg h]
    have : (n == z) = false := by simpa using h
    rw [this]; rfl
theorem key_str (n z : Str) : (Iv.keyOf (PyData.str n) = some (Sum.inr z : Key)) ↔ n = z := ⟨fun h => by cases h; rfl, fun h => by rw [h]; rfl⟩
theorem plain_kv (names : List Str) (cs : List Int) : plainK (kvD names cs) = true := by
  unfold plainK kvD
  rw [List.all_eq_true]
  intro x hx
  obtain ⟨i, _, rfl⟩ := List.mem_map.mp hx
  rfl
theorem val_kv : ∀ (names : List Str) (cs : List Int), cs.length = names.length → ∀ z j, idx names z = some j → valG Iv.keyOf (kvD names cs) (.inr z : Key) = some (.int (cs.getD j 0))
  | [], _, _, z, j, h => by cases h
  | n :: names, [], hl, _, _, _ => by cases hl
  | n :: names, c :: cs, hl, z, j, h => by
    rw [idx_cons] at h
    have ih := val_kv names cs (by simpa using hl) z
    unfold valG kvD at ih ⊢
    rw [List.zip_cons_cons, List.map_cons, List.find?_cons]
    by_cases e : n = z
    · rw [if_pos e] at h; cases h
      have : decide (Iv.keyOf (kv1 (n, c)).1 = some (.inr z : Key)) = true := decide_eq_true ((key_str n z).mpr e)
      rw [this]; rfl
    · rw [if_neg e] at h
      obtain ⟨j', h1, rfl⟩ := map1 h
      have : decide (Iv.keyOf (kv1 (n, c)).1 = some (.inr z : Key)) = false := decide_eq_false fun h => e ((key_str n z).mp h)
      rw [this]
      exact ih j' h1
theorem put_kv0 : ∀ (names : List Str) (cs : List Int) (z : Str) (v : D), z ∉ names → (kvD names cs).map (fun kv => if Iv.keyOf kv.1 = some (.inr z : Key) then (kv.1, v) else kv) = kvD names cs
  | [], _, _, _, _ => rfl
  | n :: names, [], _, _, _ => rfl
  | n :: names, c :: cs, z, v, h => by
    have ih := put_kv0 names cs z v fun hz => h (List.mem_cons_of_mem _ hz)
    unfold kvD at ih ⊢
    rw [List.zip_cons_cons, List.map_cons, List.map_cons, ih, if_neg]
    exact fun e => h (by rw [(key_str n z).mp e]; exact List.mem_cons_self)
theorem put_kv1 : ∀ (names : List Str) (cs : List Int), names.Nodup → cs.length = names.length → ∀ z j (v : Int), idx names z = some j → (kvD names cs).map (fun kv => if Iv.keyOf kv.1 = some (.inr z : Key) then (kv.1, .int v) else kv) = kvD names (cs.set j v)
  | [], _, _, _, z, j, _, h => by cases h
  | n :: names, [], _, hl, _, _, _, _ => by cases hl
  | n :: names, c :: cs, nd, hl, z, j, v, h => by
    rw [idx_cons] at h
    obtain ⟨nd1, nd2⟩ := List.nodup_cons.mp nd
    have ih := put_kv1 names cs nd2 (by simpa using hl) z
    by_cases e : n = z
    · rw [if_pos e] at h; cases h
      have p := put_kv0 names cs z (.int v) (by rw [← e]; exact nd1)
      unfold kvD at p ⊢
      rw [List.set_cons_zero, List.zip_cons_cons, List.map_cons, List.map_cons, p, List.zip_cons_cons, List.map_cons, if_pos (show Iv.keyOf (kv1 (n, c)).1 = some (.inr z : Key) from (key_str n z).mpr e)]
      rfl
    · rw [if_neg e] at h
      obtain ⟨j', h1, rfl⟩ := map1 h
      have ih := ih j' v h1
      unfold kvD at ih ⊢
      rw [List.set_cons_succ, List.zip_cons_cons, List.map_cons, List.map_cons, ih, List.zip_cons_cons, List.map_cons, if_neg]
      exact fun h => e ((key_str n z).mp h)
theorem any_kv : ∀ (names : List Str) (cs : List Int), cs.length = names.length → ∀ z j, idx names z = some j → ((kvD names cs).any fun kv => decide (Iv.keyOf kv.1 = some (.inr z : Key))) = true
  | [], _, _, z, j, h => by cases h
  | n :: names, [], hl, _, _, _ => by cases hl
  | n :: names, c :: cs, hl, z, j, h => by
    rw [idx_cons] at h
    have ih := any_kv names cs (by simpa using hl) z
    unfold kvD at ih ⊢
    rw [List.zip_cons_cons, List.map_cons, List.any_cons, Bool.or_eq_true]
    by_cases e : n = z
    · exact .inl (decide_eq_true ((key_str n z).mpr e))
    · rw [if_neg e] at h
      obtain ⟨j', h1, rfl⟩ := map1 h
      exact .inr (ih j' h1)
theorem put_kv {names : List Str} {cs : List Int} (nd : names.Nodup) (hl : cs.length = names.length) {z : Str} {j : Nat} (v : Int) (h : idx names z = some j) : putD (kvD names cs) (.inr z) (.int v) = kvD names (cs.set j v) := by
  unfold putD
  rw [if_pos (any_kv names cs hl z j h), put_kv1 names cs nd hl z j v h]
theorem mk_kv : ∀ (ps : List (Str × Int)) (acc : List (D × D)), (ps.map (·.1)).Nodup → (∀ p ∈ ps, ∀ kv ∈ acc, Iv.keyOf kv.1 ≠ some (.inr p.1 : Key)) → (ps.map fun p => ((.inr p.1 : Key), PyData.int p.2)).foldl (fun acc kv => putG kD Iv.keyOf acc kv.1 kv.2) acc = acc ++ ps.map kv1
  | [], acc, _, _ => by simp
  | p :: ps, acc, nd, h => by
    rw [List.map_cons, List.nodup_cons] at nd
    have e : putG kD Iv.keyOf acc (.inr p.1 : Key) (.int p.2) = acc ++ [kv1 p] := by
      unfold putG
      rw [if_neg]
      · rfl
      · intro z
        obtain ⟨kv, h1, h2⟩ := List.any_eq_true.mp z
        exact h p List.mem_cons_self kv h1 (of_decide_eq_true h2)
    rw [List.map_cons, List.foldl_cons, e, mk_kv ps (acc ++ [kv1 p]) nd.2]
    · simp
    · intro q hq kv hkv
      rcases List.mem_append.mp hkv with hkv | hkv
      · exact h q (List.mem_cons_of_mem _ hq) kv hkv
      · rw [List.mem_singleton.mp hkv]
        intro z
        have := (key_str p.1 q.1).mp z
        exact nd.1 (by rw [this]; exact List.mem_map_of_mem hq)
theorem pairs_kv : ∀ (ps : List (Str × Int)), pairsD (ps.map fun p => .tuple [.str p.1, .int p.2]) = some (ps.map fun p => ((.inr p.1 : Key), PyData.int p.2))
  | [] => rfl
  | p :: ps => by
    rw [List.map_cons, pairsD, pairs_kv ps]; rfl
theorem map_fst_zip' {α β : Type} : ∀ (l : List α) (m : List β), m.length = l.length → (l.zip m).map (·.1) = l
  | [], _, _ => by simp
  | a :: l, [], h => by cases h
  | a :: l, b :: m, h => by rw [List.zip_cons_cons, List.map_cons, map_fst_zip' l m (by simpa using h)]
/-! ### what the law reckons -/
def letPut (n : Str) : List (D × D) → List (Hl × Int) → List (D × D)
  | kds, [] => kds
  | kds, p :: r => letPut n (putG encT decT kds [.inr n, .inl p.1.h] (.int p.2)) r
theorem putG_len {κ : Type} [DecidableEq κ] (enc : κ → D) (dec : D → Option κ) (kds : List (D × D)) (q : κ) (v : D) : (putG enc dec kds q v).length ≤ kds.length + 1 := by
  unfold putG
  split
  · rw [List.length_map]; omega
  · simp
theorem letPut_len (n : Str) : ∀ (ps : List (Hl × Int)) (kds : List (D × D)), (letPut n kds ps).length ≤ kds.length + ps.length
  | [], kds => Nat.le_refl _
  | p :: r, kds => by
    unfold letPut
    have := letPut_len n r (putG encT decT kds [.inr n, .inl p.1.h] (.int p.2))
    have := putG_len encT decT kds [.inr n, .inl p.1.h] (.int p.2)
    rw [List.length_cons]; omega
theorem val_put {κ : Type} [DecidableEq κ] {enc : κ → D} {dec : D → Option κ} (hd : ∀ k, dec (enc k) = some k) (q : κ) (v : D) : ∀ kds : List (D × D), valG dec (putG enc dec kds q v) q = some v := by
  intro kds
  unfold putG
  split
  · rename_i h
    induction kds with
    | nil => cases h
    | cons kv kds ih =>
      unfold valG
      rw [List.map_cons, List.find?_cons]
      by_cases e : dec kv.1 = some q
      · rw [if_pos e, decide_eq_true (by exact e)]; rfl
      · rw [if_neg e, decide_eq_false (by exact e)]
        exact ih (by rwa [List.any_cons, decide_eq_false (by exact e), Bool.false_or] at h)
  · rename_i h
    unfold valG
    rw [List.find?_append]
    have : (kds.find? fun kv => decide (dec kv.1 = some q)) = none := by
      rw [List.find?_eq_none]
      intro x hx hy
      exact h (List.any_eq_true.mpr ⟨x, hx, hy⟩)
    rw [this, Option.none_or, List.find?_cons, decide_eq_true (hd q)]
    rfl
noncomputable def bodyEnds : SF := (seqS (frzS [4, 9] (setTF 5 (bltF2 .min2 (vV 4) (vV 9)) (argsF [(vE 6), (vE 10)])))
    (seqS (frzS [4, 9] (asgF 9 (binF .Sub (vV 9) (valF (bltF2 .min2 (vV 4) (vV 9))))))
    (seqS (frzS [] (ifS (cmpF .NotEq (vV 11) (valF (kE (.str "")))) (seqS (frzS [6, 10] (setS 2 (binF .Add (valF (orElse (ixS 2 (vV 11)) (ixG (vV 2) (vV 11)))) (valF (ixTF (vV 5) (argsF [(vE 6), (vE 10)])))) (vV 11)))
    skipS) skipS))
    skipS)))
theorem loop_ends {names : List Str} (nd : names.Nodup) (hok : ∀ z ∈ names, PyData.strOk z = true) (hn3 : names.length ≤ 1000) {n : Str} {a0 a1 a3 a7 a8 : Option R} : ∀ (hs : List Hl) (cs : List Int) (kds : List (D × D)) (m : Int) (z4 z10 z11 : Option R), cs.length = names.length → (∀ x ∈ hs, x.to = "" ∨ x.to ∈ names) → kds.length + hs.length ≤ 1000 →
    ∃ y4 y9 y10 y11, forL (unF [10, 4, 11]) bodyEnds (hs.map Hl.d) [a0, a1, some (.ow (.dict (kvD names cs))), a3, z4, some (.ow (.dict [(.none, .dict kds)])), some (.fz (.str n)), a7, a8, some (.fz (.int m)), z10, z11] st = some (.nx, [a0, a1, some (.ow (.dict (kvD names (pour names cs (hs.zip (shareI hs m)))))), a3, y4, some (.ow (.dict [(.none, .dict (letPut n kds (hs.zip (shareI hs m))))])), some (.fz (.str n)), a7, a8, y9, y10, y11], st)
  | [], cs, kds, m, z4, z10, z11, _, _, _ => ⟨z4, _, z10, z11, rfl⟩
  | x :: hs, cs, kds, m, z4, z10, z11, hl, ht, hk => by
    simp only [List.length_cons] at hk
    have hpl := putG_len encT decT kds [.inr n, .inl (x.h : Int)] (.int (min m x.r))
    obtain ⟨y4, y9, y10, y11, ih⟩ := loop_ends nd hok hn3 (n := n) (a0 := a0) (a1 := a1) (a3 := a3) (a7 := a7) (a8 := a8) hs (add1 names cs x.to (min m x.r)) (putG encT decT kds [.inr n, .inl (x.h : Int)] (.int (min m x.r))) (m - min m x.r) (some (.fz (.int x.r))) (some (.fz (.int x.h))) (some (.fz (.str x.to))) (by rw [add1_len]; exact hl) (fun q hq => ht q (List.mem_cons_of_mem _ hq)) (by omega)
    refine ⟨y4, y9, y10, y11, ?_⟩
    rw [List.map_cons]
    unfold forL
    have hg : unF [10, 4, 11] x.d [a0, a1, some (.ow (.dict (kvD names cs))), a3, z4, some (.ow (.dict [(.none, .dict kds)])), some (.fz (.str n)), a7, a8, some (.fz (.int m)), z10, z11] = some [a0, a1, some (.ow (.dict (kvD names cs))), a3, some (.fz (.int x.r)), some (.ow (.dict [(.none, .dict kds)])), some (.fz (.str n)), a7, a8, some (.fz (.int m)), some (.fz (.int x.h)), some (.fz (.str x.to))] := rfl
    have hsz : kds.length < sizeLine := by rw [sizeLine_eq]; omega
    have hmin : min (x.r : Int) m = min m x.r := Int.min_comm ..
    have hkk : keysOf [PyData.str n, .int x.h] = some [.inr n, .inl (x.h : Int)] := rfl
    have hb : bodyEnds [a0, a1, some (.ow (.dict (kvD names cs))), a3, some (.fz (.int x.r)), some (.ow (.dict [(.none, .dict kds)])), some (.fz (.str n)), a7, a8, some (.fz (.int m)), some (.fz (.int x.h)), some (.fz (.str x.to))] st = some (.nx, [a0, a1, some (.ow (.dict (kvD names (add1 names cs x.to (min m x.r))))), a3, some (.fz (.int x.r)), some (.ow (.dict [(.none, .dict (putG encT decT kds [.inr n, .inl (x.h : Int)] (.int (min m x.r))))])), some (.fz (.str n)), a7, a8, some (.fz (.int (m - min m x.r))), some (.fz (.int x.h)), some (.fz (.str x.to))], st) := by
      unfold bodyEnds
      refine (seq_nx (env1 := [a0, a1, some (.ow (.dict (kvD names cs))), a3, some (.fz (.int x.r)), some (.ow (.dict [(.none, .dict (putG encT decT kds [.inr n, .inl (x.h : Int)] (.int (min m x.r))))])), some (.fz (.str n)), a7, a8, some (.fz (.int m)), some (.fz (.int x.h)), some (.fz (.str x.to))]) (st1 := st) ?_).trans ?_
      · simp only [runM, seqS, frzS, frzs, frz1, retF, retS, ifS, skipS, andE, orE, notE, ifE, valF, vE, vV, kE, kV', callF, ar_nil, ar_cons, dn_fz, dn_ow, dn_bag, dn_scr, d_fz, d_ow, b_of, isiF, isD, blF, cmpF, chainF, orElse, lenS, bltF1, notT, andT, orT, tstF, l_list, l_tuple, l_all, l_listL, l_listT, l_tupL, l_tupT, l_abs, c_lt, c_le, c_gt, c_ge, c_eqI, c_neI, c_inS, c_niS, i_list, i_tuple, i_str, x_list, x_tuple, plainF, ixF, ixG, ixS, asgF, unpF, unF, setAll, List.length_cons, List.length_nil, List.map_cons, List.map_nil, if_true, if_false, List.cons_append, List.nil_append, List.append_nil, List.getElem?_cons_zero, List.getElem?_cons_succ, List.replicate, List.set_cons_zero, List.set_cons_succ, Option.bind_some, Option.map_some, Option.bind_none, Option.map_none, Bool.not_true, Bool.not_false, Bool.false_eq_true, Bool.or_false, Bool.or_true, Nat.reduceAdd, Nat.reduceSub, Nat.zero_add, decide_true, decide_false, Bool.true_and, Bool.false_and, Bool.and_true, Bool.and_false, bltF2, min_i, hmin, setTF, ds_nil, ds_fz, hkk, hsz, lenOk_of, Nat.reduceLeDiff]
      refine (seq_nx (env1 := [a0, a1, some (.ow (.dict (kvD names cs))), a3, some (.fz (.int x.r)), some (.ow (.dict [(.none, .dict (putG encT decT kds [.inr n, .inl (x.h : Int)] (.int (min m x.r))))])), some (.fz (.str n)), a7, a8, some (.fz (.int (m - min m x.r))), some (.fz (.int x.h)), some (.fz (.str x.to))]) (st1 := st) ?_).trans ?_
      · simp only [runM, seqS, frzS, frzs, frz1, retF, retS, ifS, skipS, andE, orE, notE, ifE, valF, vE, vV, kE, kV', callF, ar_nil, ar_cons, dn_fz, dn_ow, dn_bag, dn_scr, d_fz, d_ow, b_of, isiF, isD, blF, cmpF, chainF, orElse, lenS, bltF1, notT, andT, orT, tstF, l_list, l_tuple, l_all, l_listL, l_listT, l_tupL, l_tupT, l_abs, c_lt, c_le, c_gt, c_ge, c_eqI, c_neI, c_inS, c_niS, i_list, i_tuple, i_str, x_list, x_tuple, plainF, ixF, ixG, ixS, asgF, unpF, unF, setAll, List.length_cons, List.length_nil, List.map_cons, List.map_nil, if_true, if_false, List.cons_append, List.nil_append, List.append_nil, List.getElem?_cons_zero, List.getElem?_cons_succ, List.replicate, List.set_cons_zero, List.set_cons_succ, Option.bind_some, Option.map_some, Option.bind_none, Option.map_none, Bool.not_true, Bool.not_false, Bool.false_eq_true, Bool.or_false, Bool.or_true, Nat.reduceAdd, Nat.reduceSub, Nat.zero_add, decide_true, decide_false, Bool.true_and, Bool.false_and, Bool.and_true, Bool.and_false, bltF2, min_i, hmin, binF, b_sub]
      have hv := val_put (enc := encT) (dec := decT) decT_enc [.inr n, .inl (x.h : Int)] (.int (min m x.r)) kds
      generalize putG encT decT kds [.inr n, .inl (x.h : Int)] (.int (min m x.r)) = kds2 at hv ⊢
      by_cases e : x.to = ""
      · rw [e]
        have c := c_neS ok0 ok0
        rw [show (!(("" : Str) == "")) = false from by decide +kernel] at c
        have e1 : add1 names cs "" (min m x.r) = cs := by unfold add1; rw [if_pos rfl]
        simp only [runM, seqS, frzS, frzs, frz1, retF, retS, ifS, skipS, andE, orE, notE, ifE, valF, vE, vV, kE, kV', callF, ar_nil, ar_cons, dn_fz, dn_ow, dn_bag, dn_scr, d_fz, d_ow, b_of, isiF, isD, blF, cmpF, chainF, orElse, lenS, bltF1, notT, andT, orT, tstF, l_list, l_tuple, l_all, l_listL, l_listT, l_tupL, l_tupT, l_abs, c_lt, c_le, c_gt, c_ge, c_eqI, c_neI, c_inS, c_niS, i_list, i_tuple, i_str, x_list, x_tuple, plainF, ixF, ixG, ixS, asgF, unpF, unF, setAll, List.length_cons, List.length_nil, List.map_cons, List.map_nil, if_true, if_false, List.cons_append, List.nil_append, List.append_nil, List.getElem?_cons_zero, List.getElem?_cons_succ, List.replicate, List.set_cons_zero, List.set_cons_succ, Option.bind_some, Option.map_some, Option.bind_none, Option.map_none, Bool.not_true, Bool.not_false, Bool.false_eq_true, Bool.or_false, Bool.or_true, Nat.reduceAdd, Nat.reduceSub, Nat.zero_add, decide_true, decide_false, Bool.true_and, Bool.false_and, Bool.and_true, Bool.and_false, c, e1]
      · have hm : x.to ∈ names := (ht x List.mem_cons_self).resolve_left e
        obtain ⟨j, hj, hjl⟩ := idx_mem hm
        have c := c_neS (hok _ hm) ok0
        rw [show (!(x.to == "")) = true from by simpa using e] at c
        have hv2 := val_kv names cs hl x.to j hj
        have hp := put_kv nd hl (cs.getD j 0 + min m x.r) hj
        have e1 : add1 names cs x.to (min m x.r) = cs.set j (cs.getD j 0 + min m x.r) := by unfold add1; rw [if_neg e, hj]
        rw [e1, ← hp]
        have hpk := plain_kv names cs
        have hkl : (kvD names cs).length < sizeLine := by
          unfold kvD
          rw [List.length_map, List.length_zip, sizeLine_eq]; omega
        generalize kvD names cs = KD at hv2 hpk hkl ⊢
        have hs : setS 2 (binF .Add (valF (orElse (ixS 2 (vV 11)) (ixG (vV 2) (vV 11)))) (valF (ixTF (vV 5) (argsF [(vE 6), (vE 10)])))) (vV 11) [a0, a1, some (.ow (.dict KD)), a3, some (.fz (.int x.r)), some (.ow (.dict [(.none, .dict kds2)])), some (.fz (.str n)), a7, a8, some (.fz (.int (m - min m x.r))), some (.fz (.int x.h)), some (.fz (.str x.to))] st = some (.nx, [a0, a1, some (.ow (.dict (putD KD (.inr x.to) (.int (cs.getD j 0 + min m x.r))))), a3, some (.fz (.int x.r)), some (.ow (.dict [(.none, .dict kds2)])), some (.fz (.str n)), a7, a8, some (.fz (.int (m - min m x.r))), some (.fz (.int x.h)), some (.fz (.str x.to))], st) := by
          simp only [runM, seqS, frzS, frzs, frz1, retF, retS, ifS, skipS, andE, orE, notE, ifE, valF, vE, vV, kE, kV', callF, ar_nil, ar_cons, dn_fz, dn_ow, dn_bag, dn_scr, d_fz, d_ow, b_of, isiF, isD, blF, cmpF, chainF, orElse, lenS, bltF1, notT, andT, orT, tstF, l_list, l_tuple, l_all, l_listL, l_listT, l_tupL, l_tupT, l_abs, c_lt, c_le, c_gt, c_ge, c_eqI, c_neI, c_inS, c_niS, i_list, i_tuple, i_str, x_list, x_tuple, plainF, ixF, ixG, ixS, asgF, unpF, unF, setAll, List.length_cons, List.length_nil, List.map_cons, List.map_nil, if_true, if_false, List.cons_append, List.nil_append, List.append_nil, List.getElem?_cons_zero, List.getElem?_cons_succ, List.replicate, List.set_cons_zero, List.set_cons_succ, Option.bind_some, Option.map_some, Option.bind_none, Option.map_none, Bool.not_true, Bool.not_false, Bool.false_eq_true, Bool.or_false, Bool.or_true, Nat.reduceAdd, Nat.reduceSub, Nat.zero_add, decide_true, decide_false, Bool.true_and, Bool.false_and, Bool.and_true, Bool.and_false, setS, binF, ixTF, ds_nil, ds_fz, hkk, hv, hpk, hkl, hv2, b_add, Iv.keyOf, lenOk_of, Nat.reduceLeDiff]
        simp only [seqS, frzS, ifS, cmpF, vV, kV', valF, kE, d_fz, List.getElem?_cons_succ, List.getElem?_cons_zero, Option.bind_some, c, Option.map_some, if_true, frzs, frz1, hs, skipS]
    simp only [hg, Option.bind_some, hb, ih, pour, shareI, List.zip_cons_cons, letPut]
end K08

set_option maxHeartbeats 4000000
namespace K08
open PySem PySem.Spec PyProof.Rows L2 Iv
local instance nmZ_K08O : Iv.Nm := Iv.nmZ
variable {k : Nat} {st : BSt}
/-! ### the law's ends -/
def letAll (names : List Str) : Nat → List Tb → List Int → List (D × D) → List (D × D)
  | _, [], _, kds => kds
  | i, t :: r, cs, kds => letAll names (i + 1) r (pour names cs (t.hs.zip (shareI t.hs (cs.getD i 0)))) (letPut t.n kds (t.hs.zip (shareI t.hs (cs.getD i 0))))
noncomputable def bodyEnd2 : SF := (seqS (frzS [] (asgF 9 (orElse (ixS 2 (vV 6)) (ixG (vV 2) (vV 6)))))
    (seqS (frzS [8] (forF (plainF (vE 8)) (unF [10, 4, 11]) bodyEnds))
    skipS))
theorem loop_end2 {names : List Str} (nd : names.Nodup) (hok : ∀ z ∈ names, PyData.strOk z = true) (hn3 : names.length ≤ 3) {a0 a1 a3 : Option R} : ∀ (r : List Tb) (i : Nat) (cs : List Int) (kds : List (D × D)) (z4 z6 z7 z8 z9 z10 z11 : Option R), cs.length = names.length → (∀ (j : Nat) t, r[j]? = some t → idx names t.n = some (i + j)) → (∀ t ∈ r, t.hs.length ≤ 3 ∧ ∀ x ∈ t.hs, x.to = "" ∨ x.to ∈ names) → kds.length + 3 * r.length ≤ 1000 →
    ∃ y4 y6 y7 y8 y9 y10 y11, forL (unF [6, 7, 8]) bodyEnd2 (r.map Tb.d) [a0, a1, some (.ow (.dict (kvD names cs))), a3, z4, some (.ow (.dict [(.none, .dict kds)])), z6, z7, z8, z9, z10, z11] st = some (.nx, [a0, a1, some (.ow (.dict (kvD names (flowC names i r cs)))), a3, y4, some (.ow (.dict [(.none, .dict (letAll names i r cs kds))])), y6, y7, y8, y9, y10, y11], st)
  | [], i, cs, kds, z4, z6, z7, z8, z9, z10, z11, _, _, _, _ => ⟨z4, z6, z7, z8, z9, z10, z11, rfl⟩
  | t :: r, i, cs, kds, z4, z6, z7, z8, z9, z10, z11, hl, hi, ht, hk => by
    simp only [List.length_cons] at hk
    have hti : idx names t.n = some i := hi 0 t rfl
    obtain ⟨ht1, ht2⟩ := ht t List.mem_cons_self
    have hll := letPut_len t.n (t.hs.zip (shareI t.hs (cs.getD i 0))) kds
    rw [List.length_zip] at hll
    obtain ⟨y4, y9, y10, y11, hp⟩ := loop_ends (st := st) nd hok (by omega) (n := t.n) (a0 := a0) (a1 := a1) (a3 := a3) (a7 := some (.fz (.int t.g))) (a8 := some (.fz (.tuple (t.hs.map Hl.d)))) t.hs cs kds (cs.getD i 0) z4 z10 z11 hl ht2 (by omega)
    obtain ⟨x4, x6, x7, x8, x9, x10, x11, ih⟩ := loop_end2 nd hok hn3 (a0 := a0) (a1 := a1) (a3 := a3) r (i + 1) (pour names cs (t.hs.zip (shareI t.hs (cs.getD i 0)))) (letPut t.n kds (t.hs.zip (shareI t.hs (cs.getD i 0)))) y4 (some (.fz (.str t.n))) (some (.fz (.int t.g))) (some (.fz (.tuple (t.hs.map Hl.d)))) y9 y10 y11 (by rw [pour_len]; exact hl) (fun j u h => by rw [show i + 1 + j = i + (j + 1) by omega]; exact hi (j + 1) u (by simpa using h)) (fun u hu => ht u (List.mem_cons_of_mem _ hu)) (by omega)
    refine ⟨x4, x6, x7, x8, x9, x10, x11, ?_⟩
    rw [List.map_cons]
    unfold forL
    have hg : unF [6, 7, 8] t.d [a0, a1, some (.ow (.dict (kvD names cs))), a3, z4, some (.ow (.dict [(.none, .dict kds)])), z6, z7, z8, z9, z10, z11] = some [a0, a1, some (.ow (.dict (kvD names cs))), a3, z4, some (.ow (.dict [(.none, .dict kds)])), some (.fz (.str t.n)), some (.fz (.int t.g)), some (.fz (.tuple (t.hs.map Hl.d))), z9, z10, z11] := rfl
    have hv := val_kv names cs hl t.n i hti
    have hpk := plain_kv names cs
    have hb : bodyEnd2 [a0, a1, some (.ow (.dict (kvD names cs))), a3, z4, some (.ow (.dict [(.none, .dict kds)])), some (.fz (.str t.n)), some (.fz (.int t.g)), some (.fz (.tuple (t.hs.map Hl.d))), z9, z10, z11] st = some (.nx, [a0, a1, some (.ow (.dict (kvD names (pour names cs (t.hs.zip (shareI t.hs (cs.getD i 0))))))), a3, y4, some (.ow (.dict [(.none, .dict (letPut t.n kds (t.hs.zip (shareI t.hs (cs.getD i 0)))))])), some (.fz (.str t.n)), some (.fz (.int t.g)), some (.fz (.tuple (t.hs.map Hl.d))), y9, y10, y11], st) := by
      unfold bodyEnd2
      refine (seq_nx (env1 := [a0, a1, some (.ow (.dict (kvD names cs))), a3, z4, some (.ow (.dict [(.none, .dict kds)])), some (.fz (.str t.n)), some (.fz (.int t.g)), some (.fz (.tuple (t.hs.map Hl.d))), some (.fz (.int (cs.getD i 0))), z10, z11]) (st1 := st) ?_).trans ?_
      · generalize kvD names cs = KD at hv hpk ⊢
        simp only [runM, seqS, frzS, frzs, frz1, retF, retS, ifS, skipS, andE, orE, notE, ifE, valF, vE, vV, kE, kV', callF, ar_nil, ar_cons, dn_fz, dn_ow, dn_bag, dn_scr, d_fz, d_ow, b_of, isiF, isD, blF, cmpF, chainF, orElse, lenS, bltF1, notT, andT, orT, tstF, l_list, l_tuple, l_all, l_listL, l_listT, l_tupL, l_tupT, l_abs, c_lt, c_le, c_gt, c_ge, c_eqI, c_neI, c_inS, c_niS, i_list, i_tuple, i_str, x_list, x_tuple, plainF, ixF, ixG, ixS, asgF, unpF, unF, setAll, List.length_cons, List.length_nil, List.map_cons, List.map_nil, if_true, if_false, List.cons_append, List.nil_append, List.append_nil, List.getElem?_cons_zero, List.getElem?_cons_succ, List.replicate, List.set_cons_zero, List.set_cons_succ, Option.bind_some, Option.map_some, Option.bind_none, Option.map_none, Bool.not_true, Bool.not_false, Bool.false_eq_true, Bool.or_false, Bool.or_true, Nat.reduceAdd, Nat.reduceSub, Nat.zero_add, decide_true, decide_false, Bool.true_and, Bool.false_and, Bool.and_true, Bool.and_false, hpk, hv, Iv.keyOf]
      · exact (seq_nx hp).trans rfl
    simp only [hg, Option.bind_some, hb, ih, flowC, letAll]
theorem idx_get {names : List Str} (nd : names.Nodup) {j : Nat} {z : Str} (h : names[j]? = some z) : idx names z = some j := by
  induction names generalizing j with
  | nil => cases h
  | cons n names ih =>
    rw [idx_cons]
    obtain ⟨nd1, nd2⟩ := List.nodup_cons.mp nd
    cases j with
    | zero => cases h; rw [if_pos rfl]
    | succ j =>
      have h : names[j]? = some z := h
      rw [if_neg (fun e => nd1 (by rw [e]; exact List.mem_of_getElem? h)), ih nd2 h]; rfl
theorem f_law_ends {ts : List Tb} (T : TsOk ts) (nd : (nms ts).Nodup) (cs : List Int) (hc : cs.length = ts.length) :
    FF (k + 1) "_law_ends" [.fz (tsD ts), .fz (.tuple (cs.map iD))] st = some (.fz (.tuple [.list ((flowC (nms ts) 0 ts cs).map iD), .dict [(.none, .dict (letAll (nms ts) 0 ts cs []))]]), st) := by
  have hl := T.len
  have hcn : cs.length = (nms ts).length := by rw [hc, List.length_map]
  obtain ⟨y4, y6, y7, y8, y9, y10, y11, h⟩ := loop_end2 (st := st) nd T.ok (by rw [List.length_map]; omega) (a0 := some (.fz (tsD ts))) (a1 := some (.fz (.tuple (cs.map iD)))) (a3 := none) ts 0 cs [] none none none none none none none hcn
    (fun j t h => by rw [Nat.zero_add]; exact idx_get nd (by rw [List.getElem?_map, h]; rfl)) T.hs (by simp; omega)
  have hlen : (flowC (nms ts) 0 ts cs).length = ts.length := by rw [flow_len]; exact hc
  generalize hF : flowC (nms ts) 0 ts cs = fs at h hlen ⊢
  generalize letAll (nms ts) 0 ts cs [] = LD at h ⊢
  unfold FF
  rw [e__law_ends]
  refine run_rt (env1 := [some (.fz (tsD ts)), some (.fz (.tuple (cs.map iD))), some (.ow (.dict (kvD (nms ts) fs))), none, y4, some (.fz (.dict [(.none, .dict LD)])), y6, y7, y8, y9, y10, y11]) rfl ?_
  unfold m__law_ends
  refine (seq_nx (env1 := [some (.fz (tsD ts)), some (.fz (.tuple (cs.map iD))), some (.ow (.dict (kvD (nms ts) cs))), none, none, none, none, none, none, none, none, none]) (st1 := st) ?_).trans ?_
  · have hz : zipF (vE 0) (vE 1) [some (.fz (tsD ts)), some (.fz (.tuple (cs.map iD))), none, none, none, none, none, none, none, none, none, none] st = some ((ts.zip cs).map tcD, st) := by
      rw [← zip_tc]
      simp only [zipF, runM, seqS, frzS, frzs, frz1, retF, retS, ifS, skipS, andE, orE, notE, ifE, valF, vE, vV, kE, kV', callF, ar_nil, ar_cons, dn_fz, dn_ow, dn_bag, dn_scr, d_fz, d_ow, b_of, isiF, isD, blF, cmpF, chainF, orElse, lenS, bltF1, notT, andT, orT, tstF, l_list, l_tuple, l_all, l_listL, l_listT, l_tupL, l_tupT, l_abs, c_lt, c_le, c_gt, c_ge, c_eqI, c_neI, c_inS, c_niS, i_list, i_tuple, i_str, x_list, x_tuple, plainF, ixF, ixG, ixS, asgF, unpF, unF, setAll, List.length_cons, List.length_nil, List.map_cons, List.map_nil, if_true, if_false, List.cons_append, List.nil_append, List.append_nil, List.getElem?_cons_zero, List.getElem?_cons_succ, List.replicate, List.set_cons_zero, List.set_cons_succ, Option.bind_some, Option.map_some, Option.bind_none, Option.map_none, Bool.not_true, Bool.not_false, Bool.false_eq_true, Bool.or_false, Bool.or_true, Nat.reduceAdd, Nat.reduceSub, Nat.zero_add, decide_true, decide_false, Bool.true_and, Bool.false_and, Bool.and_true, Bool.and_false, seqD]
    have hlc : lcF (zipF (vE 0) (vE 1)) [3, 4] (unF [3, 4]) yesT (tupF (argsF [(orElse (ixS 3 (valF (kE (.int 0)))) (ixG (vV 3) (valF (kE (.int 0))))), (vE 4)])) [some (.fz (tsD ts)), some (.fz (.tuple (cs.map iD))), none, none, none, none, none, none, none, none, none, none] st = some (.ow (.list ((ts.zip cs).map fun p => .tuple [.str p.1.n, .int p.2])), st) := by
      unfold lcF
      rw [hz]
      simp only [Option.bind_some]
      rw [lc_pairs (d := tcD) (x := fun p => .tuple [.str p.1.n, .int p.2])]
      · rfl
      · intro p _
        refine ⟨[some (.fz (tsD ts)), some (.fz (.tuple (cs.map iD))), none, some (.fz p.1.d), some (.fz (.int p.2)), none, none, none, none, none, none, none], .fz (.tuple [.str p.1.n, .int p.2]), rfl, ?_, rfl⟩
        have hy : ∀ a b c : D, atI [a, b, c] 0 = some a := fun _ _ _ => rfl
        simp only [runM, seqS, frzS, frzs, frz1, retF, retS, ifS, skipS, andE, orE, notE, ifE, valF, vE, vV, kE, kV', callF, ar_nil, ar_cons, dn_fz, dn_ow, dn_bag, dn_scr, d_fz, d_ow, b_of, isiF, isD, blF, cmpF, chainF, orElse, lenS, bltF1, notT, andT, orT, tstF, l_list, l_tuple, l_all, l_listL, l_listT, l_tupL, l_tupT, l_abs, c_lt, c_le, c_gt, c_ge, c_eqI, c_neI, c_inS, c_niS, i_list, i_tuple, i_str, x_list, x_tuple, plainF, ixF, ixG, ixS, asgF, unpF, unF, setAll, List.length_cons, List.length_nil, List.map_cons, List.map_nil, if_true, if_false, List.cons_append, List.nil_append, List.append_nil, List.getElem?_cons_zero, List.getElem?_cons_succ, List.replicate, List.set_cons_zero, List.set_cons_succ, Option.bind_some, Option.map_some, Option.bind_none, Option.map_none, Bool.not_true, Bool.not_false, Bool.false_eq_true, Bool.or_false, Bool.or_true, Nat.reduceAdd, Nat.reduceSub, Nat.zero_add, decide_true, decide_false, Bool.true_and, Bool.false_and, Bool.and_true, Bool.and_false, tupF, ds_nil, ds_fz, Tb.d, hy]
        rfl
      · simp; omega
    have e1 : (ts.zip cs).map (fun p => PyData.tuple [.str p.1.n, .int p.2]) = ((nms ts).zip cs).map fun p => .tuple [.str p.1, .int p.2] := by
      rw [List.zip_map_left, List.map_map]; rfl
    rw [e1] at hlc
    have e2 : mkD (((nms ts).zip cs).map fun p => ((.inr p.1 : Key), PyData.int p.2)) = kvD (nms ts) cs := by
      unfold mkD kvD
      rw [mk_kv _ [] (by rw [map_fst_zip' _ _ hcn]; exact nd) (fun _ _ kv h => by cases h)]
      rfl
    change frzS _ _ [some (.fz (tsD ts)), some (.fz (.tuple (cs.map iD))), none, none, none, none, none, none, none, none, none, none] st = _
    simp only [asgF, frzS, frzs, frz1, dicF, valF, List.getElem?_cons_succ, List.getElem?_cons_zero, hlc, Option.bind_some, Option.map_some, d_ow, pairs_kv, e2, List.set_cons_succ, List.set_cons_zero]
  refine (seq_nx (env1 := [some (.fz (tsD ts)), some (.fz (.tuple (cs.map iD))), some (.ow (.dict (kvD (nms ts) cs))), none, none, some (.ow (.dict [(.none, .dict [])])), none, none, none, none, none, none]) (st1 := st) rfl).trans ?_
  have h' : frzS [0] (forF (plainF (vE 0)) (unF [6, 7, 8]) bodyEnd2) [some (.fz (tsD ts)), some (.fz (.tuple (cs.map iD))), some (.ow (.dict (kvD (nms ts) cs))), none, none, some (.ow (.dict [(.none, .dict [])])), none, none, none, none, none, none] st = some (.nx, [some (.fz (tsD ts)), some (.fz (.tuple (cs.map iD))), some (.ow (.dict (kvD (nms ts) fs))), none, y4, some (.ow (.dict [(.none, .dict LD)])), y6, y7, y8, y9, y10, y11], st) := h
  refine (seq_nx h').trans (seq_rt ?_)
  have hlc : lcF (plainF (vE 0)) [3] (setF 3) yesT (orElse (ixS 2 (valF (orElse (ixS 3 (valF (kE (.int 0)))) (ixG (vV 3) (valF (kE (.int 0))))))) (ixG (vV 2) (valF (orElse (ixS 3 (valF (kE (.int 0)))) (ixG (vV 3) (valF (kE (.int 0)))))))) [some (.fz (tsD ts)), some (.fz (.tuple (cs.map iD))), some (.ow (.dict (kvD (nms ts) fs))), none, y4, some (.fz (.dict [(.none, .dict LD)])), y6, y7, y8, y9, y10, y11] st = some (.ow (.list (fs.map iD)), st) := by
    unfold lcF
    have e0 : plainF (vE 0) [some (.fz (tsD ts)), some (.fz (.tuple (cs.map iD))), some (.ow (.dict (kvD (nms ts) fs))), none, y4, some (.fz (.dict [(.none, .dict LD)])), y6, y7, y8, y9, y10, y11] st = some (ts.map Tb.d, st) := rfl
    rw [e0]
    simp only [Option.bind_some]
    have e1 : ts.map Tb.d = (ts.zip fs).map fun p => p.1.d := by
      rw [show (fun p : Tb × Int => p.1.d) = Tb.d ∘ (·.1) from rfl, ← List.map_map, map_fst_zip' _ _ hlen]
    have e2 : ∀ (l : List Tb) (m : List Int), m.length = l.length → m.map iD = (l.zip m).map fun p => iD p.2 := by
      intro l
      induction l with
      | nil => intro m h; cases m with
        | nil => rfl
        | cons a m => cases h
      | cons a l ih => intro m h; cases m with
        | nil => cases h
        | cons b m => rw [List.map_cons, ih m (by simpa using h)]; rfl
    rw [e1, e2 ts fs hlen, lc_pairs (d := fun p : Tb × Int => p.1.d) (x := fun p => iD p.2)]
    · rfl
    · intro p hp
      refine ⟨[some (.fz (tsD ts)), some (.fz (.tuple (cs.map iD))), some (.ow (.dict (kvD (nms ts) fs))), some (.fz p.1.d), y4, some (.fz (.dict [(.none, .dict LD)])), y6, y7, y8, y9, y10, y11], .fz (iD p.2), rfl, ?_, rfl⟩
      obtain ⟨j, hj⟩ := List.getElem?_of_mem hp
      rw [List.getElem?_zip_eq_some] at hj
      have hv := val_kv (nms ts) fs (by rw [hlen, List.length_map]) p.1.n j (idx_get nd (by rw [List.getElem?_map, hj.1]; rfl))
      have e3 : fs.getD j 0 = p.2 := by rw [List.getD_eq_getElem?_getD, hj.2]; rfl
      rw [e3] at hv
      have hpk := plain_kv (nms ts) fs
      generalize kvD (nms ts) fs = KD at hv hpk ⊢
      have hy : ∀ a b c : D, atI [a, b, c] 0 = some a := fun _ _ _ => rfl
      simp only [runM, seqS, frzS, frzs, frz1, retF, retS, ifS, skipS, andE, orE, notE, ifE, valF, vE, vV, kE, kV', callF, ar_nil, ar_cons, dn_fz, dn_ow, dn_bag, dn_scr, d_fz, d_ow, b_of, isiF, isD, blF, cmpF, chainF, orElse, lenS, bltF1, notT, andT, orT, tstF, l_list, l_tuple, l_all, l_listL, l_listT, l_tupL, l_tupT, l_abs, c_lt, c_le, c_gt, c_ge, c_eqI, c_neI, c_inS, c_niS, i_list, i_tuple, i_str, x_list, x_tuple, plainF, ixF, ixG, ixS, asgF, unpF, unF, setAll, List.length_cons, List.length_nil, List.map_cons, List.map_nil, if_true, if_false, List.cons_append, List.nil_append, List.append_nil, List.getElem?_cons_zero, List.getElem?_cons_succ, List.replicate, List.set_cons_zero, List.set_cons_succ, Option.bind_some, Option.map_some, Option.bind_none, Option.map_none, Bool.not_true, Bool.not_false, Bool.false_eq_true, Bool.or_false, Bool.or_true, Nat.reduceAdd, Nat.reduceSub, Nat.zero_add, decide_true, decide_false, Bool.true_and, Bool.false_and, Bool.and_true, Bool.and_false, Tb.d, hy, hpk, Iv.keyOf, hv, iD]
    · simp; omega
  simp only [frzS, frzs, frz1, List.getElem?_cons_succ, List.getElem?_cons_zero, List.set_cons_succ, List.set_cons_zero, retF, tupF, ar_cons, ar_nil, hlc, Option.bind_some, Option.map_some, dn_ow, dn_fz, vE, ds_fz, ds_nil]
  rfl
end K08

set_option maxHeartbeats 4000000
namespace K08
open PySem PySem.Spec PyProof.Rows L2 Iv
local instance nmZ_K08Q : Iv.Nm := Iv.nmZ
variable {k : Nat} {st : BSt}
/-! ### the law's rest -/
def totI : Int → List Hl → Int
  | s, [] => s
  | s, x :: hs => totI (s + x.r) hs
theorem tot_ge : ∀ (hs : List Hl) (s : Int), s ≤ totI s hs
  | [], s => Int.le_refl s
  | x :: hs, s => by have := tot_ge hs (s + x.r); unfold totI; omega
theorem rest_over : ∀ (hs : List Hl) (s least much : Int), totI s hs < much → restF hs least (much - s) = .tuple [.str "rises"]
  | [], s, least, much, h => by
    have h : s < much := h
    unfold restF
    rw [if_neg (by omega)]
  | x :: hs, s, least, much, h => by
    have h : totI (s + x.r) hs < much := h
    have := tot_ge hs (s + x.r)
    unfold restF
    rw [if_neg (by omega), if_neg (by omega), show much - s - (x.r : Int) = much - (s + x.r) by omega]
    exact rest_over hs (s + x.r) x.h much h
theorem sums_last : ∀ (hs : List Hl) (s : Int), ∃ l, PyData.int s :: (sumsI s hs).map iD = l ++ [.int (totI s hs)]
  | [], s => ⟨[], rfl⟩
  | x :: hs, s => by
    obtain ⟨l, h⟩ := sums_last hs (s + x.r)
    exact ⟨.int s :: l, by rw [List.cons_append, ← show totI (s + x.r) hs = totI s (x :: hs) from rfl, ← h]; rfl⟩
noncomputable def bodyRest2 : SF := (seqS (frzS [] (ifS (cmpF .Eq (vV 5) (vV 1)) (seqS (frzS [] (asgF 6 (ifE (cmpF .Eq (vV 4) (valF (kE (.int 0)))) (kE (.int 0)) (ixG (valF (orElse (ixS 0 (valF (binF .Sub (vV 4) (valF (kE (.int 1)))))) (ixG (vV 0) (valF (binF .Sub (vV 4) (valF (kE (.int 1)))))))) (valF (kE (.int 0)))))))
    (seqS (frzS [6] (retF (tupF (argsF [(vE 6), (ifE (cmpF .Lt (vV 4) (valF (orElse (lenS 0) (bltF1 .len (vV 0))))) (ixG (valF (orElse (ixS 0 (vV 4)) (ixG (vV 0) (vV 4)))) (valF (kE (.int 0)))) (kE .none))]))))
    skipS)) skipS))
    (seqS (frzS [] (ifS (chainF .Lt .Lt (vV 5) (vV 1) (valF (orElse (ixS 2 (valF (binF .Add (vV 4) (valF (kE (.int 1)))))) (ixG (vV 2) (valF (binF .Add (vV 4) (valF (kE (.int 1))))))))) (seqS (frzS [] (retF (tupF (argsF [(ixG (valF (orElse (ixS 0 (vV 4)) (ixG (vV 0) (vV 4)))) (valF (kE (.int 0)))), (ixG (valF (orElse (ixS 0 (vV 4)) (ixG (vV 0) (vV 4)))) (valF (kE (.int 0))))]))))
    skipS) skipS))
    skipS))
theorem hl_0 (x : Hl) : ixD x.d (.int 0) = some (.int x.h) := rfl
theorem loop_rest2 {hs : List Hl} {much : Int} {SD : List D} {z3 : Option R} : ∀ (suf pre : List Hl) (sp : List D) (s least : Int) (z4 z5 z6 : Option R), hs = pre ++ suf → SD = sp ++ .int s :: (sumsI s suf).map iD → sp.length = pre.length → ((pre = [] ∧ least = 0) ∨ ∃ p y, pre = p ++ [y] ∧ least = (y.h : Int)) → s ≤ much → much ≤ totI s suf →
    ∃ env', forL (unF [4, 5]) bodyRest2 (enumD pre.length (.int s :: (sumsI s suf).map iD)) [some (.fz (.tuple (hs.map Hl.d))), some (.fz (.int much)), some (.fz (.list SD)), z3, z4, z5, z6] st = some (.rt (.fz (restF suf least (much - s))), env', st)
  | suf, pre, sp, s, least, z4, z5, z6, eh, eS, el, hp, h1, h2 => by
    have he : enumD pre.length (.int s :: (sumsI s suf).map iD) = .tuple [.int (pre.length : Nat), .int s] :: enumD (pre.length + 1) ((sumsI s suf).map iD) := rfl
    rw [he]
    unfold forL
    have hg : unF [4, 5] (.tuple [.int (pre.length : Nat), .int s]) [some (.fz (.tuple (hs.map Hl.d))), some (.fz (.int much)), some (.fz (.list SD)), z3, z4, z5, z6] = some [some (.fz (.tuple (hs.map Hl.d))), some (.fz (.int much)), some (.fz (.list SD)), z3, some (.fz (.int (pre.length : Nat))), some (.fz (.int s)), z6] := rfl
    simp only [hg, Option.bind_some]
    have hix : ∀ x r, suf = x :: r → atI (hs.map Hl.d) ((pre.length : Nat) : Int) = some x.d := fun x r e => atI_nat (by
      rw [List.getElem?_map, eh, e, List.getElem?_append_right (Nat.le_refl _), Nat.sub_self]; rfl)
    have hlen : hs.length = pre.length + suf.length := by rw [eh, List.length_append]
    have hy0 : ∀ a b c : D, atI [a, b, c] 0 = some a := fun _ _ _ => rfl
    have hlm : (hs.map Hl.d).length = hs.length := List.length_map ..
    by_cases c1 : s = much
    · have ce : (s == much) = true := by simpa using c1
      -- the height beneath
      have hlow : ifE (cmpF .Eq (vV 4) (valF (kE (.int 0)))) (kE (.int 0)) (ixG (valF (orElse (ixS 0 (valF (binF .Sub (vV 4) (valF (kE (.int 1)))))) (ixG (vV 0) (valF (binF .Sub (vV 4) (valF (kE (.int 1)))))))) (valF (kE (.int 0)))) [some (.fz (.tuple (hs.map Hl.d))), some (.fz (.int much)), some (.fz (.list SD)), z3, some (.fz (.int (pre.length : Nat))), some (.fz (.int s)), z6] st = some (.fz (.int least), st) := by
        rcases hp with ⟨e, rfl⟩ | ⟨p, y, e, rfl⟩
        · have e0 : (((pre.length : Nat) : Int) == 0) = true := by rw [e]; rfl
          simp only [runM, seqS, frzS, frzs, frz1, retF, retS, ifS, skipS, andE, orE, notE, ifE, valF, vE, vV, kE, kV', callF, ar_nil, ar_cons, dn_fz, dn_ow, dn_bag, dn_scr, d_fz, d_ow, b_of, isiF, isD, blF, cmpF, chainF, orElse, lenS, bltF1, notT, andT, orT, tstF, l_list, l_tuple, l_all, l_listL, l_listT, l_tupL, l_tupT, l_abs, c_lt, c_le, c_gt, c_ge, c_eqI, c_neI, c_inS, c_niS, i_list, i_tuple, i_str, x_list, x_tuple, plainF, ixF, ixG, ixS, asgF, unpF, unF, setAll, List.length_cons, List.length_nil, List.map_cons, List.map_nil, if_true, if_false, List.cons_append, List.nil_append, List.append_nil, List.getElem?_cons_zero, List.getElem?_cons_succ, List.replicate, List.set_cons_zero, List.set_cons_succ, Option.bind_some, Option.map_some, Option.bind_none, Option.map_none, Bool.not_true, Bool.not_false, Bool.false_eq_true, Bool.or_false, Bool.or_true, Nat.reduceAdd, Nat.reduceSub, Nat.zero_add, decide_true, decide_false, Bool.true_and, Bool.false_and, Bool.and_true, Bool.and_false, e0]
        · have hpl : pre.length = p.length + 1 := by rw [e]; simp
          have e0 : (((pre.length : Nat) : Int) == 0) = false := by rw [hpl]; simp; omega
          have hx : atI (hs.map Hl.d) ((pre.length : Int) - 1) = some y.d := by
            rw [show ((pre.length : Int) - 1) = ((p.length : Nat) : Int) by omega]
            refine atI_nat ?_
            rw [List.getElem?_map, eh, e, List.append_assoc, List.getElem?_append_right (Nat.le_refl _), Nat.sub_self]; rfl
          simp only [runM, seqS, frzS, frzs, frz1, retF, retS, ifS, skipS, andE, orE, notE, ifE, valF, vE, vV, kE, kV', callF, ar_nil, ar_cons, dn_fz, dn_ow, dn_bag, dn_scr, d_fz, d_ow, b_of, isiF, isD, blF, cmpF, chainF, orElse, lenS, bltF1, notT, andT, orT, tstF, l_list, l_tuple, l_all, l_listL, l_listT, l_tupL, l_tupT, l_abs, c_lt, c_le, c_gt, c_ge, c_eqI, c_neI, c_inS, c_niS, i_list, i_tuple, i_str, x_list, x_tuple, plainF, ixF, ixG, ixS, asgF, unpF, unF, setAll, List.length_cons, List.length_nil, List.map_cons, List.map_nil, if_true, if_false, List.cons_append, List.nil_append, List.append_nil, List.getElem?_cons_zero, List.getElem?_cons_succ, List.replicate, List.set_cons_zero, List.set_cons_succ, Option.bind_some, Option.map_some, Option.bind_none, Option.map_none, Bool.not_true, Bool.not_false, Bool.false_eq_true, Bool.or_false, Bool.or_true, Nat.reduceAdd, Nat.reduceSub, Nat.zero_add, decide_true, decide_false, Bool.true_and, Bool.false_and, Bool.and_true, Bool.and_false, e0, binF, b_sub, hx, Hl.d, hy0]
      have hup : ∃ u, ifE (cmpF .Lt (vV 4) (valF (orElse (lenS 0) (bltF1 .len (vV 0))))) (ixG (valF (orElse (ixS 0 (vV 4)) (ixG (vV 0) (vV 4)))) (valF (kE (.int 0)))) (kE .none) [some (.fz (.tuple (hs.map Hl.d))), some (.fz (.int much)), some (.fz (.list SD)), z3, some (.fz (.int (pre.length : Nat))), some (.fz (.int s)), some (.fz (.int least))] st = some (.fz u, st) ∧ restF suf least (much - s) = .tuple [.int least, u] := by
        cases suf with
        | nil =>
          refine ⟨.none, ?_, by unfold restF; rw [if_pos (by omega)]⟩
          have lt : decide (((pre.length : Nat) : Int) < ((hs.map Hl.d).length : Nat)) = false := decide_eq_false (by rw [hlm, hlen]; simp)
          simp only [runM, seqS, frzS, frzs, frz1, retF, retS, ifS, skipS, andE, orE, notE, ifE, valF, vE, vV, kE, kV', callF, ar_nil, ar_cons, dn_fz, dn_ow, dn_bag, dn_scr, d_fz, d_ow, b_of, isiF, isD, blF, cmpF, chainF, orElse, lenS, bltF1, notT, andT, orT, tstF, l_list, l_tuple, l_all, l_listL, l_listT, l_tupL, l_tupT, l_abs, c_lt, c_le, c_gt, c_ge, c_eqI, c_neI, c_inS, c_niS, i_list, i_tuple, i_str, x_list, x_tuple, plainF, ixF, ixG, ixS, asgF, unpF, unF, setAll, List.length_cons, List.length_nil, List.map_cons, List.map_nil, if_true, if_false, List.cons_append, List.nil_append, List.append_nil, List.getElem?_cons_zero, List.getElem?_cons_succ, List.replicate, List.set_cons_zero, List.set_cons_succ, Option.bind_some, Option.map_some, Option.bind_none, Option.map_none, Bool.not_true, Bool.not_false, Bool.false_eq_true, Bool.or_false, Bool.or_true, Nat.reduceAdd, Nat.reduceSub, Nat.zero_add, decide_true, decide_false, Bool.true_and, Bool.false_and, Bool.and_true, Bool.and_false, lt]
        | cons x r =>
          refine ⟨.int x.h, ?_, by unfold restF; rw [if_pos (by omega)]⟩
          have lt : decide (((pre.length : Nat) : Int) < ((hs.map Hl.d).length : Nat)) = true := decide_eq_true (by rw [hlm, hlen]; simp; omega)
          have := hix x r rfl
          simp only [runM, seqS, frzS, frzs, frz1, retF, retS, ifS, skipS, andE, orE, notE, ifE, valF, vE, vV, kE, kV', callF, ar_nil, ar_cons, dn_fz, dn_ow, dn_bag, dn_scr, d_fz, d_ow, b_of, isiF, isD, blF, cmpF, chainF, orElse, lenS, bltF1, notT, andT, orT, tstF, l_list, l_tuple, l_all, l_listL, l_listT, l_tupL, l_tupT, l_abs, c_lt, c_le, c_gt, c_ge, c_eqI, c_neI, c_inS, c_niS, i_list, i_tuple, i_str, x_list, x_tuple, plainF, ixF, ixG, ixS, asgF, unpF, unF, setAll, List.length_cons, List.length_nil, List.map_cons, List.map_nil, if_true, if_false, List.cons_append, List.nil_append, List.append_nil, List.getElem?_cons_zero, List.getElem?_cons_succ, List.replicate, List.set_cons_zero, List.set_cons_succ, Option.bind_some, Option.map_some, Option.bind_none, Option.map_none, Bool.not_true, Bool.not_false, Bool.false_eq_true, Bool.or_false, Bool.or_true, Nat.reduceAdd, Nat.reduceSub, Nat.zero_add, decide_true, decide_false, Bool.true_and, Bool.false_and, Bool.and_true, Bool.and_false, lt, this, Hl.d, hy0]
      obtain ⟨u, hu, hr⟩ := hup
      refine ⟨[some (.fz (.tuple (hs.map Hl.d))), some (.fz (.int much)), some (.fz (.list SD)), z3, some (.fz (.int (pre.length : Nat))), some (.fz (.int s)), some (.fz (.int least))], ?_⟩
      rw [hr]
      have hb : bodyRest2 [some (.fz (.tuple (hs.map Hl.d))), some (.fz (.int much)), some (.fz (.list SD)), z3, some (.fz (.int (pre.length : Nat))), some (.fz (.int s)), z6] st = some (.rt (.fz (.tuple [.int least, u])), [some (.fz (.tuple (hs.map Hl.d))), some (.fz (.int much)), some (.fz (.list SD)), z3, some (.fz (.int (pre.length : Nat))), some (.fz (.int s)), some (.fz (.int least))], st) := by
        unfold bodyRest2
        refine seq_rt ?_
        simp only [seqS, frzS, frzs, frz1, ifS, cmpF, vV, c_eqI, ce, List.getElem?_cons_succ, List.getElem?_cons_zero, Option.bind_some, Option.map_some, if_true, asgF, hlow, List.set_cons_succ, List.set_cons_zero, retF, tupF, ar_cons, ar_nil, vE, dn_fz, hu, ds_fz, ds_nil]
        rfl
      simp only [hb, Option.bind_some]
    · have ce : (s == much) = false := by simpa using c1
      have c2 : decide (s < much) = true := decide_eq_true (by omega)
      cases suf with
      | nil => exfalso; have h2 : much ≤ s := h2; omega
      | cons x r =>
        have hs1 : atI SD ((pre.length : Int) + 1) = some (.int (s + x.r)) := by
          rw [show ((pre.length : Int) + 1) = ((pre.length + 1 : Nat) : Int) by omega]
          refine atI_nat ?_
          rw [eS, List.getElem?_append_right (by omega), show pre.length + 1 - sp.length = 1 by omega]; rfl
        have hxx := hix x r rfl
        by_cases c3 : much < s + x.r
        · refine ⟨[some (.fz (.tuple (hs.map Hl.d))), some (.fz (.int much)), some (.fz (.list SD)), z3, some (.fz (.int (pre.length : Nat))), some (.fz (.int s)), z6], ?_⟩
          have hr : restF (x :: r) least (much - s) = .tuple [.int x.h, .int x.h] := by unfold restF; rw [if_neg (by omega), if_pos (by omega)]
          rw [hr]
          have hb : bodyRest2 [some (.fz (.tuple (hs.map Hl.d))), some (.fz (.int much)), some (.fz (.list SD)), z3, some (.fz (.int (pre.length : Nat))), some (.fz (.int s)), z6] st = some (.rt (.fz (.tuple [.int x.h, .int x.h])), [some (.fz (.tuple (hs.map Hl.d))), some (.fz (.int much)), some (.fz (.list SD)), z3, some (.fz (.int (pre.length : Nat))), some (.fz (.int s)), z6], st) := by
            have c3 : decide (much < s + x.r) = true := decide_eq_true c3
            unfold bodyRest2
            refine (seq_nx (env1 := [some (.fz (.tuple (hs.map Hl.d))), some (.fz (.int much)), some (.fz (.list SD)), z3, some (.fz (.int (pre.length : Nat))), some (.fz (.int s)), z6]) (st1 := st) ?_).trans (seq_rt ?_)
            · simp only [seqS, frzS, frzs, frz1, ifS, cmpF, vV, c_eqI, ce, List.getElem?_cons_succ, List.getElem?_cons_zero, Option.bind_some, Option.map_some, Bool.false_eq_true, if_false, skipS]
            · simp only [runM, seqS, frzS, frzs, frz1, retF, retS, ifS, skipS, andE, orE, notE, ifE, valF, vE, vV, kE, kV', callF, ar_nil, ar_cons, dn_fz, dn_ow, dn_bag, dn_scr, d_fz, d_ow, b_of, isiF, isD, blF, cmpF, chainF, orElse, lenS, bltF1, notT, andT, orT, tstF, l_list, l_tuple, l_all, l_listL, l_listT, l_tupL, l_tupT, l_abs, c_lt, c_le, c_gt, c_ge, c_eqI, c_neI, c_inS, c_niS, i_list, i_tuple, i_str, x_list, x_tuple, plainF, ixF, ixG, ixS, asgF, unpF, unF, setAll, List.length_cons, List.length_nil, List.map_cons, List.map_nil, if_true, if_false, List.cons_append, List.nil_append, List.append_nil, List.getElem?_cons_zero, List.getElem?_cons_succ, List.replicate, List.set_cons_zero, List.set_cons_succ, Option.bind_some, Option.map_some, Option.bind_none, Option.map_none, Bool.not_true, Bool.not_false, Bool.false_eq_true, Bool.or_false, Bool.or_true, Nat.reduceAdd, Nat.reduceSub, Nat.zero_add, decide_true, decide_false, Bool.true_and, Bool.false_and, Bool.and_true, Bool.and_false, binF, b_add, hs1, c2, c3, hxx, Hl.d, hy0, tupF, ds_fz, ds_nil]
              rfl
          simp only [hb, Option.bind_some]
        · have hb : bodyRest2 [some (.fz (.tuple (hs.map Hl.d))), some (.fz (.int much)), some (.fz (.list SD)), z3, some (.fz (.int (pre.length : Nat))), some (.fz (.int s)), z6] st = some (.nx, [some (.fz (.tuple (hs.map Hl.d))), some (.fz (.int much)), some (.fz (.list SD)), z3, some (.fz (.int (pre.length : Nat))), some (.fz (.int s)), z6], st) := by
            have c3 : decide (much < s + x.r) = false := decide_eq_false c3
            unfold bodyRest2
            refine (seq_nx (env1 := [some (.fz (.tuple (hs.map Hl.d))), some (.fz (.int much)), some (.fz (.list SD)), z3, some (.fz (.int (pre.length : Nat))), some (.fz (.int s)), z6]) (st1 := st) ?_).trans ?_
            · simp only [seqS, frzS, frzs, frz1, ifS, cmpF, vV, c_eqI, ce, List.getElem?_cons_succ, List.getElem?_cons_zero, Option.bind_some, Option.map_some, Bool.false_eq_true, if_false, skipS]
            · simp only [runM, seqS, frzS, frzs, frz1, retF, retS, ifS, skipS, andE, orE, notE, ifE, valF, vE, vV, kE, kV', callF, ar_nil, ar_cons, dn_fz, dn_ow, dn_bag, dn_scr, d_fz, d_ow, b_of, isiF, isD, blF, cmpF, chainF, orElse, lenS, bltF1, notT, andT, orT, tstF, l_list, l_tuple, l_all, l_listL, l_listT, l_tupL, l_tupT, l_abs, c_lt, c_le, c_gt, c_ge, c_eqI, c_neI, c_inS, c_niS, i_list, i_tuple, i_str, x_list, x_tuple, plainF, ixF, ixG, ixS, asgF, unpF, unF, setAll, List.length_cons, List.length_nil, List.map_cons, List.map_nil, if_true, if_false, List.cons_append, List.nil_append, List.append_nil, List.getElem?_cons_zero, List.getElem?_cons_succ, List.replicate, List.set_cons_zero, List.set_cons_succ, Option.bind_some, Option.map_some, Option.bind_none, Option.map_none, Bool.not_true, Bool.not_false, Bool.false_eq_true, Bool.or_false, Bool.or_true, Nat.reduceAdd, Nat.reduceSub, Nat.zero_add, decide_true, decide_false, Bool.true_and, Bool.false_and, Bool.and_true, Bool.and_false, binF, b_add, hs1, c2, c3]
          have hr : restF (x :: r) least (much - s) = restF r x.h (much - (s + x.r)) := by rw [restF, if_neg (by omega), if_neg (by omega), show much - s - (x.r : Int) = much - (s + x.r) by omega]
          have hsum : (sumsI s (x :: r)).map iD = .int (s + x.r) :: (sumsI (s + x.r) r).map iD := rfl
          obtain ⟨env', ih⟩ := loop_rest2 (hs := hs) (much := much) (SD := SD) (z3 := z3) r (pre ++ [x]) (sp ++ [.int s]) (s + x.r) x.h (some (.fz (.int (pre.length : Nat)))) (some (.fz (.int s))) z6 (by rw [eh]; simp) (by rw [eS, hsum]; simp) (by simp [el]) (.inr ⟨pre, x, rfl, rfl⟩) (by omega) h2
          refine ⟨env', ?_⟩
          rw [hr]
          simp only [hb, Option.bind_some, hsum]
          rw [show (pre ++ [x]).length = pre.length + 1 by simp] at ih
          exact ih
termination_by suf => suf.length
theorem f_law_rest (hs : List Hl) (much : Int) (h0 : 0 ≤ much) (hl : hs.length ≤ 3) : FF (k + 1) "_law_rest" [.fz (.tuple (hs.map Hl.d)), .fz (.int much)] st = some (.fz (restF hs 0 much), st) := by
  obtain ⟨y3, h⟩ := loop_sums (st := st) (a0 := some (.fz (.tuple (hs.map Hl.d)))) (a1 := some (.fz (.int much))) (a4 := none) (a5 := none) (a6 := none) hs [] 0 none (by simp; omega)
  rw [List.nil_append, List.cons_append, List.nil_append] at h
  obtain ⟨l, hlast⟩ := sums_last hs 0
  have hm1 : atI (PyData.int 0 :: (sumsI 0 hs).map iD) (-1) = some (.int (totI 0 hs)) := by rw [hlast]; exact at_last l _
  unfold FF
  rw [e__law_rest]
  by_cases c : totI 0 hs < much
  · have hr := rest_over hs 0 0 much c
    rw [Int.sub_zero] at hr
    rw [hr]
    have c : decide (totI 0 hs < much) = true := decide_eq_true c
    generalize hSD : PyData.int 0 :: (sumsI 0 hs).map iD = SD at h hm1
    refine run_rt (env1 := [some (.fz (.tuple (hs.map Hl.d))), some (.fz (.int much)), some (.ow (.list SD)), y3, none, none, none]) rfl ?_
    unfold m__law_rest
    refine (seq_nx (env1 := [some (.fz (.tuple (hs.map Hl.d))), some (.fz (.int much)), some (.ow (.list [.int 0])), none, none, none, none]) (st1 := st) rfl).trans ?_
    refine (seq_nx h).trans (seq_rt ?_)
    simp only [runM, seqS, frzS, frzs, frz1, retF, retS, ifS, skipS, andE, orE, notE, ifE, valF, vE, vV, kE, kV', callF, ar_nil, ar_cons, dn_fz, dn_ow, dn_bag, dn_scr, d_fz, d_ow, b_of, isiF, isD, blF, cmpF, chainF, orElse, lenS, bltF1, notT, andT, orT, tstF, l_list, l_tuple, l_all, l_listL, l_listT, l_tupL, l_tupT, l_abs, c_lt, c_le, c_gt, c_ge, c_eqI, c_neI, c_inS, c_niS, i_list, i_tuple, i_str, x_list, x_tuple, plainF, ixF, ixG, ixS, asgF, unpF, unF, setAll, List.length_cons, List.length_nil, List.map_cons, List.map_nil, if_true, if_false, List.cons_append, List.nil_append, List.append_nil, List.getElem?_cons_zero, List.getElem?_cons_succ, List.replicate, List.set_cons_zero, List.set_cons_succ, Option.bind_some, Option.map_some, Option.bind_none, Option.map_none, Bool.not_true, Bool.not_false, Bool.false_eq_true, Bool.or_false, Bool.or_true, Nat.reduceAdd, Nat.reduceSub, Nat.zero_add, decide_true, decide_false, Bool.true_and, Bool.false_and, Bool.and_true, Bool.and_false, negE, hm1, c, tupF, ds_fz, ds_nil]
    rfl
  · obtain ⟨env', h2⟩ := loop_rest2 (st := st) (hs := hs) (much := much) (SD := PyData.int 0 :: (sumsI 0 hs).map iD) (z3 := y3) hs [] [] 0 0 none none none rfl rfl rfl (.inl ⟨rfl, rfl⟩) h0 (by omega)
    rw [Int.sub_zero] at h2
    have c : decide (totI 0 hs < much) = false := decide_eq_false c
    refine run_rt (env1 := env') rfl ?_
    unfold m__law_rest
    refine (seq_nx (env1 := [some (.fz (.tuple (hs.map Hl.d))), some (.fz (.int much)), some (.ow (.list [.int 0])), none, none, none, none]) (st1 := st) rfl).trans ?_
    refine (seq_nx h).trans ?_
    refine (seq_nx (env1 := [some (.fz (.tuple (hs.map Hl.d))), some (.fz (.int much)), some (.ow (.list (PyData.int 0 :: (sumsI 0 hs).map iD))), y3, none, none, none]) (st1 := st) ?_).trans (seq_rt h2)
    generalize hSD : PyData.int 0 :: (sumsI 0 hs).map iD = SD at hm1
    simp only [runM, seqS, frzS, frzs, frz1, retF, retS, ifS, skipS, andE, orE, notE, ifE, valF, vE, vV, kE, kV', callF, ar_nil, ar_cons, dn_fz, dn_ow, dn_bag, dn_scr, d_fz, d_ow, b_of, isiF, isD, blF, cmpF, chainF, orElse, lenS, bltF1, notT, andT, orT, tstF, l_list, l_tuple, l_all, l_listL, l_listT, l_tupL, l_tupT, l_abs, c_lt, c_le, c_gt, c_ge, c_eqI, c_neI, c_inS, c_niS, i_list, i_tuple, i_str, x_list, x_tuple, plainF, ixF, ixG, ixS, asgF, unpF, unF, setAll, List.length_cons, List.length_nil, List.map_cons, List.map_nil, if_true, if_false, List.cons_append, List.nil_append, List.append_nil, List.getElem?_cons_zero, List.getElem?_cons_succ, List.replicate, List.set_cons_zero, List.set_cons_succ, Option.bind_some, Option.map_some, Option.bind_none, Option.map_none, Bool.not_true, Bool.not_false, Bool.false_eq_true, Bool.or_false, Bool.or_true, Nat.reduceAdd, Nat.reduceSub, Nat.zero_add, decide_true, decide_false, Bool.true_and, Bool.false_and, Bool.and_true, Bool.and_false, negE, hm1, c]
end K08

set_option maxHeartbeats 4000000
namespace K08
open PySem PySem.Spec PyProof.Rows L2 Iv
local instance nmZ_K08S : Iv.Nm := Iv.nmZ
variable {k : Nat} {st : BSt}
/-! ### what is made is good -/
theorem nl_ok {nl : List Str} (h : nl ∈ nls) : nl.Nodup ∧ ∀ z ∈ nl, PyData.strOk z = true := by
  unfold nls at h
  rcases List.mem_cons.mp h with rfl | h
  · exact ⟨by decide +kernel, by decide +kernel⟩
  · rw [List.mem_singleton.mp h]; exact ⟨by decide +kernel, by decide +kernel⟩
theorem GoodTs.tsOk {ts : List Tb} (g : GoodTs ts) : TsOk ts ∧ (nms ts).Nodup := by
  obtain ⟨nl, hnl, en⟩ := g.nm
  obtain ⟨nd, ok⟩ := nl_ok hnl
  refine ⟨⟨g.len, fun z hz => ok z (by rw [show nms ts = nl.take ts.length from en] at hz; exact List.mem_of_mem_take hz), fun t ht => ?_⟩, ?_⟩
  · obtain ⟨j, hj⟩ := List.getElem?_of_mem ht
    have gt := (g.tb j t hj).hs
    exact ⟨gt.len, fun x hx => (gt.to x hx).imp id fun h => List.mem_of_mem_drop h⟩
  · rw [show nms ts = nl.take ts.length from en]
    exact nd.sublist (List.take_sublist _ _)
/-! ### equal to itself -/
theorem c_neR {d : D} (h : SeqAt.shaped d = true) : cmpD .NotEq d d = some false := by
  have c := SeqAt.canLay_of_shaped h
  show (if SeqAt.shaped d && SeqAt.shaped d then some (!PyData.eqv d d) else none) = _
  rw [h]
  have : PyData.eqv d d = true := SeqAt.eqv_refl d c
  rw [this]; rfl
theorem layA : ∀ {ds : List D}, (∀ d ∈ ds, d.canLay0 = true) → PyData.canLayAll0 ds = true
  | [], _ => rfl
  | d :: ds, h => by
    show (d.canLay0 && PyData.canLayAll0 ds) = true
    rw [h d List.mem_cons_self, layA fun y hy => h y (List.mem_cons_of_mem _ hy)]; rfl
theorem depA {n : Nat} : ∀ {ds : List D}, (∀ d ∈ ds, d.depth ≤ n) → PyData.depthAll ds ≤ n
  | [], _ => Nat.zero_le _
  | d :: ds, h => by
    show max d.depth (PyData.depthAll ds) ≤ n
    have h1 := h d List.mem_cons_self
    have h2 := depA fun y hy => h y (List.mem_cons_of_mem _ hy)
    omega
theorem sh_l {ds : List D} (h : ∀ d ∈ ds, d.canLay0 = true ∧ d.depth ≤ 60) : SeqAt.shaped (.list ds) = true := by
  show (PyData.canLayAll0 ds && decide (PyData.depthAll ds + 1 ≤ 64)) = true
  have h2 := depA fun d hd => (h d hd).2
  rw [layA fun d hd => (h d hd).1, decide_eq_true (by omega)]; rfl
theorem sh_t {ds : List D} (h : ∀ d ∈ ds, d.canLay0 = true ∧ d.depth ≤ 60) : SeqAt.shaped (.tuple ds) = true := by
  show (PyData.canLayAll0 ds && decide (PyData.depthAll ds + 1 ≤ 64)) = true
  have h2 := depA fun d hd => (h d hd).2
  rw [layA fun d hd => (h d hd).1, decide_eq_true (by omega)]; rfl
theorem rest_lay : ∀ (hs : List Hl) (a b : Int), (restF hs a b).canLay0 = true ∧ (restF hs a b).depth ≤ 60
  | [], a, b => by
    unfold restF
    split
    · exact ⟨rfl, by show (1 : Nat) ≤ 60; omega⟩
    · exact ⟨by decide +kernel, by decide +kernel⟩
  | x :: hs, a, b => by
    unfold restF
    split
    · exact ⟨rfl, by show (1 : Nat) ≤ 60; omega⟩
    · split
      · exact ⟨rfl, by show (1 : Nat) ≤ 60; omega⟩
      · exact rest_lay hs _ _
theorem intD_iD (rs : List Nat) : rs.map intD = (rs.map fun n => ((n : Nat) : Int)).map iD := by rw [List.map_map]; rfl
end K08

set_option maxHeartbeats 4000000
namespace K08
open PySem PySem.Spec PyProof.Rows L2 Iv
local instance nmZ_K08R : Iv.Nm := Iv.nmZ
variable {k : Nat} {st : BSt}
/-! ### places -/
theorem nms_get {ts : List Tb} {j : Nat} {t : Tb} (h : ts[j]? = some t) : (nms ts)[j]? = some t.n := by rw [List.getElem?_map, h]; rfl
theorem f_tub_at {ts : List Tb} (T : TsOk ts) (nd : (nms ts).Nodup) {j : Nat} {t : Tb} (h : ts[j]? = some t) : FF (k + 2) "tub_at" [.fz (tsD ts), .fz (.str t.n)] st = some (.fz (.int (j : Nat)), st) := by
  have hl := T.len
  have hN := fun st => f_names_of (k := k) (st := st) ts (by omega)
  have hi := idx_get nd (nms_get h)
  have ok := T.ok _ (List.mem_of_getElem? (nms_get h))
  unfold FF at hN ⊢
  rw [e_tub_at]
  simp only [m_tub_at, runM, seqS, frzS, frzs, frz1, retF, retS, ifS, skipS, andE, orE, notE, ifE, valF, vE, vV, kE, kV', callF, ar_nil, ar_cons, dn_fz, dn_ow, dn_bag, dn_scr, d_fz, d_ow, b_of, isiF, isD, blF, cmpF, chainF, orElse, lenS, bltF1, notT, andT, orT, tstF, l_list, l_tuple, l_all, l_listL, l_listT, l_tupL, l_tupT, l_abs, c_lt, c_le, c_gt, c_ge, c_eqI, c_neI, c_inS, c_niS, i_list, i_tuple, i_str, x_list, x_tuple, plainF, ixF, ixG, ixS, asgF, unpF, unF, setAll, List.length_cons, List.length_nil, List.map_cons, List.map_nil, if_true, if_false, List.cons_append, List.nil_append, List.append_nil, List.getElem?_cons_zero, List.getElem?_cons_succ, List.replicate, List.set_cons_zero, List.set_cons_succ, Option.bind_some, Option.map_some, Option.bind_none, Option.map_none, Bool.not_true, Bool.not_false, Bool.false_eq_true, Bool.or_false, Bool.or_true, Nat.reduceAdd, Nat.reduceSub, Nat.zero_add, decide_true, decide_false, Bool.true_and, Bool.false_and, Bool.and_true, Bool.and_false, hN, idxF, sh_strs T.ok, sh_str ok, idxD_strs, hi]
theorem set_cut {α : Type} (l : List α) (j : Nat) (x : α) (h : j < l.length) : l.take j ++ [x] ++ l.drop (j + 1) = l.set j x := by
  rw [List.set_eq_take_append_cons_drop, if_pos h]; simp
theorem f_rain_with {ts : List Tb} (T : TsOk ts) (nd : (nms ts).Nodup) (cs : List Int) (hc : cs.length = ts.length) {j : Nat} {t : Tb} (h : ts[j]? = some t) (m : Int) : FF (k + 3) "rain_with" [.fz (tsD ts), .fz (.tuple (cs.map iD)), .fz (.str t.n), .fz (.int m)] st = some (.fz (.tuple ((cs.set j m).map iD)), st) := by
  have hl := T.len
  have hA := fun st => f_tub_at (k := k) (st := st) T nd h
  have hj : j < ts.length := (List.getElem?_eq_some_iff.mp h).1
  unfold FF at hA ⊢
  rw [e_rain_with]
  have c1 : cutL (cs.map iD) none (some (j : Int)) = (cs.map iD).take j := cut_take _ _
  have c2 : cutL (cs.map iD) (some ((j : Int) + 1)) none = (cs.map iD).drop (j + 1) := cut_drop _ (j + 1)
  have e : (cs.map iD).take j ++ [PyData.int m] ++ (cs.map iD).drop (j + 1) = (cs.set j m).map iD := by
    rw [set_cut _ _ _ (by rw [List.length_map]; omega), List.map_set]; rfl
  have lm : (cs.map iD).length = ts.length := by rw [List.length_map]; exact hc
  generalize cs.map iD = CD at c1 c2 e lm ⊢
  have a1 := b_addT (xs := CD.take j) (ys := [PyData.int m]) (by rw [List.length_take]; simp; omega)
  have a2 := b_addT (xs := CD.take j ++ [PyData.int m]) (ys := CD.drop (j + 1)) (by rw [List.length_append, List.length_take, List.length_drop]; simp; omega)
  rw [e] at a2
  simp only [m_rain_with, runM, seqS, frzS, frzs, frz1, retF, retS, ifS, skipS, andE, orE, notE, ifE, valF, vE, vV, kE, kV', callF, ar_nil, ar_cons, dn_fz, dn_ow, dn_bag, dn_scr, d_fz, d_ow, b_of, isiF, isD, blF, cmpF, chainF, orElse, lenS, bltF1, notT, andT, orT, tstF, l_list, l_tuple, l_all, l_listL, l_listT, l_tupL, l_tupT, l_abs, c_lt, c_le, c_gt, c_ge, c_eqI, c_neI, c_inS, c_niS, i_list, i_tuple, i_str, x_list, x_tuple, plainF, ixF, ixG, ixS, asgF, unpF, unF, setAll, List.length_cons, List.length_nil, List.map_cons, List.map_nil, if_true, if_false, List.cons_append, List.nil_append, List.append_nil, List.getElem?_cons_zero, List.getElem?_cons_succ, List.replicate, List.set_cons_zero, List.set_cons_succ, Option.bind_some, Option.map_some, Option.bind_none, Option.map_none, Bool.not_true, Bool.not_false, Bool.false_eq_true, Bool.or_false, Bool.or_true, Nat.reduceAdd, Nat.reduceSub, Nat.zero_add, decide_true, decide_false, Bool.true_and, Bool.false_and, Bool.and_true, Bool.and_false, hA, slF, partF, y_tuple, c1, c2, binF, b_add, tupF, ds_fz, ds_nil, lenOk_of, Nat.reduceLeDiff, a1, a2]
/-! ### where a tub stands -/
theorem rest_cases : ∀ (hs : List Hl) (a b : Int), restF hs a b = .tuple [.str "rises"] ∨ ∃ c x, restF hs a b = .tuple [.int c, x] ∧ (x = .none ∨ ∃ e : Int, x = .int e)
  | [], a, b => by
    unfold restF
    split
    · exact .inr ⟨_, _, rfl, .inl rfl⟩
    · exact .inl rfl
  | x :: hs, a, b => by
    unfold restF
    split
    · exact .inr ⟨_, _, rfl, .inr ⟨_, rfl⟩⟩
    · split
      · exact .inr ⟨_, _, rfl, .inr ⟨_, rfl⟩⟩
      · exact rest_cases hs _ _
def upB : D → Int → Bool
  | .tuple (.int a :: _), h => decide (h ≤ a)
  | _, _ => true
theorem sh_rises : SeqAt.shaped (.tuple [.str "rises"]) = true := by decide +kernel
theorem c_eqR1 : cmpD .Eq (.tuple [.str "rises"]) (.tuple [.str "rises"]) = some true := by
  show (if SeqAt.shaped (.tuple [.str "rises"]) && SeqAt.shaped (.tuple [.str "rises"]) then some (PyData.eqv _ _) else none) = _
  rw [sh_rises]; rfl
theorem c_eqR2 {c : Int} {x : D} (h : x = .none ∨ ∃ e : Int, x = .int e) : cmpD .Eq (.tuple [.int c, x]) (.tuple [.str "rises"]) = some false := by
  show (if SeqAt.shaped (.tuple [.int c, x]) && SeqAt.shaped (.tuple [.str "rises"]) then some (PyData.eqv _ _) else none) = _
  have : SeqAt.shaped (.tuple [.int c, x]) = true := by
    rcases h with rfl | ⟨e, rfl⟩ <;> rfl
  rw [sh_rises, this]; rfl
def fl (ts : List Tb) (cs : List Int) : List Int := flowC (nms ts) 0 ts cs
def standB (ts : List Tb) (cs : List Int) (t : Tb) (j : Nat) (h : Int) : Bool := upB (restF t.hs 0 ((fl ts cs).getD j 0)) h
theorem fl_get {ts : List Tb} {cs : List Int} (hc : cs.length = ts.length) {j : Nat} {t : Tb} (h : ts[j]? = some t) : (fl ts cs)[j]? = some ((fl ts cs).getD j 0) := by
  have hj : j < ts.length := (List.getElem?_eq_some_iff.mp h).1
  have : j < (fl ts cs).length := by unfold fl; rw [flow_len]; omega
  rw [List.getD_eq_getElem?_getD, List.getElem?_eq_getElem this]; rfl
theorem f_comes_up_to {ts : List Tb} (T : TsOk ts) (nd : (nms ts).Nodup) (cs : List Int) (hc : cs.length = ts.length) {j : Nat} {t : Tb} (ht : ts[j]? = some t) (h : Int) : FF (k + 7) "comes_up_to" [.fz (tsD ts), .fz (.tuple (cs.map iD)), .fz (.str t.n), .fz (.int h)] st = some (.fz (.bool (standB ts cs t j h)), st) := by
  have hA := fun st => f_tub_at (k := k + 4) (st := st) T nd ht
  have hR := fun st => f_rests (k := k) (st := st) T cs hc
  have hx : atI ((ts.zip (flowC (nms ts) 0 ts cs)).map fun p => restF p.1.hs 0 p.2) ((j : Nat) : Int) = some (restF t.hs 0 ((fl ts cs).getD j 0)) := atI_nat (by
    rw [List.getElem?_map, show (ts.zip (flowC (nms ts) 0 ts cs))[j]? = some (t, (fl ts cs).getD j 0) from List.getElem?_zip_eq_some.mpr ⟨ht, fl_get hc ht⟩]; rfl)
  unfold FF at hA hR ⊢
  rw [e_comes_up_to]
  unfold standB
  have hy : ∀ a b : D, atI [a, b] 0 = some a := fun _ _ => rfl
  rcases rest_cases t.hs 0 ((fl ts cs).getD j 0) with e | ⟨c, x, e, he⟩
  · rw [e] at hx ⊢
    simp only [m_comes_up_to, runM, seqS, frzS, frzs, frz1, retF, retS, ifS, skipS, andE, orE, notE, ifE, valF, vE, vV, kE, kV', callF, ar_nil, ar_cons, dn_fz, dn_ow, dn_bag, dn_scr, d_fz, d_ow, b_of, isiF, isD, blF, cmpF, chainF, orElse, lenS, bltF1, notT, andT, orT, tstF, l_list, l_tuple, l_all, l_listL, l_listT, l_tupL, l_tupT, l_abs, c_lt, c_le, c_gt, c_ge, c_eqI, c_neI, c_inS, c_niS, i_list, i_tuple, i_str, x_list, x_tuple, plainF, ixF, ixG, ixS, asgF, unpF, unF, setAll, List.length_cons, List.length_nil, List.map_cons, List.map_nil, if_true, if_false, List.cons_append, List.nil_append, List.append_nil, List.getElem?_cons_zero, List.getElem?_cons_succ, List.replicate, List.set_cons_zero, List.set_cons_succ, Option.bind_some, Option.map_some, Option.bind_none, Option.map_none, Bool.not_true, Bool.not_false, Bool.false_eq_true, Bool.or_false, Bool.or_true, Nat.reduceAdd, Nat.reduceSub, Nat.zero_add, decide_true, decide_false, Bool.true_and, Bool.false_and, Bool.and_true, Bool.and_false, hA, hR, hx, c_eqR1, upB]
  · rw [e] at hx ⊢
    simp only [m_comes_up_to, runM, seqS, frzS, frzs, frz1, retF, retS, ifS, skipS, andE, orE, notE, ifE, valF, vE, vV, kE, kV', callF, ar_nil, ar_cons, dn_fz, dn_ow, dn_bag, dn_scr, d_fz, d_ow, b_of, isiF, isD, blF, cmpF, chainF, orElse, lenS, bltF1, notT, andT, orT, tstF, l_list, l_tuple, l_all, l_listL, l_listT, l_tupL, l_tupT, l_abs, c_lt, c_le, c_gt, c_ge, c_eqI, c_neI, c_inS, c_niS, i_list, i_tuple, i_str, x_list, x_tuple, plainF, ixF, ixG, ixS, asgF, unpF, unF, setAll, List.length_cons, List.length_nil, List.map_cons, List.map_nil, if_true, if_false, List.cons_append, List.nil_append, List.append_nil, List.getElem?_cons_zero, List.getElem?_cons_succ, List.replicate, List.set_cons_zero, List.set_cons_succ, Option.bind_some, Option.map_some, Option.bind_none, Option.map_none, Bool.not_true, Bool.not_false, Bool.false_eq_true, Bool.or_false, Bool.or_true, Nat.reduceAdd, Nat.reduceSub, Nat.zero_add, decide_true, decide_false, Bool.true_and, Bool.false_and, Bool.and_true, Bool.and_false, hA, hR, hx, c_eqR2 he, upB, hy]
theorem f_law_stands_so {ts : List Tb} (T : TsOk ts) (nd : (nms ts).Nodup) (cs : List Int) (hc : cs.length = ts.length) (hn : ∀ c ∈ cs, 0 ≤ c) {j : Nat} {t : Tb} (ht : ts[j]? = some t) (h : Int) : FF (k + 2) "_law_stands_so" [.fz (tsD ts), .fz (.tuple (cs.map iD)), .fz (.int (j : Nat)), .fz (.int h)] st = some (.fz (.bool (standB ts cs t j h)), st) := by
  have hE := fun st => f_law_ends (k := k) (st := st) T nd cs hc
  have hnn : 0 ≤ (fl ts cs).getD j 0 := getD_nn (flow_nn ts 0 cs hn) j
  have hL := fun st => f_law_rest (k := k) (st := st) t.hs ((fl ts cs).getD j 0) hnn (T.hs t (List.mem_of_getElem? ht)).1
  have hx : atI ((flowC (nms ts) 0 ts cs).map iD) ((j : Nat) : Int) = some (.int ((fl ts cs).getD j 0)) := atI_nat (by
    have := fl_get hc ht
    unfold fl at this ⊢
    rw [List.getElem?_map, this]; rfl)
  have hz : atI (ts.map Tb.d) ((j : Nat) : Int) = some t.d := atI_nat (by rw [List.getElem?_map, ht]; rfl)
  generalize letAll (nms ts) 0 ts cs [] = LD at hE
  unfold FF at hE hL ⊢
  rw [e__law_stands_so]
  unfold standB
  have hy : ∀ a b : D, atI [a, b] 0 = some a := fun _ _ => rfl
  have hy3 : ∀ a b c : D, atI [a, b, c] 2 = some c := fun _ _ _ => rfl
  rcases rest_cases t.hs 0 ((fl ts cs).getD j 0) with e | ⟨c, x, e, he⟩
  · rw [e] at hL ⊢
    simp only [m__law_stands_so, runM, seqS, frzS, frzs, frz1, retF, retS, ifS, skipS, andE, orE, notE, ifE, valF, vE, vV, kE, kV', callF, ar_nil, ar_cons, dn_fz, dn_ow, dn_bag, dn_scr, d_fz, d_ow, b_of, isiF, isD, blF, cmpF, chainF, orElse, lenS, bltF1, notT, andT, orT, tstF, l_list, l_tuple, l_all, l_listL, l_listT, l_tupL, l_tupT, l_abs, c_lt, c_le, c_gt, c_ge, c_eqI, c_neI, c_inS, c_niS, i_list, i_tuple, i_str, x_list, x_tuple, plainF, ixF, ixG, ixS, asgF, unpF, unF, setAll, List.length_cons, List.length_nil, List.map_cons, List.map_nil, if_true, if_false, List.cons_append, List.nil_append, List.append_nil, List.getElem?_cons_zero, List.getElem?_cons_succ, List.replicate, List.set_cons_zero, List.set_cons_succ, Option.bind_some, Option.map_some, Option.bind_none, Option.map_none, Bool.not_true, Bool.not_false, Bool.false_eq_true, Bool.or_false, Bool.or_true, Nat.reduceAdd, Nat.reduceSub, Nat.zero_add, decide_true, decide_false, Bool.true_and, Bool.false_and, Bool.and_true, Bool.and_false, tsD, hE, hy, hx, hz, Tb.d, hy3, hL, tupF, ds_fz, ds_nil, lenOk_of, Nat.reduceLeDiff, c_eqR1, upB]
  · rw [e] at hL ⊢
    simp only [m__law_stands_so, runM, seqS, frzS, frzs, frz1, retF, retS, ifS, skipS, andE, orE, notE, ifE, valF, vE, vV, kE, kV', callF, ar_nil, ar_cons, dn_fz, dn_ow, dn_bag, dn_scr, d_fz, d_ow, b_of, isiF, isD, blF, cmpF, chainF, orElse, lenS, bltF1, notT, andT, orT, tstF, l_list, l_tuple, l_all, l_listL, l_listT, l_tupL, l_tupT, l_abs, c_lt, c_le, c_gt, c_ge, c_eqI, c_neI, c_inS, c_niS, i_list, i_tuple, i_str, x_list, x_tuple, plainF, ixF, ixG, ixS, asgF, unpF, unF, setAll, List.length_cons, List.length_nil, List.map_cons, List.map_nil, if_true, if_false, List.cons_append, List.nil_append, List.append_nil, List.getElem?_cons_zero, List.getElem?_cons_succ, List.replicate, List.set_cons_zero, List.set_cons_succ, Option.bind_some, Option.map_some, Option.bind_none, Option.map_none, Bool.not_true, Bool.not_false, Bool.false_eq_true, Bool.or_false, Bool.or_true, Nat.reduceAdd, Nat.reduceSub, Nat.zero_add, decide_true, decide_false, Bool.true_and, Bool.false_and, Bool.and_true, Bool.and_false, tsD, hE, hy, hx, hz, Tb.d, hy3, hL, tupF, ds_fz, ds_nil, lenOk_of, Nat.reduceLeDiff, c_eqR2 he, upB]
end K08

set_option maxHeartbeats 4000000
namespace K08
open PySem PySem.Spec PyProof.Rows L2 Iv
local instance nmZ_K08T : Iv.Nm := Iv.nmZ
variable {k : Nat} {st : BSt}
/-! ### the least rain, by halving -/
noncomputable def condHalf : TF := cmpF .Lt (vV 5) (vV 6)
noncomputable def bodyHalf (F : FT) : SF := (seqS (frzS [] (asgF 7 (binF .FloorDiv (valF (binF .Add (vV 5) (vV 6))) (valF (kE (.int 2))))))
    (seqS (frzS [0, 0, 1, 2, 7, 3, 4] (ifS (tstF (valF (callF F "comes_up_to" (argsF [(vE 0), (callF F "rain_with" (argsF [(vE 0), (vE 1), (vE 2), (vE 7)])), (vE 3), (vE 4)])))) (seqS (frzS [7] (asgF 6 (vE 7)))
    skipS) (seqS (frzS [] (asgF 5 (binF .Add (vV 7) (valF (kE (.int 1))))))
    skipS)))
    skipS))
theorem div2 : divOk 2 = true := by decide +kernel
theorem d_div {i j : Int} (h : divOk j = true) : binD .FloorDiv (.int i) (.int j) = some (.fz (.int (i / j))) := by
  show (if divOk j then _ else none) = _
  rw [h]; rfl
structure Ask (ts : List Tb) (cs : List Int) (one other : Nat) (t1 t2 : Tb) : Prop where
  T : TsOk ts
  nd : (nms ts).Nodup
  len : cs.length = ts.length
  h1 : ts[one]? = some t1
  h2 : ts[other]? = some t2
def askB (ts : List Tb) (cs : List Int) (one other : Nat) (t2 : Tb) (h m : Int) : Bool := standB ts (cs.set one m) t2 other h
theorem asked {ts : List Tb} {cs : List Int} {one other : Nat} {t1 t2 : Tb} (A : Ask ts cs one other t1 t2) (h m : Int) :
    FF (k + 7) "comes_up_to" [.fz (tsD ts), .fz (.tuple ((cs.set one m).map iD)), .fz (.str t2.n), .fz (.int h)] st = some (.fz (.bool (askB ts cs one other t2 h m)), st) :=
  f_comes_up_to A.T A.nd (cs.set one m) (by rw [List.length_set]; exact A.len) A.h2 h
theorem loop_half {ts : List Tb} {cs : List Int} {one other : Nat} {t1 t2 : Tb} (A : Ask ts cs one other t1 t2) (h : Int) : ∀ (n : Nat) (least enough : Int), 0 ≤ least → least ≤ enough → enough - least < (n : Int) → askB ts cs one other t2 h enough = true → (least = 0 ∨ askB ts cs one other t2 h (least - 1) = false) →
    ∃ l : Int, (0 ≤ l ∧ l ≤ enough ∧ askB ts cs one other t2 h l = true ∧ (l = 0 ∨ askB ts cs one other t2 h (l - 1) = false)) ∧ ∀ (st : BSt) (z7 : Option R), ∃ (y6 y7 : Option R), whileN condHalf (bodyHalf (FF (k + 7))) n [some (.fz (tsD ts)), some (.fz (.tuple (cs.map iD))), some (.fz (.str t1.n)), some (.fz (.str t2.n)), some (.fz (.int h)), some (.fz (.int least)), some (.fz (.int enough)), z7] st = some (.nx, [some (.fz (tsD ts)), some (.fz (.tuple (cs.map iD))), some (.fz (.str t1.n)), some (.fz (.str t2.n)), some (.fz (.int h)), some (.fz (.int l)), y6, y7], st)
  | 0, least, enough, h0, h1, h2, h3, h4 => by exfalso; omega
  | n + 1, least, enough, h0, h1, h2, h3, h4 => by
    by_cases c : least < enough
    · have hc : ∀ (st : BSt) (z7 : Option R), condHalf [some (.fz (tsD ts)), some (.fz (.tuple (cs.map iD))), some (.fz (.str t1.n)), some (.fz (.str t2.n)), some (.fz (.int h)), some (.fz (.int least)), some (.fz (.int enough)), z7] st = some (true, st) := fun st z7 => by
        have c : decide (least < enough) = true := decide_eq_true c
        unfold condHalf
        simp only [runM, seqS, frzS, frzs, frz1, retF, retS, ifS, skipS, andE, orE, notE, ifE, valF, vE, vV, kE, kV', callF, ar_nil, ar_cons, dn_fz, dn_ow, dn_bag, dn_scr, d_fz, d_ow, b_of, isiF, isD, blF, cmpF, chainF, orElse, lenS, bltF1, notT, andT, orT, tstF, l_list, l_tuple, l_all, l_listL, l_listT, l_tupL, l_tupT, l_abs, c_lt, c_le, c_gt, c_ge, c_eqI, c_neI, c_inS, c_niS, i_list, i_tuple, i_str, x_list, x_tuple, plainF, ixF, ixG, ixS, asgF, unpF, unF, setAll, List.length_cons, List.length_nil, List.map_cons, List.map_nil, if_true, if_false, List.cons_append, List.nil_append, List.append_nil, List.getElem?_cons_zero, List.getElem?_cons_succ, List.replicate, List.set_cons_zero, List.set_cons_succ, Option.bind_some, Option.map_some, Option.bind_none, Option.map_none, Bool.not_true, Bool.not_false, Bool.false_eq_true, Bool.or_false, Bool.or_true, Nat.reduceAdd, Nat.reduceSub, Nat.zero_add, decide_true, decide_false, Bool.true_and, Bool.false_and, Bool.and_true, Bool.and_false, c]
      have hA := fun st => asked (k := k) (st := st) A h ((least + enough) / 2)
      have hW := fun st => f_rain_with (k := k + 4) (st := st) A.T A.nd cs A.len A.h1 ((least + enough) / 2)
      generalize hm : (least + enough) / 2 = m at hA hW
      have m1 : least ≤ m := by omega
      have m2 : m < enough := by omega
      have s1 : ∀ (st : BSt) (z7 : Option R), frzS [] (asgF 7 (binF .FloorDiv (valF (binF .Add (vV 5) (vV 6))) (valF (kE (.int 2))))) [some (.fz (tsD ts)), some (.fz (.tuple (cs.map iD))), some (.fz (.str t1.n)), some (.fz (.str t2.n)), some (.fz (.int h)), some (.fz (.int least)), some (.fz (.int enough)), z7] st = some (.nx, [some (.fz (tsD ts)), some (.fz (.tuple (cs.map iD))), some (.fz (.str t1.n)), some (.fz (.str t2.n)), some (.fz (.int h)), some (.fz (.int least)), some (.fz (.int enough)), some (.fz (.int m))], st) := fun st z7 => by
        have d := d_div (i := least + enough) div2
        rw [hm] at d
        simp only [runM, seqS, frzS, frzs, frz1, retF, retS, ifS, skipS, andE, orE, notE, ifE, valF, vE, vV, kE, kV', callF, ar_nil, ar_cons, dn_fz, dn_ow, dn_bag, dn_scr, d_fz, d_ow, b_of, isiF, isD, blF, cmpF, chainF, orElse, lenS, bltF1, notT, andT, orT, tstF, l_list, l_tuple, l_all, l_listL, l_listT, l_tupL, l_tupT, l_abs, c_lt, c_le, c_gt, c_ge, c_eqI, c_neI, c_inS, c_niS, i_list, i_tuple, i_str, x_list, x_tuple, plainF, ixF, ixG, ixS, asgF, unpF, unF, setAll, List.length_cons, List.length_nil, List.map_cons, List.map_nil, if_true, if_false, List.cons_append, List.nil_append, List.append_nil, List.getElem?_cons_zero, List.getElem?_cons_succ, List.replicate, List.set_cons_zero, List.set_cons_succ, Option.bind_some, Option.map_some, Option.bind_none, Option.map_none, Bool.not_true, Bool.not_false, Bool.false_eq_true, Bool.or_false, Bool.or_true, Nat.reduceAdd, Nat.reduceSub, Nat.zero_add, decide_true, decide_false, Bool.true_and, Bool.false_and, Bool.and_true, Bool.and_false, binF, b_add, d]
      cases hq : askB ts cs one other t2 h m with
      | true =>
        rw [hq] at hA
        obtain ⟨l, ⟨g1, g2, g3, g4⟩, e⟩ := loop_half A h n least m h0 m1 (by omega) hq h4
        refine ⟨l, ⟨g1, by omega, g3, g4⟩, fun st z7 => ?_⟩
        obtain ⟨y6, y7, e⟩ := e st (some (.fz (.int m)))
        refine ⟨y6, y7, ?_⟩
        have hb : bodyHalf (FF (k + 7)) [some (.fz (tsD ts)), some (.fz (.tuple (cs.map iD))), some (.fz (.str t1.n)), some (.fz (.str t2.n)), some (.fz (.int h)), some (.fz (.int least)), some (.fz (.int enough)), z7] st = some (.nx, [some (.fz (tsD ts)), some (.fz (.tuple (cs.map iD))), some (.fz (.str t1.n)), some (.fz (.str t2.n)), some (.fz (.int h)), some (.fz (.int least)), some (.fz (.int m)), some (.fz (.int m))], st) := by
          unfold bodyHalf
          refine (seq_nx (s1 st z7)).trans ?_
          simp only [runM, seqS, frzS, frzs, frz1, retF, retS, ifS, skipS, andE, orE, notE, ifE, valF, vE, vV, kE, kV', callF, ar_nil, ar_cons, dn_fz, dn_ow, dn_bag, dn_scr, d_fz, d_ow, b_of, isiF, isD, blF, cmpF, chainF, orElse, lenS, bltF1, notT, andT, orT, tstF, l_list, l_tuple, l_all, l_listL, l_listT, l_tupL, l_tupT, l_abs, c_lt, c_le, c_gt, c_ge, c_eqI, c_neI, c_inS, c_niS, i_list, i_tuple, i_str, x_list, x_tuple, plainF, ixF, ixG, ixS, asgF, unpF, unF, setAll, List.length_cons, List.length_nil, List.map_cons, List.map_nil, if_true, if_false, List.cons_append, List.nil_append, List.append_nil, List.getElem?_cons_zero, List.getElem?_cons_succ, List.replicate, List.set_cons_zero, List.set_cons_succ, Option.bind_some, Option.map_some, Option.bind_none, Option.map_none, Bool.not_true, Bool.not_false, Bool.false_eq_true, Bool.or_false, Bool.or_true, Nat.reduceAdd, Nat.reduceSub, Nat.zero_add, decide_true, decide_false, Bool.true_and, Bool.false_and, Bool.and_true, Bool.and_false, hW, hA]
        unfold whileN
        simp only [hc, Option.bind_some, if_true, hb]
        exact e
      | false =>
        rw [hq] at hA
        obtain ⟨l, ⟨g1, g2, g3, g4⟩, e⟩ := loop_half A h n (m + 1) enough (by omega) (by omega) (by omega) h3 (.inr (by rw [Int.add_sub_cancel]; exact hq))
        refine ⟨l, ⟨g1, g2, g3, g4⟩, fun st z7 => ?_⟩
        obtain ⟨y6, y7, e⟩ := e st (some (.fz (.int m)))
        refine ⟨y6, y7, ?_⟩
        have hb : bodyHalf (FF (k + 7)) [some (.fz (tsD ts)), some (.fz (.tuple (cs.map iD))), some (.fz (.str t1.n)), some (.fz (.str t2.n)), some (.fz (.int h)), some (.fz (.int least)), some (.fz (.int enough)), z7] st = some (.nx, [some (.fz (tsD ts)), some (.fz (.tuple (cs.map iD))), some (.fz (.str t1.n)), some (.fz (.str t2.n)), some (.fz (.int h)), some (.fz (.int (m + 1))), some (.fz (.int enough)), some (.fz (.int m))], st) := by
          unfold bodyHalf
          refine (seq_nx (s1 st z7)).trans ?_
          simp only [runM, seqS, frzS, frzs, frz1, retF, retS, ifS, skipS, andE, orE, notE, ifE, valF, vE, vV, kE, kV', callF, ar_nil, ar_cons, dn_fz, dn_ow, dn_bag, dn_scr, d_fz, d_ow, b_of, isiF, isD, blF, cmpF, chainF, orElse, lenS, bltF1, notT, andT, orT, tstF, l_list, l_tuple, l_all, l_listL, l_listT, l_tupL, l_tupT, l_abs, c_lt, c_le, c_gt, c_ge, c_eqI, c_neI, c_inS, c_niS, i_list, i_tuple, i_str, x_list, x_tuple, plainF, ixF, ixG, ixS, asgF, unpF, unF, setAll, List.length_cons, List.length_nil, List.map_cons, List.map_nil, if_true, if_false, List.cons_append, List.nil_append, List.append_nil, List.getElem?_cons_zero, List.getElem?_cons_succ, List.replicate, List.set_cons_zero, List.set_cons_succ, Option.bind_some, Option.map_some, Option.bind_none, Option.map_none, Bool.not_true, Bool.not_false, Bool.false_eq_true, Bool.or_false, Bool.or_true, Nat.reduceAdd, Nat.reduceSub, Nat.zero_add, decide_true, decide_false, Bool.true_and, Bool.false_and, Bool.and_true, Bool.and_false, hW, hA, binF, b_add]
        unfold whileN
        simp only [hc, Option.bind_some, if_true, hb]
        exact e
    · have e : least = enough := by omega
      subst e
      refine ⟨least, ⟨h0, Int.le_refl _, h3, h4⟩, fun st z7 => ⟨some (.fz (.int least)), z7, ?_⟩⟩
      have hc : condHalf [some (.fz (tsD ts)), some (.fz (.tuple (cs.map iD))), some (.fz (.str t1.n)), some (.fz (.str t2.n)), some (.fz (.int h)), some (.fz (.int least)), some (.fz (.int least)), z7] st = some (false, st) := by
        have c : decide (least < least) = false := decide_eq_false c
        unfold condHalf
        simp only [runM, seqS, frzS, frzs, frz1, retF, retS, ifS, skipS, andE, orE, notE, ifE, valF, vE, vV, kE, kV', callF, ar_nil, ar_cons, dn_fz, dn_ow, dn_bag, dn_scr, d_fz, d_ow, b_of, isiF, isD, blF, cmpF, chainF, orElse, lenS, bltF1, notT, andT, orT, tstF, l_list, l_tuple, l_all, l_listL, l_listT, l_tupL, l_tupT, l_abs, c_lt, c_le, c_gt, c_ge, c_eqI, c_neI, c_inS, c_niS, i_list, i_tuple, i_str, x_list, x_tuple, plainF, ixF, ixG, ixS, asgF, unpF, unF, setAll, List.length_cons, List.length_nil, List.map_cons, List.map_nil, if_true, if_false, List.cons_append, List.nil_append, List.append_nil, List.getElem?_cons_zero, List.getElem?_cons_succ, List.replicate, List.set_cons_zero, List.set_cons_succ, Option.bind_some, Option.map_some, Option.bind_none, Option.map_none, Bool.not_true, Bool.not_false, Bool.false_eq_true, Bool.or_false, Bool.or_true, Nat.reduceAdd, Nat.reduceSub, Nat.zero_add, decide_true, decide_false, Bool.true_and, Bool.false_and, Bool.and_true, Bool.and_false, c]
      unfold whileN
      simp only [hc, Option.bind_some, Bool.false_eq_true, if_false]
def LeastOk (ts : List Tb) (cs : List Int) (one other : Nat) (t2 : Tb) (h : Int) (d : D) : Prop := (d = .none ∧ askB ts cs one other t2 h 100000 = false) ∨ ∃ l : Int, d = .int l ∧ 0 ≤ l ∧ l ≤ 100000 ∧ askB ts cs one other t2 h l = true ∧ (l = 0 ∨ askB ts cs one other t2 h (l - 1) = false)
/-- what is told, and that it is right -/
theorem f_least_rain {ts : List Tb} {cs : List Int} {one other : Nat} {t1 t2 : Tb} (A : Ask ts cs one other t1 t2) (h : Int) :
    ∃ d, LeastOk ts cs one other t2 h d ∧ ∀ st, FF (k + 8) "least_rain" [.fz (tsD ts), .fz (.tuple (cs.map iD)), .fz (.str t1.n), .fz (.str t2.n), .fz (.int h)] st = some (.fz d, st) := by
  have hA := fun st => asked (k := k) (st := st) A h 100000
  have hW := fun st => f_rain_with (k := k + 4) (st := st) A.T A.nd cs A.len A.h1 100000
  cases hq : askB ts cs one other t2 h 100000 with
  | false =>
    refine ⟨.none, .inl ⟨rfl, hq⟩, fun st => ?_⟩
    rw [hq] at hA
    unfold FF at hA hW ⊢
    rw [e_least_rain]
    refine run_rt (env1 := [some (.fz (tsD ts)), some (.fz (.tuple (cs.map iD))), some (.fz (.str t1.n)), some (.fz (.str t2.n)), some (.fz (.int h)), none, none, none]) rfl ?_
    unfold m_least_rain
    refine seq_rt ?_
    show frzS _ _ [some (.fz (tsD ts)), some (.fz (.tuple (cs.map iD))), some (.fz (.str t1.n)), some (.fz (.str t2.n)), some (.fz (.int h)), none, none, none] st = _
    simp only [runM, seqS, frzS, frzs, frz1, retF, retS, ifS, skipS, andE, orE, notE, ifE, valF, vE, vV, kE, kV', callF, ar_nil, ar_cons, dn_fz, dn_ow, dn_bag, dn_scr, d_fz, d_ow, b_of, isiF, isD, blF, cmpF, chainF, orElse, lenS, bltF1, notT, andT, orT, tstF, l_list, l_tuple, l_all, l_listL, l_listT, l_tupL, l_tupT, l_abs, c_lt, c_le, c_gt, c_ge, c_eqI, c_neI, c_inS, c_niS, i_list, i_tuple, i_str, x_list, x_tuple, plainF, ixF, ixG, ixS, asgF, unpF, unF, setAll, List.length_cons, List.length_nil, List.map_cons, List.map_nil, if_true, if_false, List.cons_append, List.nil_append, List.append_nil, List.getElem?_cons_zero, List.getElem?_cons_succ, List.replicate, List.set_cons_zero, List.set_cons_succ, Option.bind_some, Option.map_some, Option.bind_none, Option.map_none, Bool.not_true, Bool.not_false, Bool.false_eq_true, Bool.or_false, Bool.or_true, Nat.reduceAdd, Nat.reduceSub, Nat.zero_add, decide_true, decide_false, Bool.true_and, Bool.false_and, Bool.and_true, Bool.and_false, hW, hA]
  | true =>
    obtain ⟨l, ⟨g1, g2, g3, g4⟩, e⟩ := loop_half (k := k) A h 100001 0 100000 (by omega) (by omega) (by omega) hq (.inl rfl)
    refine ⟨.int l, .inr ⟨l, rfl, g1, g2, g3, g4⟩, fun st => ?_⟩
    obtain ⟨y6, y7, e⟩ := e st none
    rw [hq] at hA
    unfold FF at hA hW e ⊢
    rw [e_least_rain]
    refine run_rt (env1 := [some (.fz (tsD ts)), some (.fz (.tuple (cs.map iD))), some (.fz (.str t1.n)), some (.fz (.str t2.n)), some (.fz (.int h)), some (.fz (.int l)), y6, y7]) rfl ?_
    unfold m_least_rain
    refine (seq_nx (env1 := [some (.fz (tsD ts)), some (.fz (.tuple (cs.map iD))), some (.fz (.str t1.n)), some (.fz (.str t2.n)), some (.fz (.int h)), none, none, none]) (st1 := st) ?_).trans ?_
    · show frzS _ _ [some (.fz (tsD ts)), some (.fz (.tuple (cs.map iD))), some (.fz (.str t1.n)), some (.fz (.str t2.n)), some (.fz (.int h)), none, none, none] st = _
      simp only [runM, seqS, frzS, frzs, frz1, retF, retS, ifS, skipS, andE, orE, notE, ifE, valF, vE, vV, kE, kV', callF, ar_nil, ar_cons, dn_fz, dn_ow, dn_bag, dn_scr, d_fz, d_ow, b_of, isiF, isD, blF, cmpF, chainF, orElse, lenS, bltF1, notT, andT, orT, tstF, l_list, l_tuple, l_all, l_listL, l_listT, l_tupL, l_tupT, l_abs, c_lt, c_le, c_gt, c_ge, c_eqI, c_neI, c_inS, c_niS, i_list, i_tuple, i_str, x_list, x_tuple, plainF, ixF, ixG, ixS, asgF, unpF, unF, setAll, List.length_cons, List.length_nil, List.map_cons, List.map_nil, if_true, if_false, List.cons_append, List.nil_append, List.append_nil, List.getElem?_cons_zero, List.getElem?_cons_succ, List.replicate, List.set_cons_zero, List.set_cons_succ, Option.bind_some, Option.map_some, Option.bind_none, Option.map_none, Bool.not_true, Bool.not_false, Bool.false_eq_true, Bool.or_false, Bool.or_true, Nat.reduceAdd, Nat.reduceSub, Nat.zero_add, decide_true, decide_false, Bool.true_and, Bool.false_and, Bool.and_true, Bool.and_false, hW, hA]
    refine (seq_nx (env1 := [some (.fz (tsD ts)), some (.fz (.tuple (cs.map iD))), some (.fz (.str t1.n)), some (.fz (.str t2.n)), some (.fz (.int h)), some (.fz (.int 0)), none, none]) (st1 := st) rfl).trans ?_
    refine (seq_nx (env1 := [some (.fz (tsD ts)), some (.fz (.tuple (cs.map iD))), some (.fz (.str t1.n)), some (.fz (.str t2.n)), some (.fz (.int h)), some (.fz (.int 0)), some (.fz (.int 100000)), none]) (st1 := st) rfl).trans ?_
    exact (seq_nx (whR_eq e)).trans rfl
theorem f_law_within (l : Int) : FF (k + 1) "_law_within" [.fz (.int l), .fz (.int 0), .fz (.int 100000)] st = some (.fz (.bool (decide (0 ≤ l) && decide (l ≤ 100000))), st) := by
  unfold FF
  rw [e__law_within]
  cases h1 : decide (0 ≤ l) <;> cases h2 : decide (l ≤ 100000) <;> simp only [m__law_within, runM, seqS, frzS, frzs, frz1, retF, retS, ifS, skipS, andE, orE, notE, ifE, valF, vE, vV, kE, kV', callF, ar_nil, ar_cons, dn_fz, dn_ow, dn_bag, dn_scr, d_fz, d_ow, b_of, isiF, isD, blF, cmpF, chainF, orElse, lenS, bltF1, notT, andT, orT, tstF, l_list, l_tuple, l_all, l_listL, l_listT, l_tupL, l_tupT, l_abs, c_lt, c_le, c_gt, c_ge, c_eqI, c_neI, c_inS, c_niS, i_list, i_tuple, i_str, x_list, x_tuple, plainF, ixF, ixG, ixS, asgF, unpF, unF, setAll, List.length_cons, List.length_nil, List.map_cons, List.map_nil, if_true, if_false, List.cons_append, List.nil_append, List.append_nil, List.getElem?_cons_zero, List.getElem?_cons_succ, List.replicate, List.set_cons_zero, List.set_cons_succ, Option.bind_some, Option.map_some, Option.bind_none, Option.map_none, Bool.not_true, Bool.not_false, Bool.false_eq_true, Bool.or_false, Bool.or_true, Nat.reduceAdd, Nat.reduceSub, Nat.zero_add, decide_true, decide_false, Bool.true_and, Bool.false_and, Bool.and_true, Bool.and_false, isiF, isD, h1, h2]
theorem f_law_least_so {ts : List Tb} {cs : List Int} {one other : Nat} {t1 t2 : Tb} (A : Ask ts cs one other t1 t2) (hn : ∀ c ∈ cs, 0 ≤ c) (h : Int) : FF (k + 9) "_law_least_so" [.fz (tsD ts), .fz (.tuple (cs.map iD)), .fz (.int (one : Nat)), .fz (.int (other : Nat)), .fz (.int h)] st = some (.fz (.bool true), st) := by
  have hl := A.T.len
  have hj : one < ts.length := (List.getElem?_eq_some_iff.mp A.h1).1
  have hS := fun (m : Int) (hm : 0 ≤ m) st => f_law_stands_so (k := k + 6) (st := st) A.T A.nd (cs.set one m) (by rw [List.length_set]; exact A.len) (fun c hc => by
    rcases List.mem_or_eq_of_mem_set hc with hc | rfl
    · exact hn c hc
    · exact hm) A.h2 h
  have hz1 : atI (ts.map Tb.d) ((one : Nat) : Int) = some t1.d := atI_nat (by rw [List.getElem?_map, A.h1]; rfl)
  have hz2 : atI (ts.map Tb.d) ((other : Nat) : Int) = some t2.d := atI_nat (by rw [List.getElem?_map, A.h2]; rfl)
  have hy : ∀ a b c : D, atI [a, b, c] 0 = some a := fun _ _ _ => rfl
  have c1 : cutL (cs.map iD) none (some (one : Int)) = (cs.map iD).take one := cut_take _ _
  have c2 : cutL (cs.map iD) (some ((one : Int) + 1)) none = (cs.map iD).drop (one + 1) := cut_drop _ (one + 1)
  have ee : ∀ m : Int, (cs.map iD).take one ++ [PyData.int m] ++ (cs.map iD).drop (one + 1) = (cs.set one m).map iD := fun m => by
    rw [set_cut _ _ _ (by rw [List.length_map, A.len]; omega), List.map_set]; rfl
  have lm : (cs.map iD).length = ts.length := by rw [List.length_map]; exact A.len
  have a1 : ∀ m : Int, binD .Add (.tuple ((cs.map iD).take one)) (.tuple [.int m]) = some (.fz (.tuple ((cs.map iD).take one ++ [.int m]))) := fun m => b_addT (by rw [List.length_take]; simp; omega)
  have a2 : ∀ m : Int, binD .Add (.tuple ((cs.map iD).take one ++ [.int m])) (.tuple ((cs.map iD).drop (one + 1))) = some (.fz (.tuple ((cs.set one m).map iD))) := fun m => by
    rw [← ee m]
    exact b_addT (by have := A.len; simp only [List.length_append, List.length_take, List.length_drop, List.length_cons, List.length_nil, List.length_map]; omega)
  have hB := fun l st => f_law_within (k := k + 7) (st := st) l
  have s2 : ∀ d : D, frzS [2] (par2F 6 7 (slF (vV 1) (partF none) (partF (some (vV 2)))) (slF (vV 1) (partF (some (valF (binF .Add (vV 2) (valF (kE (.int 1))))))) (partF none))) [some (.fz (tsD ts)), some (.fz (.tuple (cs.map iD))), some (.fz (.int (one : Nat))), some (.fz (.int (other : Nat))), some (.fz (.int h)), some (.fz d), none, none] st = some (.nx, [some (.fz (tsD ts)), some (.fz (.tuple (cs.map iD))), some (.fz (.int (one : Nat))), some (.fz (.int (other : Nat))), some (.fz (.int h)), some (.fz d), some (.fz (.tuple ((cs.map iD).take one))), some (.fz (.tuple ((cs.map iD).drop (one + 1))))], st) := fun d => by
    simp only [runM, seqS, frzS, frzs, frz1, retF, retS, ifS, skipS, andE, orE, notE, ifE, valF, vE, vV, kE, kV', callF, ar_nil, ar_cons, dn_fz, dn_ow, dn_bag, dn_scr, d_fz, d_ow, b_of, isiF, isD, blF, cmpF, chainF, orElse, lenS, bltF1, notT, andT, orT, tstF, l_list, l_tuple, l_all, l_listL, l_listT, l_tupL, l_tupT, l_abs, c_lt, c_le, c_gt, c_ge, c_eqI, c_neI, c_inS, c_niS, i_list, i_tuple, i_str, x_list, x_tuple, plainF, ixF, ixG, ixS, asgF, unpF, unF, setAll, List.length_cons, List.length_nil, List.map_cons, List.map_nil, if_true, if_false, List.cons_append, List.nil_append, List.append_nil, List.getElem?_cons_zero, List.getElem?_cons_succ, List.replicate, List.set_cons_zero, List.set_cons_succ, Option.bind_some, Option.map_some, Option.bind_none, Option.map_none, Bool.not_true, Bool.not_false, Bool.false_eq_true, Bool.or_false, Bool.or_true, Nat.reduceAdd, Nat.reduceSub, Nat.zero_add, decide_true, decide_false, Bool.true_and, Bool.false_and, Bool.and_true, Bool.and_false, par2F, slF, partF, y_tuple, c1, c2, binF, b_add]
  have s1 : ∀ d : D, (∀ st, FF (k + 8) "least_rain" [.fz (tsD ts), .fz (.tuple (cs.map iD)), .fz (.str t1.n), .fz (.str t2.n), .fz (.int h)] st = some (.fz d, st)) → frzS [0, 1, 4] (asgF 5 (callF (FF (k + 8)) "least_rain" (argsF [(vE 0), (vE 1), (ixG (valF (orElse (ixS 0 (vV 2)) (ixG (vV 0) (vV 2)))) (valF (kE (.int 0)))), (ixG (valF (orElse (ixS 0 (vV 3)) (ixG (vV 0) (vV 3)))) (valF (kE (.int 0)))), (vE 4)]))) [some (.fz (tsD ts)), some (.fz (.tuple (cs.map iD))), some (.fz (.int (one : Nat))), some (.fz (.int (other : Nat))), some (.fz (.int h)), none, none, none] st = some (.nx, [some (.fz (tsD ts)), some (.fz (.tuple (cs.map iD))), some (.fz (.int (one : Nat))), some (.fz (.int (other : Nat))), some (.fz (.int h)), some (.fz d), none, none], st) := fun d hd => by
    simp only [tsD] at hd ⊢
    simp only [runM, seqS, frzS, frzs, frz1, retF, retS, ifS, skipS, andE, orE, notE, ifE, valF, vE, vV, kE, kV', callF, ar_nil, ar_cons, dn_fz, dn_ow, dn_bag, dn_scr, d_fz, d_ow, b_of, isiF, isD, blF, cmpF, chainF, orElse, lenS, bltF1, notT, andT, orT, tstF, l_list, l_tuple, l_all, l_listL, l_listT, l_tupL, l_tupT, l_abs, c_lt, c_le, c_gt, c_ge, c_eqI, c_neI, c_inS, c_niS, i_list, i_tuple, i_str, x_list, x_tuple, plainF, ixF, ixG, ixS, asgF, unpF, unF, setAll, List.length_cons, List.length_nil, List.map_cons, List.map_nil, if_true, if_false, List.cons_append, List.nil_append, List.append_nil, List.getElem?_cons_zero, List.getElem?_cons_succ, List.replicate, List.set_cons_zero, List.set_cons_succ, Option.bind_some, Option.map_some, Option.bind_none, Option.map_none, Bool.not_true, Bool.not_false, Bool.false_eq_true, Bool.or_false, Bool.or_true, Nat.reduceAdd, Nat.reduceSub, Nat.zero_add, decide_true, decide_false, Bool.true_and, Bool.false_and, Bool.and_true, Bool.and_false, hz1, hz2, Tb.d, hy, hd]
  obtain ⟨d, hd, hL⟩ := f_least_rain (k := k) A h
  unfold FF at hS hB hL s1 ⊢
  rw [e__law_least_so]
  refine run_rt (env1 := [some (.fz (tsD ts)), some (.fz (.tuple (cs.map iD))), some (.fz (.int (one : Nat))), some (.fz (.int (other : Nat))), some (.fz (.int h)), some (.fz d), some (.fz (.tuple ((cs.map iD).take one))), some (.fz (.tuple ((cs.map iD).drop (one + 1))))]) rfl ?_
  unfold m__law_least_so
  refine (seq_nx (s1 d hL)).trans ((seq_nx (s2 d)).trans ?_)
  rcases hd with ⟨rfl, q⟩ | ⟨l, rfl, l0, l1, q1, q2⟩
  · have hs := hS 100000 (by omega)
    rw [show standB ts (cs.set one 100000) t2 other h = false from q] at hs
    refine seq_rt ?_
    simp only [runM, seqS, frzS, frzs, frz1, retF, retS, ifS, skipS, andE, orE, notE, ifE, valF, vE, vV, kE, kV', callF, ar_nil, ar_cons, dn_fz, dn_ow, dn_bag, dn_scr, d_fz, d_ow, b_of, isiF, isD, blF, cmpF, chainF, orElse, lenS, bltF1, notT, andT, orT, tstF, l_list, l_tuple, l_all, l_listL, l_listT, l_tupL, l_tupT, l_abs, c_lt, c_le, c_gt, c_ge, c_eqI, c_neI, c_inS, c_niS, i_list, i_tuple, i_str, x_list, x_tuple, plainF, ixF, ixG, ixS, asgF, unpF, unF, setAll, List.length_cons, List.length_nil, List.map_cons, List.map_nil, if_true, if_false, List.cons_append, List.nil_append, List.append_nil, List.getElem?_cons_zero, List.getElem?_cons_succ, List.replicate, List.set_cons_zero, List.set_cons_succ, Option.bind_some, Option.map_some, Option.bind_none, Option.map_none, Bool.not_true, Bool.not_false, Bool.false_eq_true, Bool.or_false, Bool.or_true, Nat.reduceAdd, Nat.reduceSub, Nat.zero_add, decide_true, decide_false, Bool.true_and, Bool.false_and, Bool.and_true, Bool.and_false, noneD, cmpD, tupF, ds_fz, ds_nil, lenOk_of, Nat.reduceLeDiff, binF, a1, a2, hs]
  · have hs := hS l l0
    rw [show standB ts (cs.set one l) t2 other h = true from q1] at hs
    have hb := hB l
    rw [decide_eq_true l0, decide_eq_true l1] at hb
    refine (seq_nx (env1 := [some (.fz (tsD ts)), some (.fz (.tuple (cs.map iD))), some (.fz (.int (one : Nat))), some (.fz (.int (other : Nat))), some (.fz (.int h)), some (.fz (.int l)), some (.fz (.tuple ((cs.map iD).take one))), some (.fz (.tuple ((cs.map iD).drop (one + 1))))]) (st1 := st) ?_).trans ?_
    · simp only [runM, seqS, frzS, frzs, frz1, retF, retS, ifS, skipS, andE, orE, notE, ifE, valF, vE, vV, kE, kV', callF, ar_nil, ar_cons, dn_fz, dn_ow, dn_bag, dn_scr, d_fz, d_ow, b_of, isiF, isD, blF, cmpF, chainF, orElse, lenS, bltF1, notT, andT, orT, tstF, l_list, l_tuple, l_all, l_listL, l_listT, l_tupL, l_tupT, l_abs, c_lt, c_le, c_gt, c_ge, c_eqI, c_neI, c_inS, c_niS, i_list, i_tuple, i_str, x_list, x_tuple, plainF, ixF, ixG, ixS, asgF, unpF, unF, setAll, List.length_cons, List.length_nil, List.map_cons, List.map_nil, if_true, if_false, List.cons_append, List.nil_append, List.append_nil, List.getElem?_cons_zero, List.getElem?_cons_succ, List.replicate, List.set_cons_zero, List.set_cons_succ, Option.bind_some, Option.map_some, Option.bind_none, Option.map_none, Bool.not_true, Bool.not_false, Bool.false_eq_true, Bool.or_false, Bool.or_true, Nat.reduceAdd, Nat.reduceSub, Nat.zero_add, decide_true, decide_false, Bool.true_and, Bool.false_and, Bool.and_true, Bool.and_false, noneD, cmpD]
    refine (seq_nx (env1 := [some (.fz (tsD ts)), some (.fz (.tuple (cs.map iD))), some (.fz (.int (one : Nat))), some (.fz (.int (other : Nat))), some (.fz (.int h)), some (.fz (.int l)), some (.fz (.tuple ((cs.map iD).take one))), some (.fz (.tuple ((cs.map iD).drop (one + 1))))]) (st1 := st) ?_).trans ?_
    · simp only [runM, seqS, frzS, frzs, frz1, retF, retS, ifS, skipS, andE, orE, notE, ifE, valF, vE, vV, kE, kV', callF, ar_nil, ar_cons, dn_fz, dn_ow, dn_bag, dn_scr, d_fz, d_ow, b_of, isiF, isD, blF, cmpF, chainF, orElse, lenS, bltF1, notT, andT, orT, tstF, l_list, l_tuple, l_all, l_listL, l_listT, l_tupL, l_tupT, l_abs, c_lt, c_le, c_gt, c_ge, c_eqI, c_neI, c_inS, c_niS, i_list, i_tuple, i_str, x_list, x_tuple, plainF, ixF, ixG, ixS, asgF, unpF, unF, setAll, List.length_cons, List.length_nil, List.map_cons, List.map_nil, if_true, if_false, List.cons_append, List.nil_append, List.append_nil, List.getElem?_cons_zero, List.getElem?_cons_succ, List.replicate, List.set_cons_zero, List.set_cons_succ, Option.bind_some, Option.map_some, Option.bind_none, Option.map_none, Bool.not_true, Bool.not_false, Bool.false_eq_true, Bool.or_false, Bool.or_true, Nat.reduceAdd, Nat.reduceSub, Nat.zero_add, decide_true, decide_false, Bool.true_and, Bool.false_and, Bool.and_true, Bool.and_false, hb, Bool.and_self]
    refine (seq_nx (env1 := [some (.fz (tsD ts)), some (.fz (.tuple (cs.map iD))), some (.fz (.int (one : Nat))), some (.fz (.int (other : Nat))), some (.fz (.int h)), some (.fz (.int l)), some (.fz (.tuple ((cs.map iD).take one))), some (.fz (.tuple ((cs.map iD).drop (one + 1))))]) (st1 := st) ?_).trans ?_
    · simp only [runM, seqS, frzS, frzs, frz1, retF, retS, ifS, skipS, andE, orE, notE, ifE, valF, vE, vV, kE, kV', callF, ar_nil, ar_cons, dn_fz, dn_ow, dn_bag, dn_scr, d_fz, d_ow, b_of, isiF, isD, blF, cmpF, chainF, orElse, lenS, bltF1, notT, andT, orT, tstF, l_list, l_tuple, l_all, l_listL, l_listT, l_tupL, l_tupT, l_abs, c_lt, c_le, c_gt, c_ge, c_eqI, c_neI, c_inS, c_niS, i_list, i_tuple, i_str, x_list, x_tuple, plainF, ixF, ixG, ixS, asgF, unpF, unF, setAll, List.length_cons, List.length_nil, List.map_cons, List.map_nil, if_true, if_false, List.cons_append, List.nil_append, List.append_nil, List.getElem?_cons_zero, List.getElem?_cons_succ, List.replicate, List.set_cons_zero, List.set_cons_succ, Option.bind_some, Option.map_some, Option.bind_none, Option.map_none, Bool.not_true, Bool.not_false, Bool.false_eq_true, Bool.or_false, Bool.or_true, Nat.reduceAdd, Nat.reduceSub, Nat.zero_add, decide_true, decide_false, Bool.true_and, Bool.false_and, Bool.and_true, Bool.and_false, tupF, ds_fz, ds_nil, lenOk_of, Nat.reduceLeDiff, binF, a1, a2, hs]
    by_cases c : l = 0
    · refine seq_rt ?_
      have ce : (l == 0) = true := by simpa using c
      simp only [runM, seqS, frzS, frzs, frz1, retF, retS, ifS, skipS, andE, orE, notE, ifE, valF, vE, vV, kE, kV', callF, ar_nil, ar_cons, dn_fz, dn_ow, dn_bag, dn_scr, d_fz, d_ow, b_of, isiF, isD, blF, cmpF, chainF, orElse, lenS, bltF1, notT, andT, orT, tstF, l_list, l_tuple, l_all, l_listL, l_listT, l_tupL, l_tupT, l_abs, c_lt, c_le, c_gt, c_ge, c_eqI, c_neI, c_inS, c_niS, i_list, i_tuple, i_str, x_list, x_tuple, plainF, ixF, ixG, ixS, asgF, unpF, unF, setAll, List.length_cons, List.length_nil, List.map_cons, List.map_nil, if_true, if_false, List.cons_append, List.nil_append, List.append_nil, List.getElem?_cons_zero, List.getElem?_cons_succ, List.replicate, List.set_cons_zero, List.set_cons_succ, Option.bind_some, Option.map_some, Option.bind_none, Option.map_none, Bool.not_true, Bool.not_false, Bool.false_eq_true, Bool.or_false, Bool.or_true, Nat.reduceAdd, Nat.reduceSub, Nat.zero_add, decide_true, decide_false, Bool.true_and, Bool.false_and, Bool.and_true, Bool.and_false, ce]
    · have ce : (l == 0) = false := by simpa using c
      refine (seq_nx (env1 := [some (.fz (tsD ts)), some (.fz (.tuple (cs.map iD))), some (.fz (.int (one : Nat))), some (.fz (.int (other : Nat))), some (.fz (.int h)), some (.fz (.int l)), some (.fz (.tuple ((cs.map iD).take one))), some (.fz (.tuple ((cs.map iD).drop (one + 1))))]) (st1 := st) ?_).trans (seq_rt ?_)
      · simp only [runM, seqS, frzS, frzs, frz1, retF, retS, ifS, skipS, andE, orE, notE, ifE, valF, vE, vV, kE, kV', callF, ar_nil, ar_cons, dn_fz, dn_ow, dn_bag, dn_scr, d_fz, d_ow, b_of, isiF, isD, blF, cmpF, chainF, orElse, lenS, bltF1, notT, andT, orT, tstF, l_list, l_tuple, l_all, l_listL, l_listT, l_tupL, l_tupT, l_abs, c_lt, c_le, c_gt, c_ge, c_eqI, c_neI, c_inS, c_niS, i_list, i_tuple, i_str, x_list, x_tuple, plainF, ixF, ixG, ixS, asgF, unpF, unF, setAll, List.length_cons, List.length_nil, List.map_cons, List.map_nil, if_true, if_false, List.cons_append, List.nil_append, List.append_nil, List.getElem?_cons_zero, List.getElem?_cons_succ, List.replicate, List.set_cons_zero, List.set_cons_succ, Option.bind_some, Option.map_some, Option.bind_none, Option.map_none, Bool.not_true, Bool.not_false, Bool.false_eq_true, Bool.or_false, Bool.or_true, Nat.reduceAdd, Nat.reduceSub, Nat.zero_add, decide_true, decide_false, Bool.true_and, Bool.false_and, Bool.and_true, Bool.and_false, ce]
      have hs := hS (l - 1) (by omega)
      rw [show standB ts (cs.set one (l - 1)) t2 other h = false from q2.resolve_left c] at hs
      simp only [runM, seqS, frzS, frzs, frz1, retF, retS, ifS, skipS, andE, orE, notE, ifE, valF, vE, vV, kE, kV', callF, ar_nil, ar_cons, dn_fz, dn_ow, dn_bag, dn_scr, d_fz, d_ow, b_of, isiF, isD, blF, cmpF, chainF, orElse, lenS, bltF1, notT, andT, orT, tstF, l_list, l_tuple, l_all, l_listL, l_listT, l_tupL, l_tupT, l_abs, c_lt, c_le, c_gt, c_ge, c_eqI, c_neI, c_inS, c_niS, i_list, i_tuple, i_str, x_list, x_tuple, plainF, ixF, ixG, ixS, asgF, unpF, unF, setAll, List.length_cons, List.length_nil, List.map_cons, List.map_nil, if_true, if_false, List.cons_append, List.nil_append, List.append_nil, List.getElem?_cons_zero, List.getElem?_cons_succ, List.replicate, List.set_cons_zero, List.set_cons_succ, Option.bind_some, Option.map_some, Option.bind_none, Option.map_none, Bool.not_true, Bool.not_false, Bool.false_eq_true, Bool.or_false, Bool.or_true, Nat.reduceAdd, Nat.reduceSub, Nat.zero_add, decide_true, decide_false, Bool.true_and, Bool.false_and, Bool.and_true, Bool.and_false, tupF, ds_fz, ds_nil, lenOk_of, Nat.reduceLeDiff, binF, b_sub, a1, a2, hs]
end K08

set_option maxHeartbeats 4000000
namespace K08
open PySem PySem.Spec PyProof.Rows L2 Iv
local instance nmZ_K08U : Iv.Nm := Iv.nmZ
variable {k : Nat} {st : BSt}
/-! ### the holes by name and height; tubs without some -/
def kyD (n : Str) (h : Int) : D := .tuple [.str n, .int h]
def keysD (ts : List Tb) : List D := ts.flatMap fun t => t.hs.map fun x => kyD t.n x.h
def KeysOk (ds : List D) : Prop := ∀ d ∈ ds, ∃ n h, d = kyD n h ∧ PyData.strOk n = true
theorem ky_lay {n : Str} {h : Int} (ok : PyData.strOk n = true) : (kyD n h).canLay0 = true ∧ (kyD n h).depth ≤ 60 := by
  refine ⟨?_, by show (max 0 (max 0 0) + 1 : Nat) ≤ 60; omega⟩
  show (PyData.strOk n && _) = true
  rw [ok]; rfl
theorem KeysOk.lay {ds : List D} (h : KeysOk ds) : ∀ d ∈ ds, d.canLay0 = true ∧ d.depth ≤ 60 := fun d hd => by
  obtain ⟨n, x, rfl, ok⟩ := h d hd
  exact ky_lay ok
theorem KeysOk.sort {ds : List D} (h : KeysOk ds) : sortOk ds = true := by
  unfold sortOk
  simp only [Bool.and_eq_true, List.all_eq_true, decide_eq_true_eq]
  refine ⟨⟨⟨layA fun d hd => (h.lay d hd).1, fun d hd => ?_⟩, fun d hd e he => ?_⟩, fun d hd => (h.lay d hd).2⟩
  · obtain ⟨n, x, rfl, _⟩ := h d hd; rfl
  · obtain ⟨n, x, rfl, _⟩ := h d hd
    obtain ⟨m, y, rfl, _⟩ := h e he
    simp [kyD, PySem.W.alike, PySem.W.alikeAll]
theorem KeysOk.srt {ds : List D} (h : KeysOk ds) : KeysOk (srtD ds) := fun d hd => h d ((List.mergeSort_perm ds _).mem_iff.mp hd)
theorem srt_len (ds : List D) : (srtD ds).length = ds.length := List.length_mergeSort ds
theorem keys_ok {ts : List Tb} (T : TsOk ts) : KeysOk (keysD ts) := fun d hd => by
  obtain ⟨t, ht, hd⟩ := List.mem_flatMap.mp hd
  obtain ⟨x, _, rfl⟩ := List.mem_map.mp hd
  exact ⟨t.n, x.h, rfl, T.ok _ (List.mem_map_of_mem ht)⟩
theorem keys_len {ts : List Tb} (T : TsOk ts) : (keysD ts).length ≤ 9 := by
  have gen : ∀ r : List Tb, (∀ t ∈ r, t.hs.length ≤ 3) → (keysD r).length ≤ 3 * r.length := by
    intro r
    induction r with
    | nil => intro _; exact Nat.le_refl _
    | cons t r ih =>
      intro h
      have h1 := h t List.mem_cons_self
      have h2 := ih fun u hu => h u (List.mem_cons_of_mem _ hu)
      show ((t.hs.map fun x => kyD t.n x.h) ++ keysD r).length ≤ 3 * (r.length + 1)
      rw [List.length_append, List.length_map]
      omega
  have := gen ts fun t ht => (T.hs t ht).1
  have := T.len
  omega
theorem lc2_keys : ∀ (ts : List Tb) (acc : List D) (env0 : Env') (a0 : Option R) (st : BSt), (∀ t ∈ ts, t.hs.length ≤ 3) → acc.length + 3 * ts.length ≤ 1000 → env0 = [a0, none, none, none, none, none, none] → noOwB [a0] = true →
    lcLoop2 (unF [1, 2, 3]) yesT (plainF (vE 3)) [4, 5, 6] (unF [4, 5, 6]) yesT (tupF (argsF [(vE 1), (vE 4)])) env0 (ts.map Tb.d) acc st = some (acc ++ keysD ts, st)
  | [], acc, _, _, _, _, _, _, _ => by rw [show keysD [] = ([] : List D) from rfl, List.append_nil]; rfl
  | t :: ts, acc, env0, a0, st, hl, hn, e0, no => by
    subst e0
    simp only [List.length_cons] at hn
    have ht := hl t List.mem_cons_self
    have ih := lc2_keys ts (acc ++ t.hs.map fun x => kyD t.n x.h) _ a0 st (fun u hu => hl u (List.mem_cons_of_mem _ hu)) (by rw [List.length_append, List.length_map]; omega) rfl no
    have hg : unF [1, 2, 3] t.d [a0, none, none, none, none, none, none] = some [a0, some (.fz (.str t.n)), some (.fz (.int t.g)), some (.fz (.tuple (t.hs.map Hl.d))), none, none, none] := rfl
    have hb : noOwB [a0, some (.fz (.str t.n)), some (.fz (.int t.g)), some (.fz (.tuple (t.hs.map Hl.d))), none, none, none] = true := by
      unfold noOwB at no ⊢
      simp only [List.all_cons, List.all_nil, Bool.and_true] at no ⊢
      rw [no]
    have hp : plainF (vE 3) [a0, some (.fz (.str t.n)), some (.fz (.int t.g)), some (.fz (.tuple (t.hs.map Hl.d))), none, none, none] st = some (t.hs.map Hl.d, st) := rfl
    have hi : lcLoop (unF [4, 5, 6]) yesT (tupF (argsF [(vE 1), (vE 4)])) (wipeE [a0, some (.fz (.str t.n)), some (.fz (.int t.g)), some (.fz (.tuple (t.hs.map Hl.d))), none, none, none] [4, 5, 6]) (t.hs.map Hl.d) acc st = some (acc ++ t.hs.map fun x => kyD t.n x.h, st) := by
      refine lc_pairs (d := Hl.d) (x := fun x => kyD t.n x.h) t.hs acc (fun x _ => ⟨[a0, some (.fz (.str t.n)), some (.fz (.int t.g)), some (.fz (.tuple (t.hs.map Hl.d))), some (.fz (.int x.h)), some (.fz (.int x.r)), some (.fz (.str x.to))], .fz (kyD t.n x.h), rfl, ?_, rfl⟩) (by omega)
      simp only [runM, seqS, frzS, frzs, frz1, retF, retS, ifS, skipS, andE, orE, notE, ifE, valF, vE, vV, kE, kV', callF, ar_nil, ar_cons, dn_fz, dn_ow, dn_bag, dn_scr, d_fz, d_ow, b_of, isiF, isD, blF, cmpF, chainF, orElse, lenS, bltF1, notT, andT, orT, tstF, l_list, l_tuple, l_all, l_listL, l_listT, l_tupL, l_tupT, l_abs, c_lt, c_le, c_gt, c_ge, c_eqI, c_neI, c_inS, c_niS, i_list, i_tuple, i_str, x_list, x_tuple, plainF, ixF, ixG, ixS, asgF, unpF, unF, setAll, List.length_cons, List.length_nil, List.map_cons, List.map_nil, if_true, if_false, List.cons_append, List.nil_append, List.append_nil, List.getElem?_cons_zero, List.getElem?_cons_succ, List.replicate, List.set_cons_zero, List.set_cons_succ, Option.bind_some, Option.map_some, Option.bind_none, Option.map_none, Bool.not_true, Bool.not_false, Bool.false_eq_true, Bool.or_false, Bool.or_true, Nat.reduceAdd, Nat.reduceSub, Nat.zero_add, decide_true, decide_false, Bool.true_and, Bool.false_and, Bool.and_true, Bool.and_false, tupF, ds_fz, ds_nil, lenOk_of, Nat.reduceLeDiff, kyD]
    rw [List.map_cons]
    unfold lcLoop2
    simp only [hg, Option.bind_some, yesT, if_true, hb, hp, hi, ih]
    rw [List.append_assoc]; rfl
theorem f_holes_of {ts : List Tb} (T : TsOk ts) : FF (k + 1) "holes_of" [.fz (tsD ts)] st = some (.ow (.list (keysD ts)), st) := by
  have hl := T.len
  unfold FF
  rw [e_holes_of]
  refine run_rt (env1 := [some (.fz (tsD ts)), none, none, none, none, none, none]) rfl ?_
  unfold m_holes_of
  refine seq_rt ?_
  have h : lcF2 (plainF (vE 0)) [1, 2, 3, 4, 5, 6] (unF [1, 2, 3]) yesT (plainF (vE 3)) [4, 5, 6] (unF [4, 5, 6]) yesT (tupF (argsF [(vE 1), (vE 4)])) [some (.fz (tsD ts)), none, none, none, none, none, none] st = some (.ow (.list (keysD ts)), st) := by
    unfold lcF2
    have hp : plainF (vE 0) [some (.fz (tsD ts)), none, none, none, none, none, none] st = some (ts.map Tb.d, st) := rfl
    rw [hp]
    simp only [Option.bind_some]
    have e : wipeE [some (.fz (tsD ts)), none, none, none, none, none, none] [1, 2, 3, 4, 5, 6] = [some (.fz (tsD ts)), none, none, none, none, none, none] := rfl
    rw [e, lc2_keys ts [] _ _ st (fun t ht => (T.hs t ht).1) (by simp; omega) rfl rfl]
    rfl
  have h' : retF (lcF2 (plainF (vE 0)) [1, 2, 3, 4, 5, 6] (unF [1, 2, 3]) yesT (plainF (vE 3)) [4, 5, 6] (unF [4, 5, 6]) yesT (tupF (argsF [(vE 1), (vE 4)]))) [some (.fz (tsD ts)), none, none, none, none, none, none] st = some (.rt (.ow (.list (keysD ts))), [some (.fz (tsD ts)), none, none, none, none, none, none], st) := by
    simp only [retF, h, Option.bind_some, Option.map_some]
  exact h'
/-! tubs without some holes -/
theorem lcF_def (i : IF) (own : List Nat) (g : GF) (t : TF) (e : EF) (env : Env') (st : BSt) : lcF i own g t e env st = (i env st).bind fun p => (lcLoop g t e (wipeE env own) p.1 [] p.2).map fun q => (.ow (.list q.1), q.2) := rfl
def outK (lot : List D) (n : Str) (x : Hl) : Bool := !lot.any fun z => PyData.eqv z (kyD n x.h)
def plugT (lot : List D) (t : Tb) : Tb := ⟨t.n, t.g, t.hs.filter (outK lot t.n)⟩
def plug (ts : List Tb) (lot : List D) : List Tb := ts.map (plugT lot)
theorem nms_plug (ts : List Tb) (lot : List D) : nms (plug ts lot) = nms ts := by
  show (ts.map (plugT lot)).map Tb.n = ts.map Tb.n
  rw [List.map_map]; rfl
theorem plug_ok {ts : List Tb} (T : TsOk ts) (lot : List D) : TsOk (plug ts lot) := by
  refine ⟨by unfold plug; rw [List.length_map]; exact T.len, by rw [nms_plug]; exact T.ok, fun t ht => ?_⟩
  obtain ⟨u, hu, rfl⟩ := List.mem_map.mp ht
  obtain ⟨h1, h2⟩ := T.hs u hu
  exact ⟨Nat.le_trans (List.length_filter_le _ _) h1, fun x hx => by rw [nms_plug]; exact h2 x (List.mem_filter.mp hx).1⟩
def outD (lot : List D) (n : Str) : D → Bool
  | .tuple [.int h, _, _] => !lot.any fun z => PyData.eqv z (kyD n h)
  | _ => true
theorem c_niT {lot : List D} (K : KeysOk lot) {n : Str} {h : Int} (ok : PyData.strOk n = true) : cmpD .NotIn (.tuple [.str n, .int h]) (.tuple lot) = some (!lot.any fun z => PyData.eqv z (kyD n h)) := by
  show (if SeqAt.shaped (kyD n h) && SeqAt.shaped (.tuple lot) then some (!lot.any fun z => PyData.eqv z (kyD n h)) else none) = _
  have s1 : SeqAt.shaped (kyD n h) = true := sh_t fun d hd => by
    simp only [List.mem_cons, List.not_mem_nil, or_false] at hd
    rcases hd with rfl | rfl
    · exact ⟨ok, Nat.zero_le _⟩
    · exact ⟨rfl, Nat.zero_le _⟩
  rw [s1, sh_t K.lay]; rfl
theorem filter_d (lot : List D) (n : Str) (hs : List Hl) : (hs.map Hl.d).filter (outD lot n) = (hs.filter (outK lot n)).map Hl.d := by
  rw [List.filter_map]; rfl
theorem f_without_holes {ts : List Tb} (T : TsOk ts) {lot : List D} (K : KeysOk lot) : FF (k + 1) "without_holes" [.fz (tsD ts), .fz (.tuple lot)] st = some (.fz (tsD (plug ts lot)), st) := by
  have hl := T.len
  unfold FF
  rw [e_without_holes]
  refine run_rt (env1 := [some (.fz (tsD ts)), some (.fz (.tuple lot)), none, none, none, none]) rfl ?_
  unfold m_without_holes
  refine seq_rt ?_
  have inner : ∀ t ∈ ts, lcF (plainF (vE 5)) [2] (setF 2) (cmpF .NotIn (valF (tupF (argsF [(vE 3), (orElse (ixS 2 (valF (kE (.int 0)))) (ixG (vV 2) (valF (kE (.int 0)))))]))) (vV 1)) (vE 2) [some (.fz (tsD ts)), some (.fz (.tuple lot)), none, some (.fz (.str t.n)), some (.fz (.int t.g)), some (.fz (.tuple (t.hs.map Hl.d)))] st = some (.ow (.list ((t.hs.filter (outK lot t.n)).map Hl.d)), st) := fun t ht => by
    have ok := T.ok _ (List.mem_map_of_mem ht)
    rw [← filter_d]
    refine lcF_filter (outD lot t.n) rfl (fun d hd => ?_) (by rw [List.length_map, sizeLine_eq]; have := (T.hs t ht).1; omega)
    obtain ⟨x, _, rfl⟩ := List.mem_map.mp hd
    refine ⟨[some (.fz (tsD ts)), some (.fz (.tuple lot)), some (.fz x.d), some (.fz (.str t.n)), some (.fz (.int t.g)), some (.fz (.tuple (t.hs.map Hl.d)))], rfl, ?_, .fz x.d, rfl, rfl⟩
    have c := c_niT K (h := x.h) ok
    have hy : ∀ a b c : D, atI [a, b, c] 0 = some a := fun _ _ _ => rfl
    simp only [runM, seqS, frzS, frzs, frz1, retF, retS, ifS, skipS, andE, orE, notE, ifE, valF, vE, vV, kE, kV', callF, ar_nil, ar_cons, dn_fz, dn_ow, dn_bag, dn_scr, d_fz, d_ow, b_of, isiF, isD, blF, cmpF, chainF, orElse, lenS, bltF1, notT, andT, orT, tstF, l_list, l_tuple, l_all, l_listL, l_listT, l_tupL, l_tupT, l_abs, c_lt, c_le, c_gt, c_ge, c_eqI, c_neI, c_inS, c_niS, i_list, i_tuple, i_str, x_list, x_tuple, plainF, ixF, ixG, ixS, asgF, unpF, unF, setAll, List.length_cons, List.length_nil, List.map_cons, List.map_nil, if_true, if_false, List.cons_append, List.nil_append, List.append_nil, List.getElem?_cons_zero, List.getElem?_cons_succ, List.replicate, List.set_cons_zero, List.set_cons_succ, Option.bind_some, Option.map_some, Option.bind_none, Option.map_none, Bool.not_true, Bool.not_false, Bool.false_eq_true, Bool.or_false, Bool.or_true, Nat.reduceAdd, Nat.reduceSub, Nat.zero_add, decide_true, decide_false, Bool.true_and, Bool.false_and, Bool.and_true, Bool.and_false, tupF, ds_fz, ds_nil, lenOk_of, Nat.reduceLeDiff, Hl.d, hy, c, outD]
  have h : lcF (plainF (vE 0)) [3, 4, 5] (unF [3, 4, 5]) yesT (tupF (argsF [(vE 3), (vE 4), (bltF1 .tuple (valF (lcF (plainF (vE 5)) [2] (setF 2) (cmpF .NotIn (valF (tupF (argsF [(vE 3), (orElse (ixS 2 (valF (kE (.int 0)))) (ixG (vV 2) (valF (kE (.int 0)))))]))) (vV 1)) (vE 2))))])) [some (.fz (tsD ts)), some (.fz (.tuple lot)), none, none, none, none] st = some (.ow (.list ((plug ts lot).map Tb.d)), st) := by
    rw [lcF_def]
    have hp : plainF (vE 0) [some (.fz (tsD ts)), some (.fz (.tuple lot)), none, none, none, none] st = some (ts.map Tb.d, st) := rfl
    rw [hp]
    simp only [Option.bind_some]
    rw [lc_pairs (d := Tb.d) (x := fun t => (plugT lot t).d)]
    · unfold plug; rw [List.map_map]; rfl
    · intro t ht
      refine ⟨[some (.fz (tsD ts)), some (.fz (.tuple lot)), none, some (.fz (.str t.n)), some (.fz (.int t.g)), some (.fz (.tuple (t.hs.map Hl.d)))], .fz (plugT lot t).d, rfl, ?_, rfl⟩
      have hi := inner t ht
      generalize lcF (plainF (vE 5)) [2] (setF 2) (cmpF .NotIn (valF (tupF (argsF [(vE 3), (orElse (ixS 2 (valF (kE (.int 0)))) (ixG (vV 2) (valF (kE (.int 0)))))]))) (vV 1)) (vE 2) = LF at hi ⊢
      simp only [runM, seqS, frzS, frzs, frz1, retF, retS, ifS, skipS, andE, orE, notE, ifE, valF, vE, vV, kE, kV', callF, ar_nil, ar_cons, dn_fz, dn_ow, dn_bag, dn_scr, d_fz, d_ow, b_of, isiF, isD, blF, cmpF, chainF, orElse, lenS, bltF1, notT, andT, orT, tstF, l_list, l_tuple, l_all, l_listL, l_listT, l_tupL, l_tupT, l_abs, c_lt, c_le, c_gt, c_ge, c_eqI, c_neI, c_inS, c_niS, i_list, i_tuple, i_str, x_list, x_tuple, plainF, ixF, ixG, ixS, asgF, unpF, unF, setAll, List.length_cons, List.length_nil, List.map_cons, List.map_nil, if_true, if_false, List.cons_append, List.nil_append, List.append_nil, List.getElem?_cons_zero, List.getElem?_cons_succ, List.replicate, List.set_cons_zero, List.set_cons_succ, Option.bind_some, Option.map_some, Option.bind_none, Option.map_none, Bool.not_true, Bool.not_false, Bool.false_eq_true, Bool.or_false, Bool.or_true, Nat.reduceAdd, Nat.reduceSub, Nat.zero_add, decide_true, decide_false, Bool.true_and, Bool.false_and, Bool.and_true, Bool.and_false, tupF, ds_fz, ds_nil, lenOk_of, Nat.reduceLeDiff, hi, Tb.d, plugT]
    · simp; omega
  have h' : retF (bltF1 .tuple (valF (lcF (plainF (vE 0)) [3, 4, 5] (unF [3, 4, 5]) yesT (tupF (argsF [(vE 3), (vE 4), (bltF1 .tuple (valF (lcF (plainF (vE 5)) [2] (setF 2) (cmpF .NotIn (valF (tupF (argsF [(vE 3), (orElse (ixS 2 (valF (kE (.int 0)))) (ixG (vV 2) (valF (kE (.int 0)))))]))) (vV 1)) (vE 2))))]))))) [some (.fz (tsD ts)), some (.fz (.tuple lot)), none, none, none, none] st = some (.rt (.fz (tsD (plug ts lot))), [some (.fz (tsD ts)), some (.fz (.tuple lot)), none, none, none, none], st) := by
    simp only [retF, bltF1, valF, h, Option.bind_some, Option.map_some, d_ow, l_tupL]
  exact h'
noncomputable def bodyPlug : SF := (seqS (frzS [3, 4, 5, 3] (appS 2 (tupF (argsF [(vE 3), (vE 4), (bltF1 .tuple (valF (lcF (plainF (vE 5)) [6] (setF 6) (cmpF .NotIn (valF (tupF (argsF [(vE 3), (orElse (ixS 6 (valF (kE (.int 0)))) (ixG (vV 6) (valF (kE (.int 0)))))]))) (vV 1)) (vE 6))))]))))
    skipS)
theorem loop_plug {a0 : Option R} {lot : List D} (K : KeysOk lot) : ∀ (r : List Tb) (acc : List D) (z3 z4 z5 z6 : Option R), (∀ t ∈ r, PyData.strOk t.n = true ∧ t.hs.length ≤ 3) → acc.length + r.length ≤ 1000 →
    ∃ y3 y4 y5, forL (unF [3, 4, 5]) bodyPlug (r.map Tb.d) [a0, some (.fz (.tuple lot)), some (.ow (.list acc)), z3, z4, z5, z6] st = some (.nx, [a0, some (.fz (.tuple lot)), some (.ow (.list (acc ++ (plug r lot).map Tb.d))), y3, y4, y5, z6], st)
  | [], acc, z3, z4, z5, z6, _, _ => ⟨z3, z4, z5, by rw [show (plug [] lot).map Tb.d = ([] : List D) from rfl, List.append_nil]; rfl⟩
  | t :: r, acc, z3, z4, z5, z6, ht, hn => by
    simp only [List.length_cons] at hn
    obtain ⟨ok, h3⟩ := ht t List.mem_cons_self
    obtain ⟨y3, y4, y5, ih⟩ := loop_plug K (a0 := a0) r (acc ++ [(plugT lot t).d]) (some (.fz (.str t.n))) (some (.fz (.int t.g))) (some (.fz (.tuple (t.hs.map Hl.d)))) z6 (fun u hu => ht u (List.mem_cons_of_mem _ hu)) (by simp; omega)
    refine ⟨y3, y4, y5, ?_⟩
    have hsz : acc.length < sizeLine := by rw [sizeLine_eq]; omega
    have hi : lcF (plainF (vE 5)) [6] (setF 6) (cmpF .NotIn (valF (tupF (argsF [(vE 3), (orElse (ixS 6 (valF (kE (.int 0)))) (ixG (vV 6) (valF (kE (.int 0)))))]))) (vV 1)) (vE 6) [a0, some (.fz (.tuple lot)), some (.ow (.list acc)), some (.fz (.str t.n)), some (.fz (.int t.g)), some (.fz (.tuple (t.hs.map Hl.d))), z6] st = some (.ow (.list ((t.hs.filter (outK lot t.n)).map Hl.d)), st) := by
      rw [← filter_d]
      refine lcF_filter (outD lot t.n) rfl (fun d hd => ?_) (by rw [List.length_map, sizeLine_eq]; omega)
      obtain ⟨x, _, rfl⟩ := List.mem_map.mp hd
      refine ⟨[a0, some (.fz (.tuple lot)), some (.ow (.list acc)), some (.fz (.str t.n)), some (.fz (.int t.g)), some (.fz (.tuple (t.hs.map Hl.d))), some (.fz x.d)], rfl, ?_, .fz x.d, rfl, rfl⟩
      have c := c_niT K (h := x.h) ok
      have hy : ∀ a b c : D, atI [a, b, c] 0 = some a := fun _ _ _ => rfl
      simp only [runM, seqS, frzS, frzs, frz1, retF, retS, ifS, skipS, andE, orE, notE, ifE, valF, vE, vV, kE, kV', callF, ar_nil, ar_cons, dn_fz, dn_ow, dn_bag, dn_scr, d_fz, d_ow, b_of, isiF, isD, blF, cmpF, chainF, orElse, lenS, bltF1, notT, andT, orT, tstF, l_list, l_tuple, l_all, l_listL, l_listT, l_tupL, l_tupT, l_abs, c_lt, c_le, c_gt, c_ge, c_eqI, c_neI, c_inS, c_niS, i_list, i_tuple, i_str, x_list, x_tuple, plainF, ixF, ixG, ixS, asgF, unpF, unF, setAll, List.length_cons, List.length_nil, List.map_cons, List.map_nil, if_true, if_false, List.cons_append, List.nil_append, List.append_nil, List.getElem?_cons_zero, List.getElem?_cons_succ, List.replicate, List.set_cons_zero, List.set_cons_succ, Option.bind_some, Option.map_some, Option.bind_none, Option.map_none, Bool.not_true, Bool.not_false, Bool.false_eq_true, Bool.or_false, Bool.or_true, Nat.reduceAdd, Nat.reduceSub, Nat.zero_add, decide_true, decide_false, Bool.true_and, Bool.false_and, Bool.and_true, Bool.and_false, tupF, ds_fz, ds_nil, lenOk_of, Nat.reduceLeDiff, Hl.d, hy, c, outD]
    have hg : unF [3, 4, 5] t.d [a0, some (.fz (.tuple lot)), some (.ow (.list acc)), z3, z4, z5, z6] = some [a0, some (.fz (.tuple lot)), some (.ow (.list acc)), some (.fz (.str t.n)), some (.fz (.int t.g)), some (.fz (.tuple (t.hs.map Hl.d))), z6] := rfl
    have hb : bodyPlug [a0, some (.fz (.tuple lot)), some (.ow (.list acc)), some (.fz (.str t.n)), some (.fz (.int t.g)), some (.fz (.tuple (t.hs.map Hl.d))), z6] st = some (.nx, [a0, some (.fz (.tuple lot)), some (.ow (.list (acc ++ [(plugT lot t).d]))), some (.fz (.str t.n)), some (.fz (.int t.g)), some (.fz (.tuple (t.hs.map Hl.d))), z6], st) := by
      unfold bodyPlug
      generalize lcF (plainF (vE 5)) [6] (setF 6) (cmpF .NotIn (valF (tupF (argsF [(vE 3), (orElse (ixS 6 (valF (kE (.int 0)))) (ixG (vV 6) (valF (kE (.int 0)))))]))) (vV 1)) (vE 6) = LF at hi ⊢
      simp only [runM, seqS, frzS, frzs, frz1, retF, retS, ifS, skipS, andE, orE, notE, ifE, valF, vE, vV, kE, kV', callF, ar_nil, ar_cons, dn_fz, dn_ow, dn_bag, dn_scr, d_fz, d_ow, b_of, isiF, isD, blF, cmpF, chainF, orElse, lenS, bltF1, notT, andT, orT, tstF, l_list, l_tuple, l_all, l_listL, l_listT, l_tupL, l_tupT, l_abs, c_lt, c_le, c_gt, c_ge, c_eqI, c_neI, c_inS, c_niS, i_list, i_tuple, i_str, x_list, x_tuple, plainF, ixF, ixG, ixS, asgF, unpF, unF, setAll, List.length_cons, List.length_nil, List.map_cons, List.map_nil, if_true, if_false, List.cons_append, List.nil_append, List.append_nil, List.getElem?_cons_zero, List.getElem?_cons_succ, List.replicate, List.set_cons_zero, List.set_cons_succ, Option.bind_some, Option.map_some, Option.bind_none, Option.map_none, Bool.not_true, Bool.not_false, Bool.false_eq_true, Bool.or_false, Bool.or_true, Nat.reduceAdd, Nat.reduceSub, Nat.zero_add, decide_true, decide_false, Bool.true_and, Bool.false_and, Bool.and_true, Bool.and_false, appS, hsz, tupF, ds_fz, ds_nil, lenOk_of, Nat.reduceLeDiff, hi, Tb.d, plugT]
    rw [List.map_cons]
    unfold forL
    simp only [hg, Option.bind_some, hb, ih, plug, List.map_cons, List.append_assoc, List.cons_append, List.nil_append]
theorem f_law_plugged {ts : List Tb} (T : TsOk ts) {lot : List D} (K : KeysOk lot) : FF (k + 1) "_law_plugged" [.fz (tsD ts), .fz (.tuple lot)] st = some (.fz (tsD (plug ts lot)), st) := by
  have hl := T.len
  obtain ⟨y3, y4, y5, h⟩ := loop_plug (st := st) (a0 := some (.fz (tsD ts))) K ts [] none none none none (fun t ht => ⟨T.ok _ (List.mem_map_of_mem ht), (T.hs t ht).1⟩) (by simp; omega)
  unfold FF
  rw [e__law_plugged]
  refine run_rt (env1 := [some (.fz (tsD ts)), some (.fz (.tuple lot)), some (.ow (.list ((plug ts lot).map Tb.d))), y3, y4, y5, none]) rfl ?_
  unfold m__law_plugged
  refine (seq_nx (env1 := [some (.fz (tsD ts)), some (.fz (.tuple lot)), some (.ow (.list [])), none, none, none, none]) (st1 := st) rfl).trans ?_
  rw [List.nil_append] at h
  have h' : frzS [0] (forF (plainF (vE 0)) (unF [3, 4, 5]) bodyPlug) [some (.fz (tsD ts)), some (.fz (.tuple lot)), some (.ow (.list [])), none, none, none, none] st = some (.nx, [some (.fz (tsD ts)), some (.fz (.tuple lot)), some (.ow (.list ((plug ts lot).map Tb.d))), y3, y4, y5, none], st) := h
  exact (seq_nx h').trans rfl
end K08

set_option maxHeartbeats 4000000
namespace K08
open PySem PySem.Spec PyProof.Rows L2 Iv
local instance nmZ_K08V : Iv.Nm := Iv.nmZ
variable {k : Nat} {st : BSt}
/-! ### all lots of so many -/
def lotsGo (f : List D → List (List D)) : List D → List (List D)
  | [] => []
  | x :: r => (f r).map (x :: ·) ++ lotsGo f r
def lots : Nat → List D → List (List D)
  | 0, _ => [[]]
  | m + 1, l => lotsGo (lots m) l
theorem go_len {f : List D → List (List D)} (h : ∀ l, (f l).length ≤ 2 ^ l.length) : ∀ l, (lotsGo f l).length ≤ 2 ^ l.length
  | [] => Nat.zero_le _
  | x :: r => by
    have h1 := h r
    have h2 := go_len h r
    show ((f r).map (x :: ·) ++ lotsGo f r).length ≤ 2 ^ (r.length + 1)
    rw [List.length_append, List.length_map, Nat.pow_succ]
    omega
theorem lots_len : ∀ (m : Nat) (l : List D), (lots m l).length ≤ 2 ^ l.length
  | 0, l => Nat.one_le_two_pow
  | m + 1, l => go_len (lots_len m) l
theorem go_mem {f : List D → List (List D)} {n : Nat} (h : ∀ l o, o ∈ f l → o.length = n ∧ ∀ d ∈ o, d ∈ l) : ∀ l o, o ∈ lotsGo f l → o.length = n + 1 ∧ ∀ d ∈ o, d ∈ l
  | [], o, ho => by cases ho
  | x :: r, o, ho => by
    rcases List.mem_append.mp (show o ∈ (f r).map (x :: ·) ++ lotsGo f r from ho) with ho | ho
    · obtain ⟨p, hp, rfl⟩ := List.mem_map.mp ho
      obtain ⟨h1, h2⟩ := h r p hp
      exact ⟨by simp [h1], fun d hd => (List.mem_cons.mp hd).elim (fun e => by rw [e]; exact List.mem_cons_self) fun hd => List.mem_cons_of_mem _ (h2 d hd)⟩
    · obtain ⟨h1, h2⟩ := go_mem h r o ho
      exact ⟨h1, fun d hd => List.mem_cons_of_mem _ (h2 d hd)⟩
theorem lots_mem : ∀ (m : Nat) (l o : List D), o ∈ lots m l → o.length = m ∧ ∀ d ∈ o, d ∈ l
  | 0, l, o, h => by
    rw [List.mem_singleton.mp (show o ∈ [[]] from h)]
    exact ⟨rfl, fun d hd => by cases hd⟩
  | m + 1, l, o, h => go_mem (lots_mem m) l o h
theorem pow9 {n : Nat} (h : n ≤ 9) : 2 ^ n ≤ 512 := Nat.pow_le_pow_right (by omega) h
noncomputable def compLots (F : FT) (nm : Str) : EF := lcF (plainF (callF F nm (argsF [(slF (vV 0) (partF (some (valF (binF .Add (vV 3) (valF (kE (.int 1))))))) (partF none)), (binF .Sub (vV 1) (valF (kE (.int 1))))]))) [5] (setF 5) yesT (binF .Add (valF (tupF (argsF [(vE 4)]))) (vV 5))
theorem comp_lots {F : FT} {nm : Str} {m i : Nat} {l r : List D} {x : D} (hm : m ≤ 9) (hr : l.drop (i + 1) = r) (hr9 : r.length ≤ 9) (hF : ∀ st, F nm [.fz (.list r), .fz (.int (m : Nat))] st = some (.ow (.list ((lots m r).map .tuple)), st)) {z2 z5 : Option R} :
    compLots F nm [some (.fz (.list l)), some (.fz (.int ((m + 1 : Nat) : Int))), z2, some (.fz (.int (i : Nat))), some (.fz x), z5] st = some (.ow (.list (((lots m r).map (x :: ·)).map .tuple)), st) := by
  unfold compLots
  rw [lcF_def]
  have c : cutL l (some ((i : Int) + 1)) none = r := by rw [← hr]; exact cut_drop _ (i + 1)
  have e : (((m + 1 : Nat) : Int)) - 1 = (m : Nat) := by omega
  have hp : plainF (callF F nm (argsF [(slF (vV 0) (partF (some (valF (binF .Add (vV 3) (valF (kE (.int 1))))))) (partF none)), (binF .Sub (vV 1) (valF (kE (.int 1))))])) [some (.fz (.list l)), some (.fz (.int ((m + 1 : Nat) : Int))), z2, some (.fz (.int (i : Nat))), some (.fz x), z5] st = some ((lots m r).map .tuple, st) := by
    simp only [runM, seqS, frzS, frzs, frz1, retF, retS, ifS, skipS, andE, orE, notE, ifE, valF, vE, vV, kE, kV', callF, ar_nil, ar_cons, dn_fz, dn_ow, dn_bag, dn_scr, d_fz, d_ow, b_of, isiF, isD, blF, cmpF, chainF, orElse, lenS, bltF1, notT, andT, orT, tstF, l_list, l_tuple, l_all, l_listL, l_listT, l_tupL, l_tupT, l_abs, c_lt, c_le, c_gt, c_ge, c_eqI, c_neI, c_inS, c_niS, i_list, i_tuple, i_str, x_list, x_tuple, plainF, ixF, ixG, ixS, asgF, unpF, unF, setAll, List.length_cons, List.length_nil, List.map_cons, List.map_nil, if_true, if_false, List.cons_append, List.nil_append, List.append_nil, List.getElem?_cons_zero, List.getElem?_cons_succ, List.replicate, List.set_cons_zero, List.set_cons_succ, Option.bind_some, Option.map_some, Option.bind_none, Option.map_none, Bool.not_true, Bool.not_false, Bool.false_eq_true, Bool.or_false, Bool.or_true, Nat.reduceAdd, Nat.reduceSub, Nat.zero_add, decide_true, decide_false, Bool.true_and, Bool.false_and, Bool.and_true, Bool.and_false, slF, partF, binF, b_add, y_list, c, b_sub, e, hF]
  rw [hp]
  simp only [Option.bind_some]
  have hl := lots_len m r
  have h9 := pow9 hr9
  rw [lc_pairs (d := PyData.tuple) (x := fun o => .tuple (x :: o))]
  · simp only [List.nil_append, Option.map_some, List.map_map]; rfl
  · intro o ho
    refine ⟨[some (.fz (.list l)), some (.fz (.int ((m + 1 : Nat) : Int))), z2, some (.fz (.int (i : Nat))), some (.fz x), some (.fz (.tuple o))], .fz (.tuple (x :: o)), rfl, ?_, rfl⟩
    have ol := (lots_mem m r o ho).1
    have a := b_addT (xs := [x]) (ys := o) (by simp; omega)
    simp only [runM, seqS, frzS, frzs, frz1, retF, retS, ifS, skipS, andE, orE, notE, ifE, valF, vE, vV, kE, kV', callF, ar_nil, ar_cons, dn_fz, dn_ow, dn_bag, dn_scr, d_fz, d_ow, b_of, isiF, isD, blF, cmpF, chainF, orElse, lenS, bltF1, notT, andT, orT, tstF, l_list, l_tuple, l_all, l_listL, l_listT, l_tupL, l_tupT, l_abs, c_lt, c_le, c_gt, c_ge, c_eqI, c_neI, c_inS, c_niS, i_list, i_tuple, i_str, x_list, x_tuple, plainF, ixF, ixG, ixS, asgF, unpF, unF, setAll, List.length_cons, List.length_nil, List.map_cons, List.map_nil, if_true, if_false, List.cons_append, List.nil_append, List.append_nil, List.getElem?_cons_zero, List.getElem?_cons_succ, List.replicate, List.set_cons_zero, List.set_cons_succ, Option.bind_some, Option.map_some, Option.bind_none, Option.map_none, Bool.not_true, Bool.not_false, Bool.false_eq_true, Bool.or_false, Bool.or_true, Nat.reduceAdd, Nat.reduceSub, Nat.zero_add, decide_true, decide_false, Bool.true_and, Bool.false_and, Bool.and_true, Bool.and_false, tupF, ds_fz, ds_nil, lenOk_of, Nat.reduceLeDiff, binF, a]
  · rw [List.length_nil]; omega
noncomputable def bodyCh (F : FT) : SF := (seqS (frzS [4] (augF .Add 2 (valF (compLots F "choices"))))
    skipS)
noncomputable def bodyLo (F : FT) : SF := (seqS (frzS [4] (asgF 2 (binF .Add (vV 2) (valF (compLots F "_law_lots")))))
    skipS)
theorem loop_ch {F : FT} {m : Nat} {l : List D} (hm : m ≤ 9) (hl9 : l.length ≤ 9) (hF : ∀ r, r.length ≤ 9 → ∀ st, F "choices" [.fz (.list r), .fz (.int (m : Nat))] st = some (.ow (.list ((lots m r).map .tuple)), st)) : ∀ (r : List D) (i : Nat) (acc : List D) (z3 z4 z5 : Option R), l.drop i = r → acc.length + 2 ^ r.length ≤ 10000 →
    ∃ y3 y4, forL (unF [3, 4]) (bodyCh F) (enumD i r) [some (.fz (.list l)), some (.fz (.int ((m + 1 : Nat) : Int))), some (.ow (.list acc)), z3, z4, z5] st = some (.nx, [some (.fz (.list l)), some (.fz (.int ((m + 1 : Nat) : Int))), some (.ow (.list (acc ++ (lotsGo (lots m) r).map .tuple))), y3, y4, z5], st)
  | [], i, acc, z3, z4, z5, _, _ => ⟨z3, z4, by rw [show lotsGo (lots m) [] = [] from rfl, List.map_nil, List.append_nil]; rfl⟩
  | x :: r, i, acc, z3, z4, z5, hd, hn => by
    have hr : l.drop (i + 1) = r := by rw [← List.drop_drop, hd]; rfl
    have hr9 : r.length ≤ 9 := by rw [← hr, List.length_drop]; omega
    have hlen := lots_len m r
    rw [List.length_cons, Nat.pow_succ] at hn
    obtain ⟨y3, y4, ih⟩ := loop_ch hm hl9 hF r (i + 1) (acc ++ ((lots m r).map (x :: ·)).map .tuple) (some (.fz (.int (i : Nat)))) (some (.fz x)) z5 hr (by rw [List.length_append, List.length_map, List.length_map]; omega)
    refine ⟨y3, y4, ?_⟩
    have he : enumD i (x :: r) = .tuple [.int (i : Nat), x] :: enumD (i + 1) r := rfl
    rw [he]
    unfold forL
    have hg : unF [3, 4] (.tuple [.int (i : Nat), x]) [some (.fz (.list l)), some (.fz (.int ((m + 1 : Nat) : Int))), some (.ow (.list acc)), z3, z4, z5] = some [some (.fz (.list l)), some (.fz (.int ((m + 1 : Nat) : Int))), some (.ow (.list acc)), some (.fz (.int (i : Nat))), some (.fz x), z5] := rfl
    have hc := comp_lots (F := F) (nm := "choices") (st := st) (x := x) (z2 := some (.ow (.list acc))) (z5 := z5) hm hr hr9 (hF r hr9)
    have hb : bodyCh F [some (.fz (.list l)), some (.fz (.int ((m + 1 : Nat) : Int))), some (.ow (.list acc)), some (.fz (.int (i : Nat))), some (.fz x), z5] st = some (.nx, [some (.fz (.list l)), some (.fz (.int ((m + 1 : Nat) : Int))), some (.ow (.list (acc ++ ((lots m r).map (x :: ·)).map .tuple))), some (.fz (.int (i : Nat))), some (.fz x), z5], st) := by
      unfold bodyCh
      have hk : lenOk (acc.length + (((lots m r).map (x :: ·)).map PyData.tuple).length) = true := lenOk_of (by rw [List.length_map, List.length_map]; omega)
      generalize compLots F "choices" = CF at hc ⊢
      generalize ((lots m r).map (x :: ·)).map PyData.tuple = LD at hc hk ⊢
      simp only [runM, seqS, frzS, frzs, frz1, retF, retS, ifS, skipS, andE, orE, notE, ifE, valF, vE, vV, kE, kV', callF, ar_nil, ar_cons, dn_fz, dn_ow, dn_bag, dn_scr, d_fz, d_ow, b_of, isiF, isD, blF, cmpF, chainF, orElse, lenS, bltF1, notT, andT, orT, tstF, l_list, l_tuple, l_all, l_listL, l_listT, l_tupL, l_tupT, l_abs, c_lt, c_le, c_gt, c_ge, c_eqI, c_neI, c_inS, c_niS, i_list, i_tuple, i_str, x_list, x_tuple, plainF, ixF, ixG, ixS, asgF, unpF, unF, setAll, List.length_cons, List.length_nil, List.map_cons, List.map_nil, if_true, if_false, List.cons_append, List.nil_append, List.append_nil, List.getElem?_cons_zero, List.getElem?_cons_succ, List.replicate, List.set_cons_zero, List.set_cons_succ, Option.bind_some, Option.map_some, Option.bind_none, Option.map_none, Bool.not_true, Bool.not_false, Bool.false_eq_true, Bool.or_false, Bool.or_true, Nat.reduceAdd, Nat.reduceSub, Nat.zero_add, decide_true, decide_false, Bool.true_and, Bool.false_and, Bool.and_true, Bool.and_false, augF, hc, hk]
    simp only [hg, Option.bind_some, hb, ih, lotsGo, List.map_append, List.append_assoc]
theorem loop_lo {F : FT} {m : Nat} {l : List D} (hm : m ≤ 9) (hl9 : l.length ≤ 9) (hF : ∀ r, r.length ≤ 9 → ∀ st, F "_law_lots" [.fz (.list r), .fz (.int (m : Nat))] st = some (.ow (.list ((lots m r).map .tuple)), st)) : ∀ (r : List D) (i : Nat) (acc : List D) (z3 z4 z5 : Option R), l.drop i = r → acc.length + 2 ^ r.length ≤ 10000 →
    ∃ y3 y4, forL (unF [3, 4]) (bodyLo F) (enumD i r) [some (.fz (.list l)), some (.fz (.int ((m + 1 : Nat) : Int))), some (.ow (.list acc)), z3, z4, z5] st = some (.nx, [some (.fz (.list l)), some (.fz (.int ((m + 1 : Nat) : Int))), some (.ow (.list (acc ++ (lotsGo (lots m) r).map .tuple))), y3, y4, z5], st)
  | [], i, acc, z3, z4, z5, _, _ => ⟨z3, z4, by rw [show lotsGo (lots m) [] = [] from rfl, List.map_nil, List.append_nil]; rfl⟩
  | x :: r, i, acc, z3, z4, z5, hd, hn => by
    have hr : l.drop (i + 1) = r := by rw [← List.drop_drop, hd]; rfl
    have hr9 : r.length ≤ 9 := by rw [← hr, List.length_drop]; omega
    have hlen := lots_len m r
    rw [List.length_cons, Nat.pow_succ] at hn
    obtain ⟨y3, y4, ih⟩ := loop_lo hm hl9 hF r (i + 1) (acc ++ ((lots m r).map (x :: ·)).map .tuple) (some (.fz (.int (i : Nat)))) (some (.fz x)) z5 hr (by rw [List.length_append, List.length_map, List.length_map]; omega)
    refine ⟨y3, y4, ?_⟩
    have he : enumD i (x :: r) = .tuple [.int (i : Nat), x] :: enumD (i + 1) r := rfl
    rw [he]
    unfold forL
    have hg : unF [3, 4] (.tuple [.int (i : Nat), x]) [some (.fz (.list l)), some (.fz (.int ((m + 1 : Nat) : Int))), some (.ow (.list acc)), z3, z4, z5] = some [some (.fz (.list l)), some (.fz (.int ((m + 1 : Nat) : Int))), some (.ow (.list acc)), some (.fz (.int (i : Nat))), some (.fz x), z5] := rfl
    have hc := comp_lots (F := F) (nm := "_law_lots") (st := st) (x := x) (z2 := some (.ow (.list acc))) (z5 := z5) hm hr hr9 (hF r hr9)
    have hb : bodyLo F [some (.fz (.list l)), some (.fz (.int ((m + 1 : Nat) : Int))), some (.ow (.list acc)), some (.fz (.int (i : Nat))), some (.fz x), z5] st = some (.nx, [some (.fz (.list l)), some (.fz (.int ((m + 1 : Nat) : Int))), some (.ow (.list (acc ++ ((lots m r).map (x :: ·)).map .tuple))), some (.fz (.int (i : Nat))), some (.fz x), z5], st) := by
      unfold bodyLo
      have a := b_addL (xs := acc) (ys := ((lots m r).map (x :: ·)).map PyData.tuple) (by rw [List.length_map, List.length_map]; omega)
      generalize compLots F "_law_lots" = CF at hc ⊢
      generalize ((lots m r).map (x :: ·)).map PyData.tuple = LD at hc a ⊢
      simp only [runM, seqS, frzS, frzs, frz1, retF, retS, ifS, skipS, andE, orE, notE, ifE, valF, vE, vV, kE, kV', callF, ar_nil, ar_cons, dn_fz, dn_ow, dn_bag, dn_scr, d_fz, d_ow, b_of, isiF, isD, blF, cmpF, chainF, orElse, lenS, bltF1, notT, andT, orT, tstF, l_list, l_tuple, l_all, l_listL, l_listT, l_tupL, l_tupT, l_abs, c_lt, c_le, c_gt, c_ge, c_eqI, c_neI, c_inS, c_niS, i_list, i_tuple, i_str, x_list, x_tuple, plainF, ixF, ixG, ixS, asgF, unpF, unF, setAll, List.length_cons, List.length_nil, List.map_cons, List.map_nil, if_true, if_false, List.cons_append, List.nil_append, List.append_nil, List.getElem?_cons_zero, List.getElem?_cons_succ, List.replicate, List.set_cons_zero, List.set_cons_succ, Option.bind_some, Option.map_some, Option.bind_none, Option.map_none, Bool.not_true, Bool.not_false, Bool.false_eq_true, Bool.or_false, Bool.or_true, Nat.reduceAdd, Nat.reduceSub, Nat.zero_add, decide_true, decide_false, Bool.true_and, Bool.false_and, Bool.and_true, Bool.and_false, hc, binF, a]
    simp only [hg, Option.bind_some, hb, ih, lotsGo, List.map_append, List.append_assoc]
theorem f_choices : ∀ (m : Nat), m ≤ 10 → ∀ (l : List D), l.length ≤ 9 → ∀ st, FF (k + m + 1) "choices" [.fz (.list l), .fz (.int (m : Nat))] st = some (.ow (.list ((lots m l).map .tuple)), st)
  | 0, _, l, _, st => by
    unfold FF
    rw [e_choices]
    have e : ((((0 : Nat) : Int)) == 0) = true := rfl
    simp only [m_choices, runM, seqS, frzS, frzs, frz1, retF, retS, ifS, skipS, andE, orE, notE, ifE, valF, vE, vV, kE, kV', callF, ar_nil, ar_cons, dn_fz, dn_ow, dn_bag, dn_scr, d_fz, d_ow, b_of, isiF, isD, blF, cmpF, chainF, orElse, lenS, bltF1, notT, andT, orT, tstF, l_list, l_tuple, l_all, l_listL, l_listT, l_tupL, l_tupT, l_abs, c_lt, c_le, c_gt, c_ge, c_eqI, c_neI, c_inS, c_niS, i_list, i_tuple, i_str, x_list, x_tuple, plainF, ixF, ixG, ixS, asgF, unpF, unF, setAll, List.length_cons, List.length_nil, List.map_cons, List.map_nil, if_true, if_false, List.cons_append, List.nil_append, List.append_nil, List.getElem?_cons_zero, List.getElem?_cons_succ, List.replicate, List.set_cons_zero, List.set_cons_succ, Option.bind_some, Option.map_some, Option.bind_none, Option.map_none, Bool.not_true, Bool.not_false, Bool.false_eq_true, Bool.or_false, Bool.or_true, Nat.reduceAdd, Nat.reduceSub, Nat.zero_add, decide_true, decide_false, Bool.true_and, Bool.false_and, Bool.and_true, Bool.and_false, e, lstF, tupF, ds_fz, ds_nil, lenOk_of, Nat.reduceLeDiff]
    rfl
  | m + 1, hm, l, hl, st => by
    have ih := f_choices m (by omega)
    have h9 := pow9 hl
    obtain ⟨y3, y4, h⟩ := loop_ch (st := st) (F := FF (k + m + 1)) (l := l) (by omega) hl ih l 0 [] none none none rfl (by rw [List.length_nil]; omega)
    unfold FF at h ⊢
    rw [show k + (m + 1) + 1 = (k + m + 1) + 1 by omega, e_choices]
    have e : (((m + 1 : Nat) : Int) == 0) = false := by simp; omega
    refine run_rt (env1 := [some (.fz (.list l)), some (.fz (.int ((m + 1 : Nat) : Int))), some (.ow (.list ((lots (m + 1) l).map .tuple))), y3, y4, none]) rfl ?_
    unfold m_choices
    refine (seq_nx (env1 := [some (.fz (.list l)), some (.fz (.int ((m + 1 : Nat) : Int))), none, none, none, none]) (st1 := st) ?_).trans ?_
    · show frzS _ _ [some (.fz (.list l)), some (.fz (.int ((m + 1 : Nat) : Int))), none, none, none, none] st = _
      simp only [runM, seqS, frzS, frzs, frz1, retF, retS, ifS, skipS, andE, orE, notE, ifE, valF, vE, vV, kE, kV', callF, ar_nil, ar_cons, dn_fz, dn_ow, dn_bag, dn_scr, d_fz, d_ow, b_of, isiF, isD, blF, cmpF, chainF, orElse, lenS, bltF1, notT, andT, orT, tstF, l_list, l_tuple, l_all, l_listL, l_listT, l_tupL, l_tupT, l_abs, c_lt, c_le, c_gt, c_ge, c_eqI, c_neI, c_inS, c_niS, i_list, i_tuple, i_str, x_list, x_tuple, plainF, ixF, ixG, ixS, asgF, unpF, unF, setAll, List.length_cons, List.length_nil, List.map_cons, List.map_nil, if_true, if_false, List.cons_append, List.nil_append, List.append_nil, List.getElem?_cons_zero, List.getElem?_cons_succ, List.replicate, List.set_cons_zero, List.set_cons_succ, Option.bind_some, Option.map_some, Option.bind_none, Option.map_none, Bool.not_true, Bool.not_false, Bool.false_eq_true, Bool.or_false, Bool.or_true, Nat.reduceAdd, Nat.reduceSub, Nat.zero_add, decide_true, decide_false, Bool.true_and, Bool.false_and, Bool.and_true, Bool.and_false, e]
    refine (seq_nx (env1 := [some (.fz (.list l)), some (.fz (.int ((m + 1 : Nat) : Int))), some (.ow (.list [])), none, none, none]) (st1 := st) rfl).trans ?_
    rw [List.nil_append] at h
    exact (seq_nx h).trans rfl
theorem f_law_lots : ∀ (m : Nat), m ≤ 10 → ∀ (l : List D), l.length ≤ 9 → ∀ st, FF (k + m + 1) "_law_lots" [.fz (.list l), .fz (.int (m : Nat))] st = some (.ow (.list ((lots m l).map .tuple)), st)
  | 0, _, l, _, st => by
    unfold FF
    rw [e__law_lots]
    have e : ((((0 : Nat) : Int)) == 0) = true := rfl
    simp only [m__law_lots, runM, seqS, frzS, frzs, frz1, retF, retS, ifS, skipS, andE, orE, notE, ifE, valF, vE, vV, kE, kV', callF, ar_nil, ar_cons, dn_fz, dn_ow, dn_bag, dn_scr, d_fz, d_ow, b_of, isiF, isD, blF, cmpF, chainF, orElse, lenS, bltF1, notT, andT, orT, tstF, l_list, l_tuple, l_all, l_listL, l_listT, l_tupL, l_tupT, l_abs, c_lt, c_le, c_gt, c_ge, c_eqI, c_neI, c_inS, c_niS, i_list, i_tuple, i_str, x_list, x_tuple, plainF, ixF, ixG, ixS, asgF, unpF, unF, setAll, List.length_cons, List.length_nil, List.map_cons, List.map_nil, if_true, if_false, List.cons_append, List.nil_append, List.append_nil, List.getElem?_cons_zero, List.getElem?_cons_succ, List.replicate, List.set_cons_zero, List.set_cons_succ, Option.bind_some, Option.map_some, Option.bind_none, Option.map_none, Bool.not_true, Bool.not_false, Bool.false_eq_true, Bool.or_false, Bool.or_true, Nat.reduceAdd, Nat.reduceSub, Nat.zero_add, decide_true, decide_false, Bool.true_and, Bool.false_and, Bool.and_true, Bool.and_false, e, lstF, tupF, ds_fz, ds_nil, lenOk_of, Nat.reduceLeDiff]
    rfl
  | m + 1, hm, l, hl, st => by
    have ih := f_law_lots m (by omega)
    have h9 := pow9 hl
    obtain ⟨y3, y4, h⟩ := loop_lo (st := st) (F := FF (k + m + 1)) (l := l) (by omega) hl ih l 0 [] none none none rfl (by rw [List.length_nil]; omega)
    unfold FF at h ⊢
    rw [show k + (m + 1) + 1 = (k + m + 1) + 1 by omega, e__law_lots]
    have e : (((m + 1 : Nat) : Int) == 0) = false := by simp; omega
    refine run_rt (env1 := [some (.fz (.list l)), some (.fz (.int ((m + 1 : Nat) : Int))), some (.ow (.list ((lots (m + 1) l).map .tuple))), y3, y4, none]) rfl ?_
    unfold m__law_lots
    refine (seq_nx (env1 := [some (.fz (.list l)), some (.fz (.int ((m + 1 : Nat) : Int))), none, none, none, none]) (st1 := st) ?_).trans ?_
    · show frzS _ _ [some (.fz (.list l)), some (.fz (.int ((m + 1 : Nat) : Int))), none, none, none, none] st = _
      simp only [runM, seqS, frzS, frzs, frz1, retF, retS, ifS, skipS, andE, orE, notE, ifE, valF, vE, vV, kE, kV', callF, ar_nil, ar_cons, dn_fz, dn_ow, dn_bag, dn_scr, d_fz, d_ow, b_of, isiF, isD, blF, cmpF, chainF, orElse, lenS, bltF1, notT, andT, orT, tstF, l_list, l_tuple, l_all, l_listL, l_listT, l_tupL, l_tupT, l_abs, c_lt, c_le, c_gt, c_ge, c_eqI, c_neI, c_inS, c_niS, i_list, i_tuple, i_str, x_list, x_tuple, plainF, ixF, ixG, ixS, asgF, unpF, unF, setAll, List.length_cons, List.length_nil, List.map_cons, List.map_nil, if_true, if_false, List.cons_append, List.nil_append, List.append_nil, List.getElem?_cons_zero, List.getElem?_cons_succ, List.replicate, List.set_cons_zero, List.set_cons_succ, Option.bind_some, Option.map_some, Option.bind_none, Option.map_none, Bool.not_true, Bool.not_false, Bool.false_eq_true, Bool.or_false, Bool.or_true, Nat.reduceAdd, Nat.reduceSub, Nat.zero_add, decide_true, decide_false, Bool.true_and, Bool.false_and, Bool.and_true, Bool.and_false, e]
    refine (seq_nx (env1 := [some (.fz (.list l)), some (.fz (.int ((m + 1 : Nat) : Int))), some (.ow (.list [])), none, none, none]) (st1 := st) rfl).trans ?_
    rw [List.nil_append] at h
    exact (seq_nx h).trans rfl
end K08

set_option maxHeartbeats 4000000
namespace K08
open PySem PySem.Spec PyProof.Rows L2 Iv
local instance nmZ_K08W : Iv.Nm := Iv.nmZ
variable {k : Nat} {st : BSt}
/-! ### the first lot that does -/
def seek (P : List D → Bool) : List (List (List D)) → Option (List D)
  | [] => none
  | L :: r => match L.find? P with
    | some l => some l
    | none => seek P r
def outR : Option (List D) → Out
  | some l => .rt (.fz (.tuple l))
  | none => .nx
def tellR : Option (List D) → D
  | some l => .tuple l
  | none => .none
def doesB (ts : List Tb) (cs : List Int) (j : Nat) (much : Int) (lot : List D) : Bool := decide (much ≤ (fl (plug ts lot) cs).getD j 0)
theorem plug_get {ts : List Tb} {j : Nat} {t : Tb} (h : ts[j]? = some t) (lot : List D) : (plug ts lot)[j]? = some (plugT lot t) := by
  unfold plug; rw [List.getElem?_map, h]; rfl
theorem plug_len (ts : List Tb) (lot : List D) : (plug ts lot).length = ts.length := by unfold plug; rw [List.length_map]
noncomputable def bodyF1 (F : FT) : SF := (seqS (frzS [0, 7, 1] (ifS (cmpF .GtE (valF (ixG (valF (callF F "comes" (argsF [(callF F "without_holes" (argsF [(vE 0), (vE 7)])), (vE 1)]))) (vV 4))) (vV 3)) (seqS (frzS [] (retS 7 (retF (vE 7))))
    skipS) skipS))
    skipS)
theorem loop_f1 {ts : List Tb} (T : TsOk ts) (nd : (nms ts).Nodup) {cs : List Int} (hc : cs.length = ts.length) {j : Nat} {t : Tb} (ht : ts[j]? = some t) {much : Int} {a2 a5 a6 : Option R} : ∀ (L : List (List D)) (z7 : Option R), (∀ l ∈ L, KeysOk l) →
    ∃ y7, forL (setF 7) (bodyF1 (FF (k + 5))) (L.map .tuple) [some (.fz (tsD ts)), some (.fz (.tuple (cs.map iD))), a2, some (.fz (.int much)), some (.fz (.int (j : Nat))), a5, a6, z7] st = some (outR (L.find? (doesB ts cs j much)), [some (.fz (tsD ts)), some (.fz (.tuple (cs.map iD))), a2, some (.fz (.int much)), some (.fz (.int (j : Nat))), a5, a6, y7], st)
  | [], z7, _ => ⟨z7, rfl⟩
  | l :: L, z7, hK => by
    have hl := hK l List.mem_cons_self
    have hW := fun st => f_without_holes (k := k + 4) (st := st) T hl
    have hC := fun st => f_comes (k := k) (st := st) (plug_ok T l) cs (by rw [plug_len]; exact hc)
    have hx : atI ((flowC (nms (plug ts l)) 0 (plug ts l) cs).map iD) ((j : Nat) : Int) = some (.int ((fl (plug ts l) cs).getD j 0)) := atI_nat (by
      have := fl_get (ts := plug ts l) (by rw [plug_len]; exact hc) (plug_get ht l)
      unfold fl at this ⊢
      rw [List.getElem?_map, this]; rfl)
    obtain ⟨y7, ih⟩ := loop_f1 T nd hc ht (much := much) (a2 := a2) (a5 := a5) (a6 := a6) L (some (.fz (.tuple l))) (fun o ho => hK o (List.mem_cons_of_mem _ ho))
    rw [List.map_cons, List.find?_cons]
    have hg : setF 7 (.tuple l) [some (.fz (tsD ts)), some (.fz (.tuple (cs.map iD))), a2, some (.fz (.int much)), some (.fz (.int (j : Nat))), a5, a6, z7] = some [some (.fz (tsD ts)), some (.fz (.tuple (cs.map iD))), a2, some (.fz (.int much)), some (.fz (.int (j : Nat))), a5, a6, some (.fz (.tuple l))] := rfl
    unfold forL
    simp only [hg, Option.bind_some]
    cases hq : doesB ts cs j much l with
    | true =>
      refine ⟨some (.fz (.tuple l)), ?_⟩
      have hq : decide (much ≤ (fl (plug ts l) cs).getD j 0) = true := hq
      have hb : bodyF1 (FF (k + 5)) [some (.fz (tsD ts)), some (.fz (.tuple (cs.map iD))), a2, some (.fz (.int much)), some (.fz (.int (j : Nat))), a5, a6, some (.fz (.tuple l))] st = some (.rt (.fz (.tuple l)), [some (.fz (tsD ts)), some (.fz (.tuple (cs.map iD))), a2, some (.fz (.int much)), some (.fz (.int (j : Nat))), a5, a6, some (.fz (.tuple l))], st) := by
        unfold bodyF1
        simp only [runM, seqS, frzS, frzs, frz1, retF, retS, ifS, skipS, andE, orE, notE, ifE, valF, vE, vV, kE, kV', callF, ar_nil, ar_cons, dn_fz, dn_ow, dn_bag, dn_scr, d_fz, d_ow, b_of, isiF, isD, blF, cmpF, chainF, orElse, lenS, bltF1, notT, andT, orT, tstF, l_list, l_tuple, l_all, l_listL, l_listT, l_tupL, l_tupT, l_abs, c_lt, c_le, c_gt, c_ge, c_eqI, c_neI, c_inS, c_niS, i_list, i_tuple, i_str, x_list, x_tuple, plainF, ixF, ixG, ixS, asgF, unpF, unF, setAll, List.length_cons, List.length_nil, List.map_cons, List.map_nil, if_true, if_false, List.cons_append, List.nil_append, List.append_nil, List.getElem?_cons_zero, List.getElem?_cons_succ, List.replicate, List.set_cons_zero, List.set_cons_succ, Option.bind_some, Option.map_some, Option.bind_none, Option.map_none, Bool.not_true, Bool.not_false, Bool.false_eq_true, Bool.or_false, Bool.or_true, Nat.reduceAdd, Nat.reduceSub, Nat.zero_add, decide_true, decide_false, Bool.true_and, Bool.false_and, Bool.and_true, Bool.and_false, hW, hC, hx, hq]
      simp only [hb, Option.bind_some, outR]
    | false =>
      refine ⟨y7, ?_⟩
      have hq : decide (much ≤ (fl (plug ts l) cs).getD j 0) = false := hq
      have hb : bodyF1 (FF (k + 5)) [some (.fz (tsD ts)), some (.fz (.tuple (cs.map iD))), a2, some (.fz (.int much)), some (.fz (.int (j : Nat))), a5, a6, some (.fz (.tuple l))] st = some (.nx, [some (.fz (tsD ts)), some (.fz (.tuple (cs.map iD))), a2, some (.fz (.int much)), some (.fz (.int (j : Nat))), a5, a6, some (.fz (.tuple l))], st) := by
        unfold bodyF1
        simp only [runM, seqS, frzS, frzs, frz1, retF, retS, ifS, skipS, andE, orE, notE, ifE, valF, vE, vV, kE, kV', callF, ar_nil, ar_cons, dn_fz, dn_ow, dn_bag, dn_scr, d_fz, d_ow, b_of, isiF, isD, blF, cmpF, chainF, orElse, lenS, bltF1, notT, andT, orT, tstF, l_list, l_tuple, l_all, l_listL, l_listT, l_tupL, l_tupT, l_abs, c_lt, c_le, c_gt, c_ge, c_eqI, c_neI, c_inS, c_niS, i_list, i_tuple, i_str, x_list, x_tuple, plainF, ixF, ixG, ixS, asgF, unpF, unF, setAll, List.length_cons, List.length_nil, List.map_cons, List.map_nil, if_true, if_false, List.cons_append, List.nil_append, List.append_nil, List.getElem?_cons_zero, List.getElem?_cons_succ, List.replicate, List.set_cons_zero, List.set_cons_succ, Option.bind_some, Option.map_some, Option.bind_none, Option.map_none, Bool.not_true, Bool.not_false, Bool.false_eq_true, Bool.or_false, Bool.or_true, Nat.reduceAdd, Nat.reduceSub, Nat.zero_add, decide_true, decide_false, Bool.true_and, Bool.false_and, Bool.and_true, Bool.and_false, hW, hC, hx, hq]
      simp only [hb, Option.bind_some]
      exact ih
noncomputable def bodyF2 (F : FT) : SF := (seqS (frzS [5, 6] (forF (plainF (callF F "choices" (argsF [(vE 5), (vE 6)]))) (setF 7) (bodyF1 F)))
    skipS)
theorem lots_keys {m : Nat} {ks : List D} (K : KeysOk ks) : ∀ l ∈ lots m ks, KeysOk l := fun l hl d hd => K d ((lots_mem m ks l hl).2 d hd)
theorem loop_f2 {ts : List Tb} (T : TsOk ts) (nd : (nms ts).Nodup) {cs : List Int} (hc : cs.length = ts.length) {j : Nat} {t : Tb} (ht : ts[j]? = some t) {much : Int} {ks : List D} (K : KeysOk ks) (k9 : ks.length ≤ 9) {a2 : Option R} : ∀ (ms : List Nat) (b : Bool) (z6 z7 : Option R), (∀ m ∈ ms, m ≤ 9) →
    ∃ env', forL (setF 6) (bodyF2 (FF (k + 14))) (ms.map fun m => .int (m : Nat)) [some (.fz (tsD ts)), some (.fz (.tuple (cs.map iD))), a2, some (.fz (.int much)), some (.fz (.int (j : Nat))), some (if b then .fz (.list ks) else .ow (.list ks)), z6, z7] st = some (outR (seek (doesB ts cs j much) (ms.map fun m => lots m ks)), env', st)
  | [], b, z6, z7, _ => ⟨_, rfl⟩
  | m :: ms, b, z6, z7, hm => by
    have h9 := hm m List.mem_cons_self
    have hCh := f_choices (k := k + 13 - m) m (by omega) ks k9
    rw [show k + 13 - m + m + 1 = k + 14 by omega] at hCh
    obtain ⟨y7, h⟩ := loop_f1 (k := k + 9) (st := st) T nd hc ht (much := much) (a2 := a2) (a5 := some (.fz (.list ks))) (a6 := some (.fz (.int (m : Nat)))) (lots m ks) z7 (lots_keys K)
    have hg : setF 6 (.int (m : Nat)) [some (.fz (tsD ts)), some (.fz (.tuple (cs.map iD))), a2, some (.fz (.int much)), some (.fz (.int (j : Nat))), some (if b then .fz (.list ks) else .ow (.list ks)), z6, z7] = some [some (.fz (tsD ts)), some (.fz (.tuple (cs.map iD))), a2, some (.fz (.int much)), some (.fz (.int (j : Nat))), some (if b then .fz (.list ks) else .ow (.list ks)), some (.fz (.int (m : Nat))), z7] := rfl
    have hf : frzS [5, 6] (forF (plainF (callF (FF (k + 14)) "choices" (argsF [(vE 5), (vE 6)]))) (setF 7) (bodyF1 (FF (k + 14)))) [some (.fz (tsD ts)), some (.fz (.tuple (cs.map iD))), a2, some (.fz (.int much)), some (.fz (.int (j : Nat))), some (if b then .fz (.list ks) else .ow (.list ks)), some (.fz (.int (m : Nat))), z7] st = some (outR ((lots m ks).find? (doesB ts cs j much)), [some (.fz (tsD ts)), some (.fz (.tuple (cs.map iD))), a2, some (.fz (.int much)), some (.fz (.int (j : Nat))), some (.fz (.list ks)), some (.fz (.int (m : Nat))), y7], st) := by
      have hp : plainF (callF (FF (k + 14)) "choices" (argsF [(vE 5), (vE 6)])) [some (.fz (tsD ts)), some (.fz (.tuple (cs.map iD))), a2, some (.fz (.int much)), some (.fz (.int (j : Nat))), some (.fz (.list ks)), some (.fz (.int (m : Nat))), z7] st = some ((lots m ks).map .tuple, st) := by
        simp only [runM, seqS, frzS, frzs, frz1, retF, retS, ifS, skipS, andE, orE, notE, ifE, valF, vE, vV, kE, kV', callF, ar_nil, ar_cons, dn_fz, dn_ow, dn_bag, dn_scr, d_fz, d_ow, b_of, isiF, isD, blF, cmpF, chainF, orElse, lenS, bltF1, notT, andT, orT, tstF, l_list, l_tuple, l_all, l_listL, l_listT, l_tupL, l_tupT, l_abs, c_lt, c_le, c_gt, c_ge, c_eqI, c_neI, c_inS, c_niS, i_list, i_tuple, i_str, x_list, x_tuple, plainF, ixF, ixG, ixS, asgF, unpF, unF, setAll, List.length_cons, List.length_nil, List.map_cons, List.map_nil, if_true, if_false, List.cons_append, List.nil_append, List.append_nil, List.getElem?_cons_zero, List.getElem?_cons_succ, List.replicate, List.set_cons_zero, List.set_cons_succ, Option.bind_some, Option.map_some, Option.bind_none, Option.map_none, Bool.not_true, Bool.not_false, Bool.false_eq_true, Bool.or_false, Bool.or_true, Nat.reduceAdd, Nat.reduceSub, Nat.zero_add, decide_true, decide_false, Bool.true_and, Bool.false_and, Bool.and_true, Bool.and_false, hCh]
      unfold frzS forF
      cases b with
      | true =>
        simp only [frzs, frz1, List.getElem?_cons_succ, List.getElem?_cons_zero, if_true, hp, Option.bind_some]
        exact h
      | false =>
        simp only [frzs, frz1, List.getElem?_cons_succ, List.getElem?_cons_zero, Bool.false_eq_true, if_false, List.set_cons_succ, List.set_cons_zero, hp, Option.bind_some]
        exact h
    rw [List.map_cons, List.map_cons]
    unfold forL seek
    simp only [hg, Option.bind_some]
    cases hq : (lots m ks).find? (doesB ts cs j much) with
    | some l =>
      rw [hq] at hf
      refine ⟨[some (.fz (tsD ts)), some (.fz (.tuple (cs.map iD))), a2, some (.fz (.int much)), some (.fz (.int (j : Nat))), some (.fz (.list ks)), some (.fz (.int (m : Nat))), y7], ?_⟩
      have hb : bodyF2 (FF (k + 14)) [some (.fz (tsD ts)), some (.fz (.tuple (cs.map iD))), a2, some (.fz (.int much)), some (.fz (.int (j : Nat))), some (if b then .fz (.list ks) else .ow (.list ks)), some (.fz (.int (m : Nat))), z7] st = some (.rt (.fz (.tuple l)), [some (.fz (tsD ts)), some (.fz (.tuple (cs.map iD))), a2, some (.fz (.int much)), some (.fz (.int (j : Nat))), some (.fz (.list ks)), some (.fz (.int (m : Nat))), y7], st) := by
        unfold bodyF2
        exact seq_rt hf
      simp only [hb, Option.bind_some, outR]
    | none =>
      rw [hq] at hf
      obtain ⟨env', ih⟩ := loop_f2 T nd hc ht (much := much) K k9 (a2 := a2) ms true (some (.fz (.int (m : Nat)))) y7 (fun u hu => hm u (List.mem_cons_of_mem _ hu))
      refine ⟨env', ?_⟩
      have hb : bodyF2 (FF (k + 14)) [some (.fz (tsD ts)), some (.fz (.tuple (cs.map iD))), a2, some (.fz (.int much)), some (.fz (.int (j : Nat))), some (if b then .fz (.list ks) else .ow (.list ks)), some (.fz (.int (m : Nat))), z7] st = some (.nx, [some (.fz (tsD ts)), some (.fz (.tuple (cs.map iD))), a2, some (.fz (.int much)), some (.fz (.int (j : Nat))), some (.fz (.list ks)), some (.fz (.int (m : Nat))), y7], st) := by
        unfold bodyF2
        exact (seq_nx hf).trans rfl
      simp only [hb, Option.bind_some]
      exact ih
def plugsOf (ts : List Tb) (cs : List Int) (j : Nat) (much : Int) : Option (List D) := seek (doesB ts cs j much) ((List.range ((srtD (keysD ts)).length + 1)).map fun m => lots m (srtD (keysD ts)))
theorem f_fewest_plugs {ts : List Tb} (T : TsOk ts) (nd : (nms ts).Nodup) {cs : List Int} (hc : cs.length = ts.length) {j : Nat} {t : Tb} (ht : ts[j]? = some t) (much : Int) : FF (k + 15) "fewest_plugs" [.fz (tsD ts), .fz (.tuple (cs.map iD)), .fz (.str t.n), .fz (.int much)] st = some (.fz (tellR (plugsOf ts cs j much)), st) := by
  have hA := fun st => f_tub_at (k := k + 12) (st := st) T nd ht
  have hH := fun st => f_holes_of (k := k + 13) (st := st) T
  have K := keys_ok T
  have K2 := K.srt
  have l9 : (srtD (keysD ts)).length ≤ 9 := by rw [srt_len]; exact keys_len T
  have so : blD1 .sorted (.list (keysD ts)) = some (.ow (.list (srtD (keysD ts)))) := by
    unfold blD1
    simp only [K.sort, if_true]
  unfold plugsOf
  generalize hks : srtD (keysD ts) = ks at K2 l9 so ⊢
  obtain ⟨env', h⟩ := loop_f2 (k := k) (st := st) T nd hc ht (much := much) K2 l9 (a2 := some (.fz (.str t.n))) (List.range (ks.length + 1)) false none none (fun m hm => by have := List.mem_range.mp hm; omega)
  have s1 : frzS [0, 2] (asgF 4 (callF (FF (k + 14)) "tub_at" (argsF [(vE 0), (vE 2)]))) [some (.fz (tsD ts)), some (.fz (.tuple (cs.map iD))), some (.fz (.str t.n)), some (.fz (.int much)), none, none, none, none] st = some (.nx, [some (.fz (tsD ts)), some (.fz (.tuple (cs.map iD))), some (.fz (.str t.n)), some (.fz (.int much)), some (.fz (.int (j : Nat))), none, none, none], st) := by
    simp only [runM, seqS, frzS, frzs, frz1, retF, retS, ifS, skipS, andE, orE, notE, ifE, valF, vE, vV, kE, kV', callF, ar_nil, ar_cons, dn_fz, dn_ow, dn_bag, dn_scr, d_fz, d_ow, b_of, isiF, isD, blF, cmpF, chainF, orElse, lenS, bltF1, notT, andT, orT, tstF, l_list, l_tuple, l_all, l_listL, l_listT, l_tupL, l_tupT, l_abs, c_lt, c_le, c_gt, c_ge, c_eqI, c_neI, c_inS, c_niS, i_list, i_tuple, i_str, x_list, x_tuple, plainF, ixF, ixG, ixS, asgF, unpF, unF, setAll, List.length_cons, List.length_nil, List.map_cons, List.map_nil, if_true, if_false, List.cons_append, List.nil_append, List.append_nil, List.getElem?_cons_zero, List.getElem?_cons_succ, List.replicate, List.set_cons_zero, List.set_cons_succ, Option.bind_some, Option.map_some, Option.bind_none, Option.map_none, Bool.not_true, Bool.not_false, Bool.false_eq_true, Bool.or_false, Bool.or_true, Nat.reduceAdd, Nat.reduceSub, Nat.zero_add, decide_true, decide_false, Bool.true_and, Bool.false_and, Bool.and_true, Bool.and_false, hA]
  have s2 : frzS [0] (asgF 5 (bltF1 .sorted (valF (callF (FF (k + 14)) "holes_of" (argsF [(vE 0)]))))) [some (.fz (tsD ts)), some (.fz (.tuple (cs.map iD))), some (.fz (.str t.n)), some (.fz (.int much)), some (.fz (.int (j : Nat))), none, none, none] st = some (.nx, [some (.fz (tsD ts)), some (.fz (.tuple (cs.map iD))), some (.fz (.str t.n)), some (.fz (.int much)), some (.fz (.int (j : Nat))), some (.ow (.list ks)), none, none], st) := by
    simp only [runM, seqS, frzS, frzs, frz1, retF, retS, ifS, skipS, andE, orE, notE, ifE, valF, vE, vV, kE, kV', callF, ar_nil, ar_cons, dn_fz, dn_ow, dn_bag, dn_scr, d_fz, d_ow, b_of, isiF, isD, blF, cmpF, chainF, orElse, lenS, bltF1, notT, andT, orT, tstF, l_list, l_tuple, l_all, l_listL, l_listT, l_tupL, l_tupT, l_abs, c_lt, c_le, c_gt, c_ge, c_eqI, c_neI, c_inS, c_niS, i_list, i_tuple, i_str, x_list, x_tuple, plainF, ixF, ixG, ixS, asgF, unpF, unF, setAll, List.length_cons, List.length_nil, List.map_cons, List.map_nil, if_true, if_false, List.cons_append, List.nil_append, List.append_nil, List.getElem?_cons_zero, List.getElem?_cons_succ, List.replicate, List.set_cons_zero, List.set_cons_succ, Option.bind_some, Option.map_some, Option.bind_none, Option.map_none, Bool.not_true, Bool.not_false, Bool.false_eq_true, Bool.or_false, Bool.or_true, Nat.reduceAdd, Nat.reduceSub, Nat.zero_add, decide_true, decide_false, Bool.true_and, Bool.false_and, Bool.and_true, Bool.and_false, hH, so]
  have s3 : frzS [] (forF (rangeF (valF (binF .Add (valF (orElse (lenS 5) (bltF1 .len (vV 5)))) (valF (kE (.int 1)))))) (setF 6) (bodyF2 (FF (k + 14)))) [some (.fz (tsD ts)), some (.fz (.tuple (cs.map iD))), some (.fz (.str t.n)), some (.fz (.int much)), some (.fz (.int (j : Nat))), some (.ow (.list ks)), none, none] st = some (outR (seek (doesB ts cs j much) ((List.range (ks.length + 1)).map fun m => lots m ks)), env', st) := by
    have hr : rangeF (valF (binF .Add (valF (orElse (lenS 5) (bltF1 .len (vV 5)))) (valF (kE (.int 1))))) [some (.fz (tsD ts)), some (.fz (.tuple (cs.map iD))), some (.fz (.str t.n)), some (.fz (.int much)), some (.fz (.int (j : Nat))), some (.ow (.list ks)), none, none] st = some (rangeD (ks.length + 1), st) := by
      refine range_i (n := ((ks.length + 1 : Nat) : Int)) ?_ (by omega) (by omega)
      simp only [runM, seqS, frzS, frzs, frz1, retF, retS, ifS, skipS, andE, orE, notE, ifE, valF, vE, vV, kE, kV', callF, ar_nil, ar_cons, dn_fz, dn_ow, dn_bag, dn_scr, d_fz, d_ow, b_of, isiF, isD, blF, cmpF, chainF, orElse, lenS, bltF1, notT, andT, orT, tstF, l_list, l_tuple, l_all, l_listL, l_listT, l_tupL, l_tupT, l_abs, c_lt, c_le, c_gt, c_ge, c_eqI, c_neI, c_inS, c_niS, i_list, i_tuple, i_str, x_list, x_tuple, plainF, ixF, ixG, ixS, asgF, unpF, unF, setAll, List.length_cons, List.length_nil, List.map_cons, List.map_nil, if_true, if_false, List.cons_append, List.nil_append, List.append_nil, List.getElem?_cons_zero, List.getElem?_cons_succ, List.replicate, List.set_cons_zero, List.set_cons_succ, Option.bind_some, Option.map_some, Option.bind_none, Option.map_none, Bool.not_true, Bool.not_false, Bool.false_eq_true, Bool.or_false, Bool.or_true, Nat.reduceAdd, Nat.reduceSub, Nat.zero_add, decide_true, decide_false, Bool.true_and, Bool.false_and, Bool.and_true, Bool.and_false, binF, b_add]
      rfl
    unfold frzS forF
    simp only [frzs, hr, Option.bind_some]
    exact h
  unfold FF at s1 s2 s3 ⊢
  rw [e_fewest_plugs]
  cases hq : seek (doesB ts cs j much) ((List.range (ks.length + 1)).map fun m => lots m ks) with
  | some l =>
    rw [hq] at s3
    refine run_rt (env1 := env') rfl ?_
    unfold m_fewest_plugs
    exact (seq_nx s1).trans ((seq_nx s2).trans (seq_rt s3))
  | none =>
    rw [hq] at s3
    refine run_rt (env1 := env') rfl ?_
    unfold m_fewest_plugs
    exact (seq_nx s1).trans ((seq_nx s2).trans ((seq_nx s3).trans rfl))
end K08

set_option maxHeartbeats 4000000
namespace K08
open PySem PySem.Spec PyProof.Rows L2 Iv
local instance nmZ_K08X : Iv.Nm := Iv.nmZ
variable {k : Nat} {st : BSt}
noncomputable def bodyG0 : SF := (seqS (frzS [5, 7] (asgF 4 (binF .Add (vV 4) (valF (lcF (plainF (vE 7)) [8] (setF 8) yesT (tupF (argsF [(vE 5), (orElse (ixS 8 (valF (kE (.int 0)))) (ixG (vV 8) (valF (kE (.int 0)))))])))))))
    skipS)
theorem loop_g0 {a0 a1 a2 a3 a9 a10 : Option R} : ∀ (r : List Tb) (acc : List D) (z5 z6 z7 z8 : Option R), (∀ t ∈ r, t.hs.length ≤ 3) → acc.length + 3 * r.length ≤ 1000 →
    ∃ y5 y6 y7, forL (unF [5, 6, 7]) bodyG0 (r.map Tb.d) [a0, a1, a2, a3, some (.ow (.list acc)), z5, z6, z7, z8, a9, a10] st = some (.nx, [a0, a1, a2, a3, some (.ow (.list (acc ++ keysD r))), y5, y6, y7, z8, a9, a10], st)
  | [], acc, z5, z6, z7, z8, _, _ => ⟨z5, z6, z7, by rw [show keysD [] = ([] : List D) from rfl, List.append_nil]; rfl⟩
  | t :: r, acc, z5, z6, z7, z8, ht, hn => by
    simp only [List.length_cons] at hn
    have h3 := ht t List.mem_cons_self
    obtain ⟨y5, y6, y7, ih⟩ := loop_g0 (a0 := a0) (a1 := a1) (a2 := a2) (a3 := a3) (a9 := a9) (a10 := a10) r (acc ++ t.hs.map fun x => kyD t.n x.h) (some (.fz (.str t.n))) (some (.fz (.int t.g))) (some (.fz (.tuple (t.hs.map Hl.d)))) z8 (fun u hu => ht u (List.mem_cons_of_mem _ hu)) (by rw [List.length_append, List.length_map]; omega)
    refine ⟨y5, y6, y7, ?_⟩
    have hg : unF [5, 6, 7] t.d [a0, a1, a2, a3, some (.ow (.list acc)), z5, z6, z7, z8, a9, a10] = some [a0, a1, a2, a3, some (.ow (.list acc)), some (.fz (.str t.n)), some (.fz (.int t.g)), some (.fz (.tuple (t.hs.map Hl.d))), z8, a9, a10] := rfl
    have hi : lcF (plainF (vE 7)) [8] (setF 8) yesT (tupF (argsF [(vE 5), (orElse (ixS 8 (valF (kE (.int 0)))) (ixG (vV 8) (valF (kE (.int 0)))))])) [a0, a1, a2, a3, some (.ow (.list acc)), some (.fz (.str t.n)), some (.fz (.int t.g)), some (.fz (.tuple (t.hs.map Hl.d))), z8, a9, a10] st = some (.ow (.list (t.hs.map fun x => kyD t.n x.h)), st) := by
      rw [lcF_def]
      have hp : plainF (vE 7) [a0, a1, a2, a3, some (.ow (.list acc)), some (.fz (.str t.n)), some (.fz (.int t.g)), some (.fz (.tuple (t.hs.map Hl.d))), z8, a9, a10] st = some (t.hs.map Hl.d, st) := rfl
      rw [hp]
      simp only [Option.bind_some]
      rw [lc_pairs (d := Hl.d) (x := fun x => kyD t.n x.h)]
      · rfl
      · intro x _
        refine ⟨[a0, a1, a2, a3, some (.ow (.list acc)), some (.fz (.str t.n)), some (.fz (.int t.g)), some (.fz (.tuple (t.hs.map Hl.d))), some (.fz x.d), a9, a10], .fz (kyD t.n x.h), rfl, ?_, rfl⟩
        have hy : ∀ a b c : D, atI [a, b, c] 0 = some a := fun _ _ _ => rfl
        simp only [runM, seqS, frzS, frzs, frz1, retF, retS, ifS, skipS, andE, orE, notE, ifE, valF, vE, vV, kE, kV', callF, ar_nil, ar_cons, dn_fz, dn_ow, dn_bag, dn_scr, d_fz, d_ow, b_of, isiF, isD, blF, cmpF, chainF, orElse, lenS, bltF1, notT, andT, orT, tstF, l_list, l_tuple, l_all, l_listL, l_listT, l_tupL, l_tupT, l_abs, c_lt, c_le, c_gt, c_ge, c_eqI, c_neI, c_inS, c_niS, i_list, i_tuple, i_str, x_list, x_tuple, plainF, ixF, ixG, ixS, asgF, unpF, unF, setAll, List.length_cons, List.length_nil, List.map_cons, List.map_nil, if_true, if_false, List.cons_append, List.nil_append, List.append_nil, List.getElem?_cons_zero, List.getElem?_cons_succ, List.replicate, List.set_cons_zero, List.set_cons_succ, Option.bind_some, Option.map_some, Option.bind_none, Option.map_none, Bool.not_true, Bool.not_false, Bool.false_eq_true, Bool.or_false, Bool.or_true, Nat.reduceAdd, Nat.reduceSub, Nat.zero_add, decide_true, decide_false, Bool.true_and, Bool.false_and, Bool.and_true, Bool.and_false, tupF, ds_fz, ds_nil, lenOk_of, Nat.reduceLeDiff, Hl.d, hy, kyD]
      · rw [List.length_nil]; omega
    have hb : bodyG0 [a0, a1, a2, a3, some (.ow (.list acc)), some (.fz (.str t.n)), some (.fz (.int t.g)), some (.fz (.tuple (t.hs.map Hl.d))), z8, a9, a10] st = some (.nx, [a0, a1, a2, a3, some (.ow (.list (acc ++ t.hs.map fun x => kyD t.n x.h))), some (.fz (.str t.n)), some (.fz (.int t.g)), some (.fz (.tuple (t.hs.map Hl.d))), z8, a9, a10], st) := by
      unfold bodyG0
      have a := b_addL (xs := acc) (ys := t.hs.map fun x => kyD t.n x.h) (by rw [List.length_map]; omega)
      generalize lcF (plainF (vE 7)) [8] (setF 8) yesT (tupF (argsF [(vE 5), (orElse (ixS 8 (valF (kE (.int 0)))) (ixG (vV 8) (valF (kE (.int 0)))))])) = LF at hi ⊢
      simp only [runM, seqS, frzS, frzs, frz1, retF, retS, ifS, skipS, andE, orE, notE, ifE, valF, vE, vV, kE, kV', callF, ar_nil, ar_cons, dn_fz, dn_ow, dn_bag, dn_scr, d_fz, d_ow, b_of, isiF, isD, blF, cmpF, chainF, orElse, lenS, bltF1, notT, andT, orT, tstF, l_list, l_tuple, l_all, l_listL, l_listT, l_tupL, l_tupT, l_abs, c_lt, c_le, c_gt, c_ge, c_eqI, c_neI, c_inS, c_niS, i_list, i_tuple, i_str, x_list, x_tuple, plainF, ixF, ixG, ixS, asgF, unpF, unF, setAll, List.length_cons, List.length_nil, List.map_cons, List.map_nil, if_true, if_false, List.cons_append, List.nil_append, List.append_nil, List.getElem?_cons_zero, List.getElem?_cons_succ, List.replicate, List.set_cons_zero, List.set_cons_succ, Option.bind_some, Option.map_some, Option.bind_none, Option.map_none, Bool.not_true, Bool.not_false, Bool.false_eq_true, Bool.or_false, Bool.or_true, Nat.reduceAdd, Nat.reduceSub, Nat.zero_add, decide_true, decide_false, Bool.true_and, Bool.false_and, Bool.and_true, Bool.and_false, hi, binF, a]
    rw [List.map_cons]
    unfold forL
    simp only [hg, Option.bind_some, hb, ih]
    rw [List.append_assoc]; rfl
noncomputable def bodyG1 (F : FT) : SF := (seqS (frzS [0, 10, 1] (ifS (cmpF .GtE (valF (ixG (valF (ixG (valF (callF F "_law_ends" (argsF [(callF F "_law_plugged" (argsF [(vE 0), (vE 10)])), (vE 1)]))) (valF (kE (.int 0))))) (vV 2))) (vV 3)) (seqS (frzS [] (retS 10 (retF (vE 10))))
    skipS) skipS))
    skipS)
theorem loop_g1 {ts : List Tb} (T : TsOk ts) (nd : (nms ts).Nodup) {cs : List Int} (hc : cs.length = ts.length) {j : Nat} {t : Tb} (ht : ts[j]? = some t) {much : Int} {a4 a5 a6 a7 a8 a9 : Option R} : ∀ (L : List (List D)) (z : Option R), (∀ l ∈ L, KeysOk l) →
    ∃ y, forL (setF 10) (bodyG1 (FF (k + 1))) (L.map .tuple) [some (.fz (tsD ts)), some (.fz (.tuple (cs.map iD))), some (.fz (.int (j : Nat))), some (.fz (.int much)), a4, a5, a6, a7, a8, a9, z] st = some (outR (L.find? (doesB ts cs j much)), [some (.fz (tsD ts)), some (.fz (.tuple (cs.map iD))), some (.fz (.int (j : Nat))), some (.fz (.int much)), a4, a5, a6, a7, a8, a9, y], st)
  | [], z, _ => ⟨z, rfl⟩
  | l :: L, z, hK => by
    have hl := hK l List.mem_cons_self
    have hW := fun st => f_law_plugged (k := k) (st := st) T hl
    have hC := fun st => f_law_ends (k := k) (st := st) (plug_ok T l) (by rw [nms_plug]; exact nd) cs (by rw [plug_len]; exact hc)
    generalize letAll (nms (plug ts l)) 0 (plug ts l) cs [] = LD at hC
    have hx : atI ((flowC (nms (plug ts l)) 0 (plug ts l) cs).map iD) ((j : Nat) : Int) = some (.int ((fl (plug ts l) cs).getD j 0)) := atI_nat (by
      have := fl_get (ts := plug ts l) (by rw [plug_len]; exact hc) (plug_get ht l)
      unfold fl at this ⊢
      rw [List.getElem?_map, this]; rfl)
    have hy : ∀ a b : D, atI [a, b] 0 = some a := fun _ _ => rfl
    obtain ⟨y, ih⟩ := loop_g1 T nd hc ht (much := much) (a4 := a4) (a5 := a5) (a6 := a6) (a7 := a7) (a8 := a8) (a9 := a9) L (some (.fz (.tuple l))) (fun o ho => hK o (List.mem_cons_of_mem _ ho))
    rw [List.map_cons, List.find?_cons]
    have hg : setF 10 (.tuple l) [some (.fz (tsD ts)), some (.fz (.tuple (cs.map iD))), some (.fz (.int (j : Nat))), some (.fz (.int much)), a4, a5, a6, a7, a8, a9, z] = some [some (.fz (tsD ts)), some (.fz (.tuple (cs.map iD))), some (.fz (.int (j : Nat))), some (.fz (.int much)), a4, a5, a6, a7, a8, a9, some (.fz (.tuple l))] := rfl
    unfold forL
    simp only [hg, Option.bind_some]
    cases hq : doesB ts cs j much l with
    | true =>
      refine ⟨some (.fz (.tuple l)), ?_⟩
      have hq : decide (much ≤ (fl (plug ts l) cs).getD j 0) = true := hq
      have hb : bodyG1 (FF (k + 1)) [some (.fz (tsD ts)), some (.fz (.tuple (cs.map iD))), some (.fz (.int (j : Nat))), some (.fz (.int much)), a4, a5, a6, a7, a8, a9, some (.fz (.tuple l))] st = some (.rt (.fz (.tuple l)), [some (.fz (tsD ts)), some (.fz (.tuple (cs.map iD))), some (.fz (.int (j : Nat))), some (.fz (.int much)), a4, a5, a6, a7, a8, a9, some (.fz (.tuple l))], st) := by
        unfold bodyG1
        simp only [runM, seqS, frzS, frzs, frz1, retF, retS, ifS, skipS, andE, orE, notE, ifE, valF, vE, vV, kE, kV', callF, ar_nil, ar_cons, dn_fz, dn_ow, dn_bag, dn_scr, d_fz, d_ow, b_of, isiF, isD, blF, cmpF, chainF, orElse, lenS, bltF1, notT, andT, orT, tstF, l_list, l_tuple, l_all, l_listL, l_listT, l_tupL, l_tupT, l_abs, c_lt, c_le, c_gt, c_ge, c_eqI, c_neI, c_inS, c_niS, i_list, i_tuple, i_str, x_list, x_tuple, plainF, ixF, ixG, ixS, asgF, unpF, unF, setAll, List.length_cons, List.length_nil, List.map_cons, List.map_nil, if_true, if_false, List.cons_append, List.nil_append, List.append_nil, List.getElem?_cons_zero, List.getElem?_cons_succ, List.replicate, List.set_cons_zero, List.set_cons_succ, Option.bind_some, Option.map_some, Option.bind_none, Option.map_none, Bool.not_true, Bool.not_false, Bool.false_eq_true, Bool.or_false, Bool.or_true, Nat.reduceAdd, Nat.reduceSub, Nat.zero_add, decide_true, decide_false, Bool.true_and, Bool.false_and, Bool.and_true, Bool.and_false, hW, hC, hx, hy, hq]
      simp only [hb, Option.bind_some, outR]
    | false =>
      refine ⟨y, ?_⟩
      have hq : decide (much ≤ (fl (plug ts l) cs).getD j 0) = false := hq
      have hb : bodyG1 (FF (k + 1)) [some (.fz (tsD ts)), some (.fz (.tuple (cs.map iD))), some (.fz (.int (j : Nat))), some (.fz (.int much)), a4, a5, a6, a7, a8, a9, some (.fz (.tuple l))] st = some (.nx, [some (.fz (tsD ts)), some (.fz (.tuple (cs.map iD))), some (.fz (.int (j : Nat))), some (.fz (.int much)), a4, a5, a6, a7, a8, a9, some (.fz (.tuple l))], st) := by
        unfold bodyG1
        simp only [runM, seqS, frzS, frzs, frz1, retF, retS, ifS, skipS, andE, orE, notE, ifE, valF, vE, vV, kE, kV', callF, ar_nil, ar_cons, dn_fz, dn_ow, dn_bag, dn_scr, d_fz, d_ow, b_of, isiF, isD, blF, cmpF, chainF, orElse, lenS, bltF1, notT, andT, orT, tstF, l_list, l_tuple, l_all, l_listL, l_listT, l_tupL, l_tupT, l_abs, c_lt, c_le, c_gt, c_ge, c_eqI, c_neI, c_inS, c_niS, i_list, i_tuple, i_str, x_list, x_tuple, plainF, ixF, ixG, ixS, asgF, unpF, unF, setAll, List.length_cons, List.length_nil, List.map_cons, List.map_nil, if_true, if_false, List.cons_append, List.nil_append, List.append_nil, List.getElem?_cons_zero, List.getElem?_cons_succ, List.replicate, List.set_cons_zero, List.set_cons_succ, Option.bind_some, Option.map_some, Option.bind_none, Option.map_none, Bool.not_true, Bool.not_false, Bool.false_eq_true, Bool.or_false, Bool.or_true, Nat.reduceAdd, Nat.reduceSub, Nat.zero_add, decide_true, decide_false, Bool.true_and, Bool.false_and, Bool.and_true, Bool.and_false, hW, hC, hx, hy, hq]
      simp only [hb, Option.bind_some]
      exact ih
noncomputable def bodyG2 (F : FT) : SF := (seqS (frzS [4, 9] (forF (plainF (callF F "_law_lots" (argsF [(vE 4), (vE 9)]))) (setF 10) (bodyG1 F)))
    skipS)
theorem loop_g2 {ts : List Tb} (T : TsOk ts) (nd : (nms ts).Nodup) {cs : List Int} (hc : cs.length = ts.length) {j : Nat} {t : Tb} (ht : ts[j]? = some t) {much : Int} {ks : List D} (K : KeysOk ks) (k9 : ks.length ≤ 9) {a5 a6 a7 a8 : Option R} : ∀ (ms : List Nat) (b : Bool) (z9 z10 : Option R), (∀ m ∈ ms, m ≤ 9) →
    ∃ env', forL (setF 9) (bodyG2 (FF (k + 14))) (ms.map fun m => .int (m : Nat)) [some (.fz (tsD ts)), some (.fz (.tuple (cs.map iD))), some (.fz (.int (j : Nat))), some (.fz (.int much)), some (if b then .fz (.list ks) else .ow (.list ks)), a5, a6, a7, a8, z9, z10] st = some (outR (seek (doesB ts cs j much) (ms.map fun m => lots m ks)), env', st)
  | [], b, z9, z10, _ => ⟨_, rfl⟩
  | m :: ms, b, z9, z10, hm => by
    have h9 := hm m List.mem_cons_self
    have hCh := f_law_lots (k := k + 13 - m) m (by omega) ks k9
    rw [show k + 13 - m + m + 1 = k + 14 by omega] at hCh
    obtain ⟨y, h⟩ := loop_g1 (k := k + 13) (st := st) T nd hc ht (much := much) (a4 := some (.fz (.list ks))) (a5 := a5) (a6 := a6) (a7 := a7) (a8 := a8) (a9 := some (.fz (.int (m : Nat)))) (lots m ks) z10 (lots_keys K)
    have hg : setF 9 (.int (m : Nat)) [some (.fz (tsD ts)), some (.fz (.tuple (cs.map iD))), some (.fz (.int (j : Nat))), some (.fz (.int much)), some (if b then .fz (.list ks) else .ow (.list ks)), a5, a6, a7, a8, z9, z10] = some [some (.fz (tsD ts)), some (.fz (.tuple (cs.map iD))), some (.fz (.int (j : Nat))), some (.fz (.int much)), some (if b then .fz (.list ks) else .ow (.list ks)), a5, a6, a7, a8, some (.fz (.int (m : Nat))), z10] := rfl
    have hf : frzS [4, 9] (forF (plainF (callF (FF (k + 14)) "_law_lots" (argsF [(vE 4), (vE 9)]))) (setF 10) (bodyG1 (FF (k + 14)))) [some (.fz (tsD ts)), some (.fz (.tuple (cs.map iD))), some (.fz (.int (j : Nat))), some (.fz (.int much)), some (if b then .fz (.list ks) else .ow (.list ks)), a5, a6, a7, a8, some (.fz (.int (m : Nat))), z10] st = some (outR ((lots m ks).find? (doesB ts cs j much)), [some (.fz (tsD ts)), some (.fz (.tuple (cs.map iD))), some (.fz (.int (j : Nat))), some (.fz (.int much)), some (.fz (.list ks)), a5, a6, a7, a8, some (.fz (.int (m : Nat))), y], st) := by
      have hp : plainF (callF (FF (k + 14)) "_law_lots" (argsF [(vE 4), (vE 9)])) [some (.fz (tsD ts)), some (.fz (.tuple (cs.map iD))), some (.fz (.int (j : Nat))), some (.fz (.int much)), some (.fz (.list ks)), a5, a6, a7, a8, some (.fz (.int (m : Nat))), z10] st = some ((lots m ks).map .tuple, st) := by
        simp only [runM, seqS, frzS, frzs, frz1, retF, retS, ifS, skipS, andE, orE, notE, ifE, valF, vE, vV, kE, kV', callF, ar_nil, ar_cons, dn_fz, dn_ow, dn_bag, dn_scr, d_fz, d_ow, b_of, isiF, isD, blF, cmpF, chainF, orElse, lenS, bltF1, notT, andT, orT, tstF, l_list, l_tuple, l_all, l_listL, l_listT, l_tupL, l_tupT, l_abs, c_lt, c_le, c_gt, c_ge, c_eqI, c_neI, c_inS, c_niS, i_list, i_tuple, i_str, x_list, x_tuple, plainF, ixF, ixG, ixS, asgF, unpF, unF, setAll, List.length_cons, List.length_nil, List.map_cons, List.map_nil, if_true, if_false, List.cons_append, List.nil_append, List.append_nil, List.getElem?_cons_zero, List.getElem?_cons_succ, List.replicate, List.set_cons_zero, List.set_cons_succ, Option.bind_some, Option.map_some, Option.bind_none, Option.map_none, Bool.not_true, Bool.not_false, Bool.false_eq_true, Bool.or_false, Bool.or_true, Nat.reduceAdd, Nat.reduceSub, Nat.zero_add, decide_true, decide_false, Bool.true_and, Bool.false_and, Bool.and_true, Bool.and_false, hCh]
      unfold frzS forF
      cases b with
      | true =>
        simp only [frzs, frz1, List.getElem?_cons_succ, List.getElem?_cons_zero, if_true, hp, Option.bind_some]
        exact h
      | false =>
        simp only [frzs, frz1, List.getElem?_cons_succ, List.getElem?_cons_zero, Bool.false_eq_true, if_false, List.set_cons_succ, List.set_cons_zero, hp, Option.bind_some]
        exact h
    rw [List.map_cons, List.map_cons]
    unfold forL seek
    simp only [hg, Option.bind_some]
    cases hq : (lots m ks).find? (doesB ts cs j much) with
    | some l =>
      rw [hq] at hf
      refine ⟨[some (.fz (tsD ts)), some (.fz (.tuple (cs.map iD))), some (.fz (.int (j : Nat))), some (.fz (.int much)), some (.fz (.list ks)), a5, a6, a7, a8, some (.fz (.int (m : Nat))), y], ?_⟩
      have hb : bodyG2 (FF (k + 14)) [some (.fz (tsD ts)), some (.fz (.tuple (cs.map iD))), some (.fz (.int (j : Nat))), some (.fz (.int much)), some (if b then .fz (.list ks) else .ow (.list ks)), a5, a6, a7, a8, some (.fz (.int (m : Nat))), z10] st = some (.rt (.fz (.tuple l)), [some (.fz (tsD ts)), some (.fz (.tuple (cs.map iD))), some (.fz (.int (j : Nat))), some (.fz (.int much)), some (.fz (.list ks)), a5, a6, a7, a8, some (.fz (.int (m : Nat))), y], st) := by
        unfold bodyG2
        exact seq_rt hf
      simp only [hb, Option.bind_some, outR]
    | none =>
      rw [hq] at hf
      obtain ⟨env', ih⟩ := loop_g2 T nd hc ht (much := much) K k9 (a5 := a5) (a6 := a6) (a7 := a7) (a8 := a8) ms true (some (.fz (.int (m : Nat)))) y (fun u hu => hm u (List.mem_cons_of_mem _ hu))
      refine ⟨env', ?_⟩
      have hb : bodyG2 (FF (k + 14)) [some (.fz (tsD ts)), some (.fz (.tuple (cs.map iD))), some (.fz (.int (j : Nat))), some (.fz (.int much)), some (if b then .fz (.list ks) else .ow (.list ks)), a5, a6, a7, a8, some (.fz (.int (m : Nat))), z10] st = some (.nx, [some (.fz (tsD ts)), some (.fz (.tuple (cs.map iD))), some (.fz (.int (j : Nat))), some (.fz (.int much)), some (.fz (.list ks)), a5, a6, a7, a8, some (.fz (.int (m : Nat))), y], st) := by
        unfold bodyG2
        exact (seq_nx hf).trans rfl
      simp only [hb, Option.bind_some]
      exact ih
theorem f_law_plugs {ts : List Tb} (T : TsOk ts) (nd : (nms ts).Nodup) {cs : List Int} (hc : cs.length = ts.length) {j : Nat} {t : Tb} (ht : ts[j]? = some t) (much : Int) : FF (k + 15) "_law_plugs" [.fz (tsD ts), .fz (.tuple (cs.map iD)), .fz (.int (j : Nat)), .fz (.int much)] st = some (.fz (tellR (plugsOf ts cs j much)), st) := by
  have hl := T.len
  have K := keys_ok T
  have K2 := K.srt
  have l9 : (srtD (keysD ts)).length ≤ 9 := by rw [srt_len]; exact keys_len T
  have so : blD1 .sorted (.list (keysD ts)) = some (.ow (.list (srtD (keysD ts)))) := by
    unfold blD1
    simp only [K.sort, if_true]
  obtain ⟨y5, y6, y7, h0⟩ := loop_g0 (st := st) (a0 := some (.fz (tsD ts))) (a1 := some (.fz (.tuple (cs.map iD)))) (a2 := some (.fz (.int (j : Nat)))) (a3 := some (.fz (.int much))) (a9 := none) (a10 := none) ts [] none none none none (fun t ht => (T.hs t ht).1) (by simp; omega)
  rw [List.nil_append] at h0
  unfold plugsOf
  generalize hks : srtD (keysD ts) = ks at K2 l9 so ⊢
  obtain ⟨env', h⟩ := loop_g2 (k := k) (st := st) T nd hc ht (much := much) K2 l9 (a5 := y5) (a6 := y6) (a7 := y7) (a8 := none) (List.range (ks.length + 1)) false none none (fun m hm => by have := List.mem_range.mp hm; omega)
  have s2 : frzS [] (asgF 4 (bltF1 .sorted (vV 4))) [some (.fz (tsD ts)), some (.fz (.tuple (cs.map iD))), some (.fz (.int (j : Nat))), some (.fz (.int much)), some (.ow (.list (keysD ts))), y5, y6, y7, none, none, none] st = some (.nx, [some (.fz (tsD ts)), some (.fz (.tuple (cs.map iD))), some (.fz (.int (j : Nat))), some (.fz (.int much)), some (.ow (.list ks)), y5, y6, y7, none, none, none], st) := by
    simp only [runM, seqS, frzS, frzs, frz1, retF, retS, ifS, skipS, andE, orE, notE, ifE, valF, vE, vV, kE, kV', callF, ar_nil, ar_cons, dn_fz, dn_ow, dn_bag, dn_scr, d_fz, d_ow, b_of, isiF, isD, blF, cmpF, chainF, orElse, lenS, bltF1, notT, andT, orT, tstF, l_list, l_tuple, l_all, l_listL, l_listT, l_tupL, l_tupT, l_abs, c_lt, c_le, c_gt, c_ge, c_eqI, c_neI, c_inS, c_niS, i_list, i_tuple, i_str, x_list, x_tuple, plainF, ixF, ixG, ixS, asgF, unpF, unF, setAll, List.length_cons, List.length_nil, List.map_cons, List.map_nil, if_true, if_false, List.cons_append, List.nil_append, List.append_nil, List.getElem?_cons_zero, List.getElem?_cons_succ, List.replicate, List.set_cons_zero, List.set_cons_succ, Option.bind_some, Option.map_some, Option.bind_none, Option.map_none, Bool.not_true, Bool.not_false, Bool.false_eq_true, Bool.or_false, Bool.or_true, Nat.reduceAdd, Nat.reduceSub, Nat.zero_add, decide_true, decide_false, Bool.true_and, Bool.false_and, Bool.and_true, Bool.and_false, so]
  have s3 : frzS [] (forF (rangeF (valF (binF .Add (valF (orElse (lenS 4) (bltF1 .len (vV 4)))) (valF (kE (.int 1)))))) (setF 9) (bodyG2 (FF (k + 14)))) [some (.fz (tsD ts)), some (.fz (.tuple (cs.map iD))), some (.fz (.int (j : Nat))), some (.fz (.int much)), some (.ow (.list ks)), y5, y6, y7, none, none, none] st = some (outR (seek (doesB ts cs j much) ((List.range (ks.length + 1)).map fun m => lots m ks)), env', st) := by
    have hr : rangeF (valF (binF .Add (valF (orElse (lenS 4) (bltF1 .len (vV 4)))) (valF (kE (.int 1))))) [some (.fz (tsD ts)), some (.fz (.tuple (cs.map iD))), some (.fz (.int (j : Nat))), some (.fz (.int much)), some (.ow (.list ks)), y5, y6, y7, none, none, none] st = some (rangeD (ks.length + 1), st) := by
      refine range_i (n := ((ks.length + 1 : Nat) : Int)) ?_ (by omega) (by omega)
      simp only [runM, seqS, frzS, frzs, frz1, retF, retS, ifS, skipS, andE, orE, notE, ifE, valF, vE, vV, kE, kV', callF, ar_nil, ar_cons, dn_fz, dn_ow, dn_bag, dn_scr, d_fz, d_ow, b_of, isiF, isD, blF, cmpF, chainF, orElse, lenS, bltF1, notT, andT, orT, tstF, l_list, l_tuple, l_all, l_listL, l_listT, l_tupL, l_tupT, l_abs, c_lt, c_le, c_gt, c_ge, c_eqI, c_neI, c_inS, c_niS, i_list, i_tuple, i_str, x_list, x_tuple, plainF, ixF, ixG, ixS, asgF, unpF, unF, setAll, List.length_cons, List.length_nil, List.map_cons, List.map_nil, if_true, if_false, List.cons_append, List.nil_append, List.append_nil, List.getElem?_cons_zero, List.getElem?_cons_succ, List.replicate, List.set_cons_zero, List.set_cons_succ, Option.bind_some, Option.map_some, Option.bind_none, Option.map_none, Bool.not_true, Bool.not_false, Bool.false_eq_true, Bool.or_false, Bool.or_true, Nat.reduceAdd, Nat.reduceSub, Nat.zero_add, decide_true, decide_false, Bool.true_and, Bool.false_and, Bool.and_true, Bool.and_false, binF, b_add]
      rfl
    unfold frzS forF
    simp only [frzs, hr, Option.bind_some]
    exact h
  have s1 : frzS [0] (forF (plainF (vE 0)) (unF [5, 6, 7]) bodyG0) [some (.fz (tsD ts)), some (.fz (.tuple (cs.map iD))), some (.fz (.int (j : Nat))), some (.fz (.int much)), some (.ow (.list [])), none, none, none, none, none, none] st = some (.nx, [some (.fz (tsD ts)), some (.fz (.tuple (cs.map iD))), some (.fz (.int (j : Nat))), some (.fz (.int much)), some (.ow (.list (keysD ts))), y5, y6, y7, none, none, none], st) := h0
  unfold FF at s3 ⊢
  rw [e__law_plugs]
  cases hq : seek (doesB ts cs j much) ((List.range (ks.length + 1)).map fun m => lots m ks) with
  | some l =>
    rw [hq] at s3
    refine run_rt (env1 := env') rfl ?_
    unfold m__law_plugs
    exact (seq_nx (env1 := [some (.fz (tsD ts)), some (.fz (.tuple (cs.map iD))), some (.fz (.int (j : Nat))), some (.fz (.int much)), some (.ow (.list [])), none, none, none, none, none, none]) (st1 := st) rfl).trans ((seq_nx s1).trans ((seq_nx s2).trans (seq_rt s3)))
  | none =>
    rw [hq] at s3
    refine run_rt (env1 := env') rfl ?_
    unfold m__law_plugs
    exact (seq_nx (env1 := [some (.fz (tsD ts)), some (.fz (.tuple (cs.map iD))), some (.fz (.int (j : Nat))), some (.fz (.int much)), some (.ow (.list [])), none, none, none, none, none, none]) (st1 := st) rfl).trans ((seq_nx s1).trans ((seq_nx s2).trans ((seq_nx s3).trans rfl)))
/-- what is told of plugs equals itself -/
theorem seek_keys {P : List D → Bool} : ∀ {Ls : List (List (List D))} {l : List D}, seek P Ls = some l → ∃ L ∈ Ls, l ∈ L
  | L :: r, l, h => by
    unfold seek at h
    split at h
    · rename_i l' e
      cases h
      exact ⟨L, List.mem_cons_self, List.mem_of_find?_eq_some e⟩
    · obtain ⟨L', h1, h2⟩ := seek_keys h
      exact ⟨L', List.mem_cons_of_mem _ h1, h2⟩
theorem tell_ne {ts : List Tb} (T : TsOk ts) (cs : List Int) (j : Nat) (much : Int) : cmpD .NotEq (tellR (plugsOf ts cs j much)) (tellR (plugsOf ts cs j much)) = some false := by
  refine c_neR ?_
  cases e : plugsOf ts cs j much with
  | none => rfl
  | some l =>
    obtain ⟨L, h1, h2⟩ := seek_keys e
    obtain ⟨m, _, rfl⟩ := List.mem_map.mp h1
    exact sh_t (lots_keys (keys_ok T).srt l h2).lay
end K08

set_option maxHeartbeats 4000000
namespace K08
open PySem PySem.Spec PyProof.Rows L2 Iv
local instance nmZ_K08Y : Iv.Nm := Iv.nmZ
variable {k : Nat} {st : BSt}
/-! ### what each hole lets -/
def flowV (names : List Str) : Nat → List Tb → List Int → List (List Int)
  | _, [], _ => []
  | i, t :: r, cs => shareI t.hs (cs.getD i 0) :: flowV names (i + 1) r (pour names cs (t.hs.zip (shareI t.hs (cs.getD i 0))))
theorem flowL_V (names : List Str) : ∀ (r : List Tb) (i : Nat) (cs : List Int), flowL names i r cs = (flowV names i r cs).map fun l => .list (l.map iD)
  | [], _, _ => rfl
  | t :: r, i, cs => by unfold flowL flowV; rw [flowL_V names r]; rfl
theorem flowV_get (names : List Str) : ∀ (r : List Tb) (i : Nat) (cs : List Int) (j : Nat) (t : Tb), r[j]? = some t → ∃ l, (flowV names i r cs)[j]? = some l ∧ l.length = t.hs.length
  | [], _, _, j, t, h => by simp at h
  | u :: r, i, cs, 0, t, h => by cases h; exact ⟨_, rfl, share_len _ _⟩
  | u :: r, i, cs, j + 1, t, h => by
    obtain ⟨l, h1, h2⟩ := flowV_get names r (i + 1) (pour names cs (u.hs.zip (shareI u.hs (cs.getD i 0)))) j t (by simpa using h)
    exact ⟨l, by unfold flowV; simpa using h1, h2⟩
def vAt (ts : List Tb) (cs : List Int) (j w : Nat) : Int := ((flowV (nms ts) 0 ts cs).getD j []).getD w 0
theorem vAt_get {ts : List Tb} {cs : List Int} {j w : Nat} {t : Tb} {x : Hl} (h1 : ts[j]? = some t) (h2 : t.hs[w]? = some x) : ∃ l, (flowV (nms ts) 0 ts cs)[j]? = some l ∧ l[w]? = some (vAt ts cs j w) := by
  obtain ⟨l, e, hl⟩ := flowV_get (nms ts) ts 0 cs j t h1
  have hw : w < l.length := by rw [hl]; exact (List.getElem?_eq_some_iff.mp h2).1
  refine ⟨l, e, ?_⟩
  unfold vAt
  rw [List.getD_eq_getElem?_getD (l := flowV _ _ _ _), e]
  show l[w]? = some (l.getD w 0)
  rw [List.getD_eq_getElem?_getD, List.getElem?_eq_getElem hw]; rfl
/-! the law's dict of what holes let -/
theorem valG_put {κ : Type} [DecidableEq κ] {enc : κ → D} {dec : D → Option κ} (hd : ∀ k, dec (enc k) = some k) (q q' : κ) (v : D) (hq : q ≠ q') : ∀ kds : List (D × D), valG dec (putG enc dec kds q v) q' = valG dec kds q' := by
  intro kds
  unfold putG
  split
  · rename_i h
    clear h
    induction kds with
    | nil => rfl
    | cons kv kds ih =>
      unfold valG at ih ⊢
      rw [List.map_cons, List.find?_cons, List.find?_cons]
      by_cases e : dec kv.1 = some q
      · rw [if_pos e]
        have e2 : ¬ dec kv.1 = some q' := fun z => hq (Option.some.inj (e.symm.trans z))
        rw [decide_eq_false e2]
        exact ih
      · rw [if_neg e]
        by_cases e2 : dec kv.1 = some q'
        · rw [decide_eq_true e2]
        · rw [decide_eq_false e2]; exact ih
  · unfold valG
    rw [List.find?_append]
    have : List.find? (fun kv : D × D => decide (dec kv.1 = some q')) [(enc q, v)] = none := by
      rw [List.find?_cons, decide_eq_false (by show ¬ dec (enc q) = some q'; rw [hd]; exact fun z => hq (Option.some.inj z))]; rfl
    rw [this, Option.or_none]
theorem ky_ne {n m : Str} {h g : Int} (e : n ≠ m ∨ h ≠ g) : ([.inr n, .inl h] : List Key) ≠ [.inr m, .inl g] := fun z => by
  cases z
  rcases e with e | e <;> exact e rfl
theorem let_A1 {n m : Str} (h : m ≠ n) (g : Int) : ∀ (ps : List (Hl × Int)) (kds : List (D × D)), valG decT (letPut n kds ps) [.inr m, .inl g] = valG decT kds [.inr m, .inl g]
  | [], _ => rfl
  | p :: r, kds => by
    unfold letPut
    rw [let_A1 h g r, valG_put decT_enc _ _ _ (ky_ne (.inl fun z => h z.symm))]
theorem let_A2 {n : Str} {g : Int} : ∀ (ps : List (Hl × Int)) (kds : List (D × D)), (∀ p ∈ ps, (p.1.h : Int) ≠ g) → valG decT (letPut n kds ps) [.inr n, .inl g] = valG decT kds [.inr n, .inl g]
  | [], _, _ => rfl
  | p :: r, kds, h => by
    unfold letPut
    rw [let_A2 r _ fun q hq => h q (List.mem_cons_of_mem _ hq), valG_put decT_enc _ _ _ (ky_ne (.inr (h p List.mem_cons_self)))]
theorem let_A3 {n : Str} : ∀ (ps : List (Hl × Int)) (kds : List (D × D)) (w : Nat) (p : Hl × Int), (ps.map fun p => p.1.h).Nodup → ps[w]? = some p → valG decT (letPut n kds ps) [.inr n, .inl (p.1.h : Int)] = some (.int p.2)
  | [], _, w, p, _, h => by simp at h
  | q :: r, kds, 0, p, nd, h => by
    cases h
    unfold letPut
    rw [List.map_cons, List.nodup_cons] at nd
    rw [let_A2 r _ fun u hu z => nd.1 (by
      have : u.1.h = q.1.h := by omega
      rw [← this]; exact List.mem_map_of_mem (f := fun p : Hl × Int => p.1.h) hu)]
    exact val_put (enc := encT) (dec := decT) decT_enc _ _ kds
  | q :: r, kds, w + 1, p, nd, h => by
    unfold letPut
    rw [List.map_cons, List.nodup_cons] at nd
    exact let_A3 r _ w p nd.2 (by simpa using h)
theorem let_B1 {names : List Str} {m : Str} {g : Int} : ∀ (r : List Tb) (i : Nat) (cs : List Int) (kds : List (D × D)), (∀ t ∈ r, t.n ≠ m) → valG decT (letAll names i r cs kds) [.inr m, .inl g] = valG decT kds [.inr m, .inl g]
  | [], _, _, _, _ => rfl
  | t :: r, i, cs, kds, h => by
    unfold letAll
    rw [let_B1 r _ _ _ fun u hu => h u (List.mem_cons_of_mem _ hu), let_A1 (fun z => h t List.mem_cons_self z.symm)]
theorem zip_nodup {hs : List Hl} {l : List Int} (h : l.length = hs.length) (nd : (hs.map Hl.h).Nodup) : ((hs.zip l).map fun p => p.1.h).Nodup := by
  have e : (hs.zip l).map (fun p => p.1.h) = hs.map Hl.h := by
    rw [show (fun p : Hl × Int => p.1.h) = Hl.h ∘ Prod.fst from rfl, ← List.map_map, List.map_fst_zip (by omega)]
  rw [e]; exact nd
theorem let_B2 {names : List Str} : ∀ (r : List Tb) (i : Nat) (cs : List Int) (kds : List (D × D)) (j w : Nat) (t : Tb) (x : Hl) (l : List Int) (v : Int), (r.map Tb.n).Nodup → (∀ t ∈ r, (t.hs.map Hl.h).Nodup) → r[j]? = some t → t.hs[w]? = some x → (flowV names i r cs)[j]? = some l → l[w]? = some v → valG decT (letAll names i r cs kds) [.inr t.n, .inl (x.h : Int)] = some (.int v)
  | [], _, _, _, j, _, _, _, _, _, _, _, h, _, _, _ => by simp at h
  | u :: r, i, cs, kds, 0, w, t, x, l, v, nd, up, h1, h2, h3, h4 => by
    cases h1
    have h3 : some (shareI u.hs (cs.getD i 0)) = some l := h3
    cases h3
    rw [List.map_cons, List.nodup_cons] at nd
    unfold letAll
    rw [let_B1 r _ _ _ fun t' ht' z => nd.1 (by rw [← z]; exact List.mem_map_of_mem ht')]
    exact let_A3 (u.hs.zip (shareI u.hs (cs.getD i 0))) kds w (x, v) (zip_nodup (share_len _ _) (up u List.mem_cons_self)) (List.getElem?_zip_eq_some.mpr ⟨h2, h4⟩)
  | u :: r, i, cs, kds, j + 1, w, t, x, l, v, nd, up, h1, h2, h3, h4 => by
    rw [List.map_cons, List.nodup_cons] at nd
    unfold letAll
    exact let_B2 r _ _ _ j w t x l v nd.2 (fun t' ht' => up t' (List.mem_cons_of_mem _ ht')) (by simpa using h1) h2 (by unfold flowV at h3; simpa using h3) h4
theorem putG_key {enc : List Key → D} {dec : D → Option (List Key)} {kds : List (D × D)} {q : List Key} {v : D} : ∀ kv ∈ putG enc dec kds q v, kv.1 ∈ kds.map (·.1) ∨ kv.1 = enc q := by
  intro kv hkv
  unfold putG at hkv
  split at hkv
  · obtain ⟨kv0, h1, rfl⟩ := List.mem_map.mp hkv
    refine .inl ?_
    have e : (if dec kv0.1 = some q then (kv0.1, v) else kv0).1 = kv0.1 := by split <;> rfl
    rw [e]
    exact List.mem_map_of_mem (f := fun kv : D × D => kv.1) h1
  · rcases List.mem_append.mp hkv with h | h
    · exact .inl (List.mem_map_of_mem h)
    · rw [List.mem_singleton.mp h]; exact .inr rfl
theorem letPut_key {n : Str} : ∀ (ps : List (Hl × Int)) (kds : List (D × D)), ∀ kv ∈ letPut n kds ps, kv.1 ∈ kds.map (·.1) ∨ ∃ p ∈ ps, kv.1 = kyD n p.1.h
  | [], _, kv, h => .inl (List.mem_map_of_mem h)
  | p :: r, kds, kv, h => by
    unfold letPut at h
    rcases letPut_key r _ kv h with h | ⟨q, hq, e⟩
    · obtain ⟨kv0, h0, e0⟩ := List.mem_map.mp h
      rcases putG_key kv0 h0 with h1 | h1
      · exact .inl (by rw [← e0]; exact h1)
      · exact .inr ⟨p, List.mem_cons_self, by rw [← e0, h1]; rfl⟩
    · exact .inr ⟨q, List.mem_cons_of_mem _ hq, e⟩
theorem letAll_key {names : List Str} : ∀ (r : List Tb) (i : Nat) (cs : List Int) (kds : List (D × D)), ∀ kv ∈ letAll names i r cs kds, kv.1 ∈ kds.map (·.1) ∨ ∃ t ∈ r, ∃ x ∈ t.hs, kv.1 = kyD t.n x.h
  | [], _, _, _, kv, h => .inl (List.mem_map_of_mem h)
  | t :: r, i, cs, kds, kv, h => by
    unfold letAll at h
    rcases letAll_key r _ _ _ kv h with h | ⟨u, hu, x, hx, e⟩
    · obtain ⟨kv0, h0, e0⟩ := List.mem_map.mp h
      rcases letPut_key _ _ kv0 h0 with h1 | ⟨p, hp, e1⟩
      · exact .inl (by rw [← e0]; exact h1)
      · exact .inr ⟨t, List.mem_cons_self, p.1, (List.of_mem_zip hp).1, by rw [← e0, e1]⟩
    · exact .inr ⟨u, List.mem_cons_of_mem _ hu, x, hx, e⟩
def TsUp (ts : List Tb) : Prop := ∀ t ∈ ts, (t.hs.map Hl.h).Nodup
/-- a hole's place -/
structure At (ts : List Tb) (j w : Nat) (t : Tb) (x : Hl) : Prop where
  h1 : ts[j]? = some t
  h2 : t.hs[w]? = some x
theorem let_val {ts : List Tb} (nd : (nms ts).Nodup) (up : TsUp ts) (cs : List Int) {j w : Nat} {t : Tb} {x : Hl} (A : At ts j w t x) : valG decT (letAll (nms ts) 0 ts cs []) [.inr t.n, .inl (x.h : Int)] = some (.int (vAt ts cs j w)) := by
  obtain ⟨l, e1, e2⟩ := vAt_get (cs := cs) A.h1 A.h2
  exact let_B2 ts 0 cs [] j w t x l _ nd up A.h1 A.h2 e1 e2
/-! ### the program's answer -/
theorem sh_ints' (ns : List Int) : SeqAt.shaped (.list (ns.map PyData.int)) = true := sh_l fun d hd => by
  obtain ⟨n, _, rfl⟩ := List.mem_map.mp hd
  exact ⟨rfl, Nat.zero_le _⟩
theorem idx_int {hs : List Hl} (nd : (hs.map Hl.h).Nodup) {w : Nat} {x : Hl} (h : hs[w]? = some x) : idxD ((hs.map fun x => (x.h : Int)).map .int) (.int x.h) = some w := by
  induction hs generalizing w with
  | nil => simp at h
  | cons y hs ih =>
    rw [List.map_cons, List.nodup_cons] at nd
    unfold idxD at ih ⊢
    rw [List.map_cons, List.map_cons, List.findIdx?_cons]
    cases w with
    | zero => cases h; rw [show PyData.eqv (.int (x.h : Int)) (.int (x.h : Int)) = true from by simp [PyData.eqv]]; rfl
    | succ w =>
      have h : hs[w]? = some x := by simpa using h
      have ne : PyData.eqv (.int (y.h : Int)) (.int (x.h : Int)) = false := by
        simp only [PyData.eqv, beq_eq_false_iff_ne, ne_eq]
        intro z
        exact nd.1 (by rw [show y.h = x.h by omega]; exact List.mem_map_of_mem (List.mem_of_getElem? h))
      rw [ne, if_neg (by simp), ih nd.2 h]; rfl
theorem f_place_of {ts : List Tb} (T : TsOk ts) (nd : (nms ts).Nodup) (up : TsUp ts) {j w : Nat} {t : Tb} {x : Hl} (A : At ts j w t x) : FF (k + 3) "place_of" [.fz (tsD ts), .fz (kyD t.n x.h)] st = some (.fz (.tuple [.int (j : Nat), .int (w : Nat)]), st) := by
  have hA := fun st => f_tub_at (k := k) (st := st) T nd A.h1
  have mt := List.mem_of_getElem? A.h1
  have h3 := (T.hs t mt).1
  have hz : atI (ts.map Tb.d) ((j : Nat) : Int) = some t.d := atI_nat (by rw [List.getElem?_map, A.h1]; rfl)
  have hy : ∀ a b c : D, atI [a, b, c] 2 = some c := fun _ _ _ => rfl
  have hy0 : ∀ a b c : D, atI [a, b, c] 0 = some a := fun _ _ _ => rfl
  have hi := idx_int (up t mt) A.h2
  have hsh := sh_ints' (t.hs.map fun x => (x.h : Int))
  unfold FF at hA ⊢
  rw [e_place_of]
  have hlc : lcF (plainF (ixG (valF (orElse (ixS 0 (vV 4)) (ixG (vV 0) (vV 4)))) (valF (kE (.int 2))))) [5] (setF 5) yesT (orElse (ixS 5 (valF (kE (.int 0)))) (ixG (vV 5) (valF (kE (.int 0))))) [some (.fz (tsD ts)), some (.fz (kyD t.n x.h)), some (.fz (.str t.n)), some (.fz (.int x.h)), some (.fz (.int (j : Nat))), none] st = some (.ow (.list ((t.hs.map fun x => (x.h : Int)).map .int)), st) := by
    rw [lcF_def]
    have hp : plainF (ixG (valF (orElse (ixS 0 (vV 4)) (ixG (vV 0) (vV 4)))) (valF (kE (.int 2)))) [some (.fz (tsD ts)), some (.fz (kyD t.n x.h)), some (.fz (.str t.n)), some (.fz (.int x.h)), some (.fz (.int (j : Nat))), none] st = some (t.hs.map Hl.d, st) := by
      simp only [runM, seqS, frzS, frzs, frz1, retF, retS, ifS, skipS, andE, orE, notE, ifE, valF, vE, vV, kE, kV', callF, ar_nil, ar_cons, dn_fz, dn_ow, dn_bag, dn_scr, d_fz, d_ow, b_of, isiF, isD, blF, cmpF, chainF, orElse, lenS, bltF1, notT, andT, orT, tstF, l_list, l_tuple, l_all, l_listL, l_listT, l_tupL, l_tupT, l_abs, c_lt, c_le, c_gt, c_ge, c_eqI, c_neI, c_inS, c_niS, i_list, i_tuple, i_str, x_list, x_tuple, plainF, ixF, ixG, ixS, asgF, unpF, unF, setAll, List.length_cons, List.length_nil, List.map_cons, List.map_nil, if_true, if_false, List.cons_append, List.nil_append, List.append_nil, List.getElem?_cons_zero, List.getElem?_cons_succ, List.replicate, List.set_cons_zero, List.set_cons_succ, Option.bind_some, Option.map_some, Option.bind_none, Option.map_none, Bool.not_true, Bool.not_false, Bool.false_eq_true, Bool.or_false, Bool.or_true, Nat.reduceAdd, Nat.reduceSub, Nat.zero_add, decide_true, decide_false, Bool.true_and, Bool.false_and, Bool.and_true, Bool.and_false, tsD, hz, Tb.d, hy]
    rw [hp]
    simp only [Option.bind_some]
    rw [lc_pairs (d := Hl.d) (x := fun x => .int x.h)]
    · rw [List.map_map]; rfl
    · intro y _
      refine ⟨[some (.fz (tsD ts)), some (.fz (kyD t.n x.h)), some (.fz (.str t.n)), some (.fz (.int x.h)), some (.fz (.int (j : Nat))), some (.fz y.d)], .fz (.int y.h), rfl, ?_, rfl⟩
      simp only [runM, seqS, frzS, frzs, frz1, retF, retS, ifS, skipS, andE, orE, notE, ifE, valF, vE, vV, kE, kV', callF, ar_nil, ar_cons, dn_fz, dn_ow, dn_bag, dn_scr, d_fz, d_ow, b_of, isiF, isD, blF, cmpF, chainF, orElse, lenS, bltF1, notT, andT, orT, tstF, l_list, l_tuple, l_all, l_listL, l_listT, l_tupL, l_tupT, l_abs, c_lt, c_le, c_gt, c_ge, c_eqI, c_neI, c_inS, c_niS, i_list, i_tuple, i_str, x_list, x_tuple, plainF, ixF, ixG, ixS, asgF, unpF, unF, setAll, List.length_cons, List.length_nil, List.map_cons, List.map_nil, if_true, if_false, List.cons_append, List.nil_append, List.append_nil, List.getElem?_cons_zero, List.getElem?_cons_succ, List.replicate, List.set_cons_zero, List.set_cons_succ, Option.bind_some, Option.map_some, Option.bind_none, Option.map_none, Bool.not_true, Bool.not_false, Bool.false_eq_true, Bool.or_false, Bool.or_true, Nat.reduceAdd, Nat.reduceSub, Nat.zero_add, decide_true, decide_false, Bool.true_and, Bool.false_and, Bool.and_true, Bool.and_false, Hl.d, hy0]
    · rw [List.length_nil]; omega
  refine run_rt (env1 := [some (.fz (tsD ts)), some (.fz (kyD t.n x.h)), some (.fz (.str t.n)), some (.fz (.int x.h)), some (.fz (.int (j : Nat))), none]) rfl ?_
  unfold m_place_of
  refine (seq_nx (env1 := [some (.fz (tsD ts)), some (.fz (kyD t.n x.h)), some (.fz (.str t.n)), some (.fz (.int x.h)), none, none]) (st1 := st) rfl).trans ?_
  refine (seq_nx (env1 := [some (.fz (tsD ts)), some (.fz (kyD t.n x.h)), some (.fz (.str t.n)), some (.fz (.int x.h)), some (.fz (.int (j : Nat))), none]) (st1 := st) ?_).trans (seq_rt ?_)
  · simp only [runM, seqS, frzS, frzs, frz1, retF, retS, ifS, skipS, andE, orE, notE, ifE, valF, vE, vV, kE, kV', callF, ar_nil, ar_cons, dn_fz, dn_ow, dn_bag, dn_scr, d_fz, d_ow, b_of, isiF, isD, blF, cmpF, chainF, orElse, lenS, bltF1, notT, andT, orT, tstF, l_list, l_tuple, l_all, l_listL, l_listT, l_tupL, l_tupT, l_abs, c_lt, c_le, c_gt, c_ge, c_eqI, c_neI, c_inS, c_niS, i_list, i_tuple, i_str, x_list, x_tuple, plainF, ixF, ixG, ixS, asgF, unpF, unF, setAll, List.length_cons, List.length_nil, List.map_cons, List.map_nil, if_true, if_false, List.cons_append, List.nil_append, List.append_nil, List.getElem?_cons_zero, List.getElem?_cons_succ, List.replicate, List.set_cons_zero, List.set_cons_succ, Option.bind_some, Option.map_some, Option.bind_none, Option.map_none, Bool.not_true, Bool.not_false, Bool.false_eq_true, Bool.or_false, Bool.or_true, Nat.reduceAdd, Nat.reduceSub, Nat.zero_add, decide_true, decide_false, Bool.true_and, Bool.false_and, Bool.and_true, Bool.and_false, hA]
  · generalize lcF (plainF (ixG (valF (orElse (ixS 0 (vV 4)) (ixG (vV 0) (vV 4)))) (valF (kE (.int 2))))) [5] (setF 5) yesT (orElse (ixS 5 (valF (kE (.int 0)))) (ixG (vV 5) (valF (kE (.int 0))))) = LF at hlc ⊢
    simp only [runM, seqS, frzS, frzs, frz1, retF, retS, ifS, skipS, andE, orE, notE, ifE, valF, vE, vV, kE, kV', callF, ar_nil, ar_cons, dn_fz, dn_ow, dn_bag, dn_scr, d_fz, d_ow, b_of, isiF, isD, blF, cmpF, chainF, orElse, lenS, bltF1, notT, andT, orT, tstF, l_list, l_tuple, l_all, l_listL, l_listT, l_tupL, l_tupT, l_abs, c_lt, c_le, c_gt, c_ge, c_eqI, c_neI, c_inS, c_niS, i_list, i_tuple, i_str, x_list, x_tuple, plainF, ixF, ixG, ixS, asgF, unpF, unF, setAll, List.length_cons, List.length_nil, List.map_cons, List.map_nil, if_true, if_false, List.cons_append, List.nil_append, List.append_nil, List.getElem?_cons_zero, List.getElem?_cons_succ, List.replicate, List.set_cons_zero, List.set_cons_succ, Option.bind_some, Option.map_some, Option.bind_none, Option.map_none, Bool.not_true, Bool.not_false, Bool.false_eq_true, Bool.or_false, Bool.or_true, Nat.reduceAdd, Nat.reduceSub, Nat.zero_add, decide_true, decide_false, Bool.true_and, Bool.false_and, Bool.and_true, Bool.and_false, tupF, ds_fz, ds_nil, lenOk_of, Nat.reduceLeDiff, idxF, hlc, hsh, sh_int, hi]
theorem f_lets {ts : List Tb} (T : TsOk ts) (nd : (nms ts).Nodup) (up : TsUp ts) {cs : List Int} (hc : cs.length = ts.length) {j w : Nat} {t : Tb} {x : Hl} (A : At ts j w t x) : FF (k + 5) "lets_in_the_end" [.fz (tsD ts), .fz (.tuple (cs.map iD)), .fz (kyD t.n x.h)] st = some (.fz (.int (vAt ts cs j w)), st) := by
  have hP := fun st => f_place_of (k := k + 1) (st := st) T nd up A
  have hE := fun st => f_end (k := k) (st := st) T cs hc
  obtain ⟨l, e1, e2⟩ := vAt_get (cs := cs) A.h1 A.h2
  have hx : atI (flowL (nms ts) 0 ts cs) ((j : Nat) : Int) = some (.list (l.map iD)) := atI_nat (by rw [flowL_V, List.getElem?_map, e1]; rfl)
  have hv : atI (l.map iD) ((w : Nat) : Int) = some (.int (vAt ts cs j w)) := atI_nat (by rw [List.getElem?_map, e2]; rfl)
  generalize flowL (nms ts) 0 ts cs = FL at hE hx
  generalize flowC (nms ts) 0 ts cs = FC at hE
  unfold FF at hP hE ⊢
  rw [e_lets_in_the_end]
  simp only [m_lets_in_the_end, runM, seqS, frzS, frzs, frz1, retF, retS, ifS, skipS, andE, orE, notE, ifE, valF, vE, vV, kE, kV', callF, ar_nil, ar_cons, dn_fz, dn_ow, dn_bag, dn_scr, d_fz, d_ow, b_of, isiF, isD, blF, cmpF, chainF, orElse, lenS, bltF1, notT, andT, orT, tstF, l_list, l_tuple, l_all, l_listL, l_listT, l_tupL, l_tupT, l_abs, c_lt, c_le, c_gt, c_ge, c_eqI, c_neI, c_inS, c_niS, i_list, i_tuple, i_str, x_list, x_tuple, plainF, ixF, ixG, ixS, asgF, unpF, unF, setAll, List.length_cons, List.length_nil, List.map_cons, List.map_nil, if_true, if_false, List.cons_append, List.nil_append, List.append_nil, List.getElem?_cons_zero, List.getElem?_cons_succ, List.replicate, List.set_cons_zero, List.set_cons_succ, Option.bind_some, Option.map_some, Option.bind_none, Option.map_none, Bool.not_true, Bool.not_false, Bool.false_eq_true, Bool.or_false, Bool.or_true, Nat.reduceAdd, Nat.reduceSub, Nat.zero_add, decide_true, decide_false, Bool.true_and, Bool.false_and, Bool.and_true, Bool.and_false, hP, hE, hx, hv]
end K08

set_option maxHeartbeats 4000000
namespace K08
open PySem PySem.Spec PyProof.Rows L2 Iv
local instance nmZ_K08Za : Iv.Nm := Iv.nmZ
variable {k : Nat} {st : BSt}
/-! ### tubs with another rate of a hole -/
def rateH (n : Str) (m : Str) (h : Nat) (r : Nat) (x : Hl) : Hl := if n = m ∧ x.h = h then ⟨x.h, r, x.to⟩ else x
def rateT (m : Str) (h r : Nat) (t : Tb) : Tb := ⟨t.n, t.g, t.hs.map (rateH t.n m h r)⟩
def rated (ts : List Tb) (m : Str) (h r : Nat) : List Tb := ts.map (rateT m h r)
theorem rateH_h (n m : Str) (h r : Nat) (x : Hl) : (rateH n m h r x).h = x.h ∧ (rateH n m h r x).to = x.to := by
  unfold rateH; split <;> exact ⟨rfl, rfl⟩
theorem nms_rated (ts : List Tb) (m : Str) (h r : Nat) : nms (rated ts m h r) = nms ts := by
  show (ts.map (rateT m h r)).map Tb.n = ts.map Tb.n
  rw [List.map_map]; rfl
theorem rated_len (ts : List Tb) (m : Str) (h r : Nat) : (rated ts m h r).length = ts.length := by unfold rated; rw [List.length_map]
theorem rated_ok {ts : List Tb} (T : TsOk ts) (m : Str) (h r : Nat) : TsOk (rated ts m h r) := by
  refine ⟨by rw [rated_len]; exact T.len, by rw [nms_rated]; exact T.ok, fun t ht => ?_⟩
  obtain ⟨u, hu, rfl⟩ := List.mem_map.mp ht
  obtain ⟨h1, h2⟩ := T.hs u hu
  refine ⟨by show (u.hs.map _).length ≤ 3; rw [List.length_map]; exact h1, fun x hx => ?_⟩
  obtain ⟨y, hy, rfl⟩ := List.mem_map.mp hx
  rw [nms_rated, (rateH_h ..).2]
  exact h2 y hy
theorem rated_up {ts : List Tb} (up : TsUp ts) (m : Str) (h r : Nat) : TsUp (rated ts m h r) := fun t ht => by
  obtain ⟨u, hu, rfl⟩ := List.mem_map.mp ht
  have e : (u.hs.map (rateH u.n m h r)).map Hl.h = u.hs.map Hl.h := by
    rw [List.map_map]
    exact List.map_congr_left fun x _ => (rateH_h ..).1
  show ((u.hs.map (rateH u.n m h r)).map Hl.h).Nodup
  rw [e]; exact up u hu
theorem rated_at {ts : List Tb} {j w : Nat} {t : Tb} {x : Hl} (A : At ts j w t x) (m : Str) (h r : Nat) : At (rated ts m h r) j w (rateT m h r t) (rateH t.n m h r x) := by
  refine ⟨by unfold rated; rw [List.getElem?_map, A.h1]; rfl, ?_⟩
  show (t.hs.map (rateH t.n m h r))[w]? = _
  rw [List.getElem?_map, A.h2]; rfl
/-- one is changed, the others stay -/
theorem map_set {α β : Type} {f g : α → β} {l : List α} {w : Nat} {x : α} (hx : l[w]? = some x) (h : ∀ i y, l[i]? = some y → i ≠ w → f y = g y) : l.map f = (l.map g).set w (f x) := by
  refine List.ext_getElem? fun i => ?_
  by_cases e : w = i
  · subst e
    have hw := (List.getElem?_eq_some_iff.mp hx).1
    rw [List.getElem?_set_self (by rw [List.length_map]; exact hw), List.getElem?_map, hx]; rfl
  · rw [List.getElem?_set_ne e, List.getElem?_map, List.getElem?_map]
    cases q : l[i]? with
    | none => rfl
    | some y => rw [Option.map_some, Option.map_some, h i y q fun z => e z.symm]
theorem nodup_ne {α β : Type} {f : α → β} {l : List α} (nd : (l.map f).Nodup) {i w : Nat} {x y : α} (hx : l[w]? = some x) (hy : l[i]? = some y) (ne : i ≠ w) : f y ≠ f x := by
  intro e
  have h1 : (l.map f)[w]? = some (f x) := by rw [List.getElem?_map, hx]; rfl
  have h2 : (l.map f)[i]? = some (f x) := by rw [List.getElem?_map, hy, ← e]; rfl
  obtain ⟨l1, e1⟩ := List.getElem?_eq_some_iff.mp h1
  obtain ⟨l2, e2⟩ := List.getElem?_eq_some_iff.mp h2
  exact ne ((List.getElem_inj nd).mp (e2.trans e1.symm))
theorem f_with_rate {ts : List Tb} (T : TsOk ts) (nd : (nms ts).Nodup) (up : TsUp ts) {j w : Nat} {t : Tb} {x : Hl} (A : At ts j w t x) (r : Nat) : FF (k + 4) "with_rate" [.fz (tsD ts), .fz (kyD t.n x.h), .fz (.int (r : Nat))] st = some (.fz (tsD (rated ts t.n x.h r)), st) := by
  have hP := fun st => f_place_of (k := k) (st := st) T nd up A
  have mt := List.mem_of_getElem? A.h1
  have hl := T.len
  have h3 := (T.hs t mt).1
  have hj : j < ts.length := (List.getElem?_eq_some_iff.mp A.h1).1
  have hw : w < t.hs.length := (List.getElem?_eq_some_iff.mp A.h2).1
  have hz : atI (ts.map Tb.d) ((j : Nat) : Int) = some t.d := atI_nat (by rw [List.getElem?_map, A.h1]; rfl)
  have hx : atI (t.hs.map Hl.d) ((w : Nat) : Int) = some x.d := atI_nat (by rw [List.getElem?_map, A.h2]; rfl)
  have c1 : cutL (t.hs.map Hl.d) none (some (w : Int)) = (t.hs.map Hl.d).take w := cut_take _ _
  have c2 : cutL (t.hs.map Hl.d) (some ((w : Int) + 1)) none = (t.hs.map Hl.d).drop (w + 1) := cut_drop _ (w + 1)
  have c3 : cutL (ts.map Tb.d) none (some (j : Int)) = (ts.map Tb.d).take j := cut_take _ _
  have c4 : cutL (ts.map Tb.d) (some ((j : Int) + 1)) none = (ts.map Tb.d).drop (j + 1) := cut_drop _ (j + 1)
  have lh : (t.hs.map Hl.d).length = t.hs.length := List.length_map ..
  have lt : (ts.map Tb.d).length = ts.length := List.length_map ..
  have e1 : (t.hs.map Hl.d).take w ++ [PyData.tuple [.int x.h, .int (r : Nat), .str x.to]] ++ (t.hs.map Hl.d).drop (w + 1) = (rateT t.n x.h r t).hs.map Hl.d := by
    rw [set_cut _ _ _ (by omega)]
    show _ = (t.hs.map (rateH t.n t.n x.h r)).map Hl.d
    rw [List.map_map, map_set (f := Hl.d ∘ rateH t.n t.n x.h r) (g := Hl.d) A.h2 fun i y hy ne => ?_]
    · congr 1
      show _ = (rateH t.n t.n x.h r x).d
      unfold rateH
      rw [if_pos ⟨rfl, rfl⟩]; rfl
    · have := nodup_ne (up t mt) A.h2 hy ne
      show (rateH t.n t.n x.h r y).d = y.d
      unfold rateH
      rw [if_neg (fun z => this z.2)]
  have e2 : (ts.map Tb.d).take j ++ [(rateT t.n x.h r t).d] ++ (ts.map Tb.d).drop (j + 1) = (rated ts t.n x.h r).map Tb.d := by
    rw [set_cut _ _ _ (by omega)]
    unfold rated
    rw [List.map_map, map_set (f := Tb.d ∘ rateT t.n x.h r) (g := Tb.d) A.h1 fun i y hy ne => ?_]
    · rfl
    · have := nodup_ne nd A.h1 hy ne
      show (rateT t.n x.h r y).d = y.d
      have e : y.hs.map (rateH y.n t.n x.h r) = y.hs := by
        have : ∀ z ∈ y.hs, rateH y.n t.n x.h r z = z := fun z _ => by
          unfold rateH
          rw [if_neg (fun q => this q.1)]
        exact (List.map_congr_left this).trans (List.map_id _)
      show PyData.tuple [.str y.n, .int y.g, .tuple ((y.hs.map (rateH y.n t.n x.h r)).map Hl.d)] = _
      rw [e]; rfl
  have a1 := b_addT (xs := (t.hs.map Hl.d).take w) (ys := [PyData.tuple [.int x.h, .int (r : Nat), .str x.to]]) (by rw [List.length_take]; simp; omega)
  have a2 := b_addT (xs := (t.hs.map Hl.d).take w ++ [PyData.tuple [.int x.h, .int (r : Nat), .str x.to]]) (ys := (t.hs.map Hl.d).drop (w + 1)) (by simp only [List.length_append, List.length_take, List.length_drop, List.length_cons, List.length_nil, lh]; omega)
  have a3 := b_addT (xs := (ts.map Tb.d).take j) (ys := [(rateT t.n x.h r t).d]) (by rw [List.length_take]; simp; omega)
  have a4 := b_addT (xs := (ts.map Tb.d).take j ++ [(rateT t.n x.h r t).d]) (ys := (ts.map Tb.d).drop (j + 1)) (by simp only [List.length_append, List.length_take, List.length_drop, List.length_cons, List.length_nil, lt]; omega)
  rw [e1] at a2
  rw [e2] at a4
  unfold FF at hP ⊢
  rw [e_with_rate]
  generalize hRD : (rateT t.n x.h r t).hs.map Hl.d = RD at a2
  have et : (rateT t.n x.h r t).d = .tuple [.str t.n, .int t.g, .tuple RD] := by rw [← hRD]; rfl
  rw [et] at a3 a4
  have hz : atI (ts.map Tb.d) ((j : Nat) : Int) = some (.tuple [.str t.n, .int t.g, .tuple (t.hs.map Hl.d)]) := hz
  have hx : atI (t.hs.map Hl.d) ((w : Nat) : Int) = some (.tuple [.int x.h, .int x.r, .str x.to]) := hx
  generalize t.hs.map Hl.d = HD at hx c1 c2 a1 a2 hz
  generalize hBD : ts.map Tb.d = BD at hz c3 c4 a3 a4
  have hP' : ∀ st, tbl.F whR 60 (k + 3) "place_of" [.fz (.tuple BD), .fz (kyD t.n x.h)] st = some (.fz (.tuple [.int (j : Nat), .int (w : Nat)]), st) := fun st => by rw [← hBD]; exact hP st
  show runM 3 12 _ [.fz (.tuple (ts.map Tb.d)), _, _] st = _
  rw [hBD]
  simp only [tsD, m_with_rate, runM, seqS, frzS, frzs, frz1, retF, retS, ifS, skipS, andE, orE, notE, ifE, valF, vE, vV, kE, kV', callF, ar_nil, ar_cons, dn_fz, dn_ow, dn_bag, dn_scr, d_fz, d_ow, b_of, isiF, isD, blF, cmpF, chainF, orElse, lenS, bltF1, notT, andT, orT, tstF, l_list, l_tuple, l_all, l_listL, l_listT, l_tupL, l_tupT, l_abs, c_lt, c_le, c_gt, c_ge, c_eqI, c_neI, c_inS, c_niS, i_list, i_tuple, i_str, x_list, x_tuple, plainF, ixF, ixG, ixS, asgF, unpF, unF, setAll, List.length_cons, List.length_nil, List.map_cons, List.map_nil, if_true, if_false, List.cons_append, List.nil_append, List.append_nil, List.getElem?_cons_zero, List.getElem?_cons_succ, List.replicate, List.set_cons_zero, List.set_cons_succ, Option.bind_some, Option.map_some, Option.bind_none, Option.map_none, Bool.not_true, Bool.not_false, Bool.false_eq_true, Bool.or_false, Bool.or_true, Nat.reduceAdd, Nat.reduceSub, Nat.zero_add, decide_true, decide_false, Bool.true_and, Bool.false_and, Bool.and_true, Bool.and_false, hP', hz, hx, slF, partF, y_tuple, c1, c2, c3, c4, binF, b_add, tupF, ds_fz, ds_nil, lenOk_of, Nat.reduceLeDiff, a1, a2, a3, a4]
theorem c_eqK {n m : Str} {h g : Int} (o1 : PyData.strOk n = true) (o2 : PyData.strOk m = true) : cmpD .Eq (.tuple [.str n, .int h]) (kyD m g) = some ((n == m) && (h == g)) := by
  show (if SeqAt.shaped (kyD n h) && SeqAt.shaped (kyD m g) then some (PyData.eqv (kyD n h) (kyD m g)) else none) = _
  have s : ∀ {n : Str} {h : Int}, PyData.strOk n = true → SeqAt.shaped (kyD n h) = true := fun {n h} ok => sh_t fun d hd => by
    simp only [List.mem_cons, List.not_mem_nil, or_false] at hd
    rcases hd with rfl | rfl
    · exact ⟨ok, Nat.zero_le _⟩
    · exact ⟨rfl, Nat.zero_le _⟩
  rw [s o1, s o2]
  show some ((n == m) && ((h == g) && true)) = _
  rw [Bool.and_true]
noncomputable def bodyR1 : SF := (seqS (frzS [8, 4, 8, 2, 9, 10] (appS 7 (tupF (argsF [(vE 8), (ifE (cmpF .Eq (valF (tupF (argsF [(vE 4), (vE 8)]))) (vV 1)) (vE 2) (vE 9)), (vE 10)]))))
    skipS)
theorem loop_r1 {m n : Str} (om : PyData.strOk m = true) (on : PyData.strOk n = true) {h r : Nat} {a0 a3 a5 a6 : Option R} : ∀ (hs : List Hl) (acc : List D) (z8 z9 z10 : Option R), acc.length + hs.length ≤ 1000 →
    ∃ y8 y9 y10, forL (unF [8, 9, 10]) bodyR1 (hs.map Hl.d) [a0, some (.fz (kyD m h)), some (.fz (.int (r : Nat))), a3, some (.fz (.str n)), a5, a6, some (.ow (.list acc)), z8, z9, z10] st = some (.nx, [a0, some (.fz (kyD m h)), some (.fz (.int (r : Nat))), a3, some (.fz (.str n)), a5, a6, some (.ow (.list (acc ++ (hs.map (rateH n m h r)).map Hl.d))), y8, y9, y10], st)
  | [], acc, z8, z9, z10, _ => ⟨z8, z9, z10, by rw [show (([] : List Hl).map (rateH n m h r)).map Hl.d = ([] : List D) from rfl, List.append_nil]; rfl⟩
  | x :: hs, acc, z8, z9, z10, hn => by
    simp only [List.length_cons] at hn
    obtain ⟨y8, y9, y10, ih⟩ := loop_r1 om on (h := h) (r := r) (a0 := a0) (a3 := a3) (a5 := a5) (a6 := a6) hs (acc ++ [(rateH n m h r x).d]) (some (.fz (.int x.h))) (some (.fz (.int x.r))) (some (.fz (.str x.to))) (by simp; omega)
    refine ⟨y8, y9, y10, ?_⟩
    have hsz : acc.length < sizeLine := by rw [sizeLine_eq]; omega
    have hg : unF [8, 9, 10] x.d [a0, some (.fz (kyD m h)), some (.fz (.int (r : Nat))), a3, some (.fz (.str n)), a5, a6, some (.ow (.list acc)), z8, z9, z10] = some [a0, some (.fz (kyD m h)), some (.fz (.int (r : Nat))), a3, some (.fz (.str n)), a5, a6, some (.ow (.list acc)), some (.fz (.int x.h)), some (.fz (.int x.r)), some (.fz (.str x.to))] := rfl
    have c := c_eqK (h := x.h) (g := h) on om
    have hb : bodyR1 [a0, some (.fz (kyD m h)), some (.fz (.int (r : Nat))), a3, some (.fz (.str n)), a5, a6, some (.ow (.list acc)), some (.fz (.int x.h)), some (.fz (.int x.r)), some (.fz (.str x.to))] st = some (.nx, [a0, some (.fz (kyD m h)), some (.fz (.int (r : Nat))), a3, some (.fz (.str n)), a5, a6, some (.ow (.list (acc ++ [(rateH n m h r x).d]))), some (.fz (.int x.h)), some (.fz (.int x.r)), some (.fz (.str x.to))], st) := by
      unfold bodyR1
      by_cases q : n = m ∧ x.h = h
      · have c' : ((n == m) && ((x.h : Int) == (h : Int))) = true := by simp [q.1, q.2]
        rw [c'] at c
        have e : (rateH n m h r x).d = .tuple [.int x.h, .int (r : Nat), .str x.to] := by unfold rateH; rw [if_pos q]; rfl
        rw [e]
        simp only [runM, seqS, frzS, frzs, frz1, retF, retS, ifS, skipS, andE, orE, notE, ifE, valF, vE, vV, kE, kV', callF, ar_nil, ar_cons, dn_fz, dn_ow, dn_bag, dn_scr, d_fz, d_ow, b_of, isiF, isD, blF, cmpF, chainF, orElse, lenS, bltF1, notT, andT, orT, tstF, l_list, l_tuple, l_all, l_listL, l_listT, l_tupL, l_tupT, l_abs, c_lt, c_le, c_gt, c_ge, c_eqI, c_neI, c_inS, c_niS, i_list, i_tuple, i_str, x_list, x_tuple, plainF, ixF, ixG, ixS, asgF, unpF, unF, setAll, List.length_cons, List.length_nil, List.map_cons, List.map_nil, if_true, if_false, List.cons_append, List.nil_append, List.append_nil, List.getElem?_cons_zero, List.getElem?_cons_succ, List.replicate, List.set_cons_zero, List.set_cons_succ, Option.bind_some, Option.map_some, Option.bind_none, Option.map_none, Bool.not_true, Bool.not_false, Bool.false_eq_true, Bool.or_false, Bool.or_true, Nat.reduceAdd, Nat.reduceSub, Nat.zero_add, decide_true, decide_false, Bool.true_and, Bool.false_and, Bool.and_true, Bool.and_false, appS, hsz, tupF, ds_fz, ds_nil, lenOk_of, Nat.reduceLeDiff, c]
      · have c' : ((n == m) && ((x.h : Int) == (h : Int))) = false := by
          by_cases q1 : n = m
          · have q2 : ¬ x.h = h := fun z => q ⟨q1, z⟩
            have : ((x.h : Int) == (h : Int)) = false := by
              rw [beq_eq_false_iff_ne]; omega
            rw [this, Bool.and_false]
          · have : (n == m) = false := by simpa using q1
            rw [this, Bool.false_and]
        rw [c'] at c
        have e : (rateH n m h r x).d = .tuple [.int x.h, .int x.r, .str x.to] := by unfold rateH; rw [if_neg q]; rfl
        rw [e]
        simp only [runM, seqS, frzS, frzs, frz1, retF, retS, ifS, skipS, andE, orE, notE, ifE, valF, vE, vV, kE, kV', callF, ar_nil, ar_cons, dn_fz, dn_ow, dn_bag, dn_scr, d_fz, d_ow, b_of, isiF, isD, blF, cmpF, chainF, orElse, lenS, bltF1, notT, andT, orT, tstF, l_list, l_tuple, l_all, l_listL, l_listT, l_tupL, l_tupT, l_abs, c_lt, c_le, c_gt, c_ge, c_eqI, c_neI, c_inS, c_niS, i_list, i_tuple, i_str, x_list, x_tuple, plainF, ixF, ixG, ixS, asgF, unpF, unF, setAll, List.length_cons, List.length_nil, List.map_cons, List.map_nil, if_true, if_false, List.cons_append, List.nil_append, List.append_nil, List.getElem?_cons_zero, List.getElem?_cons_succ, List.replicate, List.set_cons_zero, List.set_cons_succ, Option.bind_some, Option.map_some, Option.bind_none, Option.map_none, Bool.not_true, Bool.not_false, Bool.false_eq_true, Bool.or_false, Bool.or_true, Nat.reduceAdd, Nat.reduceSub, Nat.zero_add, decide_true, decide_false, Bool.true_and, Bool.false_and, Bool.and_true, Bool.and_false, appS, hsz, tupF, ds_fz, ds_nil, lenOk_of, Nat.reduceLeDiff, c]
    rw [List.map_cons]
    unfold forL
    simp only [hg, Option.bind_some, hb, ih, List.map_cons, List.append_assoc, List.cons_append, List.nil_append]
noncomputable def bodyR2 : SF := (seqS (frzS [] (asgF 7 (lstF (argsF []))))
    (seqS (frzS [6] (forF (plainF (vE 6)) (unF [8, 9, 10]) bodyR1))
    (seqS (frzS [4, 5] (appS 3 (tupF (argsF [(vE 4), (vE 5), (bltF1 .tuple (vV 7))]))))
    skipS)))
theorem loop_r2 {m : Str} (om : PyData.strOk m = true) {h r : Nat} {a0 : Option R} : ∀ (l : List Tb) (acc : List D) (z4 z5 z6 z7 z8 z9 z10 : Option R), (∀ t ∈ l, PyData.strOk t.n = true ∧ t.hs.length ≤ 3) → acc.length + l.length ≤ 1000 →
    ∃ y4 y5 y6 y7 y8 y9 y10, forL (unF [4, 5, 6]) bodyR2 (l.map Tb.d) [a0, some (.fz (kyD m h)), some (.fz (.int (r : Nat))), some (.ow (.list acc)), z4, z5, z6, z7, z8, z9, z10] st = some (.nx, [a0, some (.fz (kyD m h)), some (.fz (.int (r : Nat))), some (.ow (.list (acc ++ (rated l m h r).map Tb.d))), y4, y5, y6, y7, y8, y9, y10], st)
  | [], acc, z4, z5, z6, z7, z8, z9, z10, _, _ => ⟨z4, z5, z6, z7, z8, z9, z10, by rw [show (rated [] m h r).map Tb.d = ([] : List D) from rfl, List.append_nil]; rfl⟩
  | t :: l, acc, z4, z5, z6, z7, z8, z9, z10, ht, hn => by
    simp only [List.length_cons] at hn
    obtain ⟨on, h3⟩ := ht t List.mem_cons_self
    obtain ⟨x8, x9, x10, h1⟩ := loop_r1 (st := st) om on (h := h) (r := r) (a0 := a0) (a3 := some (.ow (.list acc))) (a5 := some (.fz (.int t.g))) (a6 := some (.fz (.tuple (t.hs.map Hl.d)))) t.hs [] z8 z9 z10 (by simp; omega)
    rw [List.nil_append] at h1
    obtain ⟨y4, y5, y6, y7, y8, y9, y10, ih⟩ := loop_r2 om (h := h) (r := r) (a0 := a0) l (acc ++ [(rateT m h r t).d]) (some (.fz (.str t.n))) (some (.fz (.int t.g))) (some (.fz (.tuple (t.hs.map Hl.d)))) (some (.ow (.list ((t.hs.map (rateH t.n m h r)).map Hl.d)))) x8 x9 x10 (fun u hu => ht u (List.mem_cons_of_mem _ hu)) (by simp; omega)
    refine ⟨y4, y5, y6, y7, y8, y9, y10, ?_⟩
    have hsz : acc.length < sizeLine := by rw [sizeLine_eq]; omega
    have hg : unF [4, 5, 6] t.d [a0, some (.fz (kyD m h)), some (.fz (.int (r : Nat))), some (.ow (.list acc)), z4, z5, z6, z7, z8, z9, z10] = some [a0, some (.fz (kyD m h)), some (.fz (.int (r : Nat))), some (.ow (.list acc)), some (.fz (.str t.n)), some (.fz (.int t.g)), some (.fz (.tuple (t.hs.map Hl.d))), z7, z8, z9, z10] := rfl
    have hb : bodyR2 [a0, some (.fz (kyD m h)), some (.fz (.int (r : Nat))), some (.ow (.list acc)), some (.fz (.str t.n)), some (.fz (.int t.g)), some (.fz (.tuple (t.hs.map Hl.d))), z7, z8, z9, z10] st = some (.nx, [a0, some (.fz (kyD m h)), some (.fz (.int (r : Nat))), some (.ow (.list (acc ++ [(rateT m h r t).d]))), some (.fz (.str t.n)), some (.fz (.int t.g)), some (.fz (.tuple (t.hs.map Hl.d))), some (.ow (.list ((t.hs.map (rateH t.n m h r)).map Hl.d))), x8, x9, x10], st) := by
      unfold bodyR2
      refine (seq_nx (env1 := [a0, some (.fz (kyD m h)), some (.fz (.int (r : Nat))), some (.ow (.list acc)), some (.fz (.str t.n)), some (.fz (.int t.g)), some (.fz (.tuple (t.hs.map Hl.d))), some (.ow (.list [])), z8, z9, z10]) (st1 := st) rfl).trans ?_
      refine (seq_nx h1).trans ?_
      simp only [runM, seqS, frzS, frzs, frz1, retF, retS, ifS, skipS, andE, orE, notE, ifE, valF, vE, vV, kE, kV', callF, ar_nil, ar_cons, dn_fz, dn_ow, dn_bag, dn_scr, d_fz, d_ow, b_of, isiF, isD, blF, cmpF, chainF, orElse, lenS, bltF1, notT, andT, orT, tstF, l_list, l_tuple, l_all, l_listL, l_listT, l_tupL, l_tupT, l_abs, c_lt, c_le, c_gt, c_ge, c_eqI, c_neI, c_inS, c_niS, i_list, i_tuple, i_str, x_list, x_tuple, plainF, ixF, ixG, ixS, asgF, unpF, unF, setAll, List.length_cons, List.length_nil, List.map_cons, List.map_nil, if_true, if_false, List.cons_append, List.nil_append, List.append_nil, List.getElem?_cons_zero, List.getElem?_cons_succ, List.replicate, List.set_cons_zero, List.set_cons_succ, Option.bind_some, Option.map_some, Option.bind_none, Option.map_none, Bool.not_true, Bool.not_false, Bool.false_eq_true, Bool.or_false, Bool.or_true, Nat.reduceAdd, Nat.reduceSub, Nat.zero_add, decide_true, decide_false, Bool.true_and, Bool.false_and, Bool.and_true, Bool.and_false, appS, hsz, tupF, ds_fz, ds_nil, lenOk_of, Nat.reduceLeDiff, rateT, Tb.d]
    rw [List.map_cons]
    unfold forL
    simp only [hg, Option.bind_some, hb, ih, rated, List.map_cons, List.append_assoc, List.cons_append, List.nil_append]
theorem f_law_rated {ts : List Tb} (T : TsOk ts) {m : Str} (om : PyData.strOk m = true) (h r : Nat) : FF (k + 1) "_law_rated" [.fz (tsD ts), .fz (kyD m h), .fz (.int (r : Nat))] st = some (.fz (tsD (rated ts m h r)), st) := by
  have hl := T.len
  obtain ⟨y4, y5, y6, y7, y8, y9, y10, h2⟩ := loop_r2 (st := st) om (h := h) (r := r) (a0 := some (.fz (tsD ts))) ts [] none none none none none none none (fun t ht => ⟨T.ok _ (List.mem_map_of_mem ht), (T.hs t ht).1⟩) (by simp; omega)
  rw [List.nil_append] at h2
  unfold FF
  rw [e__law_rated]
  refine run_rt (env1 := [some (.fz (tsD ts)), some (.fz (kyD m h)), some (.fz (.int (r : Nat))), some (.ow (.list ((rated ts m h r).map Tb.d))), y4, y5, y6, y7, y8, y9, y10]) rfl ?_
  unfold m__law_rated
  refine (seq_nx (env1 := [some (.fz (tsD ts)), some (.fz (kyD m h)), some (.fz (.int (r : Nat))), some (.ow (.list [])), none, none, none, none, none, none, none]) (st1 := st) rfl).trans ?_
  have h' : frzS [0] (forF (plainF (vE 0)) (unF [4, 5, 6]) bodyR2) [some (.fz (tsD ts)), some (.fz (kyD m h)), some (.fz (.int (r : Nat))), some (.ow (.list [])), none, none, none, none, none, none, none] st = some (.nx, [some (.fz (tsD ts)), some (.fz (kyD m h)), some (.fz (.int (r : Nat))), some (.ow (.list ((rated ts m h r).map Tb.d))), y4, y5, y6, y7, y8, y9, y10], st) := h2
  exact (seq_nx h').trans rfl
/-! ### which rates fit -/
def fits (ts : List Tb) (cs : List Int) (m : Str) (h : Nat) (j w : Nat) (much : Int) : D → Bool
  | .int i => vAt (rated ts m h i.toNat) cs j w == much
  | _ => false
theorem f_rates_by {ts : List Tb} (T : TsOk ts) (nd : (nms ts).Nodup) (up : TsUp ts) {cs : List Int} (hc : cs.length = ts.length) {j w : Nat} {t : Tb} {x : Hl} (A : At ts j w t x) {j2 w2 : Nat} {t2 : Tb} {x2 : Hl} (A2 : At ts j2 w2 t2 x2) (much : Int) :
    FF (k + 6) "rates_by" [.fz (tsD ts), .fz (.tuple (cs.map iD)), .fz (kyD t.n x.h), .fz (kyD t2.n x2.h), .fz (.int much)] st = some (.ow (.list ((rangeD2 1 100).filter (fits ts cs t.n x.h j2 w2 much))), st) := by
  have hW := fun r st => f_with_rate (k := k + 1) (st := st) T nd up A r
  have hL := fun r st => f_lets (k := k) (st := st) (rated_ok T t.n x.h r) (by rw [nms_rated]; exact nd) (rated_up up t.n x.h r) (cs := cs) (by rw [rated_len]; exact hc) (rated_at A2 t.n x.h r)
  have hk : ∀ r, kyD (rateT t.n x.h r t2).n ((rateH t2.n t.n x.h r x2).h : Int) = kyD t2.n x2.h := fun r => by rw [(rateH_h ..).1]; rfl
  simp only [hk] at hL
  unfold FF at hW hL ⊢
  rw [e_rates_by]
  have hlc : lcF (rangeF2 (valF (kE (.int 1))) (valF (binF .Add (kV' (.int 100)) (valF (kE (.int 1)))))) [5] (setF 5) (cmpF .Eq (valF (callF (tbl.F whR 60 (k + 5)) "lets_in_the_end" (argsF [(callF (tbl.F whR 60 (k + 5)) "with_rate" (argsF [(vE 0), (vE 2), (vE 5)])), (vE 1), (vE 3)]))) (vV 4)) (vE 5) [some (.fz (tsD ts)), some (.fz (.tuple (cs.map iD))), some (.fz (kyD t.n x.h)), some (.fz (kyD t2.n x2.h)), some (.fz (.int much)), none] st = some (.ow (.list ((rangeD2 1 100).filter (fits ts cs t.n x.h j2 w2 much))), st) := by
    refine lcF_filter (ds := rangeD2 1 100) (fits ts cs t.n x.h j2 w2 much) rfl (fun d hd => ?_) (by unfold rangeD2; rw [List.length_map, List.length_range, sizeLine_eq]; omega)
    obtain ⟨i, _, rfl⟩ := List.mem_map.mp hd
    refine ⟨[some (.fz (tsD ts)), some (.fz (.tuple (cs.map iD))), some (.fz (kyD t.n x.h)), some (.fz (kyD t2.n x2.h)), some (.fz (.int much)), some (.fz (.int (1 + (i : Nat))))], rfl, ?_, .fz (.int (1 + (i : Nat))), rfl, rfl⟩
    have e : (1 : Int) + (i : Nat) = ((1 + i : Nat) : Int) := by omega
    have et : ((1 : Int) + (i : Nat)).toNat = 1 + i := by omega
    have ef : fits ts cs t.n x.h j2 w2 much (.int (1 + (i : Nat))) = (vAt (rated ts t.n x.h (1 + i)) cs j2 w2 == much) := by
      show (vAt (rated ts t.n x.h ((1 : Int) + (i : Nat)).toNat) cs j2 w2 == much) = _
      rw [et]
    rw [ef, e]
    simp only [runM, seqS, frzS, frzs, frz1, retF, retS, ifS, skipS, andE, orE, notE, ifE, valF, vE, vV, kE, kV', callF, ar_nil, ar_cons, dn_fz, dn_ow, dn_bag, dn_scr, d_fz, d_ow, b_of, isiF, isD, blF, cmpF, chainF, orElse, lenS, bltF1, notT, andT, orT, tstF, l_list, l_tuple, l_all, l_listL, l_listT, l_tupL, l_tupT, l_abs, c_lt, c_le, c_gt, c_ge, c_eqI, c_neI, c_inS, c_niS, i_list, i_tuple, i_str, x_list, x_tuple, plainF, ixF, ixG, ixS, asgF, unpF, unF, setAll, List.length_cons, List.length_nil, List.map_cons, List.map_nil, if_true, if_false, List.cons_append, List.nil_append, List.append_nil, List.getElem?_cons_zero, List.getElem?_cons_succ, List.replicate, List.set_cons_zero, List.set_cons_succ, Option.bind_some, Option.map_some, Option.bind_none, Option.map_none, Bool.not_true, Bool.not_false, Bool.false_eq_true, Bool.or_false, Bool.or_true, Nat.reduceAdd, Nat.reduceSub, Nat.zero_add, decide_true, decide_false, Bool.true_and, Bool.false_and, Bool.and_true, Bool.and_false, hW, hL]
  refine run_rt (env1 := [some (.fz (tsD ts)), some (.fz (.tuple (cs.map iD))), some (.fz (kyD t.n x.h)), some (.fz (kyD t2.n x2.h)), some (.fz (.int much)), none]) rfl ?_
  unfold m_rates_by
  refine seq_rt ?_
  have h' : retF (lcF (rangeF2 (valF (kE (.int 1))) (valF (binF .Add (kV' (.int 100)) (valF (kE (.int 1)))))) [5] (setF 5) (cmpF .Eq (valF (callF (tbl.F whR 60 (k + 5)) "lets_in_the_end" (argsF [(callF (tbl.F whR 60 (k + 5)) "with_rate" (argsF [(vE 0), (vE 2), (vE 5)])), (vE 1), (vE 3)]))) (vV 4)) (vE 5)) [some (.fz (tsD ts)), some (.fz (.tuple (cs.map iD))), some (.fz (kyD t.n x.h)), some (.fz (kyD t2.n x2.h)), some (.fz (.int much)), none] st = some (.rt (.ow (.list ((rangeD2 1 100).filter (fits ts cs t.n x.h j2 w2 much)))), [some (.fz (tsD ts)), some (.fz (.tuple (cs.map iD))), some (.fz (kyD t.n x.h)), some (.fz (kyD t2.n x2.h)), some (.fz (.int much)), none], st) := by
    simp only [retF, hlc, Option.bind_some, Option.map_some]
  exact h'
end K08

set_option maxHeartbeats 4000000
namespace K08
open PySem PySem.Spec PyProof.Rows L2 Iv
local instance nmZ_K08Zb : Iv.Nm := Iv.nmZ
variable {k : Nat} {st : BSt}
theorem GoodTs.up {ts : List Tb} (g : GoodTs ts) : TsUp ts := fun t ht => by
  obtain ⟨j, hj⟩ := List.getElem?_of_mem ht
  have := (g.tb j t hj).hs.up
  unfold List.Nodup
  rw [List.pairwise_map]
  exact this.imp fun h => by omega
theorem at_of {ts : List Tb} {t : Tb} {x : Hl} (ht : t ∈ ts) (hx : x ∈ t.hs) : ∃ j w, At ts j w t x := by
  obtain ⟨j, hj⟩ := List.getElem?_of_mem ht
  obtain ⟨w, hw⟩ := List.getElem?_of_mem hx
  exact ⟨j, w, hj, hw⟩
noncomputable def bodyDue (F : FT) : SF := (seqS (frzS [3, 14, 17, 4] (ifS (cmpF .Eq (valF (ixG (valF (ixG (valF (callF F "_law_ends" (argsF [(callF F "_law_rated" (argsF [(vE 3), (vE 14), (vE 17)])), (vE 4)]))) (valF (kE (.int 1))))) (vV 15))) (vV 12)) (seqS (frzS [17] (appS 16 (vE 17)))
    skipS) skipS))
    skipS)
theorem ixG_T {f g : VF} {env : Env'} {LD : List (D × D)} {n : Str} {h : Int} {v : D} (hf : f env st = some (.dict [(.none, .dict LD)], st)) (hg : g env st = some (.tuple [.str n, .int h], st)) (hv : valG decT LD [.inr n, .inl h] = some v) : ixG f g env st = some (.fz v, st) := by
  unfold ixG
  rw [hf]
  simp only [Option.bind_some, hg]
  have hp : plainK [((.none : D), (.dict LD : D))] = false := rfl
  have hk : keysOf [PyData.str n, .int h] = some [.inr n, .inl h] := rfl
  simp only [hp, Bool.false_eq_true, if_false, hk, Option.bind_some, hv, Option.map_some]
theorem loop_due {ts : List Tb} (T : TsOk ts) (nd : (nms ts).Nodup) (up : TsUp ts) {cs : List Int} (hc : cs.length = ts.length) {m : Str} (om : PyData.strOk m = true) {h : Nat} {j2 w2 : Nat} {t2 : Tb} {x2 : Hl} (A2 : At ts j2 w2 t2 x2) {much : Int} {a0 a1 a2 a5 a6 a7 a8 a9 a10 a11 a13 : Option R} : ∀ (is : List Nat) (acc : List D) (z17 : Option R), acc.length + is.length ≤ 1000 →
    ∃ y17, forL (setF 17) (bodyDue (FF (k + 1))) (is.map fun i => .int (1 + (i : Nat))) [a0, a1, a2, some (.fz (tsD ts)), some (.fz (.tuple (cs.map iD))), a5, a6, a7, a8, a9, a10, a11, some (.fz (.int much)), a13, some (.fz (kyD m h)), some (.fz (kyD t2.n x2.h)), some (.ow (.list acc)), z17] st = some (.nx, [a0, a1, a2, some (.fz (tsD ts)), some (.fz (.tuple (cs.map iD))), a5, a6, a7, a8, a9, a10, a11, some (.fz (.int much)), a13, some (.fz (kyD m h)), some (.fz (kyD t2.n x2.h)), some (.ow (.list (acc ++ (is.map fun i => PyData.int (1 + (i : Nat))).filter (fits ts cs m h j2 w2 much)))), y17], st)
  | [], acc, z17, _ => ⟨z17, by rw [List.map_nil, List.filter_nil, List.append_nil]; rfl⟩
  | i :: is, acc, z17, hn => by
    simp only [List.length_cons] at hn
    have hsz : acc.length < sizeLine := by rw [sizeLine_eq]; omega
    have hR := fun st => f_law_rated (k := k) (st := st) T om h (1 + i)
    have hE := fun st => f_law_ends (k := k) (st := st) (rated_ok T m h (1 + i)) (by rw [nms_rated]; exact nd) cs (by rw [rated_len]; exact hc)
    have hv := let_val (by rw [nms_rated]; exact nd) (rated_up up m h (1 + i)) cs (rated_at A2 m h (1 + i))
    rw [(rateH_h ..).1] at hv
    have hv : valG decT (letAll (nms (rated ts m h (1 + i))) 0 (rated ts m h (1 + i)) cs []) [.inr t2.n, .inl (x2.h : Int)] = some (.int (vAt (rated ts m h (1 + i)) cs j2 w2)) := hv
    generalize letAll (nms (rated ts m h (1 + i))) 0 (rated ts m h (1 + i)) cs [] = LD at hE hv
    generalize (flowC (nms (rated ts m h (1 + i))) 0 (rated ts m h (1 + i)) cs).map iD = FD at hE
    have e : (1 : Int) + (i : Nat) = ((1 + i : Nat) : Int) := by omega
    have et : ((1 : Int) + (i : Nat)).toNat = 1 + i := by omega
    have ef : fits ts cs m h j2 w2 much (.int (1 + (i : Nat))) = (vAt (rated ts m h (1 + i)) cs j2 w2 == much) := by
      show (vAt (rated ts m h ((1 : Int) + (i : Nat)).toNat) cs j2 w2 == much) = _
      rw [et]
    have hg : setF 17 (.int (1 + (i : Nat))) [a0, a1, a2, some (.fz (tsD ts)), some (.fz (.tuple (cs.map iD))), a5, a6, a7, a8, a9, a10, a11, some (.fz (.int much)), a13, some (.fz (kyD m h)), some (.fz (kyD t2.n x2.h)), some (.ow (.list acc)), z17] = some [a0, a1, a2, some (.fz (tsD ts)), some (.fz (.tuple (cs.map iD))), a5, a6, a7, a8, a9, a10, a11, some (.fz (.int much)), a13, some (.fz (kyD m h)), some (.fz (kyD t2.n x2.h)), some (.ow (.list acc)), some (.fz (.int (1 + (i : Nat))))] := rfl
    have hy : ∀ a b : D, atI [a, b] 1 = some b := fun _ _ => rfl
    have hd : valF (ixG (valF (callF (FF (k + 1)) "_law_ends" (argsF [(callF (FF (k + 1)) "_law_rated" (argsF [(vE 3), (vE 14), (vE 17)])), (vE 4)]))) (valF (kE (.int 1)))) [a0, a1, a2, some (.fz (tsD ts)), some (.fz (.tuple (cs.map iD))), a5, a6, a7, a8, a9, a10, a11, some (.fz (.int much)), a13, some (.fz (kyD m h)), some (.fz (kyD t2.n x2.h)), some (.ow (.list acc)), some (.fz (.int (1 + (i : Nat))))] st = some (.dict [(.none, .dict LD)], st) := by
      rw [e]
      simp only [runM, seqS, frzS, frzs, frz1, retF, retS, ifS, skipS, andE, orE, notE, ifE, valF, vE, vV, kE, kV', callF, ar_nil, ar_cons, dn_fz, dn_ow, dn_bag, dn_scr, d_fz, d_ow, b_of, isiF, isD, blF, cmpF, chainF, orElse, lenS, bltF1, notT, andT, orT, tstF, l_list, l_tuple, l_all, l_listL, l_listT, l_tupL, l_tupT, l_abs, c_lt, c_le, c_gt, c_ge, c_eqI, c_neI, c_inS, c_niS, i_list, i_tuple, i_str, x_list, x_tuple, plainF, ixF, ixG, ixS, asgF, unpF, unF, setAll, List.length_cons, List.length_nil, List.map_cons, List.map_nil, if_true, if_false, List.cons_append, List.nil_append, List.append_nil, List.getElem?_cons_zero, List.getElem?_cons_succ, List.replicate, List.set_cons_zero, List.set_cons_succ, Option.bind_some, Option.map_some, Option.bind_none, Option.map_none, Bool.not_true, Bool.not_false, Bool.false_eq_true, Bool.or_false, Bool.or_true, Nat.reduceAdd, Nat.reduceSub, Nat.zero_add, decide_true, decide_false, Bool.true_and, Bool.false_and, Bool.and_true, Bool.and_false, hR, hE, hy]
    have hx := ixG_T (f := valF (ixG (valF (callF (FF (k + 1)) "_law_ends" (argsF [(callF (FF (k + 1)) "_law_rated" (argsF [(vE 3), (vE 14), (vE 17)])), (vE 4)]))) (valF (kE (.int 1))))) (g := vV 15) hd (n := t2.n) (h := (x2.h : Int)) rfl hv
    have hcm : cmpF .Eq (valF (ixG (valF (ixG (valF (callF (FF (k + 1)) "_law_ends" (argsF [(callF (FF (k + 1)) "_law_rated" (argsF [(vE 3), (vE 14), (vE 17)])), (vE 4)]))) (valF (kE (.int 1))))) (vV 15))) (vV 12) [a0, a1, a2, some (.fz (tsD ts)), some (.fz (.tuple (cs.map iD))), a5, a6, a7, a8, a9, a10, a11, some (.fz (.int much)), a13, some (.fz (kyD m h)), some (.fz (kyD t2.n x2.h)), some (.ow (.list acc)), some (.fz (.int (1 + (i : Nat))))] st = some (vAt (rated ts m h (1 + i)) cs j2 w2 == much, st) := by
      unfold cmpF valF at hx ⊢
      rw [hx]
      simp only [Option.bind_some, d_fz, Option.map_some, vV, List.getElem?_cons_succ, List.getElem?_cons_zero, c_eqI]
    rw [List.map_cons, List.filter_cons, ef]
    unfold forL
    simp only [hg, Option.bind_some]
    cases hq : (vAt (rated ts m h (1 + i)) cs j2 w2 == much) with
    | true =>
      rw [hq] at hcm
      obtain ⟨y17, ih⟩ := loop_due T nd up hc om (h := h) A2 (much := much) (a0 := a0) (a1 := a1) (a2 := a2) (a5 := a5) (a6 := a6) (a7 := a7) (a8 := a8) (a9 := a9) (a10 := a10) (a11 := a11) (a13 := a13) is (acc ++ [.int (1 + (i : Nat))]) (some (.fz (.int (1 + (i : Nat))))) (by simp; omega)
      refine ⟨y17, ?_⟩
      have hb : bodyDue (FF (k + 1)) [a0, a1, a2, some (.fz (tsD ts)), some (.fz (.tuple (cs.map iD))), a5, a6, a7, a8, a9, a10, a11, some (.fz (.int much)), a13, some (.fz (kyD m h)), some (.fz (kyD t2.n x2.h)), some (.ow (.list acc)), some (.fz (.int (1 + (i : Nat))))] st = some (.nx, [a0, a1, a2, some (.fz (tsD ts)), some (.fz (.tuple (cs.map iD))), a5, a6, a7, a8, a9, a10, a11, some (.fz (.int much)), a13, some (.fz (kyD m h)), some (.fz (kyD t2.n x2.h)), some (.ow (.list (acc ++ [.int (1 + (i : Nat))]))), some (.fz (.int (1 + (i : Nat))))], st) := by
        unfold bodyDue
        generalize cmpF .Eq (valF (ixG (valF (ixG (valF (callF (FF (k + 1)) "_law_ends" (argsF [(callF (FF (k + 1)) "_law_rated" (argsF [(vE 3), (vE 14), (vE 17)])), (vE 4)]))) (valF (kE (.int 1))))) (vV 15))) (vV 12) = CF at hcm ⊢
        simp only [runM, seqS, frzS, frzs, frz1, retF, retS, ifS, skipS, andE, orE, notE, ifE, valF, vE, vV, kE, kV', callF, ar_nil, ar_cons, dn_fz, dn_ow, dn_bag, dn_scr, d_fz, d_ow, b_of, isiF, isD, blF, cmpF, chainF, orElse, lenS, bltF1, notT, andT, orT, tstF, l_list, l_tuple, l_all, l_listL, l_listT, l_tupL, l_tupT, l_abs, c_lt, c_le, c_gt, c_ge, c_eqI, c_neI, c_inS, c_niS, i_list, i_tuple, i_str, x_list, x_tuple, plainF, ixF, ixG, ixS, asgF, unpF, unF, setAll, List.length_cons, List.length_nil, List.map_cons, List.map_nil, if_true, if_false, List.cons_append, List.nil_append, List.append_nil, List.getElem?_cons_zero, List.getElem?_cons_succ, List.replicate, List.set_cons_zero, List.set_cons_succ, Option.bind_some, Option.map_some, Option.bind_none, Option.map_none, Bool.not_true, Bool.not_false, Bool.false_eq_true, Bool.or_false, Bool.or_true, Nat.reduceAdd, Nat.reduceSub, Nat.zero_add, decide_true, decide_false, Bool.true_and, Bool.false_and, Bool.and_true, Bool.and_false, hcm, appS, hsz]
      simp only [hb, Option.bind_some, if_true]
      rw [ih]
      simp only [List.append_assoc, List.cons_append, List.nil_append]
    | false =>
      rw [hq] at hcm
      obtain ⟨y17, ih⟩ := loop_due T nd up hc om (h := h) A2 (much := much) (a0 := a0) (a1 := a1) (a2 := a2) (a5 := a5) (a6 := a6) (a7 := a7) (a8 := a8) (a9 := a9) (a10 := a10) (a11 := a11) (a13 := a13) is acc (some (.fz (.int (1 + (i : Nat))))) (by omega)
      refine ⟨y17, ?_⟩
      have hb : bodyDue (FF (k + 1)) [a0, a1, a2, some (.fz (tsD ts)), some (.fz (.tuple (cs.map iD))), a5, a6, a7, a8, a9, a10, a11, some (.fz (.int much)), a13, some (.fz (kyD m h)), some (.fz (kyD t2.n x2.h)), some (.ow (.list acc)), some (.fz (.int (1 + (i : Nat))))] st = some (.nx, [a0, a1, a2, some (.fz (tsD ts)), some (.fz (.tuple (cs.map iD))), a5, a6, a7, a8, a9, a10, a11, some (.fz (.int much)), a13, some (.fz (kyD m h)), some (.fz (kyD t2.n x2.h)), some (.ow (.list acc)), some (.fz (.int (1 + (i : Nat))))], st) := by
        unfold bodyDue
        generalize cmpF .Eq (valF (ixG (valF (ixG (valF (callF (FF (k + 1)) "_law_ends" (argsF [(callF (FF (k + 1)) "_law_rated" (argsF [(vE 3), (vE 14), (vE 17)])), (vE 4)]))) (valF (kE (.int 1))))) (vV 15))) (vV 12) = CF at hcm ⊢
        simp only [runM, seqS, frzS, frzs, frz1, retF, retS, ifS, skipS, andE, orE, notE, ifE, valF, vE, vV, kE, kV', callF, ar_nil, ar_cons, dn_fz, dn_ow, dn_bag, dn_scr, d_fz, d_ow, b_of, isiF, isD, blF, cmpF, chainF, orElse, lenS, bltF1, notT, andT, orT, tstF, l_list, l_tuple, l_all, l_listL, l_listT, l_tupL, l_tupT, l_abs, c_lt, c_le, c_gt, c_ge, c_eqI, c_neI, c_inS, c_niS, i_list, i_tuple, i_str, x_list, x_tuple, plainF, ixF, ixG, ixS, asgF, unpF, unF, setAll, List.length_cons, List.length_nil, List.map_cons, List.map_nil, if_true, if_false, List.cons_append, List.nil_append, List.append_nil, List.getElem?_cons_zero, List.getElem?_cons_succ, List.replicate, List.set_cons_zero, List.set_cons_succ, Option.bind_some, Option.map_some, Option.bind_none, Option.map_none, Bool.not_true, Bool.not_false, Bool.false_eq_true, Bool.or_false, Bool.or_true, Nat.reduceAdd, Nat.reduceSub, Nat.zero_add, decide_true, decide_false, Bool.true_and, Bool.false_and, Bool.and_true, Bool.and_false, hcm]
      simp only [hb, Option.bind_some, Bool.false_eq_true, if_false]
      exact ih
theorem sh_fits (p : D → Bool) : SeqAt.shaped (.list ((rangeD2 1 100).filter p)) = true := sh_l fun d hd => by
  obtain ⟨i, _, rfl⟩ := List.mem_map.mp (List.mem_filter.mp hd).1
  exact ⟨rfl, Nat.zero_le _⟩
end K08

set_option maxHeartbeats 4000000
namespace K08
open PySem PySem.Spec PyProof.Rows L2 Iv
local instance nmZ_K08Zc : Iv.Nm := Iv.nmZ
theorem letAll_len {names : List Str} : ∀ (r : List Tb) (i : Nat) (cs : List Int) (kds : List (D × D)), (∀ t ∈ r, t.hs.length ≤ 3) → (letAll names i r cs kds).length ≤ kds.length + 3 * r.length
  | [], _, _, _, _ => Nat.le_refl _
  | t :: r, i, cs, kds, h => by
    have h3 := h t List.mem_cons_self
    have h1 := letPut_len t.n (t.hs.zip (shareI t.hs (cs.getD i 0))) kds
    rw [List.length_zip] at h1
    have h2 := letAll_len (names := names) r (i + 1) (pour names cs (t.hs.zip (shareI t.hs (cs.getD i 0)))) (letPut t.n kds (t.hs.zip (shareI t.hs (cs.getD i 0)))) fun u hu => h u (List.mem_cons_of_mem _ hu)
    unfold letAll
    rw [List.length_cons]
    omega
theorem law_runs (ns : List Int) (hns : ns.length ≤ 63) : wp (tbl.F whR 60 48 "law" [.scr ns] none) fun p => p = (.fz (.bool true), none) := by
  rw [e_law]
  refine wp_run rfl ?_
  unfold m_law
  refine wp_seq ?_
  simp only [wp_frz, frzs]
  refine wp_forI (wp_range ?_)
  try simp only [frzS, frzs, frz1, retF, retS, ifS, skipS, andE, orE, notE, ifE, valF, vE, vV, kE, kV', callF, ar_nil, ar_cons, dn_fz, dn_ow, dn_bag, dn_scr, d_fz, d_ow, b_of, isiF, isD, blF, cmpF, chainF, orElse, lenS, bltF1, notT, andT, orT, tstF, l_list, l_tuple, l_all, l_listL, l_listT, l_tupL, l_tupT, l_abs, c_lt, c_le, c_gt, c_ge, c_eqI, c_neI, c_inS, c_niS, i_list, i_tuple, i_str, x_list, x_tuple, plainF, ixF, ixG, ixS, asgF, unpF, unF, setAll, List.length_cons, List.length_nil, List.map_cons, List.map_nil, if_true, if_false, List.cons_append, List.nil_append, List.append_nil, List.getElem?_cons_zero, List.getElem?_cons_succ, List.replicate, List.set_cons_zero, List.set_cons_succ, Option.bind_some, Option.map_some, Option.bind_none, Option.map_none, Bool.not_true, Bool.not_false, Bool.false_eq_true, Bool.or_false, Bool.or_true, Nat.reduceAdd, Nat.reduceSub, Nat.zero_add, decide_true, decide_false, Bool.true_and, Bool.false_and, Bool.and_true, Bool.and_false, wp_some, wp_none, wp_bind, wp_map, wp_if, binF, slF, partF, negE, y_list, y_tuple, lstF, tupF, ds_nil, ds_fz, setF, setS, appS, par2F, par3F, wp_frz, dict0, dict1, Iv.keyOf, kD, flatD, upF, revF, bltF2, swS, isiF2, lenOk_of, Nat.reduceLeDiff, b_add, b_sub, Int.reduceBEq, beq_self_eq_true, Int.reduceAdd, Int.reduceSub, blD2]
  refine ⟨_, rfl, ?_, ?_, ?_⟩
  · split <;> omega
  · split <;> omega
  generalize hn : (1 + (if (5 : Int) < (ns.length : Int) then 5 else (ns.length : Int))).toNat = n
  have hn31 : n ≤ 6 := by rw [← hn]; split <;> omega
  refine wp_fl (fun c env st => st = none ∧ Cell ns 18 env) ⟨rfl, ⟨rfl, rfl, rfl, rfl⟩⟩ ?body ?rest
  case rest =>
    rintro env st ⟨rfl, C⟩
    refine wp_seq ?_
    try simp only [frzS, frzs, frz1, retF, retS, ifS, skipS, andE, orE, notE, ifE, valF, vE, vV, kE, kV', callF, ar_nil, ar_cons, dn_fz, dn_ow, dn_bag, dn_scr, d_fz, d_ow, b_of, isiF, isD, blF, cmpF, chainF, orElse, lenS, bltF1, notT, andT, orT, tstF, l_list, l_tuple, l_all, l_listL, l_listT, l_tupL, l_tupT, l_abs, c_lt, c_le, c_gt, c_ge, c_eqI, c_neI, c_inS, c_niS, i_list, i_tuple, i_str, x_list, x_tuple, plainF, ixF, ixG, ixS, asgF, unpF, unF, setAll, List.length_cons, List.length_nil, List.map_cons, List.map_nil, if_true, if_false, List.cons_append, List.nil_append, List.append_nil, List.getElem?_cons_zero, List.getElem?_cons_succ, List.replicate, List.set_cons_zero, List.set_cons_succ, Option.bind_some, Option.map_some, Option.bind_none, Option.map_none, Bool.not_true, Bool.not_false, Bool.false_eq_true, Bool.or_false, Bool.or_true, Nat.reduceAdd, Nat.reduceSub, Nat.zero_add, decide_true, decide_false, Bool.true_and, Bool.false_and, Bool.and_true, Bool.and_false, wp_some, wp_none, wp_bind, wp_map, wp_if, binF, slF, partF, negE, y_list, y_tuple, lstF, tupF, ds_nil, ds_fz, setF, setS, appS, par2F, par3F, wp_frz, dict0, dict1, Iv.keyOf, kD, flatD, upF, revF, bltF2, swS, isiF2, lenOk_of, Nat.reduceLeDiff, b_add, b_sub, Int.reduceBEq, beq_self_eq_true, Int.reduceAdd, Int.reduceSub]
  case body =>
    rintro c d env st hc ⟨rfl, C⟩
    obtain ⟨rfl, hcn⟩ := range_get hc
    refine ⟨_, rfl, ?_⟩
    have C1 := C.set (i := 1) (by omega) (.int (c : Nat))
    obtain ⟨s, hb, bs⟩ := f_law_bag (k := 46) ns c (by omega)
    have len1 := C1.len
    have scr1 := C1.scr
    have get1 : (env.set 1 (some (.fz (.int (c : Nat)))))[1]? = some (some (.fz (.int (c : Nat)))) := List.getElem?_set_self (by rw [C.len]; omega)
    generalize env.set 1 (some (.fz (.int (c : Nat)))) = env1 at C1 len1 scr1 get1
    refine wp_bag C1 (a := s.1) (b := s.2) ?_ ?_ (fun env' C' => ⟨rfl, C'⟩)
    · simp only [callF, ar_cons, ar_nil, vE, scr1, get1, Option.bind_some, Option.map_some, dn_scr, dn_fz]
      exact hb
    · match env1, len1, scr1, get1 with
      | [_, _, z2, z3, z4, z5, z6, z7, z8, z9, z10, z11, z12, z13, z14, z15, z16, z17], _, scr1, get1 =>
      cases scr1
      cases get1
      simp only [List.set_cons_zero, List.set_cons_succ]
      refine wp_seq ?_
      try simp only [frzS, frzs, frz1, retF, retS, ifS, skipS, andE, orE, notE, ifE, valF, vE, vV, kE, kV', callF, ar_nil, ar_cons, dn_fz, dn_ow, dn_bag, dn_scr, d_fz, d_ow, b_of, isiF, isD, blF, cmpF, chainF, orElse, lenS, bltF1, notT, andT, orT, tstF, l_list, l_tuple, l_all, l_listL, l_listT, l_tupL, l_tupT, l_abs, c_lt, c_le, c_gt, c_ge, c_eqI, c_neI, c_inS, c_niS, i_list, i_tuple, i_str, x_list, x_tuple, plainF, ixF, ixG, ixS, asgF, unpF, unF, setAll, List.length_cons, List.length_nil, List.map_cons, List.map_nil, if_true, if_false, List.cons_append, List.nil_append, List.append_nil, List.getElem?_cons_zero, List.getElem?_cons_succ, List.replicate, List.set_cons_zero, List.set_cons_succ, Option.bind_some, Option.map_some, Option.bind_none, Option.map_none, Bool.not_true, Bool.not_false, Bool.false_eq_true, Bool.or_false, Bool.or_true, Nat.reduceAdd, Nat.reduceSub, Nat.zero_add, decide_true, decide_false, Bool.true_and, Bool.false_and, Bool.and_true, Bool.and_false, wp_some, wp_none, wp_bind, wp_map, wp_if, binF, slF, partF, negE, y_list, y_tuple, lstF, tupF, ds_nil, ds_fz, setF, setS, appS, par2F, par3F, wp_frz, dict0, dict1, Iv.keyOf, kD, flatD, upF, revF, bltF2, swS, isiF2, lenOk_of, Nat.reduceLeDiff, b_add, b_sub, Int.reduceBEq, beq_self_eq_true, Int.reduceAdd, Int.reduceSub]
      refine w_tubs bs fun ts s1 gts b1 => ?_
      have tl := gts.len
      have tp := gts.pos
      obtain ⟨T, nd⟩ := gts.tsOk
      have up := gts.up
      try simp only [frzS, frzs, frz1, retF, retS, ifS, skipS, andE, orE, notE, ifE, valF, vE, vV, kE, kV', callF, ar_nil, ar_cons, dn_fz, dn_ow, dn_bag, dn_scr, d_fz, d_ow, b_of, isiF, isD, blF, cmpF, chainF, orElse, lenS, bltF1, notT, andT, orT, tstF, l_list, l_tuple, l_all, l_listL, l_listT, l_tupL, l_tupT, l_abs, c_lt, c_le, c_gt, c_ge, c_eqI, c_neI, c_inS, c_niS, i_list, i_tuple, i_str, x_list, x_tuple, plainF, ixF, ixG, ixS, asgF, unpF, unF, setAll, List.length_cons, List.length_nil, List.map_cons, List.map_nil, if_true, if_false, List.cons_append, List.nil_append, List.append_nil, List.getElem?_cons_zero, List.getElem?_cons_succ, List.replicate, List.set_cons_zero, List.set_cons_succ, Option.bind_some, Option.map_some, Option.bind_none, Option.map_none, Bool.not_true, Bool.not_false, Bool.false_eq_true, Bool.or_false, Bool.or_true, Nat.reduceAdd, Nat.reduceSub, Nat.zero_add, decide_true, decide_false, Bool.true_and, Bool.false_and, Bool.and_true, Bool.and_false, wp_some, wp_none, wp_bind, wp_map, wp_if, binF, slF, partF, negE, y_list, y_tuple, lstF, tupF, ds_nil, ds_fz, setF, setS, appS, par2F, par3F, wp_frz, dict0, dict1, Iv.keyOf, kD, flatD, upF, revF, bltF2, swS, isiF2, lenOk_of, Nat.reduceLeDiff, b_add, b_sub, Int.reduceBEq, beq_self_eq_true, Int.reduceAdd, Int.reduceSub]
      refine wp_seq ?_
      try simp only [frzS, frzs, frz1, retF, retS, ifS, skipS, andE, orE, notE, ifE, valF, vE, vV, kE, kV', callF, ar_nil, ar_cons, dn_fz, dn_ow, dn_bag, dn_scr, d_fz, d_ow, b_of, isiF, isD, blF, cmpF, chainF, orElse, lenS, bltF1, notT, andT, orT, tstF, l_list, l_tuple, l_all, l_listL, l_listT, l_tupL, l_tupT, l_abs, c_lt, c_le, c_gt, c_ge, c_eqI, c_neI, c_inS, c_niS, i_list, i_tuple, i_str, x_list, x_tuple, plainF, ixF, ixG, ixS, asgF, unpF, unF, setAll, List.length_cons, List.length_nil, List.map_cons, List.map_nil, if_true, if_false, List.cons_append, List.nil_append, List.append_nil, List.getElem?_cons_zero, List.getElem?_cons_succ, List.replicate, List.set_cons_zero, List.set_cons_succ, Option.bind_some, Option.map_some, Option.bind_none, Option.map_none, Bool.not_true, Bool.not_false, Bool.false_eq_true, Bool.or_false, Bool.or_true, Nat.reduceAdd, Nat.reduceSub, Nat.zero_add, decide_true, decide_false, Bool.true_and, Bool.false_and, Bool.and_true, Bool.and_false, wp_some, wp_none, wp_bind, wp_map, wp_if, binF, slF, partF, negE, y_list, y_tuple, lstF, tupF, ds_nil, ds_fz, setF, setS, appS, par2F, par3F, wp_frz, dict0, dict1, Iv.keyOf, kD, flatD, upF, revF, bltF2, swS, isiF2, lenOk_of, Nat.reduceLeDiff, b_add, b_sub, Int.reduceBEq, beq_self_eq_true, Int.reduceAdd, Int.reduceSub]
      refine w_rain gts.ok tl b1 fun rs s3 hrl hrb b3 => ?_
      rw [intD_iD]
      have hcl : (rs.map fun n => ((n : Nat) : Int)).length = ts.length := by rw [List.length_map]; exact hrl
      have hnn : ∀ y ∈ rs.map (fun n => ((n : Nat) : Int)), 0 ≤ y := fun y hy => by
        obtain ⟨n, _, rfl⟩ := List.mem_map.mp hy
        omega
      generalize rs.map (fun n => ((n : Nat) : Int)) = cs at hcl hnn ⊢
      have hE := fun st => f_law_ends (k := 46) (st := st) T nd cs hcl
      have hLet := fun {j w t x} (A : At ts j w t x) => let_val nd up cs A
      have hKey := letAll_key (names := nms ts) ts 0 cs []
      have hfl : (flowC (nms ts) 0 ts cs).length = ts.length := by rw [flow_len]; exact hcl
      generalize flowC (nms ts) 0 ts cs = fs at hE hfl
      have hLen := letAll_len (names := nms ts) ts 0 cs [] fun t ht => (T.hs t ht).1
      rw [List.length_nil] at hLen
      generalize letAll (nms ts) 0 ts cs [] = LD at hE hLet hKey hLen
      have hKey : ∀ d ∈ LD.map (·.1), ∃ j w t x, At ts j w t x ∧ d = kyD t.n x.h := fun d hd => by
        obtain ⟨kv, h1, rfl⟩ := List.mem_map.mp hd
        rcases hKey kv h1 with h | ⟨t, ht, x, hx, e⟩
        · cases h
        · obtain ⟨j, w, A⟩ := at_of ht hx
          exact ⟨j, w, t, x, A, e⟩
      have K : KeysOk (LD.map (·.1)) := fun d hd => by
        obtain ⟨j, w, t, x, A, rfl⟩ := hKey d hd
        exact ⟨_, _, rfl, T.ok _ (List.mem_map_of_mem (List.mem_of_getElem? A.h1))⟩
      simp only [FF, Nat.reduceAdd] at hE
      try simp only [frzS, frzs, frz1, retF, retS, ifS, skipS, andE, orE, notE, ifE, valF, vE, vV, kE, kV', callF, ar_nil, ar_cons, dn_fz, dn_ow, dn_bag, dn_scr, d_fz, d_ow, b_of, isiF, isD, blF, cmpF, chainF, orElse, lenS, bltF1, notT, andT, orT, tstF, l_list, l_tuple, l_all, l_listL, l_listT, l_tupL, l_tupT, l_abs, c_lt, c_le, c_gt, c_ge, c_eqI, c_neI, c_inS, c_niS, i_list, i_tuple, i_str, x_list, x_tuple, plainF, ixF, ixG, ixS, asgF, unpF, unF, setAll, List.length_cons, List.length_nil, List.map_cons, List.map_nil, if_true, if_false, List.cons_append, List.nil_append, List.append_nil, List.getElem?_cons_zero, List.getElem?_cons_succ, List.replicate, List.set_cons_zero, List.set_cons_succ, Option.bind_some, Option.map_some, Option.bind_none, Option.map_none, Bool.not_true, Bool.not_false, Bool.false_eq_true, Bool.or_false, Bool.or_true, Nat.reduceAdd, Nat.reduceSub, Nat.zero_add, decide_true, decide_false, Bool.true_and, Bool.false_and, Bool.and_true, Bool.and_false, wp_some, wp_none, wp_bind, wp_map, wp_if, binF, slF, partF, negE, y_list, y_tuple, lstF, tupF, ds_nil, ds_fz, setF, setS, appS, par2F, par3F, wp_frz, dict0, dict1, Iv.keyOf, kD, flatD, upF, revF, bltF2, swS, isiF2, lenOk_of, Nat.reduceLeDiff, b_add, b_sub, Int.reduceBEq, beq_self_eq_true, Int.reduceAdd, Int.reduceSub]
      refine wp_seq ?_
      simp only [tsD] at hE
      try simp only [frzS, frzs, frz1, retF, retS, ifS, skipS, andE, orE, notE, ifE, valF, vE, vV, kE, kV', callF, ar_nil, ar_cons, dn_fz, dn_ow, dn_bag, dn_scr, d_fz, d_ow, b_of, isiF, isD, blF, cmpF, chainF, orElse, lenS, bltF1, notT, andT, orT, tstF, l_list, l_tuple, l_all, l_listL, l_listT, l_tupL, l_tupT, l_abs, c_lt, c_le, c_gt, c_ge, c_eqI, c_neI, c_inS, c_niS, i_list, i_tuple, i_str, x_list, x_tuple, plainF, ixF, ixG, ixS, asgF, unpF, unF, setAll, List.length_cons, List.length_nil, List.map_cons, List.map_nil, if_true, if_false, List.cons_append, List.nil_append, List.append_nil, List.getElem?_cons_zero, List.getElem?_cons_succ, List.replicate, List.set_cons_zero, List.set_cons_succ, Option.bind_some, Option.map_some, Option.bind_none, Option.map_none, Bool.not_true, Bool.not_false, Bool.false_eq_true, Bool.or_false, Bool.or_true, Nat.reduceAdd, Nat.reduceSub, Nat.zero_add, decide_true, decide_false, Bool.true_and, Bool.false_and, Bool.and_true, Bool.and_false, wp_some, wp_none, wp_bind, wp_map, wp_if, binF, slF, partF, negE, y_list, y_tuple, lstF, tupF, ds_nil, ds_fz, setF, setS, appS, par2F, par3F, wp_frz, dict0, dict1, Iv.keyOf, kD, flatD, upF, revF, bltF2, swS, isiF2, lenOk_of, Nat.reduceLeDiff, b_add, b_sub, Int.reduceBEq, beq_self_eq_true, Int.reduceAdd, Int.reduceSub, hE]
      refine wp_seq ?_
      simp only [wp_frz, frzs]
      refine wp_for (ds := rangeD 4) (st1 := some s3) (I := fun _ env st => ∃ (s : Int × Int) (z7 z8 z9 z10 z11 z12 z13 z14 z15 z16 z17 : Option R), bgOk s ∧ st = some s ∧ env = [some (.scr ns), some (.fz (.int (c : Nat))), some .bag, some (.fz (tsD ts)), some (.fz (.tuple (cs.map iD))), some (.fz (.list (fs.map iD))), some (.fz (.dict [(.none, .dict LD)])), z7, z8, z9, z10, z11, z12, z13, z14, z15, z16, z17]) rfl ⟨s3, _, _, _, _, _, _, _, _, _, _, _, b3, rfl, rfl⟩ ?b1 ?r1
      case b1 =>
        rintro c' d env st hd ⟨s2, z7, z8, z9, z10, z11, z12, z13, z14, z15, z16, z17, b2, rfl, rfl⟩
        refine ⟨_, rfl, ?_⟩
        generalize hBD : ts.map Tb.d = BD
        have lB : BD.length = ts.length := by rw [← hBD, List.length_map]
        generalize hCD : cs.map iD = CD
        generalize hFD : fs.map iD = FD
        have lF : FD.length = ts.length := by rw [← hFD, List.length_map]; exact hfl
        simp only [tsD, hBD]
        refine wp_seq ?_
        try simp only [frzS, frzs, frz1, retF, retS, ifS, skipS, andE, orE, notE, ifE, valF, vE, vV, kE, kV', callF, ar_nil, ar_cons, dn_fz, dn_ow, dn_bag, dn_scr, d_fz, d_ow, b_of, isiF, isD, blF, cmpF, chainF, orElse, lenS, bltF1, notT, andT, orT, tstF, l_list, l_tuple, l_all, l_listL, l_listT, l_tupL, l_tupT, l_abs, c_lt, c_le, c_gt, c_ge, c_eqI, c_neI, c_inS, c_niS, i_list, i_tuple, i_str, x_list, x_tuple, plainF, ixF, ixG, ixS, asgF, unpF, unF, setAll, List.length_cons, List.length_nil, List.map_cons, List.map_nil, if_true, if_false, List.cons_append, List.nil_append, List.append_nil, List.getElem?_cons_zero, List.getElem?_cons_succ, List.replicate, List.set_cons_zero, List.set_cons_succ, Option.bind_some, Option.map_some, Option.bind_none, Option.map_none, Bool.not_true, Bool.not_false, Bool.false_eq_true, Bool.or_false, Bool.or_true, Nat.reduceAdd, Nat.reduceSub, Nat.zero_add, decide_true, decide_false, Bool.true_and, Bool.false_and, Bool.and_true, Bool.and_false, wp_some, wp_none, wp_bind, wp_map, wp_if, binF, slF, partF, negE, y_list, y_tuple, lstF, tupF, ds_nil, ds_fz, setF, setS, appS, par2F, par3F, wp_frz, dict0, dict1, Iv.keyOf, kD, flatD, upF, revF, bltF2, swS, isiF2, lenOk_of, Nat.reduceLeDiff, b_add, b_sub, Int.reduceBEq, beq_self_eq_true, Int.reduceAdd, Int.reduceSub]
        rw [lB]
        refine w_take b2 (by omega) (by omega) fun i1 s4 i10 i11 b4 => ?_
        try simp only [frzS, frzs, frz1, retF, retS, ifS, skipS, andE, orE, notE, ifE, valF, vE, vV, kE, kV', callF, ar_nil, ar_cons, dn_fz, dn_ow, dn_bag, dn_scr, d_fz, d_ow, b_of, isiF, isD, blF, cmpF, chainF, orElse, lenS, bltF1, notT, andT, orT, tstF, l_list, l_tuple, l_all, l_listL, l_listT, l_tupL, l_tupT, l_abs, c_lt, c_le, c_gt, c_ge, c_eqI, c_neI, c_inS, c_niS, i_list, i_tuple, i_str, x_list, x_tuple, plainF, ixF, ixG, ixS, asgF, unpF, unF, setAll, List.length_cons, List.length_nil, List.map_cons, List.map_nil, if_true, if_false, List.cons_append, List.nil_append, List.append_nil, List.getElem?_cons_zero, List.getElem?_cons_succ, List.replicate, List.set_cons_zero, List.set_cons_succ, Option.bind_some, Option.map_some, Option.bind_none, Option.map_none, Bool.not_true, Bool.not_false, Bool.false_eq_true, Bool.or_false, Bool.or_true, Nat.reduceAdd, Nat.reduceSub, Nat.zero_add, decide_true, decide_false, Bool.true_and, Bool.false_and, Bool.and_true, Bool.and_false, wp_some, wp_none, wp_bind, wp_map, wp_if, binF, slF, partF, negE, y_list, y_tuple, lstF, tupF, ds_nil, ds_fz, setF, setS, appS, par2F, par3F, wp_frz, dict0, dict1, Iv.keyOf, kD, flatD, upF, revF, bltF2, swS, isiF2, lenOk_of, Nat.reduceLeDiff, b_add, b_sub, Int.reduceBEq, beq_self_eq_true, Int.reduceAdd, Int.reduceSub]
        refine w_take b4 (by omega) (by omega) fun i2 s5 i20 i21 b5 => ?_
        try simp only [frzS, frzs, frz1, retF, retS, ifS, skipS, andE, orE, notE, ifE, valF, vE, vV, kE, kV', callF, ar_nil, ar_cons, dn_fz, dn_ow, dn_bag, dn_scr, d_fz, d_ow, b_of, isiF, isD, blF, cmpF, chainF, orElse, lenS, bltF1, notT, andT, orT, tstF, l_list, l_tuple, l_all, l_listL, l_listT, l_tupL, l_tupT, l_abs, c_lt, c_le, c_gt, c_ge, c_eqI, c_neI, c_inS, c_niS, i_list, i_tuple, i_str, x_list, x_tuple, plainF, ixF, ixG, ixS, asgF, unpF, unF, setAll, List.length_cons, List.length_nil, List.map_cons, List.map_nil, if_true, if_false, List.cons_append, List.nil_append, List.append_nil, List.getElem?_cons_zero, List.getElem?_cons_succ, List.replicate, List.set_cons_zero, List.set_cons_succ, Option.bind_some, Option.map_some, Option.bind_none, Option.map_none, Bool.not_true, Bool.not_false, Bool.false_eq_true, Bool.or_false, Bool.or_true, Nat.reduceAdd, Nat.reduceSub, Nat.zero_add, decide_true, decide_false, Bool.true_and, Bool.false_and, Bool.and_true, Bool.and_false, wp_some, wp_none, wp_bind, wp_map, wp_if, binF, slF, partF, negE, y_list, y_tuple, lstF, tupF, ds_nil, ds_fz, setF, setS, appS, par2F, par3F, wp_frz, dict0, dict1, Iv.keyOf, kD, flatD, upF, revF, bltF2, swS, isiF2, lenOk_of, Nat.reduceLeDiff, b_add, b_sub, Int.reduceBEq, beq_self_eq_true, Int.reduceAdd, Int.reduceSub]
        obtain ⟨one, rfl⟩ : ∃ one : Nat, i1 = (one : Nat) := ⟨i1.toNat, by omega⟩
        obtain ⟨other, rfl⟩ : ∃ other : Nat, i2 = (other : Nat) := ⟨i2.toNat, by omega⟩
        obtain ⟨t1, ht1⟩ : ∃ t1, ts[one]? = some t1 := ⟨_, List.getElem?_eq_getElem (show one < ts.length by omega)⟩
        obtain ⟨t2, ht2⟩ : ∃ t2, ts[other]? = some t2 := ⟨_, List.getElem?_eq_getElem (show other < ts.length by omega)⟩
        have Ak : Ask ts cs one other t1 t2 := ⟨T, nd, hcl, ht1, ht2⟩
        have hz2 : atI BD ((other : Nat) : Int) = some (.tuple [.str t2.n, .int t2.g, .tuple (t2.hs.map Hl.d)]) := atI_nat (by rw [← hBD, List.getElem?_map, ht2]; rfl)
        have h3 := (T.hs t2 (List.mem_of_getElem? ht2)).1
        have hy2 : ∀ a b c : D, atI [a, b, c] 2 = some c := fun _ _ _ => rfl
        have hy0 : ∀ a b c : D, atI [a, b, c] 0 = some a := fun _ _ _ => rfl
        refine wp_seq ?_
        have hlc : ∀ (st : BSt), lcF (plainF (ixG (valF (orElse (ixS 3 (vV 9)) (ixG (vV 3) (vV 9)))) (valF (kE (.int 2))))) [11] (setF 11) yesT (orElse (ixS 11 (valF (kE (.int 0)))) (ixG (vV 11) (valF (kE (.int 0))))) [some (.scr ns), some (.fz (.int (c : Nat))), some .bag, some (.fz (.tuple BD)), some (.fz (.tuple CD)), some (.fz (.list FD)), some (.fz (.dict [(.none, .dict LD)])), some (.fz d), some (.fz (.int (one : Nat))), some (.fz (.int (other : Nat))), z10, z11, z12, z13, z14, z15, z16, z17] st = some (.ow (.list (t2.hs.map fun x => .int x.h)), st) := fun st => by
          rw [lcF_def]
          have hp : plainF (ixG (valF (orElse (ixS 3 (vV 9)) (ixG (vV 3) (vV 9)))) (valF (kE (.int 2)))) [some (.scr ns), some (.fz (.int (c : Nat))), some .bag, some (.fz (.tuple BD)), some (.fz (.tuple CD)), some (.fz (.list FD)), some (.fz (.dict [(.none, .dict LD)])), some (.fz d), some (.fz (.int (one : Nat))), some (.fz (.int (other : Nat))), z10, z11, z12, z13, z14, z15, z16, z17] st = some (t2.hs.map Hl.d, st) := by
            simp only [runM, seqS, frzS, frzs, frz1, retF, retS, ifS, skipS, andE, orE, notE, ifE, valF, vE, vV, kE, kV', callF, ar_nil, ar_cons, dn_fz, dn_ow, dn_bag, dn_scr, d_fz, d_ow, b_of, isiF, isD, blF, cmpF, chainF, orElse, lenS, bltF1, notT, andT, orT, tstF, l_list, l_tuple, l_all, l_listL, l_listT, l_tupL, l_tupT, l_abs, c_lt, c_le, c_gt, c_ge, c_eqI, c_neI, c_inS, c_niS, i_list, i_tuple, i_str, x_list, x_tuple, plainF, ixF, ixG, ixS, asgF, unpF, unF, setAll, List.length_cons, List.length_nil, List.map_cons, List.map_nil, if_true, if_false, List.cons_append, List.nil_append, List.append_nil, List.getElem?_cons_zero, List.getElem?_cons_succ, List.replicate, List.set_cons_zero, List.set_cons_succ, Option.bind_some, Option.map_some, Option.bind_none, Option.map_none, Bool.not_true, Bool.not_false, Bool.false_eq_true, Bool.or_false, Bool.or_true, Nat.reduceAdd, Nat.reduceSub, Nat.zero_add, decide_true, decide_false, Bool.true_and, Bool.false_and, Bool.and_true, Bool.and_false, hz2, hy2]
          rw [hp]
          simp only [Option.bind_some]
          rw [lc_pairs (d := Hl.d) (x := fun x => .int x.h)]
          · rfl
          · intro y _
            refine ⟨[some (.scr ns), some (.fz (.int (c : Nat))), some .bag, some (.fz (.tuple BD)), some (.fz (.tuple CD)), some (.fz (.list FD)), some (.fz (.dict [(.none, .dict LD)])), some (.fz d), some (.fz (.int (one : Nat))), some (.fz (.int (other : Nat))), z10, some (.fz y.d), z12, z13, z14, z15, z16, z17], .fz (.int y.h), rfl, ?_, rfl⟩
            simp only [runM, seqS, frzS, frzs, frz1, retF, retS, ifS, skipS, andE, orE, notE, ifE, valF, vE, vV, kE, kV', callF, ar_nil, ar_cons, dn_fz, dn_ow, dn_bag, dn_scr, d_fz, d_ow, b_of, isiF, isD, blF, cmpF, chainF, orElse, lenS, bltF1, notT, andT, orT, tstF, l_list, l_tuple, l_all, l_listL, l_listT, l_tupL, l_tupT, l_abs, c_lt, c_le, c_gt, c_ge, c_eqI, c_neI, c_inS, c_niS, i_list, i_tuple, i_str, x_list, x_tuple, plainF, ixF, ixG, ixS, asgF, unpF, unF, setAll, List.length_cons, List.length_nil, List.map_cons, List.map_nil, if_true, if_false, List.cons_append, List.nil_append, List.append_nil, List.getElem?_cons_zero, List.getElem?_cons_succ, List.replicate, List.set_cons_zero, List.set_cons_succ, Option.bind_some, Option.map_some, Option.bind_none, Option.map_none, Bool.not_true, Bool.not_false, Bool.false_eq_true, Bool.or_false, Bool.or_true, Nat.reduceAdd, Nat.reduceSub, Nat.zero_add, decide_true, decide_false, Bool.true_and, Bool.false_and, Bool.and_true, Bool.and_false, Hl.d, hy0]
          · rw [List.length_nil]; omega
        generalize lcF (plainF (ixG (valF (orElse (ixS 3 (vV 9)) (ixG (vV 3) (vV 9)))) (valF (kE (.int 2))))) [11] (setF 11) yesT (orElse (ixS 11 (valF (kE (.int 0)))) (ixG (vV 11) (valF (kE (.int 0))))) = LF at hlc ⊢
        try simp only [frzS, frzs, frz1, retF, retS, ifS, skipS, andE, orE, notE, ifE, valF, vE, vV, kE, kV', callF, ar_nil, ar_cons, dn_fz, dn_ow, dn_bag, dn_scr, d_fz, d_ow, b_of, isiF, isD, blF, cmpF, chainF, orElse, lenS, bltF1, notT, andT, orT, tstF, l_list, l_tuple, l_all, l_listL, l_listT, l_tupL, l_tupT, l_abs, c_lt, c_le, c_gt, c_ge, c_eqI, c_neI, c_inS, c_niS, i_list, i_tuple, i_str, x_list, x_tuple, plainF, ixF, ixG, ixS, asgF, unpF, unF, setAll, List.length_cons, List.length_nil, List.map_cons, List.map_nil, if_true, if_false, List.cons_append, List.nil_append, List.append_nil, List.getElem?_cons_zero, List.getElem?_cons_succ, List.replicate, List.set_cons_zero, List.set_cons_succ, Option.bind_some, Option.map_some, Option.bind_none, Option.map_none, Bool.not_true, Bool.not_false, Bool.false_eq_true, Bool.or_false, Bool.or_true, Nat.reduceAdd, Nat.reduceSub, Nat.zero_add, decide_true, decide_false, Bool.true_and, Bool.false_and, Bool.and_true, Bool.and_false, wp_some, wp_none, wp_bind, wp_map, wp_if, binF, slF, partF, negE, y_list, y_tuple, lstF, tupF, ds_nil, ds_fz, setF, setS, appS, par2F, par3F, wp_frz, dict0, dict1, Iv.keyOf, kD, flatD, upF, revF, bltF2, swS, isiF2, lenOk_of, Nat.reduceLeDiff, b_add, b_sub, Int.reduceBEq, beq_self_eq_true, Int.reduceAdd, Int.reduceSub]
        refine w_take b5 (by omega) (by omega) fun i3 s6 i30 i31 b6 => ?_
        have a1 := b_addL (xs := [PyData.int i3]) (ys := t2.hs.map fun x => .int x.h) (by simp; omega)
        have a2 := b_addL (xs := [PyData.int i3] ++ t2.hs.map fun x => .int x.h) (ys := [PyData.int 1000]) (by simp; omega)
        have lvl : ∀ y ∈ [PyData.int i3] ++ (t2.hs.map fun x => PyData.int x.h) ++ [PyData.int 1000], ∃ h : Int, y = .int h := fun y hy => by
          rcases List.mem_append.mp hy with hy | hy
          · rcases List.mem_append.mp hy with hy | hy
            · rw [List.mem_singleton.mp hy]; exact ⟨_, rfl⟩
            · obtain ⟨x, _, rfl⟩ := List.mem_map.mp hy; exact ⟨_, rfl⟩
          · rw [List.mem_singleton.mp hy]; exact ⟨_, rfl⟩
        have lne : [PyData.int i3] ++ (t2.hs.map fun x => PyData.int x.h) ++ [PyData.int 1000] ≠ [] := by simp
        have lle : ([PyData.int i3] ++ (t2.hs.map fun x => PyData.int x.h) ++ [PyData.int 1000]).length ≤ 1000000 := by simp; omega
        generalize [PyData.int i3] ++ (t2.hs.map fun x => PyData.int x.h) ++ [PyData.int 1000] = L2 at a2 lvl lne lle
        generalize [PyData.int i3] ++ (t2.hs.map fun x => PyData.int x.h) = L1 at a1 a2
        generalize (t2.hs.map fun x => PyData.int x.h) = L0 at a1 hlc
        try simp only [frzS, frzs, frz1, retF, retS, ifS, skipS, andE, orE, notE, ifE, valF, vE, vV, kE, kV', callF, ar_nil, ar_cons, dn_fz, dn_ow, dn_bag, dn_scr, d_fz, d_ow, b_of, isiF, isD, blF, cmpF, chainF, orElse, lenS, bltF1, notT, andT, orT, tstF, l_list, l_tuple, l_all, l_listL, l_listT, l_tupL, l_tupT, l_abs, c_lt, c_le, c_gt, c_ge, c_eqI, c_neI, c_inS, c_niS, i_list, i_tuple, i_str, x_list, x_tuple, plainF, ixF, ixG, ixS, asgF, unpF, unF, setAll, List.length_cons, List.length_nil, List.map_cons, List.map_nil, if_true, if_false, List.cons_append, List.nil_append, List.append_nil, List.getElem?_cons_zero, List.getElem?_cons_succ, List.replicate, List.set_cons_zero, List.set_cons_succ, Option.bind_some, Option.map_some, Option.bind_none, Option.map_none, Bool.not_true, Bool.not_false, Bool.false_eq_true, Bool.or_false, Bool.or_true, Nat.reduceAdd, Nat.reduceSub, Nat.zero_add, decide_true, decide_false, Bool.true_and, Bool.false_and, Bool.and_true, Bool.and_false, wp_some, wp_none, wp_bind, wp_map, wp_if, binF, slF, partF, negE, y_list, y_tuple, lstF, tupF, ds_nil, ds_fz, setF, setS, appS, par2F, par3F, wp_frz, dict0, dict1, Iv.keyOf, kD, flatD, upF, revF, bltF2, swS, isiF2, lenOk_of, Nat.reduceLeDiff, b_add, b_sub, Int.reduceBEq, beq_self_eq_true, Int.reduceAdd, Int.reduceSub, hlc, a1, a2]
        refine w_of b6 lne lle fun y s7 hy b7 => ?_
        obtain ⟨level, rfl⟩ := lvl y hy
        try simp only [frzS, frzs, frz1, retF, retS, ifS, skipS, andE, orE, notE, ifE, valF, vE, vV, kE, kV', callF, ar_nil, ar_cons, dn_fz, dn_ow, dn_bag, dn_scr, d_fz, d_ow, b_of, isiF, isD, blF, cmpF, chainF, orElse, lenS, bltF1, notT, andT, orT, tstF, l_list, l_tuple, l_all, l_listL, l_listT, l_tupL, l_tupT, l_abs, c_lt, c_le, c_gt, c_ge, c_eqI, c_neI, c_inS, c_niS, i_list, i_tuple, i_str, x_list, x_tuple, plainF, ixF, ixG, ixS, asgF, unpF, unF, setAll, List.length_cons, List.length_nil, List.map_cons, List.map_nil, if_true, if_false, List.cons_append, List.nil_append, List.append_nil, List.getElem?_cons_zero, List.getElem?_cons_succ, List.replicate, List.set_cons_zero, List.set_cons_succ, Option.bind_some, Option.map_some, Option.bind_none, Option.map_none, Bool.not_true, Bool.not_false, Bool.false_eq_true, Bool.or_false, Bool.or_true, Nat.reduceAdd, Nat.reduceSub, Nat.zero_add, decide_true, decide_false, Bool.true_and, Bool.false_and, Bool.and_true, Bool.and_false, wp_some, wp_none, wp_bind, wp_map, wp_if, binF, slF, partF, negE, y_list, y_tuple, lstF, tupF, ds_nil, ds_fz, setF, setS, appS, par2F, par3F, wp_frz, dict0, dict1, Iv.keyOf, kD, flatD, upF, revF, bltF2, swS, isiF2, lenOk_of, Nat.reduceLeDiff, b_add, b_sub, Int.reduceBEq, beq_self_eq_true, Int.reduceAdd, Int.reduceSub]
        refine wp_seq ?_
        have q1 := fun st => f_law_least_so (k := 38) (st := st) Ak hnn level
        have q2 := fun much st => f_fewest_plugs (k := 32) (st := st) T nd hcl ht2 much
        have q3 := fun much st => f_law_plugs (k := 32) (st := st) T nd hcl ht2 much
        simp only [FF, tsD, Nat.reduceAdd, hBD, hCD] at q1 q2 q3
        try simp only [frzS, frzs, frz1, retF, retS, ifS, skipS, andE, orE, notE, ifE, valF, vE, vV, kE, kV', callF, ar_nil, ar_cons, dn_fz, dn_ow, dn_bag, dn_scr, d_fz, d_ow, b_of, isiF, isD, blF, cmpF, chainF, orElse, lenS, bltF1, notT, andT, orT, tstF, l_list, l_tuple, l_all, l_listL, l_listT, l_tupL, l_tupT, l_abs, c_lt, c_le, c_gt, c_ge, c_eqI, c_neI, c_inS, c_niS, i_list, i_tuple, i_str, x_list, x_tuple, plainF, ixF, ixG, ixS, asgF, unpF, unF, setAll, List.length_cons, List.length_nil, List.map_cons, List.map_nil, if_true, if_false, List.cons_append, List.nil_append, List.append_nil, List.getElem?_cons_zero, List.getElem?_cons_succ, List.replicate, List.set_cons_zero, List.set_cons_succ, Option.bind_some, Option.map_some, Option.bind_none, Option.map_none, Bool.not_true, Bool.not_false, Bool.false_eq_true, Bool.or_false, Bool.or_true, Nat.reduceAdd, Nat.reduceSub, Nat.zero_add, decide_true, decide_false, Bool.true_and, Bool.false_and, Bool.and_true, Bool.and_false, wp_some, wp_none, wp_bind, wp_map, wp_if, binF, slF, partF, negE, y_list, y_tuple, lstF, tupF, ds_nil, ds_fz, setF, setS, appS, par2F, par3F, wp_frz, dict0, dict1, Iv.keyOf, kD, flatD, upF, revF, bltF2, swS, isiF2, lenOk_of, Nat.reduceLeDiff, b_add, b_sub, Int.reduceBEq, beq_self_eq_true, Int.reduceAdd, Int.reduceSub, q1]
        refine wp_seq ?_
        have hx2 : ∃ v, atI FD ((other : Nat) : Int) = some (.int v) := by
          have : other < fs.length := by omega
          refine ⟨fs[other], atI_nat ?_⟩
          rw [← hFD, List.getElem?_map, List.getElem?_eq_getElem this]; rfl
        obtain ⟨v, hx2⟩ := hx2
        try simp only [frzS, frzs, frz1, retF, retS, ifS, skipS, andE, orE, notE, ifE, valF, vE, vV, kE, kV', callF, ar_nil, ar_cons, dn_fz, dn_ow, dn_bag, dn_scr, d_fz, d_ow, b_of, isiF, isD, blF, cmpF, chainF, orElse, lenS, bltF1, notT, andT, orT, tstF, l_list, l_tuple, l_all, l_listL, l_listT, l_tupL, l_tupT, l_abs, c_lt, c_le, c_gt, c_ge, c_eqI, c_neI, c_inS, c_niS, i_list, i_tuple, i_str, x_list, x_tuple, plainF, ixF, ixG, ixS, asgF, unpF, unF, setAll, List.length_cons, List.length_nil, List.map_cons, List.map_nil, if_true, if_false, List.cons_append, List.nil_append, List.append_nil, List.getElem?_cons_zero, List.getElem?_cons_succ, List.replicate, List.set_cons_zero, List.set_cons_succ, Option.bind_some, Option.map_some, Option.bind_none, Option.map_none, Bool.not_true, Bool.not_false, Bool.false_eq_true, Bool.or_false, Bool.or_true, Nat.reduceAdd, Nat.reduceSub, Nat.zero_add, decide_true, decide_false, Bool.true_and, Bool.false_and, Bool.and_true, Bool.and_false, wp_some, wp_none, wp_bind, wp_map, wp_if, binF, slF, partF, negE, y_list, y_tuple, lstF, tupF, ds_nil, ds_fz, setF, setS, appS, par2F, par3F, wp_frz, dict0, dict1, Iv.keyOf, kD, flatD, upF, revF, bltF2, swS, isiF2, lenOk_of, Nat.reduceLeDiff, b_add, b_sub, Int.reduceBEq, beq_self_eq_true, Int.reduceAdd, Int.reduceSub, hx2]
        refine w_take b7 (by omega) (by omega) fun i4 s8 i40 i41 b8 => ?_
        try simp only [frzS, frzs, frz1, retF, retS, ifS, skipS, andE, orE, notE, ifE, valF, vE, vV, kE, kV', callF, ar_nil, ar_cons, dn_fz, dn_ow, dn_bag, dn_scr, d_fz, d_ow, b_of, isiF, isD, blF, cmpF, chainF, orElse, lenS, bltF1, notT, andT, orT, tstF, l_list, l_tuple, l_all, l_listL, l_listT, l_tupL, l_tupT, l_abs, c_lt, c_le, c_gt, c_ge, c_eqI, c_neI, c_inS, c_niS, i_list, i_tuple, i_str, x_list, x_tuple, plainF, ixF, ixG, ixS, asgF, unpF, unF, setAll, List.length_cons, List.length_nil, List.map_cons, List.map_nil, if_true, if_false, List.cons_append, List.nil_append, List.append_nil, List.getElem?_cons_zero, List.getElem?_cons_succ, List.replicate, List.set_cons_zero, List.set_cons_succ, Option.bind_some, Option.map_some, Option.bind_none, Option.map_none, Bool.not_true, Bool.not_false, Bool.false_eq_true, Bool.or_false, Bool.or_true, Nat.reduceAdd, Nat.reduceSub, Nat.zero_add, decide_true, decide_false, Bool.true_and, Bool.false_and, Bool.and_true, Bool.and_false, wp_some, wp_none, wp_bind, wp_map, wp_if, binF, slF, partF, negE, y_list, y_tuple, lstF, tupF, ds_nil, ds_fz, setF, setS, appS, par2F, par3F, wp_frz, dict0, dict1, Iv.keyOf, kD, flatD, upF, revF, bltF2, swS, isiF2, lenOk_of, Nat.reduceLeDiff, b_add, b_sub, Int.reduceBEq, beq_self_eq_true, Int.reduceAdd, Int.reduceSub, blD2]
        refine wp_seq ?_
        generalize (if v + i4 - 2 > 0 then v + i4 - 2 else 0) = much
        have tn := tell_ne T cs other much
        have q2 := q2 much
        have q3 := q3 much
        generalize tellR (plugsOf ts cs other much) = PD at q2 q3 tn
        try simp only [frzS, frzs, frz1, retF, retS, ifS, skipS, andE, orE, notE, ifE, valF, vE, vV, kE, kV', callF, ar_nil, ar_cons, dn_fz, dn_ow, dn_bag, dn_scr, d_fz, d_ow, b_of, isiF, isD, blF, cmpF, chainF, orElse, lenS, bltF1, notT, andT, orT, tstF, l_list, l_tuple, l_all, l_listL, l_listT, l_tupL, l_tupT, l_abs, c_lt, c_le, c_gt, c_ge, c_eqI, c_neI, c_inS, c_niS, i_list, i_tuple, i_str, x_list, x_tuple, plainF, ixF, ixG, ixS, asgF, unpF, unF, setAll, List.length_cons, List.length_nil, List.map_cons, List.map_nil, if_true, if_false, List.cons_append, List.nil_append, List.append_nil, List.getElem?_cons_zero, List.getElem?_cons_succ, List.replicate, List.set_cons_zero, List.set_cons_succ, Option.bind_some, Option.map_some, Option.bind_none, Option.map_none, Bool.not_true, Bool.not_false, Bool.false_eq_true, Bool.or_false, Bool.or_true, Nat.reduceAdd, Nat.reduceSub, Nat.zero_add, decide_true, decide_false, Bool.true_and, Bool.false_and, Bool.and_true, Bool.and_false, wp_some, wp_none, wp_bind, wp_map, wp_if, binF, slF, partF, negE, y_list, y_tuple, lstF, tupF, ds_nil, ds_fz, setF, setS, appS, par2F, par3F, wp_frz, dict0, dict1, Iv.keyOf, kD, flatD, upF, revF, bltF2, swS, isiF2, lenOk_of, Nat.reduceLeDiff, b_add, b_sub, Int.reduceBEq, beq_self_eq_true, Int.reduceAdd, Int.reduceSub, hz2, hy0, q2, q3, tn]
        subst hBD hCD hFD
        exact ⟨s8, _, _, _, _, _, _, _, _, _, _, _, b8, rfl, rfl⟩
      case r1 =>
        rintro env st ⟨s2, z7, z8, z9, z10, z11, z12, z13, z14, z15, z16, z17, b2, rfl, rfl⟩
        have so : blD1 .sorted (.dict [(.none, .dict LD)]) = some (.ow (.list (srtD (LD.map (·.1))))) := by
          unfold blD1
          simp only [keysT, K.sort, if_true]
        refine wp_seq ?_
        try simp only [frzS, frzs, frz1, retF, retS, ifS, skipS, andE, orE, notE, ifE, valF, vE, vV, kE, kV', callF, ar_nil, ar_cons, dn_fz, dn_ow, dn_bag, dn_scr, d_fz, d_ow, b_of, isiF, isD, blF, cmpF, chainF, orElse, lenS, bltF1, notT, andT, orT, tstF, l_list, l_tuple, l_all, l_listL, l_listT, l_tupL, l_tupT, l_abs, c_lt, c_le, c_gt, c_ge, c_eqI, c_neI, c_inS, c_niS, i_list, i_tuple, i_str, x_list, x_tuple, plainF, ixF, ixG, ixS, asgF, unpF, unF, setAll, List.length_cons, List.length_nil, List.map_cons, List.map_nil, if_true, if_false, List.cons_append, List.nil_append, List.append_nil, List.getElem?_cons_zero, List.getElem?_cons_succ, List.replicate, List.set_cons_zero, List.set_cons_succ, Option.bind_some, Option.map_some, Option.bind_none, Option.map_none, Bool.not_true, Bool.not_false, Bool.false_eq_true, Bool.or_false, Bool.or_true, Nat.reduceAdd, Nat.reduceSub, Nat.zero_add, decide_true, decide_false, Bool.true_and, Bool.false_and, Bool.and_true, Bool.and_false, wp_some, wp_none, wp_bind, wp_map, wp_if, binF, slF, partF, negE, y_list, y_tuple, lstF, tupF, ds_nil, ds_fz, setF, setS, appS, par2F, par3F, wp_frz, dict0, dict1, Iv.keyOf, kD, flatD, upF, revF, bltF2, swS, isiF2, lenOk_of, Nat.reduceLeDiff, b_add, b_sub, Int.reduceBEq, beq_self_eq_true, Int.reduceAdd, Int.reduceSub, so]
        have K2 : ∀ d ∈ srtD (LD.map (·.1)), ∃ j w t x, At ts j w t x ∧ d = kyD t.n x.h := fun d hd => hKey d ((List.mergeSort_perm _ _).mem_iff.mp hd)
        have l9 : (srtD (LD.map (·.1))).length ≤ 1000000 := by
          rw [srt_len, List.length_map]; omega
        generalize srtD (LD.map (·.1)) = ks at K2 l9
        refine wp_seq ?_
        have c3 : cutL ks none (some (3 : Int)) = ks.take 3 := cut_take ks 3
        have hp : plainF (slF (vV 13) (partF none) (partF (some (valF (kE (.int 3)))))) [some (.scr ns), some (.fz (.int (c : Nat))), some .bag, some (.fz (tsD ts)), some (.fz (.tuple (cs.map iD))), some (.fz (.list (fs.map iD))), some (.fz (.dict [(.none, .dict LD)])), z7, z8, z9, z10, z11, z12, some (.ow (.list ks)), z14, z15, z16, z17] (some s2) = some (ks.take 3, some s2) := by
          simp only [runM, seqS, frzS, frzs, frz1, retF, retS, ifS, skipS, andE, orE, notE, ifE, valF, vE, vV, kE, kV', callF, ar_nil, ar_cons, dn_fz, dn_ow, dn_bag, dn_scr, d_fz, d_ow, b_of, isiF, isD, blF, cmpF, chainF, orElse, lenS, bltF1, notT, andT, orT, tstF, l_list, l_tuple, l_all, l_listL, l_listT, l_tupL, l_tupT, l_abs, c_lt, c_le, c_gt, c_ge, c_eqI, c_neI, c_inS, c_niS, i_list, i_tuple, i_str, x_list, x_tuple, plainF, ixF, ixG, ixS, asgF, unpF, unF, setAll, List.length_cons, List.length_nil, List.map_cons, List.map_nil, if_true, if_false, List.cons_append, List.nil_append, List.append_nil, List.getElem?_cons_zero, List.getElem?_cons_succ, List.replicate, List.set_cons_zero, List.set_cons_succ, Option.bind_some, Option.map_some, Option.bind_none, Option.map_none, Bool.not_true, Bool.not_false, Bool.false_eq_true, Bool.or_false, Bool.or_true, Nat.reduceAdd, Nat.reduceSub, Nat.zero_add, decide_true, decide_false, Bool.true_and, Bool.false_and, Bool.and_true, Bool.and_false, slF, partF, y_list, c3]
        simp only [wp_frz, frzs]
        refine wp_for (ds := ks.take 3) (st1 := some s2) (I := fun _ env st => ∃ (s : Int × Int) (q13 : R) (z7 z8 z9 z10 z11 z12 z14 z15 z16 z17 : Option R), bgOk s ∧ (q13 = .ow (.list ks) ∨ q13 = .fz (.list ks)) ∧ st = some s ∧ env = [some (.scr ns), some (.fz (.int (c : Nat))), some .bag, some (.fz (tsD ts)), some (.fz (.tuple (cs.map iD))), some (.fz (.list (fs.map iD))), some (.fz (.dict [(.none, .dict LD)])), z7, z8, z9, z10, z11, z12, some q13, z14, z15, z16, z17]) hp ⟨s2, _, _, _, _, _, _, _, _, _, _, _, b2, .inl rfl, rfl, rfl⟩ ?b2 ?r2
        case r2 =>
          rintro env st ⟨s4, q13, z7, z8, z9, z10, z11, z12, z14, z15, z16, z17, b4, hq, rfl, rfl⟩
          exact wp_eq rfl ⟨rfl, rfl, rfl⟩
        case b2 =>
          rintro c' d env st hd ⟨s4, q13, z7, z8, z9, z10, z11, z12, z14, z15, z16, z17, b4, hq, rfl, rfl⟩
          have hdk : d ∈ ks := List.mem_of_mem_take (List.mem_of_getElem? hd)
          obtain ⟨j, w, t, x, A, rfl⟩ := K2 d hdk
          have ok := T.ok _ (List.mem_map_of_mem (List.mem_of_getElem? A.h1))
          refine ⟨[some (.scr ns), some (.fz (.int (c : Nat))), some .bag, some (.fz (tsD ts)), some (.fz (.tuple (cs.map iD))), some (.fz (.list (fs.map iD))), some (.fz (.dict [(.none, .dict LD)])), z7, z8, z9, z10, z11, z12, some q13, some (.fz (kyD t.n x.h)), z15, z16, z17], rfl, ?_⟩
          refine wp_seq ?_
          have fr : frzs [2, 13] [some (.scr ns), some (.fz (.int (c : Nat))), some .bag, some (.fz (tsD ts)), some (.fz (.tuple (cs.map iD))), some (.fz (.list (fs.map iD))), some (.fz (.dict [(.none, .dict LD)])), z7, z8, z9, z10, z11, z12, some q13, some (.fz (kyD t.n x.h)), z15, z16, z17] = [some (.scr ns), some (.fz (.int (c : Nat))), some .bag, some (.fz (tsD ts)), some (.fz (.tuple (cs.map iD))), some (.fz (.list (fs.map iD))), some (.fz (.dict [(.none, .dict LD)])), z7, z8, z9, z10, z11, z12, some (.fz (.list ks)), some (.fz (kyD t.n x.h)), z15, z16, z17] := by
            rcases hq with rfl | rfl <;> rfl
          rw [wp_frz, fr]
          try simp only [frzS, frzs, frz1, retF, retS, ifS, skipS, andE, orE, notE, ifE, valF, vE, vV, kE, kV', callF, ar_nil, ar_cons, dn_fz, dn_ow, dn_bag, dn_scr, d_fz, d_ow, b_of, isiF, isD, blF, cmpF, chainF, orElse, lenS, bltF1, notT, andT, orT, tstF, l_list, l_tuple, l_all, l_listL, l_listT, l_tupL, l_tupT, l_abs, c_lt, c_le, c_gt, c_ge, c_eqI, c_neI, c_inS, c_niS, i_list, i_tuple, i_str, x_list, x_tuple, plainF, ixF, ixG, ixS, asgF, unpF, unF, setAll, List.length_cons, List.length_nil, List.map_cons, List.map_nil, if_true, if_false, List.cons_append, List.nil_append, List.append_nil, List.getElem?_cons_zero, List.getElem?_cons_succ, List.replicate, List.set_cons_zero, List.set_cons_succ, Option.bind_some, Option.map_some, Option.bind_none, Option.map_none, Bool.not_true, Bool.not_false, Bool.false_eq_true, Bool.or_false, Bool.or_true, Nat.reduceAdd, Nat.reduceSub, Nat.zero_add, decide_true, decide_false, Bool.true_and, Bool.false_and, Bool.and_true, Bool.and_false, wp_some, wp_none, wp_bind, wp_map, wp_if, binF, slF, partF, negE, y_list, y_tuple, lstF, tupF, ds_nil, ds_fz, setF, setS, appS, par2F, par3F, wp_frz, dict0, dict1, Iv.keyOf, kD, flatD, upF, revF, bltF2, swS, isiF2, lenOk_of, Nat.reduceLeDiff, b_add, b_sub, Int.reduceBEq, beq_self_eq_true, Int.reduceAdd, Int.reduceSub]
          refine w_of b4 (List.ne_nil_of_mem hdk) l9 fun y s5 hy b5 => ?_
          obtain ⟨j2, w2, t2, x2, A2, rfl⟩ := K2 y hy
          have hv := hLet A2
          try simp only [frzS, frzs, frz1, retF, retS, ifS, skipS, andE, orE, notE, ifE, valF, vE, vV, kE, kV', callF, ar_nil, ar_cons, dn_fz, dn_ow, dn_bag, dn_scr, d_fz, d_ow, b_of, isiF, isD, blF, cmpF, chainF, orElse, lenS, bltF1, notT, andT, orT, tstF, l_list, l_tuple, l_all, l_listL, l_listT, l_tupL, l_tupT, l_abs, c_lt, c_le, c_gt, c_ge, c_eqI, c_neI, c_inS, c_niS, i_list, i_tuple, i_str, x_list, x_tuple, plainF, ixF, ixG, ixS, asgF, unpF, unF, setAll, List.length_cons, List.length_nil, List.map_cons, List.map_nil, if_true, if_false, List.cons_append, List.nil_append, List.append_nil, List.getElem?_cons_zero, List.getElem?_cons_succ, List.replicate, List.set_cons_zero, List.set_cons_succ, Option.bind_some, Option.map_some, Option.bind_none, Option.map_none, Bool.not_true, Bool.not_false, Bool.false_eq_true, Bool.or_false, Bool.or_true, Nat.reduceAdd, Nat.reduceSub, Nat.zero_add, decide_true, decide_false, Bool.true_and, Bool.false_and, Bool.and_true, Bool.and_false, wp_some, wp_none, wp_bind, wp_map, wp_if, binF, slF, partF, negE, y_list, y_tuple, lstF, tupF, ds_nil, ds_fz, setF, setS, appS, par2F, par3F, wp_frz, dict0, dict1, Iv.keyOf, kD, flatD, upF, revF, bltF2, swS, isiF2, lenOk_of, Nat.reduceLeDiff, b_add, b_sub, Int.reduceBEq, beq_self_eq_true, Int.reduceAdd, Int.reduceSub]
          refine wp_seq ?_
          have hx : ∀ st, orElse (ixS 6 (vV 15)) (ixG (vV 6) (vV 15)) [some (.scr ns), some (.fz (.int (c : Nat))), some .bag, some (.fz (tsD ts)), some (.fz (.tuple (cs.map iD))), some (.fz (.list (fs.map iD))), some (.fz (.dict [(.none, .dict LD)])), z7, z8, z9, z10, z11, z12, some (.fz (.list ks)), some (.fz (kyD t.n x.h)), some (.fz (kyD t2.n x2.h)), z16, z17] st = some (.fz (.int (vAt ts cs j2 w2)), st) := fun st => by
            have e0 : ixS 6 (vV 15) [some (.scr ns), some (.fz (.int (c : Nat))), some .bag, some (.fz (tsD ts)), some (.fz (.tuple (cs.map iD))), some (.fz (.list (fs.map iD))), some (.fz (.dict [(.none, .dict LD)])), z7, z8, z9, z10, z11, z12, some (.fz (.list ks)), some (.fz (kyD t.n x.h)), some (.fz (kyD t2.n x2.h)), z16, z17] st = none := rfl
            unfold orElse
            rw [e0]
            exact ixG_T (n := t2.n) (h := (x2.h : Int)) rfl rfl hv
          generalize orElse (ixS 6 (vV 15)) (ixG (vV 6) (vV 15)) = OF at hx ⊢
          try simp only [frzS, frzs, frz1, retF, retS, ifS, skipS, andE, orE, notE, ifE, valF, vE, vV, kE, kV', callF, ar_nil, ar_cons, dn_fz, dn_ow, dn_bag, dn_scr, d_fz, d_ow, b_of, isiF, isD, blF, cmpF, chainF, orElse, lenS, bltF1, notT, andT, orT, tstF, l_list, l_tuple, l_all, l_listL, l_listT, l_tupL, l_tupT, l_abs, c_lt, c_le, c_gt, c_ge, c_eqI, c_neI, c_inS, c_niS, i_list, i_tuple, i_str, x_list, x_tuple, plainF, ixF, ixG, ixS, asgF, unpF, unF, setAll, List.length_cons, List.length_nil, List.map_cons, List.map_nil, if_true, if_false, List.cons_append, List.nil_append, List.append_nil, List.getElem?_cons_zero, List.getElem?_cons_succ, List.replicate, List.set_cons_zero, List.set_cons_succ, Option.bind_some, Option.map_some, Option.bind_none, Option.map_none, Bool.not_true, Bool.not_false, Bool.false_eq_true, Bool.or_false, Bool.or_true, Nat.reduceAdd, Nat.reduceSub, Nat.zero_add, decide_true, decide_false, Bool.true_and, Bool.false_and, Bool.and_true, Bool.and_false, wp_some, wp_none, wp_bind, wp_map, wp_if, binF, slF, partF, negE, y_list, y_tuple, lstF, tupF, ds_nil, ds_fz, setF, setS, appS, par2F, par3F, wp_frz, dict0, dict1, Iv.keyOf, kD, flatD, upF, revF, bltF2, swS, isiF2, lenOk_of, Nat.reduceLeDiff, b_add, b_sub, Int.reduceBEq, beq_self_eq_true, Int.reduceAdd, Int.reduceSub, hx]
          refine w_take b5 (by omega) (by omega) fun i4 s6 i40 i41 b6 => ?_
          try simp only [frzS, frzs, frz1, retF, retS, ifS, skipS, andE, orE, notE, ifE, valF, vE, vV, kE, kV', callF, ar_nil, ar_cons, dn_fz, dn_ow, dn_bag, dn_scr, d_fz, d_ow, b_of, isiF, isD, blF, cmpF, chainF, orElse, lenS, bltF1, notT, andT, orT, tstF, l_list, l_tuple, l_all, l_listL, l_listT, l_tupL, l_tupT, l_abs, c_lt, c_le, c_gt, c_ge, c_eqI, c_neI, c_inS, c_niS, i_list, i_tuple, i_str, x_list, x_tuple, plainF, ixF, ixG, ixS, asgF, unpF, unF, setAll, List.length_cons, List.length_nil, List.map_cons, List.map_nil, if_true, if_false, List.cons_append, List.nil_append, List.append_nil, List.getElem?_cons_zero, List.getElem?_cons_succ, List.replicate, List.set_cons_zero, List.set_cons_succ, Option.bind_some, Option.map_some, Option.bind_none, Option.map_none, Bool.not_true, Bool.not_false, Bool.false_eq_true, Bool.or_false, Bool.or_true, Nat.reduceAdd, Nat.reduceSub, Nat.zero_add, decide_true, decide_false, Bool.true_and, Bool.false_and, Bool.and_true, Bool.and_false, wp_some, wp_none, wp_bind, wp_map, wp_if, binF, slF, partF, negE, y_list, y_tuple, lstF, tupF, ds_nil, ds_fz, setF, setS, appS, par2F, par3F, wp_frz, dict0, dict1, Iv.keyOf, kD, flatD, upF, revF, bltF2, swS, isiF2, lenOk_of, Nat.reduceLeDiff, b_add, b_sub, Int.reduceBEq, beq_self_eq_true, Int.reduceAdd, Int.reduceSub, blD2]
          refine wp_seq ?_
          generalize (if (if vAt ts cs j2 w2 + i4 - 1 > 0 then vAt ts cs j2 w2 + i4 - 1 else 0) < 100 then (if vAt ts cs j2 w2 + i4 - 1 > 0 then vAt ts cs j2 w2 + i4 - 1 else 0) else 100) = much
          try simp only [frzS, frzs, frz1, retF, retS, ifS, skipS, andE, orE, notE, ifE, valF, vE, vV, kE, kV', callF, ar_nil, ar_cons, dn_fz, dn_ow, dn_bag, dn_scr, d_fz, d_ow, b_of, isiF, isD, blF, cmpF, chainF, orElse, lenS, bltF1, notT, andT, orT, tstF, l_list, l_tuple, l_all, l_listL, l_listT, l_tupL, l_tupT, l_abs, c_lt, c_le, c_gt, c_ge, c_eqI, c_neI, c_inS, c_niS, i_list, i_tuple, i_str, x_list, x_tuple, plainF, ixF, ixG, ixS, asgF, unpF, unF, setAll, List.length_cons, List.length_nil, List.map_cons, List.map_nil, if_true, if_false, List.cons_append, List.nil_append, List.append_nil, List.getElem?_cons_zero, List.getElem?_cons_succ, List.replicate, List.set_cons_zero, List.set_cons_succ, Option.bind_some, Option.map_some, Option.bind_none, Option.map_none, Bool.not_true, Bool.not_false, Bool.false_eq_true, Bool.or_false, Bool.or_true, Nat.reduceAdd, Nat.reduceSub, Nat.zero_add, decide_true, decide_false, Bool.true_and, Bool.false_and, Bool.and_true, Bool.and_false, wp_some, wp_none, wp_bind, wp_map, wp_if, binF, slF, partF, negE, y_list, y_tuple, lstF, tupF, ds_nil, ds_fz, setF, setS, appS, par2F, par3F, wp_frz, dict0, dict1, Iv.keyOf, kD, flatD, upF, revF, bltF2, swS, isiF2, lenOk_of, Nat.reduceLeDiff, b_add, b_sub, Int.reduceBEq, beq_self_eq_true, Int.reduceAdd, Int.reduceSub]
          obtain ⟨y17, hdue⟩ := loop_due (k := 46) (st := some s6) T nd up hcl ok (h := x.h) A2 (much := much) (a0 := some (.scr ns)) (a1 := some (.fz (.int (c : Nat)))) (a2 := some .bag) (a5 := some (.fz (.list (fs.map iD)))) (a6 := some (.fz (.dict [(.none, .dict LD)]))) (a7 := z7) (a8 := z8) (a9 := z9) (a10 := z10) (a11 := z11) (a13 := some (.fz (.list ks))) (List.range 100) [] z17 (by simp)
          rw [List.nil_append] at hdue
          refine wp_seq ?_
          refine wp_eq (a := (.nx, [some (.scr ns), some (.fz (.int (c : Nat))), some .bag, some (.fz (tsD ts)), some (.fz (.tuple (cs.map iD))), some (.fz (.list (fs.map iD))), some (.fz (.dict [(.none, .dict LD)])), z7, z8, z9, z10, z11, some (.fz (.int much)), some (.fz (.list ks)), some (.fz (kyD t.n x.h)), some (.fz (kyD t2.n x2.h)), some (.ow (.list ((rangeD2 1 100).filter (fits ts cs t.n x.h j2 w2 much)))), y17], some s6)) hdue ?_
          have q1 := fun st => f_rates_by (k := 41) (st := st) T nd up hcl A A2 much
          have ne := c_neR (sh_fits (fits ts cs t.n x.h j2 w2 much))
          generalize (rangeD2 1 100).filter (fits ts cs t.n x.h j2 w2 much) = RD at q1 ne
          simp only [FF, Nat.reduceAdd] at q1
          refine wp_seq ?_
          try simp only [frzS, frzs, frz1, retF, retS, ifS, skipS, andE, orE, notE, ifE, valF, vE, vV, kE, kV', callF, ar_nil, ar_cons, dn_fz, dn_ow, dn_bag, dn_scr, d_fz, d_ow, b_of, isiF, isD, blF, cmpF, chainF, orElse, lenS, bltF1, notT, andT, orT, tstF, l_list, l_tuple, l_all, l_listL, l_listT, l_tupL, l_tupT, l_abs, c_lt, c_le, c_gt, c_ge, c_eqI, c_neI, c_inS, c_niS, i_list, i_tuple, i_str, x_list, x_tuple, plainF, ixF, ixG, ixS, asgF, unpF, unF, setAll, List.length_cons, List.length_nil, List.map_cons, List.map_nil, if_true, if_false, List.cons_append, List.nil_append, List.append_nil, List.getElem?_cons_zero, List.getElem?_cons_succ, List.replicate, List.set_cons_zero, List.set_cons_succ, Option.bind_some, Option.map_some, Option.bind_none, Option.map_none, Bool.not_true, Bool.not_false, Bool.false_eq_true, Bool.or_false, Bool.or_true, Nat.reduceAdd, Nat.reduceSub, Nat.zero_add, decide_true, decide_false, Bool.true_and, Bool.false_and, Bool.and_true, Bool.and_false, wp_some, wp_none, wp_bind, wp_map, wp_if, binF, slF, partF, negE, y_list, y_tuple, lstF, tupF, ds_nil, ds_fz, setF, setS, appS, par2F, par3F, wp_frz, dict0, dict1, Iv.keyOf, kD, flatD, upF, revF, bltF2, swS, isiF2, lenOk_of, Nat.reduceLeDiff, b_add, b_sub, Int.reduceBEq, beq_self_eq_true, Int.reduceAdd, Int.reduceSub, q1, ne]
          exact ⟨s6, _, _, _, _, _, _, _, _, _, _, _, b6, .inr rfl, rfl, rfl⟩
theorem ans (ns : List Int) (h : ns.length ≤ 63) : tbl.F whR 60 48 ("law" : PySem.Str) [.scr ns] none = some (.fz (.bool true), none) := wp_get (law_runs ns h)
end K08

set_option maxHeartbeats 0
open PySem PySem.W PySem.Calls PyProof.Rows
theorem PySem.Challenge.cw_holetubs_k08_asked_backward_holds : PySem.Challenge.rw_holetubs_k08_asked_backward.Holds := by
  w_on; o_law
  refine HandSHeadRun.head_any (r := OpenLaw.row PySem.Challenge.rw_holetubs_k08_asked_backward) (q := view (OpenLaw.row PySem.Challenge.rw_holetubs_k08_asked_backward).prog [43]) (H := K08.hk) (ob := K08.ob) (M := 4000) (loose := K08.loose) (d := HandSHeadRun.topDef (OpenLaw.row PySem.Challenge.rw_holetubs_k08_asked_backward).prog 43) (kwd := []) K08.ob_eq
    (by kernel_rfl) (fun s => by kernel_rfl) K08.run (by kernel_rfl) (by kernel_rfl) (by kernel_rfl) (by rfl) (by first | assumption | decide +kernel) (by decide +kernel) ⟨rfl, rfl, rfl, rfl, rfl, by decide +kernel⟩ ?hw ?hc
  case hw => w_witness2
  case hc =>
    refine LamX.walk_ofTsE (l := PySem.Challenge.rw_holetubs_k08_asked_backward) (n := 63) (k := 48) (x := "script") (CX := fun _ => L2.CX0) rfl (by decide) (by kernel_rfl) ⟨rfl, by decide, by decide⟩ ?F (fun _ _ _ _ _ z => z)
    intro w mg fa h Y G hmg0
    obtain ⟨K, KX, c⟩ := Y
    have hmg : mg ("law" : PySem.Str) = some (.ref fa) := by
      have e : (HandSHeadRun.topDef (OpenLaw.row PySem.Challenge.rw_holetubs_k08_asked_backward).prog 43).name = ("law" : PySem.Str) := by kernel_rfl
      rw [← e]
      exact hmg0
    letI : Iv.Nm := K08.nmI (K08.tbl.tf.map fun p => (He.cT K p).2)
    obtain ⟨fd, hb, hF⟩ := Iv.Tbl.law (P := (PySem.Challenge.rw_holetubs_k08_asked_backward).prog) (w := w) (T := K08.tbl) Iv.whR_ok (K08.oks _) c.t.d c.more KX G (fun p hp => List.mem_map.mpr ⟨p, hp, rfl⟩) 60 48 63 hmg (d := K08.d_law) (by kernel_rfl) rfl rfl K08.ans
    refine ⟨K, KX, fd, K08.tbl.tf.map (He.cT K ·), Iv.spL K 63, fun p hp => ?_, fun p hp => ?_, fun p hp => ?_, hb, fun H a ns hl _ hT hS => ⟨a, ns, rfl, Iv.sc_of hS, hl, fun p hp => ?_, fun _ => rfl⟩, fun base hK hG hTB => hF base hK hG (fun p hp => hTB _ (List.mem_map.mpr ⟨p, hp, rfl⟩))⟩
    · obtain ⟨q, hq, rfl⟩ := List.mem_map.mp hp; exact c.empty q hq
    · obtain ⟨q, hq, rfl⟩ := List.mem_map.mp hp; exact c.out q hq
    · obtain ⟨q, hq, rfl⟩ := List.mem_map.mp hp; exact PySem.W.codeHd_of_K KX (c.hd q hq)
    · obtain ⟨P, hP, rfl⟩ := List.mem_map.mp hp
      obtain ⟨q, hq, rfl⟩ := List.mem_map.mp hP
      exact NdefX.TabN.nil (hT _ (List.mem_map.mpr ⟨q, hq, rfl⟩))
