import PyProof.Rows.All
import Wide.All
import OpenK.AllK
import Wide.FinOn
import HandS.TupMul
import HandS.ForMost
import HandS.IsInst
import HandS.Walk
import HandS.TupAny
import HandS.Style
import HandS.Wide
import HandS.Strs
import HandS.Zip
import HandS.Conv
import HandS.NoneIn
import HandS.Deep
import HandS.Flow
import HandS.Nested
import KE.GoesEnum
import HandS.SetFor
import KE.SortData
import KE.KDictWalk
import KE.KDictSum
import KE.KDictList
import HandS.DictTup
import HandS.SortRule
import PyProof.P3In
import HandS.More
import HandS.FStrTup
import KE.GoesMore
import KE.GoesZip
import KE.DataFind
import HandS.DictComp
import HandS.Defaults
import HandS.HeadHook4
import HandS.Head0
import HandS.Head1
import HandS.Head2
import HandS.HeadEnd
import HandS.HeadWalk
import HandS.HotCalls
import HandS.ExcIs
import HandS.Lambda
import HandS.Text
import PySem.Challenge.RW_holetubs_k11_written_tubs
set_option Elab.async false
set_option linter.all false
set_option maxRecDepth 100000
set_option maxHeartbeats 4000000
/-! a tuple once: itself -/
namespace L2
open PySem PySem.Spec PyProof.Rows
theorem tuple_mul1 (l : Addr) (items : Array Value) (n : Nat) (dd : Option Addr) (sl : Array (Option Value)) (u : Tok) :
    Meets (Builtin.«tuple.__mul__» ⟨[.ref l, .int 1 u], []⟩) (fun _ R s => s.heap.get? l = some { cls := .type "tuple", dict := dd, data := .seq items n, slots := sl } ∧ R (.ok (.ret (Value.ref l))) s) :=
  .of_wp fun prog w A R s h => by
    obtain ⟨hp, g, d, tk, os⟩ := s
    obtain ⟨hl, h⟩ := h
    have f1 := AutoSeq1.idx_int
    have c0 : (decide ((1 : Int) < -(2 ^ 63)) || decide ((1 : Int) ≥ 2 ^ 63)) = false := by decide
    have c1 : (items.isEmpty || (1 : Int) == 1) = true := by simp
    wp_walk using wpAny_loadPart' hl
    repeat (first
      | (refine wpAny_ite_false (decide_eq_false (by rw [c0]; exact Bool.false_ne_true)) ?_; wp_walk using wpAny_loadPart' hl)
      | (refine wpAny_ite_true (decide_eq_true c1) ?_; wp_walk using wpAny_loadPart' hl))
    exact ⟨_, rfl, h⟩
def rRepT1 (K : PySem.W.Frag) : R2 := fun x y H Q => ∃ l xs, x = .ref l ∧ y = .int 1 ∧ SqT K H l xs ∧ Q (.ref l) H
section
variable {X : Cx}
theorem op_repT1 : OpR X (binaryOp .Mult) (rRepT1 X.K) := by
  intro pins s σ H x y v u Q I rx ry h
  obtain ⟨l, xs, rfl, rfl, hT, q⟩ := h
  cases rx
  obtain ⟨t, rfl⟩ := ry
  obtain ⟨its, r, ⟨⟨cls, dd, data, sl⟩, ho, hc, n, hd⟩, hs⟩ := I.tuple hT
  simp only at hc hd
  subst hc hd
  refine wpAny_binaryOp_repeat_ref (T := "tuple") (U := "int") (by decide) ⟨_, ho, rfl⟩ (fun s' => typeIs_int s' 1 t) noFill_tuple_mul F.fills_int_mul F.slot_int_rmul repeat_tuple F.slot_int_index.lookup
    (call_meets F.slot_int_rmul (typeIs_int s 1 t) F.entry_int_rmul (F.args_int_rmul_2 _ _) (int_rmul_tuple 1 t l its.toArray n dd sl)
      ⟨ho, rfl, ⟨_, ho, rfl⟩, call_meets F.slot_tuple_mul ⟨_, ho, rfl⟩ F.entry_tuple_mul (F.args_tuple_mul_2 _ _) (tuple_mul1 l its.toArray n dd sl t) ⟨ho, ?_⟩⟩)
  exact ⟨.ref l, H, I, rfl, q⟩
end
end L2

set_option maxHeartbeats 4000000
namespace Iv
open PySem PySem.Spec PyProof.Rows L2
/-! ### data, and where it stands -/
abbrev D := PyData
abbrev BSt := Option (Int × Int)
def kD : Key → D
  | .inl i => .int i
  | .inr x => .str x
structure Nd where
  st : Stmt
  name : Str
  q : Str
  ix : Nat
  cap : List Nat
  ps : List Str
  fr : List Str
  N : List Str
class Nm where
  nm : Addr → Nat → Nat → Str
  tabs : List Addr
  nds : Str → Option Nd
/-- the tuples that the text holds once and for all -/
class Ct where
  cts : List (List D)
variable [Ct] [Nm]
mutual
inductive Rp (K : PySem.W.Frag) (H : Hp) : V → D → Prop
  | non : Rp K H .non .none
  | bl (b : Bool) : Rp K H (.bl b) (.bool b)
  | int (i : Int) : Rp K H (.int i) (.int i)
  | str (x : Str) : Rp K H (.str x) (.str x)
  | lst {a : Addr} {xs : List V} {ds : List D} : H a = some (.lst xs) → RpAll K H xs ds → Rp K H (.ref a) (.list ds)
  | tup {a : Addr} {xs : List V} {ds : List D} : SqT K H a xs → RpAll K H xs ds → (H a = some (.tup xs) ∨ ds ∈ Ct.cts) → Rp K H (.ref a) (.tuple ds)
  | dct {a : Addr} {kvs : List (Key × V)} {ds : List D} : L2.Rd H a (.dK kvs) → RpAll K H (kvs.map (·.2)) ds → Rp K H (.ref a) (.dict ((kvs.map fun p => kD p.1).zip ds))
  | dctT {a : Addr} {kvs : List (List Key × V)} {ds : List D} : L2.Rd H a (.dT kvs) → RpAll K H (kvs.map (·.2)) ds → Rp K H (.ref a) (.dict [(.none, .dict ((kvs.map fun p => PyData.tuple (p.1.map kD)).zip ds))])
inductive RpAll (K : PySem.W.Frag) (H : Hp) : List V → List D → Prop
  | nil : RpAll K H [] []
  | cons {v : V} {vs : List V} {d : D} {ds : List D} : Rp K H v d → RpAll K H vs ds → RpAll K H (v :: vs) (d :: ds)
end
section
variable {K : PySem.W.Frag} {H H' : Hp}
theorem sameT {a : Addr} {xs : List V} (e : Same H H') (h : SqT K H a xs) : SqT K H' a xs := by
  rcases h with h | h
  · rcases h with h | ⟨o, h⟩
    · exact .inl (.inl (e _ _ h))
    · exact .inl (.inr ⟨o, e _ _ h⟩)
  · exact .inr h
theorem rd_mono (e : Same H H') {a : Addr} {u : HO} (h : L2.Rd H a u) : L2.Rd H' a u := h.elim (fun h => .inl (e _ _ h)) fun ⟨o, h⟩ => .inr ⟨o, e _ _ h⟩
theorem Rp.mono (e : Same H H') {v : V} {d : D} (h : Rp K H v d) : Rp K H' v d := by
  refine Rp.rec (motive_1 := fun v d _ => Rp K H' v d) (motive_2 := fun vs ds _ => RpAll K H' vs ds) ?_ ?_ ?_ ?_ ?_ ?_ ?_ ?_ ?_ ?_ h
  · exact .non
  · exact fun b => .bl b
  · exact fun i => .int i
  · exact fun x => .str x
  · exact fun h1 _ ih => .lst (e _ _ h1) ih
  · exact fun h1 _ h3 ih => .tup (sameT e h1) ih (h3.imp (e _ _) id)
  · exact fun h1 _ ih => .dct (rd_mono e h1) ih
  · exact fun h1 _ ih => .dctT (rd_mono e h1) ih
  · exact .nil
  · exact fun _ _ a b => .cons a b
theorem RpAll.mono (e : Same H H') : ∀ {vs : List V} {ds : List D}, RpAll K H vs ds → RpAll K H' vs ds
  | _, _, .nil => .nil
  | _, _, .cons a b => .cons (a.mono e) (b.mono e)
theorem RpAll.length : ∀ {vs : List V} {ds : List D}, RpAll K H vs ds → vs.length = ds.length
  | _, _, .nil => rfl
  | _, _, .cons _ b => by simp [b.length]
theorem RpAll.get : ∀ {vs : List V} {ds : List D} {i : Nat} {d : D}, RpAll K H vs ds → ds[i]? = some d → ∃ v, vs[i]? = some v ∧ Rp K H v d
  | _, _, _, _, .nil, e => by simp at e
  | _, _, 0, _, .cons a _, e => by simp at e; subst e; exact ⟨_, rfl, a⟩
  | _, _, i + 1, _, .cons _ b, e => by
    obtain ⟨u, h1, h2⟩ := RpAll.get (i := i) b (by simpa using e)
    exact ⟨u, by simpa using h1, h2⟩
theorem RpAll.append : ∀ {vs ws : List V} {ds es : List D}, RpAll K H vs ds → RpAll K H ws es → RpAll K H (vs ++ ws) (ds ++ es)
  | _, _, _, _, .nil, h => h
  | _, _, _, _, .cons a b, h => .cons a (b.append h)
theorem RpAll.take : ∀ {vs : List V} {ds : List D} (n : Nat), RpAll K H vs ds → RpAll K H (vs.take n) (ds.take n)
  | _, _, 0, _ => by simpa using .nil
  | _, _, n + 1, .nil => by simpa using .nil
  | _, _, n + 1, .cons a b => by simpa using .cons a (b.take n)
theorem RpAll.drop : ∀ {vs : List V} {ds : List D} (n : Nat), RpAll K H vs ds → RpAll K H (vs.drop n) (ds.drop n)
  | _, _, 0, h => by simpa using h
  | _, _, n + 1, .nil => by simpa using .nil
  | _, _, n + 1, .cons a b => by simpa using b.drop n
theorem RpAll.reverse {vs : List V} {ds : List D} (h : RpAll K H vs ds) : RpAll K H vs.reverse ds.reverse := by
  induction ds generalizing vs with
  | nil => cases h; exact .nil
  | cons d ds ih =>
    cases h with
    | cons a b =>
      simp only [List.reverse_cons]
      exact (ih b).append (.cons a .nil)
theorem RpAll.set : ∀ {vs : List V} {ds : List D} {v : V} {d : D} (i : Nat), RpAll K H vs ds → Rp K H v d → RpAll K H (vs.set i v) (ds.set i d)
  | _, _, _, _, _, .nil, _ => .nil
  | _, _, _, _, 0, .cons _ b, h => .cons h b
  | _, _, _, _, i + 1, .cons a b, h => .cons a (b.set i h)
theorem RpAll.rep {vs : List V} {ds : List D} (h : RpAll K H vs ds) : ∀ n : Nat, RpAll K H (List.replicate n vs).flatten (List.replicate n ds).flatten
  | 0 => .nil
  | n + 1 => by
    rw [List.replicate_succ, List.replicate_succ, List.flatten_cons, List.flatten_cons]
    exact h.append (h.rep n)
theorem RpAll.one {v : V} {d : D} (h : Rp K H v d) : RpAll K H [v] [d] := .cons h .nil
theorem RpAll.ints : ∀ {vs : List V} {ns : List Int}, RpAll K H vs (ns.map .int) → vs = ns.map V.int
  | [], [], _ => rfl
  | _, [], h => by cases h; rfl
  | _, n :: ns, h => by
    cases h with
    | cons a b => cases a; rw [RpAll.ints b]; rfl
theorem RpAll.bools : ∀ {vs : List V} {ns : List Bool}, RpAll K H vs (ns.map .bool) → vs = ns.map V.bl
  | _, [], h => by cases h; rfl
  | _, n :: ns, h => by
    cases h with
    | cons a b => cases a; rw [RpAll.bools b]; rfl
theorem RpAll.of_ints : ∀ (ns : List Int), RpAll K H (ns.map V.int) (ns.map .int)
  | [] => .nil
  | n :: ns => .cons (.int n) (RpAll.of_ints ns)
/-- to the library's reading, where no dict is within -/
theorem Rp.dp {v : V} {d : D} (h : Rp K H v d) : d.canLay0 = true → Dp K H v d := by
  refine Rp.rec (motive_1 := fun v d _ => d.canLay0 = true → Dp K H v d) (motive_2 := fun vs ds _ => PyData.canLayAll0 ds = true → DpAll K H vs ds) ?_ ?_ ?_ ?_ ?_ ?_ ?_ ?_ ?_ ?_ h
  · exact fun _ => .non
  · exact fun b _ => .bl b
  · exact fun i _ => .int i
  · exact fun x _ => .str x
  · exact fun h1 _ ih z => .lst (SqL.of h1) (ih (by simpa [PyData.canLay0] using z))
  · exact fun h1 _ _ ih z => .tup h1 (ih (by simpa [PyData.canLay0] using z))
  · exact fun _ _ _ z => by simp [PyData.canLay0] at z
  · exact fun _ _ _ z => by simp [PyData.canLay0] at z
  · exact fun _ => .nil
  · intro v vs d ds _ _ i1 i2 z
    have z' : d.canLay0 = true ∧ PyData.canLayAll0 ds = true := by simpa [PyData.canLayAll0] using z
    exact .cons (i1 z'.1) (i2 z'.2)
end
/-! ### what is owned is taken out, and the tables of code -/
def isTbl : HO → Bool
  | .tbl _ => true
  | _ => false
def plainO : HO → Bool
  | .lst _ => true
  | .dK _ => true
  | .dT _ => true
  | .ins _ _ _ => true
  | _ => false
theorem plain_noTbl {o : HO} (h : plainO o = true) : isTbl o = false := by cases o <;> first | rfl | cases h
def noTbl : Option HO → Option HO
  | some (.tbl _) => none
  | x => x
theorem noTbl_of {o : HO} (t : isTbl o = false) : noTbl (some o) = some o := by cases o <;> first | rfl | cases t
theorem noTbl_some {x : Option HO} {o : HO} (h : noTbl x = some o) : x = some o ∧ isTbl o = false := by
  cases x with
  | none => cases h
  | some p => cases p <;> cases h <;> exact ⟨rfl, rfl⟩
open Classical in
noncomputable def Fz (O : Addr → Prop) (H : Hp) : Hp := fun a => if O a then none else noTbl (H a)
theorem fz_out {O : Addr → Prop} {H : Hp} {a : Addr} (h : ¬ O a) : Fz O H a = noTbl (H a) := by unfold Fz; rw [if_neg h]
theorem fz_put {O : Addr → Prop} {H : Hp} {a : Addr} {o : HO} (h : ¬ O a) (e : H a = some o) (t : isTbl o = false) : Fz O H a = some o := by rw [fz_out h, e]; exact noTbl_of t
theorem fz_in {O : Addr → Prop} {H : Hp} {a : Addr} (h : O a) : Fz O H a = none := by unfold Fz; rw [if_pos h]
theorem fz_some3 {O : Addr → Prop} {H : Hp} {a : Addr} {o : HO} (h : Fz O H a = some o) : ¬ O a ∧ H a = some o ∧ isTbl o = false := by
  by_cases q : O a
  · rw [fz_in q] at h; cases h
  · rw [fz_out q] at h; exact ⟨q, noTbl_some h⟩
theorem fz_some {O : Addr → Prop} {H : Hp} {a : Addr} {o : HO} (h : Fz O H a = some o) : ¬ O a ∧ H a = some o := ⟨(fz_some3 h).1, (fz_some3 h).2.1⟩
theorem fz_same {O : Addr → Prop} {H : Hp} : Same (Fz O H) H := fun _ _ h => (fz_some h).2
theorem fz_mono {O O' : Addr → Prop} {H H' : Hp} (hO : ∀ a, O' a → O a) (h : ∀ a o, ¬ O a → isTbl o = false → H a = some o → H' a = some o) : Same (Fz O H) (Fz O' H') := fun a o e => by
  obtain ⟨n, e, t⟩ := fz_some3 e
  exact fz_put (fun z => n (hO a z)) (h a o n t e) t
def orO (O : Addr → Prop) (p : Addr) : Addr → Prop := fun a => O a ∨ a = p
/-! ### defs within defs: how they are told, where their tables stand -/
abbrev Tb0 : List NdefX.NTab := Nm.tabs.map fun P => (P, Nm.nm P)
/-! ### the bag, what stays -/
def BagAt (β : Option Addr) (H : Hp) : BSt → Prop
  | none => β = none
  | some (g, s) => ∃ b, β = some b ∧ H b = some (.lst [.int g, .int s])
theorem BagAt.get {β : Option Addr} {H : Hp} {st : BSt} {b : Addr} (h : BagAt β H st) (e : β = some b) : ∃ g s, st = some (g, s) ∧ H b = some (.lst [.int g, .int s]) := by
  cases st with
  | none => have h : β = none := h; rw [h] at e; cases e
  | some p => obtain ⟨g, s⟩ := p; obtain ⟨c, e2, h⟩ := h; rw [e] at e2; cases e2; exact ⟨g, s, rfl, h⟩
theorem BagAt.mono {β : Option Addr} {H H' : Hp} {st : BSt} (h : BagAt β H st) (e : ∀ b o, β = some b → H b = some o → H' b = some o) : BagAt β H' st := by
  cases st with
  | none => exact h
  | some p => obtain ⟨g, s⟩ := p; obtain ⟨b, e2, h⟩ := h; exact ⟨b, e2, e b _ e2 h⟩
structure SB (β : Option Addr) (H H' : Hp) : Prop where
  go : ∀ a o, β ≠ some a → isTbl o = false → H a = some o → H' a = some o
  dm : ∀ a, β ≠ some a → H' a = none → H a = none
  tb : NdefX.TabsN Tb0 H → NdefX.TabsN Tb0 H'
theorem SB.refl {β : Option Addr} {H : Hp} : SB β H H := ⟨fun _ _ _ _ h => h, fun _ _ h => h, fun h => h⟩
theorem SB.trans {β : Option Addr} {H H1 H2 : Hp} (h1 : SB β H H1) (h2 : SB β H1 H2) : SB β H H2 := ⟨fun a o n t e => h2.go a o n t (h1.go a o n t e), fun a n e => h1.dm a n (h2.dm a n e), fun t => h2.tb (h1.tb t)⟩
theorem SB.laid {β : Option Addr} {H : Hp} {p : Addr} {o : HO} (h : H p = none) : SB β H (upd H p o) := ⟨fun a u n _ e => by
  rw [upd_ne (ne_of_none e h)]; exact e, fun a _ e => NdefX.upd_none e, fun t => t.ext fun b u e => by rw [upd_ne (ne_of_none e h)]; exact e⟩
theorem tab_upd {H : Hp} {a : Addr} {ob o' : HO} (hob : H a = some ob) (pl : plainO ob = true) {P : Addr} {nm : Nat → Nat → Str} (t : NdefX.TabN H P nm) : NdefX.TabN (upd H a o') P nm := by
  obtain ⟨ps, h1, h2, h3⟩ := t
  refine ⟨ps, ?_, h2, fun pos cv hc => ?_⟩
  · rw [upd_ne (fun z => by rw [z, hob] at h1; cases h1; cases pl)]; exact h1
  · obtain ⟨c, e1, e2⟩ := h3 pos cv hc
    refine ⟨c, e1, ?_⟩
    rw [upd_ne (fun z => by rw [z, hob] at e2; cases e2; cases pl)]; exact e2
/-- a tracked thing changes in its place -/
theorem SB.mut {β : Option Addr} {H0 H : Hp} {a : Addr} {ob o' : HO} (h : SB β H0 H) (hob : H a = some ob) (pl : plainO ob = true) (h0 : β = some a ∨ H0 a = none) : SB β H0 (upd H a o') := by
  refine ⟨fun b o n t e => ?_, fun b n e => h.dm b n (NdefX.upd_none e), fun t p hp => tab_upd hob pl (h.tb t p hp)⟩
  rw [upd_ne (fun z => by
    rw [z] at n e
    rcases h0 with h0 | h0
    · exact n h0
    · rw [h0] at e; cases e)]
  exact h.go b o n t e
/-- results and slots -/
inductive R where
  | fz (d : D) | ow (d : D) | bag | scr (ns : List Int)
  | fnc (f : Addr) (F : NdefX.NF) (ws : List V) (ds : List D)
/-- a dict: int and text keys, or (told by a first key None) keys that are tuples of such -/
def DcAt (K : PySem.W.Frag) (O : Addr → Prop) (H : Hp) (a : Addr) (kds : List (D × D)) : Prop :=
  (∃ kvs : List (Key × V), L2.Rd H a (.dK kvs) ∧ kds.map (·.1) = kvs.map (fun p => kD p.1) ∧ RpAll K (Fz O H) (kvs.map (·.2)) (kds.map (·.2))) ∨
  ∃ kds' : List (D × D), kds = [(.none, .dict kds')] ∧ ∃ kvs : List (List Key × V), L2.Rd H a (.dT kvs) ∧ kds'.map (·.1) = kvs.map (fun p => PyData.tuple (p.1.map kD)) ∧ RpAll K (Fz O H) (kvs.map (·.2)) (kds'.map (·.2))
theorem DcAt.mono {K : PySem.W.Frag} {O O' : Addr → Prop} {H H' : Hp} {a : Addr} {kds : List (D × D)} (h : DcAt K O H a kds) (e : Same (Fz O H) (Fz O' H')) (ha : ∀ o, isTbl o = false → H a = some o → H' a = some o) : DcAt K O' H' a kds := by
  rcases h with ⟨kvs, h1, h2, h3⟩ | ⟨kds', rfl, kvs, h1, h2, h3⟩
  · exact .inl ⟨kvs, h1.elim (fun h1 => .inl (ha _ rfl h1)) fun ⟨o, h1⟩ => .inr ⟨o, ha _ rfl h1⟩, h2, h3.mono e⟩
  · exact .inr ⟨kds', rfl, kvs, h1.elim (fun h1 => .inl (ha _ rfl h1)) fun ⟨o, h1⟩ => .inr ⟨o, ha _ rfl h1⟩, h2, h3.mono e⟩
theorem DcAt.strict {K : PySem.W.Frag} {O : Addr → Prop} {H : Hp} {a : Addr} {kvs : List (Key × V)} (h : L2.Rd H a (.dK kvs)) (p : ∃ o, H a = Option.some o ∧ plainO o = true) : H a = Option.some (.dK kvs) := by
  rcases h with h | ⟨o, h⟩
  · exact h
  · obtain ⟨o', e, p⟩ := p
    rw [h] at e; cases e; cases p
theorem DcAt.strictT {H : Hp} {a : Addr} {kvs : List (List Key × V)} (h : L2.Rd H a (.dT kvs)) (p : ∃ o, H a = Option.some o ∧ plainO o = true) : H a = Option.some (.dT kvs) := by
  rcases h with h | ⟨o, h⟩
  · exact h
  · obtain ⟨o', e, p⟩ := p
    rw [h] at e; cases e; cases p
/-- no key is None: keys are ints and texts -/
def plainK (kds : List (D × D)) : Bool := kds.all fun kv => match kv.1 with | .none => false | _ => true
theorem DcAt.k {K : PySem.W.Frag} {O : Addr → Prop} {H : Hp} {a : Addr} {kds : List (D × D)} (h : DcAt K O H a kds) (p : plainK kds = true) : ∃ kvs : List (Key × V), L2.Rd H a (.dK kvs) ∧ kds.map (·.1) = kvs.map (fun p => kD p.1) ∧ RpAll K (Fz O H) (kvs.map (·.2)) (kds.map (·.2)) := by
  rcases h with h | ⟨_, rfl, _⟩
  · exact h
  · cases p
def OwAt (K : PySem.W.Frag) (O : Addr → Prop) (H : Hp) (a : Addr) : D → Prop
  | .list ds => ∃ xs, H a = some (.lst xs) ∧ RpAll K (Fz O H) xs ds
  | .dict kds => DcAt K O H a kds ∧ ∃ o, H a = some o ∧ plainO o = true
  | _ => False
def ScAt (K : PySem.W.Frag) (β : Option Addr) (O : Addr → Prop) (H : Hp) (a : Addr) (ns : List Int) : Prop := (β ≠ some a ∧ ∃ o, H a = some (.frz o (.lst (ns.map V.int)))) ∨ (∀ H', SqL K H' a (ns.map V.int)) ∨ (β ≠ some a ∧ Fz O H a = some (.lst (ns.map V.int)))
theorem ScAt.mono {K : PySem.W.Frag} {β : Option Addr} {O O' : Addr → Prop} {H H' : Hp} {a : Addr} {ns : List Int} (h : ScAt K β O H a ns) (e : SB β H H') (sm : Same (Fz O H) (Fz O' H')) : ScAt K β O' H' a ns := by
  rcases h with ⟨n, o, h⟩ | h | ⟨n, h⟩
  · exact .inl ⟨n, o, e.go _ _ n rfl h⟩
  · exact .inr (.inl h)
  · exact .inr (.inr ⟨n, sm _ _ h⟩)
theorem ScAt.sq {K : PySem.W.Frag} {β : Option Addr} {O : Addr → Prop} {H : Hp} {a : Addr} {ns : List Int} (h : ScAt K β O H a ns) : SqL K H a (ns.map V.int) := by
  rcases h with ⟨_, o, h⟩ | h | ⟨_, h⟩
  · exact .inl (.inr ⟨o, h⟩)
  · exact h H
  · exact SqL.of (fz_some h).2
/-- a def made in a def: its object, its code, what it captured -/
structure FnAt' (K : PySem.W.Frag) (β : Option Addr) (O : Addr → Prop) (H : Hp) (f : Addr) (F : NdefX.NF) (ws : List V) (ds : List D) : Prop where
  nf : β ≠ some f
  nc : β ≠ some F.c
  ob : H f = some (NdefX.FnO f F)
  co : H F.c = some (LamX.CodeO F.c F.qual)
  rp : RpAll K (Fz O H) ws ds
theorem FnAt'.mono {K : PySem.W.Frag} {β : Option Addr} {O O' : Addr → Prop} {H H' : Hp} {f : Addr} {F : NdefX.NF} {ws : List V} {ds : List D} (h : FnAt' K β O H f F ws ds) (e : Same (Fz O H) (Fz O' H')) (hb : SB β H H') : FnAt' K β O' H' f F ws ds :=
  ⟨h.nf, h.nc, hb.go _ _ h.nf rfl h.ob, hb.go _ _ h.nc rfl h.co, h.rp.mono e⟩
def SlAt (K : PySem.W.Frag) (β : Option Addr) (O : Addr → Prop) (H : Hp) (v : V) : R → Prop
  | .fz d => Rp K (Fz O H) v d
  | .ow d => ∃ a, v = .ref a ∧ O a ∧ β ≠ some a ∧ OwAt K O H a d
  | .bag => ∃ b, β = some b ∧ v = .ref b
  | .scr ns => ∃ a, v = .ref a ∧ ScAt K β O H a ns
  | .fnc f F ws ds => v = .ref f ∧ FnAt' K β O H f F ws ds
/-- an expression's result: H ahead, H' behind -/
def ResAt (K : PySem.W.Frag) (β : Option Addr) (O : Addr → Prop) (H H' : Hp) (v : V) : R → Prop
  | .fz d => Rp K (Fz O H') v d
  | .ow d => ∃ p, v = .ref p ∧ H p = none ∧ β ≠ some p ∧ OwAt K (orO O p) H' p d
  | .bag => ∃ b, β = some b ∧ v = .ref b
  | .scr ns => ∃ a, v = .ref a ∧ ScAt K β O H' a ns
  | .fnc _ _ _ _ => False
abbrev Env' := List (Option R)
structure Rel (K : PySem.W.Frag) (β : Option Addr) (Oo : Addr → Prop) (H0 : Hp) (O : Addr → Prop) (σ : L2.St) (H : Hp) (env : Env') (st : BSt) : Prop where
  sl : ∀ (i : Nat) r, env[i]? = some (some r) → ∃ v, σ[i]? = some (some v) ∧ SlAt K β O H v r
  ne : ∀ (i j : Nat) d e a, i ≠ j → env[i]? = some (some (.ow d)) → env[j]? = some (some (.ow e)) → σ[i]? = some (some (.ref a)) → σ[j]? ≠ some (some (.ref a))
  fr : ∀ (i : Nat) d a, env[i]? = some (some (.ow d)) → σ[i]? = some (some (.ref a)) → H0 a = none
  len : env.length = σ.length
  sub : ∀ a, Oo a → O a
  dom : ∀ a, O a → ∃ o, H a = some o ∧ plainO o = true
  dom0 : ∀ a, Oo a → H0 a ≠ none
  sb : SB β H0 H
  bag : BagAt β H st
  bO : ∀ b, β = some b → Oo b
  tabs : NdefX.TabsN Tb0 H
section
variable {K : PySem.W.Frag} {β : Option Addr} {Oo O : Addr → Prop} {H0 H H' : Hp} {σ : L2.St} {env : Env'} {st st' : BSt}
theorem Rel.fzm (r : Rel K β Oo H0 O σ H env st) (h : SB β H H') : Same (Fz O H) (Fz O H') :=
  fz_mono (fun _ z => z) fun a o n t e => h.go a o (fun z => n (r.sub _ (r.bO a z))) t e
theorem Rel.dom' (r : Rel K β Oo H0 O σ H env st) : ∀ a, O a → H a ≠ none := fun a h z => by
  obtain ⟨o, e, _⟩ := r.dom a h
  rw [e] at z; cases z
theorem OwAt.plain {O : Addr → Prop} {H : Hp} {a : Addr} {d : D} (h : OwAt K O H a d) : ∃ o, H a = some o ∧ plainO o = true := by
  cases d with
  | list ds => obtain ⟨xs, h1, _⟩ := h; exact ⟨_, h1, rfl⟩
  | dict kds => exact h.2
  | none => exact h.elim
  | bool _ => exact h.elim
  | int _ => exact h.elim
  | str _ => exact h.elim
  | tuple _ => exact h.elim
theorem OwAt.mono {O O' : Addr → Prop} {H H' : Hp} {a : Addr} {d : D} (h : OwAt K O H a d) (e : Same (Fz O H) (Fz O' H')) (ha : ∀ o, isTbl o = false → H a = some o → H' a = some o) : OwAt K O' H' a d := by
  cases d with
  | list ds => obtain ⟨xs, h1, h2⟩ := h; exact ⟨xs, ha _ rfl h1, h2.mono e⟩
  | dict kds => exact ⟨DcAt.mono h.1 e ha, let ⟨o, z, p⟩ := h.2; ⟨o, ha o (plain_noTbl p) z, p⟩⟩
  | none => exact h
  | bool _ => exact h
  | int _ => exact h
  | str _ => exact h
  | tuple _ => exact h
theorem SlAt.mono {O O' : Addr → Prop} {H H' : Hp} {v : V} {r : R} (h : SlAt K β O H v r) (e : Same (Fz O H) (Fz O' H')) (hb : SB β H H') (ho : ∀ a d, r = .ow d → v = .ref a → O a → O' a) : SlAt K β O' H' v r := by
  cases r with
  | fz d => exact Rp.mono e h
  | ow d => obtain ⟨a, h1, h2, h3, h4⟩ := h; exact ⟨a, h1, ho a d rfl h1 h2, h3, h4.mono e fun o t => hb.go a o h3 t⟩
  | bag => exact h
  | scr ns => obtain ⟨a, h1, h3⟩ := h; exact ⟨a, h1, h3.mono hb e⟩
  | fnc f F ws ds => exact ⟨h.1, h.2.mono e hb⟩
/-- behind an expression -/
theorem Rel.step (r : Rel K β Oo H0 O σ H env st) (h : SB β H H') (hb : BagAt β H' st') : Rel K β Oo H0 O σ H' env st' where
  sl := fun i x e => let ⟨v, h1, h2⟩ := r.sl i x e; ⟨v, h1, h2.mono (r.fzm h) h fun _ _ _ _ z => z⟩
  ne := r.ne
  fr := r.fr
  len := r.len
  sub := r.sub
  dom := fun a ha => by
    by_cases q : β = some a
    · obtain ⟨g, s, _, e⟩ := hb.get q; exact ⟨_, e, rfl⟩
    · obtain ⟨o, e, p⟩ := r.dom a ha; exact ⟨o, h.go a o q (plain_noTbl p) e, p⟩
  dom0 := r.dom0
  sb := r.sb.trans h
  bag := hb
  bO := r.bO
  tabs := h.tb r.tabs
end
end Iv

set_option maxHeartbeats 4000000
namespace Iv
open PySem PySem.Spec PyProof.Rows L2
open PySem.AutoSeq1 (wpAny_loadPart')
/-! ### enumerate(tuple) -/
abbrev tIt (l : Addr) : Obj := { cls := .type "tuple_iterator", data := .fields #[.ref l, .int 0 0] }
abbrev eIt (i : Addr) : Obj := { cls := .type "enumerate", data := .fields #[.none, .bool false, .ref i, rawInt 0, .none, .none] }
theorem enumNewT (l : Addr) (vs : Array Value) (m : Nat) (dd : Option Addr) (ss : Array (Option Value)) :
    Meets (Builtin.«enumerate.__new__» ⟨[.type "enumerate", .ref l], []⟩) (fun _ R s => s.heap.get? l = some { cls := .type "tuple", dict := dd, data := .seq vs m, slots := ss } ∧
      R (.ok (.ret (.ref (s.heap.push (tIt l)).objs.size))) { s with heap := (s.heap.push (tIt l)).push (eIt s.heap.objs.size) }) :=
  .of_wp fun prog w A R s z => by
    obtain ⟨hp, gg, dr, tt, oo⟩ := s
    obtain ⟨q1, q2⟩ := z
    have q0 := sub_enumerate
    have q3 : Heap.IsTuple (Shared.heap ⟨hp, gg, dr, tt, oo⟩) l vs := ⟨_, q1, rfl, m, rfl⟩
    wp_walk using wpAny_loadPart' q1
    refine wpAny_stack_any fun sk => wpAny_pure ?_
    split
    · rename_i cc _ _ _ _ _
      cases (cc == Value.type "enumerate") <;> (wp_walk using wpAny_loadPart' q1, wpAny_pyIter_tuple q3; exact ⟨_, rfl, q2⟩)
    · wp_walk using wpAny_loadPart' q1, wpAny_pyIter_tuple q3
      exact ⟨_, rfl, q2⟩
theorem enumCallT {prog : Program} {w : World} {A : Around} {E : Value → Shared → Prop} {s : Shared} {l : Addr} {vs : Array Value} {Q : Value → Shared → Prop} (hT : s.heap.IsTuple l vs)
    (k : ∀ h', IsEnum h' (s.heap.objs.size + 1) s.heap.objs.size 0 .none → h'.IsTupleIter s.heap.objs.size l 0 → (∀ b o, s.heap.get? b = some o → h'.get? b = some o) → Q (.ref (s.heap.objs.size + 1)) { s with heap := h' }) :
    wpAny (model prog w) A (call (.type "enumerate") [.ref l]) Q E s := by
  obtain ⟨⟨c, dd, dt, ss⟩, g1, g2, m, g3⟩ := hT
  dsimp only at g2 g3
  subst g2; subst g3
  have sz : (s.heap.push (tIt l)).objs.size = s.heap.objs.size + 1 := Heap.size_push ..
  have en : IsEnum ((s.heap.push (tIt l)).push (eIt s.heap.objs.size)) (s.heap.objs.size + 1) s.heap.objs.size 0 .none := by
    have z := Heap.get?_push_size (s.heap.push (tIt l)) (o := eIt s.heap.objs.size) rfl
    rw [sz] at z; exact z
  refine callType_new F.called_enumerate (by decide) (F.typeCall_enumerate_1 _) (F.newCall_enumerate_1 _) (fun ob => F.args_object_init_2 ob _) F.entry_enumerate_new (enumNewT l vs m dd ss) ⟨g1, ?_⟩
  show _ ∧ _
  rw [sz]
  exact ⟨⟨_, en, rfl⟩, k _ en ⟨_, Heap.get?_push_of_some _ (Heap.get?_push_size _ rfl), rfl, rfl⟩ fun b o z => Heap.get?_push_of_some _ (Heap.get?_push_of_some _ z)⟩
def IteT (K : PySem.W.Frag) (a : Addr) : It :=
  ⟨fun i H => ∃ (xs : List V) (x : V), SqT K H a xs ∧ xs[i]? = some x, fun i H v H' => ∃ T x, v = .ref T ∧ H T = none ∧ H' = upd H T (.tup [.int (i : Nat), x]) ∧ ∀ xs, SqT K H a xs → xs[i]? = some x, fun i H => ∃ xs : List V, SqT K H a xs ∧ xs.length = i⟩
theorem enumTurnT {P : Program} {w : World} {K : PySem.W.Frag} {elts : List Expr} {kk : Nat} {tpos : Pos} (a e it : Addr) :
    Turn P w K (.Tuple elts kk tpos) (IteT K a) [e, it] e (fun i h => (∃ old, IsEnum h e it ((i : Nat) : Int) old) ∧ h.IsTupleIter it a i ∧ e ≠ it ∧ a ≠ it ∧ a ≠ e) where
  mem := List.mem_cons_self
  obj := fun i h z b hb => by
    obtain ⟨⟨old, z1⟩, ⟨o, z2, z3, z4⟩, _⟩ := z
    rcases List.mem_cons.mp hb with rfl | hb
    · exact ⟨_, z1, fun v q => nomatch q⟩
    · cases List.mem_singleton.mp hb; exact ⟨o, z2, fun v q => by rw [z4] at q; cases q⟩
  keep := fun i h h' z k => by
    obtain ⟨⟨old, z1⟩, z2, z3⟩ := z
    exact ⟨⟨old, k e List.mem_cons_self _ z1⟩, z2.at fun o q => k it (List.mem_cons_of_mem _ List.mem_cons_self) o q, z3⟩
  item := by
    intro X rfl rfl rfl calm i pins s σ H E I hf z hg
    obtain ⟨⟨old, z1⟩, z2, ne, n2, n3⟩ := z
    obtain ⟨xs, x, hq, hx⟩ := hg
    obtain ⟨its, rv, ht, hz⟩ := I.tuple hq
    obtain ⟨u, hu, ru⟩ := rv.get hx
    have l1 : e < s.heap.objs.size := Heap.lt_size z1
    have l2 : it < s.heap.objs.size := let ⟨_, y, _⟩ := z2; Heap.lt_size y
    have hn : its.toArray.size = xs.length := by rw [List.size_toArray]; exact rv.length.symm
    have hlt : i < its.toArray.size := by rw [hn]; exact (List.getElem?_eq_some_iff.mp hx).1
    have ii : (((i : Nat) : Int)) = ((i : Nat) : Int) := rfl
    refine wpAny_pyNext_enum_itemD (Draws.tuple (by simpa using I.ok.hd calm) it a n2 its.toArray) z1 ⟨z2, ht⟩ hlt ne (by simp [ne, Ne.symm n3]) fun x' h' tk ex ho hst hT hsz hk => ?_
    have exu : x' = u := by
      have h1 : its.toArray[i]? = some u := by simpa using hu
      rw [h1] at ex; exact (Option.some.inj ex).symm
    subst exu
    refine ⟨_, rfl, wpAny_letOwnedTupleGo_enum (s := { s with heap := h', toks := tk + 1 }) ho fun h2 he2 sb => ?_⟩
    have hT2 : h2.get? s.heap.objs.size = some { cls := .type "tuple", data := .seq #[.int i tk, x'] } := (sb.2 _ (Nat.ne_of_gt l1)).trans hT
    have nw : ObjOk X.prog X.w (upd H s.heap.objs.size (.tup [.int (i : Nat), x])) h2 s.heap.objs.size (.tup [.int (i : Nat), x]) :=
      ⟨by show 2 ≤ sizeLine; decide, [.int i tk, x'], .cons ⟨_, rfl⟩ (.cons ru .nil), ⟨_, hT2, rfl, _, rfl⟩⟩
    have I2 : Inv X pins σ (upd H s.heap.objs.size (.tup [.int (i : Nat), x])) { s with heap := h2, toks := tk + 1 } :=
      I.turnedNew (ch := [e, it]) (fun b ob hb q => (sb.2 b (fun y => hb (by simp [y]))).trans (hk b ob (fun y => hb (by simp [y])) (fun y => hb (by simp [y])) q)) hf (Nat.le_refl _) nw
    refine ⟨.ref s.heap.objs.size, _, I2, rfl, ⟨_, x, rfl, I.hok.fresh (Nat.le_refl _), rfl, fun ys hy => by rw [I.tuple_inj hy hq]; exact hx⟩, ⟨⟨x', ?_⟩, hst.1.at fun o q => (sb.2 it (Ne.symm ne)).trans q, ne, n2, n3⟩, fun b hb => ?_⟩
    · have e1 : ((i + 1 : Nat) : Int) = (i : Int) + 1 := by omega
      rw [e1]; exact he2
    · have lb : b < s.heap.objs.size := by
        rcases List.mem_cons.mp hb with rfl | hb
        · exact l1
        · cases List.mem_singleton.mp hb; exact l2
      rw [upd_ne (Nat.ne_of_lt lb)]
      exact (hf b hb).1
  done := by
    intro X rfl rfl rfl calm i pins s σ H E I hf z hg
    obtain ⟨⟨old, z1⟩, z2, ne, n2, n3⟩ := z
    obtain ⟨xs, hq, hx⟩ := hg
    obtain ⟨its, rv, ht, hz⟩ := I.tuple hq
    obtain ⟨f0, f1, f2, f3, f4, f5⟩ := hf it (List.mem_cons_of_mem _ List.mem_cons_self)
    have hn : its.toArray.size = i := by rw [List.size_toArray, ← rv.length]; exact hx
    subst hn
    exact wpAny_pyNext_enum_endD (Draws.tuple (by simpa using I.ok.hd calm) it a n2 its.toArray) z1 ⟨z2, ht⟩ fun h' eb => ⟨rfl, I.turned (t' := s.toks) (fun b o hb q => eb b o hb q) f0 f1 f3 f4 f5⟩
  self := fun A i s Q E z k => let ⟨⟨_, z1⟩, _⟩ := z; wpAny_pyIter_enum z1 k
def iEnumT (K : PySem.W.Frag) (ta : TA) : TI := fun σ H R => ta σ H fun vs H1 => ∃ a xs, vs = [.ref a] ∧ SqT K H1 a xs ∧ R (IteT K a) H1
theorem pi_enumT {X : Cx} {e : Expr} {ta : TA} {p pos tpos : Pos} {elts : List Expr} {kk : Nat} (hg : Gl X "enumerate") (hm : X.mg "enumerate" = none) (ha : PA X [e] ta) (hs : starEach [e] X.env = [(false, eval e X.env)]) :
    PI X (.Tuple elts kk tpos) (.Call (.Name "enumerate" p) [e] [] pos) (iEnumT X.K ta) := by
  refine ⟨fun pins s σ H R I z => ?_⟩
  refine Call_ (ld_blt I hg hm boot_enumerate (PyProof.Rows.callWith_type1 (thn (ha.run pos pins s σ H _ I z) fun us s1 ⟨vs, H1, I1, r1, q1⟩ => ?_) hs rfl))
  obtain ⟨a, xs, rfl, hq, q⟩ := q1
  have eu : us = [.ref a] := Vals.ref1 r1
  subst eu
  obtain ⟨its, rv, ht, _⟩ := I1.tuple hq
  have la : a < s1.heap.objs.size := let ⟨_, y, _⟩ := ht; Heap.lt_size y
  refine enumCallT ht fun h' he hit hk => wpAny_pyIter_enum he ?_
  have I2 : Inv X pins σ H1 { s1 with heap := h' } := I1.kept (t' := s1.toks) hk
  refine ⟨s1.heap.objs.size + 1, [s1.heap.objs.size + 1, s1.heap.objs.size], _, _, H1, rfl, I2, enumTurnT a (s1.heap.objs.size + 1) s1.heap.objs.size, ⟨⟨.none, he⟩, hit, Nat.succ_ne_self _, Nat.ne_of_lt la, Nat.ne_of_lt (Nat.lt_succ_of_lt la)⟩, fun b hb => ?_, q⟩
  have lb : s1.heap.objs.size ≤ b := by
    rcases List.mem_cons.mp hb with rfl | hb
    · exact Nat.le_succ _
    · cases List.mem_singleton.mp hb; exact Nat.le_refl _
  exact I1.fpOk lb (I1.hok.fresh lb)
end Iv

set_option maxHeartbeats 4000000
namespace Iv
open PySem PySem.Spec PyProof.Rows L2
/-! ### set(list of ints), sorted(set(..)) -/
abbrev sNew (w : World) : Obj := { cls := .type "set", dict := none, data := .set #[] 0 (.fresh 0 0 (!w.params.followText "set-order")) }
section
variable {P : Program} {w : World} {A : Around} {E : Value → Shared → Prop} {s : Shared}
theorem setLst {l : Addr} {vs : Array Value} (ns : List Int) {Q : Value → Shared → Prop} (hh : A.handled = none) (hl : s.heap.IsList l vs) (hv : IntsAre vs.toList ns) (hb : ns.length + 1 < scanBound)
    (k : ∀ (h' : Heap) (tk c : Nat), SetR w h' s.heap.objs.size (fun j => decide (j ∈ ns)) c → c ≤ ns.length → (∀ b o, s.heap.get? b = some o → h'.get? b = some o) → Q (.ref s.heap.objs.size) { s with heap := h', toks := tk }) :
    wpAny (model P w) A (call (.type "set") [.ref l]) Q E s := by
  have sz : vs.size = ns.length := by
    have z := IntsAre.length hv
    rwa [Array.length_toList] at z
  obtain ⟨cm, tm, m1⟩ := F.called_set.mro
  have m2 := F.called_set.made
  have m3 := F.called_set.sub
  refine wpAny_call (codeAny_of_tree ?_)
  show wpAny _ _ (callAny (.type "set") _) _ _ _
  refine wpAny_pure ⟨Code.quiet_builtin _ (by decide +kernel), codeAny_builtin F.entry_type_call ?_⟩
  rw [Around.under_plain (weight_type_call_type "set" [.ref l] []) rfl]
  have m4 := F.called_set.notType
  have m5 := F.called_set.canCreate
  have m6 := F.typeCall_set_1 (.ref l)
  repeat (any_goals (first | assumption | wp_step))
  refine codeAny_mono (code_set_led1 (.ref l) (E := E) (Q₁ := fun ob s1 => ob = .ref s.heap.objs.size ∧ s1 = { s with heap := s.heap.push (sNew w) }) ⟨rfl, rfl⟩) fun r s1 hr => ?_
  cases r with
  | error e => exact hr
  | ok fl =>
    cases fl with
    | ret ob =>
      obtain ⟨rfl, rfl⟩ := hr
      have hS : (s.heap.push (sNew w)).get? s.heap.objs.size = some (sNew w) := Heap.get?_push_size _ rfl
      have hT : Shared.TypeIs { s with heap := s.heap.push (sNew w) } (.ref s.heap.objs.size) "set" := ⟨_, hS, rfl⟩
      have m7 := F.called_set.init.lookup
      have m8 := F.called_set.init.bind (.ref s.heap.objs.size)
      repeat (any_goals (first | assumption | wp_step))
      refine codeAny_mono (codeAny_call_builtin (R := wants (fun r s2 => r = .none ∧ ∃ h' tk c, s2 = { s with heap := h', toks := tk } ∧ SetR w h' s.heap.objs.size (fun j => decide (j ∈ ns)) c ∧ c ≤ ns.length ∧ (∀ b o, s.heap.get? b = some o → h'.get? b = some o)) E)
        F.called_set.init.plain F.entry_set_init (check_set_init_1 hT ?_)) fun r2 s2 hr2 => ?_
      · obtain ⟨⟨oc, od, oda, osl⟩, g1, g2, gn, g3⟩ := hl
        dsimp only at g2 g3
        subst g2; subst g3
        have g1' : (s.heap.push (sNew w)).get? l = some { cls := .type "list", dict := od, data := .seq vs gn, slots := osl } := Heap.get?_push_of_some _ g1
        have m9 := F.sub_list_set
        have m10 := F.sub_list_frozenset
        have m11 : (Value.type "list" == Value.type "dict") = false := by decide
        have hl1 : (s.heap.push (sNew w)).IsList l vs := ⟨_, g1', rfl, gn, rfl⟩
        unfold Builtin.«set.__init__» noKeywords Builtin.Frozenset.updateFrom
        generalize hPI : pyIter = PI
        wp_walk
        subst hPI
        refine wpAny_pyIter_list hl1 ?_
        refine wpAny_bind (wpAny_runValue ?_)
        have lS : l < s.heap.objs.size := Heap.lt_size g1
        have h3 : A.in1.in1.in1.handled = none := by simp [hh]
        have zz : (s.heap.push (sNew w)).objs.size = s.heap.objs.size + 1 := Heap.size_push ..
        have nI : l ≠ (s.heap.push (sNew w)).objs.size := by rw [zz]; exact Nat.ne_of_lt (Nat.lt_succ_of_lt lS)
        have nS : s.heap.objs.size ∉ [(s.heap.push (sNew w)).objs.size, l] := by
          rw [zz]
          intro z
          rcases List.mem_cons.mp z with z | z
          · omega
          · exact Nat.ne_of_gt lS (List.mem_singleton.mp z)
        have val : ∀ (i : Nat) (v : Value), vs[i]? = some v → ∃ k t, ns[i]? = some k ∧ v = .int k t := fun i v e => by
          have hi : i < ns.length := by rw [← sz]; exact (Array.getElem?_eq_some_iff.mp e).1
          obtain ⟨t, et⟩ := PyProof.Rows.IntsAre.int_at hv i v (by rw [Array.getElem?_toList]; exact e)
          exact ⟨ns[i], t, List.getElem?_eq_getElem hi, by rw [et, List.getD_eq_getElem?_getD, List.getElem?_eq_getElem hi] <;> rfl⟩
        refine set_update_ints ((Walks.list h3 _ l nI vs).toS) s.heap.objs.size nS ns sz hb val (vs.size - 0) 0 _ (by omega) (Nat.zero_le _) ⟨⟨_, Heap.get?_push_size _ rfl, rfl, rfl⟩, (hl1.push _)⟩ ?zA ?zB
        case zA => exact ⟨0, Nat.le_refl 0, setR_new_at (Heap.get?_push_of_some _ hS)⟩
        case zB =>
          intro s' c' mv cc hS'
          obtain ⟨h', gg, dr, tt, oo⟩ := s'
          have eg : gg = s.gens := mv.gens
          have ed : dr = s.drawn := mv.drawn
          have eo : oo = s.os := mv.os
          subst eg; subst ed; subst eo
          show wpAny _ _ _ _ _ _
          refine wpAny_pure ?_
          show wpAny _ _ (ret Value.none) _ _ _
          rw [sz] at cc
          refine wpAny_pure ⟨rfl, h', tt, c', rfl, hS', cc, fun b o e => ?_⟩
          have lb : b < s.heap.objs.size := Heap.lt_size e
          refine mv.heap b o (fun z => ?_) (Heap.get?_push_of_some _ (Heap.get?_push_of_some _ e))
          rcases List.mem_cons.mp z with z | z
          · exact Nat.ne_of_lt lb z
          · exact Nat.ne_of_lt (Nat.lt_succ_of_lt lb) ((List.mem_singleton.mp z).trans zz)
      · cases r2 with
        | error e => exact hr2
        | ok fl2 =>
          cases fl2 with
          | ret r =>
            obtain ⟨rfl, h', tk, c', rfl, y1, y2, y3⟩ := hr2
            repeat (any_goals (first | assumption | wp_step))
            exact k _ _ _ y1 y2 y3
          | _ => exact hr2.elim
    | _ => exact hr.elim
end
/-- set(xs) of ints -/
def rSetL (K : PySem.W.Frag) (w : World) : List V → Hp → VK → Prop := fun xs H Q => ∃ (l : Addr) (ns : List Int), xs = [V.ref l] ∧ SqL K H l (ns.map V.int) ∧ ns.length < 64 ∧
  ∀ p c, H p = none → c ≤ ns.length → Q (.ref p) (upd H p (SetO w p (fun j => decide (j ∈ ns)) c))
theorem cr_setL {X : Cx} (hc : X.calm = true) : CallR X (.type "set") (rSetL X.K X.w) := by
  intro pins s σ H xs us Q I r z
  obtain ⟨l, ns, rfl, hs, h64, q⟩ := z
  rw [Vals.ref1 r]
  obtain ⟨its, rv, pl, hz⟩ := I.list hs
  refine setLst ns (I.ok.hd hc) pl.isList (by simpa using rv.ints) (by unfold scanBound; omega) fun h' tk c R hcl hk => ?_
  exact ⟨.ref s.heap.objs.size, _, I.laid (t' := tk) (fun b u e => hk b u e) (Nat.le_refl _) (setO_new R), rfl, q _ c (I.hok.fresh (Nat.le_refl _)) hcl⟩
end Iv

set_option maxHeartbeats 4000000
namespace Iv
open PySem PySem.Spec PyProof.Rows L2
/-! ### t[::-1] of a tuple -/
theorem adjRev (n : Nat) : Builtin.Slice.sliceAdjust none none (-1) (n : Int) = ((n : Int) - 1, -1) := by
  unfold Builtin.Slice.sliceAdjust
  simp
theorem plcRev (n : Nat) : Builtin.Slice.slicePlaces ((n : Int) - 1) (-1) (-1) = n := by
  unfold Builtin.Slice.slicePlaces
  have h1 : ¬ ((-1 : Int) > 0) := by omega
  simp only [h1, if_false]
  split <;> simp <;> omega
theorem fm_congr {α γ : Type} {f g : α → Option γ} : ∀ {l : List α}, (∀ x ∈ l, f x = g x) → l.filterMap f = l.filterMap g
  | [], _ => rfl
  | x :: l, h => by
    rw [List.filterMap_cons, List.filterMap_cons, h x List.mem_cons_self, fm_congr fun y hy => h y (List.mem_cons_of_mem _ hy)]
theorem pickRev (xs : List Value) : ((List.range xs.length).filterMap fun (m : Nat) => xs.toArray[(((xs.length : Int) - 1) + (m : Int) * (-1)).toNat]?) = xs.reverse := by
  apply List.ext_getElem?
  intro j
  have e : ((List.range xs.length).filterMap fun (m : Nat) => xs.toArray[(((xs.length : Int) - 1) + (m : Int) * (-1)).toNat]?) = (List.range xs.length).map fun m => xs.reverse.getD m default := by
    rw [← List.filterMap_eq_map]
    refine fm_congr fun m hm => ?_
    have hm : m < xs.length := List.mem_range.mp hm
    have z : (((xs.length : Int) - 1) + (m : Int) * (-1)).toNat = xs.length - 1 - m := by omega
    rw [z]
    simp [List.getD_eq_getElem?_getD, List.getElem?_reverse hm]
    rw [List.getElem?_eq_getElem (by omega)]
    rfl
  rw [e, List.getElem?_map]
  by_cases hj : j < xs.length
  · rw [List.getElem?_range hj, List.getElem?_eq_getElem (by simpa using hj)]
    simp [List.getD_eq_getElem?_getD, hj]
  · rw [List.getElem?_eq_none (by simpa using hj), List.getElem?_eq_none (by simpa using hj)]; rfl
section
variable {prog : Program} {w : World} {A : Around} {E : Value → Shared → Prop} {s : Shared}
theorem slRev {sl : Addr} {vs : Value} {n : Nat} {Q : Int × Int × Nat → Shared → Prop} (hs : s.heap.IsSliceOf sl .none .none vs) (ps : IsPart vs (some (-1))) (k : Q ((n : Int) - 1, -1, n) s) : wpAny (model prog w) A (Builtin.Slice.sliceApplied (.ref sl) (pure (n : Int))) Q E s := by
  obtain ⟨o, g1, g2, g3⟩ := id hs
  unfold Builtin.Slice.sliceApplied Builtin.Slice.sliceFields
  refine wpAny_bind (wpAny_bind (wpAny_field g1 g3 (x := .none) rfl (wpAny_bind (wpAny_field g1 g3 (x := .none) rfl (wpAny_bind (wpAny_field g1 g3 (x := vs) rfl (wpAny_pure ?_)))))))
  refine wpAny_bind (HT.slicePart_ ps ?_)
  show wpAny _ _ (if ((-1 : Int) == 0) = true then _ else _) _ _ s
  rw [if_neg (by decide)]
  refine wpAny_bind (HT.slicePart_ .none (wpAny_bind (HT.slicePart_ .none (wpAny_bind (wpAny_pure ?_)))))
  show wpAny _ _ (match Builtin.Slice.sliceAdjust none none (-1) (n : Int) with | (lo, hi) => pure (lo, (-1 : Int), Builtin.Slice.slicePlaces lo hi (-1))) _ _ s
  rw [adjRev n]
  show wpAny _ _ (pure ((n : Int) - 1, (-1 : Int), Builtin.Slice.slicePlaces ((n : Int) - 1) (-1) (-1))) _ _ s
  rw [plcRev]
  exact wpAny_pure k
theorem getRev {t sl : Addr} {its : List Value} {vs : Value} {Q : Value → Shared → Prop} (ht : IsTup s.heap t its.toArray) (hs : s.heap.IsSliceOf sl .none .none vs) (ps : IsPart vs (some (-1)))
    (k : Q (.ref s.heap.objs.size) { s with heap := s.heap.push { cls := .type "tuple", data := .seq its.reverse.toArray } }) (hz : its.length ≤ sizeLine) : wpAny (model prog w) A (getItem (.ref t) (.ref sl)) Q E s := by
  have htk : sizeOk (.seq its.reverse.toArray) := by
    show its.reverse.toArray.size ≤ sizeLine
    simpa using hz
  obtain ⟨o, g1, g2, g3⟩ := id hs
  have hT : s.TypeIs (.ref sl) "slice" := ⟨o, g1, g2⟩
  unfold getItem
  try with_reducible refine wpAny_holding ?_
  first | refine wpAny_bind (wpAny_pure ?_) | skip
  refine wpAny_bind (wpAny_sequenceKey ht.typeIs (by decide) ?_)
  refine wpAny_bind (wpAny_callSpecial?_slot (name := Str.ofString "__getitem__") ht.typeIs PyProof.Rows.slot_tuple_getitem (wpAny_call_entry PyProof.Rows.slot_tuple_getitem ht.typeIs entry_tuple_getitem ?_ (args_tuple_getitem _ _)))
  show wpAny _ _ (Builtin.Tuple.tupleItemsOf (.ref t) >>= _) _ _ s
  refine wpAny_bind (tupleItemsOf_ ht ?_)
  refine wpAny_bind (wpAny_typeOf hT ?_)
  rw [if_pos (by decide)]
  refine wpAny_bind (slRev (n := its.toArray.size) hs ps ?_)
  have hn : ¬ ((((its.toArray.size : Int) - 1) == 0 && (-1 : Int) == 1 && its.toArray.size == its.toArray.size) = true) := by simp
  show wpAny _ _ (if (((its.toArray.size : Int) - 1) == 0 && (-1 : Int) == 1 && its.toArray.size == its.toArray.size) = true then _ else _) _ _ s
  rw [if_neg hn]
  rw [List.size_toArray, pickRev]
  first
    | exact wpAny_bind (m := Builtin.Tuple.tupleExact _) (wpAny_newObj_type (wpAny_pure ⟨_, rfl, wpAny_pure k⟩) htk)
    | exact wpAny_bind (m := Builtin.Tuple.tupleExact _) (wpAny_newObj_type (wpAny_bind (wpAny_pure (wpAny_pure ⟨_, rfl, wpAny_pure k⟩))) htk)
    | exact wpAny_bind (wpAny_bind (m := Builtin.Tuple.tupleExact _) (wpAny_newObj_type (wpAny_pure (wpAny_pure ⟨_, rfl, wpAny_pure k⟩)) htk))
    | exact wpAny_bind (wpAny_bind (m := Builtin.Tuple.tupleExact _) (wpAny_newObj_type (wpAny_pure ⟨_, rfl, wpAny_pure k⟩) htk))
end
def tRevT (K : PySem.W.Frag) (te : TE) : TE := fun σ H Q => te σ H fun x H1 => ∃ a xs, x = .ref a ∧ SqT K H1 a xs ∧ ∀ p, H1 p = none → Q (.ref p) (upd H1 p (.tup xs.reverse))
theorem pe_revT {X : Cx} {e : Expr} {te : TE} {k : Nat} {p1 p2 p3 pos : Pos} (he : PE X e te) : PE X (.Subscript e (.Slice none none (some (.UnaryOp .USub (.Constant (.int 1) k p1) p2)) p3) pos) (tRevT X.K te) := by
  refine ⟨fun pins s σ H Q I z => ?_⟩
  refine Subscript_ (thn (he.run pins s σ H _ I z) fun v s1 ⟨x, H1, I1, r1, a, xs, ex, hx, q⟩ => ?_)
  subst ex
  cases r1
  have pm : PO X (some (.UnaryOp .USub (.Constant (.int 1) k p1) p2)) (tPart (tUn (rU fun i => .int (-i)) (tC (.int 1)))) := po_some (pe_un un_neg pe_int)
  refine wpAny_Slice (thn (po_none.run pins s1 σ H1 (fun o H2 => o = none ∧ H2 = H1) I1 ⟨rfl, rfl⟩) fun vl s2 ⟨l, H2, I2, pl, el, e2⟩ => ?_)
  subst el e2
  refine thn (po_none.run pins s2 σ H2 (fun o H3 => o = none ∧ H3 = H2) I2 ⟨rfl, rfl⟩) fun vu s3 ⟨u, H3, I3, pu, eu, e3⟩ => ?_
  subst eu e3
  refine thn (pm.run pins s3 σ H3 (fun o H4 => o = some (-1) ∧ H4 = H3) I3 ⟨1, rfl, -1, rfl, rfl, rfl⟩) fun vs s4 ⟨o, H4, I4, ps, eo, e4⟩ => ?_
  subst eo e4
  cases pl
  cases pu
  have I5 : Inv X pins σ H4 { s4 with heap := s4.heap.push { cls := .type "slice", data := .fields #[.none, .none, vs] } } := I4.kept (t' := s4.toks) fun b ob y => Heap.get?_push_of_some _ y
  obtain ⟨its, r, ht, hz⟩ := I5.tuple hx
  show wpAny (model X.prog X.w) X.A (subscriptTail e (.Slice none none (some (.UnaryOp .USub (.Constant (.int 1) k p1) p2)) p3) (.ref a) (.ref s4.heap.objs.size)) (EP X pins σ Q) X.xe _
  refine tail_any (ops := [.ref a, .ref s4.heap.objs.size]) ht.typeIs (PyProof.Rows.slot_tuple_getitem.lookup) ?_ (by with_unfolding_all rfl)
  refine getRev ht (Heap.IsSliceOf.new _ .none .none vs) ps ?_ (by rw [← r.length]; exact hz)
  exact ⟨.ref _, _, I5.laid (t' := s4.toks) (o := .tup xs.reverse) (fun b ob y => Heap.get?_push_of_some _ y) (Nat.le_refl _) ⟨by rw [List.length_reverse]; exact hz, _, r.reverse, ⟨_, Heap.get?_push_size _ rfl, rfl, _, rfl⟩⟩, rfl, q _ (I5.hok.fresh (Nat.le_refl _))⟩
end Iv

set_option maxHeartbeats 4000000
namespace Iv
open PySem PySem.Spec PyProof.Rows L2
variable [Ct] [Nm]
/-! ### the weakest readings -/
def We (X : Cx) (e : Expr) : TE := fun σ H Q => ∀ pins s, Inv X pins σ H s → wpAny (model X.prog X.w) X.A (eval e X.env) (EP X pins σ Q) X.xe s
def Wt (X : Cx) (e : Expr) : TT := fun σ H Q => ∀ pins s, Inv X pins σ H s → wpAny (model X.prog X.w) X.A (isTrue e X.env (eval e X.env)) (TP X pins σ Q) X.xe s
def Wa (X : Cx) (es : List Expr) : TA := fun σ H Q => ∀ pos pins s, Inv X pins σ H s → wpAny (model X.prog X.w) X.A (spliced (backTo pos (starEach es X.env))) (AP X pins σ Q) X.xe s
def Wo (X : Cx) (f : Value → Value → Sem Value) : R2 := fun x y H Q => ∀ pins s σ v u, Inv X pins σ H s → RelV x v → RelV y u → wpAny (model X.prog X.w) X.A (f v u) (EP X pins σ Q) X.xe s
theorem we_pe (X : Cx) (e : Expr) : PE X e (We X e) := ⟨fun pins s _ _ _ I h => h pins s I⟩
theorem wt_pt (X : Cx) (e : Expr) : PT X e (Wt X e) := ⟨fun pins s _ _ _ I h => h pins s I⟩
theorem wa_pa (X : Cx) (es : List Expr) : PA X es (Wa X es) := ⟨fun pos pins s _ _ _ I h => h pos pins s I⟩
theorem wo_op (X : Cx) (f : Value → Value → Sem Value) : OpR X f (Wo X f) := fun pins s σ H x y v u Q I rx ry h => h pins s σ v u I rx ry
theorem _root_.L2.PE.we {X : Cx} {e : Expr} {t : TE} {σ : L2.St} {H : Hp} {Q : VK} (h : PE X e t) (q : t σ H Q) : We X e σ H Q := fun pins s I => h.run pins s σ H Q I q
theorem _root_.L2.PT.wt {X : Cx} {e : Expr} {t : TT} {σ : L2.St} {H : Hp} {Q : Bool → Hp → Prop} (h : PT X e t) (q : t σ H Q) : Wt X e σ H Q := fun pins s I => h.run pins s σ H Q I q
theorem _root_.L2.PA.wa {X : Cx} {es : List Expr} {t : TA} {σ : L2.St} {H : Hp} {Q : List V → Hp → Prop} (h : PA X es t) (q : t σ H Q) : Wa X es σ H Q := fun pos pins s I => h.run pos pins s σ H Q I q
theorem wo_of {X : Cx} {f : Value → Value → Sem Value} {r : R2} {x y : V} {H : Hp} {Q : VK} (h : OpR X f r) (q : r x y H Q) : Wo X f x y H Q := fun pins s σ v u I rx ry => h pins s σ H x y v u Q I rx ry q
/-! ### a value that is read: its top may be owned -/
def TopAt (K : PySem.W.Frag) (β : Option Addr) (O : Addr → Prop) (H : Hp) (v : V) : D → Prop
  | .list ds => ∃ a xs, v = .ref a ∧ β ≠ some a ∧ H a = some (.lst xs) ∧ RpAll K (Fz O H) xs ds
  | .dict kds => ∃ a, v = .ref a ∧ β ≠ some a ∧ DcAt K O H a kds
  | d => Rp K (Fz O H) v d
def R.d? : R → Option D
  | .fz d => some d
  | .ow d => some d
  | _ => none
abbrev EF := Env' → BSt → Option (R × BSt)
abbrev VF := Env' → BSt → Option (D × BSt)
abbrev TF := Env' → BSt → Option (Bool × BSt)
abbrev AF := Env' → BSt → Option (List R × BSt)
section
variable {K : PySem.W.Frag} {β : Option Addr} {Oo O : Addr → Prop} {H0 H H' : Hp} {σ : L2.St} {env : Env'} {st st' : BSt}
theorem zip_fst {α γ : Type} : ∀ {as : List α} {bs : List γ}, as.length = bs.length → (as.zip bs).map (·.1) = as
  | [], [], _ => rfl
  | a :: as, b :: bs, h => by simp only [List.zip_cons_cons, List.map_cons]; rw [zip_fst (by simpa using h)]
theorem zip_snd {α γ : Type} : ∀ {as : List α} {bs : List γ}, as.length = bs.length → (as.zip bs).map (·.2) = bs
  | [], [], _ => rfl
  | a :: as, b :: bs, h => by simp only [List.zip_cons_cons, List.map_cons]; rw [zip_snd (by simpa using h)]
theorem zip_unzip {α γ : Type} : ∀ l : List (α × γ), (l.map (·.1)).zip (l.map (·.2)) = l
  | [] => rfl
  | (a, b) :: l => by simp only [List.map_cons, List.zip_cons_cons]; rw [zip_unzip l]
theorem top_of_rp (hb : ∀ b, β = some b → O b) {v : V} {d : D} (h : Rp K (Fz O H) v d) : TopAt K β O H v d := by
  cases h with
  | non => exact .non
  | bl b => exact .bl b
  | int i => exact .int i
  | str x => exact .str x
  | lst h1 h2 => exact ⟨_, _, rfl, fun z => (fz_some h1).1 (hb _ z), (fz_some h1).2, h2⟩
  | tup h1 h2 h3 => exact .tup h1 h2 h3
  | @dct a kvs ds h1 h2 =>
    have l : (kvs.map fun p => kD p.1).length = ds.length := by rw [← h2.length]; simp
    exact ⟨_, rfl, fun z => h1.elim (fun h1 => (fz_some h1).1 (hb _ z)) fun ⟨_, h1⟩ => (fz_some h1).1 (hb _ z), .inl ⟨kvs, h1.elim (fun h1 => .inl (fz_some h1).2) fun ⟨o, h1⟩ => .inr ⟨o, (fz_some h1).2⟩, zip_fst l, by rw [zip_snd l]; exact h2⟩⟩
  | @dctT a kvs ds h1 h2 =>
    have l : (kvs.map fun p => PyData.tuple (p.1.map kD)).length = ds.length := by rw [← h2.length]; simp
    exact ⟨_, rfl, fun z => h1.elim (fun h1 => (fz_some h1).1 (hb _ z)) fun ⟨_, h1⟩ => (fz_some h1).1 (hb _ z), .inr ⟨_, rfl, kvs, h1.elim (fun h1 => .inl (fz_some h1).2) fun ⟨o, h1⟩ => .inr ⟨o, (fz_some h1).2⟩, zip_fst l, by rw [zip_snd l]; exact h2⟩⟩
theorem top_of_ow {a : Addr} {d : D} (hn : β ≠ some a) (h : OwAt K O H a d) : TopAt K β O H (.ref a) d := by
  cases d with
  | list ds => obtain ⟨xs, h1, h2⟩ := h; exact ⟨a, xs, rfl, hn, h1, h2⟩
  | dict kds => exact ⟨a, rfl, hn, h.1⟩
  | none => exact h.elim
  | bool _ => exact h.elim
  | int _ => exact h.elim
  | str _ => exact h.elim
  | tuple _ => exact h.elim
theorem TopAt.mono {O' : Addr → Prop} {v : V} {d : D} (h : TopAt K β O H v d) (e : Same (Fz O H) (Fz O' H')) (hb : SB β H H') : TopAt K β O' H' v d := by
  cases d with
  | list ds => obtain ⟨a, xs, h1, h0, h2, h3⟩ := h; exact ⟨a, xs, h1, h0, hb.go _ _ h0 rfl h2, h3.mono e⟩
  | dict kds => obtain ⟨a, h1, h0, h2⟩ := h; exact ⟨a, h1, h0, h2.mono e fun o t => hb.go a o h0 t⟩
  | none => exact Rp.mono e h
  | bool _ => exact Rp.mono e h
  | int _ => exact Rp.mono e h
  | str _ => exact Rp.mono e h
  | tuple _ => exact Rp.mono e h
/-- a fresh thing is frozen by forgetting -/
theorem rp_of_fresh {p : Addr} {d : D} (hO : ¬ O p) (h : OwAt K (orO O p) H' p d) : Rp K (Fz O H') (.ref p) d := by
  have e : Same (Fz (orO O p) H') (Fz O H') := fz_mono (fun a z => .inl z) fun a o _ _ q => q
  cases d with
  | list ds => obtain ⟨xs, h1, h2⟩ := h; exact .lst (fz_put hO h1 rfl) (h2.mono e)
  | dict kds =>
    rcases h.1 with ⟨kvs, h1, h2, h3⟩ | ⟨kds', rfl, kvs, h1, h2, h3⟩
    · have q := Rp.dct (K := K) (H := Fz O H') (a := p) (h1.elim (fun h1 => .inl (fz_put hO h1 rfl)) fun ⟨o, h1⟩ => .inr ⟨o, fz_put hO h1 rfl⟩) (h3.mono e)
      rw [← h2, zip_unzip] at q
      exact q
    · have q := Rp.dctT (K := K) (H := Fz O H') (a := p) (h1.elim (fun h1 => .inl (fz_put hO h1 rfl)) fun ⟨o, h1⟩ => .inr ⟨o, fz_put hO h1 rfl⟩) (h3.mono e)
      rw [← h2, zip_unzip] at q
      exact q
  | none => exact h.elim
  | bool _ => exact h.elim
  | int _ => exact h.elim
  | str _ => exact h.elim
  | tuple _ => exact h.elim
theorem Rel.notO (r : Rel K β Oo H0 O σ H env st) {p : Addr} (h : H p = none) : ¬ O p := fun z => r.dom' p z h
theorem Rel.bO' (r : Rel K β Oo H0 O σ H env st) : ∀ b, β = some b → O b := fun b h => r.sub b (r.bO b h)
theorem Rel.neB (r : Rel K β Oo H0 O σ H env st) {p : Addr} (h : H p = none) : β ≠ some p := fun z => r.notO h (r.bO' p z)
/-- a result as frozen data -/
theorem ResAt.rp (r : Rel K β Oo H0 O σ H env st) {v : V} {x : R} {d : D} (h : ResAt K β O H H' v x) (e : x.d? = some d) : Rp K (Fz O H') v d := by
  cases x with
  | fz d' => cases e; exact h
  | ow d' => cases e; obtain ⟨p, rfl, h1, h2, h3⟩ := h; exact rp_of_fresh (r.notO h1) h3
  | bag => cases e
  | scr _ => cases e
  | fnc _ _ _ _ => cases e
theorem ResAt.top (r : Rel K β Oo H0 O σ H env st) {v : V} {x : R} {d : D} (h : ResAt K β O H H' v x) (e : x.d? = some d) : TopAt K β O H' v d := top_of_rp r.bO' (h.rp r e)
end
/-! ### soundness -/
def SoundE (X : Cx) (e : Expr) (f : EF) : Prop := ∀ ⦃β : Option Addr⦄ ⦃Oo : Addr → Prop⦄ ⦃H0 : Hp⦄ ⦃O : Addr → Prop⦄ ⦃σ : L2.St⦄ ⦃H : Hp⦄ ⦃env : Env'⦄ ⦃st : BSt⦄ ⦃r : R⦄ ⦃st' : BSt⦄ ⦃Q : VK⦄,
  Rel X.K β Oo H0 O σ H env st → f env st = some (r, st') → (∀ v H', SB β H H' → BagAt β H' st' → ResAt X.K β O H H' v r → Q v H') → We X e σ H Q
def SoundV (X : Cx) (e : Expr) (f : VF) : Prop := ∀ ⦃β : Option Addr⦄ ⦃Oo : Addr → Prop⦄ ⦃H0 : Hp⦄ ⦃O : Addr → Prop⦄ ⦃σ : L2.St⦄ ⦃H : Hp⦄ ⦃env : Env'⦄ ⦃st : BSt⦄ ⦃d : D⦄ ⦃st' : BSt⦄ ⦃Q : VK⦄,
  Rel X.K β Oo H0 O σ H env st → f env st = some (d, st') → (∀ v H', SB β H H' → BagAt β H' st' → TopAt X.K β O H' v d → Q v H') → We X e σ H Q
def SoundT (X : Cx) (e : Expr) (f : TF) : Prop := ∀ ⦃β : Option Addr⦄ ⦃Oo : Addr → Prop⦄ ⦃H0 : Hp⦄ ⦃O : Addr → Prop⦄ ⦃σ : L2.St⦄ ⦃H : Hp⦄ ⦃env : Env'⦄ ⦃st : BSt⦄ ⦃b : Bool⦄ ⦃st' : BSt⦄ ⦃Q : Bool → Hp → Prop⦄,
  Rel X.K β Oo H0 O σ H env st → f env st = some (b, st') → (∀ H', SB β H H' → BagAt β H' st' → Q b H') → Wt X e σ H Q
/-- arguments: frozen, or the bag, or the script -/
def ArgAt (K : PySem.W.Frag) (β : Option Addr) (O : Addr → Prop) (H : Hp) (v : V) (r : R) : Prop := (∀ d, r ≠ .ow d) ∧ SlAt K β O H v r
def ArgsAt (K : PySem.W.Frag) (β : Option Addr) (O : Addr → Prop) (H : Hp) : List V → List R → Prop := Paired (ArgAt K β O H)
/-- no def made in a def among them -/
def NoF (rs : List R) : Prop := ∀ f F ws ds, R.fnc f F ws ds ∉ rs
def SoundA (X : Cx) (es : List Expr) (f : AF) : Prop := ∀ ⦃β : Option Addr⦄ ⦃Oo : Addr → Prop⦄ ⦃H0 : Hp⦄ ⦃O : Addr → Prop⦄ ⦃σ : L2.St⦄ ⦃H : Hp⦄ ⦃env : Env'⦄ ⦃st : BSt⦄ ⦃rs : List R⦄ ⦃st' : BSt⦄ ⦃Q : List V → Hp → Prop⦄,
  Rel X.K β Oo H0 O σ H env st → f env st = some (rs, st') → (∀ vs H', SB β H H' → BagAt β H' st' → ArgsAt X.K β O H' vs rs → NoF rs → Q vs H') → Wa X es σ H Q
def failE (_ : Env') (_ : BSt) : Option (R × BSt) := none
def R.down : R → R
  | .ow d => .fz d
  | r => r
section
variable {X : Cx}
theorem s_fail {e : Expr} : SoundE X e failE := fun _ _ _ _ _ _ _ _ _ _ _ _ h => by cases h
theorem argAt_of {K : PySem.W.Frag} {β : Option Addr} {Oo O : Addr → Prop} {H0 H H' : Hp} {σ : L2.St} {env : Env'} {st : BSt} (r : Rel K β Oo H0 O σ H env st) {v : V} {x : R} (h : ResAt K β O H H' v x) : ArgAt K β O H' v x.down := by
  cases x with
  | fz d => exact ⟨fun _ z => (by cases z), h⟩
  | ow d => exact ⟨fun _ z => (by cases z), h.rp r rfl⟩
  | bag => exact ⟨fun _ z => (by cases z), h⟩
  | scr ns => exact ⟨fun _ z => (by cases z), h⟩
  | fnc _ _ _ _ => exact h.elim
theorem noF_cons {K : PySem.W.Frag} {β : Option Addr} {O : Addr → Prop} {H H' : Hp} {v : V} {x : R} {rs : List R} (h : ResAt K β O H H' v x) (n : NoF rs) : NoF (x.down :: rs) := fun f F ws ds hm => by
  rcases List.mem_cons.mp hm with e | hm
  · cases x <;> first | exact h.elim | cases e
  · exact n _ _ _ _ hm
theorem ArgAt.mono {K : PySem.W.Frag} {β : Option Addr} {O O' : Addr → Prop} {H H' : Hp} {v : V} {x : R} (h : ArgAt K β O H v x) (e : Same (Fz O H) (Fz O' H')) (hb : SB β H H') : ArgAt K β O' H' v x := ⟨h.1, h.2.mono e hb fun a d q => absurd q (h.1 d)⟩
/-- the value of an expression, read -/
def valF (f : EF) (env : Env') (st : BSt) : Option (D × BSt) := (f env st).bind fun p => p.1.d?.map fun d => (d, p.2)
theorem s_val {e : Expr} {f : EF} (h : SoundE X e f) : SoundV X e (valF f) := by
  intro β Oo H0 O σ H env st d st' Q r hf q
  unfold valF at hf
  cases e1 : f env st with
  | none => rw [e1] at hf; cases hf
  | some p =>
    obtain ⟨x, st1⟩ := p
    rw [e1] at hf
    simp only [Option.bind_some] at hf
    cases e2 : x.d? with
    | none => rw [e2] at hf; cases hf
    | some d' =>
      rw [e2] at hf
      cases hf
      exact h r e1 fun v H' a b c => q v H' a b (c.top r e2)
end
end Iv

set_option maxHeartbeats 4000000
namespace Iv
open PySem PySem.Spec PyProof.Rows L2
section
variable {X : Cx}
/-! ### x in t, x not in t, t a tuple of data -/
theorem room_in_shaped' {d : PyData} {A : Around} (n : Nat) (sd : SeqAt.shaped d = true) (hu : A.units + 65 < cLine) : A.units + 1 + min n d.depth < cLine := by
  have h : d.depth ≤ 64 := by
    unfold SeqAt.shaped at sd
    rw [Bool.and_eq_true] at sd
    exact of_decide_eq_true sd.2
  have := Nat.min_le_right n d.depth
  omega
theorem op_inT (hu : X.A.units + 65 < cLine) : OpR X (compareOp .In) (fun x y H Q => ∃ d ds, Dp X.K H x d ∧ Dp X.K H y (.tuple ds) ∧ SeqAt.shaped d = true ∧ SeqAt.shaped (.tuple ds) = true ∧ Q (.bl (ds.any fun z => PyData.eqv z d)) H) := by
  intro pins s σ H x y v u Q I rx ry h
  obtain ⟨d, ds, hd, he, sd, se, q⟩ := h
  obtain ⟨as, r1⟩ := Dp.reads I d x v hd rx
  obtain ⟨bs, r2⟩ := Dp.reads I (.tuple ds) y u he ry
  exact SeqAt.in_tuple_reads r2 r1 (SeqAt.canLay_of_shaped se) (SeqAt.canLay_of_shaped sd) (room_in_shaped' _ sd hu) ⟨.bl _, H, I, rfl, q⟩
theorem op_notInT (hu : X.A.units + 65 < cLine) : OpR X (compareOp .NotIn) (fun x y H Q => ∃ d ds, Dp X.K H x d ∧ Dp X.K H y (.tuple ds) ∧ SeqAt.shaped d = true ∧ SeqAt.shaped (.tuple ds) = true ∧ Q (.bl (!ds.any fun z => PyData.eqv z d)) H) := by
  intro pins s σ H x y v u Q I rx ry h
  obtain ⟨d, ds, hd, he, sd, se, q⟩ := h
  obtain ⟨as, r1⟩ := Dp.reads I d x v hd rx
  obtain ⟨bs, r2⟩ := Dp.reads I (.tuple ds) y u he ry
  exact SeqAt.notIn_tuple_reads r2 r1 (SeqAt.canLay_of_shaped se) (SeqAt.canLay_of_shaped sd) (room_in_shaped' _ sd hu) ⟨.bl _, H, I, rfl, q⟩
/-! ### xs += ys, both lists -/
theorem seq_list_iadd : seqSlot? (.type "list") (dunderI "add") = pure (some (.builtin "list.__iadd__")) := PySem.seqSlot_of F.slot_list_iadd.lookup (by decide +kernel)
theorem noFill_list_iadd : fillsInplaceSlot (.type "list") "add" (Operator.Add == .Add) = pure false := by
  unfold fillsInplaceSlot
  show (typeLookup (.type "list") (dunderI "add") >>= fun fi => pure (fi.isSome && !isSeqSlot fi)) = pure false
  have e : isSeqSlot (some (.builtin "list.__iadd__")) = true := by decide +kernel
  rw [F.slot_list_iadd.lookup, pure_bind, e]; rfl
theorem iadd_lists {prog : Program} {w : World} {A : Around} {E : Value → Shared → Prop} {s : Shared} {a b : Value} {Q : Value → Shared → Prop} (ha : s.TypeIs a "list") (hb : s.TypeIs b "list")
    (hc : wpAny (model prog w) A (call (.builtin "list.__iadd__") [a, b]) Q E s) : wpAny (model prog w) A (inplaceOp .Add a b) Q E s := by
  unfold inplaceOp
  refine wpAny_holding ?_
  refine wpAny_bind (wpAny_typeOf ha (wpAny_bind (wpAny_of_eq noFill_list_iadd ?_)))
  show wpAny _ A (if false = true then _ else _) Q E s
  rw [if_neg Bool.false_ne_true]
  refine wpAny_bind (wpAny_binaryOp1_none (nm := "add") ha hb noFill_list_add ?_)
  refine wpAny_bind (wpAny_of_eq seq_list_iadd ?_)
  exact wpAny_bind (wpAny_rule hc)
def ipL : TIp := fun x y H Q => ∃ l b xs zs, x = .ref l ∧ y = .ref b ∧ H l = some (.lst xs) ∧ H b = some (.lst zs) ∧ xs.length + zs.length ≤ sizeLine ∧ Q (.ref l) (upd H l (.lst (xs ++ zs)))
theorem ip_addL : PIp X .Add ipL := by
  intro pins s σ H x y v u Q I rx ry h
  obtain ⟨l, b, xs, zs, rfl, rfl, hH, hB, hz, q⟩ := h
  cases rx
  cases ry
  obtain ⟨z, its, n, r, hl, e⟩ := I.lstM hH
  obtain ⟨z2, its2, n2, r2, hl2, e2⟩ := I.lstM hB
  have hsz : its.toArray.size + its2.toArray.size ≤ sizeLine := by rw [List.size_toArray, List.size_toArray]; omega
  have hlong : ¬ (!its.toArray.isEmpty && Builtin.List.listTooLong (its.toArray.size + its2.toArray.size)) = true := by
    rw [notLongL hsz, Bool.and_false]
    exact Bool.false_ne_true
  refine iadd_lists ⟨_, e, rfl⟩ ⟨_, e2, rfl⟩ (call_meets F.slot_list_iadd ⟨_, e, rfl⟩ F.entry_list_iadd (F.args_list_iadd_2 _ _)
    (AutoSeq1.list___iadd___list_list_0 l its.toArray n b its2.toArray n2 hlong (by rw [List.size_toArray]; omega) (by omega)) ⟨e, e2, ?_⟩)
  refine ⟨.ref l, _, I.lset (its' := its ++ its2) hH e (by simp) (r.append r2) ?_, rfl, q⟩
  rw [List.length_append]
  omega
/-! ### sorted(xs), xs a list of data that can be told apart -/
abbrev srtD (ds : List D) : List D := ds.mergeSort (PySem.W.dataLe false id)
theorem vals_each {xs : List V} {us : List Value} {ds : List D} (r : Vals xs us) (h : xs.length = ds.length) : PySem.W.EachIs (fun u (p : V × D) => RelV p.1 u ∧ p ∈ xs.zip ds) us (xs.zip ds) := by
  have gen : ∀ {xs : List V} {us : List Value} {ds : List D} (L : List (V × D)), Vals xs us → xs.length = ds.length → (∀ p ∈ xs.zip ds, p ∈ L) → PySem.W.EachIs (fun u (p : V × D) => RelV p.1 u ∧ p ∈ L) us (xs.zip ds) := by
    intro xs us ds L r
    induction r generalizing ds with
    | nil => intro _ _; exact .nil
    | @cons x u xs us h1 h2 ih =>
      intro hl hm
      cases ds with
      | nil => cases hl
      | cons d ds => exact .cons ⟨h1, hm _ List.mem_cons_self⟩ (ih (by simpa using hl) fun p hp => hm p (List.mem_cons_of_mem _ hp))
  exact gen _ r h fun p hp => hp
theorem each_vals {L : List (V × D)} : ∀ {us : List Value} {ps : List (V × D)}, PySem.W.EachIs (fun u (p : V × D) => RelV p.1 u ∧ p ∈ L) us ps → Vals (ps.map (·.1)) us ∧ ∀ p ∈ ps, p ∈ L
  | _, _, .nil => ⟨.nil, fun p hp => by cases hp⟩
  | _, _, .cons h t => by
    obtain ⟨a, b⟩ := each_vals t
    exact ⟨.cons h.1 a, fun p hp => (List.mem_cons.mp hp).elim (fun e => by rw [e]; exact h.2) (b p)⟩
theorem each_reads {hp : Heap} : ∀ {us : List Value} {ds : List D} {as : List Addr} {xs : List V}, ReadsAll hp us ds as → xs.length = ds.length → PySem.W.EachIs (fun u (p : V × D) => ∃ as, Reads hp u p.2 as) us (xs.zip ds)
  | _, [], _, [], r, _ => by cases r; exact .nil
  | _, d :: ds, _, x :: xs, r, h => by
    cases r with
    | cons h1 h2 => exact .cons ⟨_, h1⟩ (each_reads h2 (by simpa using h))
  | _, [], _, x :: xs, r, h => by cases h
  | _, d :: ds, _, [], r, h => by cases h
theorem srt_zip {xs : List V} {ds : List D} (h : xs.length = ds.length) : ((xs.zip ds).mergeSort (PySem.W.dataLe false (·.2))).map (·.2) = srtD ds := by
  have e := List.map_mergeSort (r := PySem.W.dataLe false fun p : V × D => p.2) (s := PySem.W.dataLe false id) (f := fun p : V × D => p.2) (l := xs.zip ds) (fun a _ b _ => rfl)
  have : (xs.zip ds).map (fun p : V × D => p.2) = ds := List.map_snd_zip (by omega)
  rw [this] at e
  exact e
/-- what the sorted list holds: the same values, by the order of what they read as -/
def Srt (xs : List V) (ds : List D) (ys : List V) : Prop := ∃ ps : List (V × D), ys = ps.map (·.1) ∧ ps.map (·.2) = srtD ds ∧ ∀ p ∈ ps, p ∈ xs.zip ds
def rSortD (K : PySem.W.Frag) : List V → Hp → VK → Prop := fun vs H Q => ∃ (a : Addr) (xs : List V) (ds : List D), vs = [V.ref a] ∧ SqL K H a xs ∧ DpAll K H xs ds ∧ PySem.W.AllAlike ds ∧ PySem.W.Sortable ds ∧ (∀ d ∈ ds, d.depth ≤ 60) ∧
  ∀ (ys : List V) (p : Addr), Srt xs ds ys → H p = none → Q (.ref p) (upd H p (.lst ys))
theorem dpall_len {K : PySem.W.Frag} {H : Hp} : ∀ {vs : List V} {ds : List D}, DpAll K H vs ds → vs.length = ds.length
  | _, _, .nil => rfl
  | _, _, .cons _ b => by simp [dpall_len b]
theorem cr_sortD (hu : X.A.units + 65 < cLine) : CallR X (.builtin "sorted") (rSortD X.K) := by
  intro pins s σ H vs us Q I r h
  obtain ⟨a, xs, ds, rfl, hs, hd, hal, hk, hdep, q⟩ := h
  obtain ⟨its, rv, hl, hz⟩ := I.list hs
  obtain ⟨u, rfl, ru⟩ := vals1 r
  obtain rfl : u = Value.ref a := ru
  have len : xs.length = ds.length := dpall_len hd
  obtain ⟨as, rd⟩ := Dp.readsAll I ds xs its hd rv
  have sn : (xs.zip ds).map (fun p : V × D => p.2) = ds := List.map_snd_zip (by omega)
  refine PySem.W.sorted_data (enc := fun p : V × D => p.2) (bs := xs.zip ds) (R := fun u p => RelV p.1 u ∧ p ∈ xs.zip ds) hl.isList (vals_each rv len) (each_reads rd len) (by rw [sn]; exact hal) (by rw [sn]; exact hk) (by rw [List.length_zip]; omega) (fun b hb => ?_) fun out hol ho => ?_
  · have := hdep b.2 (by rw [← sn]; exact List.mem_map_of_mem hb)
    omega
  · obtain ⟨v1, v2⟩ := each_vals ho
    obtain ⟨n, hn⟩ := sortedAll_at s.heap its out.toArray
    have hd0 : s.heap.objs.size ≤ s.heap.objs.size + 1 := Nat.le_succ _
    refine ⟨.ref (s.heap.objs.size + 1), upd H (s.heap.objs.size + 1) (.lst _), I.laid (t' := s.toks) (fun b o e => sortedAll_old e) hd0 ⟨?_, out, n, v1, hn⟩, rfl, q _ _ ⟨_, rfl, srt_zip len, v2⟩ (I.hok.fresh hd0)⟩
    have := v1.length
    rw [this, hol, List.length_zip]; omega
/-! ### a dict whose keys are tuples: d[t], sorted(d) -/
theorem key_ofT {pins : List (Addr × Obj)} {σ : L2.St} {H : Hp} {s : Shared} {ks : List Key} {a : Addr} (I : Inv X pins σ H s) (e : SqT X.K H a (ks.map kV)) : (tupleKind (mixKind X.prog X.w)).is s.heap ks a := by
  obtain ⟨its, r, ⟨o, h1, h2, n, h3⟩, _⟩ := I.tuple e
  exact ⟨o, its.toArray, n, h1, h2, h3, by simpa using items_are r⟩
def tDGetT (K : PySem.W.Frag) (td ty : TE) : TE := fun σ H Q => td σ H fun x H1 => ty σ H1 fun y H2 => ∃ a kvs k b v, x = .ref a ∧ y = .ref b ∧ L2.Rd H2 a (.dT kvs) ∧ SqT K H2 b (k.map kV) ∧ valV kvs k = some v ∧ Q v H2
theorem pe_dgetT {o i : Expr} {pos : Pos} {td ty : TE} (hu : X.A.units + 1 < cLine) (ho : PE X o td) (hi : PE X i ty) (hs : NoSl i) : PE X (.Subscript o i pos) (tDGetT X.K td ty) := by
  refine ⟨fun pins s σ H Q I h => ?_⟩
  refine subD_of PySem.F.slot_dict_getitem.lookup hs (thn (ho.run pins s σ H _ I h) fun u s1 ⟨x, H1, I1, rx, q1⟩ => thn (hi.run pins s1 σ H1 _ I1 q1) fun iv s2 ⟨y, H2, I2, ry, a, kvs, k, b, v, ex, ey, ha, hb, l, q2⟩ => ?_)
  subst ex ey
  obtain rfl : u = Value.ref a := rx
  cases (show iv = Value.ref b from ry)
  obtain ⟨z, hd, xs, rel, dd⟩ := dt_rd I2.hok ha
  obtain ⟨w', hw, rw'⟩ := RelO.some_of (v := v) (o := (atKey xs k).map (·.2)) (by rw [← l]; exact rel.val k)
  obtain ⟨p, hp, hp2⟩ := Option.map_eq_some_iff.mp hw
  refine ⟨dd.typeIs, wpAny_getItem_heap (tupleKind_room_in1 hu) (key_ofT I2 hb) dd hp ?_⟩
  rw [hp2]
  exact ⟨v, H2, I2.tok _, rw', q2⟩
theorem kdl_raw {prog : Program} {w : World} {d : Addr} {es : Array DictEntry} {ep : Nat} (lo : (d == sysModules) = false) : PySem.W.KdlSrc prog w "dict" d d es.size (fun i v => ∃ e, es[i]? = some e ∧ v = e.key) (fun h => h.DictRaw d es ep) where
  type := fun _ hm => hm.typeIs
  there := fun _ hm => let ⟨_, ho, _⟩ := hm; ⟨Heap.lt_size ho, Heap.lt_size ho⟩
  keep := fun _ _ hm hk => hm.at fun o e => hk d (.inl rfl) o e
  notList := by decide
  notTuple := by decide
  hint := fun _ _ _ _ hm hq => PySem.W.kdl_hint_dict hm.typeIs hq
  iter := fun _ _ hh hm => ⟨_, _, (fun _ _ hq => wpAny_pyIter_dict_raw lo hm hq), (Walks.rawKeys hh _ d (let ⟨_, ho, _⟩ := hm; Nat.ne_of_lt (Heap.lt_size ho)) es ep).mono_item (fun i v hi h => ⟨es[i], Array.getElem?_eq_getElem hi, h.2⟩), ⟨⟨_, Heap.get?_push_size _ rfl, rfl, rfl⟩, hm.at fun o e => Heap.get?_push_of_some _ e⟩⟩
end
end Iv

set_option maxHeartbeats 4000000
namespace Iv
open PySem PySem.Spec PyProof.Rows L2
section
variable {X : Cx}
/-! ### sorted(d), d a dict whose keys are tuples of ints and texts -/
def tkD (ks : List Key) : D := .tuple (ks.map kD)
theorem flat_reads {h : Heap} : ∀ {ks : List Key} {its : List Value}, Vals (ks.map kV) its → ReadsAll h its (ks.map kD) []
  | [], _, r => by cases r; exact .nil
  | k :: ks, _, r => by
    cases r with
    | @cons _ u _ us r1 r2 =>
      have ih := flat_reads (h := h) r2
      cases k with
      | inl i => obtain ⟨t, rfl⟩ := r1; exact ReadsAll.cons (as := []) (.int i t) ih
      | inr x => obtain ⟨t, rfl⟩ := r1; exact ReadsAll.cons (as := []) (.str x t) ih
theorem tk_depth (ks : List Key) : (tkD ks).depth ≤ 1 := by
  have h : ∀ ks : List Key, PyData.depthAll (ks.map kD) = 0 := fun ks => by
    induction ks with
    | nil => rfl
    | cons k ks ih => cases k <;> (show max 0 (PyData.depthAll (ks.map kD)) = 0; rw [ih]; rfl)
  show PyData.depthAll (ks.map kD) + 1 ≤ 1
  rw [h]; exact Nat.le_refl _
theorem pget' {α β : Type} {P : α → β → Prop} : ∀ {l : List α} {m : List β} {j : Nat} {y : β}, Paired P l m → m[j]? = some y → ∃ x, l[j]? = some x ∧ P x y
  | _, _, j, _, .nil, h => by simp at h
  | _, _, 0, _, .cons a b, h => by simp at h; subst h; exact ⟨_, rfl, a⟩
  | _, _, j + 1, _, .cons a b, h => by
    obtain ⟨x, h1, h2⟩ := pget' (j := j) b (by simpa using h)
    exact ⟨x, by simpa using h1, h2⟩
theorem each_of2 {R : Value → V × D → Prop} : ∀ {us : List Value} {cs : List Addr} {ds : List D}, us.length = cs.length → cs.length = ds.length → (∀ (j : Nat) u c d, us[j]? = some u → cs[j]? = some c → ds[j]? = some d → R u (.ref c, d)) → PySem.W.EachIs R us ((cs.map V.ref).zip ds)
  | [], [], [], _, _, _ => .nil
  | u :: us, c :: cs, d :: ds, h1, h2, h => .cons (h 0 u c d rfl rfl rfl) (each_of2 (by simpa using h1) (by simpa using h2) fun j u' c' d' e1 e2 e3 => h (j + 1) u' c' d' (by simpa using e1) (by simpa using e2) (by simpa using e3))
  | [], c :: cs, _, h, _, _ => by cases h
  | u :: us, [], _, h, _, _ => by cases h
  | [], [], d :: ds, _, h, _ => by cases h
  | u :: us, c :: cs, [], _, h, _ => by cases h
def rSortDT : List V → Hp → VK → Prop := fun vs H Q => ∃ (a : Addr) (kvs : List (List Key × V)), vs = [V.ref a] ∧ L2.Rd H a (.dT kvs) ∧ PySem.W.AllAlike (kvs.map fun p => tkD p.1) ∧ PySem.W.Sortable (kvs.map fun p => tkD p.1) ∧
  ∀ (cs : List Addr) (ys : List V) (p : Addr), cs.length = kvs.length → (∀ (j : Nat) c q, cs[j]? = some c → kvs[j]? = some q → H c = some (.tup (q.1.map kV))) → Srt (cs.map V.ref) (kvs.map fun p => tkD p.1) ys → H p = none → Q (.ref p) (upd H p (.lst ys))
theorem cr_sortDT (hcalm : X.calm = true) (hu : X.A.units + 65 < cLine) : CallR X (.builtin "sorted") rSortDT := by
  intro pins s σ H vs us Q I r h
  obtain ⟨a, kvs, rfl, ha, hal, hk, q⟩ := h
  obtain ⟨u, rfl, ru⟩ := vals1 r
  obtain rfl : u = Value.ref a := ru
  obtain ⟨z, lo, xs', rel, dd⟩ := dt_rd I.hok ha
  obtain ⟨es, ep, raw, hsz, hes⟩ := dd.raw
  have hlx : kvs.length = xs'.length := Paired.length rel
  have h16 : es.size ≤ sizeLine := by omega
  refine Calls.call_function_entry PyProof.Rows.kind_sorted PyProof.Rows.plain_sorted PyProof.Rows.entry_sorted (PyProof.Rows.args_sorted1 _) ?_
  unfold Builtin.«sorted»
  refine wpAny_bind (m := checkCount "sorted" 1 1 _) (wpAny_pure ?_)
  refine wpAny_bind (PySem.W.kdu_collect (A := X.A.in1) (kdl_raw (es := es) (ep := ep) lo) (I.ok.hd hcalm) raw h16 fun h' tk acc hk' hacc => ?_)
  have hal' : acc.toList.length = xs'.length := by rw [Array.length_toList, hacc.1, hsz]
  have I1 : Inv X pins σ H { s with heap := h', toks := tk } := I.kept hk'
  -- the keys
  have key : ∀ (j : Nat) (v : Value) (c : Addr) (d : D), acc.toList[j]? = some v → (xs'.map fun x => x.2.1)[j]? = some c → (kvs.map fun p => tkD p.1)[j]? = some d → v = .ref c ∧ ∃ q, kvs[j]? = some q ∧ d = tkD q.1 ∧ H c = some (.tup (q.1.map kV)) := by
    intro j v c d e1 e2 e3
    obtain ⟨en, g1, g2⟩ := hacc.2 j v (by rw [← Array.getElem?_toList]; exact e1)
    obtain ⟨hj, g1'⟩ := Array.getElem?_eq_some_iff.mp g1
    obtain ⟨y, g3, g4, _, _⟩ := hes j hj
    rw [List.getElem?_map, g3] at e2
    cases e2
    obtain ⟨q0, g5, g6, g7, _⟩ := pget' rel g3
    rw [List.getElem?_map, g5] at e3
    cases e3
    exact ⟨by rw [g2, ← g1', g4], q0, g5, rfl, g7⟩
  have lc : (xs'.map fun x => x.2.1).length = (kvs.map fun p => tkD p.1).length := by rw [List.length_map, List.length_map]; omega
  refine wpAny_bind (wpAny_newList ?_ (by rw [hal', ← hsz]; exact h16))
  have hoL : (h'.push (seqObj "list" acc.toList.toArray 0)).get? h'.objs.size = some (seqObj "list" acc.toList.toArray 0) := Heap.get?_push_size _ rfl
  show wpAny _ _ _ _ _ { s with heap := h'.push (seqObj "list" acc.toList.toArray 0), toks := tk }
  have sn : (((xs'.map fun x => x.2.1).map V.ref).zip (kvs.map fun p => tkD p.1)).map (fun p : V × D => p.2) = kvs.map fun p => tkD p.1 := List.map_snd_zip (by rw [List.length_map (f := V.ref), lc]; omega)
  refine wpAny_bind (wpAny_holding (PySem.W.list_sort_data (s := { s with heap := h'.push (seqObj "list" acc.toList.toArray 0), toks := tk }) (enc := fun p : V × D => p.2) (bs := ((xs'.map fun x => x.2.1).map V.ref).zip (kvs.map fun p => tkD p.1))
    (R := fun u p => RelV p.1 u ∧ p ∈ ((xs'.map fun x => x.2.1).map V.ref).zip (kvs.map fun p => tkD p.1)) hoL (each_of2 (by rw [hal', List.length_map]) lc fun j u c d e1 e2 e3 => ?_) (each_of2 (by rw [hal', List.length_map]) lc fun j u c d e1 e2 e3 => ?_) (by rw [sn]; exact hal) (by rw [sn]; exact hk) ?_ (fun b hb => ?_) fun out hol ho => ?_))
  · obtain ⟨rfl, _⟩ := key j u c d e1 e2 e3
    refine ⟨rfl, List.mem_of_getElem? (i := j) (List.getElem?_zip_eq_some.mpr ⟨?_, e3⟩)⟩
    show ((xs'.map fun x => x.2.1).map V.ref)[j]? = some (V.ref c)
    rw [List.getElem?_map, e2]; rfl
  · obtain ⟨rfl, q0, _, rfl, hc⟩ := key j u c d e1 e2 e3
    obtain ⟨_, its, rv, o, g1, g2, n, g3⟩ := (show ObjOk X.prog X.w H h' c (.tup (q0.1.map kV)) from I1.hok c _ hc)
    exact ⟨[], .tuple (Heap.get?_push_of_some _ g1) g2 g3 (by simpa using flat_reads rv), by simp⟩
  · rw [List.length_zip, ← lc, List.length_map, List.length_map]; omega
  · have hb2 : b.2 ∈ kvs.map fun p => tkD p.1 := by rw [← sn]; exact List.mem_map_of_mem hb
    obtain ⟨q0, _, e⟩ := List.mem_map.mp hb2
    have := tk_depth q0.1
    rw [← e]
    show X.A.units + 1 + 1 + (tkD q0.1).depth < cLine
    omega
  · obtain ⟨v1, v2⟩ := each_vals ho
    obtain ⟨n, hn⟩ := PyProof.Rows.sortedHeap_at (vs := acc.toList) (out := out.toArray) hoL
    have len := v1.length
    refine wpAny_pure ⟨_, rfl, .ref h'.objs.size, upd H h'.objs.size (.lst _), I1.laid (t' := tk) (fun b u e => ?_) (Nat.le_refl _)
      (show ObjOk X.prog X.w _ _ _ (.lst _) from ⟨?_, out, n, v1, hn⟩), rfl, q _ _ _ ?_ ?_ ⟨_, rfl, srt_zip (by rw [List.length_map]; exact lc), v2⟩ (I1.hok.fresh (Nat.le_refl _))⟩
    · have hb : b < h'.objs.size := Heap.lt_size e
      rw [PyProof.Rows.sortedHeap_old (Nat.ne_of_lt hb) (by rw [size_push']; exact Nat.lt_succ_of_lt hb)]
      exact Heap.get?_push_of_some _ e
    · rw [len, hol, List.length_zip, ← lc, List.length_map, List.length_map]; omega
    · rw [List.length_map]; omega
    · intro j c q0 e1 e2
      have hj : j < acc.toList.length := by
        rw [hal', ← hlx]; exact (List.getElem?_eq_some_iff.mp e2).1
      obtain ⟨_, q1, g1, _, g2⟩ := key j _ c (tkD q0.1) (List.getElem?_eq_getElem hj) e1 (by rw [List.getElem?_map, e2]; rfl)
      rw [e2] at g1
      cases g1
      exact g2
/-! ### sorted(t), t a tuple of such tuples -/
def rSortTT (K : PySem.W.Frag) : List V → Hp → VK → Prop := fun vs H Q => ∃ (a : Addr) (cs : List Addr) (kss : List (List Key)), vs = [V.ref a] ∧ SqT K H a (cs.map V.ref) ∧ cs.length = kss.length ∧ (∀ (j : Nat) c ks, cs[j]? = some c → kss[j]? = some ks → SqT K H c (ks.map kV)) ∧ PySem.W.AllAlike (kss.map tkD) ∧ PySem.W.Sortable (kss.map tkD) ∧
  ∀ (ys : List V) (p : Addr), Srt (cs.map V.ref) (kss.map tkD) ys → H p = none → Q (.ref p) (upd H p (.lst ys))
theorem vals_refs : ∀ {cs : List Addr} {us : List Value}, Vals (cs.map V.ref) us → us = cs.map Value.ref
  | [], _, r => by cases r; rfl
  | c :: cs, _, r => by
    cases r with
    | cons r1 r2 => rw [vals_refs r2, show _ = Value.ref c from r1]; rfl
theorem cr_sortTT (hu : X.A.units + 65 < cLine) : CallR X (.builtin "sorted") (rSortTT X.K) := by
  intro pins s σ H vs us Q I r h
  obtain ⟨a, cs, kss, rfl, ha, lcs, hcs, hal, hk, q⟩ := h
  obtain ⟨u, rfl, ru⟩ := vals1 r
  obtain rfl : u = Value.ref a := ru
  obtain ⟨its, rv, ⟨o, h1, h2, n, h3⟩, hz⟩ := I.tuple ha
  have ei := vals_refs rv
  subst ei
  rw [List.length_map] at hz
  have h16 : (cs.map Value.ref).toArray.size ≤ sizeLine := by simpa using hz
  refine Calls.call_function_entry PyProof.Rows.kind_sorted PyProof.Rows.plain_sorted PyProof.Rows.entry_sorted (PyProof.Rows.args_sorted1 _) ?_
  unfold Builtin.«sorted»
  refine wpAny_bind (m := checkCount "sorted" 1 1 _) (wpAny_pure ?_)
  refine wpAny_bind (wpAny_collect_seq (A := X.A.in1) a (.inr rfl) h1 h2 h3 (fun h' hk' => ?_) h16)
  have I1 : Inv X pins σ H { s with heap := h', toks := s.toks } := I.kept hk'
  have lk : cs.length = (kss.map tkD).length := by rw [List.length_map]; exact lcs
  refine wpAny_bind (wpAny_newList ?_ (by simpa using hz))
  have hoL : (h'.push (seqObj "list" (cs.map Value.ref).toArray.toList.toArray 0)).get? h'.objs.size = some (seqObj "list" (cs.map Value.ref).toArray.toList.toArray 0) := Heap.get?_push_size _ rfl
  show wpAny _ _ _ _ _ { s with heap := h'.push (seqObj "list" (cs.map Value.ref).toArray.toList.toArray 0), toks := s.toks }
  have lu : (cs.map Value.ref).toArray.toList.length = cs.length := by simp
  have sn : ((cs.map V.ref).zip (kss.map tkD)).map (fun p : V × D => p.2) = kss.map tkD := List.map_snd_zip (by rw [List.length_map (f := V.ref), lk]; omega)
  have at_ : ∀ (j : Nat) (u : Value) (c : Addr), (cs.map Value.ref).toArray.toList[j]? = some u → cs[j]? = some c → u = .ref c := fun j u c e1 e2 => by
    have e1 : (cs.map Value.ref)[j]? = some u := by simpa using e1
    rw [List.getElem?_map, e2] at e1
    exact (Option.some.inj e1).symm
  refine wpAny_bind (wpAny_holding (PySem.W.list_sort_data (s := { s with heap := h'.push (seqObj "list" (cs.map Value.ref).toArray.toList.toArray 0), toks := s.toks }) (enc := fun p : V × D => p.2) (bs := (cs.map V.ref).zip (kss.map tkD))
    (R := fun u p => RelV p.1 u ∧ p ∈ (cs.map V.ref).zip (kss.map tkD)) hoL (each_of2 lu lk fun j u c d e1 e2 e3 => ?_) (each_of2 lu lk fun j u c d e1 e2 e3 => ?_) (by rw [sn]; exact hal) (by rw [sn]; exact hk) ?_ (fun b hb => ?_) fun out hol ho => ?_))
  · have eu := at_ j u c e1 e2
    subst eu
    refine ⟨rfl, List.mem_of_getElem? (i := j) (List.getElem?_zip_eq_some.mpr ⟨?_, e3⟩)⟩
    show (cs.map V.ref)[j]? = some (V.ref c)
    rw [List.getElem?_map, e2]; rfl
  · have eu := at_ j u c e1 e2
    subst eu
    rw [List.getElem?_map] at e3
    obtain ⟨ks, e4, rfl⟩ := Option.map_eq_some_iff.mp e3
    obtain ⟨its, rv', ⟨o', g1, g2, n', g3⟩, _⟩ := I1.tuple (hcs j c ks e2 e4)
    exact ⟨[], .tuple (Heap.get?_push_of_some _ g1) g2 g3 (by simpa using flat_reads rv'), by simp⟩
  · rw [List.length_zip, ← lk, List.length_map]; omega
  · have hb2 : b.2 ∈ kss.map tkD := by rw [← sn]; exact List.mem_map_of_mem hb
    obtain ⟨q0, _, e⟩ := List.mem_map.mp hb2
    have := tk_depth q0
    rw [← e]
    show X.A.units + 1 + 1 + (tkD q0).depth < cLine
    omega
  · obtain ⟨v1, v2⟩ := each_vals ho
    obtain ⟨n, hn⟩ := PyProof.Rows.sortedHeap_at (vs := (cs.map Value.ref).toArray.toList) (out := out.toArray) hoL
    have len := v1.length
    refine wpAny_pure ⟨_, rfl, .ref h'.objs.size, upd H h'.objs.size (.lst _), I1.laid (t' := s.toks) (fun b u e => ?_) (Nat.le_refl _)
      (show ObjOk X.prog X.w _ _ _ (.lst _) from ⟨?_, out, n, v1, hn⟩), rfl, q _ _ ⟨_, rfl, srt_zip (by rw [List.length_map]; exact lk), v2⟩ (I1.hok.fresh (Nat.le_refl _))⟩
    · have hb : b < h'.objs.size := Heap.lt_size e
      rw [PyProof.Rows.sortedHeap_old (Nat.ne_of_lt hb) (by rw [size_push']; exact Nat.lt_succ_of_lt hb)]
      exact Heap.get?_push_of_some _ e
    · rw [len, hol, List.length_zip, ← lk, List.length_map]; omega
end
end Iv

set_option maxHeartbeats 4000000
namespace Iv
open PySem PySem.Spec PyProof.Rows L2
variable [Ct] [Nm]
section
variable {X : Cx} {β : Option Addr} {O : Addr → Prop} {H H' : Hp}
theorem same_laid {H : Hp} {p : Addr} {o : HO} (h : H p = none) : Same H (upd H p o) := fun a u e => by rw [upd_ne (ne_of_none e h)]; exact e
theorem same_sb {H H' : Hp} (h : Same H H') : SB β H H' := ⟨fun a o _ _ e => h a o e, (fun a _ e => by
  cases q : H a with
  | none => rfl
  | some o => rw [h a o q] at e; cases e), fun t => t.ext h⟩
theorem same_bag {H H' : Hp} {st : BSt} (h : Same H H') (b : BagAt β H st) : BagAt β H' st := b.mono fun x o _ e => h x o e
theorem same_fz {H H' : Hp} (h : Same H H') : Same (Fz O H) (Fz O H') := fz_mono (fun _ z => z) fun a o _ _ e => h a o e
/-- frozen lists laid anew -/
theorem fresh_list {p : Addr} {xs : List V} {ds : List D} (hp : H p = none) (hO : ∀ a, O a → H a ≠ none) (hn : β ≠ some p) (h : RpAll X.K (Fz O H) xs ds) :
    ResAt X.K β O H (upd H p (.lst xs)) (.ref p) (.ow (.list ds)) := by
  refine ⟨p, rfl, hp, hn, xs, upd_same, h.mono (fun a o e => ?_)⟩
  obtain ⟨n, e, t⟩ := fz_some3 e
  have ap : a ≠ p := ne_of_none e hp
  exact fz_put (fun z => z.elim n ap) (by rw [upd_ne ap]; exact e) t
theorem fresh_tup {p : Addr} {xs : List V} {ds : List D} (hp : H p = none) (hO : ∀ a, O a → H a ≠ none) (h : RpAll X.K (Fz O H) xs ds) :
    ResAt X.K β O H (upd H p (.tup xs)) (.ref p) (.fz (.tuple ds)) := by
  have np : ¬ O p := fun z => hO p z hp
  exact .tup (SqT.of (fz_put np upd_same rfl)) (h.mono (same_fz (same_laid hp))) (.inl (fz_put np upd_same rfl))
theorem fz_tup {a : Addr} {xs : List V} (h : SqT X.K (Fz O H) a xs) : SqT X.K H a xs := sameT fz_same h
theorem rp_tup {v : V} {ds : List D} (h : Rp X.K (Fz O H) v (.tuple ds)) : ∃ a xs, v = .ref a ∧ SqT X.K (Fz O H) a xs ∧ RpAll X.K (Fz O H) xs ds := by
  cases h with
  | tup h1 h2 _ => exact ⟨_, _, rfl, h1, h2⟩
theorem rp_tup3 {v : V} {ds : List D} (h : Rp X.K (Fz O H) v (.tuple ds)) : ∃ a xs, v = .ref a ∧ SqT X.K (Fz O H) a xs ∧ RpAll X.K (Fz O H) xs ds ∧ (Fz O H a = some (.tup xs) ∨ ds ∈ Ct.cts) := by
  cases h with
  | tup h1 h2 h3 => exact ⟨_, _, rfl, h1, h2, h3⟩
end
/-! ### binary operators on data -/
def lenOk (n : Nat) : Bool := decide (n ≤ sizeLine)
def mulOk (i j : Int) : Bool := decide (i.natAbs.log2 + j.natAbs.log2 < 1000000)
def divOk (j : Int) : Bool := decide (0 < j) && decide (j.natAbs.log2 < 9000)
def divNeg (j : Int) : Bool := decide (j < 0) && decide (j.natAbs.log2 < 9000)
theorem op_fdivN {X : Cx} : OpR X (binaryOp .FloorDiv) (rI (fun _ j => j < 0 ∧ j.natAbs.log2 < 9000) fun i j => .int (i.fdiv j)) := opI fun i j _ _ _ _ _ hc q => by
  have h1 : j < 0 := hc.1
  exact floordiv_int (by omega) q (.inl (PyProof.noPylong_of_log2 hc.2))
def powOk (i j : Int) : Bool := decide (0 ≤ j) && decide (j ≤ 1000000) && decide (i.natAbs < 2 ^ 64)
def repOk (n : Nat) (k : Int) : Bool := decide (0 < n) && decide (2 ≤ k) && decide (k ≤ 1000) && decide (n ≤ 1000)
def binD : Operator → D → D → Option R
  | .Add, .int i, .int j => some (.fz (.int (i + j)))
  | .Add, .str x, .str y => if lenOk (x.length + y.length) then some (.fz (.str (x ++ y))) else none
  | .Add, .list xs, .list ys => if lenOk (xs.length + ys.length) then some (.ow (.list (xs ++ ys))) else none
  | .Add, .tuple xs, .tuple ys => if lenOk (xs.length + ys.length) then some (.fz (.tuple (xs ++ ys))) else none
  | .Sub, .int i, .int j => some (.fz (.int (i - j)))
  | .Mult, .int i, .int j => if mulOk i j then some (.fz (.int (i * j))) else none
  | .Mult, .tuple xs, .int k => if k == 1 then some (.fz (.tuple xs)) else if repOk xs.length k then some (.fz (.tuple (List.replicate k.toNat xs).flatten)) else none
  | .FloorDiv, .int i, .int j => if divOk j then some (.fz (.int (i / j))) else if divNeg j then some (.fz (.int (i.fdiv j))) else none
  | .Mod, .int i, .int j => if decide (0 < j) then some (.fz (.int (i % j))) else none
  | .Pow, .int i, .int j => if powOk i j then some (.fz (.int (i ^ j.toNat))) else none
  | .Add, .bool a, .int j => some (.fz (.int (b2i a + j)))
  | .Sub, .bool a, .int j => some (.fz (.int (b2i a - j)))
  | _, _, _ => none
theorem op_add_bi {X : Cx} : OpR X (binaryOp .Add) (fun x y H Q => ∃ k i, x = .bl k ∧ y = .int i ∧ Q (.int (b2i k + i)) H) := by
  intro pins s σ H x y v u Q I rx ry h
  obtain ⟨k, i, rfl, rfl, q⟩ := h
  obtain ⟨t, rfl⟩ := ry
  cases rx
  exact PySem.IntBool.add_bool_int ⟨.int (b2i k + i), H, I.tok _, ⟨_, rfl⟩, q⟩
theorem op_sub_bi {X : Cx} : OpR X (binaryOp .Sub) (fun x y H Q => ∃ k i, x = .bl k ∧ y = .int i ∧ Q (.int (b2i k - i)) H) := by
  intro pins s σ H x y v u Q I rx ry h
  obtain ⟨k, i, rfl, rfl, q⟩ := h
  obtain ⟨t, rfl⟩ := ry
  cases rx
  exact PySem.IntBool.sub_bool_int ⟨.int (b2i k - i), H, I.tok _, ⟨_, rfl⟩, q⟩
theorem ite_some {α : Type} {c : Bool} {a r : α} (h : (if c then some a else none) = some r) : c = true ∧ a = r := by
  cases c with
  | false => cases h
  | true => exact ⟨rfl, Option.some.inj h⟩
section
variable {X : Cx} {β : Option Addr} {O : Addr → Prop} {H : Hp} {x y : V} {Q : VK}
theorem binD_ok {op : Operator} {d e : D} {r : R} (hO : ∀ a, O a → H a ≠ none) (hb : ∀ b, β = some b → O b) (h : binD op d e = some r) (hx : TopAt X.K β O H x d) (hy : TopAt X.K β O H y e)
    (q : ∀ v H', Same H H' → ResAt X.K β O H H' v r → Q v H') : Wo X (binaryOp op) x y H Q := by
  have nb : ∀ p, H p = none → β ≠ some p := fun p hp z => hO p (hb p z) hp
  unfold binD at h
  split at h
  · cases h; cases hx; cases hy
    exact wo_of op_add ⟨_, _, rfl, rfl, q _ _ (Same.refl _) (.int _)⟩
  · obtain ⟨c, rfl⟩ := ite_some h; cases hx; cases hy
    exact wo_of op_add_str ⟨_, _, rfl, rfl, of_decide_eq_true c, q _ _ (Same.refl _) (.str _)⟩
  · obtain ⟨c, rfl⟩ := ite_some h
    obtain ⟨a, xs, rfl, _, h1, h2⟩ := hx
    obtain ⟨b, ys, rfl, _, h3, h4⟩ := hy
    refine wo_of op_cat ⟨_, _, _, _, rfl, rfl, h1, h3, ?_, fun p hp => q _ _ (same_laid hp) (fresh_list hp hO (nb p hp) (h2.append h4))⟩
    rw [h2.length, h4.length]; exact of_decide_eq_true c
  · obtain ⟨c, rfl⟩ := ite_some h
    obtain ⟨a, xs, rfl, h1, h2, t1⟩ := rp_tup3 hx
    obtain ⟨b, ys, rfl, h3, h4, t2⟩ := rp_tup3 hy
    refine wo_of op_catA ⟨_, _, _, _, rfl, rfl, fz_tup h1, fz_tup h3, ?_, fun e => ?_, fun _ e => ?_, fun _ _ p hp => q _ _ (same_laid hp) (fresh_tup hp hO (h2.append h4))⟩
    · rw [h2.length, h4.length]; exact of_decide_eq_true c
    · subst e; cases h2; exact q _ _ (Same.refl _) (.tup h3 h4 t2)
    · subst e; cases h4; exact q _ _ (Same.refl _) (by rw [List.append_nil]; exact .tup h1 h2 t1)
  · cases h; cases hx; cases hy
    exact wo_of op_sub ⟨_, _, rfl, rfl, q _ _ (Same.refl _) (.int _)⟩
  · obtain ⟨c, rfl⟩ := ite_some h; cases hx; cases hy
    exact wo_of op_mulW ⟨_, _, rfl, rfl, (of_decide_eq_true c : _ < _), q _ _ (Same.refl _) (.int _)⟩
  · cases hy
    obtain ⟨a, xs, rfl, h1, h2, t1⟩ := rp_tup3 hx
    split at h
    · rename_i c
      have c := eq_of_beq c
      subst c
      cases h
      exact wo_of op_repT1 ⟨_, _, rfl, rfl, fz_tup h1, q _ _ (Same.refl _) (.tup h1 h2 t1)⟩
    obtain ⟨c, rfl⟩ := ite_some h
    simp only [repOk, Bool.and_eq_true, decide_eq_true_eq] at c
    obtain ⟨⟨⟨c0, c1⟩, c2⟩, c3⟩ := c
    have l := h2.length
    exact wo_of op_repT ⟨_, _, _, rfl, rfl, fz_tup h1, by rintro rfl; simp at l; omega, c1, c2, by omega, fun p hp => q _ _ (same_laid hp) (fresh_tup hp hO (h2.rep _))⟩
  · split at h
    · rename_i c
      cases h; cases hx; cases hy
      simp only [divOk, Bool.and_eq_true, decide_eq_true_eq] at c
      exact wo_of op_fdivW ⟨_, _, rfl, rfl, c, q _ _ (Same.refl _) (.int _)⟩
    · obtain ⟨c, rfl⟩ := ite_some h; cases hx; cases hy
      simp only [divNeg, Bool.and_eq_true, decide_eq_true_eq] at c
      exact wo_of op_fdivN ⟨_, _, rfl, rfl, c, q _ _ (Same.refl _) (.int _)⟩
  · obtain ⟨c, rfl⟩ := ite_some h; cases hx; cases hy
    exact wo_of op_mod ⟨_, _, rfl, rfl, of_decide_eq_true c, q _ _ (Same.refl _) (.int _)⟩
  · obtain ⟨c, rfl⟩ := ite_some h; cases hx; cases hy
    simp only [powOk, Bool.and_eq_true, decide_eq_true_eq] at c
    exact wo_of op_pow ⟨_, _, rfl, rfl, ⟨c.1.1, c.1.2, c.2⟩, q _ _ (Same.refl _) (.int _)⟩
  · cases h; cases hx; cases hy
    exact wo_of op_add_bi ⟨_, _, rfl, rfl, q _ _ (Same.refl _) (.int _)⟩
  · cases h; cases hx; cases hy
    exact wo_of op_sub_bi ⟨_, _, rfl, rfl, q _ _ (Same.refl _) (.int _)⟩
  · cases h
end
/-! ### comparisons on data -/
def flatD : D → Bool
  | .none => true | .bool _ => true | .int _ => true | .str _ => true
  | _ => false
def noneD : D → Bool
  | .none => true
  | _ => false
def cmpD : CmpOp → D → D → Option Bool
  | .Eq, d, e => if SeqAt.shaped d && SeqAt.shaped e then some (PyData.eqv d e) else none
  | .NotEq, d, e => if SeqAt.shaped d && SeqAt.shaped e then some (!PyData.eqv d e) else none
  | .Lt, .int i, .int j => some (decide (i < j))
  | .LtE, .int i, .int j => some (decide (i ≤ j))
  | .Gt, .int i, .int j => some (decide (j < i))
  | .GtE, .int i, .int j => some (decide (j ≤ i))
  | .In, .str x, .str y => if decide (x.length = 1) then some (decide (x.cps.getD 0 0 ∈ y.cps.toList)) else none
  | .NotIn, .str x, .str y => if decide (x.length = 1) then some (!decide (x.cps.getD 0 0 ∈ y.cps.toList)) else none
  | .In, d, .list ys => if SeqAt.shaped d && SeqAt.shaped (.list ys) then some (ys.any fun z => PyData.eqv z d) else none
  | .NotIn, d, .list ys => if SeqAt.shaped d && SeqAt.shaped (.list ys) then some (!ys.any fun z => PyData.eqv z d) else none
  | .In, d, .tuple ys => if SeqAt.shaped d && SeqAt.shaped (.tuple ys) then some (ys.any fun z => PyData.eqv z d) else none
  | .NotIn, d, .tuple ys => if SeqAt.shaped d && SeqAt.shaped (.tuple ys) then some (!ys.any fun z => PyData.eqv z d) else none
  | .Is, d, .none => some (noneD d)
  | .IsNot, d, .none => some (!noneD d)
  | _, _, _ => none
theorem RpAll.dp {K : PySem.W.Frag} {H : Hp} : ∀ {vs : List V} {ds : List D}, RpAll K H vs ds → PyData.canLayAll0 ds = true → DpAll K H vs ds
  | _, _, .nil, _ => .nil
  | _, d :: ds, .cons a b, z => by
    have z' : d.canLay0 = true ∧ PyData.canLayAll0 ds = true := by simpa [PyData.canLayAll0] using z
    exact .cons (a.dp z'.1) (b.dp z'.2)
section
variable {X : Cx} {β : Option Addr} {O : Addr → Prop} {H : Hp} {x y : V} {Q : VK}
theorem TopAt.dp {d : D} (h : TopAt X.K β O H x d) (s : SeqAt.shaped d = true) : Dp X.K H x d := by
  have c := SeqAt.canLay_of_shaped s
  cases d with
  | list ds =>
    obtain ⟨a, xs, rfl, _, h1, h2⟩ := h
    exact .lst (SqL.of h1) ((h2.mono fz_same).dp (by simpa [PyData.canLay0] using c))
  | dict kds => simp [PyData.canLay0] at c
  | none => exact (Rp.mono fz_same h).dp c
  | bool _ => exact (Rp.mono fz_same h).dp c
  | int _ => exact (Rp.mono fz_same h).dp c
  | str _ => exact (Rp.mono fz_same h).dp c
  | tuple _ => exact (Rp.mono fz_same h).dp c
theorem TopAt.non {d : D} (h : TopAt X.K β O H x d) : decide (x = .non) = noneD d := by
  cases d with
  | list ds => obtain ⟨a, xs, rfl, _⟩ := h; simp [noneD]
  | dict kds => obtain ⟨a, rfl, _⟩ := h; simp [noneD]
  | none => cases h; simp [noneD]
  | bool _ => cases h; simp [noneD]
  | int _ => cases h; simp [noneD]
  | str _ => cases h; simp [noneD]
  | tuple _ => cases h; simp [noneD]
theorem one_sign {x : Str} (h : x.length = 1) : x = ⟨#[x.cps.getD 0 0]⟩ := by
  obtain ⟨⟨l⟩⟩ := x
  have h' : l.length = 1 := h
  match l, h' with
  | [c], _ => rfl
theorem cmpD_ok {op : CmpOp} {d e : D} {b : Bool} (hu : X.A.units + 65 < cLine) (h : cmpD op d e = some b) (hx : TopAt X.K β O H x d) (hy : TopAt X.K β O H y e)
    (q : Q (.bl b) H) : Wo X (compareOp op) x y H Q := by
  unfold cmpD at h
  split at h
  · obtain ⟨c, rfl⟩ := ite_some h
    rw [Bool.and_eq_true] at c
    exact wo_of (op_eqD (by omega)) ⟨_, _, hx.dp c.1, hy.dp c.2, c.1, c.2, q⟩
  · obtain ⟨c, rfl⟩ := ite_some h
    rw [Bool.and_eq_true] at c
    exact wo_of (op_neD (by omega)) ⟨_, _, hx.dp c.1, hy.dp c.2, c.1, c.2, q⟩
  · cases h; cases hx; cases hy; exact wo_of op_lt ⟨_, _, rfl, rfl, q⟩
  · cases h; cases hx; cases hy; exact wo_of op_le ⟨_, _, rfl, rfl, q⟩
  · cases h; cases hx; cases hy; exact wo_of op_gt ⟨_, _, rfl, rfl, q⟩
  · cases h; cases hx; cases hy; exact wo_of op_ge ⟨_, _, rfl, rfl, q⟩
  · obtain ⟨c, rfl⟩ := ite_some h; cases hx; cases hy
    exact wo_of op_in_sign ⟨_, _, by rw [← one_sign (of_decide_eq_true c)], rfl, q⟩
  · obtain ⟨c, rfl⟩ := ite_some h; cases hx; cases hy
    exact wo_of op_notIn_sign ⟨_, _, by rw [← one_sign (of_decide_eq_true c)], rfl, q⟩
  · obtain ⟨c, rfl⟩ := ite_some h
    rw [Bool.and_eq_true] at c
    exact wo_of (op_inD hu) ⟨_, _, hx.dp c.1, hy.dp c.2, c.1, c.2, q⟩
  · obtain ⟨c, rfl⟩ := ite_some h
    rw [Bool.and_eq_true] at c
    exact wo_of (op_notInD hu) ⟨_, _, hx.dp c.1, hy.dp c.2, c.1, c.2, q⟩
  · obtain ⟨c, rfl⟩ := ite_some h
    rw [Bool.and_eq_true] at c
    exact wo_of (op_inT hu) ⟨_, _, hx.dp c.1, hy.dp c.2, c.1, c.2, q⟩
  · obtain ⟨c, rfl⟩ := ite_some h
    rw [Bool.and_eq_true] at c
    exact wo_of (op_notInT hu) ⟨_, _, hx.dp c.1, hy.dp c.2, c.1, c.2, q⟩
  · cases h; cases hy
    exact wo_of op_isN ⟨rfl, by rw [hx.non]; exact q⟩
  · cases h; cases hy
    exact wo_of op_notN ⟨rfl, by rw [hx.non]; exact q⟩
  · cases h
end
end Iv

set_option maxHeartbeats 4000000
namespace Iv
open PySem PySem.Spec PyProof.Rows L2
/-! ### the text of a pair of ints, where no text is under way -/
theorem pair_text {i j : Int} (hi : i.natAbs.log2 < 1920) (hj : j.natAbs.log2 < 1920) : (tupleText [Str.ofString (toString i), Str.ofString (toString j)]).length ≤ 4000 := by
  have e := fmt_text [Str.ofString (toString i), Str.ofString (toString j)]
  have e1 := int_text_length_le (k := 1920) (by decide) hi
  have e2 := int_text_length_le (k := 1920) (by decide) hj
  rw [piled_cons, piled_cons, piled_nil, PySem.ofString_length, PySem.ofString_length] at e
  omega
theorem call_str_pair {X : Cx} (hg : X.A.guards = some []) (hu : X.A.units + 65 < cLine) : CallR X (.type "str") (fun xs H Q => ∃ a i j, xs = [.ref a] ∧ SqT X.K H a [.int i, .int j] ∧ i.natAbs.log2 < 1920 ∧ j.natAbs.log2 < 1920 ∧ Q (.str (tupleText [Str.ofString (toString i), Str.ofString (toString j)])) H) := by
  intro pins s σ H xs us Q I r h
  obtain ⟨a, i, j, rfl, ht, hi, hj, q⟩ := h
  obtain ⟨u, rfl, r1⟩ := vals1 r
  cases r1
  obtain ⟨its, rv, ⟨o, ho, hcl, n, hd⟩, _⟩ := I.tuple ht
  have tl := pair_text hi hj
  have tl : (tupleText [Str.ofString (toString i), Str.ofString (toString j)]).length ≤ sizeLine := by rw [sizeLine_eq]; omega
  have all : ∀ (prog : Program) (w : World), ReprAll prog w its [Str.ofString (toString i), Str.ofString (toString j)] := fun prog w => by
    cases rv with
    | cons r1 r2 =>
      cases r2 with
      | cons r2 r3 =>
        cases r3
        obtain ⟨t1, rfl⟩ := r1
        obtain ⟨t2, rfl⟩ := r2
        exact .cons (ReprIs.int t1 hi) (.cons (ReprIs.int t2 hj) .nil)
  refine callType_new F.called_str (by decide) (F.typeCall_str_1 _) (F.newCall_str_1 _) (fun obj => F.args_object_init_2 obj _) F.entry_str_new
    (meets_str_new (S := fun A' R s' => A'.guards = some [] ∧ A'.units + 30 < cLine ∧ s'.heap.get? a = some o ∧ ∀ u tk, R (.ok (.ret (.str (tupleText [Str.ofString (toString i), Str.ofString (toString j)]) u))) { s' with toks := tk })
      fun prog' w' A' R s' h => wpAny_strOf_slot (T := "tuple") rfl (by show A'.units + 1 + 1 < cLine; have := h.2.1; omega) ⟨o, h.2.2.1, hcl⟩ F.slot_tuple_str F.slot_tuple_repr
        (call_tuple_repr (g := []) ⟨o, h.2.2.1, hcl⟩ h.1 (fun _ z => nomatch z) h.2.2.1 hd (all prog' w') (fun u tk => ⟨_, _, rfl, h.2.2.2 u tk⟩) tl))
    ⟨hg, by show X.A.units + 1 + 30 < cLine; omega, ho, fun u tk => ⟨typeIs_str _ _ _, .str _, H, I.tok _, ⟨u, rfl⟩, q⟩⟩
end Iv

set_option maxHeartbeats 4000000
namespace Iv
open PySem PySem.Spec PyProof.Rows L2
variable [Ct] [Nm]
/-! ### the place in the text -/
inductive Gv where
  | fn | cst (d : D) | blt | fnG
structure Sx where
  N : List Str
  sc : Scope
  gl : Str → Option Gv
  blk : Bool := false
  args : List R := []
  made : List R := []
  cap : List Nat := []
  nest : Option Str := none
  hks : List Str := []
  tks : List Str := []
  rks : List Str := []
  cel : List Str := []
  gd : Bool := false
  kks : List Str := []
abbrev FT := Str → List R → BSt → Option (R × BSt)
def ixOf : List Str → Str → Option Nat
  | [], _ => none
  | y :: ys, x => if y = x then some 0 else (ixOf ys x).map (· + 1)
theorem ixOf_ok : ∀ {N : List Str} {x : Str} {i : Nat}, ixOf N x = some i → N[i]? = some x
  | y :: ys, x, i, h => by
    unfold ixOf at h
    by_cases e : y = x
    · rw [if_pos e] at h; cases h; simp [e]
    · rw [if_neg e] at h
      cases q : ixOf ys x with
      | none => rw [q] at h; cases h
      | some j => rw [q] at h; cases h; simpa using ixOf_ok q
def plainName (x : Str) : Bool := !(x == ("__debug__" : Str)) && !(x == ("__classdict__" : Str)) && !(x == ("__name__" : Str))
def visK : Option NameKind → Bool
  | some .local => true | some .cell => true | some .free => true
  | _ => false
def locK : Option NameKind → Bool
  | some .local => true | some .cell => true
  | _ => false
def isGl : Option NameKind → Bool
  | some .globalImplicit => true
  | _ => false
def slotOf (S : Sx) (x : Str) : Option Nat := if plainName x && visK (S.sc.names.lookup x) then ixOf S.N x else none
def isBlt (S : Sx) (x : Str) : Bool := plainName x && isGl (S.sc.names.lookup x) && (match S.gl x with | some .blt => true | _ => false)
def isFn (S : Sx) (x : Str) : Bool := plainName x && isGl (S.sc.names.lookup x) && (match S.gl x with | some .fn => true | some .fnG => S.gd | _ => false)
def cstOf (S : Sx) (x : Str) : Option D := if plainName x && isGl (S.sc.names.lookup x) then (match S.gl x with | some (.cst d) => some d | _ => none) else none
/-- the promise of a def -/
abbrev SpS := List Env → Shared → Sp
/-- the promise of a def, which may ask of the heap as it stands and of the callers -/
structure FnOkS (P : Program) (w : World) (K : PySem.W.Frag) (mg : Str → Option Value) (base : Heap) (k : Nat) (f : Addr) (fd : FuncData) (ps : List Str) (sp : SpS) (g : Bool := false) : Prop where
  len : ∀ outer s vs H Q E, sp outer s vs H Q E → vs.length = ps.length
  run : ∀ (A : Around) (outer : List Env) (s : Shared) (H : Hp) (args : Args) (us : List Value) (vs : List V) (Q : VK) (E : XK), Room k A → (g = true → A.guards = some []) → Env0 P w K mg base A outer s H → BindsTo s fd args (ps.zip us) → Vals vs us → sp outer s vs H Q E →
    codeAny (model P w) A (.call (.ref f) args) (CR CX0 outer P w H s Q E) s
/-- a def made in a def, handed on: its captured cells -/
def CloC (outer : List Env) (s : Shared) (H : Hp) (F : NdefX.NF) (ws : List V) : Prop := ∃ (nd : Nd) (cl : List (Str × Addr)) (c : Addr), Nm.nds F.qual = some nd ∧ F = NdefX.NF.of nd.st nd.name F.qual cl c ∧
  NdefX.CellsAt F.cl nd.fr (ws.map some) s.heap H ∧ ∀ y c, F.cl.lookup y = some c → c ∉ frs outer
abbrev Cv := Option (Addr × NdefX.NF × List V × List D)
def cvV : Cv → List V
  | none => []
  | some c => [.ref c.1]
def cvR : Cv → List R
  | none => []
  | some c => [.fnc c.1 c.2.1 c.2.2.1 c.2.2.2]
def CvOk (K : PySem.W.Frag) (β : Option Addr) (O : Addr → Prop) (H : Hp) (outer : List Env) (s : Shared) : Cv → Prop
  | none => True
  | some c => FnAt' K β O H c.1 c.2.1 c.2.2.1 c.2.2.2 ∧ CloC outer s H c.2.1 c.2.2.1
def spI (K : PySem.W.Frag) (n : Nat) (f : List R → BSt → Option (R × BSt)) : SpS := fun outer s vs H Q _ => vs.length = n ∧ ∃ (β : Option Addr) (Oo : Addr → Prop) (vs1 : List V) (rs : List R) (cv : Cv) (st : BSt) (r : R) (st' : BSt),
  vs = vs1 ++ cvV cv ∧ ArgsAt K β Oo H vs1 rs ∧ NoF rs ∧ CvOk K β Oo H outer s cv ∧ (∀ b, β = some b → Oo b) ∧ (∀ a, Oo a → ∃ o, H a = some o ∧ plainO o = true) ∧ BagAt β H st ∧ NdefX.TabsN Tb0 H ∧ f (rs ++ cvR cv) st = some (r, st') ∧
  ∀ v H', SB β H H' → BagAt β H' st' → ResAt K β Oo H H' v r → Q v H'
/-- the promise of a def made in a def: what it captured comes behind its arguments -/
def spN (K : PySem.W.Frag) (n : Nat) (f : List R → BSt → Option (R × BSt)) : List (Option V) → Sp := fun wo vs H Q _ => vs.length = n ∧ ∃ (β : Option Addr) (Oo : Addr → Prop) (rs : List R) (ws : List V) (ds : List D) (st : BSt) (r : R) (st' : BSt),
  wo = ws.map some ∧ ArgsAt K β Oo H vs rs ∧ RpAll K (Fz Oo H) ws ds ∧ (∀ b, β = some b → Oo b) ∧ (∀ a, Oo a → ∃ o, H a = some o ∧ plainO o = true) ∧ BagAt β H st ∧ NdefX.TabsN Tb0 H ∧ f (rs ++ ds.map .fz) st = some (r, st') ∧
  ∀ v H', SB β H H' → BagAt β H' st' → ResAt K β Oo H H' v r → Q v H'
/-- a def that was handed in: it may be called -/
def CloOk (X : Cx) (Fn : FT) (f : Addr) (F : NdefX.NF) (ws : List V) : Prop := ∃ (k : Nat) (nd : Nd), Room k X.A ∧ NdefX.NOk X.prog X.w X.K X.mg X.base CX0 k f F nd.ps nd.fr (spN X.K nd.ps.length (Fn F.qual)) ∧
  (∀ rs st r, Fn F.qual rs st = some r → rs.length = nd.ps.length + nd.fr.length) ∧ NdefX.CellsAt F.cl nd.fr (ws.map some) X.s_0.heap X.H_0 ∧ ∀ y c, F.cl.lookup y = some c → c ∉ X.fs ∧ c ∉ X.ex
def GvOk (X : Cx) (F : FT) (x : Str) : Gv → Prop
  | .blt => X.mg x = none
  | .cst d => ∃ v u, X.mg x = some u ∧ RelV v u ∧ ∀ H, Rp X.K H v d
  | .fn => ∃ k f fd ps, X.mg x = some (.ref f) ∧ PySem.W.keepIn X.K (.ref f) = true ∧ Binds X.K fd ps [] ∧ Room k X.A ∧ FnOkS X.prog X.w X.K X.mg X.base k f fd ps (spI X.K ps.length (F x)) ∧ ∀ rs st r, F x rs st = some r → rs.length = ps.length
  | .fnG => ∃ k f fd ps, X.mg x = some (.ref f) ∧ PySem.W.keepIn X.K (.ref f) = true ∧ Binds X.K fd ps [] ∧ Room k X.A ∧ FnOkS X.prog X.w X.K X.mg X.base k f fd ps (spI X.K ps.length (F x)) true ∧ ∀ rs st r, F x rs st = some r → rs.length = ps.length
/-- a def that was made here: it may be handed on -/
def Made (X : Cx) (js : List Nat) (F' : NdefX.NF) : Prop := ∃ (nd : Nd) (c : Addr), Nm.nds F'.qual = some nd ∧ F' = NdefX.NF.of nd.st nd.name F'.qual F'.cl c ∧
  (X.Ok → (∀ y c, F'.cl.lookup y = some c → c ∉ frs X.stack) ∧ NdefX.Caps X F'.cl nd.fr js)
structure CxS (F : FT) (S : Sx) (X : Cx) : Prop where
  N : X.N = S.N
  sc : X.env.scope = S.sc
  calm : X.calm = true
  nd : S.N.Nodup
  hu : X.A.units + 65 < cLine
  fn : S.blk = false → ∀ x, X.fn x = true
  cel : ∀ x ∈ S.cel, X.fn x = true
  gl : ∀ x g, S.gl x = some g → GvOk X F x g
  xe : X.xe = fun _ _ => False
  kind : X.env.scope.kind = .function
  clo : ∀ f F' ws ds, R.fnc f F' ws ds ∈ S.args → CloOk X F f F' ws
  mad : ∀ f F', R.fnc f F' [] [] ∈ S.made → Made X S.cap F'
  gd : S.gd = true → X.A.guards = some []
section
variable {F : FT} {S : Sx} {X : Cx}
theorem plain1 {x : Str} (h : plainName x = true) : (x == ("__debug__" : Str)) = false ∧ (x == ("__classdict__" : Str)) = false ∧ x ≠ "__name__" := by
  unfold plainName at h
  simp only [Bool.and_eq_true, Bool.not_eq_true'] at h
  refine ⟨h.1.1, h.1.2, fun e => ?_⟩
  rw [e] at h
  simp at h
theorem visK_ok {o : Option NameKind} (h : visK o = true) : o = some .local ∨ o = some .cell ∨ o = some .free := by
  unfold visK at h
  split at h <;> simp_all
theorem isGl_ok {o : Option NameKind} (h : isGl o = true) : o = some .globalImplicit := by
  unfold isGl at h
  split at h <;> simp_all
theorem slotOf_ok (C : CxS F S X) {x : Str} {i : Nat} (h : slotOf S x = some i) : X.N[i]? = some x ∧ Vis X.env.scope x ∧ (x == ("__debug__" : Str)) = false ∧ (x == ("__classdict__" : Str)) = false := by
  obtain ⟨c, h⟩ : _ ∧ ixOf S.N x = some i := by
    unfold slotOf at h
    cases c : plainName x && visK (S.sc.names.lookup x) with
    | false => rw [c] at h; cases h
    | true => rw [c] at h; exact ⟨c, h⟩
  rw [Bool.and_eq_true] at c
  have p := plain1 c.1
  refine ⟨by rw [C.N]; exact ixOf_ok h, ?_, p.1, p.2.1⟩
  unfold Vis
  rw [C.sc]
  exact visK_ok c.2
theorem isBlt_ok (C : CxS F S X) {x : Str} (h : isBlt S x = true) : Gl X x ∧ X.mg x = none ∧ x ≠ "__name__" ∧ (x == ("__debug__" : Str)) = false := by
  unfold isBlt at h
  simp only [Bool.and_eq_true] at h
  have p := plain1 h.1.1
  refine ⟨?_, ?_, p.2.2, p.1⟩
  · show X.env.scope.names.lookup x = _
    rw [C.sc]; exact isGl_ok h.1.2
  · have g := h.2
    split at g
    · rename_i e; exact C.gl x _ e
    · cases g
theorem isFn_ok (C : CxS F S X) {x : Str} (h : isFn S x = true) : Gl X x ∧ (∃ k f fd ps g, X.mg x = some (.ref f) ∧ PySem.W.keepIn X.K (.ref f) = true ∧ Binds X.K fd ps [] ∧ Room k X.A ∧ FnOkS X.prog X.w X.K X.mg X.base k f fd ps (spI X.K ps.length (F x)) g ∧ (g = true → X.A.guards = some []) ∧ ∀ rs st r, F x rs st = some r → rs.length = ps.length) ∧ (x == ("__debug__" : Str)) = false := by
  unfold isFn at h
  simp only [Bool.and_eq_true] at h
  have p := plain1 h.1.1
  refine ⟨?_, ?_, p.1⟩
  · show X.env.scope.names.lookup x = _
    rw [C.sc]; exact isGl_ok h.1.2
  · have g := h.2
    split at g
    · rename_i e
      obtain ⟨k, f, fd, ps, h1, h2, h3, h4, h5, h6⟩ := C.gl x _ e
      exact ⟨k, f, fd, ps, false, h1, h2, h3, h4, h5, (fun z => by cases z), h6⟩
    · rename_i e
      obtain ⟨k, f, fd, ps, h1, h2, h3, h4, h5, h6⟩ := C.gl x _ e
      exact ⟨k, f, fd, ps, true, h1, h2, h3, h4, h5, fun _ => C.gd g, h6⟩
    · cases g
/-! ### names and constants -/
def nameF (S : Sx) (x : Str) (env : Env') (st : BSt) : Option (R × BSt) := match slotOf S x with
  | some i => (match env[i]? with
    | some (some (.fz d)) => some (.fz d, st)
    | some (some .bag) => some (.bag, st)
    | some (some (.scr ns)) => some (.scr ns, st)
    | _ => none)
  | none => (cstOf S x).map fun d => (.fz d, st)
def nameV (S : Sx) (x : Str) (env : Env') (st : BSt) : Option (D × BSt) := match slotOf S x with
  | some i => (match env[i]? with
    | some (some (.fz d)) => some (d, st)
    | some (some (.ow d)) => some (d, st)
    | _ => none)
  | none => (cstOf S x).map fun d => (d, st)
theorem cst_ok (C : CxS F S X) {x : Str} {d : D} {pos : Pos} {σ : L2.St} {H : Hp} {Q : VK} (h : cstOf S x = some d) (q : ∀ v, (∀ H, Rp X.K H v d) → Q v H) : We X (.Name x pos) σ H Q := by
  unfold cstOf at h
  cases c : plainName x && isGl (S.sc.names.lookup x) with
  | false => rw [c] at h; cases h
  | true =>
    rw [c] at h
    rw [Bool.and_eq_true] at c
    have p := plain1 c.1
    simp only [if_true] at h
    split at h
    · rename_i d' e
      cases h
      obtain ⟨v, u, h1, h2, h3⟩ := C.gl x _ e
      refine (pe_glob (show Gl X x from ?_) h1 h2 p.1).we (q v h3)
      show X.env.scope.names.lookup x = _
      rw [C.sc]; exact isGl_ok c.2
    · cases h
theorem s_name (C : CxS F S X) {x : Str} {pos : Pos} : SoundE X (.Name x pos) (nameF S x) := by
  intro β Oo H0 O σ H env st r st' Q rel h q
  unfold nameF at h
  cases e : slotOf S x with
  | none =>
    rw [e] at h
    cases e2 : cstOf S x with
    | none => rw [e2] at h; cases h
    | some d => rw [e2] at h; cases h; exact cst_ok C e2 fun v hv => q v H SB.refl rel.bag (hv _)
  | some i =>
    rw [e] at h
    obtain ⟨h1, h2, h3, h4⟩ := slotOf_ok C e
    simp only at h
    split at h
    · rename_i d e2
      cases h
      obtain ⟨v, hv, hs⟩ := rel.sl i _ e2
      exact (pe_var h1 h2 h3 h4).we ⟨v, hv, q v H SB.refl rel.bag hs⟩
    · rename_i e2
      cases h
      obtain ⟨v, hv, hs⟩ := rel.sl i _ e2
      exact (pe_var h1 h2 h3 h4).we ⟨v, hv, q v H SB.refl rel.bag hs⟩
    · rename_i ns e2
      cases h
      obtain ⟨v, hv, hs⟩ := rel.sl i _ e2
      exact (pe_var h1 h2 h3 h4).we ⟨v, hv, q v H SB.refl rel.bag hs⟩
    · cases h
theorem s_nameV (C : CxS F S X) {x : Str} {pos : Pos} : SoundV X (.Name x pos) (nameV S x) := by
  intro β Oo H0 O σ H env st d st' Q rel h q
  unfold nameV at h
  cases e : slotOf S x with
  | none =>
    rw [e] at h
    cases e2 : cstOf S x with
    | none => rw [e2] at h; cases h
    | some d => rw [e2] at h; cases h; exact cst_ok C e2 fun v hv => q v H SB.refl rel.bag (top_of_rp rel.bO' (hv _))
  | some i =>
    rw [e] at h
    obtain ⟨h1, h2, h3, h4⟩ := slotOf_ok C e
    simp only at h
    split at h
    · rename_i d e2
      cases h
      obtain ⟨v, hv, hs⟩ := rel.sl i _ e2
      exact (pe_var h1 h2 h3 h4).we ⟨v, hv, q v H SB.refl rel.bag (top_of_rp rel.bO' hs)⟩
    · rename_i d e2
      cases h
      obtain ⟨v, hv, a, rfl, ha, hn, ho⟩ := rel.sl i _ e2
      exact (pe_var h1 h2 h3 h4).we ⟨_, hv, q _ H SB.refl rel.bag (top_of_ow hn ho)⟩
    · cases h
def constF : Const → EF
  | .int i => fun _ st => some (.fz (.int i), st)
  | .bool b => fun _ st => some (.fz (.bool b), st)
  | .str x => fun _ st => some (.fz (.str x), st)
  | .none => fun _ st => some (.fz .none, st)
  | _ => failE
theorem s_const {c : Const} {k : Nat} {pos : Pos} : SoundE X (.Constant c k pos) (constF c) := by
  intro β Oo H0 O σ H env st r st' Q rel h q
  unfold constF at h
  split at h
  · cases h; exact pe_int.we (q _ _ SB.refl rel.bag (.int _))
  · cases h; exact pe_bl.we (q _ _ SB.refl rel.bag (.bl _))
  · cases h; exact pe_str.we (q _ _ SB.refl rel.bag (.str _))
  · cases h; exact pe_non.we (q _ _ SB.refl rel.bag .non)
  · cases h
/-! ### operators -/
theorem bind2 {α γ δ ε : Type} {m : Option (α × δ)} {f : α → δ → Option (γ × ε)} {r : γ × ε} (h : (m.bind fun p => f p.1 p.2) = some r) : ∃ a s, m = some (a, s) ∧ f a s = some r := by
  cases m with
  | none => cases h
  | some p => exact ⟨p.1, p.2, rfl, h⟩
theorem bind1 {α γ : Type} {m : Option α} {f : α → Option γ} {r : γ} (h : m.bind f = some r) : ∃ a, m = some a ∧ f a = some r := by
  cases m with
  | none => cases h
  | some p => exact ⟨p, rfl, h⟩
theorem map1 {α γ : Type} {m : Option α} {f : α → γ} {r : γ} (h : m.map f = some r) : ∃ a, m = some a ∧ f a = r := by
  cases m with
  | none => cases h
  | some p => exact ⟨p, rfl, Option.some.inj h⟩
def binF (op : Operator) (f g : VF) (env : Env') (st : BSt) : Option (R × BSt) := (f env st).bind fun p => (g env p.2).bind fun q => (binD op p.1 q.1).map fun r => (r, q.2)
theorem s_bin {a b : Expr} {op : Operator} {pos : Pos} {f g : VF} (ha : SoundV X a f) (hb : SoundV X b g) : SoundE X (.BinOp a op b pos) (binF op f g) := by
  intro β Oo H0 O σ H env st r st' Q rel h q
  obtain ⟨⟨d, s1⟩, e1, h⟩ := bind1 h
  obtain ⟨⟨e, s2⟩, e2, h⟩ := bind1 h
  obtain ⟨r', e3, h⟩ := map1 h
  cases h
  refine (pe_op (wo_op X _) (we_pe X a) (we_pe X b)).we (ha rel e1 fun x H1 sb1 bg1 tx => ?_)
  have rel1 := rel.step sb1 bg1
  refine hb rel1 e2 fun y H2 sb2 bg2 ty => ?_
  have rel2 := rel1.step sb2 bg2
  refine binD_ok rel2.dom' rel2.bO' e3 (tx.mono (rel1.fzm sb2) sb2) ty fun v H3 sm rs => ?_
  refine q v H3 (sb1.trans (sb2.trans (same_sb sm))) (same_bag sm bg2) ?_
  cases r with
  | fz d => exact rs
  | ow d =>
    obtain ⟨p, h1, h2, h3, h4⟩ := rs
    refine ⟨p, h1, ?_, h3, h4⟩
    exact sb1.dm p h3 (sb2.dm p h3 h2)
  | bag => exact rs
  | scr _ => exact rs
  | fnc _ _ _ _ => exact rs
/-- a later heap's fresh thing is fresh for the earlier -/
theorem ResAt.back {K : PySem.W.Frag} {β : Option Addr} {O : Addr → Prop} {H H1 H2 : Hp} {v : V} {r : R} (sb : SB β H H1) (h : ResAt K β O H1 H2 v r) : ResAt K β O H H2 v r := by
  cases r with
  | fz d => exact h
  | ow d =>
    obtain ⟨p, h1, h2, h3, h4⟩ := h
    refine ⟨p, h1, ?_, h3, h4⟩
    exact sb.dm p h3 h2
  | bag => exact h
  | scr _ => exact h
  | fnc _ _ _ _ => exact h
def cmpF (op : CmpOp) (f g : VF) (env : Env') (st : BSt) : Option (Bool × BSt) := (f env st).bind fun p => (g env p.2).bind fun q => (cmpD op p.1 q.1).map fun r => (r, q.2)
def blF (f : TF) (env : Env') (st : BSt) : Option (R × BSt) := (f env st).map fun p => (.fz (.bool p.1), p.2)
def noSet : Expr → Bool
  | .Set .. => false
  | _ => true
theorem noSet_mark {e : Expr} (h : noSet e = true) (op : CmpOp) : behindInMarks op e = false := by
  cases e <;> first | rfl | cases h
theorem s_cmp {a b : Expr} {op : CmpOp} {pos : Pos} {f g : VF} (C : CxS F S X) (hn : noSet b = true) (ha : SoundV X a f) (hb : SoundV X b g) : SoundE X (.Compare a [op] [b] pos) (blF (cmpF op f g)) := by
  intro β Oo H0 O σ H env st r st' Q rel h q
  obtain ⟨⟨k, s3⟩, g0, h'⟩ := map1 h
  cases h'
  clear h
  obtain ⟨⟨d, s1⟩, e1, h⟩ := bind1 g0
  obtain ⟨⟨e, s2⟩, e2, h⟩ := bind1 h
  obtain ⟨r', e3, h⟩ := map1 h
  cases h
  refine (pe_cmpR (wo_op X _) (we_pe X a) (we_pe X b) (noSet_mark hn op)).we (ha rel e1 fun x H1 sb1 bg1 tx => ?_)
  have rel1 := rel.step sb1 bg1
  refine hb rel1 e2 fun y H2 sb2 bg2 ty => ?_
  exact cmpD_ok C.hu e3 (tx.mono (rel1.fzm sb2) sb2) ty (q _ _ (sb1.trans sb2) bg2 (.bl _))
theorem s_cmpT {a b : Expr} {op : CmpOp} {pos : Pos} {f g : VF} (C : CxS F S X) (hn : noSet b = true) (ha : SoundV X a f) (hb : SoundV X b g) : SoundT X (.Compare a [op] [b] pos) (cmpF op f g) := by
  intro β Oo H0 O σ H env st k st' Q rel h q
  obtain ⟨⟨d, s1⟩, e1, h⟩ := bind1 h
  obtain ⟨⟨e, s2⟩, e2, h⟩ := bind1 h
  obtain ⟨r', e3, h⟩ := map1 h
  cases h
  refine (pt_cmpR (wo_op X _) (we_pe X a) (we_pe X b) (noSet_mark hn op)).wt (ha rel e1 fun x H1 sb1 bg1 tx => ?_)
  have rel1 := rel.step sb1 bg1
  refine hb rel1 e2 fun y H2 sb2 bg2 ty => ?_
  exact cmpD_ok C.hu e3 (tx.mono (rel1.fzm sb2) sb2) ty ⟨_, rfl, q _ (sb1.trans sb2) bg2⟩
def chainF (op op' : CmpOp) (f g k : VF) (env : Env') (st : BSt) : Option (Bool × BSt) := (f env st).bind fun p => (g env p.2).bind fun q => (cmpD op p.1 q.1).bind fun r =>
  if r then (k env q.2).bind fun z => (cmpD op' q.1 z.1).map fun r' => (r', z.2) else some (false, q.2)
theorem s_chain {a b c : Expr} {op op' : CmpOp} {pos : Pos} {f g k : VF} (C : CxS F S X) (hn : noSet b = true) (hn' : noSet c = true) (ha : SoundV X a f) (hb : SoundV X b g) (hc : SoundV X c k) :
    SoundE X (.Compare a [op, op'] [b, c] pos) (blF (chainF op op' f g k)) ∧ SoundT X (.Compare a [op, op'] [b, c] pos) (chainF op op' f g k) := by
  have hm : lastMarks [op, op'] [b, c] = false := noSet_mark hn' op'
  constructor
  · intro β Oo H0 O σ H env st r st' Q rel h q
    obtain ⟨⟨z, s3⟩, g0, h'⟩ := map1 h
    cases h'
    clear h
    obtain ⟨⟨d, s1⟩, e1, h⟩ := bind1 g0
    obtain ⟨⟨e, s2⟩, e2, h⟩ := bind1 h
    obtain ⟨r', e3, h⟩ := bind1 h
    refine (pe_chain (wo_op X _) (wo_op X _) (we_pe X a) (we_pe X b) (we_pe X c) hm).we (ha rel e1 fun x H1 sb1 bg1 tx => ?_)
    have rel1 := rel.step sb1 bg1
    refine hb rel1 e2 fun y H2 sb2 bg2 ty => ?_
    have rel2 := rel1.step sb2 bg2
    refine cmpD_ok C.hu e3 (tx.mono (rel1.fzm sb2) sb2) ty ⟨_, rfl, ?_⟩
    cases r' with
    | false => cases h; exact iteF (q _ _ (sb1.trans sb2) bg2 (.bl _))
    | true =>
      refine iteT ?_
      simp only [if_true] at h
      obtain ⟨⟨d3, s4⟩, e4, h⟩ := bind1 h
      obtain ⟨r4, e5, h⟩ := map1 h
      cases h
      refine hc rel2 e4 fun w H3 sb3 bg3 tw => ?_
      exact cmpD_ok C.hu e5 (ty.mono (rel2.fzm sb3) sb3) tw (q _ _ (sb1.trans (sb2.trans sb3)) bg3 (.bl _))
  · intro β Oo H0 O σ H env st z st' Q rel h q
    obtain ⟨⟨d, s1⟩, e1, h⟩ := bind1 h
    obtain ⟨⟨e, s2⟩, e2, h⟩ := bind1 h
    obtain ⟨r', e3, h⟩ := bind1 h
    refine (pt_chain (wo_op X _) (wo_op X _) (we_pe X a) (we_pe X b) (we_pe X c) hm).wt (ha rel e1 fun x H1 sb1 bg1 tx => ?_)
    have rel1 := rel.step sb1 bg1
    refine hb rel1 e2 fun y H2 sb2 bg2 ty => ?_
    have rel2 := rel1.step sb2 bg2
    refine cmpD_ok C.hu e3 (tx.mono (rel1.fzm sb2) sb2) ty ⟨_, rfl, ?_⟩
    cases r' with
    | false => cases h; exact iteF ⟨_, rfl, q _ (sb1.trans sb2) bg2⟩
    | true =>
      refine iteT ?_
      simp only [if_true] at h
      obtain ⟨⟨d3, s4⟩, e4, h⟩ := bind1 h
      obtain ⟨r4, e5, h⟩ := map1 h
      cases h
      refine hc rel2 e4 fun w H3 sb3 bg3 tw => ?_
      exact cmpD_ok C.hu e5 (ty.mono (rel2.fzm sb3) sb3) tw ⟨_, rfl, q _ (sb1.trans (sb2.trans sb3)) bg3⟩
/-! ### not, and, or, tests -/
def boolOf : D → Option Bool
  | .bool b => some b
  | _ => none
theorem boolOf_ok {d : D} {b : Bool} (h : boolOf d = some b) : d = .bool b := by
  cases d <;> cases h; rfl
def truOf : D → Option Bool
  | .list ds => some (!ds.isEmpty)
  | d => boolOf d
def tstF (f : VF) (env : Env') (st : BSt) : Option (Bool × BSt) := (f env st).bind fun p => (truOf p.1).map fun b => (b, p.2)
theorem t_of (b : Bool) : truOf (.bool b) = some b := rfl
def plainT : Expr → Bool
  | .UnaryOp .Not _ _ => false | .BoolOp .. => false | .IfExp .. => false | .Compare .. => false
  | _ => true
theorem plainT_ok {e : Expr} (h : plainT e = true) (env : Env) : ∀ whole, isTrue e env whole = (do let v ← whole; standAt e.pos; holding [v] (truthy v)) := by
  intro whole
  cases e with
  | UnaryOp op x pos => cases op <;> first | rfl | cases h
  | BoolOp _ _ _ => cases h
  | IfExp _ _ _ _ => cases h
  | Compare _ _ _ _ => cases h
  | _ => rfl
theorem s_tst {e : Expr} {f : VF} (hp : plainT e = true) (he : SoundV X e f) : SoundT X e (tstF f) := by
  intro β Oo H0 O σ H env st b st' Q rel h q
  obtain ⟨⟨d, s1⟩, e1, h⟩ := bind1 h
  obtain ⟨b', e2, h⟩ := map1 h
  cases h
  have old : boolOf d = some b → Wt X e σ H Q := fun e2 => by
    cases boolOf_ok e2
    refine (pt_val (we_pe X e) (plainT_ok hp X.env)).wt (he rel e1 fun v H1 sb1 bg1 tv => ?_)
    cases tv
    exact ⟨_, rfl, q _ sb1 bg1⟩
  cases d with
  | list ds =>
    cases e2
    refine (pt_truth (we_pe X e) (plainT_ok hp X.env)).wt (he rel e1 fun v H1 sb1 bg1 tv => ?_)
    obtain ⟨a, xs, rfl, _, h1, h2⟩ := tv
    refine ⟨_, .inl ⟨xs, SqL.of h1, rfl⟩, ?_⟩
    have : xs.isEmpty = ds.isEmpty := by
      have := h2.length
      cases xs <;> cases ds <;> first | rfl | simp at this
    rw [this]
    exact q _ sb1 bg1
  | _ => exact old e2
def notT (f : TF) (env : Env') (st : BSt) : Option (Bool × BSt) := (f env st).map fun p => (!p.1, p.2)
theorem s_notT {e : Expr} {f : TF} {pos : Pos} (he : SoundT X e f) : SoundT X (.UnaryOp .Not e pos) (notT f) := by
  intro β Oo H0 O σ H env st b st' Q rel h q
  obtain ⟨⟨d, s1⟩, e1, h⟩ := map1 h
  cases h
  exact (pt_not (wt_pt X e)).wt (he rel e1 fun H1 sb1 bg1 => q _ sb1 bg1)
def notE (f : VF) (env : Env') (st : BSt) : Option (R × BSt) := (f env st).bind fun p => (boolOf p.1).map fun b => (.fz (.bool (!b)), p.2)
theorem s_notE {e : Expr} {f : VF} {pos : Pos} (he : SoundV X e f) : SoundE X (.UnaryOp .Not e pos) (notE f) := by
  intro β Oo H0 O σ H env st r st' Q rel h q
  obtain ⟨⟨d, s1⟩, e1, h⟩ := bind1 h
  obtain ⟨b', e2, h⟩ := map1 h
  cases h
  cases boolOf_ok e2
  refine (pe_not (we_pe X e)).we (he rel e1 fun v H1 sb1 bg1 tv => ?_)
  cases tv
  exact ⟨_, rfl, q _ _ sb1 bg1 (.bl _)⟩
def negE (f : VF) (env : Env') (st : BSt) : Option (R × BSt) := (f env st).bind fun p => match p.1 with | .int i => some (.fz (.int (-i)), p.2) | .bool b => some (.fz (.int (-(b2i b))), p.2) | _ => none
theorem givesNegB (a : Bool) : Gives (Builtin.«int.__neg__» ⟨[.bool a], []⟩) (.int (-(if a = true then (1 : Int) else 0))) :=
  .of_wp fun M A E s Q h => by obtain ⟨hp, g, d, tk, os⟩ := s; wp_walk; exact ⟨_, rfl, h⟩
theorem un_negB : UnR X (unaryOp .USub) (fun x H Q => ∃ b, x = .bl b ∧ Q (.int (-(b2i b))) H) := by
  intro pins s σ H x v Q I rx h
  obtain ⟨b, rfl, q⟩ := h
  cases rx
  exact unaryOp_gives (op := .USub) (PySem.typeIs_bool s b) rfl F.slot_bool_neg F.entry_int_neg (F.args_int_neg_1 _) (givesNegB b) ⟨.int (-(b2i b)), H, I.tok _, ⟨_, rfl⟩, q⟩
theorem s_negE {e : Expr} {f : VF} {pos : Pos} (he : SoundV X e f) : SoundE X (.UnaryOp .USub e pos) (negE f) := by
  intro β Oo H0 O σ H env st r st' Q rel h q
  obtain ⟨⟨d, s1⟩, e1, h⟩ := bind1 h
  simp only at h
  split at h
  · cases h
    refine (pe_un un_neg (we_pe X e)).we (he rel e1 fun v H1 sb1 bg1 tv => ?_)
    cases tv
    exact ⟨_, rfl, q _ _ sb1 bg1 (.int _)⟩
  · cases h
    refine (pe_un un_negB (we_pe X e)).we (he rel e1 fun v H1 sb1 bg1 tv => ?_)
    cases tv
    exact ⟨_, rfl, q _ _ sb1 bg1 (.int _)⟩
  · cases h
def andT (f g : TF) (env : Env') (st : BSt) : Option (Bool × BSt) := (f env st).bind fun p => if p.1 then g env p.2 else some (false, p.2)
def orT (f g : TF) (env : Env') (st : BSt) : Option (Bool × BSt) := (f env st).bind fun p => if p.1 then some (true, p.2) else g env p.2
def andE (f : VF) (g : EF) (env : Env') (st : BSt) : Option (R × BSt) := (f env st).bind fun p => (boolOf p.1).bind fun b => if b then g env p.2 else some (.fz (.bool false), p.2)
def orE (f : VF) (g : EF) (env : Env') (st : BSt) : Option (R × BSt) := (f env st).bind fun p => (boolOf p.1).bind fun b => if b then some (.fz (.bool true), p.2) else g env p.2
def Ww (X : Cx) (e : Expr) : TT := fun σ H Q => ∀ whole pins s, Inv X pins σ H s → wpAny (model X.prog X.w) X.A (isTrue e X.env whole) (TP X pins σ Q) X.xe s
theorem ww_pw (X : Cx) (e : Expr) : PW X e (Ww X e) := ⟨fun w pins s _ _ _ I h => h w pins s I⟩
theorem _root_.L2.PW.ww {X : Cx} {e : Expr} {t : TT} {σ : L2.St} {H : Hp} {Q : Bool → Hp → Prop} (h : PW X e t) (q : t σ H Q) : Ww X e σ H Q := fun w pins s I => h.run w pins s σ H Q I q
def SoundW (X : Cx) (e : Expr) (f : TF) : Prop := ∀ ⦃β : Option Addr⦄ ⦃Oo : Addr → Prop⦄ ⦃H0 : Hp⦄ ⦃O : Addr → Prop⦄ ⦃σ : L2.St⦄ ⦃H : Hp⦄ ⦃env : Env'⦄ ⦃st : BSt⦄ ⦃b : Bool⦄ ⦃st' : BSt⦄ ⦃Q : Bool → Hp → Prop⦄,
  Rel X.K β Oo H0 O σ H env st → f env st = some (b, st') → (∀ H', SB β H H' → BagAt β H' st' → Q b H') → Ww X e σ H Q
theorem SoundW.t {e : Expr} {f : TF} (h : SoundW X e f) : SoundT X e f := fun _ _ _ _ _ _ _ _ _ _ _ rel hf q => (PW.pt (ww_pw X e)).wt (h rel hf q)
theorem s_and1 {a : Expr} {f : TF} {pos : Pos} (ha : SoundT X a f) : SoundW X (.BoolOp .And [a] pos) f := fun _ _ _ _ _ _ _ _ _ _ _ rel hf q => (pw_and1 (wt_pt X a)).ww (ha rel hf q)
theorem s_or1 {a : Expr} {f : TF} {pos : Pos} (ha : SoundT X a f) : SoundW X (.BoolOp .Or [a] pos) f := fun _ _ _ _ _ _ _ _ _ _ _ rel hf q => (pw_or1 (wt_pt X a)).ww (ha rel hf q)
theorem s_andT {a b : Expr} {rest : List Expr} {f g : TF} {pos : Pos} (ha : SoundT X a f) (hb : SoundW X (.BoolOp .And (b :: rest) pos) g) : SoundW X (.BoolOp .And (a :: b :: rest) pos) (andT f g) := by
  intro β Oo H0 O σ H env st k st' Q rel h q
  obtain ⟨⟨d, s1⟩, e1, h⟩ := bind1 h
  refine (pw_and (wt_pt X a) (ww_pw X _)).ww (ha rel e1 fun H1 sb1 bg1 => ?_)
  cases d with
  | false => cases h; exact iteF (q _ sb1 bg1)
  | true => exact iteT (hb (rel.step sb1 bg1) h fun H2 sb2 bg2 => q _ (sb1.trans sb2) bg2)
theorem s_orT {a b : Expr} {rest : List Expr} {f g : TF} {pos : Pos} (ha : SoundT X a f) (hb : SoundW X (.BoolOp .Or (b :: rest) pos) g) : SoundW X (.BoolOp .Or (a :: b :: rest) pos) (orT f g) := by
  intro β Oo H0 O σ H env st k st' Q rel h q
  obtain ⟨⟨d, s1⟩, e1, h⟩ := bind1 h
  refine (pw_or (wt_pt X a) (ww_pw X _)).ww (ha rel e1 fun H1 sb1 bg1 => ?_)
  cases d with
  | true => cases h; exact iteT (q _ sb1 bg1)
  | false => exact iteF (hb (rel.step sb1 bg1) h fun H2 sb2 bg2 => q _ (sb1.trans sb2) bg2)
theorem s_one {a : Expr} {op : BoolOp} {f : EF} {pos : Pos} (ha : SoundE X a f) : SoundE X (.BoolOp op [a] pos) f := fun _ _ _ _ _ _ _ _ _ _ _ rel hf q => (pe_one (we_pe X a)).we (ha rel hf q)
theorem s_andE {a b : Expr} {rest : List Expr} {f : VF} {g : EF} {pos : Pos} (ha : SoundV X a f) (hb : SoundE X (.BoolOp .And (b :: rest) pos) g) : SoundE X (.BoolOp .And (a :: b :: rest) pos) (andE f g) := by
  intro β Oo H0 O σ H env st r st' Q rel h q
  obtain ⟨⟨d, s1⟩, e1, h⟩ := bind1 h
  obtain ⟨k, e2, h⟩ := bind1 h
  cases boolOf_ok e2
  refine (pe_and (we_pe X a) (we_pe X _)).we (ha rel e1 fun v H1 sb1 bg1 tv => ?_)
  cases tv
  refine ⟨_, rfl, ?_⟩
  cases k with
  | false => cases h; exact iteF (q _ _ sb1 bg1 (.bl _))
  | true => exact iteT (hb (rel.step sb1 bg1) h fun v H2 sb2 bg2 rs => q _ _ (sb1.trans sb2) bg2 (rs.back sb1))
theorem s_orE {a b : Expr} {rest : List Expr} {f : VF} {g : EF} {pos : Pos} (ha : SoundV X a f) (hb : SoundE X (.BoolOp .Or (b :: rest) pos) g) : SoundE X (.BoolOp .Or (a :: b :: rest) pos) (orE f g) := by
  intro β Oo H0 O σ H env st r st' Q rel h q
  obtain ⟨⟨d, s1⟩, e1, h⟩ := bind1 h
  obtain ⟨k, e2, h⟩ := bind1 h
  cases boolOf_ok e2
  refine (pe_or (we_pe X a) (we_pe X _)).we (ha rel e1 fun v H1 sb1 bg1 tv => ?_)
  cases tv
  refine ⟨_, rfl, ?_⟩
  cases k with
  | true => cases h; exact iteT (q _ _ sb1 bg1 (.bl _))
  | false => exact iteF (hb (rel.step sb1 bg1) h fun v H2 sb2 bg2 rs => q _ _ (sb1.trans sb2) bg2 (rs.back sb1))
def ifE (c : TF) (f g : EF) (env : Env') (st : BSt) : Option (R × BSt) := (c env st).bind fun p => if p.1 then f env p.2 else g env p.2
theorem s_if {c a b : Expr} {k : TF} {f g : EF} {pos : Pos} (hc : SoundT X c k) (ha : SoundE X a f) (hb : SoundE X b g) : SoundE X (.IfExp c a b pos) (ifE k f g) := by
  intro β Oo H0 O σ H env st r st' Q rel h q
  obtain ⟨⟨d, s1⟩, e1, h⟩ := bind1 h
  refine (pe_ifExp (wt_pt X c) (we_pe X a) (we_pe X b)).we (hc rel e1 fun H1 sb1 bg1 => ?_)
  cases d with
  | true => exact iteT (ha (rel.step sb1 bg1) h fun v H2 sb2 bg2 rs => q _ _ (sb1.trans sb2) bg2 (rs.back sb1))
  | false => exact iteF (hb (rel.step sb1 bg1) h fun v H2 sb2 bg2 rs => q _ _ (sb1.trans sb2) bg2 (rs.back sb1))
end
end Iv

set_option maxHeartbeats 4000000
namespace Iv
open PySem PySem.Spec PyProof.Rows L2
variable [Ct] [Nm]
def noStar : Expr → Bool
  | .Starred .. => false
  | _ => true
theorem noStar_ok {e : Expr} (h : noStar e = true) (es : List Expr) (env : Env) : starEach (e :: es) env = (false, eval e env) :: starEach es env := by
  cases e <;> first | rfl | cases h
theorem noStars_any {env : Env} {pos : Pos} : ∀ {es : List Expr}, es.all noStar = true → (backTo pos (starEach es env)).any (·.1) = false
  | [], _ => rfl
  | e :: es, h => by
    simp only [List.all_cons, Bool.and_eq_true] at h
    rw [noStar_ok h.1]
    have := noStars_any (env := env) (pos := pos) h.2
    unfold backTo at this ⊢
    simp only [List.map_cons, List.any_cons, Bool.false_or]
    exact this
def argsF : List EF → Env' → BSt → Option (List R × BSt)
  | [], _, st => some ([], st)
  | f :: fs, env, st => (f env st).bind fun p => (argsF fs env p.2).map fun q => (p.1.down :: q.1, q.2)
section
variable {F : FT} {S : Sx} {X : Cx}
theorem s_args0 : SoundA X [] (argsF []) := by
  intro β Oo H0 O σ H env st rs st' Q rel h q
  cases h
  exact pa_nil.wa (q [] H SB.refl rel.bag .nil (fun _ _ _ _ h => by cases h))
theorem ArgsAt.mono {K : PySem.W.Frag} {β : Option Addr} {O O' : Addr → Prop} {H H' : Hp} (e : Same (Fz O H) (Fz O' H')) (hb : SB β H H') : ∀ {vs : List V} {rs : List R}, ArgsAt K β O H vs rs → ArgsAt K β O' H' vs rs
  | _, _, .nil => .nil
  | _, _, .cons a b => .cons (a.mono e hb) (ArgsAt.mono e hb b)
theorem s_args {e : Expr} {es : List Expr} {f : EF} {fs : List EF} (hn : noStar e = true) (he : SoundE X e f) (hs : SoundA X es (argsF fs)) : SoundA X (e :: es) (argsF (f :: fs)) := by
  intro β Oo H0 O σ H env st rs st' Q rel h q
  obtain ⟨⟨r, s1⟩, e1, h⟩ := bind1 h
  obtain ⟨⟨rs', s2⟩, e2, h⟩ := map1 h
  cases h
  refine (pa_cons (we_pe X e) (wa_pa X es) (noStar_ok hn es X.env)).wa (he rel e1 fun v H1 sb1 bg1 rv => ?_)
  have rel1 := rel.step sb1 bg1
  refine hs rel1 e2 fun vs H2 sb2 bg2 rvs nf => ?_
  exact q _ _ (sb1.trans sb2) bg2 (.cons ((argAt_of rel rv).mono (rel1.fzm sb2) sb2) rvs) (noF_cons rv nf)
def dsOf : List R → Option (List D)
  | [] => some []
  | .fz d :: rs => (dsOf rs).map (d :: ·)
  | _ :: _ => none
theorem dsOf_ok {K : PySem.W.Frag} {β : Option Addr} {O : Addr → Prop} {H : Hp} : ∀ {vs : List V} {rs : List R} {ds : List D}, dsOf rs = some ds → ArgsAt K β O H vs rs → RpAll K (Fz O H) vs ds
  | _, [], _, h, .nil => by cases h; exact .nil
  | _, .fz d :: rs, _, h, .cons a b => by
    obtain ⟨ds', e, rfl⟩ := map1 h
    exact .cons a.2 (dsOf_ok e b)
  | _, .ow _ :: _, _, h, _ => by cases h
  | _, .bag :: _, _, h, _ => by cases h
  | _, .scr _ :: _, _, h, _ => by cases h
def tupF (f : AF) (env : Env') (st : BSt) : Option (R × BSt) := (f env st).bind fun p => (dsOf p.1).bind fun ds => if lenOk ds.length then some (.fz (.tuple ds), p.2) else none
def lstF (f : AF) (env : Env') (st : BSt) : Option (R × BSt) := (f env st).bind fun p => (dsOf p.1).bind fun ds => if lenOk ds.length then some (.ow (.list ds), p.2) else none
theorem s_tup {es : List Expr} {f : AF} {k : Nat} {pos : Pos} (h : SoundA X es f) : SoundE X (.Tuple es k pos) (tupF f) := by
  intro β Oo H0 O σ H env st r st' Q rel hf q
  obtain ⟨⟨rs, s1⟩, e1, hf⟩ := bind1 hf
  obtain ⟨ds, e2, hf⟩ := bind1 hf
  obtain ⟨c, hf⟩ := ite_some hf
  cases hf
  refine (pe_tup (wa_pa X es)).we (h rel e1 fun vs H1 sb1 bg1 av nf => ?_)
  have rel1 := rel.step sb1 bg1
  have rp := dsOf_ok e2 av
  refine ⟨by rw [rp.length]; exact of_decide_eq_true c, fun p hp => ?_⟩
  exact q _ _ (sb1.trans (SB.laid hp)) (same_bag (same_laid hp) bg1) ((fresh_tup hp rel1.dom' rp).back sb1)
theorem s_lst {es : List Expr} {f : AF} {pos : Pos} (h : SoundA X es f) : SoundE X (.List es pos) (lstF f) := by
  intro β Oo H0 O σ H env st r st' Q rel hf q
  obtain ⟨⟨rs, s1⟩, e1, hf⟩ := bind1 hf
  obtain ⟨ds, e2, hf⟩ := bind1 hf
  obtain ⟨c, hf⟩ := ite_some hf
  cases hf
  refine (pe_lst (wa_pa X es)).we (h rel e1 fun vs H1 sb1 bg1 av nf => ?_)
  have rel1 := rel.step sb1 bg1
  have rp := dsOf_ok e2 av
  refine ⟨by rw [rp.length]; exact of_decide_eq_true c, fun p hp => ?_⟩
  exact q _ _ (sb1.trans (SB.laid hp)) (same_bag (same_laid hp) bg1) ((fresh_list hp rel1.dom' (rel1.neB hp) rp).back sb1)
/-! ### calls of own defs -/
def callF (F : FT) (x : Str) (f : AF) (env : Env') (st : BSt) : Option (R × BSt) := (f env st).bind fun p => F x p.1 p.2
theorem paired_length {α γ : Type} {P : α → γ → Prop} : ∀ {l : List α} {m : List γ}, Paired P l m → l.length = m.length
  | _, _, .nil => rfl
  | _, _, .cons _ t => by simp [paired_length t]
theorem run_fnS {k : Nat} {f : Addr} {fd : FuncData} {ps : List Str} {sp : SpS} {pins : List (Addr × Obj)} {σ : L2.St} {H : Hp} {s : Shared} {Q : VK} {us : List Value} {vs : List V} {g : Bool} (Fo : FnOkS X.prog X.w X.K X.mg X.base k f fd ps sp g) (hgd : g = true → X.A.guards = some []) (hr : Room k X.A) (hb : Binds X.K fd ps [])
    (I : Inv X pins σ H s) (r : Vals vs us) (h : sp X.stack s vs H Q E0) : wpAny (model X.prog X.w) X.A (call (.ref f) us) (EP X pins σ Q) X.xe s := by
  have hl : (us ++ []).length = ps.length := by rw [List.append_nil, ← r.length]; exact Fo.len _ _ _ _ _ _ h
  have hb' := hb s us I.kIn hl
  rw [List.append_nil] at hb'
  refine wpAny_call (codeAny_mono (Fo.run X.A X.stack s H ⟨us, []⟩ us vs Q E0 hr hgd I.env0 hb' r h) fun r s' hq => ?_)
  cases r with
  | error e => exact (pass0 : Passes CX0 X E0) pins σ H s e s' I hq
  | ok fl =>
    cases fl with
    | ret u => exact I.after hq
    | next => exact False.elim hq
    | brk => exact False.elim hq
    | cont => exact False.elim hq
theorem we_call {k : Nat} {x : Str} {f : Addr} {fd : FuncData} {ps : List Str} {sp : SpS} {e : Expr} {es : List Expr} {p pos : Pos} {σ : L2.St} {H : Hp} {Q : VK} {g : Bool} (Fo : FnOkS X.prog X.w X.K X.mg X.base k f fd ps sp g) (hgd : g = true → X.A.guards = some []) (hr : Room k X.A) (hg : Gl X x) (hm : X.mg x = some (.ref f)) (hk : PySem.W.keepIn X.K (.ref f) = true)
    (hb : Binds X.K fd ps []) (hdb : (x == ("__debug__" : Str)) = false) (hn : noStar e = true) (hns : es.all noStar = true) (h : Wa X (e :: es) σ H fun vs H1 => ∀ pins s, Inv X pins σ H1 s → sp X.stack s vs H1 Q E0) : We X (.Call (.Name x p) (e :: es) [] pos) σ H Q := fun pins s I => by
  refine wpAny_Call_Name_kw (ld_glob I hg hm ?_ hdb)
  refine PySem.W.callWith_K (h₀ := X.base) I.ok.mod.kin hk (thn (h pos pins s I) fun us s1 ⟨vs, H1, I1, r, q⟩ => ⟨I1.kIn, ?_⟩) (noStar_ok hn es X.env) (noStars_any hns)
  exact run_fnS Fo hgd hr hb I1 r (q pins s1 I1)
theorem s_call (C : CxS F S X) {x : Str} {e : Expr} {es : List Expr} {f : AF} {p pos : Pos} (hx : isFn S x = true) (hn : noStar e = true) (hns : es.all noStar = true) (h : SoundA X (e :: es) f)
    : SoundE X (.Call (.Name x p) (e :: es) [] pos) (callF F x f) := by
  intro β Oo H0 O σ H env st r st' Q rel hf q
  obtain ⟨⟨rs, s1⟩, e1, hf⟩ := bind1 hf
  obtain ⟨g, ⟨k, fa, fd, ps, gg, h1, h2, h3, h4, h5, h7, h6⟩, hd⟩ := isFn_ok C hx
  refine we_call h5 h7 h4 g h1 h2 h3 hd hn hns (h rel e1 fun vs H1 sb1 bg1 av nf pins s I => ?_)
  have rel1 := rel.step sb1 bg1
  refine ⟨by rw [paired_length av]; exact h6 _ _ _ hf, β, O, vs, rs, none, s1, r, st', (List.append_nil vs).symm, av, nf, trivial, rel1.bO', rel1.dom, bg1, rel1.tabs, (by show F x (rs ++ []) s1 = _; rw [List.append_nil]; exact hf), fun v H2 sb2 bg2 rv => ?_⟩
  exact q _ _ (sb1.trans sb2) bg2 (rv.back sb1)
theorem call_str_bl : CallR X (.type "str") (fun xs H Q => ∃ b, xs = [.bl b] ∧ Q (.str (if b then "True" else "False")) H) := by
  intro pins s σ H xs us Q I r h
  obtain ⟨b, rfl, q⟩ := h
  obtain ⟨u, rfl, rb⟩ := vals1 r
  cases rb
  exact PySem.P.str_of_bool ⟨.str _, H, I.tok _, ⟨_, rfl⟩, q⟩
/-! ### built-ins of one argument, of two -/
def Wc (X : Cx) (f : Value) : List V → Hp → VK → Prop := fun vs H Q => ∀ pins s σ us, Inv X pins σ H s → Vals vs us → wpAny (model X.prog X.w) X.A (call f us) (EP X pins σ Q) X.xe s
theorem wc_call (X : Cx) (f : Value) : CallR X f (Wc X f) := fun pins s σ H vs us Q I r h => h pins s σ us I r
theorem wc_of {f : Value} {r : List V → Hp → VK → Prop} {vs : List V} {H : Hp} {Q : VK} (h : CallR X f r) (q : r vs H Q) : Wc X f vs H Q := fun pins s σ us I rv => h pins s σ H vs us Q I rv q
inductive Bl where
  | len | abs | all | list | tuple | str | sum | sorted | max2 | min2 | strT
def bl1 (S : Sx) (x : Str) : Option Bl :=
  if isBlt S x then
    if x = "len" then some .len else if x = "abs" then some .abs else if x = "all" then some .all else if x = "list" then some .list else if x = "tuple" then some .tuple else if x = "str" then (if S.gd then some .strT else some .str)
    else if x = "sum" then some .sum else if x = "sorted" then some .sorted else none
  else none
def bl2 (S : Sx) (x : Str) : Option Bl :=
  if isBlt S x then if x = "max" then some .max2 else if x = "min" then some .min2 else none else none
def boolsOf : List D → Option (List Bool)
  | [] => some []
  | .bool b :: ds => (boolsOf ds).map (b :: ·)
  | _ :: _ => none
def intsOf : List D → Option (List Int)
  | [] => some []
  | .int b :: ds => (intsOf ds).map (b :: ·)
  | _ :: _ => none
theorem boolsOf_ok : ∀ {ds : List D} {bs : List Bool}, boolsOf ds = some bs → ds = bs.map .bool
  | [], _, h => by cases h; rfl
  | .bool b :: ds, _, h => by obtain ⟨bs, e, rfl⟩ := map1 h; rw [boolsOf_ok e]; rfl
  | .none :: _, _, h => by cases h
  | .int _ :: _, _, h => by cases h
  | .str _ :: _, _, h => by cases h
  | .list _ :: _, _, h => by cases h
  | .tuple _ :: _, _, h => by cases h
  | .dict _ :: _, _, h => by cases h
theorem intsOf_ok : ∀ {ds : List D} {bs : List Int}, intsOf ds = some bs → ds = bs.map .int
  | [], _, h => by cases h; rfl
  | .int b :: ds, _, h => by obtain ⟨bs, e, rfl⟩ := map1 h; rw [intsOf_ok e]; rfl
  | .none :: _, _, h => by cases h
  | .bool _ :: _, _, h => by cases h
  | .str _ :: _, _, h => by cases h
  | .list _ :: _, _, h => by cases h
  | .tuple _ :: _, _, h => by cases h
  | .dict _ :: _, _, h => by cases h
/-- sorting, in plain words -/
def ins (x : Int) : List Int → List Int
  | [] => [x]
  | y :: ys => if x ≤ y then x :: y :: ys else y :: ins x ys
def isort : List Int → List Int
  | [] => []
  | x :: xs => ins x (isort xs)
theorem ins_perm (x : Int) : ∀ l : List Int, (ins x l).Perm (x :: l)
  | [] => .refl _
  | y :: ys => by
    unfold ins
    split
    · exact .refl _
    · exact ((ins_perm x ys).cons y).trans (.swap x y ys)
theorem isort_perm : ∀ l : List Int, (isort l).Perm l
  | [] => .refl _
  | x :: xs => (ins_perm x _).trans ((isort_perm xs).cons x)
theorem ins_sorted (x : Int) : ∀ l : List Int, l.Pairwise (· ≤ ·) → (ins x l).Pairwise (· ≤ ·)
  | [], _ => List.pairwise_singleton _ _
  | y :: ys, h => by
    obtain ⟨h1, h2⟩ := List.pairwise_cons.mp h
    unfold ins
    split
    · rename_i hxy
      exact List.pairwise_cons.mpr ⟨fun z hz => by
        rcases List.mem_cons.mp hz with rfl | hz
        · exact hxy
        · exact Int.le_trans hxy (h1 z hz), h⟩
    · rename_i hxy
      refine List.pairwise_cons.mpr ⟨fun z hz => ?_, ins_sorted x ys h2⟩
      rcases List.mem_cons.mp ((ins_perm x ys).mem_iff.mp hz) with rfl | hz
      · omega
      · exact h1 z hz
theorem isort_sorted : ∀ l : List Int, (isort l).Pairwise (· ≤ ·)
  | [] => .nil
  | x :: xs => ins_sorted x _ (isort_sorted xs)
theorem sorted_unique : ∀ {a b : List Int}, a.Perm b → a.Pairwise (· ≤ ·) → b.Pairwise (· ≤ ·) → a = b
  | [], b, p, _, _ => by rw [List.nil_perm.mp p]
  | x :: a, [], p, _, _ => by simp at p
  | x :: a, y :: b, p, ha, hb => by
    obtain ⟨h1, h2⟩ := List.pairwise_cons.mp ha
    obtain ⟨h3, h4⟩ := List.pairwise_cons.mp hb
    have xy : x = y := by
      have i1 : y ≤ x := by
        rcases List.mem_cons.mp (p.mem_iff.mp List.mem_cons_self) with e | e
        · omega
        · exact h3 x e
      have i2 : x ≤ y := by
        rcases List.mem_cons.mp (p.mem_iff.mpr List.mem_cons_self) with e | e
        · omega
        · exact h1 y e
      omega
    subst xy
    rw [sorted_unique (List.perm_cons _ |>.mp p) h2 h4]
theorem isort_eq {ns ns' : List Int} (p : ns'.Perm ns) (s : ns'.Pairwise (· ≤ ·)) : ns' = isort ns := sorted_unique (p.trans (isort_perm ns).symm) s (isort_sorted ns)
def keysI : List (D × D) → Option (List Int)
  | [] => some []
  | (.int i, _) :: r => (keysI r).map (i :: ·)
  | _ :: _ => none
theorem keysI_ok : ∀ {kds : List (D × D)} {is : List Int}, keysI kds = some is → kds.map (·.1) = is.map .int
  | [], _, h => by cases h; rfl
  | (.int i, _) :: r, _, h => by obtain ⟨is, e, rfl⟩ := map1 h; simp [keysI_ok e]
  | (.none, _) :: r, _, h => by cases h
  | (.bool _, _) :: r, _, h => by cases h
  | (.str _, _) :: r, _, h => by cases h
  | (.list _, _) :: r, _, h => by cases h
  | (.tuple _, _) :: r, _, h => by cases h
  | (.dict _, _) :: r, _, h => by cases h
theorem kD_ints : ∀ {ks : List Key} {is : List Int}, is.map PyData.int = ks.map kD → ks = is.map Sum.inl
  | [], [], _ => rfl
  | .inl k :: ks, i :: is, h => by
    simp only [List.map_cons, List.cons.injEq, kD, PyData.int.injEq] at h
    rw [kD_ints h.2, ← h.1]; rfl
  | .inr k :: ks, i :: is, h => by simp [kD] at h
  | [], i :: is, h => by simp at h
  | k :: ks, [], h => by simp at h
/-- tuples, each with an item at least, all alike -/
def isTup1 : D → Bool
  | .tuple (_ :: _) => true
  | _ => false
def sortOk (ds : List D) : Bool := PyData.canLayAll0 ds && ds.all isTup1 && ds.all (fun d => ds.all fun e => PySem.W.alike d e) && ds.all fun d => decide (d.depth ≤ 60)
theorem sortOk_ok {ds : List D} (h : sortOk ds = true) : PyData.canLayAll0 ds = true ∧ PySem.W.AllAlike ds ∧ PySem.W.Sortable ds ∧ ∀ d ∈ ds, d.depth ≤ 60 := by
  unfold sortOk at h
  simp only [Bool.and_eq_true, List.all_eq_true, decide_eq_true_eq] at h
  refine ⟨h.1.1.1, fun d hd d' hd' => h.1.2 d hd d' hd', .inl fun d hd => ?_, h.2⟩
  have := h.1.1.2 d hd
  cases d with
  | tuple xs => cases xs with
    | nil => cases this
    | cons x r => exact ⟨x, r, rfl⟩
  | _ => cases this
def keysT : List (D × D) → Option (List D)
  | [(.none, .dict kds)] => some (kds.map (·.1))
  | _ => none
theorem keysT_ok {kds : List (D × D)} {ks : List D} (h : keysT kds = some ks) : ∃ kds', kds = [(.none, .dict kds')] ∧ ks = kds'.map (·.1) := by
  unfold keysT at h
  split at h
  · cases h; exact ⟨_, rfl, rfl⟩
  · cases h
theorem srt_rp {K : PySem.W.Frag} {H : Hp} {xs ys : List V} {ds : List D} (r : RpAll K H xs ds) (s : Srt xs ds ys) : RpAll K H ys (srtD ds) := by
  obtain ⟨ps, rfl, e, hm⟩ := s
  rw [← e]
  have all : ∀ {xs : List V} {ds : List D}, RpAll K H xs ds → ∀ p ∈ xs.zip ds, Rp K H p.1 p.2 := by
    intro xs ds r
    induction ds generalizing xs with
    | nil => cases r; intro p hp; simp at hp
    | cons d ds ih =>
      cases r with
      | cons a b =>
        intro p hp
        rcases List.mem_cons.mp (show p ∈ (_, d) :: _ from hp) with rfl | hp
        · exact a
        · exact ih b p hp
  have h2 : ∀ p ∈ ps, Rp K H p.1 p.2 := fun p hp => all r p (hm p hp)
  clear e hm
  induction ps with
  | nil => exact .nil
  | cons p ps ih => exact .cons (h2 p List.mem_cons_self) (ih fun q hq => h2 q (List.mem_cons_of_mem _ hq))
theorem rp_keyT {K : PySem.W.Frag} {H : Hp} : ∀ ks : List Key, RpAll K H (ks.map kV) (ks.map kD)
  | [] => .nil
  | .inl i :: ks => .cons (.int i) (rp_keyT ks)
  | .inr x :: ks => .cons (.str x) (rp_keyT ks)
theorem rp_keysT {K : PySem.W.Frag} {O : Addr → Prop} {H : Hp} (hpl : ∀ a, O a → ∃ o, H a = some o ∧ plainO o = true) : ∀ {cs : List Addr} {kvs : List (List Key × V)}, cs.length = kvs.length → (∀ (j : Nat) c q, cs[j]? = some c → kvs[j]? = some q → H c = some (.tup (q.1.map kV))) → RpAll K (Fz O H) (cs.map V.ref) (kvs.map fun p => tkD p.1)
  | [], [], _, _ => .nil
  | c :: cs, q :: kvs, hl, h => by
    have hc : H c = some (.tup (q.1.map kV)) := h 0 c q rfl rfl
    have nO : ¬ O c := fun z => by
      obtain ⟨o, e, p⟩ := hpl c z
      rw [hc] at e; cases e; cases p
    exact .cons (.tup (SqT.of (fz_put nO hc rfl)) (rp_keyT _) (.inl (fz_put nO hc rfl))) (rp_keysT hpl (by simpa using hl) fun j c' q' e1 e2 => h (j + 1) c' q' (by simpa using e1) (by simpa using e2))
  | [], q :: kvs, hl, _ => by cases hl
  | c :: cs, [], hl, _ => by cases hl
def ksOf : List D → Option (List Key)
  | [] => some []
  | .int i :: r => (ksOf r).map (.inl i :: ·)
  | .str x :: r => (ksOf r).map (.inr x :: ·)
  | _ :: _ => none
theorem ksOf_ok : ∀ {ds : List D} {ks : List Key}, ksOf ds = some ks → ds = ks.map kD
  | [], _, h => by cases h; rfl
  | .int i :: r, _, h => by obtain ⟨ks, e, rfl⟩ := map1 h; rw [ksOf_ok e]; rfl
  | .str x :: r, _, h => by obtain ⟨ks, e, rfl⟩ := map1 h; rw [ksOf_ok e]; rfl
  | .none :: _, _, h => by cases h
  | .bool _ :: _, _, h => by cases h
  | .list _ :: _, _, h => by cases h
  | .tuple _ :: _, _, h => by cases h
  | .dict _ :: _, _, h => by cases h
def tksOf : List D → Option (List (List Key))
  | [] => some []
  | .tuple ds :: r => (ksOf ds).bind fun k => (tksOf r).map (k :: ·)
  | _ :: _ => none
theorem rp_kk {K : PySem.W.Frag} {H : Hp} : ∀ {ks : List Key} {vs : List V}, RpAll K H vs (ks.map kD) → vs = ks.map kV
  | [], _, h => by cases h; rfl
  | .inl i :: ks, _, h => by
    cases h with
    | cons a b => cases a; rw [rp_kk b]; rfl
  | .inr i :: ks, _, h => by
    cases h with
    | cons a b => cases a; rw [rp_kk b]; rfl
theorem tksOf_ok {K : PySem.W.Frag} {H : Hp} : ∀ {ds : List D} {kss : List (List Key)} {xs : List V}, tksOf ds = some kss → RpAll K H xs ds → ds = kss.map tkD ∧ ∃ cs : List Addr, xs = cs.map V.ref ∧ cs.length = kss.length ∧ ∀ (j : Nat) c ks, cs[j]? = some c → kss[j]? = some ks → SqT K H c (ks.map kV)
  | [], _, _, h, r => by cases h; cases r; exact ⟨rfl, [], rfl, rfl, fun j c ks e => by simp at e⟩
  | .tuple ds :: r, _, _, h, rr => by
    obtain ⟨k, e1, h⟩ := bind1 h
    obtain ⟨kss, e2, rfl⟩ := map1 h
    cases rr with
    | cons a b =>
      obtain ⟨g1, cs, rfl, g2, g3⟩ := tksOf_ok e2 b
      cases a with
      | @tup c xs _ h1 h2 _ =>
        rw [ksOf_ok e1] at h2
        rw [rp_kk h2] at h1
        refine ⟨by rw [g1, ksOf_ok e1]; rfl, c :: cs, rfl, by simp [g2], fun j c' ks e3 e4 => ?_⟩
        cases j with
        | zero => simp at e3 e4; subst e3 e4; exact h1
        | succ j => exact g3 j c' ks (by simpa using e3) (by simpa using e4)
  | .none :: _, _, _, h, _ => by cases h
  | .bool _ :: _, _, _, h, _ => by cases h
  | .int _ :: _, _, _, h, _ => by cases h
  | .str _ :: _, _, _, h, _ => by cases h
  | .list _ :: _, _, _, h, _ => by cases h
  | .dict _ :: _, _, _, h, _ => by cases h
def blD1 : Bl → D → Option R
  | .len, .list ds => some (.fz (.int ds.length))
  | .len, .tuple ds => some (.fz (.int ds.length))
  | .len, .str x => if lenOk x.length then some (.fz (.int x.length)) else none
  | .abs, .int i => some (.fz (.int (if i < 0 then -i else i)))
  | .all, .list ds => (boolsOf ds).map fun bs => .fz (.bool (bs.all id))
  | .list, .list ds => some (.ow (.list ds))
  | .list, .tuple ds => some (.ow (.list ds))
  | .tuple, .list ds => some (.fz (.tuple ds))
  | .tuple, .tuple ds => some (.fz (.tuple ds))
  | .str, .int i => if decide (i.natAbs.log2 < 1920) then some (.fz (.str (toString i))) else none
  | .str, .bool b => some (.fz (.str (if b then "True" else "False")))
  | .sum, .list ds => (intsOf ds).map fun ns => .fz (.int ns.sum)
  | .sorted, .list ds => if sortOk ds then some (.ow (.list (srtD ds))) else (intsOf ds).bind fun ns => if decide (ns.length < 64) then some (.ow (.list ((isort ns).map .int))) else none
  | .sorted, .dict kds => (match keysT kds with
    | some ks => if sortOk ks then some (.ow (.list (srtD ks))) else none
    | none => (keysI kds).bind fun ns => if decide (ns.length < 64) then some (.ow (.list ((isort ns).map .int))) else none)
  | .sorted, .tuple ds => (tksOf ds).bind fun _ => if sortOk ds then some (.ow (.list (srtD ds))) else none
  | .strT, .tuple [.int i, .int j] => if decide (i.natAbs.log2 < 1920) && decide (j.natAbs.log2 < 1920) then some (.fz (.str (tupleText [Str.ofString (toString i), Str.ofString (toString j)]))) else none
  | _, _ => none
def blD2 : Bl → D → D → Option R
  | .max2, .int i, .int j => some (.fz (.int (if j > i then j else i)))
  | .min2, .int i, .int j => some (.fz (.int (if j < i then j else i)))
  | _, _, _ => none
def blV : Bl → Value
  | .len => .builtin "len" | .abs => .builtin "abs" | .all => .builtin "all" | .list => .type "list" | .tuple => .type "tuple" | .str => .type "str"
  | .sum => .builtin "sum" | .sorted => .builtin "sorted" | .max2 => .builtin "max" | .min2 => .builtin "min" | .strT => .type "str"
section
variable {β : Option Addr} {O : Addr → Prop} {H : Hp} {Q : VK}
theorem blD1_ok (hc : X.calm = true) {b : Bl} (hgd : b = .strT → X.A.guards = some []) {d : D} {v : V} {r : R} (hu : X.A.units + 65 < cLine) (hpl : ∀ a, O a → ∃ o, H a = some o ∧ plainO o = true) (hb : ∀ b, β = some b → O b) (h : blD1 b d = some r) (hv : TopAt X.K β O H v d)
    (q : ∀ v H', Same H H' → ResAt X.K β O H H' v r → Q v H') : Wc X (blV b) [v] H Q := by
  have hO : ∀ a, O a → H a ≠ none := fun a h z => by obtain ⟨o, e, _⟩ := hpl a h; rw [e] at z; cases z
  have nb : ∀ p, H p = none → β ≠ some p := fun p hp z => hO p (hb p z) hp
  unfold blD1 at h
  split at h
  · cases h; obtain ⟨a, xs, rfl, _, h1, h2⟩ := hv
    exact wc_of call_len_seq ⟨_, _, rfl, .inl (SqL.of h1), q _ _ (Same.refl _) (by rw [h2.length]; exact .int _)⟩
  · cases h; obtain ⟨a, xs, rfl, h1, h2⟩ := rp_tup hv
    exact wc_of call_len_seq ⟨_, _, rfl, .inr (fz_tup h1), q _ _ (Same.refl _) (by rw [h2.length]; exact .int _)⟩
  · obtain ⟨c, rfl⟩ := ite_some h; cases hv
    exact wc_of call_len_str ⟨_, rfl, of_decide_eq_true c, q _ _ (Same.refl _) (.int _)⟩
  · cases h; cases hv
    exact wc_of call_abs ⟨_, rfl, q _ _ (Same.refl _) (.int _)⟩
  · obtain ⟨bs, e, rfl⟩ := map1 h
    obtain ⟨a, xs, rfl, _, h1, h2⟩ := hv
    rw [boolsOf_ok e] at h2
    rw [h2.bools] at h1
    exact wc_of (cr_all hc) ⟨_, _, rfl, SqL.of h1, q _ _ (Same.refl _) (.bl _)⟩
  · cases h; obtain ⟨a, xs, rfl, _, h1, h2⟩ := hv
    exact wc_of call_list_of ⟨_, _, rfl, .inl (SqL.of h1), fun p hp => q _ _ (same_laid hp) (fresh_list hp hO (nb p hp) h2)⟩
  · cases h; obtain ⟨a, xs, rfl, h1, h2⟩ := rp_tup hv
    exact wc_of call_list_of ⟨_, _, rfl, .inr (fz_tup h1), fun p hp => q _ _ (same_laid hp) (fresh_list hp hO (nb p hp) h2)⟩
  · cases h; obtain ⟨a, xs, rfl, _, h1, h2⟩ := hv
    exact wc_of call_tuple_of ⟨_, _, rfl, .inl ⟨SqL.of h1, fun p hp => q _ _ (same_laid hp) (fresh_tup hp hO h2)⟩⟩
  · cases h; obtain ⟨a, xs, rfl, h1, h2, t1⟩ := rp_tup3 hv
    exact wc_of call_tuple_of ⟨_, _, rfl, .inr ⟨fz_tup h1, q _ _ (Same.refl _) (.tup h1 h2 t1)⟩⟩
  · obtain ⟨c, rfl⟩ := ite_some h; cases hv
    exact wc_of call_str_int ⟨_, rfl, of_decide_eq_true c, q _ _ (Same.refl _) (.str _)⟩
  · cases h; cases hv
    exact wc_of call_str_bl ⟨_, rfl, q _ _ (Same.refl _) (.str _)⟩
  · obtain ⟨bs, e, rfl⟩ := map1 h
    obtain ⟨a, xs, rfl, _, h1, h2⟩ := hv
    rw [intsOf_ok e] at h2
    rw [h2.ints] at h1
    exact wc_of (cr_sum hc) ⟨_, _, rfl, SqL.of h1, q _ _ (Same.refl _) (.int _)⟩
  · split at h
    · rename_i c
      obtain ⟨c1, c2, c3, c4⟩ := sortOk_ok c
      cases h
      obtain ⟨a, xs, rfl, _, h1, h2⟩ := hv
      refine wc_of (cr_sortD hu) ⟨_, xs, _, rfl, SqL.of h1, (h2.mono fz_same).dp c1, c2, c3, c4, fun ys p hs hn => ?_⟩
      exact q _ _ (same_laid hn) (fresh_list hn hO (nb p hn) (srt_rp h2 hs))
    obtain ⟨ns, e, h⟩ := bind1 h
    obtain ⟨c, rfl⟩ := ite_some h
    obtain ⟨a, xs, rfl, _, h1, h2⟩ := hv
    rw [intsOf_ok e] at h2
    rw [h2.ints] at h1
    refine wc_of cr_sorted ⟨_, _, rfl, SqL.of h1, of_decide_eq_true c, fun ns' p hp hs hn => ?_⟩
    rw [isort_eq hp hs]
    exact q _ _ (same_laid hn) (fresh_list hn hO (nb p hn) (RpAll.of_ints _))
  · split at h
    · rename_i ks ek
      obtain ⟨c, h⟩ := ite_some h
      cases h
      obtain ⟨c1, c2, c3, c4⟩ := sortOk_ok c
      obtain ⟨kds', rfl, rfl⟩ := keysT_ok ek
      obtain ⟨a, rfl, _, hdc⟩ := hv
      rcases hdc with ⟨kvs, _, h2, _⟩ | ⟨kds'', e6, kvs, h1, h2, h3⟩
      · exfalso
        cases kvs with
        | nil => cases h2
        | cons u kvs =>
          have h2 := (List.cons.inj h2).1
          obtain ⟨k0, _⟩ := u
          cases k0 <;> cases h2
      · cases e6
        have h2 : kds'.map (·.1) = kvs.map fun p => tkD p.1 := h2
        rw [h2] at c2 c3 q
        refine wc_of (cr_sortDT hc hu) ⟨_, kvs, rfl, h1, c2, c3, fun cs ys p hl hcs hs hn => ?_⟩
        exact q _ _ (same_laid hn) (fresh_list hn hO (nb p hn) (srt_rp (rp_keysT hpl hl hcs) hs))
    obtain ⟨ns, e, h⟩ := bind1 h
    obtain ⟨c, rfl⟩ := ite_some h
    obtain ⟨a, rfl, _, hdc⟩ := hv
    obtain ⟨kvs, h1, h2, h3⟩ := Or.resolve_right hdc (fun ⟨_, z, _⟩ => by subst z; cases e)
    rw [keysI_ok e] at h2
    have hk : kvs.map (·.1) = ns.map Sum.inl := kD_ints (by rw [h2, List.map_map]; rfl)
    refine wc_of (call_sortedDI hc) ⟨_, _, ns, rfl, h1, hk, of_decide_eq_true c, fun ns' p hp hs hn => ?_⟩
    rw [isort_eq hp hs]
    exact q _ _ (same_laid hn) (fresh_list hn hO (nb p hn) (RpAll.of_ints _))
  · obtain ⟨kss, e, h⟩ := bind1 h
    obtain ⟨c, rfl⟩ := ite_some h
    obtain ⟨c1, c2, c3, c4⟩ := sortOk_ok c
    obtain ⟨a, xs, rfl, h1, h2⟩ := rp_tup hv
    obtain ⟨g1, cs, rfl, g2, g3⟩ := tksOf_ok e h2
    subst g1
    exact wc_of (cr_sortTT hu) ⟨a, cs, kss, rfl, fz_tup h1, g2, fun j c' ks e1 e2 => fz_tup (g3 j c' ks e1 e2), c2, c3, fun ys p hs hn => q _ _ (same_laid hn) (fresh_list hn hO (nb p hn) (srt_rp h2 hs))⟩
  · rename_i i j
    obtain ⟨c, rfl⟩ := ite_some h
    rw [Bool.and_eq_true] at c
    obtain ⟨a, xs, rfl, h1, h2⟩ := rp_tup hv
    have e : xs = [.int i, .int j] := (RpAll.ints (ns := [i, j]) h2)
    subst e
    exact wc_of (call_str_pair (hgd rfl) hu) ⟨_, _, _, rfl, fz_tup h1, of_decide_eq_true c.1, of_decide_eq_true c.2, q _ _ (Same.refl _) (.str _)⟩
  · cases h
theorem blD2_ok (hc : X.calm = true) {b : Bl} {d e : D} {v u : V} {r : R} (h : blD2 b d e = some r) (hv : TopAt X.K β O H v d) (hu : TopAt X.K β O H u e)
    (q : ∀ v H', Same H H' → ResAt X.K β O H H' v r → Q v H') : Wc X (blV b) [v, u] H Q := by
  unfold blD2 at h
  split at h
  · cases h; cases hv; cases hu
    exact wc_of (call_max2 hc) ⟨_, _, rfl, q _ _ (Same.refl _) (.int _)⟩
  · cases h; cases hv; cases hu
    exact wc_of (call_min2 hc) ⟨_, _, rfl, q _ _ (Same.refl _) (.int _)⟩
  · cases h
end
def bltF1 (b : Bl) (f : VF) (env : Env') (st : BSt) : Option (R × BSt) := (f env st).bind fun p => (blD1 b p.1).map fun r => (r, p.2)
def bltF2 (b : Bl) (f g : VF) (env : Env') (st : BSt) : Option (R × BSt) := (f env st).bind fun p => (g env p.2).bind fun q => (blD2 b p.1 q.1).map fun r => (r, q.2)
theorem bl1_call (C : CxS F S X) {x : Str} {b : Bl} {e : Expr} {p pos : Pos} (h : bl1 S x = some b) (hn : noStar e = true) : PE X (.Call (.Name x p) [e] [] pos) (tCB (Wc X (blV b)) (tCons (We X e) tNil)) := by
  unfold bl1 at h
  cases hb : isBlt S x with
  | false => rw [hb] at h; cases h
  | true =>
    rw [hb] at h
    obtain ⟨g, m, n, d⟩ := isBlt_ok C hb
    have hs := noStar_ok hn [] X.env
    have ha : PA X [e] (tCons (We X e) tNil) := pa_cons (we_pe X e) pa_nil hs
    have hp : (backTo pos (starEach [] X.env)).any (·.1) = false := rfl
    simp only [if_true] at h
    split at h
    · rename_i ex; subst ex; cases h; exact pe_callB (wc_call X _) g m PySem.boot_len ha n d hs hp
    split at h
    · rename_i ex; subst ex; cases h; exact pe_callB (wc_call X _) g m PyProof.Rows.boot_abs ha n d hs hp
    split at h
    · rename_i ex; subst ex; cases h; exact pe_callB (wc_call X _) g m PyProof.Rows.boot_all ha n d hs hp
    split at h
    · rename_i ex; subst ex; cases h; exact pe_callTy (wc_call X _) g m PyProof.Rows.boot_list ha n d hs hp
    split at h
    · rename_i ex; subst ex; cases h; exact pe_callTy (wc_call X _) g m PyProof.Rows.boot_tuple ha n d hs hp
    split at h
    · rename_i ex; subst ex
      split at h
      · cases h; exact pe_callTy (wc_call X _) g m PyProof.Rows.boot_str ha n d hs hp
      · cases h; exact pe_callTy (wc_call X _) g m PyProof.Rows.boot_str ha n d hs hp
    split at h
    · rename_i ex; subst ex; cases h; exact pe_callB (wc_call X _) g m PyProof.Rows.boot_sum ha n d hs hp
    split at h
    · rename_i ex; subst ex; cases h; exact pe_callB (wc_call X _) g m PyProof.Rows.boot_sorted ha n d hs hp
    · cases h
theorem bl2_call (C : CxS F S X) {x : Str} {b : Bl} {e e' : Expr} {p pos : Pos} (h : bl2 S x = some b) (hn : noStar e = true) (hn' : noStar e' = true) : PE X (.Call (.Name x p) [e, e'] [] pos) (tCB (Wc X (blV b)) (tCons (We X e) (tCons (We X e') tNil))) := by
  unfold bl2 at h
  cases hb : isBlt S x with
  | false => rw [hb] at h; cases h
  | true =>
    rw [hb] at h
    obtain ⟨g, m, n, d⟩ := isBlt_ok C hb
    have hs := noStar_ok hn [e'] X.env
    have hs' := noStar_ok hn' [] X.env
    have ha : PA X [e, e'] (tCons (We X e) (tCons (We X e') tNil)) := pa_cons (we_pe X e) (pa_cons (we_pe X e') pa_nil hs') hs
    have hp : (backTo pos (starEach [e'] X.env)).any (·.1) = false := noStars_any (by simp [hn'])
    simp only [if_true] at h
    split at h
    · rename_i ex; subst ex; cases h; exact pe_callB (wc_call X _) g m PyProof.Rows.boot_max ha n d hs hp
    split at h
    · rename_i ex; subst ex; cases h; exact pe_callB (wc_call X _) g m PyProof.Rows.boot_min ha n d hs hp
    · cases h
theorem bl1_gd {S : Sx} {x : Str} (h : bl1 S x = some .strT) : S.gd = true := by
  cases e : S.gd with
  | true => rfl
  | false =>
    unfold bl1 at h
    rw [e] at h
    simp only [Bool.false_eq_true, if_false] at h
    repeat' split at h
    all_goals cases h
theorem s_blt1 (C : CxS F S X) {x : Str} {b : Bl} {e : Expr} {p pos : Pos} {f : VF} (h : bl1 S x = some b) (hn : noStar e = true) (he : SoundV X e f) : SoundE X (.Call (.Name x p) [e] [] pos) (bltF1 b f) := by
  intro β Oo H0 O σ H env st r st' Q rel hf q
  obtain ⟨⟨d, s1⟩, e1, hf⟩ := bind1 hf
  obtain ⟨r', e2, hf⟩ := map1 hf
  cases hf
  refine (bl1_call C h hn).we (he rel e1 fun v H1 sb1 bg1 tv => ?_)
  have rel1 := rel.step sb1 bg1
  exact blD1_ok C.calm (fun z => C.gd (bl1_gd (by rw [← z]; exact h))) C.hu rel1.dom rel1.bO' e2 tv fun v H2 sm rs => q _ _ (sb1.trans (same_sb sm)) (same_bag sm bg1) (rs.back sb1)
theorem s_blt2 (C : CxS F S X) {x : Str} {b : Bl} {e e' : Expr} {p pos : Pos} {f g : VF} (h : bl2 S x = some b) (hn : noStar e = true) (hn' : noStar e' = true) (he : SoundV X e f) (he' : SoundV X e' g) : SoundE X (.Call (.Name x p) [e, e'] [] pos) (bltF2 b f g) := by
  intro β Oo H0 O σ H env st r st' Q rel hf q
  obtain ⟨⟨d, s1⟩, e1, hf⟩ := bind1 hf
  obtain ⟨⟨d', s2⟩, e2, hf⟩ := bind1 hf
  obtain ⟨r', e3, hf⟩ := map1 hf
  cases hf
  refine (bl2_call C h hn hn').we (he rel e1 fun v H1 sb1 bg1 tv => ?_)
  have rel1 := rel.step sb1 bg1
  refine he' rel1 e2 fun u H2 sb2 bg2 tu => ?_
  have rel2 := rel1.step sb2 bg2
  exact blD2_ok C.calm e3 (tv.mono (rel1.fzm sb2) sb2) tu fun v H3 sm rs => q _ _ (sb1.trans (sb2.trans (same_sb sm))) (same_bag sm bg2) (rs.back (sb1.trans sb2))
end
end Iv

set_option maxHeartbeats 4000000
namespace Iv
open PySem PySem.Spec PyProof.Rows L2
variable [Ct] [Nm]
section
variable {F : FT} {S : Sx} {X : Cx}
/-! ### x[i] -/
def ixD : D → D → Option D
  | .list ds, .int i => atI ds i
  | .tuple ds, .int i => atI ds i
  | _, _ => none
theorem atI_rp {K : PySem.W.Frag} {H : Hp} {vs : List V} {ds : List D} {i : Int} {d : D} (h : RpAll K H vs ds) (e : atI ds i = some d) : ∃ v, atI vs i = some v ∧ Rp K H v d := by
  unfold atI at e ⊢
  rw [h.length]
  obtain ⟨j, e1, e2⟩ := bind1 e
  obtain ⟨v, h1, h2⟩ := h.get e2
  exact ⟨v, by rw [e1]; exact h1, h2⟩
def plainIx : Expr → Bool
  | .Slice .. => false
  | _ => true
theorem plainIx_ok {b : Expr} (h : plainIx b = true) : PlainIx b := by
  intro o i
  cases b <;> first | rfl | cases h
def ixF (f g : VF) (env : Env') (st : BSt) : Option (R × BSt) := (f env st).bind fun p => (g env p.2).bind fun q => (ixD p.1 q.1).map fun r => (.fz r, q.2)
theorem s_ix {a b : Expr} {f g : VF} {pos : Pos} (hp : plainIx b = true) (ha : SoundV X a f) (hb : SoundV X b g) : SoundE X (.Subscript a b pos) (ixF f g) := by
  intro β Oo H0 O σ H env st r st' Q rel h q
  obtain ⟨⟨d, s1⟩, e1, h⟩ := bind1 h
  obtain ⟨⟨e, s2⟩, e2, h⟩ := bind1 h
  obtain ⟨r', e3, h⟩ := map1 h
  cases h
  refine (pe_ix ix_seq (we_pe X a) (we_pe X b) (plainIx_ok hp)).we (ha rel e1 fun x H1 sb1 bg1 tx => ?_)
  have rel1 := rel.step sb1 bg1
  refine hb rel1 e2 fun y H2 sb2 bg2 ty => ?_
  have tx := tx.mono (rel1.fzm sb2) sb2
  dsimp only at e3
  unfold ixD at e3
  split at e3
  · obtain ⟨l, xs, rfl, _, h1, h2⟩ := tx
    cases ty
    obtain ⟨v, hv, rv⟩ := atI_rp h2 e3
    exact .inl ⟨_, _, _, _, rfl, rfl, SqL.of h1, hv, q _ _ (sb1.trans sb2) bg2 rv⟩
  · obtain ⟨l, xs, rfl, h1, h2⟩ := rp_tup tx
    cases ty
    obtain ⟨v, hv, rv⟩ := atI_rp h2 e3
    exact .inr (.inl ⟨_, _, _, _, rfl, rfl, fz_tup h1, hv, q _ _ (sb1.trans sb2) bg2 rv⟩)
  · cases e3
/-- an item of the bag, of the script -/
def ixN' (S : Sx) (x : Str) (g : VF) (env : Env') (st : BSt) : Option (R × BSt) := match slotOf S x with
  | some i => (match env[i]? with
    | some (some .bag) => (g env st).bind fun p => (match p.2, p.1 with
      | some b, .int 0 => some (.fz (.int b.1), p.2)
      | some b, .int 1 => some (.fz (.int b.2), p.2)
      | _, _ => none)
    | some (some (.scr ns)) => (g env st).bind fun p => (match p.1 with
      | .int i => (atI ns i).map fun n => (.fz (.int n), p.2)
      | _ => none)
    | _ => none)
  | none => none
theorem atI_map {α γ : Type} (f : α → γ) (l : List α) (i : Int) : atI (l.map f) i = (atI l i).map f := by
  unfold atI
  rw [List.length_map]
  cases ixN l.length i with
  | none => rfl
  | some j => simp
theorem s_ixN (C : CxS F S X) {x : Str} {b : Expr} {g : VF} {p pos : Pos} (hp : plainIx b = true) (hb : SoundV X b g) : SoundE X (.Subscript (.Name x p) b pos) (ixN' S x g) := by
  intro β Oo H0 O σ H env st r st' Q rel h q
  unfold ixN' at h
  cases e : slotOf S x with
  | none => rw [e] at h; cases h
  | some i =>
    rw [e] at h
    obtain ⟨h1, h2, h3, h4⟩ := slotOf_ok C e
    simp only at h
    split at h
    · rename_i e2
      obtain ⟨⟨d, s1⟩, e3, h⟩ := bind1 h
      obtain ⟨v, hv, b0, hβ, rfl⟩ := rel.sl i _ e2
      refine (pe_ix ix_list (pe_var h1 h2 h3 h4) (we_pe X b) (plainIx_ok hp)).we ⟨_, hv, hb rel e3 fun y H1 sb1 bg1 ty => ?_⟩
      obtain ⟨bg, bs, eb0, hbag⟩ := bg1.get hβ
      dsimp only at h
      split at h
      · cases h; cases ty
        cases eb0
        exact ⟨_, _, _, _, rfl, rfl, SqL.of hbag, rfl, q _ _ sb1 bg1 (.int _)⟩
      · cases h; cases ty
        cases eb0
        exact ⟨_, _, _, _, rfl, rfl, SqL.of hbag, rfl, q _ _ sb1 bg1 (.int _)⟩
      · cases h
    · rename_i ns e2
      obtain ⟨⟨d, s1⟩, e3, h⟩ := bind1 h
      obtain ⟨v, hv, a0, rfl, hs⟩ := rel.sl i _ e2
      refine (pe_ix ix_list (pe_var h1 h2 h3 h4) (we_pe X b) (plainIx_ok hp)).we ⟨_, hv, hb rel e3 fun y H1 sb1 bg1 ty => ?_⟩
      simp only at h
      split at h
      · obtain ⟨n, e4, h⟩ := map1 h
        cases h; cases ty
        exact ⟨_, _, _, _, rfl, rfl, (hs.mono sb1 (rel.fzm sb1)).sq, by rw [atI_map, e4]; rfl, q _ _ sb1 bg1 (.int _)⟩
      · cases h
    · cases h
def lenN (S : Sx) (x : Str) (env : Env') (st : BSt) : Option (R × BSt) := match slotOf S x with
  | some i => (match env[i]? with
    | some (some (.scr ns)) => some (.fz (.int ns.length), st)
    | _ => none)
  | none => none
theorem s_lenN (C : CxS F S X) {x y : Str} {p p' pos : Pos} (hb : bl1 S y = some .len) : SoundE X (.Call (.Name y p) [.Name x p'] [] pos) (lenN S x) := by
  intro β Oo H0 O σ H env st r st' Q rel h q
  unfold lenN at h
  cases e : slotOf S x with
  | none => rw [e] at h; cases h
  | some i =>
    rw [e] at h
    obtain ⟨h1, h2, h3, h4⟩ := slotOf_ok C e
    simp only at h
    split at h
    · rename_i ns e2
      cases h
      obtain ⟨v, hv, a0, rfl, hs⟩ := rel.sl i _ e2
      refine (bl1_call C hb rfl).we ((pe_var h1 h2 h3 h4).we ⟨_, hv, ?_⟩)
      exact wc_of call_len_seq ⟨_, _, rfl, .inl hs.sq, q _ _ SB.refl rel.bag (by rw [List.length_map]; exact .int _)⟩
    · cases h
/-! ### slices -/
def intOpt : Option D → Option (Option Int)
  | none => some none
  | some (.int i) => some (some i)
  | _ => none
abbrev OF := Env' → BSt → Option (Option Int × BSt)
def partF : Option VF → Env' → BSt → Option (Option Int × BSt)
  | none, _, st => some (none, st)
  | some f, env, st => (f env st).bind fun p => match p.1 with | .int i => some (some i, p.2) | _ => none
def Wpo (X : Cx) (e : Option Expr) : TO := fun σ H Q => ∃ t, PO X e t ∧ t σ H Q
def SoundO (X : Cx) (e : Option Expr) (f : OF) : Prop := ∃ t, PO X e t ∧ ∀ ⦃β : Option Addr⦄ ⦃Oo : Addr → Prop⦄ ⦃H0 : Hp⦄ ⦃O : Addr → Prop⦄ ⦃σ : L2.St⦄ ⦃H : Hp⦄ ⦃env : Env'⦄ ⦃st : BSt⦄ ⦃o : Option Int⦄ ⦃st' : BSt⦄ ⦃Q : Option Int → Hp → Prop⦄,
  Rel X.K β Oo H0 O σ H env st → f env st = some (o, st') → (∀ H', SB β H H' → BagAt β H' st' → Q o H') → t σ H Q
theorem s_part0 : SoundO X none (partF none) := ⟨_, po_none, fun _ _ _ _ _ _ _ _ _ _ _ rel h q => by cases h; exact q _ SB.refl rel.bag⟩
theorem s_part {e : Expr} {f : VF} (he : SoundV X e f) : SoundO X (some e) (partF (some f)) := by
  refine ⟨_, po_some (we_pe X e), ?_⟩
  intro β Oo H0 O σ H env st o st' Q rel h q
  obtain ⟨⟨d, s1⟩, e1, h⟩ := bind1 h
  simp only at h
  split at h
  · cases h
    refine he rel e1 fun v H1 sb1 bg1 tv => ?_
    cases tv
    exact ⟨_, rfl, q _ sb1 bg1⟩
  · cases h
def cutL {α : Type} (xs : List α) (lo hi : Option Int) : List α := (xs.drop (HT.sIx xs.length 0 lo)).take (HT.sIx xs.length xs.length hi - HT.sIx xs.length 0 lo)
def slD : D → Option Int → Option Int → Option R
  | .list ds, lo, hi => some (.ow (.list (cutL ds lo hi)))
  | .tuple ds, lo, hi => some (.fz (.tuple (cutL ds lo hi)))
  | .str z, lo, hi => if lenOk z.length then some (.fz (.str (cutS z lo hi))) else none
  | _, _, _ => none
theorem cutL_rp {K : PySem.W.Frag} {H : Hp} {vs : List V} {ds : List D} {lo hi : Option Int} (h : RpAll K H vs ds) : RpAll K H (cutV vs lo hi) (cutL ds lo hi) := by
  unfold cutV cutL
  rw [h.length]
  exact (h.drop _).take _
def slF (f : VF) (l u : OF) (env : Env') (st : BSt) : Option (R × BSt) := (f env st).bind fun p => (l env p.2).bind fun a => (u env a.2).bind fun b => (slD p.1 a.1 b.1).map fun r => (r, b.2)
theorem s_slice {a : Expr} {lo hi : Option Expr} {f : VF} {l u : OF} {p2 pos : Pos} (ha : SoundV X a f) (hl : SoundO X lo l) (hu : SoundO X hi u) : SoundE X (.Subscript a (.Slice lo hi none p2) pos) (slF f l u) := by
  intro β Oo H0 O σ H env st r st' Q rel h q
  obtain ⟨⟨d, s1⟩, e1, h⟩ := bind1 h
  obtain ⟨⟨o1, s2⟩, e2, h⟩ := bind1 h
  obtain ⟨⟨o2, s3⟩, e3, h⟩ := bind1 h
  obtain ⟨r', e4, h⟩ := map1 h
  cases h
  obtain ⟨tl, pl, hl⟩ := hl
  obtain ⟨tu, pu, hu⟩ := hu
  refine (pe_slice (sl_list.or (sl_tupA.or sl_str)) (we_pe X a) pl pu).we (ha rel e1 fun x H1 sb1 bg1 tx => ?_)
  have rel1 := rel.step sb1 bg1
  refine hl rel1 e2 fun H2 sb2 bg2 => ?_
  have rel2 := rel1.step sb2 bg2
  refine hu rel2 e3 fun H3 sb3 bg3 => ?_
  have rel3 := rel2.step sb3 bg3
  have tx := (tx.mono (rel1.fzm sb2) sb2).mono (rel2.fzm sb3) sb3
  have sb := sb1.trans (sb2.trans sb3)
  dsimp only at e4
  unfold slD at e4
  split at e4
  · cases e4
    obtain ⟨a, xs, rfl, _, h1, h2⟩ := tx
    exact .inl ⟨_, _, rfl, SqL.of h1, fun p hp => q _ _ (sb.trans (SB.laid hp)) (same_bag (same_laid hp) bg3) ((fresh_list hp rel3.dom' (rel3.neB hp) (cutL_rp h2)).back sb)⟩
  · cases e4
    obtain ⟨a, xs, rfl, h1, h2, t1⟩ := rp_tup3 tx
    refine .inr (.inl ⟨_, _, rfl, fz_tup h1, fun hw => ?_, fun _ p hp => ?_⟩)
    · refine q _ _ sb bg3 ?_
      have hc : cutV xs o1 o2 = xs := by
        unfold cutV
        rw [hw.1, hw.2]
        simp
      have h3 := cutL_rp (lo := o1) (hi := o2) h2
      rw [hc] at h3
      refine .tup h1 h3 (t1.imp id fun z => ?_)
      have ld := h2.length
      have hd : ∀ ds : List D, xs.length = ds.length → cutL ds o1 o2 = ds := fun ds ld => by
        unfold cutL
        rw [← ld, hw.1, hw.2, ld]
        simp
      rw [hd _ ld]
      exact z
    · exact q _ _ (sb.trans (SB.laid hp)) (same_bag (same_laid hp) bg3) ((fresh_tup hp rel3.dom' (cutL_rp h2)).back sb)
  · obtain ⟨c, rfl⟩ := ite_some e4
    cases tx
    exact .inr (.inr ⟨_, rfl, of_decide_eq_true c, q _ _ sb bg3 (.str _)⟩)
  · cases e4
/-! ### t[::-1] -/
def revF (f : VF) (env : Env') (st : BSt) : Option (R × BSt) := (f env st).bind fun p => match p.1 with
  | .tuple ds => some (.fz (.tuple ds.reverse), p.2)
  | _ => none
theorem s_rev {a : Expr} {f : VF} {k : Nat} {p1 p2 p3 pos : Pos} (ha : SoundV X a f) : SoundE X (.Subscript a (.Slice none none (some (.UnaryOp .USub (.Constant (.int 1) k p1) p2)) p3) pos) (revF f) := by
  intro β Oo H0 O σ H env st r st' Q rel h q
  obtain ⟨⟨d, s1⟩, e1, h⟩ := bind1 h
  dsimp only at h
  split at h
  · cases h
    refine (pe_revT (we_pe X a)).we (ha rel e1 fun v H1 sb1 bg1 tv => ?_)
    have rel1 := rel.step sb1 bg1
    obtain ⟨b, xs, rfl, h1, h2⟩ := rp_tup tv
    exact ⟨_, _, rfl, fz_tup h1, fun p hp => q _ _ (sb1.trans (SB.laid hp)) (same_bag (same_laid hp) bg1) ((fresh_tup hp rel1.dom' h2.reverse).back sb1)⟩
  · cases h
/-! ### sorted(set(xs)) -/
def uins (x : Int) : List Int → List Int
  | [] => [x]
  | y :: ys => if x < y then x :: y :: ys else if x = y then y :: ys else y :: uins x ys
def usort : List Int → List Int
  | [] => []
  | x :: xs => uins x (usort xs)
theorem uins_mem (x z : Int) : ∀ l : List Int, z ∈ uins x l ↔ z = x ∨ z ∈ l
  | [] => by simp [uins]
  | y :: ys => by
    unfold uins
    split
    · simp
    · split
      · rename_i _ e; subst e; simp
      · simp [uins_mem x z ys]; constructor <;> (intro h; rcases h with h | h | h <;> simp [h])
theorem usort_mem (z : Int) : ∀ l : List Int, z ∈ usort l ↔ z ∈ l
  | [] => by simp [usort]
  | x :: xs => by unfold usort; rw [uins_mem, usort_mem z xs, List.mem_cons]
theorem uins_lt (x : Int) : ∀ l : List Int, l.Pairwise (· < ·) → (uins x l).Pairwise (· < ·)
  | [], _ => List.pairwise_singleton _ _
  | y :: ys, h => by
    obtain ⟨h1, h2⟩ := List.pairwise_cons.mp h
    unfold uins
    split
    · rename_i c
      exact List.pairwise_cons.mpr ⟨fun z hz => by
        rcases List.mem_cons.mp hz with rfl | hz
        · exact c
        · exact Int.lt_trans c (h1 z hz), h⟩
    · split
      · exact h
      · refine List.pairwise_cons.mpr ⟨fun z hz => ?_, uins_lt x ys h2⟩
        rcases (uins_mem x z ys).mp hz with rfl | hz
        · omega
        · exact h1 z hz
theorem usort_lt : ∀ l : List Int, (usort l).Pairwise (· < ·)
  | [] => .nil
  | x :: xs => uins_lt x _ (usort_lt xs)
theorem lt_unique : ∀ {a b : List Int}, a.Pairwise (· < ·) → b.Pairwise (· < ·) → (∀ z, z ∈ a ↔ z ∈ b) → a = b
  | [], [], _, _, _ => rfl
  | [], y :: b, _, _, h => by have := (h y).mpr List.mem_cons_self; cases this
  | x :: a, [], _, _, h => by have := (h x).mp List.mem_cons_self; cases this
  | x :: a, y :: b, ha, hb, h => by
    obtain ⟨h1, h2⟩ := List.pairwise_cons.mp ha
    obtain ⟨h3, h4⟩ := List.pairwise_cons.mp hb
    have xy : x = y := by
      rcases List.mem_cons.mp ((h x).mp List.mem_cons_self) with e | e
      · exact e
      · rcases List.mem_cons.mp ((h y).mpr List.mem_cons_self) with f | f
        · exact f.symm
        · have := h1 y f; have := h3 x e; omega
    subst xy
    congr 1
    refine lt_unique h2 h4 fun z => ?_
    have hz := h z
    simp only [List.mem_cons] at hz
    constructor
    · intro m
      rcases hz.mp (.inr m) with e | e
      · have := h1 z m; omega
      · exact e
    · intro m
      rcases hz.mpr (.inr m) with e | e
      · have := h3 z m; omega
      · exact e
def ssF (f : VF) (env : Env') (st : BSt) : Option (R × BSt) := (f env st).bind fun p => match p.1 with
  | .list ds => (intsOf ds).bind fun ns => if decide (ns.length < 64) then some (.ow (.list ((usort ns).map .int)), p.2) else none
  | _ => none
def isB2 (S : Sx) (n x : Str) : Bool := isBlt S x && decide (x = n)
theorem s_ss (C : CxS F S X) {e : Expr} {x y : Str} {f : VF} {p p' pos pos' : Pos} (hx : isB2 S "sorted" x = true) (hy : isB2 S "set" y = true) (hn : noStar e = true) (he : SoundV X e f) : SoundE X (.Call (.Name x p) [.Call (.Name y p') [e] [] pos'] [] pos) (ssF f) := by
  intro β Oo H0 O σ H env st r st' Q rel h q
  unfold isB2 at hx hy
  rw [Bool.and_eq_true] at hx hy
  have ex := of_decide_eq_true hx.2
  have ey := of_decide_eq_true hy.2
  subst ex; subst ey
  obtain ⟨g1, m1, n1, d1⟩ := isBlt_ok C hx.1
  obtain ⟨g2, m2, n2, d2⟩ := isBlt_ok C hy.1
  obtain ⟨⟨d, s1⟩, e1, h⟩ := bind1 h
  dsimp only at h
  split at h
  · obtain ⟨ns, e2, h⟩ := bind1 h
    obtain ⟨c, h⟩ := ite_some h
    cases h
    have hs := noStar_ok hn [] X.env
    have inner : PE X (.Call (.Name "set" p') [e] [] pos') _ := pe_callTy (cr_setL C.calm) g2 m2 PyProof.Rows.boot_set (pa_cons (we_pe X e) pa_nil hs) n2 d2 hs rfl
    refine (pe_callB (cr_sortedSet C.calm) g1 m1 PyProof.Rows.boot_sorted (pa_cons inner pa_nil rfl) n1 d1 rfl rfl).we (he rel e1 fun v H1 sb1 bg1 tv => ?_)
    have rel1 := rel.step sb1 bg1
    obtain ⟨a, xs, rfl, _, h1, h2⟩ := tv
    rw [intsOf_ok e2] at h2
    rw [h2.ints] at h1
    refine ⟨a, ns, rfl, SqL.of h1, of_decide_eq_true c, fun p2 cc hp2 hcc => ?_⟩
    have c64 : ns.length < 64 := of_decide_eq_true c
    refine ⟨p2, _, cc, rfl, upd_same, by omega, fun ns' p3 hp hm _ hp3 => ?_⟩
    have eu : ns' = usort ns := lt_unique hp (usort_lt ns) fun z => by rw [hm z, usort_mem]; simp
    rw [eu]
    have s1 : Same H1 (upd H1 p2 (SetO X.w p2 (fun j => decide (j ∈ ns)) cc)) := same_laid hp2
    have rel2 := rel1.step (same_sb s1) (same_bag s1 bg1)
    exact q _ _ (sb1.trans ((same_sb s1).trans (SB.laid hp3))) (same_bag (same_laid hp3) (same_bag s1 bg1)) ((fresh_list hp3 rel2.dom' (rel2.neB hp3) (RpAll.of_ints _)).back (sb1.trans (same_sb s1)))
  · cases h
/-! ### isinstance -/
def tyD : D → String
  | .none => "NoneType" | .bool _ => "bool" | .int _ => "int" | .str _ => "str" | .list _ => "list" | .tuple _ => "tuple" | .dict _ => "dict"
inductive Ty where
  | int | bool | str | list | tuple
def Ty.s : Ty → String
  | .int => "int" | .bool => "bool" | .str => "str" | .list => "list" | .tuple => "tuple"
def tyOf (S : Sx) : Expr → Option Ty
  | .Name x _ => if isBlt S x then if x = "int" then some .int else if x = "bool" then some .bool else if x = "str" then some .str else if x = "list" then some .list else if x = "tuple" then some .tuple else none else none
  | _ => none
def isD : D → Ty → Bool
  | .bool _, .bool => true
  | .bool _, .int => true
  | .int _, .int => true
  | .str _, .str => true
  | .list _, .list => true
  | .tuple _, .tuple => true
  | _, _ => false
theorem isD_kit (d : D) (t : Ty) : kitB (tyD d) t.s = some (isD d t) := by
  cases t <;> cases d <;> (simp only [tyD, Ty.s, isD]; decide +kernel)
theorem tyOf_ok (C : CxS F S X) {e : Expr} {t : Ty} (h : tyOf S e = some t) : PE X e (tC (.ty t.s)) ∧ noStar e = true := by
  cases e with
  | Name x pos =>
    refine ⟨?_, rfl⟩
    dsimp only [tyOf] at h
    cases hb : isBlt S x with
    | false => rw [hb] at h; cases h
    | true =>
      rw [hb] at h
      obtain ⟨g, m, n, d⟩ := isBlt_ok C hb
      simp only [if_true] at h
      split at h
      · rename_i ex; subst ex; cases h; exact pe_bltn g m PyProof.Rows.boot_int rfl n d
      split at h
      · rename_i ex; subst ex; cases h; exact pe_bltn g m PyProof.Rows.boot_bool rfl n d
      split at h
      · rename_i ex; subst ex; cases h; exact pe_bltn g m PyProof.Rows.boot_str rfl n d
      split at h
      · rename_i ex; subst ex; cases h; exact pe_bltn g m PyProof.Rows.boot_list rfl n d
      split at h
      · rename_i ex; subst ex; cases h; exact pe_bltn g m PyProof.Rows.boot_tuple rfl n d
      · cases h
  | _ => cases h
/-- no dict whose keys are tuples -/
def noDT : D → Bool
  | .dict kds => plainK kds
  | _ => true
theorem tyx_of {β : Option Addr} {O : Addr → Prop} {H : Hp} {v : V} {d : D} (h : TopAt X.K β O H v d) (hd : noDT d = true) : TyX X.K H v (.type (tyD d)) := by
  cases d with
  | list ds => obtain ⟨a, xs, rfl, _, h1, h2⟩ := h; exact .base (.lst h1)
  | dict kds =>
    obtain ⟨a, rfl, _, h⟩ := h
    rcases h with ⟨kvs, h1, _⟩ | ⟨_, rfl, kvs, h1, _⟩
    · rcases h1 with h1 | ⟨o, h1⟩
      · exact .base (.dK h1)
      · exact .fDict h1
    · cases hd
  | none => cases h; exact .base .non
  | bool _ => cases h; exact .base (.bl _)
  | int _ => cases h; exact .base (.int _)
  | str _ => cases h; exact .base (.str _)
  | tuple ds =>
    obtain ⟨a, xs, rfl, h1, h2⟩ := rp_tup h
    rcases fz_tup h1 with (z | ⟨o, z⟩) | ⟨o, its, n, z, c, _⟩
    · exact .base (.tup z)
    · exact .fTuple z
    · exact .kTuple z c
def isiF (t : Ty) (f : VF) (env : Env') (st : BSt) : Option (R × BSt) := (f env st).bind fun p => if noDT p.1 then some (.fz (.bool (isD p.1 t)), p.2) else none
def isInst (S : Sx) (x : Str) : Bool := isBlt S x && decide (x = "isinstance")
theorem s_isi (C : CxS F S X) {x : Str} {e c : Expr} {t : Ty} {p pos : Pos} {f : VF} (hx : isInst S x = true) (ht : tyOf S c = some t) (hn : noStar e = true) (he : SoundV X e f) : SoundE X (.Call (.Name x p) [e, c] [] pos) (isiF t f) := by
  intro β Oo H0 O σ H env st r st' Q rel h q
  obtain ⟨⟨d, s1⟩, e1, h⟩ := bind1 h
  obtain ⟨hdt, h⟩ := ite_some h
  cases h
  unfold isInst at hx
  rw [Bool.and_eq_true] at hx
  have ex := of_decide_eq_true hx.2
  subst ex
  obtain ⟨g, m, n, db⟩ := isBlt_ok C hx.1
  obtain ⟨pc, nc⟩ := tyOf_ok C ht
  have hs := noStar_ok hn [c] X.env
  have hs' := noStar_ok nc [] X.env
  refine (pe_callB call_isi g m PyProof.Rows.boot_isinstance (pa_cons (we_pe X e) (pa_cons pc pa_nil hs') hs) n db hs (noStars_any (by simp [nc]))).we (he rel e1 fun v H1 sb1 bg1 tv => ?_)
  exact ⟨_, _, _, _, _, rfl, .ty _, tyx_of tv hdt, kit_ty (isD_kit d t), q _ _ sb1 bg1 (.bl _)⟩
def isiF2 (t u : Ty) (f : VF) (env : Env') (st : BSt) : Option (R × BSt) := (f env st).bind fun p => if noDT p.1 then some (.fz (.bool (isD p.1 t || isD p.1 u)), p.2) else none
theorem s_isi2 (C : CxS F S X) {x : Str} {e c c' : Expr} {t u : Ty} {k : Nat} {p p2 pos : Pos} {f : VF} (hx : isInst S x = true) (ht : tyOf S c = some t) (ht' : tyOf S c' = some u) (hn : noStar e = true) (he : SoundV X e f) :
    SoundE X (.Call (.Name x p) [e, .Tuple [c, c'] k p2] [] pos) (isiF2 t u f) := by
  intro β Oo H0 O σ H env st r st' Q rel h q
  obtain ⟨⟨d, s1⟩, e1, h⟩ := bind1 h
  obtain ⟨hdt, h⟩ := ite_some h
  cases h
  unfold isInst at hx
  rw [Bool.and_eq_true] at hx
  have ex := of_decide_eq_true hx.2
  subst ex
  obtain ⟨g, m, n, db⟩ := isBlt_ok C hx.1
  obtain ⟨pc, nc⟩ := tyOf_ok C ht
  obtain ⟨pc', nc'⟩ := tyOf_ok C ht'
  have hs := noStar_ok hn [.Tuple [c, c'] k p2] X.env
  have ha : PA X [c, c'] _ := pa_cons pc (pa_cons pc' pa_nil (noStar_ok nc' [] X.env)) (noStar_ok nc [c'] X.env)
  refine (pe_callB call_isiT g m PyProof.Rows.boot_isinstance (pa_cons (we_pe X e) (pa_cons (pe_tup ha) pa_nil rfl) hs) n db hs rfl).we (he rel e1 fun v H1 sb1 bg1 tv => ?_)
  refine ⟨by show 2 ≤ sizeLine; decide, fun tp htp => ?_⟩
  refine ⟨_, tp, _, _, _, isD d t || isD d u, rfl, upd_same, .cons (.ty _) (.cons (.ty _) .nil), tyx_of (tv.mono (same_fz (same_laid htp)) (SB.laid htp)) hdt, ?_, ?_⟩
  · refine kitAny_cons (kit_ty (isD_kit d t)) (fun hf => kitAny_cons (kit_ty (isD_kit d u)) (fun hf' => ?_) (fun hf' => by rw [hf']; simp)) (fun hf => by rw [hf]; rfl)
    rw [hf, hf']; exact kitAny_nil
  · exact q _ _ (sb1.trans (SB.laid htp)) (same_bag (same_laid htp) bg1) (.bl _)
/-! ### x.upper() -/
def noCall0 : Expr → Bool
  | .Call _ [] _ _ => false
  | _ => true
theorem noCall0_ok {o : Expr} (h : noCall0 o = true) (a : Str) (env : Env) (w : Sem Value) : attributeBase o a env w = w := by
  cases o with
  | Call f as ks p =>
    cases as with
    | nil => cases h
    | cons b bs => cases f <;> rfl
  | _ => rfl
def upF (f : VF) (env : Env') (st : BSt) : Option (R × BSt) := (f env st).bind fun p => match p.1 with
  | .str x => if decide (x.length ≤ 5592405) then some (.fz (.str (Txt.upper x)), p.2) else none
  | _ => none
theorem s_up {o : Expr} {f : VF} {apos pos : Pos} (hc : noCall0 o = true) (hl : (apos.endLine == pos.line) = true) (ho : SoundV X o f) : SoundE X (.Call (.Attribute o "upper" apos) [] [] pos) (upF f) := by
  intro β Oo H0 O σ H env st r st' Q rel h q
  obtain ⟨⟨d, s1⟩, e1, h⟩ := bind1 h
  simp only at h
  split at h
  · obtain ⟨c, h⟩ := ite_some h
    cases h
    refine (pe_upper (we_pe X o) (noCall0_ok hc _ _ _) hl).we (ho rel e1 fun v H1 sb1 bg1 tv => ?_)
    cases tv
    exact ⟨⟨_, rfl⟩, _, rfl, rfl, of_decide_eq_true c, q _ _ sb1 bg1 (.str _)⟩
  · cases h
end
end Iv

set_option maxHeartbeats 4000000
/-! zip of two sequences, each a list or a tuple -/
namespace Iv
open PySem PySem.Spec PyProof.Rows L2
inductive SK | l | t
def SK.sq (k : SK) (K : PySem.W.Frag) (H : Hp) (a : Addr) (xs : List V) : Prop := match k with
  | .l => SqL K H a xs
  | .t => SqT K H a xs
def SK.itr (k : SK) (h : Heap) (it a : Addr) (i : Nat) : Prop := match k with
  | .l => h.IsListIter it a i
  | .t => h.IsTupleIter it a i
def SK.isq (k : SK) (h : Heap) (a : Addr) (xs : Array Value) : Prop := match k with
  | .l => h.IsList a xs
  | .t => h.IsTuple a xs
def SK.ob (k : SK) (a : Addr) : Obj := match k with
  | .l => { cls := .type "list_iterator", data := .fields #[.ref a, .int 0 0] }
  | .t => { cls := .type "tuple_iterator", data := .fields #[.ref a, .int 0 0] }
theorem SK.draws {prog : Program} {w : World} {A : Around} (k : SK) (hh : A.handled = none) (it a : Addr) (hne : a ≠ it) (items : Array Value) :
    Draws prog w A it [it, a] items.size (fun i v => items[i]? = some v) (fun i h => k.itr h it a i ∧ k.isq h a items) := by
  cases k
  · exact Draws.list hh it a hne items
  · exact Draws.tuple hh it a hne items
theorem SK.begins (k : SK) (a : Addr) (items : Array Value) : Begins (.ref a) (k.ob a) fun h => k.isq h a items := by
  cases k
  · exact begins_list a items
  · exact begins_tuple a items
theorem SK.start (k : SK) {h : Heap} {it a : Addr} (e : h.get? it = some (k.ob a)) : k.itr h it a 0 := by
  cases k
  · exact ⟨_, e, rfl, rfl⟩
  · exact ⟨_, e, rfl, rfl⟩
theorem SK.obj {k : SK} {h : Heap} {it a : Addr} {i : Nat} (x : k.itr h it a i) : ∃ o, h.get? it = some o ∧ ∀ v, o.data ≠ .cell v := by
  cases k
  · obtain ⟨o, e, _, d⟩ := x; exact ⟨o, e, fun v q => by rw [d] at q; cases q⟩
  · obtain ⟨o, e, _, d⟩ := x; exact ⟨o, e, fun v q => by rw [d] at q; cases q⟩
theorem SK.keep {k : SK} {h h' : Heap} {it a : Addr} {i : Nat} (x : k.itr h it a i) (e : ∀ o, h.get? it = some o → h'.get? it = some o) : k.itr h' it a i := by
  cases k
  · exact Heap.IsListIter.at x e
  · exact Heap.IsTupleIter.at x e
section
variable {X : Cx} {pins : List (Addr × Obj)} {σ : L2.St} {H : Hp} {s : Shared}
theorem SK.get {k : SK} (I : Inv X pins σ H s) {a : Addr} {xs : List V} (h : k.sq X.K H a xs) : ∃ its, Vals xs its ∧ k.isq s.heap a its.toArray ∧ a < s.heap.objs.size := by
  cases k
  · obtain ⟨its, rv, p, _⟩ := I.list h; exact ⟨its, rv, p.isList, p.lt⟩
  · obtain ⟨its, rv, p, _⟩ := I.tuple h
    obtain ⟨o1, ho1, _⟩ := id p
    exact ⟨its, rv, p, Heap.lt_size ho1⟩
theorem SK.inj {k : SK} (I : Inv X pins σ H s) {a : Addr} {xs ys : List V} (h : k.sq X.K H a xs) (h' : k.sq X.K H a ys) : xs = ys := by
  cases k
  · exact I.list_inj h h'
  · exact I.tuple_inj h h'
end
theorem sep_of {z TI TO i1 i2 l1 l2 : Addr} (D : ZipApart z TI TO i1 i2 l1 l2) : ZipSep2 z TI TO i1 i2 [i1, l1] [i2, l2] where
  TIz := D.TIz
  TOz := D.TOz
  TITO := D.TITO
  TIi1 := D.TIi1
  mem1 := by simp
  zf1 := by simp [D.i1z.symm, D.l1z.symm]
  Tf1 := by simp [D.TOi1, D.l1TO.symm]
  TIi2 := D.TIi2
  mem2 := by simp
  zf2 := by simp [D.i2z.symm, D.l2z.symm]
  Tf2 := by simp [D.TOi2, D.l2TO.symm]
  sep1_2 := by simp [D.i12, D.l2i1.symm]
  sep2_1 := by simp [D.i12.symm, D.l1i2.symm]
/-- the sequences as they stand, their items in new pairs -/
def ItzG (K : PySem.W.Frag) (k1 k2 : SK) (a b : Addr) : It :=
  ⟨fun i H => ∃ (xs ys : List V) (x y : V), k1.sq K H a xs ∧ k2.sq K H b ys ∧ xs[i]? = some x ∧ ys[i]? = some y,
    fun i H v H' => ∃ T x y, v = .ref T ∧ H T = none ∧ H' = upd H T (.tup [x, y]) ∧ (∀ xs, k1.sq K H a xs → xs[i]? = some x) ∧ ∀ ys, k2.sq K H b ys → ys[i]? = some y,
    fun i H => ∃ xs ys : List V, k1.sq K H a xs ∧ k2.sq K H b ys ∧ (i = xs.length ∨ i = ys.length) ∧ i ≤ xs.length ∧ i ≤ ys.length⟩
abbrev tnG (k1 k2 : SK) (z TI TO i1 i2 a b : Addr) (i : Nat) (h : Heap) : Prop := IsZip h z TI TO .none ∧ IsPair h TI (.ref i1) (.ref i2) ∧ (∃ x y, IsPair h TO x y) ∧ k1.itr h i1 a i ∧ k2.itr h i2 b i
theorem turn_zipG {P : Program} {w : World} {K : PySem.W.Frag} {k1 k2 : SK} {elts : List Expr} {kk : Nat} {tpos : Pos} {a b z TI TO i1 i2 : Addr} (D : ZipApart z TI TO i1 i2 a b) :
    Turn P w K (.Tuple elts kk tpos) (ItzG K k1 k2 a b) [z, TI, TO, i1, i2] z (tnG k1 k2 z TI TO i1 i2 a b) where
  mem := by simp
  obj := fun i h st c hc => by
    obtain ⟨hz, hTI, ⟨x, y, hTO⟩, h1, h2⟩ := st
    simp only [List.mem_cons, List.not_mem_nil, or_false] at hc
    rcases hc with rfl | rfl | rfl | rfl | rfl
    · exact ⟨_, hz, fun v q => nomatch q⟩
    · exact ⟨_, hTI, fun v q => nomatch q⟩
    · exact ⟨_, hTO, fun v q => nomatch q⟩
    · exact SK.obj h1
    · exact SK.obj h2
  keep := fun i h h' st k => ⟨k z (by simp) _ st.1, k TI (by simp) _ st.2.1, (let ⟨x, y, e⟩ := st.2.2.1; ⟨x, y, k TO (by simp) _ e⟩), SK.keep st.2.2.2.1 fun o q => k i1 (by simp) o q, SK.keep st.2.2.2.2 fun o q => k i2 (by simp) o q⟩
  item := by
    intro X hP hw hK hc i pins s σ H E I hf st hg
    subst hP hw hK
    obtain ⟨hz, hTI, ⟨x0, y0, hTO⟩, h1, h2⟩ := st
    obtain ⟨xs, ys, x, y, hqx, hqy, hx, hy⟩ := hg
    obtain ⟨its, rv, p, _⟩ := SK.get I hqx
    obtain ⟨its2, rv2, p2, _⟩ := SK.get I hqy
    obtain ⟨u, hu, ru⟩ := rv.get hx
    obtain ⟨u2, hu2, ru2⟩ := rv2.get hy
    have hh : X.A.in1.handled = none := I.ok.hd hc
    have hzl : z < s.heap.objs.size := Heap.lt_size hz
    have hi1 : i < its.toArray.size := by simpa using (List.getElem?_eq_some_iff.mp hu).1
    have hi2 : i < its2.toArray.size := by simpa using (List.getElem?_eq_some_iff.mp hu2).1
    refine wpAny_pyNext_zipD2_item (sep_of D) (k1.draws hh i1 a D.l1i1 its.toArray) (k2.draws hh i2 b D.l2i2 its2.toArray) hz hTI hTO ⟨h1, p⟩ ⟨h2, p2⟩ hi1 hi2 fun v1 v2 h' tk e1 e2 z' TO' s1 s2 hT hsz hk => ?_
    have e1 : v1 = u := by rw [show its.toArray[i]? = some u by simpa using hu] at e1; cases e1; rfl
    have e2 : v2 = u2 := by rw [show its2.toArray[i]? = some u2 by simpa using hu2] at e2; cases e2; rfl
    subst e1 e2
    refine ⟨_, rfl, wpAny_letOwnedTupleGo_zip (s := { s with heap := h', toks := tk }) z' fun h'' z'' sb => ?_⟩
    have hT2 : h''.get? s.heap.objs.size = some { cls := .type "tuple", data := .seq #[v1, v2] } := (sb.2 _ (Nat.ne_of_gt hzl)).trans hT
    have new : ObjOk X.prog X.w (upd H s.heap.objs.size (.tup [x, y])) h'' s.heap.objs.size (.tup [x, y]) :=
      ⟨by show 2 ≤ sizeLine; decide, [v1, v2], .cons ru (.cons ru2 .nil), ⟨_, hT2, rfl, _, rfl⟩⟩
    have I1 : Inv X pins σ (upd H s.heap.objs.size (.tup [x, y])) { s with heap := h'', toks := tk } :=
      I.turnedNew (t' := tk) (ch := [z, TI, TO, i1, i2]) (fun c o hb q => by
        simp only [List.mem_cons, List.not_mem_nil, or_false, not_or] at hb
        exact (sb.2 c hb.1).trans (hk c o hb.1 hb.2.2.1 hb.2.2.2.1 hb.2.2.2.2 q)) hf (Nat.le_refl _) new
    refine ⟨.ref s.heap.objs.size, _, I1, rfl, ⟨_, x, y, rfl, I.hok.fresh (Nat.le_refl _), rfl, fun l hl => by rw [SK.inj I hl hqx]; exact hx, fun l hl => by rw [SK.inj I hl hqy]; exact hy⟩, ⟨z'', ?_, ⟨v1, v2, ?_⟩, ?_, ?_⟩, fun c hcm => ?_⟩
    · exact (sb.2 _ D.TIz).trans (hk _ _ D.TIz D.TITO D.TIi1 D.TIi2 hTI)
    · exact (sb.2 _ D.TOz).trans TO'
    · exact SK.keep s1.1 fun o q => (sb.2 _ D.i1z).trans q
    · exact SK.keep s2.1 fun o q => (sb.2 _ D.i2z).trans q
    · have hlt : c < s.heap.objs.size := by
        simp only [List.mem_cons, List.not_mem_nil, or_false] at hcm
        rcases hcm with rfl | rfl | rfl | rfl | rfl
        · exact hzl
        · exact Heap.lt_size hTI
        · exact Heap.lt_size hTO
        · obtain ⟨o, e, _⟩ := SK.obj h1; exact Heap.lt_size e
        · obtain ⟨o, e, _⟩ := SK.obj h2; exact Heap.lt_size e
      rw [upd_ne (Nat.ne_of_lt hlt)]
      exact (hf c hcm).1
  done := by
    intro X hP hw hK hc i pins s σ H E I hf st hg
    subst hP hw hK
    obtain ⟨hz, hTI, ⟨x0, y0, hTO⟩, h1, h2⟩ := st
    obtain ⟨xs, ys, hqx, hqy, hend, hle1, hle2⟩ := hg
    obtain ⟨its, rv, p, _⟩ := SK.get I hqx
    obtain ⟨its2, rv2, p2, _⟩ := SK.get I hqy
    have l1 := rv.length
    have l2 := rv2.length
    have hh : X.A.in1.handled = none := I.ok.hd hc
    refine wpAny_pyNext_zipD2_end (sep_of D) (k1.draws hh i1 a D.l1i1 its.toArray) (k2.draws hh i2 b D.l2i2 its2.toArray) hz hTI hTO ⟨h1, p⟩ ⟨h2, p2⟩ (by simp; omega) (by simp; omega) (by simp; omega) fun h' tk hk => ⟨rfl, I.turnedL (t' := tk) (ch := [z, TI, TO, i1, i2]) (fun c o hb q => ?_) hf⟩
    simp only [List.mem_cons, List.not_mem_nil, or_false, not_or] at hb
    exact hk c o hb.1 hb.2.2.1 hb.2.2.2.1 hb.2.2.2.2 q
  self := fun A i s Q E st h => wpAny_pyIter_zip st.1 h
end Iv

set_option maxHeartbeats 400000
namespace Iv
open PySem PySem.Spec PyProof.Rows L2
def iZipG (K : PySem.W.Frag) (ta : TA) : TI := fun σ H R => ta σ H fun vs H1 => ∃ k1 k2 a b xs ys, vs = [.ref a, .ref b] ∧ SK.sq k1 K H1 a xs ∧ SK.sq k2 K H1 b ys ∧ R (ItzG K k1 k2 a b) H1
theorem pi_zipG {X : Cx} {e e2 : Expr} {ta : TA} {p pos tpos : Pos} {elts : List Expr} {kk : Nat} (hg : Gl X "zip") (hm : X.mg "zip" = none) (ha : PA X [e, e2] ta)
    (hs : starEach [e, e2] X.env = (false, eval e X.env) :: starEach [e2] X.env) (hpl : (backTo pos (starEach [e2] X.env)).any (·.1) = false) :
    PI X (.Tuple elts kk tpos) (.Call (.Name "zip" p) [e, e2] [] pos) (iZipG X.K ta) := by
  refine ⟨fun pins s σ H R I h => ?_⟩
  refine Call_ (ld_blt I hg hm PyProof.Rows.boot_zip (PyProof.Rows.callWith_type1 (thn (ha.run pos pins s σ H _ I h) fun us s1 ⟨vs, H1, I1, r1, q1⟩ => ?_) hs hpl))
  obtain ⟨k1, k2, a, b, xs, ys, rfl, hqx, hqy, q⟩ := q1
  obtain ⟨its, rv, p1, lt1⟩ := SK.get I1 hqx
  obtain ⟨its2, rv2, p2, lt2⟩ := SK.get I1 hqy
  cases r1 with
  | cons r rr =>
  cases rr with
  | cons r' rr =>
    cases rr
    cases r
    cases r'
    have fresh5 : ∀ c, c ∈ [s1.heap.objs.size + 4, s1.heap.objs.size + 2, s1.heap.objs.size + 3, s1.heap.objs.size, s1.heap.objs.size + 1] → FpOk X pins H1 c := fun c hcm => by
      have hle : s1.heap.objs.size ≤ c := by
        generalize s1.heap.objs.size = n at hcm
        simp only [List.mem_cons, List.not_mem_nil, or_false] at hcm
        omega
      exact I1.fpOk hle (I1.hok.fresh hle)
    refine zip_begins2 (k1.begins a its.toArray) (k2.begins b its2.toArray) p1 p2 fun h' hz hTI hTO h1 h2 hsz hk => wpAny_pyIter_zip hz ?_
    have I2 : Inv X pins σ H1 { s1 with heap := h' } := I1.kept (t' := s1.toks) hk
    exact ⟨s1.heap.objs.size + 4, [s1.heap.objs.size + 4, s1.heap.objs.size + 2, s1.heap.objs.size + 3, s1.heap.objs.size, s1.heap.objs.size + 1], _, _, H1, rfl, I2, turn_zipG (k1 := k1) (k2 := k2) (PySem.W.ktu_apart s1.heap.objs.size a b lt1 lt2), ⟨hz, hTI, ⟨_, _, hTO⟩, k1.start h1, k2.start h2⟩, fresh5, q⟩
end Iv

set_option maxHeartbeats 4000000
/-! zip of three sequences, each a list or a tuple -/
namespace Iv
open PySem PySem.Spec PyProof.Rows L2
structure Apart3 (z TI TO i1 i2 i3 l1 l2 l3 : Addr) : Prop where
  TIz : TI ≠ z
  TOz : TO ≠ z
  TITO : TI ≠ TO
  TIi1 : TI ≠ i1
  TIi2 : TI ≠ i2
  TIi3 : TI ≠ i3
  TOi1 : TO ≠ i1
  TOi2 : TO ≠ i2
  TOi3 : TO ≠ i3
  i1z : i1 ≠ z
  i2z : i2 ≠ z
  i3z : i3 ≠ z
  i12 : i1 ≠ i2
  i13 : i1 ≠ i3
  i23 : i2 ≠ i3
  l1 : l1 ≠ z ∧ l1 ≠ TO ∧ l1 ≠ i1 ∧ l1 ≠ i2 ∧ l1 ≠ i3
  l2 : l2 ≠ z ∧ l2 ≠ TO ∧ l2 ≠ i1 ∧ l2 ≠ i2 ∧ l2 ≠ i3
  l3 : l3 ≠ z ∧ l3 ≠ TO ∧ l3 ≠ i1 ∧ l3 ≠ i2 ∧ l3 ≠ i3
theorem sep3_of {z TI TO i1 i2 i3 l1 l2 l3 : Addr} (D : Apart3 z TI TO i1 i2 i3 l1 l2 l3) : ZipSep3 z TI TO i1 i2 i3 [i1, l1] [i2, l2] [i3, l3] where
  TIz := D.TIz
  TOz := D.TOz
  TITO := D.TITO
  TIi1 := D.TIi1
  mem1 := by simp
  zf1 := by simp [D.i1z.symm, D.l1.1.symm]
  Tf1 := by simp [D.TOi1, D.l1.2.1.symm]
  TIi2 := D.TIi2
  mem2 := by simp
  zf2 := by simp [D.i2z.symm, D.l2.1.symm]
  Tf2 := by simp [D.TOi2, D.l2.2.1.symm]
  TIi3 := D.TIi3
  mem3 := by simp
  zf3 := by simp [D.i3z.symm, D.l3.1.symm]
  Tf3 := by simp [D.TOi3, D.l3.2.1.symm]
  sep1_2 := by simp [D.i12, D.l2.2.2.1.symm]
  sep1_3 := by simp [D.i13, D.l3.2.2.1.symm]
  sep2_1 := by simp [D.i12.symm, D.l1.2.2.2.1.symm]
  sep2_3 := by simp [D.i23, D.l3.2.2.2.1.symm]
  sep3_1 := by simp [D.i13.symm, D.l1.2.2.2.2.symm]
  sep3_2 := by simp [D.i23.symm, D.l2.2.2.2.2.symm]
def ItzG3 (K : PySem.W.Frag) (k1 k2 k3 : SK) (a b c : Addr) : It :=
  ⟨fun i H => ∃ (xs ys zs : List V) (x y z : V), k1.sq K H a xs ∧ k2.sq K H b ys ∧ k3.sq K H c zs ∧ xs[i]? = some x ∧ ys[i]? = some y ∧ zs[i]? = some z,
    fun i H v H' => ∃ T x y z, v = .ref T ∧ H T = none ∧ H' = upd H T (.tup [x, y, z]) ∧ (∀ xs, k1.sq K H a xs → xs[i]? = some x) ∧ (∀ ys, k2.sq K H b ys → ys[i]? = some y) ∧ ∀ zs, k3.sq K H c zs → zs[i]? = some z,
    fun i H => ∃ xs ys zs : List V, k1.sq K H a xs ∧ k2.sq K H b ys ∧ k3.sq K H c zs ∧ (i = xs.length ∨ i = ys.length ∨ i = zs.length) ∧ i ≤ xs.length ∧ i ≤ ys.length ∧ i ≤ zs.length⟩
abbrev tnG3 (k1 k2 k3 : SK) (z TI TO i1 i2 i3 a b c : Addr) (i : Nat) (h : Heap) : Prop := IsZip h z TI TO .none ∧ IsTupOf3 h TI (.ref i1) (.ref i2) (.ref i3) ∧ (∃ x y w, IsTupOf3 h TO x y w) ∧ k1.itr h i1 a i ∧ k2.itr h i2 b i ∧ k3.itr h i3 c i
theorem turn_zipG3 {P : Program} {w : World} {K : PySem.W.Frag} {k1 k2 k3 : SK} {elts : List Expr} {kk : Nat} {tpos : Pos} {a b c z TI TO i1 i2 i3 : Addr} (D : Apart3 z TI TO i1 i2 i3 a b c) :
    Turn P w K (.Tuple elts kk tpos) (ItzG3 K k1 k2 k3 a b c) [z, TI, TO, i1, i2, i3] z (tnG3 k1 k2 k3 z TI TO i1 i2 i3 a b c) where
  mem := by simp
  obj := fun i h st q hq => by
    obtain ⟨hz, hTI, ⟨x, y, v, hTO⟩, h1, h2, h3⟩ := st
    simp only [List.mem_cons, List.not_mem_nil, or_false] at hq
    rcases hq with rfl | rfl | rfl | rfl | rfl | rfl
    · exact ⟨_, hz, fun v q => nomatch q⟩
    · exact ⟨_, hTI, fun v q => nomatch q⟩
    · exact ⟨_, hTO, fun v q => nomatch q⟩
    · exact SK.obj h1
    · exact SK.obj h2
    · exact SK.obj h3
  keep := fun i h h' st k => ⟨k z (by simp) _ st.1, k TI (by simp) _ st.2.1, (let ⟨x, y, v, e⟩ := st.2.2.1; ⟨x, y, v, k TO (by simp) _ e⟩), SK.keep st.2.2.2.1 fun o q => k i1 (by simp) o q, SK.keep st.2.2.2.2.1 fun o q => k i2 (by simp) o q, SK.keep st.2.2.2.2.2 fun o q => k i3 (by simp) o q⟩
  item := by
    intro X hP hw hK hc i pins s σ H E I hf st hg
    subst hP hw hK
    obtain ⟨hz, hTI, ⟨x0, y0, w0, hTO⟩, h1, h2, h3⟩ := st
    obtain ⟨xs, ys, zs, x, y, v, hqx, hqy, hqz, hx, hy, hv⟩ := hg
    obtain ⟨its, rv, p, _⟩ := SK.get I hqx
    obtain ⟨its2, rv2, p2, _⟩ := SK.get I hqy
    obtain ⟨its3, rv3, p3, _⟩ := SK.get I hqz
    obtain ⟨u, hu, ru⟩ := rv.get hx
    obtain ⟨u2, hu2, ru2⟩ := rv2.get hy
    obtain ⟨u3, hu3, ru3⟩ := rv3.get hv
    have hh : X.A.in1.handled = none := I.ok.hd hc
    have hzl : z < s.heap.objs.size := Heap.lt_size hz
    have hi1 : i < its.toArray.size := by simpa using (List.getElem?_eq_some_iff.mp hu).1
    have hi2 : i < its2.toArray.size := by simpa using (List.getElem?_eq_some_iff.mp hu2).1
    have hi3 : i < its3.toArray.size := by simpa using (List.getElem?_eq_some_iff.mp hu3).1
    refine wpAny_pyNext_zipD3_item (sep3_of D) (k1.draws hh i1 a D.l1.2.2.1 its.toArray) (k2.draws hh i2 b D.l2.2.2.2.1 its2.toArray) (k3.draws hh i3 c D.l3.2.2.2.2 its3.toArray) hz hTI hTO ⟨h1, p⟩ ⟨h2, p2⟩ ⟨h3, p3⟩ hi1 hi2 hi3 fun v1 v2 v3 h' tk e1 e2 e3 z' TO' s1 s2 s3 hT hsz hk => ?_
    have e1 : v1 = u := by rw [show its.toArray[i]? = some u by simpa using hu] at e1; cases e1; rfl
    have e2 : v2 = u2 := by rw [show its2.toArray[i]? = some u2 by simpa using hu2] at e2; cases e2; rfl
    have e3 : v3 = u3 := by rw [show its3.toArray[i]? = some u3 by simpa using hu3] at e3; cases e3; rfl
    subst e1 e2 e3
    refine ⟨_, rfl, wpAny_letOwnedTupleGo_zip (s := { s with heap := h', toks := tk }) z' fun h'' z'' sb => ?_⟩
    have hT2 : h''.get? s.heap.objs.size = some { cls := .type "tuple", data := .seq #[v1, v2, v3] } := (sb.2 _ (Nat.ne_of_gt hzl)).trans hT
    have new : ObjOk X.prog X.w (upd H s.heap.objs.size (.tup [x, y, v])) h'' s.heap.objs.size (.tup [x, y, v]) :=
      ⟨by show 3 ≤ sizeLine; decide, [v1, v2, v3], .cons ru (.cons ru2 (.cons ru3 .nil)), ⟨_, hT2, rfl, _, rfl⟩⟩
    have I1 : Inv X pins σ (upd H s.heap.objs.size (.tup [x, y, v])) { s with heap := h'', toks := tk } :=
      I.turnedNew (t' := tk) (ch := [z, TI, TO, i1, i2, i3]) (fun c o hb q => by
        simp only [List.mem_cons, List.not_mem_nil, or_false, not_or] at hb
        exact (sb.2 c hb.1).trans (hk c o hb.1 hb.2.2.1 hb.2.2.2.1 hb.2.2.2.2.1 hb.2.2.2.2.2 q)) hf (Nat.le_refl _) new
    refine ⟨.ref s.heap.objs.size, _, I1, rfl, ⟨_, x, y, v, rfl, I.hok.fresh (Nat.le_refl _), rfl, fun l hl => by rw [SK.inj I hl hqx]; exact hx, fun l hl => by rw [SK.inj I hl hqy]; exact hy, fun l hl => by rw [SK.inj I hl hqz]; exact hv⟩, ⟨z'', ?_, ⟨v1, v2, v3, ?_⟩, ?_, ?_, ?_⟩, fun q hqm => ?_⟩
    · exact (sb.2 _ D.TIz).trans (hk _ _ D.TIz D.TITO D.TIi1 D.TIi2 D.TIi3 hTI)
    · exact (sb.2 _ D.TOz).trans TO'
    · exact SK.keep s1.1 fun o q => (sb.2 _ D.i1z).trans q
    · exact SK.keep s2.1 fun o q => (sb.2 _ D.i2z).trans q
    · exact SK.keep s3.1 fun o q => (sb.2 _ D.i3z).trans q
    · have hlt : q < s.heap.objs.size := by
        simp only [List.mem_cons, List.not_mem_nil, or_false] at hqm
        rcases hqm with rfl | rfl | rfl | rfl | rfl | rfl
        · exact hzl
        · exact Heap.lt_size hTI
        · exact Heap.lt_size hTO
        · obtain ⟨o, e, _⟩ := SK.obj h1; exact Heap.lt_size e
        · obtain ⟨o, e, _⟩ := SK.obj h2; exact Heap.lt_size e
        · obtain ⟨o, e, _⟩ := SK.obj h3; exact Heap.lt_size e
      rw [upd_ne (Nat.ne_of_lt hlt)]
      exact (hf q hqm).1
  done := by
    intro X hP hw hK hc i pins s σ H E I hf st hg
    subst hP hw hK
    obtain ⟨hz, hTI, ⟨x0, y0, w0, hTO⟩, h1, h2, h3⟩ := st
    obtain ⟨xs, ys, zs, hqx, hqy, hqz, hend, hle1, hle2, hle3⟩ := hg
    obtain ⟨its, rv, p, _⟩ := SK.get I hqx
    obtain ⟨its2, rv2, p2, _⟩ := SK.get I hqy
    obtain ⟨its3, rv3, p3, _⟩ := SK.get I hqz
    have l1 := rv.length
    have l2 := rv2.length
    have l3 := rv3.length
    have hh : X.A.in1.handled = none := I.ok.hd hc
    refine wpAny_pyNext_zipD3_end (sep3_of D) (k1.draws hh i1 a D.l1.2.2.1 its.toArray) (k2.draws hh i2 b D.l2.2.2.2.1 its2.toArray) (k3.draws hh i3 c D.l3.2.2.2.2 its3.toArray) hz hTI hTO ⟨h1, p⟩ ⟨h2, p2⟩ ⟨h3, p3⟩ (by simp; omega) (by simp; omega) (by simp; omega) (by simp; omega) fun h' tk hk => ⟨rfl, I.turnedL (t' := tk) (ch := [z, TI, TO, i1, i2, i3]) (fun c o hb q => ?_) hf⟩
    simp only [List.mem_cons, List.not_mem_nil, or_false, not_or] at hb
    exact hk c o hb.1 hb.2.2.1 hb.2.2.2.1 hb.2.2.2.2.1 hb.2.2.2.2.2 q
  self := fun A i s Q E st h => wpAny_pyIter_zip st.1 h
theorem apart3_of (n a b c : Nat) (h1 : a < n) (h2 : b < n) (h3 : c < n) : Apart3 (n + 5) (n + 3) (n + 4) n (n + 1) (n + 2) a b c := by
  constructor <;> first | (intro h; have h' : (_ : Nat) = _ := h; omega) | (refine ⟨?_, ?_, ?_, ?_, ?_⟩ <;> (intro h; have h' : (_ : Nat) = _ := h; omega))
def iZipG3 (K : PySem.W.Frag) (ta : TA) : TI := fun σ H R => ta σ H fun vs H1 => ∃ k1 k2 k3 a b c xs ys zs, vs = [.ref a, .ref b, .ref c] ∧ SK.sq k1 K H1 a xs ∧ SK.sq k2 K H1 b ys ∧ SK.sq k3 K H1 c zs ∧ R (ItzG3 K k1 k2 k3 a b c) H1
theorem pi_zipG3 {X : Cx} {e e2 e3 : Expr} {ta : TA} {p pos tpos : Pos} {elts : List Expr} {kk : Nat} (hg : Gl X "zip") (hm : X.mg "zip" = none) (ha : PA X [e, e2, e3] ta)
    (hs : starEach [e, e2, e3] X.env = (false, eval e X.env) :: starEach [e2, e3] X.env) (hpl : (backTo pos (starEach [e2, e3] X.env)).any (·.1) = false) :
    PI X (.Tuple elts kk tpos) (.Call (.Name "zip" p) [e, e2, e3] [] pos) (iZipG3 X.K ta) := by
  refine ⟨fun pins s σ H R I h => ?_⟩
  refine Call_ (ld_blt I hg hm PyProof.Rows.boot_zip (PyProof.Rows.callWith_type1 (thn (ha.run pos pins s σ H _ I h) fun us s1 ⟨vs, H1, I1, r1, q1⟩ => ?_) hs hpl))
  obtain ⟨k1, k2, k3, a, b, c, xs, ys, zs, rfl, hqx, hqy, hqz, q⟩ := q1
  obtain ⟨its, rv, p1, lt1⟩ := SK.get I1 hqx
  obtain ⟨its2, rv2, p2, lt2⟩ := SK.get I1 hqy
  obtain ⟨its3, rv3, p3, lt3⟩ := SK.get I1 hqz
  cases r1 with
  | cons r rr =>
  cases rr with
  | cons r' rr =>
  cases rr with
  | cons r'' rr =>
    cases rr
    cases r
    cases r'
    cases r''
    have fresh6 : ∀ q, q ∈ [s1.heap.objs.size + 5, s1.heap.objs.size + 3, s1.heap.objs.size + 4, s1.heap.objs.size, s1.heap.objs.size + 1, s1.heap.objs.size + 2] → FpOk X pins H1 q := fun q hqm => by
      have hle : s1.heap.objs.size ≤ q := by
        generalize s1.heap.objs.size = n at hqm
        simp only [List.mem_cons, List.not_mem_nil, or_false] at hqm
        omega
      exact I1.fpOk hle (I1.hok.fresh hle)
    refine zip_begins3 (k1.begins a its.toArray) (k2.begins b its2.toArray) (k3.begins c its3.toArray) p1 p2 p3 fun h' hz hTI hTO h1 h2 h3 hsz hk => wpAny_pyIter_zip hz ?_
    have I2 : Inv X pins σ H1 { s1 with heap := h' } := I1.kept (t' := s1.toks) hk
    exact ⟨s1.heap.objs.size + 5, [s1.heap.objs.size + 5, s1.heap.objs.size + 3, s1.heap.objs.size + 4, s1.heap.objs.size, s1.heap.objs.size + 1, s1.heap.objs.size + 2], _, _, H1, rfl, I2, turn_zipG3 (k1 := k1) (k2 := k2) (k3 := k3) (apart3_of s1.heap.objs.size a b c lt1 lt2 lt3), ⟨hz, hTI, ⟨_, _, _, hTO⟩, k1.start h1, k2.start h2, k3.start h3⟩, fresh6, q⟩
end Iv

set_option maxHeartbeats 4000000
namespace Iv
open PySem PySem.Spec PyProof.Rows L2
variable [Ct] [Nm]
/-! ### what is walked -/
def Wi (X : Cx) (tg e : Expr) : TI := fun σ H R => ∀ pins s, Inv X pins σ H s → wpAny (model X.prog X.w) X.A (eval e X.env) (fun v s1 => wpAny (model X.prog X.w) X.A (pyIter v) (PIE X pins σ tg R) X.xe s1) X.xe s
theorem wi_pi (X : Cx) (tg e : Expr) : PI X tg e (Wi X tg e) := ⟨fun pins s _ _ _ I h => h pins s I⟩
theorem _root_.L2.PI.wi {X : Cx} {tg e : Expr} {t : TI} {σ : L2.St} {H : Hp} {R : It → Hp → Prop} (h : PI X tg e t) (q : t σ H R) : Wi X tg e σ H R := fun pins s I => h.run pins s σ H R I q
structure ItOk (K : PySem.W.Frag) (J : It) (Fr : Hp → Prop) (ds : List D) : Prop where
  mono : ∀ {h h' : Hp}, Same h h' → Fr h → Fr h'
  goes : ∀ {O : Addr → Prop} {H : Hp} {i : Nat}, i < ds.length → Fr (Fz O H) → J.go i H
  stops : ∀ {O : Addr → Prop} {H : Hp}, Fr (Fz O H) → J.stop ds.length H
  yld : ∀ {O : Addr → Prop} {H H' : Hp} {i : Nat} {x : V}, i < ds.length → (∀ a, O a → ∃ o, H a = some o ∧ plainO o = true) → Fr (Fz O H) → J.yld i H x H' → Same H H' ∧ ∃ d, ds[i]? = some d ∧ Rp K (Fz O H') x d
abbrev IF := Env' → BSt → Option (List D × BSt)
def SoundI (X : Cx) (tg e : Expr) (f : IF) : Prop := ∀ ⦃β : Option Addr⦄ ⦃Oo : Addr → Prop⦄ ⦃H0 : Hp⦄ ⦃O : Addr → Prop⦄ ⦃σ : L2.St⦄ ⦃H : Hp⦄ ⦃env : Env'⦄ ⦃st : BSt⦄ ⦃ds : List D⦄ ⦃st' : BSt⦄ ⦃R : It → Hp → Prop⦄,
  Rel X.K β Oo H0 O σ H env st → f env st = some (ds, st') → (∀ J Fr H', SB β H H' → BagAt β H' st' → ItOk X.K J Fr ds → Fr (Fz O H') → R J H') → Wi X tg e σ H R
section
variable {F : FT} {S : Sx} {X : Cx}
theorem rpall_get {K : PySem.W.Frag} {h : Hp} {xs : List V} {ds : List D} (a : RpAll K h xs ds) {i : Nat} {x : V} (e : xs[i]? = some x) : ∃ d, ds[i]? = some d ∧ Rp K h x d := by
  have hi : i < ds.length := by rw [← a.length]; exact (List.getElem?_eq_some_iff.mp e).1
  obtain ⟨v, h1, h2⟩ := a.get (List.getElem?_eq_getElem hi)
  rw [e] at h1; cases h1
  exact ⟨_, List.getElem?_eq_getElem hi, h2⟩
theorem it_list {K : PySem.W.Frag} {a : Addr} {xs : List V} {ds : List D} : ItOk K (Itl K a) (fun h => h a = some (.lst xs) ∧ RpAll K h xs ds) ds where
  mono := fun e z => ⟨e _ _ z.1, z.2.mono e⟩
  goes := fun {O H i} hi z => walk_list.goes i H (by rw [z.2.length]; exact hi) (SqL.of (fz_some z.1).2)
  stops := fun {O H} z => by rw [← z.2.length]; exact walk_list.stops H (SqL.of (fz_some z.1).2)
  yld := fun {O H H' i x} hi _ z y => by
    obtain ⟨rfl, e⟩ := walk_list.yields i H x H' (by rw [z.2.length]; exact hi) (SqL.of (fz_some z.1).2) y
    exact ⟨Same.refl _, rpall_get z.2 e⟩
theorem it_tup {K : PySem.W.Frag} {a : Addr} {xs : List V} {ds : List D} : ItOk K (Itt K a) (fun h => SqT K h a xs ∧ RpAll K h xs ds) ds where
  mono := fun e z => ⟨sameT e z.1, z.2.mono e⟩
  goes := fun {O H i} hi z => walk_tup.goes i H (by rw [z.2.length]; exact hi) (sameT fz_same z.1)
  stops := fun {O H} z => by rw [← z.2.length]; exact walk_tup.stops H (sameT fz_same z.1)
  yld := fun {O H H' i x} hi _ z y => by
    obtain ⟨rfl, e⟩ := walk_tup.yields i H x H' (by rw [z.2.length]; exact hi) (sameT fz_same z.1) y
    exact ⟨Same.refl _, rpall_get z.2 e⟩
def signsD (z : Str) : List D := z.cps.toList.map fun c => .str ⟨#[c]⟩
theorem it_str {K : PySem.W.Frag} {z : Str} : ItOk K (Its z) (fun _ => True) (signsD z) where
  mono := fun _ z => z
  goes := fun {O H i} hi _ => walk_str.goes i H (by simpa [signsD] using hi) True.intro
  stops := fun {O H} _ => by have := (walk_str (z := z)).stops H True.intro; simpa [signsD] using this
  yld := fun {O H H' i x} hi _ _ y => by
    obtain ⟨rfl, c, e, rfl⟩ := walk_str.yields i H x H' (by simpa [signsD] using hi) True.intro y
    exact ⟨Same.refl _, _, by unfold signsD; rw [List.getElem?_map, Array.getElem?_toList, e]; rfl, .str _⟩
def rangeD (n : Nat) : List D := (List.range n).map fun i => .int (i : Nat)
theorem it_range {K : PySem.W.Frag} {n : Nat} : ItOk K (Itr 0 n) (fun _ => True) (rangeD n) where
  mono := fun _ z => z
  goes := fun {O H i} hi _ => walk_range.goes i H (by simpa [rangeD] using hi) True.intro
  stops := fun {O H} _ => by have := (walk_range (lo := 0) (n := n)).stops H True.intro; simpa [rangeD] using this
  yld := fun {O H H' i x} hi _ _ y => by
    have hi' : i < n := by simpa [rangeD] using hi
    obtain ⟨rfl, rfl⟩ := walk_range.yields i H x H' hi' True.intro y
    exact ⟨Same.refl _, .int (i : Nat), by unfold rangeD; rw [List.getElem?_map, List.getElem?_range hi']; rfl, by show Rp K (Fz O H') (.int (0 + (i : Int))) _; rw [Int.zero_add]; exact .int _⟩
theorem ypair {K : PySem.W.Frag} {O : Addr → Prop} {H H' : Hp} {v : V} {d e : D} {T : Addr} {x y : V} (hO : ∀ a, O a → H a ≠ none) (hT : H T = none) (hv : v = .ref T) (h' : H' = upd H T (.tup [x, y])) (hx : Rp K (Fz O H) x d) (hy : Rp K (Fz O H) y e) :
    Same H H' ∧ Rp K (Fz O H') v (.tuple [d, e]) := by
  subst hv h'
  refine ⟨same_laid hT, .tup (SqT.of (fz_put (fun z => hO T z hT) upd_same rfl)) ?_ (.inl (fz_put (fun z => hO T z hT) upd_same rfl))⟩
  have m : Same (Fz O H) (Fz O (upd H T (.tup [x, y]))) := same_fz (same_laid hT)
  exact .cons (hx.mono m) (.cons (hy.mono m) .nil)
def zipD (as bs : List D) : List D := (as.zip bs).map fun p => .tuple [p.1, p.2]
theorem it_zip {K : PySem.W.Frag} {a b : Addr} {xs ys : List V} {ds es : List D} : ItOk K (Itz K a b) (fun h => (h a = some (.lst xs) ∧ RpAll K h xs ds) ∧ (h b = some (.lst ys) ∧ RpAll K h ys es)) (zipD ds es) where
  mono := fun e z => ⟨⟨e _ _ z.1.1, z.1.2.mono e⟩, ⟨e _ _ z.2.1, z.2.2.mono e⟩⟩
  goes := fun {O H i} hi z => (walk_zip (xs := xs) (ys := ys) rfl).goes i H (by rw [z.1.2.length, z.2.2.length]; simpa [zipD] using hi) ⟨SqL.of (fz_some z.1.1).2, SqL.of (fz_some z.2.1).2⟩
  stops := fun {O H} z => by
    have := (walk_zip (K := K) (a := a) (b := b) (xs := xs) (ys := ys) rfl).stops H ⟨SqL.of (fz_some z.1.1).2, SqL.of (fz_some z.2.1).2⟩
    rw [z.1.2.length, z.2.2.length] at this
    simpa [zipD] using this
  yld := fun {O H H' i v} hi hO' z y => by
    have hO : ∀ a, O a → H a ≠ none := fun a ha n => by
      obtain ⟨o, e, _⟩ := hO' a ha
      rw [n] at e; cases e
    obtain ⟨T, x, y', h1, h2, h3, h4, h5⟩ := (walk_zip (K := K) (a := a) (b := b) (xs := xs) (ys := ys) rfl).yields i H v H' (by rw [z.1.2.length, z.2.2.length]; simpa [zipD] using hi) ⟨SqL.of (fz_some z.1.1).2, SqL.of (fz_some z.2.1).2⟩ y
    obtain ⟨d, e1, r1⟩ := rpall_get z.1.2 h4
    obtain ⟨e, e2, r2⟩ := rpall_get z.2.2 h5
    obtain ⟨s, r⟩ := ypair hO h2 h1 h3 r1 r2
    refine ⟨s, _, ?_, r⟩
    unfold zipD
    rw [List.getElem?_map, (List.getElem?_zip_eq_some (z := (d, e))).mpr ⟨e1, e2⟩]; rfl
def enumD : Nat → List D → List D
  | _, [] => []
  | n, d :: ds => .tuple [.int (n : Nat), d] :: enumD (n + 1) ds
theorem enumD_len : ∀ (n : Nat) (ds : List D), (enumD n ds).length = ds.length
  | _, [] => rfl
  | n, _ :: ds => by simp [enumD, enumD_len (n + 1) ds]
theorem enumD_get : ∀ (ds : List D) (n i : Nat) {d : D}, ds[i]? = some d → (enumD n ds)[i]? = some (.tuple [.int ((n + i : Nat) : Int), d])
  | d :: ds, n, 0, _, h => by simp at h; subst h; rfl
  | _ :: ds, n, i + 1, _, h => by
    have := enumD_get ds (n + 1) i (by simpa using h)
    simp only [enumD, List.getElem?_cons_succ]
    rw [this, show n + 1 + i = n + (i + 1) by omega]
theorem it_enum {K : PySem.W.Frag} {a : Addr} {xs : List V} {ds : List D} : ItOk K (Ite K a) (fun h => h a = some (.lst xs) ∧ RpAll K h xs ds) (enumD 0 ds) where
  mono := fun e z => ⟨e _ _ z.1, z.2.mono e⟩
  goes := fun {O H i} hi z => walk_enum.goes i H (by rw [z.2.length]; simpa [enumD_len] using hi) (SqL.of (fz_some z.1).2)
  stops := fun {O H} z => by rw [enumD_len, ← z.2.length]; exact walk_enum.stops H (SqL.of (fz_some z.1).2)
  yld := fun {O H H' i v} hi hO' z y => by
    have hO : ∀ a, O a → H a ≠ none := fun a ha n => by
      obtain ⟨o, e, _⟩ := hO' a ha
      rw [n] at e; cases e
    obtain ⟨T, x, y', h1, h2, h3, h4, h5⟩ := walk_enum.yields i H v H' (by rw [z.2.length]; simpa [enumD_len] using hi) (SqL.of (fz_some z.1).2) y
    have h4 := Option.some.inj h4
    subst h4
    obtain ⟨e, e2, r2⟩ := rpall_get z.2 h5
    obtain ⟨s, r⟩ := ypair hO h2 h1 h3 (.int _) r2
    exact ⟨s, _, by rw [enumD_get ds 0 i e2, Nat.zero_add], r⟩
theorem it_enumT {K : PySem.W.Frag} {a : Addr} {xs : List V} {ds : List D} : ItOk K (IteT K a) (fun h => SqT K h a xs ∧ RpAll K h xs ds) (enumD 0 ds) where
  mono := fun e z => ⟨sameT e z.1, z.2.mono e⟩
  goes := fun {O H i} hi z => by
    have hl : i < xs.length := by rw [z.2.length]; simpa [enumD_len] using hi
    exact ⟨xs, xs[i], sameT fz_same z.1, List.getElem?_eq_getElem hl⟩
  stops := fun {O H} z => ⟨xs, sameT fz_same z.1, by rw [enumD_len, z.2.length]⟩
  yld := fun {O H H' i v} hi hO' z y => by
    have hO : ∀ a, O a → H a ≠ none := fun a ha n => by
      obtain ⟨o, e, _⟩ := hO' a ha
      rw [n] at e; cases e
    obtain ⟨T, x, h1, h2, h3, h4⟩ := y
    obtain ⟨e, e2, r2⟩ := rpall_get z.2 (h4 xs (sameT fz_same z.1))
    obtain ⟨s, r⟩ := ypair hO h2 h1 h3 (.int _) r2
    exact ⟨s, _, by rw [enumD_get ds 0 i e2, Nat.zero_add], r⟩
def itemsD : D → Option (List D)
  | .list ds => some ds
  | .tuple ds => some ds
  | .str z => some (signsD z)
  | _ => none
def plainF (f : EF) (env : Env') (st : BSt) : Option (List D × BSt) := (f env st).bind fun p => p.1.d?.bind fun d => (itemsD d).map fun ds => (ds, p.2)
theorem s_iter {tg e : Expr} {f : EF} (he : SoundE X e f) : SoundI X tg e (plainF f) := by
  intro β Oo H0 O σ H env st ds st' R rel h q
  obtain ⟨⟨r, s1⟩, e1, h⟩ := bind1 h
  obtain ⟨d, e2, h⟩ := bind1 h
  obtain ⟨ds', e3, h⟩ := map1 h
  cases h
  unfold itemsD at e3
  split at e3
  · cases e3
    refine (pi_list (we_pe X e)).wi (he rel e1 fun v H1 sb1 bg1 rv => ?_)
    have rp := rv.rp rel e2
    cases rp with
    | lst h1 h2 => exact ⟨_, rfl, ⟨_, SqL.of (fz_some h1).2⟩, q _ _ _ sb1 bg1 it_list ⟨h1, h2⟩⟩
  · cases e3
    refine (pi_tup (we_pe X e)).wi (he rel e1 fun v H1 sb1 bg1 rv => ?_)
    have rp := rv.rp rel e2
    cases rp with
    | tup h1 h2 => exact ⟨_, rfl, ⟨_, sameT fz_same h1⟩, q _ _ _ sb1 bg1 it_tup ⟨h1, h2⟩⟩
  · cases e3
    refine (pi_str (we_pe X e)).wi (he rel e1 fun v H1 sb1 bg1 rv => ?_)
    have rp := rv.rp rel e2
    cases rp with
    | str z => exact ⟨_, rfl, q _ _ _ sb1 bg1 it_str True.intro⟩
  · cases e3
def rangeF (f : VF) (env : Env') (st : BSt) : Option (List D × BSt) := (f env st).bind fun p => match p.1 with
  | .int n => if decide (-(2 ^ 62) ≤ n) && decide (n < 2 ^ 62) then some (rangeD n.toNat, p.2) else none
  | _ => none
def isB (S : Sx) (n x : Str) : Bool := isBlt S x && decide (x = n)
theorem isB_ok (C : CxS F S X) {n x : Str} (h : isB S n x = true) : x = n ∧ Gl X n ∧ X.mg n = none := by
  unfold isB at h
  rw [Bool.and_eq_true] at h
  have e := of_decide_eq_true h.2
  subst e
  have g := isBlt_ok C h.1
  exact ⟨rfl, g.1, g.2.1⟩
theorem s_range (C : CxS F S X) {tg e : Expr} {x : Str} {f : VF} {p pos : Pos} (hx : isB S "range" x = true) (hn : noStar e = true) (he : SoundV X e f) : SoundI X tg (.Call (.Name x p) [e] [] pos) (rangeF f) := by
  intro β Oo H0 O σ H env st ds st' R rel h q
  obtain ⟨rfl, g, m⟩ := isB_ok C hx
  obtain ⟨⟨d, s1⟩, e1, h⟩ := bind1 h
  dsimp only at h
  split at h
  · obtain ⟨c, h⟩ := ite_some h
    cases h
    rw [Bool.and_eq_true] at c
    refine (pi_range1 g m (pa_cons (we_pe X e) pa_nil (noStar_ok hn [] X.env)) (noStar_ok hn [] X.env)).wi (he rel e1 fun v H1 sb1 bg1 tv => ?_)
    cases tv
    exact ⟨_, rfl, of_decide_eq_true c.1, of_decide_eq_true c.2, q _ _ _ sb1 bg1 it_range True.intro⟩
  · cases h
def rangeD2 (lo : Int) (n : Nat) : List D := (List.range n).map fun i => .int (lo + (i : Nat))
theorem it_range2 {K : PySem.W.Frag} {lo : Int} {n : Nat} : ItOk K (Itr lo n) (fun _ => True) (rangeD2 lo n) where
  mono := fun _ z => z
  goes := fun {O H i} hi _ => walk_range.goes i H (by simpa [rangeD2] using hi) True.intro
  stops := fun {O H} _ => by have := (walk_range (lo := lo) (n := n)).stops H True.intro; simpa [rangeD2] using this
  yld := fun {O H H' i x} hi _ _ y => by
    have hi' : i < n := by simpa [rangeD2] using hi
    obtain ⟨rfl, rfl⟩ := walk_range.yields i H x H' hi' True.intro y
    exact ⟨Same.refl _, .int (lo + (i : Nat)), by unfold rangeD2; rw [List.getElem?_map, List.getElem?_range hi']; rfl, .int _⟩
def rangeF2 (f g : VF) (env : Env') (st : BSt) : Option (List D × BSt) := (f env st).bind fun p => (g env p.2).bind fun q => (match p.1, q.1 with
  | .int i, .int j => if decide (-(2 ^ 62) ≤ i) && decide (i < 2 ^ 62) && decide (-(2 ^ 62) ≤ j) && decide (j < 2 ^ 62) then some (rangeD2 i (j - i).toNat, q.2) else none
  | _, _ => none)
theorem s_range2 (C : CxS F S X) {tg a b : Expr} {x : Str} {f g : VF} {p pos : Pos} (hx : isB S "range" x = true) (hna : noStar a = true) (hnb : noStar b = true) (ha : SoundV X a f) (hb : SoundV X b g) : SoundI X tg (.Call (.Name x p) [a, b] [] pos) (rangeF2 f g) := by
  intro β Oo H0 O σ H env st ds st' R rel h q
  obtain ⟨rfl, gl, m⟩ := isB_ok C hx
  obtain ⟨⟨d, s1⟩, e1, h⟩ := bind1 h
  obtain ⟨⟨e, s2⟩, e2, h⟩ := bind1 h
  dsimp only at h
  split at h
  · obtain ⟨c, h⟩ := ite_some h
    cases h
    simp only [Bool.and_eq_true, decide_eq_true_eq] at c
    refine (pi_range2 gl m (pa_cons (we_pe X a) (pa_cons (we_pe X b) pa_nil (noStar_ok hnb [] X.env)) (noStar_ok hna [b] X.env)) (by rw [noStar_ok hna [b] X.env, noStar_ok hnb [] X.env]; rfl) (by rw [noStar_ok hnb [] X.env]; rfl)).wi (ha rel e1 fun v H1 sb1 bg1 tv => ?_)
    cases tv
    refine hb (rel.step sb1 bg1) e2 fun v2 H2 sb2 bg2 tv2 => ?_
    cases tv2
    exact ⟨_, _, rfl, ⟨c.1.1.1, c.1.1.2, c.1.2, c.2⟩, q _ _ _ (sb1.trans sb2) bg2 it_range2 True.intro⟩
  · cases h
theorem SK.mono {k : SK} {K : PySem.W.Frag} {H H' : Hp} {a : Addr} {xs : List V} (e : Same H H') (h : k.sq K H a xs) : k.sq K H' a xs := by
  cases k
  · exact Same.seq e h
  · exact sameT e h
theorem it_zipG {K : PySem.W.Frag} {k1 k2 : SK} {a b : Addr} {xs ys : List V} {ds es : List D} : ItOk K (ItzG K k1 k2 a b) (fun h => (k1.sq K h a xs ∧ RpAll K h xs ds) ∧ (k2.sq K h b ys ∧ RpAll K h ys es)) (zipD ds es) where
  mono := fun e z => ⟨⟨SK.mono e z.1.1, z.1.2.mono e⟩, ⟨SK.mono e z.2.1, z.2.2.mono e⟩⟩
  goes := fun {O H i} hi z => by
    have hi' : i < ds.length ∧ i < es.length := by simp [zipD] at hi; omega
    have l1 := z.1.2.length
    have l2 := z.2.2.length
    exact ⟨xs, ys, _, _, SK.mono fz_same z.1.1, SK.mono fz_same z.2.1, List.getElem?_eq_getElem (by omega), List.getElem?_eq_getElem (by omega)⟩
  stops := fun {O H} z => by
    have l1 := z.1.2.length
    have l2 := z.2.2.length
    refine ⟨xs, ys, SK.mono fz_same z.1.1, SK.mono fz_same z.2.1, ?_, ?_, ?_⟩ <;> (simp [zipD]; omega)
  yld := fun {O H H' i v} hi hO' z y => by
    have hO : ∀ a, O a → H a ≠ none := fun a ha n => by
      obtain ⟨o, e, _⟩ := hO' a ha
      rw [n] at e; cases e
    obtain ⟨T, x, y', h1, h2, h3, h4, h5⟩ := y
    obtain ⟨d, e1, r1⟩ := rpall_get z.1.2 (h4 xs (SK.mono fz_same z.1.1))
    obtain ⟨e, e2, r2⟩ := rpall_get z.2.2 (h5 ys (SK.mono fz_same z.2.1))
    obtain ⟨s, r⟩ := ypair hO h2 h1 h3 r1 r2
    refine ⟨s, _, ?_, r⟩
    unfold zipD
    rw [List.getElem?_map, (List.getElem?_zip_eq_some (z := (d, e))).mpr ⟨e1, e2⟩]; rfl
def seqD : D → Option (List D)
  | .list ds => some ds
  | .tuple ds => some ds
  | _ => none
theorem rp_seq {K : PySem.W.Frag} {h : Hp} {v : V} {d : D} {ds : List D} (r : Rp K h v d) (e : seqD d = some ds) : ∃ (k : SK) (a : Addr) (xs : List V), v = .ref a ∧ k.sq K h a xs ∧ RpAll K h xs ds := by
  cases r with
  | lst h1 h2 => cases e; exact ⟨.l, _, _, rfl, SqL.of h1, h2⟩
  | tup h1 h2 => cases e; exact ⟨.t, _, _, rfl, h1, h2⟩
  | _ => cases e
def zipF (f g : EF) (env : Env') (st : BSt) : Option (List D × BSt) := (f env st).bind fun p => (g env p.2).bind fun q => (p.1.d?).bind fun d => (q.1.d?).bind fun e => (seqD d).bind fun as => (seqD e).map fun bs => (zipD as bs, q.2)
theorem s_zip (C : CxS F S X) {es : List Expr} {k : Nat} {tp : Pos} {a b : Expr} {x : Str} {f g : EF} {p pos : Pos} (hx : isB S "zip" x = true) (hn : noStar a = true) (hn' : noStar b = true) (ha : SoundE X a f) (hb : SoundE X b g) :
    SoundI X (.Tuple es k tp) (.Call (.Name x p) [a, b] [] pos) (zipF f g) := by
  intro β Oo H0 O σ H env st ds st' R rel h q
  obtain ⟨rfl, gg, m⟩ := isB_ok C hx
  obtain ⟨⟨d, s1⟩, e1, h⟩ := bind1 h
  obtain ⟨⟨e, s2⟩, e2, h⟩ := bind1 h
  obtain ⟨d', e3, h⟩ := bind1 h
  obtain ⟨e', e4, h⟩ := bind1 h
  obtain ⟨as, e5, h⟩ := bind1 h
  obtain ⟨bs, e6, h⟩ := map1 h
  cases h
  refine (pi_zipG gg m (pa_cons (we_pe X a) (pa_cons (we_pe X b) pa_nil (noStar_ok hn' [] X.env)) (noStar_ok hn [b] X.env)) (noStar_ok hn [b] X.env) (noStars_any (by simp [hn']))).wi (ha rel e1 fun v H1 sb1 bg1 rv => ?_)
  have rel1 := rel.step sb1 bg1
  refine hb rel1 e2 fun u H2 sb2 bg2 ru => ?_
  obtain ⟨k1, a1, xs, rfl, q1, w1⟩ := rp_seq ((rv.rp rel e3).mono (rel1.fzm sb2)) e5
  obtain ⟨k2, a2, ys, rfl, q2, w2⟩ := rp_seq (ru.rp rel1 e4) e6
  exact ⟨k1, k2, _, _, _, _, rfl, SK.mono fz_same q1, SK.mono fz_same q2, q _ _ _ (sb1.trans sb2) bg2 it_zipG ⟨⟨q1, w1⟩, ⟨q2, w2⟩⟩⟩
def zip3D : List D → List D → List D → List D
  | a :: as, b :: bs, c :: cs => .tuple [a, b, c] :: zip3D as bs cs
  | _, _, _ => []
theorem zip3_len : ∀ as bs cs : List D, (zip3D as bs cs).length = min as.length (min bs.length cs.length)
  | [], _, _ => by simp [zip3D]
  | _ :: _, [], _ => by simp [zip3D]
  | _ :: _, _ :: _, [] => by simp [zip3D]
  | a :: as, b :: bs, c :: cs => by simp only [zip3D, List.length_cons, zip3_len as bs cs]; omega
theorem zip3_get : ∀ {as bs cs : List D} {i : Nat} {a b c : D}, as[i]? = some a → bs[i]? = some b → cs[i]? = some c → (zip3D as bs cs)[i]? = some (.tuple [a, b, c])
  | a :: as, b :: bs, c :: cs, 0, _, _, _, h1, h2, h3 => by cases h1; cases h2; cases h3; rfl
  | _ :: as, _ :: bs, _ :: cs, i + 1, _, _, _, h1, h2, h3 => by
    have := zip3_get (as := as) (bs := bs) (cs := cs) (i := i) (by simpa using h1) (by simpa using h2) (by simpa using h3)
    simpa [zip3D] using this
  | [], _, _, _, _, _, _, h1, _, _ => by simp at h1
  | _ :: _, [], _, _, _, _, _, _, h2, _ => by simp at h2
  | _ :: _, _ :: _, [], _, _, _, _, _, _, h3 => by simp at h3
theorem it_zipG3 {K : PySem.W.Frag} {k1 k2 k3 : SK} {a b c : Addr} {xs ys zs : List V} {ds es fs : List D} : ItOk K (ItzG3 K k1 k2 k3 a b c) (fun h => (k1.sq K h a xs ∧ RpAll K h xs ds) ∧ (k2.sq K h b ys ∧ RpAll K h ys es) ∧ (k3.sq K h c zs ∧ RpAll K h zs fs)) (zip3D ds es fs) where
  mono := fun e z => ⟨⟨SK.mono e z.1.1, z.1.2.mono e⟩, ⟨SK.mono e z.2.1.1, z.2.1.2.mono e⟩, ⟨SK.mono e z.2.2.1, z.2.2.2.mono e⟩⟩
  goes := fun {O H i} hi z => by
    rw [zip3_len] at hi
    have l1 := z.1.2.length
    have l2 := z.2.1.2.length
    have l3 := z.2.2.2.length
    exact ⟨xs, ys, zs, _, _, _, SK.mono fz_same z.1.1, SK.mono fz_same z.2.1.1, SK.mono fz_same z.2.2.1, List.getElem?_eq_getElem (by omega), List.getElem?_eq_getElem (by omega), List.getElem?_eq_getElem (by omega)⟩
  stops := fun {O H} z => by
    have l1 := z.1.2.length
    have l2 := z.2.1.2.length
    have l3 := z.2.2.2.length
    refine ⟨xs, ys, zs, SK.mono fz_same z.1.1, SK.mono fz_same z.2.1.1, SK.mono fz_same z.2.2.1, ?_, ?_, ?_, ?_⟩ <;> (rw [zip3_len]; omega)
  yld := fun {O H H' i v} hi hO' z y => by
    have hO : ∀ a, O a → H a ≠ none := fun a ha n => by
      obtain ⟨o, e, _⟩ := hO' a ha
      rw [n] at e; cases e
    obtain ⟨T, x, y', w, h1, h2, h3, h4, h5, h6⟩ := y
    obtain ⟨d, e1, r1⟩ := rpall_get z.1.2 (h4 xs (SK.mono fz_same z.1.1))
    obtain ⟨e, e2, r2⟩ := rpall_get z.2.1.2 (h5 ys (SK.mono fz_same z.2.1.1))
    obtain ⟨f, e3, r3⟩ := rpall_get z.2.2.2 (h6 zs (SK.mono fz_same z.2.2.1))
    subst h1 h3
    have m : Same (Fz O H) (Fz O (upd H T (.tup [x, y', w]))) := same_fz (same_laid h2)
    exact ⟨same_laid h2, _, zip3_get e1 e2 e3, .tup (SqT.of (fz_put (fun z => hO T z h2) upd_same rfl)) (.cons (r1.mono m) (.cons (r2.mono m) (.cons (r3.mono m) .nil))) (.inl (fz_put (fun z => hO T z h2) upd_same rfl))⟩
def zipF3 (f g h : EF) (env : Env') (st : BSt) : Option (List D × BSt) := (f env st).bind fun p => (g env p.2).bind fun q => (h env q.2).bind fun r => (p.1.d?).bind fun d => (q.1.d?).bind fun e => (r.1.d?).bind fun c => (seqD d).bind fun as => (seqD e).bind fun bs => (seqD c).map fun cs => (zip3D as bs cs, r.2)
theorem s_zip3 (C : CxS F S X) {es : List Expr} {k : Nat} {tp : Pos} {a b c : Expr} {x : Str} {f g h : EF} {p pos : Pos} (hx : isB S "zip" x = true) (hn : noStar a = true) (hn' : noStar b = true) (hn'' : noStar c = true) (ha : SoundE X a f) (hb : SoundE X b g) (hc : SoundE X c h) :
    SoundI X (.Tuple es k tp) (.Call (.Name x p) [a, b, c] [] pos) (zipF3 f g h) := by
  intro β Oo H0 O σ H env st ds st' R rel h q
  obtain ⟨rfl, gg, m⟩ := isB_ok C hx
  obtain ⟨⟨d, s1⟩, e1, h⟩ := bind1 h
  obtain ⟨⟨e, s2⟩, e2, h⟩ := bind1 h
  obtain ⟨⟨w, s3⟩, e0, h⟩ := bind1 h
  obtain ⟨d', e3, h⟩ := bind1 h
  obtain ⟨e', e4, h⟩ := bind1 h
  obtain ⟨w', e7, h⟩ := bind1 h
  obtain ⟨as, e5, h⟩ := bind1 h
  obtain ⟨bs, e6, h⟩ := bind1 h
  obtain ⟨cs, e8, h⟩ := map1 h
  cases h
  refine (pi_zipG3 gg m (pa_cons (we_pe X a) (pa_cons (we_pe X b) (pa_cons (we_pe X c) pa_nil (noStar_ok hn'' [] X.env)) (noStar_ok hn' [c] X.env)) (noStar_ok hn [b, c] X.env)) (noStar_ok hn [b, c] X.env) (noStars_any (by simp [hn', hn'']))).wi (ha rel e1 fun v H1 sb1 bg1 rv => ?_)
  have rel1 := rel.step sb1 bg1
  refine hb rel1 e2 fun u H2 sb2 bg2 ru => ?_
  have rel2 := rel1.step sb2 bg2
  refine hc rel2 e0 fun y H3 sb3 bg3 ry => ?_
  obtain ⟨k1, a1, xs, rfl, q1, w1⟩ := rp_seq (((rv.rp rel e3).mono (rel1.fzm sb2)).mono (rel2.fzm sb3)) e5
  obtain ⟨k2, a2, ys, rfl, q2, w2⟩ := rp_seq ((ru.rp rel1 e4).mono (rel2.fzm sb3)) e6
  obtain ⟨k3, a3, zs, rfl, q3, w3⟩ := rp_seq (ry.rp rel2 e7) e8
  exact ⟨k1, k2, k3, _, _, _, _, _, _, rfl, SK.mono fz_same q1, SK.mono fz_same q2, SK.mono fz_same q3, q _ _ _ (sb1.trans (sb2.trans sb3)) bg3 it_zipG3 ⟨⟨q1, w1⟩, ⟨q2, w2⟩, ⟨q3, w3⟩⟩⟩
def enumF (f : EF) (env : Env') (st : BSt) : Option (List D × BSt) := (f env st).bind fun p => match p.1.d? with
  | some (.list as) => some (enumD 0 as, p.2)
  | some (.tuple as) => some (enumD 0 as, p.2)
  | _ => none
theorem s_enum (C : CxS F S X) {es : List Expr} {k : Nat} {tp : Pos} {a : Expr} {x : Str} {f : EF} {p pos : Pos} (hx : isB S "enumerate" x = true) (hn : noStar a = true) (ha : SoundE X a f) :
    SoundI X (.Tuple es k tp) (.Call (.Name x p) [a] [] pos) (enumF f) := by
  intro β Oo H0 O σ H env st ds st' R rel h q
  obtain ⟨rfl, gg, m⟩ := isB_ok C hx
  obtain ⟨⟨d, s1⟩, e1, h⟩ := bind1 h
  dsimp only at h
  split at h
  · rename_i as e3
    cases h
    refine (pi_enum gg m (pa_cons (we_pe X a) pa_nil (noStar_ok hn [] X.env)) (noStar_ok hn [] X.env)).wi (ha rel e1 fun v H1 sb1 bg1 rv => ?_)
    have r1 := rv.rp rel e3
    cases r1 with
    | lst h1 h2 => exact ⟨_, _, rfl, SqL.of (fz_some h1).2, q _ _ _ sb1 bg1 it_enum ⟨h1, h2⟩⟩
  · rename_i as e3
    cases h
    refine (pi_enumT gg m (pa_cons (we_pe X a) pa_nil (noStar_ok hn [] X.env)) (noStar_ok hn [] X.env)).wi (ha rel e1 fun v H1 sb1 bg1 rv => ?_)
    have r1 := rv.rp rel e3
    cases r1 with
    | tup h1 h2 => exact ⟨_, _, rfl, sameT fz_same h1, q _ _ _ sb1 bg1 it_enumT ⟨h1, h2⟩⟩
  · cases h
end
end Iv

set_option maxHeartbeats 4000000
namespace Iv
open PySem PySem.Spec PyProof.Rows L2
variable [Ct] [Nm]
/-! ### slots stored -/
section
variable {K : PySem.W.Frag} {β : Option Addr} {Oo O : Addr → Prop} {H0 H H' : Hp} {σ : L2.St} {env : Env'} {st st' : BSt}
theorem get_set {α : Type} {l : List α} {i j : Nat} {a b : α} (h : (l.set i a)[j]? = some b) : (j = i ∧ i < l.length ∧ b = a) ∨ (j ≠ i ∧ l[j]? = some b) := by
  by_cases e : i = j
  · subst e
    by_cases hl : i < l.length
    · rw [List.getElem?_set_self hl] at h; cases h; exact .inl ⟨rfl, hl, rfl⟩
    · rw [List.getElem?_eq_none (by simpa using hl)] at h; cases h
  · rw [List.getElem?_set_ne e] at h; exact .inr ⟨fun z => e z.symm, h⟩
theorem set_ne {α : Type} {l : List α} {i j : Nat} {a : α} (h : j ≠ i) : (l.set i a)[j]? = l[j]? := List.getElem?_set_ne (fun z => h z.symm)
/-- what is not owned is stored -/
theorem Rel.put (r : Rel K β Oo H0 O σ H env st) {v : V} {x : R} (i : Nat) (h : SlAt K β O H v x) (hx : ∀ d, x ≠ .ow d) : Rel K β Oo H0 O (σ.set i (some v)) H (env.set i (some x)) st where
  sl := fun j y e => by
    rcases get_set e with ⟨rfl, hl, e⟩ | ⟨hj, e⟩
    · cases e; exact ⟨v, List.getElem?_set_self (by rw [← r.len]; exact hl), h⟩
    · rw [set_ne hj]; exact r.sl j y e
  ne := fun j k d e a hjk h1 h2 h3 => by
    rcases get_set h1 with ⟨rfl, _, z⟩ | ⟨hj, h1⟩
    · cases z; exact absurd rfl (hx d)
    rcases get_set h2 with ⟨rfl, _, z⟩ | ⟨hk, h2⟩
    · cases z; exact absurd rfl (hx e)
    rw [set_ne hj] at h3
    rw [set_ne hk]
    exact r.ne j k d e a hjk h1 h2 h3
  fr := fun j d a h1 h2 => by
    rcases get_set h1 with ⟨rfl, _, z⟩ | ⟨hj, h1⟩
    · cases z; exact absurd rfl (hx d)
    rw [set_ne hj] at h2
    exact r.fr j d a h1 h2
  len := by rw [List.length_set, List.length_set]; exact r.len
  sub := r.sub
  dom := r.dom
  dom0 := r.dom0
  sb := r.sb
  bag := r.bag
  bO := r.bO
  tabs := r.tabs
/-- a fresh thing is stored: from then on it is owned -/
theorem Rel.putOw (r : Rel K β Oo H0 O σ H env st) {p : Addr} {d : D} (i : Nat) (sb : SB β H H') (bg : BagAt β H' st') (hp : H p = none) (hn : β ≠ some p) (ho : OwAt K (orO O p) H' p d) :
    Rel K β Oo H0 (orO O p) (σ.set i (some (.ref p))) H' (env.set i (some (.ow d))) st' := by
  have nO : ¬ O p := r.notO hp
  have p0 : H0 p = none := by
    exact r.sb.dm p hn hp
  have hp' : H' p ≠ none := by
    cases d with
    | list ds => obtain ⟨xs, h, _⟩ := ho; rw [h]; simp
    | dict ds => obtain ⟨o, h, _⟩ := ho.2; rw [h]; simp
    | none => exact ho.elim
    | bool _ => exact ho.elim
    | int _ => exact ho.elim
    | str _ => exact ho.elim
    | tuple _ => exact ho.elim
  have fm : Same (Fz O H) (Fz (orO O p) H') := fun a o e => by
    obtain ⟨n, e, t⟩ := fz_some3 e
    have ap : a ≠ p := ne_of_none e hp
    exact fz_put (fun z => z.elim n ap) (sb.go a o (fun z => n (r.bO' a z)) t e) t
  exact {
    sl := fun j y e => by
      rcases get_set e with ⟨rfl, hl, e⟩ | ⟨hj, e⟩
      · cases e; exact ⟨_, List.getElem?_set_self (by rw [← r.len]; exact hl), p, rfl, .inr rfl, hn, ho⟩
      · rw [set_ne hj]
        obtain ⟨v, h1, h2⟩ := r.sl j y e
        exact ⟨v, h1, h2.mono fm sb fun a d _ _ z => .inl z⟩
    ne := fun j k d e a hjk h1 h2 h3 => by
      have old : ∀ (m : Nat) d', env[m]? = some (some (.ow d')) → σ[m]? ≠ some (some (.ref p)) := fun m d' q z => by
        obtain ⟨v, h4, b, rfl, h5, _⟩ := r.sl m _ q
        rw [h4] at z; cases z; exact nO h5
      rcases get_set h1 with ⟨ej, hl, z⟩ | ⟨hj, g1⟩
      · rcases get_set h2 with ⟨ek, _, z2⟩ | ⟨hk, g2⟩
        · exact absurd (ej.trans ek.symm) hjk
        · rw [set_ne hk]
          rw [ej, List.getElem?_set_self (by rw [← r.len]; exact hl)] at h3
          cases h3
          exact old k e g2
      · rw [set_ne hj] at h3
        rcases get_set h2 with ⟨ek, hl, z2⟩ | ⟨hk, g2⟩
        · rw [ek, List.getElem?_set_self (by rw [← r.len]; exact hl)]
          intro z
          cases z
          exact old j d g1 h3
        · rw [set_ne hk]
          exact r.ne j k d e a hjk g1 g2 h3
    fr := fun j d' a h1 h2 => by
      rcases get_set h1 with ⟨rfl, hl, z⟩ | ⟨hj, h1⟩
      · rw [List.getElem?_set_self (by rw [← r.len]; exact hl)] at h2
        cases h2; exact p0
      · rw [set_ne hj] at h2
        exact r.fr j d' a h1 h2
    len := by rw [List.length_set, List.length_set]; exact r.len
    sub := fun a ha => .inl (r.sub a ha)
    dom := fun a ha => by
      rcases ha with ha | rfl
      · exact (r.step sb bg).dom a ha
      · exact ho.plain
    dom0 := r.dom0
    sb := r.sb.trans sb
    bag := bg
    bO := r.bO
    tabs := sb.tb r.tabs }
theorem Rel.putOw_same (r : Rel K β Oo H0 O σ H env st) {p : Addr} (sb : SB β H H') (hp : H p = none) : Same (Fz O H) (Fz (orO O p) H') := fun a o e => by
  obtain ⟨n, e, t⟩ := fz_some3 e
  have ap : a ≠ p := ne_of_none e hp
  exact fz_put (fun z => z.elim n ap) (sb.go a o (fun z => n (r.bO' a z)) t e) t
/-- slots forgotten -/
def wipeE (env : Env') : List Nat → Env'
  | [] => env
  | v :: vs => (wipeE env vs).set v none
theorem wipeE_some {env : Env'} {i : Nat} {x : R} : ∀ {vs : List Nat}, (wipeE env vs)[i]? = some (some x) → env[i]? = some (some x) ∧ i ∉ vs
  | [], h => ⟨h, by simp⟩
  | v :: vs, h => by
    unfold wipeE at h
    rcases get_set h with ⟨_, _, z⟩ | ⟨hj, h⟩
    · cases z
    · obtain ⟨h1, h2⟩ := wipeE_some h
      exact ⟨h1, by simp only [List.mem_cons, not_or]; exact ⟨hj, h2⟩⟩
theorem wipeE_len (env : Env') : ∀ vs, (wipeE env vs).length = env.length
  | [] => rfl
  | v :: vs => by unfold wipeE; rw [List.length_set, wipeE_len env vs]
theorem wipe_get {σ : L2.St} {j : Nat} : ∀ {vs : List Nat}, j ∉ vs → (wipe σ vs)[j]? = σ[j]?
  | [], _ => rfl
  | v :: vs, h => by
    simp only [List.mem_cons, not_or] at h
    unfold wipe
    rw [set_ne h.1]
    exact wipe_get h.2
theorem wipe_in {σ : L2.St} {j : Nat} : ∀ {vs : List Nat}, j ∈ vs → j < σ.length → (wipe σ vs)[j]? = some none
  | v :: vs, h, hl => by
    unfold wipe
    by_cases e : j = v
    · subst e; exact List.getElem?_set_self (by rw [wipe_length]; exact hl)
    · rw [set_ne e]
      exact wipe_in ((List.mem_cons.mp h).resolve_left e) hl
theorem wipe_eq {σ σ' : L2.St} {vs : List Nat} (hl : σ'.length = σ.length) (h : ∀ j, j ∉ vs → σ'[j]? = σ[j]?) : wipe σ' vs = wipe σ vs := by
  apply List.ext_getElem?
  intro j
  by_cases e : j ∈ vs
  · by_cases q : j < σ.length
    · rw [wipe_in e q, wipe_in e (by rw [hl]; exact q)]
    · rw [List.getElem?_eq_none (by rw [wipe_length, hl]; omega), List.getElem?_eq_none (by rw [wipe_length]; omega)]
  · rw [wipe_get e, wipe_get e]; exact h j e
theorem Rel.wipe (r : Rel K β Oo H0 O σ H env st) (vs : List Nat) : Rel K β Oo H0 O (L2.wipe σ vs) H (wipeE env vs) st where
  sl := fun i x e => by
    obtain ⟨h1, h2⟩ := wipeE_some e
    obtain ⟨v, h3, h4⟩ := r.sl i x h1
    exact ⟨v, by rw [wipe_get h2]; exact h3, h4⟩
  ne := fun i j d e a hij h1 h2 h3 => by
    obtain ⟨h1, n1⟩ := wipeE_some h1
    obtain ⟨h2, n2⟩ := wipeE_some h2
    rw [wipe_get n1] at h3
    rw [wipe_get n2]
    exact r.ne i j d e a hij h1 h2 h3
  fr := fun i d a h1 h2 => by
    obtain ⟨h1, n1⟩ := wipeE_some h1
    rw [wipe_get n1] at h2
    exact r.fr i d a h1 h2
  len := by rw [wipeE_len, wipe_length]; exact r.len
  sub := r.sub
  dom := r.dom
  dom0 := r.dom0
  sb := r.sb
  bag := r.bag
  bO := r.bO
  tabs := r.tabs
end
/-! ### targets -/
def Wg (X : Cx) (tg : Expr) : TG := fun v σ H Q => ∀ pins s u, Inv X pins σ H s → RelV v u → wpAny (model X.prog X.w) X.A (assign tg X.env u) (fun _ s' => ∃ σ' H', Inv X pins σ' H' s' ∧ Q σ' H') X.xe s
theorem wg_pg (X : Cx) (tg : Expr) : PG X tg (Wg X tg) := ⟨fun pins s _ _ _ u _ I r h => h pins s u I r⟩
theorem _root_.L2.PG.wg {X : Cx} {tg : Expr} {t : TG} {v : V} {σ : L2.St} {H : Hp} {Q : L2.St → Hp → Prop} (h : PG X tg t) (q : t v σ H Q) : Wg X tg v σ H Q := fun pins s u I r => h.run pins s σ H v u Q I r q
def tgtSlot (S : Sx) (x : Str) : Option Nat := if locK (S.sc.names.lookup x) && (!S.blk || decide (S.sc.names.lookup x = some .local) || decide (x ∈ S.cel)) then ixOf S.N x else none
abbrev GF := D → Env' → Option Env'
def SoundG (X : Cx) (tg : Expr) (sl : List Nat) (g : GF) : Prop := ∀ ⦃β : Option Addr⦄ ⦃Oo : Addr → Prop⦄ ⦃H0 : Hp⦄ ⦃O : Addr → Prop⦄ ⦃σ : L2.St⦄ ⦃H : Hp⦄ ⦃env env' : Env'⦄ ⦃st : BSt⦄ ⦃v : V⦄ ⦃d : D⦄ ⦃Q : L2.St → Hp → Prop⦄,
  Rel X.K β Oo H0 O σ H env st → Rp X.K (Fz O H) v d → g d env = some env' → (∀ σ', Rel X.K β Oo H0 O σ' H env' st → σ'.length = σ.length → (∀ j, j ∉ sl → σ'[j]? = σ[j]?) → Q σ' H) → Wg X tg v σ H Q
section
variable {F : FT} {S : Sx} {X : Cx}
theorem locK_ok {o : Option NameKind} (h : locK o = true) : o = some .local ∨ o = some .cell := by
  unfold locK at h
  split at h <;> simp_all
theorem tgtSlot_ok (C : CxS F S X) {x : Str} {i : Nat} (h : tgtSlot S x = some i) : X.N.Nodup ∧ X.N[i]? = some x ∧ L2.Loc X.env.scope x ∧ (X.fn x = true ∨ X.env.scope.names.lookup x = some .local) := by
  obtain ⟨c, h⟩ : _ ∧ ixOf S.N x = some i := by
    unfold tgtSlot at h
    cases c : locK (S.sc.names.lookup x) && (!S.blk || decide (S.sc.names.lookup x = some .local) || decide (x ∈ S.cel)) with
    | false => rw [c] at h; cases h
    | true => rw [c] at h; exact ⟨c, h⟩
  rw [Bool.and_eq_true] at c
  refine ⟨by rw [C.N]; exact C.nd, by rw [C.N]; exact ixOf_ok h, by unfold L2.Loc; rw [C.sc]; exact locK_ok c.1, ?_⟩
  cases hb : S.blk with
  | false => exact .inl (C.fn hb x)
  | true =>
    rw [hb] at c
    have c2 := c.2
    simp only [Bool.not_true, Bool.false_or, Bool.or_eq_true, decide_eq_true_eq] at c2
    rcases c2 with c2 | c2
    · right; rw [C.sc]; exact c2
    · exact .inl (C.cel x c2)
def setF (i : Nat) : GF := fun d env => some (env.set i (some (.fz d)))
theorem g_name (C : CxS F S X) {x : Str} {i : Nat} {pos : Pos} (h : tgtSlot S x = some i) : SoundG X (.Name x pos) [i] (setF i) := by
  intro β Oo H0 O σ H env env' st v d Q rel rv hg q
  cases hg
  obtain ⟨h1, h2, h3, h4⟩ := tgtSlot_ok C h
  refine (pg_name h1 h2 h3 h4).wg (q _ (rel.put i (x := .fz d) rv (fun _ z => by cases z)) (by simp) fun j hj => ?_)
  rw [set_ne (fun z => hj (by simp [z]))]
/-- several names -/
def slotsT (S : Sx) : List Expr → Option (List Nat)
  | [] => some []
  | .Name x _ :: es => (tgtSlot S x).bind fun i => (slotsT S es).map (i :: ·)
  | _ :: _ => none
def setAll : List Nat → List D → Env' → Option Env'
  | [], [], env => some env
  | i :: is, d :: ds, env => setAll is ds (env.set i (some (.fz d)))
  | _, _, _ => none
def Wgs (X : Cx) (ts : List Expr) : TGs := fun vs σ H Q => ∀ pins s us, Inv X pins σ H s → Vals vs us → wpAny (model X.prog X.w) X.A (assignInOrder ((assignEach ts X.env).map (·.2)) us) (fun _ s' => ∃ σ' H', Inv X pins σ' H' s' ∧ Q σ' H') X.xe s
theorem wgs_pgs (X : Cx) (ts : List Expr) : PGs X ts (Wgs X ts) := ⟨fun pins s _ _ _ us _ I r h => h pins s us I r⟩
theorem g_names (C : CxS F S X) : ∀ {es : List Expr} {is : List Nat}, slotsT S es = some is → ∀ {β : Option Addr} {Oo : Addr → Prop} {H0 : Hp} {O : Addr → Prop} {σ : L2.St} {H : Hp} {env env' : Env'} {st : BSt} {vs : List V} {ds : List D} {Q : L2.St → Hp → Prop},
    Rel X.K β Oo H0 O σ H env st → RpAll X.K (Fz O H) vs ds → setAll is ds env = some env' → (∀ σ', Rel X.K β Oo H0 O σ' H env' st → σ'.length = σ.length → (∀ j, j ∉ is → σ'[j]? = σ[j]?) → Q σ' H) → Wgs X es vs σ H Q
  | [], is, h, β, Oo, H0, O, σ, H, env, env', st, vs, ds, Q, rel, rv, hs, q => by
    cases h
    cases ds with
    | nil =>
      cases hs; cases rv
      intro pins s us I r
      exact pgs_nil.run pins s σ H [] us Q I r ⟨rfl, q σ rel rfl fun _ _ => rfl⟩
    | cons d ds => cases hs
  | .Name x pos :: es, is, h, β, Oo, H0, O, σ, H, env, env', st, vs, ds, Q, rel, rv, hs, q => by
    obtain ⟨i, e1, h⟩ := bind1 h
    obtain ⟨is', e2, rfl⟩ := map1 h
    cases rv with
    | nil => cases hs
    | @cons v vs d ds r1 r2 =>
      intro pins s us I r
      refine (pgs_cons (wg_pg X (.Name x pos)) (wgs_pgs X es) rfl).run pins s σ H (v :: vs) us Q I r ⟨v, vs, rfl, ?_⟩
      refine g_name C e1 rel r1 rfl fun σ1 rel1 hl1 hk1 => ?_
      refine g_names C e2 rel1 r2 hs fun σ2 rel2 hl2 hk2 => q σ2 rel2 (hl2.trans hl1) fun j hj => ?_
      simp only [List.mem_cons, not_or] at hj
      exact (hk2 j hj.2).trans (hk1 j (by simpa using hj.1))
  | .BoolOp .. :: _, _, h, _, _, _, _, _, _, _, _, _, _, _, _, _, _, _, _ => by cases h
  | .NamedExpr .. :: _, _, h, _, _, _, _, _, _, _, _, _, _, _, _, _, _, _, _ => by cases h
  | .BinOp .. :: _, _, h, _, _, _, _, _, _, _, _, _, _, _, _, _, _, _, _ => by cases h
  | .UnaryOp .. :: _, _, h, _, _, _, _, _, _, _, _, _, _, _, _, _, _, _, _ => by cases h
  | .Lambda .. :: _, _, h, _, _, _, _, _, _, _, _, _, _, _, _, _, _, _, _ => by cases h
  | .IfExp .. :: _, _, h, _, _, _, _, _, _, _, _, _, _, _, _, _, _, _, _ => by cases h
  | .Dict .. :: _, _, h, _, _, _, _, _, _, _, _, _, _, _, _, _, _, _, _ => by cases h
  | .Set .. :: _, _, h, _, _, _, _, _, _, _, _, _, _, _, _, _, _, _, _ => by cases h
  | .ListComp .. :: _, _, h, _, _, _, _, _, _, _, _, _, _, _, _, _, _, _, _ => by cases h
  | .SetComp .. :: _, _, h, _, _, _, _, _, _, _, _, _, _, _, _, _, _, _, _ => by cases h
  | .DictComp .. :: _, _, h, _, _, _, _, _, _, _, _, _, _, _, _, _, _, _, _ => by cases h
  | .GeneratorExp .. :: _, _, h, _, _, _, _, _, _, _, _, _, _, _, _, _, _, _, _ => by cases h
  | .Await .. :: _, _, h, _, _, _, _, _, _, _, _, _, _, _, _, _, _, _, _ => by cases h
  | .Yield .. :: _, _, h, _, _, _, _, _, _, _, _, _, _, _, _, _, _, _, _ => by cases h
  | .YieldFrom .. :: _, _, h, _, _, _, _, _, _, _, _, _, _, _, _, _, _, _, _ => by cases h
  | .Compare .. :: _, _, h, _, _, _, _, _, _, _, _, _, _, _, _, _, _, _, _ => by cases h
  | .Call .. :: _, _, h, _, _, _, _, _, _, _, _, _, _, _, _, _, _, _, _ => by cases h
  | .FormattedValue .. :: _, _, h, _, _, _, _, _, _, _, _, _, _, _, _, _, _, _, _ => by cases h
  | .JoinedStr .. :: _, _, h, _, _, _, _, _, _, _, _, _, _, _, _, _, _, _, _ => by cases h
  | .Constant .. :: _, _, h, _, _, _, _, _, _, _, _, _, _, _, _, _, _, _, _ => by cases h
  | .Attribute .. :: _, _, h, _, _, _, _, _, _, _, _, _, _, _, _, _, _, _, _ => by cases h
  | .Subscript .. :: _, _, h, _, _, _, _, _, _, _, _, _, _, _, _, _, _, _, _ => by cases h
  | .Starred .. :: _, _, h, _, _, _, _, _, _, _, _, _, _, _, _, _, _, _, _ => by cases h
  | .List .. :: _, _, h, _, _, _, _, _, _, _, _, _, _, _, _, _, _, _, _ => by cases h
  | .Tuple .. :: _, _, h, _, _, _, _, _, _, _, _, _, _, _, _, _, _, _, _ => by cases h
  | .Slice .. :: _, _, h, _, _, _, _, _, _, _, _, _, _, _, _, _, _, _, _ => by cases h
theorem names_each {env : Env} : ∀ {es : List Expr} {is : List Nat}, slotsT S es = some is → (assignEach es env).length = es.length ∧ (assignEach es env).findIdx? (·.1) = none := by
  intro es
  induction es with
  | nil => exact fun _ => ⟨rfl, rfl⟩
  | cons e es ih =>
    intro is h
    cases e with
    | Name x pos =>
      obtain ⟨i, e1, h⟩ := bind1 h
      obtain ⟨is', e2, rfl⟩ := map1 h
      obtain ⟨h1, h2⟩ := ih e2
      have e3 : assignEach (.Name x pos :: es) env = (false, assign (.Name x pos) env) :: assignEach es env := rfl
      rw [e3]
      refine ⟨by simp [h1], ?_⟩
      rw [List.findIdx?_cons]
      simp [h2]
    | _ => cases h
def unF (is : List Nat) : GF := fun d env => match d with
  | .tuple ds => setAll is ds env
  | .list ds => setAll is ds env
  | _ => none
theorem setAll_len : ∀ {is : List Nat} {ds : List D} {env env' : Env'}, setAll is ds env = some env' → ds.length = is.length
  | [], [], _, _, _ => rfl
  | _ :: is, _ :: ds, _, _, h => by simp [setAll_len (is := is) h]
  | [], _ :: _, _, _, h => by cases h
  | _ :: _, [], _, _, h => by cases h
theorem slotsT_len : ∀ {es : List Expr} {is : List Nat}, slotsT S es = some is → is.length = es.length := by
  intro es
  induction es with
  | nil => intro is h; cases h; rfl
  | cons e es ih =>
    intro is h
    cases e with
    | Name x pos =>
      obtain ⟨i, e1, h⟩ := bind1 h
      obtain ⟨is', e2, rfl⟩ := map1 h
      simp [ih e2]
    | _ => cases h
theorem g_tup (C : CxS F S X) {es : List Expr} {is : List Nat} {k : Nat} {pos : Pos} (h : slotsT S es = some is) : SoundG X (.Tuple es k pos) is (unF is) := by
  intro β Oo H0 O σ H env env' st v d Q rel rv hg q
  have ne := names_each (env := X.env) h
  unfold unF at hg
  split at hg
  · obtain ⟨a, xs, rfl, h1, h2⟩ := rp_tup rv
    refine (pg_tup C.calm (wgs_pgs X es) ne.1 ne.2).wg ⟨a, xs, rfl, fz_tup h1, ?_, g_names C h rel h2 hg q⟩
    rw [h2.length, setAll_len hg, slotsT_len h]
  · cases rv with
    | lst h1 h2 =>
      refine (pg_unl C.calm (wgs_pgs X es) ne.1 ne.2).wg ⟨_, _, rfl, SqL.of (fz_some h1).2, ?_, g_names C h rel h2 hg q⟩
      rw [h2.length, setAll_len hg, slotsT_len h]
  · cases hg
end
end Iv

set_option maxHeartbeats 4000000
namespace Iv
open PySem PySem.Spec PyProof.Rows L2
variable [Ct] [Nm]
/-! ### list comprehensions -/
def relS (scope sc : Scope) : Scope :=
  { scope with names := scope.names.map fun (n, k) => if (k == .free && sc.kind == .function && sc.names.lookup n == some .cell) then (n, .cell) else (n, k) }
def Sx.inner (S : Sx) (scope : Scope) : Sx := { S with sc := relS scope S.sc, blk := true, args := [], made := [], cap := [], nest := none, hks := [], tks := [], cel := scope.names.filterMap fun p => if scope.names.lookup p.1 == some .cell then some p.1 else none }
def ownOf (N : List Str) : List (Str × NameKind) → List (Str × Nat)
  | [] => []
  | (x, k) :: r => match k, ixOf N x with
    | .local, some i => (x, i) :: ownOf N r
    | .cell, some i => (x, i) :: ownOf N r
    | _, _ => ownOf N r
def lcLoop (g : GF) (t : TF) (e : EF) (env0 : Env') : List D → List D → BSt → Option (List D × BSt)
  | [], acc, st => some (acc, st)
  | d :: ds, acc, st => (g d env0).bind fun env1 => (t env1 st).bind fun p =>
    if p.1 then (e env1 p.2).bind fun q => q.1.d?.bind fun x => if decide (acc.length < sizeLine) then lcLoop g t e env0 ds (acc ++ [x]) q.2 else none
    else lcLoop g t e env0 ds acc p.2
def lcF (i : IF) (own : List Nat) (g : GF) (t : TF) (e : EF) (env : Env') (st : BSt) : Option (R × BSt) := (i env st).bind fun p => (lcLoop g t e (wipeE env own) p.1 [] p.2).map fun q => (.ow (.list q.1), q.2)
def yesT (_ : Env') (st : BSt) : Option (Bool × BSt) := some (true, st)
section
variable {F : FT} {S : Sx} {X : Cx}
theorem CxS.inner (C : CxS F S X) {scope : Scope} (hk : scope.kind = .function) (s : Shared) (H : Hp) (C0 : Addr) (cl : List (Str × Addr)) (fp : List Addr) : CxS F (S.inner scope) (X.blk s H scope (compEnvC scope cl C0 X.env) fp) where
  N := C.N
  sc := by
    show relabel scope X.env = relS scope S.sc
    unfold relabel relS
    rw [← C.sc]
    rfl
  calm := C.calm
  nd := C.nd
  hu := C.hu
  fn := fun h => by cases h
  cel := fun x hx => by
    obtain ⟨p, _, e⟩ := List.mem_filterMap.mp hx
    show (scope.names.lookup x == some .cell) = true
    cases c : (scope.names.lookup p.1 == some .cell) with
    | false => rw [c] at e; cases e
    | true => rw [c] at e; cases e; exact c
  gl := fun x g e => by
    have h := C.gl x g e
    cases g with
    | blt => exact h
    | cst d => exact h
    | fn => exact h
    | fnG => exact h
  xe := rfl
  kind := hk
  clo := fun _ _ _ _ h => by cases h
  mad := fun _ _ h => by cases h
  gd := C.gd
def SoundTs (X : Cx) (ifs : List Expr) (f : TF) : Prop := ∃ tt, PTs X ifs tt ∧ ∀ ⦃β : Option Addr⦄ ⦃Oo : Addr → Prop⦄ ⦃H0 : Hp⦄ ⦃O : Addr → Prop⦄ ⦃σ : L2.St⦄ ⦃H : Hp⦄ ⦃env : Env'⦄ ⦃st : BSt⦄ ⦃b : Bool⦄ ⦃st' : BSt⦄ ⦃Q : Bool → Hp → Prop⦄,
  Rel X.K β Oo H0 O σ H env st → f env st = some (b, st') → (∀ H', SB β H H' → BagAt β H' st' → Q b H') → tt σ H Q
theorem s_ifs0 : SoundTs X [] yesT := ⟨_, pts_nil, fun _ _ _ _ _ _ _ _ _ _ _ rel h q => by cases h; exact q _ SB.refl rel.bag⟩
theorem s_ifs1 {c : Expr} {f : TF} (h : SoundT X c f) : SoundTs X [c] f := ⟨_, pts_one (wt_pt X c), fun _ _ _ _ _ _ _ _ _ _ _ rel hf q => h rel hf q⟩
def noSetI : Expr → Bool
  | .Set .. => false
  | _ => true
theorem noSetI_ok {e : Expr} (h : noSetI e = true) (env : Env) : ∀ x, foldedSetIterable e env x = pure x := by
  intro x
  cases e <;> first | rfl | cases h
variable {tg iter elt : Expr} {ifs : List Expr} {scope : Scope} {own : List (Str × Nat)} {i : IF} {g : GF} {t : TF} {e : EF} {sl : List Nat}
/-- the reading of the comprehension holds -/
theorem lc_read (C : CxS F S X) (hk : scope.kind = .function) (hi : SoundI X tg iter i) (hsl : ∀ j ∈ sl, j ∈ own.map (·.2))
    (hg : ∀ X', CxS F (S.inner scope) X' → X'.K = X.K → SoundG X' tg sl g) (ht : ∀ X', CxS F (S.inner scope) X' → X'.K = X.K → SoundTs X' ifs t) (he : ∀ X', CxS F (S.inner scope) X' → X'.K = X.K → SoundE X' elt e) :
    ∃ (gg : TG) (tt : TT) (te : TE), (∀ (s : Shared) (H : Hp) (C : Addr) (cl : List (Str × Addr)) (fp : List Addr), PG (X.blk s H scope (compEnvC scope cl C X.env) fp) tg gg) ∧
      (∀ (s : Shared) (H : Hp) (C : Addr) (cl : List (Str × Addr)) (fp : List Addr), PTs (X.blk s H scope (compEnvC scope cl C X.env) fp) ifs tt) ∧
      (∀ (s : Shared) (H : Hp) (C : Addr) (cl : List (Str × Addr)) (fp : List Addr), PE (X.blk s H scope (compEnvC scope cl C X.env) fp) elt te) ∧
      ∀ {β : Option Addr} {Oo : Addr → Prop} {H0 : Hp} {O : Addr → Prop} {σ : L2.St} {H : Hp} {env : Env'} {st : BSt} {r : R} {st' : BSt} {Q : VK},
        Rel X.K β Oo H0 O σ H env st → lcF i (own.map (·.2)) g t e env st = some (r, st') → (∀ v H', SB β H H' → BagAt β H' st' → ResAt X.K β O H H' v r → Q v H') → tLc (Wi X tg iter) gg tt te (own.map (·.2)) σ H Q := by
  refine ⟨fun v σ H Q => ∀ (s : Shared) (H' : Hp) (C : Addr) (cl : List (Str × Addr)) (fp : List Addr), Wg (X.blk s H' scope (compEnvC scope cl C X.env) fp) tg v σ H Q,
    fun σ H Q => ∀ (s : Shared) (H' : Hp) (C : Addr) (cl : List (Str × Addr)) (fp : List Addr), ∃ tt, PTs (X.blk s H' scope (compEnvC scope cl C X.env) fp) ifs tt ∧ tt σ H Q,
    fun σ H Q => ∀ (s : Shared) (H' : Hp) (C : Addr) (cl : List (Str × Addr)) (fp : List Addr), We (X.blk s H' scope (compEnvC scope cl C X.env) fp) elt σ H Q, ?_, ?_, ?_, ?_⟩
  · exact fun s H' C cl fp => ⟨fun pins s1 σ H v u Q I rr h => h s H' C cl fp pins s1 u I rr⟩
  · exact fun s H' C cl fp => ⟨fun pins s1 σ H Q I h => let ⟨tt, pt, q⟩ := h s H' C cl fp; pt.run pins s1 σ H Q I q⟩
  · exact fun s H' C cl fp => ⟨fun pins s1 σ H Q I h => h s H' C cl fp pins s1 I⟩
  intro β Oo H0 O σ H env st r st' Q rel h q
  obtain ⟨⟨ds, s1⟩, e1, h⟩ := bind1 h
  obtain ⟨⟨out, s2⟩, e2, h⟩ := map1 h
  cases h
  refine hi rel e1 fun J Fr H1 sb1 bg1 ok fr => fun D hD => ?_
  have rel1 := rel.step sb1 bg1
  have nD : ¬ O D := rel1.notO hD
  have bD : β ≠ some D := rel1.neB hD
  -- the invariant
  let Pv : Nat → Hp → Prop := fun n Hn => ∃ acc accV sn, lcLoop g t e (wipeE env (own.map (·.2))) (ds.drop n) acc sn = some (out, s2) ∧ BagAt β Hn sn ∧ SB β H1 Hn ∧ Hn D = some (.lst accV) ∧ RpAll X.K (Fz (orO O D) Hn) accV acc
  have relN : ∀ {Hn : Hp} {sn : BSt}, SB β H1 Hn → BagAt β Hn sn → (∃ xs, Hn D = some (.lst xs)) → Rel X.K β Oo H0 (orO O D) (L2.wipe σ (own.map (·.2))) Hn (wipeE env (own.map (·.2))) sn := fun {Hn sn} sb bg hd => by
    have r1 := (rel1.step sb bg).wipe (own.map (·.2))
    have fm : Same (Fz O H1) (Fz (orO O D) Hn) := rel1.putOw_same sb hD
    have r0 := rel1.wipe (own.map (·.2))
    exact { sl := fun j y ej => by
              obtain ⟨v, h1, h2⟩ := r0.sl j y ej
              exact ⟨v, h1, h2.mono fm sb fun a d _ _ z => .inl z⟩
            ne := r1.ne
            fr := r1.fr
            len := r1.len
            sub := fun a ha => .inl (r1.sub a ha)
            dom := fun a ha => by
              rcases ha with ha | rfl
              · exact r1.dom a ha
              · obtain ⟨xs, hd⟩ := hd; exact ⟨_, hd, rfl⟩
            dom0 := r1.dom0
            sb := r1.sb
            bag := bg
            bO := r1.bO
            tabs := r1.tabs }
  have frN : ∀ {Hn : Hp}, SB β H1 Hn → Fr (Fz (orO O D) Hn) := fun sb => ok.mono (rel1.putOw_same sb hD) fr
  refine ⟨fun n m Hn => m = ds.length - n ∧ n ≤ ds.length ∧ Pv n Hn, ⟨ds.length, rfl, Nat.zero_le _, ⟨[], [], s1, by simpa using e2, ?_, SB.laid hD, upd_same, .nil⟩⟩, ?_⟩
  · exact same_bag (same_laid hD) bg1
  rintro n m Hn ⟨rfl, hn, acc, accV, sn, el, bg, sb, hDn, rac⟩
  by_cases hlt : n < ds.length
  · refine .inr ⟨ok.goes hlt (frN sb), fun Hx => Pv (n + 1) Hx, fun Hx px => ⟨ds.length - (n + 1), by omega, rfl, by omega, px⟩, fun x Hy y => ?_⟩
    have rn := relN sb bg ⟨_, hDn⟩
    obtain ⟨sm, d, ed, rx⟩ := ok.yld hlt rn.dom (frN sb) y
    have edrop : ds.drop n = d :: ds.drop (n + 1) := by
      rw [List.drop_eq_getElem_cons hlt]
      rw [List.getElem?_eq_getElem hlt] at ed
      cases ed; rfl
    rw [edrop] at el
    obtain ⟨env1, g1, el⟩ := bind1 el
    obtain ⟨⟨b, sn1⟩, t1, el⟩ := bind1 el
    have rny := rn.step (same_sb sm) (same_bag sm bg)
    intro s H' C0 cl fp
    refine hg _ (C.inner hk s H' C0 cl fp) rfl rny rx g1 fun σ2 rel2 hl2 hk2 => ⟨?_, ?_⟩
    · refine (wipe_eq hl2 fun j hj => hk2 j fun z => hj (hsl j z)).trans ?_
      refine wipe_eq (wipe_length _ _) fun j hj => wipe_get hj
    intro s' H'' C0' cl' fp'
    obtain ⟨tt, pt, ht'⟩ := ht _ (C.inner hk s' H'' C0' cl' fp') rfl
    refine ⟨tt, pt, ht' rel2 t1 fun H3 sb3 bg3 => ?_⟩
    have smD : ∀ {Ha Hb : Hp} {xs : List V}, SB β Ha Hb → Ha D = some (.lst xs) → Hb D = some (.lst xs) := fun s q => s.go D _ bD rfl q
    cases b with
    | false =>
      refine iteF ⟨acc, accV, sn1, el, bg3, sb.trans ((same_sb sm).trans sb3), smD sb3 (sm _ _ hDn), ?_⟩
      exact (rac.mono (same_fz sm)).mono (rel2.fzm sb3)
    | true =>
      refine iteT ?_
      intro s4 H4' C4 cl4 fp4
      obtain ⟨⟨rr, sn2⟩, e3, el⟩ := bind1 el
      obtain ⟨dx, e4, el⟩ := bind1 el
      have hsz : acc.length < sizeLine ∧ lcLoop g t e (wipeE env (own.map (·.2))) (ds.drop (n + 1)) (acc ++ [dx]) sn2 = some (out, s2) := by
        cases hc : decide (acc.length < sizeLine) with
        | false => simp only [hc] at el; cases el
        | true => simp only [hc, if_true] at el; exact ⟨of_decide_eq_true hc, el⟩
      have rel3 := rel2.step sb3 bg3
      refine he _ (C.inner hk s4 H4' C4 cl4 fp4) rfl rel3 e3 fun y H4 sb4 bg4 ry => ?_
      have ry' := ry.rp rel3 e4
      have hD4 := smD sb4 (smD sb3 (sm _ _ hDn))
      have ra4 := ((rac.mono (same_fz sm)).mono (rel2.fzm sb3)).mono (rel3.fzm sb4)
      refine ⟨accV, hD4, by rw [ra4.length]; exact hsz.1, acc ++ [dx], accV ++ [y], sn2, hsz.2, ?_, ?_, upd_same, ?_⟩
      · exact bg4.mono fun b0 o hb0 e => by rw [upd_ne (fun z => bD (by rw [hb0, z]))]; exact e
      · exact (((sb.trans (same_sb sm)).trans sb3).trans sb4).mut hD4 rfl (.inr hD)
      · refine (ra4.append (.one ry')).mono fun a o ea => ?_
        obtain ⟨na, ea, t⟩ := fz_some3 ea
        exact fz_put na (by rw [upd_ne (fun z => na (.inr z))]; exact ea) t
  · have en : n = ds.length := by omega
    subst en
    rw [List.drop_length] at el
    cases el
    refine .inl ⟨ok.stops (frN sb), q _ _ (sb1.trans sb) bg ⟨D, rfl, ?_, bD, accV, hDn, rac⟩⟩
    exact sb1.dm D bD hD
theorem s_lc (C : CxS F S X) (hk : scope.kind = .function) (ok : blkC S.N S.sc scope own = true) (hni : noSetI iter = true) {pos : Pos} (hi : SoundI X tg iter i) (hsl : ∀ j ∈ sl, j ∈ own.map (·.2))
    (hg : ∀ X', CxS F (S.inner scope) X' → X'.K = X.K → SoundG X' tg sl g) (ht : ∀ X', CxS F (S.inner scope) X' → X'.K = X.K → SoundTs X' ifs t) (he : ∀ X', CxS F (S.inner scope) X' → X'.K = X.K → SoundE X' elt e) :
    SoundE X (.ListComp elt [⟨tg, iter, ifs, 0⟩] scope pos) (lcF i (own.map (·.2)) g t e) := by
  obtain ⟨gg, tt, te, h1, h2, h3, h4⟩ := lc_read C hk hi hsl hg ht he
  intro β Oo H0 O σ H env st r st' Q rel h q
  have bo : BlkOk X.N X.env.scope scope own := by rw [C.N, C.sc]; exact blkOk_by ok
  exact (pe_lc C.calm (by rw [C.N]; exact C.nd) (wi_pi X tg iter) bo h1 h2 h3 (noSetI_ok hni X.env)).we (h4 rel h q)
end
end Iv

set_option maxHeartbeats 4000000
namespace Iv
open PySem PySem.Spec PyProof.Rows L2
variable [Ct] [Nm]
/-! ### list comprehensions with two fors -/
def noOwB (env : Env') : Bool := env.all fun x => match x with | some (.ow _) => false | _ => true
def lcLoop2 (g : GF) (t : TF) (i1 : IF) (own1 : List Nat) (g1 : GF) (t1 : TF) (e : EF) (env0 : Env') : List D → List D → BSt → Option (List D × BSt)
  | [], acc, st => some (acc, st)
  | d :: ds, acc, st => (g d env0).bind fun env1 => (t env1 st).bind fun p =>
    if p.1 then (if noOwB env1 then (i1 env1 p.2).bind fun q => (lcLoop g1 t1 e (wipeE env1 own1) q.1 acc q.2).bind fun r => lcLoop2 g t i1 own1 g1 t1 e env0 ds r.1 r.2 else none)
    else lcLoop2 g t i1 own1 g1 t1 e env0 ds acc p.2
def lcF2 (i : IF) (own : List Nat) (g : GF) (t : TF) (i1 : IF) (own1 : List Nat) (g1 : GF) (t1 : TF) (e : EF) (env : Env') (st : BSt) : Option (R × BSt) := (i env st).bind fun p => (lcLoop2 g t i1 own1 g1 t1 e (wipeE env own) p.1 [] p.2).map fun q => (.ow (.list q.1), q.2)
section
variable {F : FT} {S : Sx} {X : Cx}
theorem ite_some' {α : Type} {c : Bool} {a : Option α} {r : α} (h : (if c then a else none) = some r) : c = true ∧ a = some r := by
  cases c with
  | true => exact ⟨rfl, h⟩
  | false => cases h
/-- all but D stays -/
def GoX (β : Option Addr) (D : Addr) (H H' : Hp) : Prop := ∀ a o, β ≠ some a → a ≠ D → isTbl o = false → H a = some o → H' a = some o
theorem noOwB_ok {env : Env'} (h : noOwB env = true) {i : Nat} {d : D} (e : env[i]? = some (some (.ow d))) : False := by
  have := List.all_eq_true.mp h _ (List.mem_of_getElem? e)
  cases this
theorem Rel.stepX {K : PySem.W.Frag} {β : Option Addr} {Oo O : Addr → Prop} {H0 H H' : Hp} {σ : L2.St} {env : Env'} {st st' : BSt} {D : Addr} {l0 l1 : List V} (r : Rel K β Oo H0 (orO O D) σ H env st) (no : noOwB env = true) (go : GoX β D H H') (hD : H D = some (.lst l0)) (hD' : H' D = some (.lst l1))
    (sb : SB β H0 H') (bg : BagAt β H' st') (tb : NdefX.TabsN Tb0 H') : Rel K β Oo H0 (orO O D) σ H' env st' ∧ Same (Fz (orO O D) H) (Fz (orO O D) H') := by
  have fm : Same (Fz (orO O D) H) (Fz (orO O D) H') := fun a o e => by
    obtain ⟨n, e, t⟩ := fz_some3 e
    exact fz_put n (go a o (fun z => n (r.sub a (r.bO a z))) (fun z => n (.inr z)) t e) t
  refine ⟨?_, fm⟩
  have neD : ∀ {a : Addr} {o : HO}, H a = some o → plainO o = false → a ≠ D := fun {a o} e p z => by rw [z, hD] at e; cases e; cases p
  exact {
    sl := fun i x e => by
      obtain ⟨v, h1, h2⟩ := r.sl i x e
      refine ⟨v, h1, ?_⟩
      cases x with
      | fz d => exact Rp.mono fm h2
      | ow d => exact (noOwB_ok no e).elim
      | bag => exact h2
      | scr ns =>
        obtain ⟨a, rfl, g⟩ := h2
        refine ⟨a, rfl, ?_⟩
        rcases g with ⟨g1, o, g2⟩ | g | ⟨g1, g2⟩
        · exact .inl ⟨g1, o, go a _ g1 (neD g2 rfl) rfl g2⟩
        · exact .inr (.inl g)
        · exact .inr (.inr ⟨g1, fm _ _ g2⟩)
      | fnc f F ws ds =>
        obtain ⟨rfl, g⟩ := h2
        exact ⟨rfl, g.nf, g.nc, go _ _ g.nf (neD g.ob rfl) rfl g.ob, go _ _ g.nc (neD g.co rfl) rfl g.co, g.rp.mono fm⟩
    ne := fun i j d e a _ h1 _ _ => (noOwB_ok no h1).elim
    fr := fun i d a h1 _ => (noOwB_ok no h1).elim
    len := r.len
    sub := r.sub
    dom := fun a ha => by
      by_cases hb : β = some a
      · obtain ⟨g, s, _, e⟩ := bg.get hb; exact ⟨_, e, rfl⟩
      · by_cases z : a = D
        · rw [z]; exact ⟨_, hD', rfl⟩
        · obtain ⟨o, e, p⟩ := r.dom a ha
          exact ⟨o, go a o hb z (plain_noTbl p) e, p⟩
    dom0 := r.dom0
    sb := sb
    bag := bg
    bO := r.bO
    tabs := tb }
variable {tg iter elt tg1 iter1 : Expr} {ifs ifs1 : List Expr} {scope : Scope} {own : List (Str × Nat)} {i i1 : IF} {g g1 : GF} {t t1 : TF} {e : EF} {sl sl1 : List Nat}
theorem lc2_read (C : CxS F S X) (hk : scope.kind = .function) (hi : SoundI X tg iter i) (hsl : ∀ j ∈ sl, j ∈ own.map (·.2))
    (hg : ∀ X', CxS F (S.inner scope) X' → X'.K = X.K → SoundG X' tg sl g) (ht : ∀ X', CxS F (S.inner scope) X' → X'.K = X.K → SoundTs X' ifs t)
    (hi1 : ∀ X', CxS F (S.inner scope) X' → X'.K = X.K → SoundI X' tg1 iter1 i1) (hg1 : ∀ X', CxS F (S.inner scope) X' → X'.K = X.K → SoundG X' tg1 sl1 g1) (ht1 : ∀ X', CxS F (S.inner scope) X' → X'.K = X.K → SoundTs X' ifs1 t1) (he : ∀ X', CxS F (S.inner scope) X' → X'.K = X.K → SoundE X' elt e) :
    ∃ (gg gg1 : TG) (tt tt1 : TT) (wi1 : TI) (te : TE), (∀ (s : Shared) (H : Hp) (C : Addr) (cl : List (Str × Addr)) (fp : List Addr), PG (X.blk s H scope (compEnvC scope cl C X.env) fp) tg gg) ∧
      (∀ (s : Shared) (H : Hp) (C : Addr) (cl : List (Str × Addr)) (fp : List Addr), PTs (X.blk s H scope (compEnvC scope cl C X.env) fp) ifs tt) ∧
      (∀ (s : Shared) (H : Hp) (C : Addr) (cl : List (Str × Addr)) (fp : List Addr), PI (X.blk s H scope (compEnvC scope cl C X.env) fp) tg1 iter1 wi1) ∧
      (∀ (s : Shared) (H : Hp) (C : Addr) (cl : List (Str × Addr)) (fp : List Addr), PG (X.blk s H scope (compEnvC scope cl C X.env) fp) tg1 gg1) ∧
      (∀ (s : Shared) (H : Hp) (C : Addr) (cl : List (Str × Addr)) (fp : List Addr), PTs (X.blk s H scope (compEnvC scope cl C X.env) fp) ifs1 tt1) ∧
      (∀ (s : Shared) (H : Hp) (C : Addr) (cl : List (Str × Addr)) (fp : List Addr), PE (X.blk s H scope (compEnvC scope cl C X.env) fp) elt te) ∧
      ∀ {β : Option Addr} {Oo : Addr → Prop} {H0 : Hp} {O : Addr → Prop} {σ : L2.St} {H : Hp} {env : Env'} {st : BSt} {r : R} {st' : BSt} {Q : VK},
        Rel X.K β Oo H0 O σ H env st → lcF2 i (own.map (·.2)) g t i1 sl1 g1 t1 e env st = some (r, st') → (∀ v H', SB β H H' → BagAt β H' st' → ResAt X.K β O H H' v r → Q v H') → tLc2 (Wi X tg iter) gg tt wi1 gg1 tt1 te (own.map (·.2)) sl1 σ H Q := by
  refine ⟨fun v σ H Q => ∀ (s : Shared) (H' : Hp) (C : Addr) (cl : List (Str × Addr)) (fp : List Addr), Wg (X.blk s H' scope (compEnvC scope cl C X.env) fp) tg v σ H Q,
    fun v σ H Q => ∀ (s : Shared) (H' : Hp) (C : Addr) (cl : List (Str × Addr)) (fp : List Addr), Wg (X.blk s H' scope (compEnvC scope cl C X.env) fp) tg1 v σ H Q,
    fun σ H Q => ∀ (s : Shared) (H' : Hp) (C : Addr) (cl : List (Str × Addr)) (fp : List Addr), ∃ tt, PTs (X.blk s H' scope (compEnvC scope cl C X.env) fp) ifs tt ∧ tt σ H Q,
    fun σ H Q => ∀ (s : Shared) (H' : Hp) (C : Addr) (cl : List (Str × Addr)) (fp : List Addr), ∃ tt, PTs (X.blk s H' scope (compEnvC scope cl C X.env) fp) ifs1 tt ∧ tt σ H Q,
    fun σ H R => ∀ (s : Shared) (H' : Hp) (C : Addr) (cl : List (Str × Addr)) (fp : List Addr), Wi (X.blk s H' scope (compEnvC scope cl C X.env) fp) tg1 iter1 σ H R,
    fun σ H Q => ∀ (s : Shared) (H' : Hp) (C : Addr) (cl : List (Str × Addr)) (fp : List Addr), We (X.blk s H' scope (compEnvC scope cl C X.env) fp) elt σ H Q, ?_, ?_, ?_, ?_, ?_, ?_, ?_⟩
  · exact fun s H' C cl fp => ⟨fun pins s1 σ H v u Q I rr h => h s H' C cl fp pins s1 u I rr⟩
  · exact fun s H' C cl fp => ⟨fun pins s1 σ H Q I h => let ⟨tt, pt, q⟩ := h s H' C cl fp; pt.run pins s1 σ H Q I q⟩
  · exact fun s H' C cl fp => ⟨fun pins s1 σ H R I h => h s H' C cl fp pins s1 I⟩
  · exact fun s H' C cl fp => ⟨fun pins s1 σ H v u Q I rr h => h s H' C cl fp pins s1 u I rr⟩
  · exact fun s H' C cl fp => ⟨fun pins s1 σ H Q I h => let ⟨tt, pt, q⟩ := h s H' C cl fp; pt.run pins s1 σ H Q I q⟩
  · exact fun s H' C cl fp => ⟨fun pins s1 σ H Q I h => h s H' C cl fp pins s1 I⟩
  intro β Oo H0 O σ H env st r st' Q rel h q
  obtain ⟨⟨ds, s1⟩, e1, h⟩ := bind1 h
  obtain ⟨⟨out, s2⟩, e2, h⟩ := map1 h
  cases h
  refine hi rel e1 fun J Fr H1 sb1 bg1 ok fr => fun D hD => ?_
  have rel1 := rel.step sb1 bg1
  have nD : ¬ O D := rel1.notO hD
  have bD : β ≠ some D := rel1.neB hD
  let Pv : Nat → Hp → Prop := fun n Hn => ∃ acc accV sn, lcLoop2 g t i1 sl1 g1 t1 e (wipeE env (own.map (·.2))) (ds.drop n) acc sn = some (out, s2) ∧ BagAt β Hn sn ∧ SB β H1 Hn ∧ Hn D = some (.lst accV) ∧ RpAll X.K (Fz (orO O D) Hn) accV acc
  have relN : ∀ {Hn : Hp} {sn : BSt}, SB β H1 Hn → BagAt β Hn sn → (∃ xs, Hn D = some (.lst xs)) → Rel X.K β Oo H0 (orO O D) (L2.wipe σ (own.map (·.2))) Hn (wipeE env (own.map (·.2))) sn := fun {Hn sn} sb bg hd => by
    have r1 := (rel1.step sb bg).wipe (own.map (·.2))
    have fm : Same (Fz O H1) (Fz (orO O D) Hn) := rel1.putOw_same sb hD
    have r0 := rel1.wipe (own.map (·.2))
    exact { sl := fun j y ej => by
              obtain ⟨v, h1, h2⟩ := r0.sl j y ej
              exact ⟨v, h1, h2.mono fm sb fun a d _ _ z => .inl z⟩
            ne := r1.ne
            fr := r1.fr
            len := r1.len
            sub := fun a ha => .inl (r1.sub a ha)
            dom := fun a ha => by
              rcases ha with ha | rfl
              · exact r1.dom a ha
              · obtain ⟨xs, hd⟩ := hd; exact ⟨_, hd, rfl⟩
            dom0 := r1.dom0
            sb := r1.sb
            bag := bg
            bO := r1.bO
            tabs := r1.tabs }
  have frN : ∀ {Hn : Hp}, SB β H1 Hn → Fr (Fz (orO O D) Hn) := fun sb => ok.mono (rel1.putOw_same sb hD) fr
  refine ⟨fun n m Hn => m = ds.length - n ∧ n ≤ ds.length ∧ Pv n Hn, ⟨ds.length, rfl, Nat.zero_le _, ⟨[], [], s1, by simpa using e2, ?_, SB.laid hD, upd_same, .nil⟩⟩, ?_⟩
  · exact same_bag (same_laid hD) bg1
  rintro n m Hn ⟨rfl, hn, acc, accV, sn, el, bg, sb, hDn, rac⟩
  by_cases hlt : n < ds.length
  · refine .inr ⟨ok.goes hlt (frN sb), fun Hx => Pv (n + 1) Hx, fun Hx px => ⟨ds.length - (n + 1), by omega, rfl, by omega, px⟩, fun x Hy y => ?_⟩
    have rn := relN sb bg ⟨_, hDn⟩
    obtain ⟨sm, d, ed, rx⟩ := ok.yld hlt rn.dom (frN sb) y
    have edrop : ds.drop n = d :: ds.drop (n + 1) := by
      rw [List.drop_eq_getElem_cons hlt]
      rw [List.getElem?_eq_getElem hlt] at ed
      cases ed; rfl
    rw [edrop] at el
    obtain ⟨env1, g1e, el⟩ := bind1 el
    obtain ⟨⟨b, sn1⟩, t1e, el⟩ := bind1 el
    have rny := rn.step (same_sb sm) (same_bag sm bg)
    intro s H' C0 cl fp
    refine hg _ (C.inner hk s H' C0 cl fp) rfl rny rx g1e fun σ2 rel2 hl2 hk2 => ⟨?_, ?_⟩
    · refine (wipe_eq hl2 fun j hj => hk2 j fun z => hj (hsl j z)).trans ?_
      refine wipe_eq (wipe_length _ _) fun j hj => wipe_get hj
    intro s' H'' C0' cl' fp'
    obtain ⟨tt, pt, ht'⟩ := ht _ (C.inner hk s' H'' C0' cl' fp') rfl
    refine ⟨tt, pt, ht' rel2 t1e fun H3 sb3 bg3 => ?_⟩
    have smD : ∀ {Ha Hb : Hp} {xs : List V}, SB β Ha Hb → Ha D = some (.lst xs) → Hb D = some (.lst xs) := fun s q => s.go D _ bD rfl q
    cases b with
    | false =>
      refine iteF ⟨acc, accV, sn1, el, bg3, sb.trans ((same_sb sm).trans sb3), smD sb3 (sm _ _ hDn), ?_⟩
      exact (rac.mono (same_fz sm)).mono (rel2.fzm sb3)
    | true =>
      refine iteT ?_
      have el : (if noOwB env1 then (i1 env1 sn1).bind fun q => (lcLoop g1 t1 e (wipeE env1 sl1) q.1 acc q.2).bind fun r => lcLoop2 g t i1 sl1 g1 t1 e (wipeE env (own.map (·.2))) (ds.drop (n + 1)) r.1 r.2 else none) = some (out, s2) := el
      obtain ⟨noB, el⟩ := ite_some' el
      obtain ⟨⟨ds1, sn2⟩, e4, el⟩ := bind1 el
      obtain ⟨⟨acc2, sn3⟩, e5, el⟩ := bind1 el
      have rel3 := rel2.step sb3 bg3
      intro sA HA CA clA fpA
      refine hi1 _ (C.inner hk sA HA CA clA fpA) rfl rel3 e4 fun J1 Fr1 H4 sb4 bg4 ok1 fr1 => ?_
      have rel4 := rel3.step sb4 bg4
      have hD4 := smD sb4 (smD sb3 (sm _ _ hDn))
      have ra4 := ((rac.mono (same_fz sm)).mono (rel2.fzm sb3)).mono (rel3.fzm sb4)
      have sb14 : SB β H1 H4 := sb.trans ((same_sb sm).trans (sb3.trans sb4))
      let Pv1 : Nat → Hp → Prop := fun j Hj => ∃ acc accV sj, lcLoop g1 t1 e (wipeE env1 sl1) (ds1.drop j) acc sj = some (acc2, sn3) ∧ BagAt β Hj sj ∧ SB β H1 Hj ∧ GoX β D H4 Hj ∧ Hj D = some (.lst accV) ∧ RpAll X.K (Fz (orO O D) Hj) accV acc
      refine ⟨fun j m Hj => m = ds1.length - j ∧ j ≤ ds1.length ∧ Pv1 j Hj, ⟨ds1.length, rfl, Nat.zero_le _, ⟨acc, accV, sn2, by simpa using e5, bg4, sb14, fun _ _ _ _ _ z => z, hD4, ra4⟩⟩, ?_⟩
      rintro j m Hj ⟨rfl, hj, accJ, accVJ, sj, elJ, bgJ, sbJ, goJ, hDJ, racJ⟩
      obtain ⟨relJ, fmJ⟩ := rel4.stepX noB goJ hD4 hDJ (rel1.sb.trans sbJ) bgJ (sbJ.tb rel1.tabs)
      have frJ : Fr1 (Fz (orO O D) Hj) := ok1.mono fmJ fr1
      by_cases hltJ : j < ds1.length
      · refine .inr ⟨ok1.goes hltJ frJ, fun Hx => Pv1 (j + 1) Hx, fun Hx px => ⟨ds1.length - (j + 1), by omega, rfl, by omega, px⟩, fun x1 Hz y1 => ?_⟩
        have rwJ := relJ.wipe sl1
        obtain ⟨sm1, d1, ed1, rx1⟩ := ok1.yld hltJ rwJ.dom frJ y1
        have edrop1 : ds1.drop j = d1 :: ds1.drop (j + 1) := by
          rw [List.drop_eq_getElem_cons hltJ]
          rw [List.getElem?_eq_getElem hltJ] at ed1
          cases ed1; rfl
        rw [edrop1] at elJ
        obtain ⟨env2, g2e, elJ⟩ := bind1 elJ
        obtain ⟨⟨b1, sj1⟩, t2e, elJ⟩ := bind1 elJ
        have rzJ := rwJ.step (same_sb sm1) (same_bag sm1 bgJ)
        intro sB HB CB clB fpB
        refine hg1 _ (C.inner hk sB HB CB clB fpB) rfl rzJ rx1 g2e fun σ3 rel5 hl5 hk5 => ⟨?_, ?_⟩
        · refine (wipe_eq hl5 fun j hj => hk5 j hj).trans ?_
          refine wipe_eq (wipe_length _ _) fun j hj => wipe_get hj
        intro sE HE CE' clE fpE
        obtain ⟨tt1, pt1, ht1'⟩ := ht1 _ (C.inner hk sE HE CE' clE fpE) rfl
        refine ⟨tt1, pt1, ht1' rel5 t2e fun H6 sb6 bg6 => ?_⟩
        have goSm : ∀ {Ha Hb : Hp}, SB β Ha Hb → GoX β D Ha Hb := fun s a o h1 _ h3 h4 => s.go a o h1 h3 h4
        cases b1 with
        | false =>
          refine iteF ⟨accJ, accVJ, sj1, elJ, bg6, sbJ.trans ((same_sb sm1).trans sb6), ?_, smD sb6 (sm1 _ _ hDJ), ?_⟩
          · exact fun a o h1 h2 h3 h4 => sb6.go a o h1 h3 (sm1 _ _ (goJ a o h1 h2 h3 h4))
          · exact (racJ.mono (same_fz sm1)).mono (rel5.fzm sb6)
        | true =>
          refine iteT ?_
          intro sG HG CG clG fpG
          obtain ⟨⟨rr, sj2⟩, e3, elJ⟩ := bind1 elJ
          obtain ⟨dx, e6, elJ⟩ := bind1 elJ
          have hsz : accJ.length < sizeLine ∧ lcLoop g1 t1 e (wipeE env1 sl1) (ds1.drop (j + 1)) (accJ ++ [dx]) sj2 = some (acc2, sn3) := by
            cases hc : decide (accJ.length < sizeLine) with
            | false => simp only [hc] at elJ; cases elJ
            | true => simp only [hc, if_true] at elJ; exact ⟨of_decide_eq_true hc, elJ⟩
          have rel6 := rel5.step sb6 bg6
          refine he _ (C.inner hk sG HG CG clG fpG) rfl rel6 e3 fun yv H7 sb7 bg7 ry => ?_
          have ry' := ry.rp rel6 e6
          have hD7 := smD sb7 (smD sb6 (sm1 _ _ hDJ))
          have ra7 := ((racJ.mono (same_fz sm1)).mono (rel5.fzm sb6)).mono (rel6.fzm sb7)
          refine ⟨accVJ, hD7, by rw [ra7.length]; exact hsz.1, accJ ++ [dx], accVJ ++ [yv], sj2, hsz.2, ?_, ?_, ?_, upd_same, ?_⟩
          · exact bg7.mono fun b0 o hb0 e => by rw [upd_ne (fun z => bD (by rw [hb0, z]))]; exact e
          · exact (((sbJ.trans (same_sb sm1)).trans sb6).trans sb7).mut hD7 rfl (.inr hD)
          · exact fun a o h1 h2 h3 h4 => by rw [upd_ne h2]; exact sb7.go a o h1 h3 (sb6.go a o h1 h3 (sm1 _ _ (goJ a o h1 h2 h3 h4)))
          · refine (ra7.append (.one ry')).mono fun a o ea => ?_
            obtain ⟨na, ea, t⟩ := fz_some3 ea
            exact fz_put na (by rw [upd_ne (fun z => na (.inr z))]; exact ea) t
      · have en : j = ds1.length := by omega
        subst en
        rw [List.drop_length] at elJ
        cases elJ
        exact .inl ⟨ok1.stops frJ, _, accVJ, _, el, bgJ, sbJ, hDJ, racJ⟩
  · have en : n = ds.length := by omega
    subst en
    rw [List.drop_length] at el
    cases el
    refine .inl ⟨ok.stops (frN sb), q _ _ (sb1.trans sb) bg ⟨D, rfl, ?_, bD, accV, hDn, rac⟩⟩
    exact sb1.dm D bD hD
theorem s_lc2 (C : CxS F S X) (hk : scope.kind = .function) (bok : blkC S.N S.sc scope own = true) (hni : noSetI iter = true) (hni1 : noSetI iter1 = true) {pos : Pos} (hi : SoundI X tg iter i) (hsl : ∀ j ∈ sl, j ∈ own.map (·.2)) (hsl1 : ∀ j ∈ sl1, j ∈ own.map (·.2))
    (hg : ∀ X', CxS F (S.inner scope) X' → X'.K = X.K → SoundG X' tg sl g) (ht : ∀ X', CxS F (S.inner scope) X' → X'.K = X.K → SoundTs X' ifs t)
    (hi1 : ∀ X', CxS F (S.inner scope) X' → X'.K = X.K → SoundI X' tg1 iter1 i1) (hg1 : ∀ X', CxS F (S.inner scope) X' → X'.K = X.K → SoundG X' tg1 sl1 g1) (ht1 : ∀ X', CxS F (S.inner scope) X' → X'.K = X.K → SoundTs X' ifs1 t1) (he : ∀ X', CxS F (S.inner scope) X' → X'.K = X.K → SoundE X' elt e) :
    SoundE X (.ListComp elt [⟨tg, iter, ifs, 0⟩, ⟨tg1, iter1, ifs1, 0⟩] scope pos) (lcF2 i (own.map (·.2)) g t i1 sl1 g1 t1 e) := by
  obtain ⟨gg, gg1, tt, tt1, wi1, te, h1, h2, h3, h4, h5, h6, h7⟩ := lc2_read C hk hi hsl hg ht hi1 hg1 ht1 he
  intro β Oo H0 O σ H env st r st' Q rel h q
  have bo : BlkOk X.N X.env.scope scope own := by rw [C.N, C.sc]; exact blkOk_by bok
  exact (pe_lc2 C.calm (by rw [C.N]; exact C.nd) (wi_pi X tg iter) bo hsl1 h1 h2 h3 h4 h5 h6 (noSetI_ok hni X.env) (fun env => noSetI_ok hni1 env)).we (h7 rel h q)
end
end Iv

set_option maxHeartbeats 4000000
namespace Iv
open PySem PySem.Spec PyProof.Rows L2
variable [Ct] [Nm]
/-! ### statements -/
inductive Out where
  | nx | rt (r : R) | bk | ct
abbrev SF := Env' → BSt → Option (Out × Env' × BSt)
def Ws (X : Cx) (s : Stmt) : TS := fun D σ H => ∀ pins sh, Inv X pins σ H sh → wpAny (model X.prog X.w) X.A (exec s X.env) (SP X pins D) X.xe sh
def Wss (X : Cx) (s : List Stmt) : TS := fun D σ H => ∀ pins sh, Inv X pins σ H sh → wpAny (model X.prog X.w) X.A (execs s X.env) (SP X pins D) X.xe sh
theorem ws_ps (X : Cx) (s : Stmt) : PS X s (Ws X s) := ⟨fun pins sh _ _ _ I h => h pins sh I⟩
theorem wss_pss (X : Cx) (s : List Stmt) : PSs X s (Wss X s) := ⟨fun pins sh _ _ _ I h => h pins sh I⟩
theorem _root_.L2.PS.ws {X : Cx} {s : Stmt} {t : TS} {D : Ends} {σ : L2.St} {H : Hp} (h : PS X s t) (q : t D σ H) : Ws X s D σ H := fun pins sh I => h.run pins sh σ H D I q
theorem _root_.L2.PSs.wss {X : Cx} {s : List Stmt} {t : TS} {D : Ends} {σ : L2.St} {H : Hp} (h : PSs X s t) (q : t D σ H) : Wss X s D σ H := fun pins sh I => h.run pins sh σ H D I q
def Post (K : PySem.W.Frag) (β : Option Addr) (Oo : Addr → Prop) (H0 : Hp) (O : Addr → Prop) (H : Hp) (D : Ends) : Out → Env' → BSt → Prop
  | .nx, env', st' => ∀ σ' H' O', Rel K β Oo H0 O' σ' H' env' st' → Same (Fz O H) (Fz O' H') → D.nx σ' H'
  | .bk, env', st' => ∀ σ' H' O', Rel K β Oo H0 O' σ' H' env' st' → Same (Fz O H) (Fz O' H') → D.bk σ' H'
  | .ct, env', st' => ∀ σ' H' O', Rel K β Oo H0 O' σ' H' env' st' → Same (Fz O H) (Fz O' H') → D.ct σ' H'
  | .rt r, _, st' => ∀ v H', SB β H0 H' → BagAt β H' st' → ResAt K β Oo H0 H' v r → D.rt v H'
theorem Post.mono {K : PySem.W.Frag} {β : Option Addr} {Oo : Addr → Prop} {H0 : Hp} {O O1 : Addr → Prop} {H H1 : Hp} {D : Ends} {o : Out} {env' : Env'} {st' : BSt} (h : Post K β Oo H0 O H D o env' st') (e : Same (Fz O H) (Fz O1 H1)) : Post K β Oo H0 O1 H1 D o env' st' := by
  cases o with
  | nx => exact fun σ' H' O' r s => h σ' H' O' r (e.trans s)
  | bk => exact fun σ' H' O' r s => h σ' H' O' r (e.trans s)
  | ct => exact fun σ' H' O' r s => h σ' H' O' r (e.trans s)
  | rt r => exact h
def SoundS (X : Cx) (s : Stmt) (f : SF) : Prop := ∀ ⦃β : Option Addr⦄ ⦃Oo : Addr → Prop⦄ ⦃H0 : Hp⦄ ⦃O : Addr → Prop⦄ ⦃σ : L2.St⦄ ⦃H : Hp⦄ ⦃env env' : Env'⦄ ⦃st st' : BSt⦄ ⦃o : Out⦄ ⦃D : Ends⦄,
  Rel X.K β Oo H0 O σ H env st → f env st = some (o, env', st') → Post X.K β Oo H0 O H D o env' st' → Ws X s D σ H
def SoundSs (X : Cx) (s : List Stmt) (f : SF) : Prop := ∀ ⦃β : Option Addr⦄ ⦃Oo : Addr → Prop⦄ ⦃H0 : Hp⦄ ⦃O : Addr → Prop⦄ ⦃σ : L2.St⦄ ⦃H : Hp⦄ ⦃env env' : Env'⦄ ⦃st st' : BSt⦄ ⦃o : Out⦄ ⦃D : Ends⦄,
  Rel X.K β Oo H0 O σ H env st → f env st = some (o, env', st') → Post X.K β Oo H0 O H D o env' st' → Wss X s D σ H
def failS (_ : Env') (_ : BSt) : Option (Out × Env' × BSt) := none
def skipS (env : Env') (st : BSt) : Option (Out × Env' × BSt) := some (.nx, env, st)
def seqS (f g : SF) (env : Env') (st : BSt) : Option (Out × Env' × BSt) := (f env st).bind fun p => match p.1 with
  | .nx => g p.2.1 p.2.2
  | o => some (o, p.2)
section
variable {F : FT} {S : Sx} {X : Cx}
theorem ss_fail {s : Stmt} : SoundS X s failS := fun _ _ _ _ _ _ _ _ _ _ _ _ _ h => by cases h
theorem ss_nil : SoundSs X [] skipS := fun _ _ _ _ _ _ _ _ _ _ _ _ rel h q => by cases h; exact pss_nil.wss (q _ _ _ rel (Same.refl _))
theorem ss_cons {s : Stmt} {ss : List Stmt} {f g : SF} (hf : SoundS X s f) (hg : SoundSs X ss g) : SoundSs X (s :: ss) (seqS f g) := by
  intro β Oo H0 O σ H env env' st st' o D rel h q
  obtain ⟨⟨o1, env1, st1⟩, e1, h⟩ := bind1 h
  refine (pss_cons (ws_ps X s) (wss_pss X ss)).wss (hf rel e1 ?_)
  cases o1 with
  | nx => exact fun σ1 H1 O1 rel1 sm => hg rel1 h (q.mono sm)
  | bk => cases h; exact q
  | ct => cases h; exact q
  | rt r => cases h; exact q
theorem ss_pass {pos : Pos} : SoundS X (.Pass pos) skipS := fun _ _ _ _ _ _ _ _ _ _ _ _ rel h q => by cases h; exact ps_pass.ws (q _ _ _ rel (Same.refl _))
theorem ss_break {pos : Pos} : SoundS X (.Break pos) (fun env st => some (.bk, env, st)) := fun _ _ _ _ _ _ _ _ _ _ _ _ rel h q => by cases h; exact ps_break.ws (q _ _ _ rel (Same.refl _))
theorem ss_continue {pos : Pos} : SoundS X (.Continue pos) (fun env st => some (.ct, env, st)) := fun _ _ _ _ _ _ _ _ _ _ _ _ rel h q => by cases h; exact ps_continue.ws (q _ _ _ rel (Same.refl _))
/-! freezing -/
def frz1 (i : Nat) (env : Env') : Env' := match env[i]? with
  | some (some (.ow d)) => env.set i (some (.fz d))
  | _ => env
def frzs : List Nat → Env' → Env'
  | [], env => env
  | i :: is, env => frzs is (frz1 i env)
theorem rp_of_ow {K : PySem.W.Frag} {O O' : Addr → Prop} {H : Hp} {a : Addr} {d : D} (h : OwAt K O H a d) (hOa : O a) (hO : ∀ b, O' b → O b) (ha : ¬ O' a) : Rp K (Fz O' H) (.ref a) d := by
  refine rp_of_fresh ha (OwAt.mono (O := O) h ?_ fun o _ q => q)
  intro b o q
  obtain ⟨n, q, t⟩ := fz_some3 q
  exact fz_put (fun z => z.elim (fun z => n (hO b z)) fun z => n (by rw [z]; exact hOa)) q t
theorem Rel.frz1 {K : PySem.W.Frag} {β : Option Addr} {Oo O : Addr → Prop} {H0 H : Hp} {σ : L2.St} {env : Env'} {st : BSt} (r : Rel K β Oo H0 O σ H env st) (i : Nat) : ∃ O', Rel K β Oo H0 O' σ H (frz1 i env) st ∧ Same (Fz O H) (Fz O' H) := by
  unfold Iv.frz1
  split
  · rename_i d e
    obtain ⟨v, hv, a, rfl, hO, hn, how⟩ := r.sl i _ e
    have a0 := r.fr i d a e hv
    have hsub : ∀ b, (O b ∧ b ≠ a) → O b := fun b z => z.1
    have fm : Same (Fz O H) (Fz (fun b => O b ∧ b ≠ a) H) := fz_mono hsub fun b o _ _ q => q
    have sig : ∀ (j : Nat) d', j ≠ i → env[j]? = some (some (.ow d')) → ∀ b, σ[j]? = some (some (.ref b)) → b ≠ a := fun j d' hj e' b hb z => by
      subst z
      exact r.ne i j d d' b (fun z => hj z.symm) e e' hv hb
    refine ⟨fun b => O b ∧ b ≠ a, ?_, fm⟩
    exact {
      sl := fun j y ej => by
        rcases get_set ej with ⟨rfl, _, z⟩ | ⟨hj, ej⟩
        · cases z; exact ⟨_, hv, rp_of_ow how hO hsub (fun z => z.2 rfl)⟩
        · obtain ⟨w, h1, h2⟩ := r.sl j y ej
          exact ⟨w, h1, h2.mono fm SB.refl fun b d' hd hw hb => ⟨hb, sig j d' hj (by rw [ej, hd]) b (by rw [h1, hw])⟩⟩
      ne := fun j k d' e' b hjk h1 h2 h3 => by
        rcases get_set h1 with ⟨_, _, z⟩ | ⟨hj, h1⟩
        · cases z
        rcases get_set h2 with ⟨_, _, z⟩ | ⟨hk, h2⟩
        · cases z
        exact r.ne j k d' e' b hjk h1 h2 h3
      fr := fun j d' b h1 h2 => by
        rcases get_set h1 with ⟨_, _, z⟩ | ⟨hj, h1⟩
        · cases z
        exact r.fr j d' b h1 h2
      len := by rw [List.length_set]; exact r.len
      sub := fun b hb => ⟨r.sub b hb, fun z => r.dom0 b hb (by rw [z]; exact a0)⟩
      dom := fun b hb => r.dom b hb.1
      dom0 := r.dom0
      sb := r.sb
      bag := r.bag
      bO := r.bO
      tabs := r.tabs }
  · exact ⟨O, r, Same.refl _⟩
theorem Rel.frzs {K : PySem.W.Frag} {β : Option Addr} {Oo : Addr → Prop} {H0 H : Hp} {σ : L2.St} {st : BSt} : ∀ (is : List Nat) {O : Addr → Prop} {env : Env'}, Rel K β Oo H0 O σ H env st → ∃ O', Rel K β Oo H0 O' σ H (frzs is env) st ∧ Same (Fz O H) (Fz O' H)
  | [], O, _, r => ⟨O, r, Same.refl _⟩
  | i :: is, O, _, r => by
    obtain ⟨O1, r1, s1⟩ := r.frz1 i
    obtain ⟨O2, r2, s2⟩ := Rel.frzs is r1
    exact ⟨O2, r2, s1.trans s2⟩
def frzS (is : List Nat) (f : SF) (env : Env') (st : BSt) : Option (Out × Env' × BSt) := f (frzs is env) st
theorem ss_frz {s : Stmt} {f : SF} (is : List Nat) (h : SoundS X s f) : SoundS X s (frzS is f) := fun _ _ _ _ _ _ _ _ _ _ _ _ rel hf q => by
  obtain ⟨O', r', sm⟩ := rel.frzs is
  exact h r' hf (q.mono sm)
/-! ### return -/
theorem ResAt.out {K : PySem.W.Frag} {β : Option Addr} {Oo O : Addr → Prop} {H0 H H' : Hp} {σ : L2.St} {env : Env'} {st : BSt} (r : Rel K β Oo H0 O σ H env st) {v : V} {x : R} (h : ResAt K β O H H' v x) : ResAt K β Oo H0 H' v x := by
  cases x with
  | fz d => exact Rp.mono (fz_mono r.sub fun a o _ _ q => q) h
  | ow d =>
    obtain ⟨p, h1, h2, h3, h4⟩ := h
    refine ⟨p, h1, ?_, h3, h4.mono (fz_mono (fun a z => z.elim (fun z => .inl (r.sub a z)) .inr) fun a o _ _ q => q) fun o _ q => q⟩
    exact r.sb.dm p h3 h2
  | bag => exact h
  | scr _ =>
    obtain ⟨a, h1, h2⟩ := h
    exact ⟨a, h1, h2.mono SB.refl (fz_mono r.sub fun a o _ _ q => q)⟩
  | fnc _ _ _ _ => exact h
def retF (f : EF) (env : Env') (st : BSt) : Option (Out × Env' × BSt) := (f env st).map fun p => (.rt p.1, env, p.2)
theorem ss_ret {e : Expr} {f : EF} {pos : Pos} (he : SoundE X e f) : SoundS X (.Return (some e) pos) (retF f) := by
  intro β Oo H0 O σ H env env' st st' o D rel h q
  obtain ⟨⟨r, s1⟩, e1, h⟩ := map1 h
  cases h
  exact (ps_ret (we_pe X e)).ws (he rel e1 fun v H1 sb1 bg1 rv => q v H1 (rel.sb.trans sb1) bg1 (rv.out rel))
def retN (S : Sx) (x : Str) (f : SF) (env : Env') (st : BSt) : Option (Out × Env' × BSt) := match slotOf S x with
  | some i => (match env[i]? with
    | some (some (.ow d)) => some (.rt (.ow d), env, st)
    | _ => f env st)
  | none => f env st
theorem ss_retN (C : CxS F S X) {x : Str} {f : SF} {p pos : Pos} (hf : SoundS X (.Return (some (.Name x p)) pos) f) : SoundS X (.Return (some (.Name x p)) pos) (retN S x f) := by
  intro β Oo H0 O σ H env env' st st' o D rel h q
  unfold retN at h
  cases e : slotOf S x with
  | none => rw [e] at h; exact hf rel h q
  | some i =>
    rw [e] at h
    obtain ⟨h1, h2, h3, h4⟩ := slotOf_ok C e
    dsimp only at h
    split at h
    · rename_i d e2
      cases h
      obtain ⟨v, hv, a, rfl, hO, hn, how⟩ := rel.sl i _ e2
      refine (ps_ret (pe_var h1 h2 h3 h4)).ws ⟨_, hv, q _ H rel.sb rel.bag ⟨a, rfl, rel.fr i d a e2 hv, hn, how.mono ?_ fun o _ q => q⟩⟩
      exact fz_mono (fun b z => z.elim (rel.sub b) fun z => by rw [z]; exact hO) fun b o _ _ q => q
    · exact hf rel h q
/-! ### if, while, for -/
def ifS (c : TF) (f g : SF) (env : Env') (st : BSt) : Option (Out × Env' × BSt) := (c env st).bind fun p => if p.1 then f env p.2 else g env p.2
theorem ss_if {c : Expr} {a b : List Stmt} {k : TF} {f g : SF} {pos : Pos} (hc : SoundT X c k) (ha : SoundSs X a f) (hb : SoundSs X b g) : SoundS X (.If c a b pos) (ifS k f g) := by
  intro β Oo H0 O σ H env env' st st' o D rel h q
  obtain ⟨⟨b, s1⟩, e1, h⟩ := bind1 h
  refine (ps_if (wt_pt X c) (wss_pss X a) (wss_pss X _)).ws (hc rel e1 fun H1 sb1 bg1 => ?_)
  have rel1 := rel.step sb1 bg1
  cases b with
  | true => exact iteT (ha rel1 h (q.mono (rel.fzm sb1)))
  | false => exact iteF (hb rel1 h (q.mono (rel.fzm sb1)))
def whileN (c : TF) (f : SF) : Nat → SF
  | 0 => failS
  | n + 1 => fun env st => (c env st).bind fun p => if p.1 then (f env p.2).bind fun q => (match q.1 with
      | .nx => whileN c f n q.2.1 q.2.2
      | .ct => whileN c f n q.2.1 q.2.2
      | .bk => some (.nx, q.2)
      | .rt r => some (.rt r, q.2)) else some (.nx, env, p.2)
/-- any way to find how a loop ends, that tells no lies -/
abbrev Wh := TF → SF → SF
def WhOk (w : Wh) : Prop := ∀ c f env st r, w c f env st = some r → ∃ n, whileN c f n env st = some r
theorem ss_while (C : CxS F S X) {w : Wh} (hw : WhOk w) {c : Expr} {a : List Stmt} {k : TF} {f : SF} {pos : Pos} (hc : SoundT X c k) (ha : SoundSs X a f) : SoundS X (.While c a [] pos) (w k f) := by
  intro β Oo H0 O σ H env env' st st' o D rel h q
  obtain ⟨n, h⟩ := hw _ _ _ _ _ h
  refine (ps_while (by rw [C.xe]; exact PassesOwn.never) (wt_pt X c) (wss_pss X a)).ws ?_
  refine ⟨fun m σm Hm => ∃ O1 env1 st1, Rel X.K β Oo H0 O1 σm Hm env1 st1 ∧ Same (Fz O H) (Fz O1 Hm) ∧ whileN k f m env1 st1 = some (o, env', st'), ⟨n, O, env, st, rel, Same.refl _, h⟩, ?_⟩
  rintro m σm Hm ⟨O1, env1, st1, rel1, sm1, e1⟩
  cases m with
  | zero => cases e1
  | succ m =>
    obtain ⟨⟨b, s2⟩, e2, e1⟩ := bind1 e1
    refine hc rel1 e2 fun H2 sb2 bg2 => ?_
    have rel2 := rel1.step sb2 bg2
    have sm2 := sm1.trans (rel1.fzm sb2)
    cases b with
    | false => cases e1; exact iteF (q _ _ _ rel2 sm2)
    | true =>
      refine iteT ⟨fun σ' H' => ∃ O1 env1 st1, Rel X.K β Oo H0 O1 σ' H' env1 st1 ∧ Same (Fz O H) (Fz O1 H') ∧ whileN k f m env1 st1 = some (o, env', st'), fun σ' H' z => ⟨m, Nat.lt_succ_self m, z⟩, ?_⟩
      obtain ⟨⟨o3, env3, st3⟩, e3, e1⟩ := bind1 e1
      refine ha rel2 e3 ?_
      cases o3 with
      | nx => exact fun σ' H' O' r' s' => ⟨O', env3, st3, r', sm2.trans s', e1⟩
      | ct => exact fun σ' H' O' r' s' => ⟨O', env3, st3, r', sm2.trans s', e1⟩
      | bk => cases e1; exact fun σ' H' O' r' s' => q σ' H' O' r' (sm2.trans s')
      | rt r => cases e1; exact q
def forL (g : GF) (f : SF) : List D → SF
  | [] => skipS
  | d :: ds => fun env st => (g d env).bind fun env1 => (f env1 st).bind fun q => match q.1 with
      | .nx => forL g f ds q.2.1 q.2.2
      | .ct => forL g f ds q.2.1 q.2.2
      | .bk => some (.nx, q.2)
      | .rt r => some (.rt r, q.2)
def forF (i : IF) (g : GF) (f : SF) (env : Env') (st : BSt) : Option (Out × Env' × BSt) := (i env st).bind fun p => forL g f p.1 env p.2
theorem ss_for (C : CxS F S X) {tg it : Expr} {a : List Stmt} {i : IF} {g : GF} {sl : List Nat} {f : SF} {pos : Pos} (hni : noSetI it = true) (hi : SoundI X tg it i) (hg : SoundG X tg sl g) (ha : SoundSs X a f) : SoundS X (.For tg it a [] pos) (forF i g f) := by
  intro β Oo H0 O σ H env env' st st' o D rel h q
  obtain ⟨⟨ds, s1⟩, e1, h⟩ := bind1 h
  refine (ps_for (by rw [C.xe]; exact PassesOwn.never) C.calm (wi_pi X tg it) (wg_pg X tg) (wss_pss X a) (noSetI_ok hni X.env)).ws (hi rel e1 fun J Fr H1 sb1 bg1 ok fr => ?_)
  have rel1 := rel.step sb1 bg1
  refine ⟨fun n m σm Hm => m = ds.length - n ∧ n ≤ ds.length ∧ ∃ O1 env1 st1, Rel X.K β Oo H0 O1 σm Hm env1 st1 ∧ Same (Fz O H1) (Fz O1 Hm) ∧ forL g f (ds.drop n) env1 st1 = some (o, env', st'),
    ⟨ds.length, rfl, Nat.zero_le _, O, env, s1, rel1, Same.refl _, by simpa using h⟩, ?_⟩
  rintro n m σm Hm ⟨rfl, hn, O1, env1, st1, rel2, sm2, e2⟩
  have fr2 := ok.mono sm2 fr
  by_cases hlt : n < ds.length
  · refine .inr ⟨ok.goes hlt fr2, fun σ' H' => ∃ O1 env1 st1, Rel X.K β Oo H0 O1 σ' H' env1 st1 ∧ Same (Fz O H1) (Fz O1 H') ∧ forL g f (ds.drop (n + 1)) env1 st1 = some (o, env', st'),
      fun σ' H' z => ⟨ds.length - (n + 1), by omega, rfl, by omega, z⟩, fun x H3 y => ?_⟩
    obtain ⟨sm, d, ed, rx⟩ := ok.yld hlt rel2.dom fr2 y
    have edrop : ds.drop n = d :: ds.drop (n + 1) := by
      rw [List.drop_eq_getElem_cons hlt]
      rw [List.getElem?_eq_getElem hlt] at ed
      cases ed; rfl
    rw [edrop] at e2
    obtain ⟨env3, g3, e2⟩ := bind1 e2
    obtain ⟨⟨o4, env4, st4⟩, e4, e2⟩ := bind1 e2
    have rel3 := rel2.step (same_sb sm) (same_bag sm rel2.bag)
    have sm3 := sm2.trans (same_fz sm)
    refine hg rel3 rx g3 fun σ4 rel4 _ _ => ha rel4 e4 ?_
    cases o4 with
    | nx => exact fun σ' H' O' r' s' => ⟨O', env4, st4, r', sm3.trans s', e2⟩
    | ct => exact fun σ' H' O' r' s' => ⟨O', env4, st4, r', sm3.trans s', e2⟩
    | bk => cases e2; exact fun σ' H' O' r' s' => q σ' H' O' r' ((rel.fzm sb1).trans (sm3.trans s'))
    | rt r => cases e2; exact q
  · have en : n = ds.length := by omega
    subst en
    rw [List.drop_length] at e2
    cases e2
    exact .inl ⟨ok.stops fr2, q σm Hm O1 rel2 ((rel.fzm sb1).trans sm2)⟩
end
end Iv

set_option maxHeartbeats 4000000
namespace Iv
open PySem PySem.Spec PyProof.Rows L2
variable [Ct] [Nm]
section
variable {F : FT} {S : Sx} {X : Cx}
/-- a result goes into a slot -/
theorem Rel.store {K : PySem.W.Frag} {β : Option Addr} {Oo O : Addr → Prop} {H0 H H' : Hp} {σ : L2.St} {env : Env'} {st st' : BSt} (r : Rel K β Oo H0 O σ H env st) (i : Nat) {v : V} {x : R} (sb : SB β H H') (bg : BagAt β H' st') (h : ResAt K β O H H' v x) :
    ∃ O', Rel K β Oo H0 O' (σ.set i (some v)) H' (env.set i (some x)) st' ∧ Same (Fz O H) (Fz O' H') ∧ ∀ a, O a → O' a := by
  cases x with
  | fz d => exact ⟨O, (r.step sb bg).put i (x := .fz d) h (fun _ z => by cases z), r.fzm sb, fun _ z => z⟩
  | ow d =>
    obtain ⟨p, rfl, h1, h2, h3⟩ := h
    exact ⟨orO O p, r.putOw i sb bg h1 h2 h3, r.putOw_same sb h1, fun _ z => .inl z⟩
  | bag => exact ⟨O, (r.step sb bg).put i (x := .bag) h (fun _ z => by cases z), r.fzm sb, fun _ z => z⟩
  | scr ns => exact ⟨O, (r.step sb bg).put i (x := .scr ns) h (fun _ z => by cases z), r.fzm sb, fun _ z => z⟩
  | fnc _ _ _ _ => exact h.elim
def noComp : Expr → Bool
  | .ListComp .. => false | .SetComp .. => false | .DictComp .. => false
  | _ => true
theorem noComp_ok {e : Expr} (h : noComp e = true) (t : Option Expr) (l : Nat) (env : Env) : swapsWith e t l env = pure false := by
  cases e <;> first | rfl | cases h
def asgF (i : Nat) (f : EF) (env : Env') (st : BSt) : Option (Out × Env' × BSt) := (f env st).map fun p => (.nx, env.set i (some p.1), p.2)
theorem ss_asg (C : CxS F S X) {x : Str} {i : Nat} {e : Expr} {f : EF} {p pos : Pos} (hx : tgtSlot S x = some i) (hc : noComp e = true) (he : SoundE X e f) : SoundS X (.Assign [.Name x p] e pos) (asgF i f) := by
  intro β Oo H0 O σ H env env' st st' o D rel h q
  obtain ⟨⟨r, s1⟩, e1, h⟩ := map1 h
  cases h
  obtain ⟨h1, h2, h3, h4⟩ := tgtSlot_ok C hx
  refine (ps_set h1 h2 h3 (we_pe X e) (noComp_ok hc _ _ _) h4).ws (he rel e1 fun v H1 sb1 bg1 rv => ?_)
  obtain ⟨O', r', sm, _⟩ := rel.store i sb1 bg1 rv
  exact q _ _ _ r' sm
variable {tg iter elt : Expr} {ifs : List Expr} {scope : Scope} {own : List (Str × Nat)} {ii : IF} {g : GF} {t : TF} {e : EF} {sl : List Nat}
/-- y = [..] -/
theorem ss_asgLc (C : CxS F S X) (hk : scope.kind = .function) (ok : blkC S.N S.sc scope own = true) (hni : noSetI iter = true) {y : Str} {i : Nat} {p pos spos : Pos} (hx : tgtSlot S y = some i) (hi : SoundI X tg iter ii) (hsl : ∀ j ∈ sl, j ∈ own.map (·.2))
    (hg : ∀ X', CxS F (S.inner scope) X' → X'.K = X.K → SoundG X' tg sl g) (ht : ∀ X', CxS F (S.inner scope) X' → X'.K = X.K → SoundTs X' ifs t) (he : ∀ X', CxS F (S.inner scope) X' → X'.K = X.K → SoundE X' elt e) :
    SoundS X (.Assign [.Name y p] (.ListComp elt [⟨tg, iter, ifs, 0⟩] scope pos) spos) (asgF i (lcF ii (own.map (·.2)) g t e)) := by
  obtain ⟨gg, tt, te, k1, k2, k3, k4⟩ := lc_read C hk hi hsl hg ht he
  intro β Oo H0 O σ H env env' st st' o D rel h q
  obtain ⟨⟨r, s1⟩, e1, h⟩ := map1 h
  cases h
  obtain ⟨h1, h2, h3, h4⟩ := tgtSlot_ok C hx
  have bo : BlkOk X.N X.env.scope scope own := by rw [C.N, C.sc]; exact blkOk_by ok
  have rd : tAsg (tLc (Wi X tg iter) gg tt te (own.map (·.2))) (gName i) D σ H := k4 rel e1 fun v H1 sb1 bg1 rv => by
    obtain ⟨O', r', sm, _⟩ := rel.store i sb1 bg1 rv
    exact q _ _ _ r' sm
  have sw : swapsWith (.ListComp elt [⟨tg, iter, ifs, 0⟩] scope pos) (some (.Name y p)) spos.line X.env = pure (X.env.blockKind == .function && X.env.kindOf y == some .local && p.line == pos.line && !(scope.names.any fun (n, k) => n == y && (k == .local || k == .cell))) := rfl
  cases hb : (X.env.blockKind == .function && X.env.kindOf y == some .local && p.line == pos.line && !(scope.names.any fun (n, k) => n == y && (k == .local || k == .cell))) with
  | true =>
    rw [hb] at sw
    have hy : X.env.scope.names.lookup y = some .local := by
      simp only [Bool.and_eq_true] at hb
      exact eq_of_beq hb.1.1.2
    exact (ps_setLc C.calm h1 h2 hy sw (wi_pi X tg iter) bo k1 k2 k3 (noSetI_ok hni X.env)).ws rd
  | false =>
    rw [hb] at sw
    exact (ps_set h1 h2 h3 (pe_lc C.calm h1 (wi_pi X tg iter) bo k1 k2 k3 (noSetI_ok hni X.env)) sw h4).ws rd
/-- a, b = e: unpacked -/
def noTup : Expr → Bool
  | .Tuple .. => false
  | _ => true
theorem noTup_ok {v : Expr} (h : noTup v = true) (ts : List Expr) (k : Nat) (pos : Pos) (env : Env) : swappedStores [.Tuple ts k pos] v env = pure none := by
  cases v <;> first | rfl | cases h
theorem sole_ok (v : Expr) (ts : List Expr) (k : Nat) (pos : Pos) (l : Nat) (env : Env) : swapsWithSole [.Tuple ts k pos] v l env = pure false := by
  cases v <;> rfl
def unpF (f : EF) (g : GF) (env : Env') (st : BSt) : Option (Out × Env' × BSt) := (f env st).bind fun p => p.1.d?.bind fun d => (g d env).map fun env' => (.nx, env', p.2)
theorem ss_unp {ts : List Expr} {k : Nat} {pt pos : Pos} {v : Expr} {f : EF} (hn : noTup v = true) (he : SoundE X v f) (hg : SoundG X (.Tuple ts k pt) sl g) : SoundS X (.Assign [.Tuple ts k pt] v pos) (unpF f g) := by
  intro β Oo H0 O σ H env env' st st' o D rel h q
  obtain ⟨⟨r, s1⟩, e1, h⟩ := bind1 h
  obtain ⟨d, e2, h⟩ := bind1 h
  obtain ⟨env1, e3, h⟩ := map1 h
  cases h
  refine (ps_asg (we_pe X v) (wg_pg X _) (sole_ok v ts k pt _ _) (noTup_ok hn ts k pt X.env) rfl).ws (he rel e1 fun w H1 sb1 bg1 rv => ?_)
  have rel1 := rel.step sb1 bg1
  exact hg rel1 (rv.rp rel e2) e3 fun σ' r' _ _ => q _ _ _ r' (rel.fzm sb1)
/-! several at once -/
def swap2 (S : Sx) (x y : Str) (px py : Pos) (a b : Expr) : Bool :=
  decide (S.sc.names.lookup x = some .local) && decide (S.sc.names.lookup y = some .local) && (py.line == px.line) && decide (x ≠ y) && noStar a && noStar b && !([a, b].all (foldedForSure 8)) && !([a, b].all (constantsAlone 8))
theorem noStar_any (a : Expr) : noStar a = true → (match a with | .Starred .. => true | _ => false) = false := by
  intro h
  cases a <;> first | rfl | cases h
theorem blockKind_ok {env : Env} (h : env.scope.kind = .function) : env.blockKind = .function := by unfold Env.blockKind; rw [h]; rfl
theorem swap2_ok (C : CxS F S X) {x y : Str} {px py pt pt2 : Pos} {k k2 : Nat} {a b : Expr} (h : swap2 S x y px py a b = true) :
    swappedStores [.Tuple [.Name x px, .Name y py] k pt] (.Tuple [a, b] k2 pt2) X.env = pure (some [x, y]) ∧ X.env.scope.names.lookup x = some .local ∧ X.env.scope.names.lookup y = some .local ∧ x ≠ y ∧ noStar a = true ∧ noStar b = true := by
  unfold swap2 at h
  simp only [Bool.and_eq_true, decide_eq_true_eq, Bool.not_eq_true'] at h
  obtain ⟨⟨⟨⟨⟨⟨⟨h1, h2⟩, h3⟩, h4⟩, h5⟩, h6⟩, h7⟩, h8⟩ := h
  rw [← C.sc] at h1 h2
  refine ⟨?_, h1, h2, h4, h5, h6⟩
  have k1 : X.env.kindOf x = some .local := h1
  have k2' : X.env.kindOf y = some .local := h2
  have bk := blockKind_ok C.kind
  have n1 := noStar_any a h5
  have n2 := noStar_any b h6
  have h3' : py.line = px.line := eq_of_beq h3
  have fm : ([Expr.Name x px, Expr.Name y py].filterMap fun
    | .Name id pos => if X.env.kindOf id == some .local && pos.line == px.line then some id else none
    | _ => none) = [x, y] := by
    rw [List.filterMap_cons, List.filterMap_cons, List.filterMap_nil]
    simp [k1, k2', h3']
  have ed : ([x, y] : List Str).eraseDups.length = 2 := by
    rw [List.eraseDups_cons]
    simp [List.eraseDups_cons, Ne.symm h4]
  have an : ([a, b].any fun | .Starred .. => true | _ => false) = false := by
    simp only [List.any_cons, List.any_nil, Bool.or_false]
    exact Bool.or_eq_false_iff.mpr ⟨n1, n2⟩
  unfold swappedStores
  simp only [List.length_cons, List.length_nil, bk, h7, h8, List.head?_cons, Option.map_some, Option.getD_some, Expr.pos]
  refine (if_neg (by decide)).trans ((if_neg (fun z => Bool.noConfusion (an.symm.trans z))).trans ((if_neg (fun z => ?_)).trans ((if_neg (by decide)).trans ((if_neg (by decide)).trans ?_))))
  · have e1 := congrArg List.length fm
    have e2 := congrArg (fun l => (List.eraseDups l).length) fm
    have z' := z
    revert z'
    show ¬ ((([Expr.Name x px, Expr.Name y py].filterMap fun
        | .Name id pos => if X.env.kindOf id == some .local && pos.line == px.line then some id else none
        | _ => none).length != 2 || ([Expr.Name x px, Expr.Name y py].filterMap fun
        | .Name id pos => if X.env.kindOf id == some .local && pos.line == px.line then some id else none
        | _ => none).eraseDups.length != ([Expr.Name x px, Expr.Name y py].filterMap fun
        | .Name id pos => if X.env.kindOf id == some .local && pos.line == px.line then some id else none
        | _ => none).length) = true)
    rw [fm, ed]
    exact (by decide : ¬ ((2 != 2 || 2 != 2) = true))
  · exact congrArg (fun l => (pure (some l) : Sem (Option (List Str)))) fm
def par2F (i j : Nat) (f g : EF) (env : Env') (st : BSt) : Option (Out × Env' × BSt) := (f env st).bind fun p => (g env p.2).map fun q => (.nx, (env.set i (some p.1)).set j (some q.1), q.2)
structure Held (K : PySem.W.Frag) (β : Option Addr) (H0 : Hp) (O : Addr → Prop) (σ : L2.St) (env : Env') (H : Hp) (v : V) (x : R) : Prop where
  sl : SlAt K β O H v x
  fr : ∀ d p, x = .ow d → v = .ref p → H0 p = none
  ne : ∀ d p, x = .ow d → v = .ref p → ∀ (j : Nat) d', env[j]? = some (some (.ow d')) → σ[j]? ≠ some (some (.ref p))
section
variable {K : PySem.W.Frag} {β : Option Addr} {Oo O O' : Addr → Prop} {H0 H H' : Hp} {σ : L2.St} {env : Env'} {st st' : BSt} {v : V} {x : R}
/-- a result is held: what is fresh is owned from now on, by no slot yet -/
theorem Rel.grab (r : Rel K β Oo H0 O σ H env st) (sb : SB β H H') (bg : BagAt β H' st') (h : ResAt K β O H H' v x) :
    ∃ O', Rel K β Oo H0 O' σ H' env st' ∧ Same (Fz O H) (Fz O' H') ∧ (∀ a, O a → O' a) ∧ Held K β H0 O' σ env H' v x ∧ ∀ d p, x = .ow d → v = .ref p → ¬ O p := by
  cases x with
  | fz d => exact ⟨O, r.step sb bg, r.fzm sb, fun _ z => z, ⟨h, (fun _ _ z => by cases z), (fun _ _ z => by cases z)⟩, fun _ _ z => by cases z⟩
  | bag => exact ⟨O, r.step sb bg, r.fzm sb, fun _ z => z, ⟨h, (fun _ _ z => by cases z), (fun _ _ z => by cases z)⟩, fun _ _ z => by cases z⟩
  | scr ns => exact ⟨O, r.step sb bg, r.fzm sb, fun _ z => z, ⟨h, (fun _ _ z => by cases z), (fun _ _ z => by cases z)⟩, fun _ _ z => by cases z⟩
  | fnc _ _ _ _ => exact h.elim
  | ow d =>
    obtain ⟨p, rfl, h1, h2, h3⟩ := h
    have w := r.putOw σ.length sb bg h1 h2 h3
    have e1 : σ.set σ.length (some (.ref p)) = σ := List.set_eq_of_length_le (Nat.le_refl _)
    have e2 : env.set σ.length (some (.ow d)) = env := List.set_eq_of_length_le (by rw [r.len]; exact Nat.le_refl _)
    rw [e1, e2] at w
    have nO := r.notO h1
    refine ⟨orO O p, w, r.putOw_same sb h1, fun _ z => .inl z, ⟨⟨p, rfl, .inr rfl, h2, h3⟩, fun d' p' _ e => ?_, fun d' p' _ e j d2 ej z => ?_⟩, fun d' p' _ e => ?_⟩
    · cases e
      exact r.sb.dm p h2 h1
    · cases e
      obtain ⟨u, g1, b, rfl, g2, _⟩ := r.sl j _ ej
      rw [g1] at z; cases z
      exact nO g2
    · cases e; exact nO
theorem Held.later (h : Held K β H0 O σ env H v x) (e : Same (Fz O H) (Fz O' H')) (sb : SB β H H') (hO : ∀ a, O a → O' a) : Held K β H0 O' σ env H' v x :=
  ⟨h.sl.mono e sb fun a d _ _ z => hO a z, h.fr, h.ne⟩
theorem Rel.putH (r : Rel K β Oo H0 O σ H env st) (i : Nat) (h : Held K β H0 O σ env H v x) : Rel K β Oo H0 O (σ.set i (some v)) H (env.set i (some x)) st where
  sl := fun j y e => by
    rcases get_set e with ⟨rfl, hl, e⟩ | ⟨hj, e⟩
    · cases e; exact ⟨v, List.getElem?_set_self (by rw [← r.len]; exact hl), h.sl⟩
    · rw [set_ne hj]; exact r.sl j y e
  ne := fun j k d e a hjk h1 h2 h3 => by
    rcases get_set h1 with ⟨ej, hl, z⟩ | ⟨hj, g1⟩
    · rcases get_set h2 with ⟨ek, _, z2⟩ | ⟨hk, g2⟩
      · exact absurd (ej.trans ek.symm) hjk
      · rw [set_ne hk]
        rw [ej, List.getElem?_set_self (by rw [← r.len]; exact hl)] at h3
        cases h3
        exact h.ne d a (Option.some.inj z).symm rfl k e g2
    · rw [set_ne hj] at h3
      rcases get_set h2 with ⟨ek, hl, z2⟩ | ⟨hk, g2⟩
      · rw [ek, List.getElem?_set_self (by rw [← r.len]; exact hl)]
        intro z
        cases z
        exact h.ne e a (Option.some.inj z2).symm rfl j d g1 h3
      · rw [set_ne hk]
        exact r.ne j k d e a hjk g1 g2 h3
  fr := fun j d' a h1 h2 => by
    rcases get_set h1 with ⟨rfl, hl, z⟩ | ⟨hj, h1⟩
    · rw [List.getElem?_set_self (by rw [← r.len]; exact hl)] at h2
      cases h2; exact h.fr d' a (Option.some.inj z).symm rfl
    · rw [set_ne hj] at h2
      exact r.fr j d' a h1 h2
  len := by rw [List.length_set, List.length_set]; exact r.len
  sub := r.sub
  dom := r.dom
  dom0 := r.dom0
  sb := r.sb
  bag := r.bag
  bO := r.bO
  tabs := r.tabs
/-- held beside another one that was stored -/
theorem Held.beside (r : Rel K β Oo H0 O σ H env st) (h : Held K β H0 O' σ env H' v x) {v1 : V} {x1 : R} (i : Nat) (h1 : Held K β H0 O σ env H v1 x1) (hn : ∀ d p, x = .ow d → v = .ref p → ¬ O p) : Held K β H0 O' (σ.set i (some v1)) (env.set i (some x1)) H' v x where
  sl := h.sl
  fr := h.fr
  ne := fun d p hx hv j d' ej z => by
    rcases get_set ej with ⟨rfl, hl, e⟩ | ⟨hj, ej⟩
    · rw [List.getElem?_set_self (by rw [← r.len]; exact hl)] at z
      cases z
      cases e
      obtain ⟨a, e1, e2, _⟩ := h1.sl
      cases e1
      exact hn d p hx hv e2
    · rw [set_ne hj] at z
      exact h.ne d p hx hv j d' ej z
end
theorem ss_par2 (C : CxS F S X) {x y : Str} {i j : Nat} {px py pt pt2 pos : Pos} {k k2 : Nat} {a b : Expr} {f g : EF} (h : swap2 S x y px py a b = true) (hx : tgtSlot S x = some i) (hy : tgtSlot S y = some j) (hij : i ≠ j) (ha : SoundE X a f) (hb : SoundE X b g) :
    SoundS X (.Assign [.Tuple [.Name x px, .Name y py] k pt] (.Tuple [a, b] k2 pt2) pos) (par2F i j f g) := by
  intro β Oo H0 O σ H env env' st st' o D rel hf q
  obtain ⟨⟨r1, s1⟩, e1, hf⟩ := bind1 hf
  obtain ⟨⟨r2, s2⟩, e2, hf⟩ := map1 hf
  cases hf
  obtain ⟨sw, lx, ly, _, na, nb⟩ := swap2_ok C (k := k) (pt := pt) (k2 := k2) (pt2 := pt2) h
  obtain ⟨h1, h2, _, _⟩ := tgtSlot_ok C hx
  obtain ⟨_, h3, _, _⟩ := tgtSlot_ok C hy
  have pa : PA X [a, b] _ := pa_cons (we_pe X a) (pa_cons (we_pe X b) pa_nil (noStar_ok nb [] X.env)) (noStar_ok na [b] X.env)
  refine (ps_par C.calm h1 h2 h3 hij lx ly pa sw (sole_ok _ _ _ _ _ _)).ws (ha rel e1 fun v H1 sb1 bg1 rv => ?_)
  obtain ⟨O1, rel1, sm1, hO1, hd1, _⟩ := rel.grab sb1 bg1 rv
  refine hb rel1 e2 fun w H2 sb2 bg2 rw' => ⟨v, w, rfl, ?_⟩
  obtain ⟨O2, rel2, sm2, hO2, hd2, hn2⟩ := rel1.grab sb2 bg2 rw'
  have r3 := rel2.putH i (hd1.later sm2 sb2 hO2)
  exact q _ _ _ (r3.putH j (hd2.beside rel1 i hd1 hn2)) (sm1.trans sm2)
def swap3 (S : Sx) (x y z : Str) (px py pz : Pos) (a b c : Expr) : Bool :=
  decide (S.sc.names.lookup x = some .local) && decide (S.sc.names.lookup y = some .local) && decide (S.sc.names.lookup z = some .local) && (py.line == px.line) && (pz.line == px.line) && decide (x ≠ y) && decide (x ≠ z) && decide (y ≠ z) && noStar a && noStar b && noStar c && !([a, b, c].all (foldedForSure 8)) && !([a, b, c].all (constantsAlone 8))
theorem swap3_ok (C : CxS F S X) {x y z : Str} {px py pz pt pt2 : Pos} {k k2 : Nat} {a b c : Expr} (h : swap3 S x y z px py pz a b c = true) :
    swappedStores [.Tuple [.Name x px, .Name y py, .Name z pz] k pt] (.Tuple [a, b, c] k2 pt2) X.env = pure (some [x, y, z]) ∧ X.env.scope.names.lookup x = some .local ∧ X.env.scope.names.lookup y = some .local ∧ X.env.scope.names.lookup z = some .local ∧ noStar a = true ∧ noStar b = true ∧ noStar c = true := by
  unfold swap3 at h
  simp only [Bool.and_eq_true, decide_eq_true_eq, Bool.not_eq_true'] at h
  obtain ⟨⟨⟨⟨⟨⟨⟨⟨⟨⟨⟨⟨h1, h2⟩, h3⟩, l1⟩, l2⟩, n1⟩, n2⟩, n3⟩, a1⟩, a2⟩, a3⟩, h7⟩, h8⟩ := h
  rw [← C.sc] at h1 h2 h3
  refine ⟨?_, h1, h2, h3, a1, a2, a3⟩
  have k1 : X.env.kindOf x = some .local := h1
  have k2' : X.env.kindOf y = some .local := h2
  have k3 : X.env.kindOf z = some .local := h3
  have bk := blockKind_ok C.kind
  have m1 := noStar_any a a1
  have m2 := noStar_any b a2
  have m3 := noStar_any c a3
  have l1' : py.line = px.line := eq_of_beq l1
  have l2' : pz.line = px.line := eq_of_beq l2
  have fm : ([Expr.Name x px, Expr.Name y py, Expr.Name z pz].filterMap fun
    | .Name id pos => if X.env.kindOf id == some .local && pos.line == px.line then some id else none
    | _ => none) = [x, y, z] := by
    rw [List.filterMap_cons, List.filterMap_cons, List.filterMap_cons, List.filterMap_nil]
    simp [k1, k2', k3, l1', l2']
  have ed : ([x, y, z] : List Str).eraseDups.length = 3 := by
    simp [List.eraseDups_cons, Ne.symm n1, Ne.symm n2, Ne.symm n3]
  have an : ([a, b, c].any fun | .Starred .. => true | _ => false) = false := by
    simp only [List.any_cons, List.any_nil, Bool.or_false]
    exact Bool.or_eq_false_iff.mpr ⟨m1, Bool.or_eq_false_iff.mpr ⟨m2, m3⟩⟩
  unfold swappedStores
  simp only [List.length_cons, List.length_nil, bk, h7, h8, List.head?_cons, Option.map_some, Option.getD_some, Expr.pos]
  refine (if_neg (by decide)).trans ((if_neg (fun z => Bool.noConfusion (an.symm.trans z))).trans ((if_neg (fun w => ?_)).trans ((if_neg (by decide)).trans ((if_neg (by decide)).trans ?_))))
  · have z' := w
    revert z'
    show ¬ ((([Expr.Name x px, Expr.Name y py, Expr.Name z pz].filterMap fun
        | .Name id pos => if X.env.kindOf id == some .local && pos.line == px.line then some id else none
        | _ => none).length != 3 || ([Expr.Name x px, Expr.Name y py, Expr.Name z pz].filterMap fun
        | .Name id pos => if X.env.kindOf id == some .local && pos.line == px.line then some id else none
        | _ => none).eraseDups.length != ([Expr.Name x px, Expr.Name y py, Expr.Name z pz].filterMap fun
        | .Name id pos => if X.env.kindOf id == some .local && pos.line == px.line then some id else none
        | _ => none).length) = true)
    rw [fm, ed]
    exact (by decide : ¬ ((3 != 3 || 3 != 3) = true))
  · exact congrArg (fun l => (pure (some l) : Sem (Option (List Str)))) fm
def par3F (i j l : Nat) (f g e : EF) (env : Env') (st : BSt) : Option (Out × Env' × BSt) := (f env st).bind fun p => (g env p.2).bind fun q => (e env q.2).map fun w => (.nx, ((env.set i (some p.1)).set j (some q.1)).set l (some w.1), w.2)
theorem ss_par3 (C : CxS F S X) {x y z : Str} {i j l : Nat} {px py pz pt pt2 pos : Pos} {k k2 : Nat} {a b c : Expr} {f g e : EF} (h : swap3 S x y z px py pz a b c = true) (hx : tgtSlot S x = some i) (hy : tgtSlot S y = some j) (hz : tgtSlot S z = some l)
    (hij : i ≠ j) (hil : i ≠ l) (hjl : j ≠ l) (ha : SoundE X a f) (hb : SoundE X b g) (hc : SoundE X c e) :
    SoundS X (.Assign [.Tuple [.Name x px, .Name y py, .Name z pz] k pt] (.Tuple [a, b, c] k2 pt2) pos) (par3F i j l f g e) := by
  intro β Oo H0 O σ H env env' st st' o D rel hf q
  obtain ⟨⟨r1, s1⟩, e1, hf⟩ := bind1 hf
  obtain ⟨⟨r2, s2⟩, e2, hf⟩ := bind1 hf
  obtain ⟨⟨r3, s3⟩, e3, hf⟩ := map1 hf
  cases hf
  obtain ⟨sw, lx, ly, lz, na, nb, nc⟩ := swap3_ok C (k := k) (pt := pt) (k2 := k2) (pt2 := pt2) h
  obtain ⟨h1, h2, _, _⟩ := tgtSlot_ok C hx
  obtain ⟨_, h3, _, _⟩ := tgtSlot_ok C hy
  obtain ⟨_, h4, _, _⟩ := tgtSlot_ok C hz
  have pa : PA X [a, b, c] _ := pa_cons (we_pe X a) (pa_cons (we_pe X b) (pa_cons (we_pe X c) pa_nil (noStar_ok nc [] X.env)) (noStar_ok nb [c] X.env)) (noStar_ok na [b, c] X.env)
  refine (ps_par3 C.calm h1 h2 h3 h4 hij hil hjl lx ly lz pa sw (sole_ok _ _ _ _ _ _)).ws (ha rel e1 fun v H1 sb1 bg1 rv => ?_)
  obtain ⟨O1, rel1, sm1, hO1, hd1, _⟩ := rel.grab sb1 bg1 rv
  refine hb rel1 e2 fun w H2 sb2 bg2 rw' => ?_
  obtain ⟨O2, rel2, sm2, hO2, hd2, hn2⟩ := rel1.grab sb2 bg2 rw'
  refine hc rel2 e3 fun u H3 sb3 bg3 ru => ⟨v, w, u, rfl, ?_⟩
  obtain ⟨O3, rel3, sm3, hO3, hd3, hn3⟩ := rel2.grab sb3 bg3 ru
  have d1' := hd1.later sm2 sb2 hO2
  have q1 := rel3.putH i (d1'.later sm3 sb3 hO3)
  have q2 := q1.putH j ((hd2.later sm3 sb3 hO3).beside rel1 i hd1 hn2)
  have b3 := hd3.beside rel2 i d1' hn3
  have b3' := b3.beside (rel2.putH i d1') j (hd2.beside rel1 i hd1 hn2) hn3
  exact q _ _ _ (q2.putH l b3') (sm1.trans (sm2.trans sm3))
end
end Iv

set_option maxHeartbeats 4000000
namespace Iv
open PySem PySem.Spec PyProof.Rows L2
variable [Ct] [Nm]
section
variable {F : FT} {S : Sx} {X : Cx}
/-- what a slot owns changes -/
theorem Rel.mut {K : PySem.W.Frag} {β : Option Addr} {Oo O : Addr → Prop} {H0 H : Hp} {σ : L2.St} {env : Env'} {st : BSt} (r : Rel K β Oo H0 O σ H env st) {i : Nat} {d d' : D} {a : Addr} {ob o' : HO} (hi : env[i]? = some (some (.ow d))) (hv : σ[i]? = some (some (.ref a)))
    (hob : H a = some ob) (hnf : plainO ob = true) (ho : OwAt K O (upd H a o') a d') : Rel K β Oo H0 O σ (upd H a o') (env.set i (some (.ow d'))) st ∧ Same (Fz O H) (Fz O (upd H a o')) := by
  obtain ⟨v, hv', b, rfl, hO, hn, _⟩ := r.sl i _ hi
  rw [hv] at hv'; cases hv'
  have a0 := r.fr i d a hi hv
  have fm : Same (Fz O H) (Fz O (upd H a o')) := fun b o e => by
    obtain ⟨n, e, t⟩ := fz_some3 e
    exact fz_put n (by rw [upd_ne (fun z => n (by rw [z]; exact hO))]; exact e) t
  refine ⟨?_, fm⟩
  exact {
    sl := fun j y ej => by
      rcases get_set ej with ⟨rfl, _, z⟩ | ⟨hj, ej⟩
      · cases z; exact ⟨_, hv, a, rfl, hO, hn, ho⟩
      · obtain ⟨w, h1, h2⟩ := r.sl j y ej
        refine ⟨w, h1, ?_⟩
        cases y with
        | fz dy => exact Rp.mono fm h2
        | ow dy =>
          obtain ⟨b, rfl, g1, g2, g3⟩ := h2
          have ne : b ≠ a := fun z => by subst z; exact r.ne i j d dy b (fun z => hj z.symm) hi ej hv h1
          exact ⟨b, rfl, g1, g2, g3.mono fm fun o _ q => by rw [upd_ne ne]; exact q⟩
        | bag => exact h2
        | scr ns =>
          obtain ⟨b, rfl, g2⟩ := h2
          refine ⟨b, rfl, ?_⟩
          rcases g2 with ⟨g1, o, g2⟩ | g2 | ⟨g1, g2⟩
          · exact .inl ⟨g1, o, by rw [upd_ne (fun z => by rw [z, hob] at g2; cases g2; cases hnf)]; exact g2⟩
          · exact .inr (.inl g2)
          · exact .inr (.inr ⟨g1, fm _ _ g2⟩)
        | fnc f F ws dsF =>
          obtain ⟨rfl, g⟩ := h2
          refine ⟨rfl, g.nf, g.nc, ?_, ?_, g.rp.mono fm⟩
          · rw [upd_ne (fun z => by have := g.ob; rw [z, hob] at this; cases this; cases hnf)]; exact g.ob
          · rw [upd_ne (fun z => by have := g.co; rw [z, hob] at this; cases this; cases hnf)]; exact g.co
    ne := fun j k d1 e1 b hjk h1 h2 h3 => by
      have f : ∀ {m : Nat} {dm : D}, (env.set i (some (.ow d')))[m]? = some (some (.ow dm)) → ∃ dm', env[m]? = some (some (.ow dm')) := fun {m dm} q => by
        rcases get_set q with ⟨rfl, _, z⟩ | ⟨hm, q⟩
        · exact ⟨d, hi⟩
        · exact ⟨dm, q⟩
      obtain ⟨_, g1⟩ := f h1
      obtain ⟨_, g2⟩ := f h2
      exact r.ne j k _ _ b hjk g1 g2 h3
    fr := fun j dj b h1 h2 => by
      rcases get_set h1 with ⟨rfl, _, z⟩ | ⟨hj, h1⟩
      · exact r.fr j d b hi h2
      · exact r.fr j dj b h1 h2
    len := by rw [List.length_set]; exact r.len
    sub := r.sub
    dom := fun b hb => by
      by_cases z : b = a
      · rw [z]; exact ho.plain
      · rw [upd_ne z]; exact r.dom b hb
    dom0 := r.dom0
    sb := r.sb.mut hob hnf (.inr a0)
    bag := r.bag.mono fun b o hb e => by rw [upd_ne (fun z => hn (by rw [hb, z]))]; exact e
    bO := r.bO
    tabs := fun p hp => tab_upd hob hnf (r.tabs p hp) }
/-- the bag changes -/
theorem Rel.setBag {K : PySem.W.Frag} {β : Option Addr} {Oo O : Addr → Prop} {H0 H : Hp} {σ : L2.St} {env : Env'} {st : BSt} {g s : Int} (r : Rel K β Oo H0 O σ H env st) {b : Addr} (hβ : β = some b) :
    Rel K β Oo H0 O σ (upd H b (.lst [.int g, .int s])) env (some (g, s)) ∧ Same (Fz O H) (Fz O (upd H b (.lst [.int g, .int s]))) := by
  obtain ⟨g0, s0, _, hb0⟩ := r.bag.get hβ
  have sb : SB β H (upd H b (.lst [.int g, .int s])) := SB.refl.mut hb0 rfl (.inl hβ)
  exact ⟨r.step sb ⟨b, hβ, upd_same⟩, r.fzm sb⟩
/-! ### x.append(e) -/
def appF (S : Sx) (x : Str) (f : EF) (env : Env') (st : BSt) : Option (Out × Env' × BSt) := match slotOf S x with
  | some i => (f env st).bind fun p => p.1.d?.bind fun d => (match env[i]? with
    | some (some (.ow (.list ds))) => if decide (ds.length < sizeLine) then some (.nx, env.set i (some (.ow (.list (ds ++ [d])))), p.2) else none
    | _ => none)
  | none => none
theorem few_ok {e : Expr} (h : noStar e = true) (env : Env) (cpos : Pos) : ((backTo cpos (starEach [e] env)).all (fun x => !x.1) && (backToKw cpos (keywordEach [] env)).all (fun x => x.1.isSome)
      && decide (([e] : List Expr).length + ([] : List Keyword).length + (if ([] : List Keyword).isEmpty then 0 else 1) < 30)) = true := by
  rw [noStar_ok h]; rfl
theorem ss_app (C : CxS F S X) {x : Str} {e : Expr} {f : EF} {p apos cpos pos : Pos} (hl : (apos.endLine == cpos.line) = true) (hn : noStar e = true) (he : SoundE X e f) : SoundS X (.Expr (.Call (.Attribute (.Name x p) "append" apos) [e] [] cpos) pos) (appF S x f) := by
  intro β Oo H0 O σ H env env' st st' o D rel h q
  unfold appF at h
  cases es : slotOf S x with
  | none => rw [es] at h; cases h
  | some i =>
    rw [es] at h
    obtain ⟨h1, h2, h3, h4⟩ := slotOf_ok C es
    obtain ⟨⟨r, s1⟩, e1, h⟩ := bind1 h
    obtain ⟨d, e2, h⟩ := bind1 h
    dsimp only at h
    split at h
    · rename_i ds e3
      obtain ⟨c, h⟩ := ite_some h
      cases h
      obtain ⟨v, hv, a, rfl, hO, hn', xs, ha, rxs⟩ := rel.sl i _ e3
      refine (ps_expr (pe_bm PySem.F.plainAttrs_list PySem.F.slot_list_append PySem.F.type_list_append mt_append (pe_var h1 h2 h3 h4) (pa_cons (we_pe X e) pa_nil (noStar_ok hn [] X.env)) rfl (few_ok hn X.env cpos) hl (noStar_ok hn [] X.env) rfl) rfl).ws
        ⟨_, hv, .inl ⟨rfl, _, SqL.of ha⟩, he rel e1 fun w H1 sb1 bg1 rw' => ?_⟩
      have rel1 := rel.step sb1 bg1
      have ha1 := sb1.go a _ hn' rfl ha
      have rx1 := rxs.mono (rel.fzm sb1)
      refine ⟨a, xs, w, rfl, rfl, ha1, by rw [rxs.length]; exact of_decide_eq_true c, ?_⟩
      obtain ⟨r2, sm⟩ := rel1.mut (d' := .list (ds ++ [d])) (o' := .lst (xs ++ [w])) e3 hv ha1 rfl ⟨_, upd_same, (rx1.append (.one (rw'.rp rel e2))).mono fun b o q => by
        obtain ⟨n, q, t⟩ := fz_some3 q
        exact fz_put n (by rw [upd_ne (fun z => n (by rw [z]; exact hO))]; exact q) t⟩
      exact q _ _ _ r2 ((rel.fzm sb1).trans sm)
    · cases h
/-! ### x[i] = e: a list's, a dict's, the bag's -/
def keyOf : D → Option Key
  | .int i => some (.inl i)
  | .str x => some (.inr x)
  | _ => none
theorem keyOf_ok {d : D} {k : Key} (h : keyOf d = some k) : d = kD k := by
  cases d <;> cases h <;> rfl
def putD (kds : List (D × D)) (k : Key) (v : D) : List (D × D) :=
  if (kds.any fun kv => decide (keyOf kv.1 = some k)) = true then kds.map (fun kv => if keyOf kv.1 = some k then (kv.1, v) else kv) else kds ++ [(kD k, v)]
def setN (S : Sx) (x : Str) (f : EF) (g : VF) (env : Env') (st : BSt) : Option (Out × Env' × BSt) := match slotOf S x with
  | some i => (f env st).bind fun p => p.1.d?.bind fun d => (g env p.2).bind fun q => (match env[i]? with
    | some (some (.ow (.list ds))) => (match q.1 with
      | .int k => (ixN ds.length k).map fun j => (.nx, env.set i (some (.ow (.list (ds.set j d)))), q.2)
      | _ => none)
    | some (some (.ow (.dict kds))) => (keyOf q.1).bind fun k => if decide (kds.length < sizeLine) && plainK kds then some (.nx, env.set i (some (.ow (.dict (putD kds k d)))), q.2) else none
    | some (some .bag) => (match q.2, q.1, d with
      | some b, .int 0, .int n => some (.nx, env, some (n, b.2))
      | some b, .int 1, .int n => some (.nx, env, some (b.1, n))
      | _, _, _ => none)
    | _ => none)
  | none => none
theorem keyOf_kD (k : Key) : keyOf (kD k) = some k := by cases k <;> rfl
theorem any_keys {k : Key} : ∀ {kds : List (D × D)} {kvs : List (Key × V)}, kds.map (·.1) = kvs.map (fun p => kD p.1) → (kds.any fun kv => decide (keyOf kv.1 = some k)) = (kvs.any fun kv => decide (kv.1 = k))
  | [], [], _ => rfl
  | [], _ :: _, h => by simp at h
  | _ :: _, [], h => by simp at h
  | d :: kds, v :: kvs, h => by
    simp only [List.map_cons, List.cons.injEq] at h
    simp only [List.any_cons]
    rw [any_keys h.2, h.1, keyOf_kD]
    congr 1
    simp
theorem map_keys {k : Key} {v : D} {w : V} : ∀ {kds : List (D × D)} {kvs : List (Key × V)}, kds.map (·.1) = kvs.map (fun p => kD p.1) →
    (kds.map (fun kv => if keyOf kv.1 = some k then (kv.1, v) else kv)).map (·.1) = (kvs.map (fun kv => if kv.1 = k then (kv.1, w) else kv)).map (fun p => kD p.1)
  | [], [], _ => rfl
  | [], _ :: _, h => by simp at h
  | _ :: _, [], h => by simp at h
  | d :: kds, u :: kvs, h => by
    simp only [List.map_cons, List.cons.injEq] at h
    simp only [List.map_cons]
    rw [map_keys (v := v) (w := w) h.2, h.1, keyOf_kD]
    congr 1
    by_cases e : u.1 = k
    · simp [e, h.1]
    · simp [e, h.1]
theorem map_vals {K : PySem.W.Frag} {hp : Hp} {k : Key} {v : D} {w : V} (hv : Rp K hp w v) : ∀ {kds : List (D × D)} {kvs : List (Key × V)}, kds.map (·.1) = kvs.map (fun p => kD p.1) → RpAll K hp (kvs.map (·.2)) (kds.map (·.2)) →
    RpAll K hp ((kvs.map (fun kv => if kv.1 = k then (kv.1, w) else kv)).map (·.2)) ((kds.map (fun kv => if keyOf kv.1 = some k then (kv.1, v) else kv)).map (·.2))
  | [], [], _, _ => .nil
  | [], _ :: _, h, _ => by simp at h
  | _ :: _, [], h, _ => by simp at h
  | d :: kds, u :: kvs, h, r => by
    simp only [List.map_cons, List.cons.injEq] at h
    simp only [List.map_cons] at r ⊢
    cases r with
    | cons r1 r2 =>
      refine .cons ?_ (map_vals hv h.2 r2)
      rw [h.1, keyOf_kD]
      by_cases e : u.1 = k
      · simp [e]; exact hv
      · simp [e]; exact r1
theorem putD_ok {K : PySem.W.Frag} {hp : Hp} {k : Key} {v : D} {w : V} {kds : List (D × D)} {kvs : List (Key × V)} (hv : Rp K hp w v) (h : kds.map (·.1) = kvs.map (fun p => kD p.1)) (r : RpAll K hp (kvs.map (·.2)) (kds.map (·.2))) :
    (putD kds k v).map (·.1) = (putK kvs k w).map (fun p => kD p.1) ∧ RpAll K hp ((putK kvs k w).map (·.2)) ((putD kds k v).map (·.2)) := by
  unfold putD putK
  rw [any_keys h]
  split
  · exact ⟨map_keys h, map_vals hv h r⟩
  · simp only [List.map_append, List.map_cons, List.map_nil]
    exact ⟨by rw [h], r.append (.one hv)⟩
theorem assignSub_ok (o i : Expr) (pos : Pos) (env : Env) (hi : plainIx i = true) : ∀ v, assign (.Subscript o i pos) env v = (do
      let ov ← holding [v] (eval o env)
      let iv ← holding [v, ov] (eval i env)
      standAt pos
      holding [v, ov, iv] (setItem ov iv v)
      release [v, ov, iv] []) := by
  intro v
  cases i <;> first | rfl | cases hi
theorem ss_setN (C : CxS F S X) {x : Str} {i e : Expr} {f : EF} {g : VF} {p ps pos : Pos} (hp : plainIx i = true) (hc : noComp e = true) (he : SoundE X e f) (hi : SoundV X i g) : SoundS X (.Assign [.Subscript (.Name x p) i ps] e pos) (setN S x f g) := by
  intro β Oo H0 O σ H env env' st st' o D rel h q
  unfold setN at h
  cases es : slotOf S x with
  | none => rw [es] at h; cases h
  | some n =>
    rw [es] at h
    obtain ⟨h1, h2, h3, h4⟩ := slotOf_ok C es
    obtain ⟨⟨r, s1⟩, e1, h⟩ := bind1 h
    obtain ⟨d, e2, h⟩ := bind1 h
    obtain ⟨⟨di, s2⟩, e3, h⟩ := bind1 h
    have hsw : swapsWith e (some (.Subscript (.Name x p) i ps)) pos.line X.env = pure false := noComp_ok hc _ _ _
    have hss : swappedStores [.Subscript (.Name x p) i ps] e X.env = pure none := by cases e <;> rfl
    dsimp only at h
    split at h
    · rename_i ds e4
      split at h
      · rename_i k
        obtain ⟨j, e5, h⟩ := map1 h
        cases h
        obtain ⟨v, hv, a, rfl, hO, hn, xs, ha, rxs⟩ := rel.sl n _ e4
        refine (ps_asg (we_pe X e) (pg_sub (pe_var h1 h2 h3 h4) (we_pe X i) set_list (assignSub_ok _ _ _ _ hp)) hsw hss rfl).ws (he rel e1 fun w H1 sb1 bg1 rw' => ⟨_, hv, ?_⟩)
        have rel1 := rel.step sb1 bg1
        refine hi rel1 e3 fun y H2 sb2 bg2 ty => ?_
        have rel2 := rel1.step sb2 bg2
        cases ty
        have ha2 := sb2.go a _ hn rfl (sb1.go a _ hn rfl ha)
        have rx2 := (rxs.mono (rel.fzm sb1)).mono (rel1.fzm sb2)
        have rd := (rw'.rp rel e2).mono (rel1.fzm sb2)
        refine ⟨a, xs, k, j, rfl, rfl, ha2, by rw [rxs.length]; exact e5, ?_⟩
        obtain ⟨r2, sm⟩ := rel2.mut (d' := .list (ds.set j d)) (o' := .lst (xs.set j w)) e4 hv ha2 rfl ⟨_, upd_same, (rx2.set j rd).mono fun b o q => by
          obtain ⟨n, q, t⟩ := fz_some3 q
          exact fz_put n (by rw [upd_ne (fun z => n (by rw [z]; exact hO))]; exact q) t⟩
        exact q _ _ _ r2 ((rel.fzm sb1).trans ((rel1.fzm sb2).trans sm))
      · cases h
    · rename_i kds e4
      obtain ⟨k, e5, h⟩ := bind1 h
      obtain ⟨c, h⟩ := ite_some h
      cases h
      rw [Bool.and_eq_true] at c
      obtain ⟨c, cp⟩ := c
      obtain ⟨v, hv, a, rfl, hO, hn, hdc⟩ := rel.sl n _ e4
      obtain ⟨kvs, ha, hks, rxs⟩ := DcAt.k hdc.1 cp
      have ha := DcAt.strict (K := X.K) (O := O) ha hdc.2
      refine (ps_dput (by have := C.hu; omega) (pe_var h1 h2 h3 h4) (we_pe X i) (we_pe X e) hsw).ws (he rel e1 fun w H1 sb1 bg1 rw' => ⟨_, hv, ?_⟩)
      have rel1 := rel.step sb1 bg1
      refine hi rel1 e3 fun y H2 sb2 bg2 ty => ?_
      have rel2 := rel1.step sb2 bg2
      have ha2 := sb2.go a _ hn rfl (sb1.go a _ hn rfl ha)
      have rx2 := (rxs.mono (rel.fzm sb1)).mono (rel1.fzm sb2)
      have rd := (rw'.rp rel e2).mono (rel1.fzm sb2)
      have ey : y = kV k := by
        rw [keyOf_ok e5] at ty
        cases k with
        | inl i => cases ty; rfl
        | inr i => cases ty; rfl
      have lk : kvs.length = kds.length := by simpa using congrArg List.length hks.symm
      rw [ey]
      refine ⟨a, _, rfl, DPut.k ha2 (by rw [lk]; exact of_decide_eq_true c), ?_⟩
      obtain ⟨p1, p2⟩ := putD_ok (k := k) rd hks rx2
      obtain ⟨r2, sm⟩ := rel2.mut (d' := .dict (putD kds k d)) (o' := .dK (putK kvs k w)) e4 hv ha2 rfl ⟨.inl ⟨_, .inl upd_same, p1, p2.mono fun b o q => by
        obtain ⟨n, q, t⟩ := fz_some3 q
        exact fz_put n (by rw [upd_ne (fun z => n (by rw [z]; exact hO))]; exact q) t⟩, _, upd_same, rfl⟩
      exact q _ _ _ r2 ((rel.fzm sb1).trans ((rel1.fzm sb2).trans sm))
    · rename_i e4
      obtain ⟨v, hv, b, hβ, rfl⟩ := rel.sl n _ e4
      have go : ∀ (m : Int) (kk : Int) (j : Nat) (bb : Int × Int) (g1 g2 : Int), d = .int m → di = .int kk → ixN 2 kk = some j → s2 = some bb → (∀ w : V, w = .int m → ([V.int bb.1, V.int bb.2].set j w) = [V.int g1, V.int g2]) → st' = some (g1, g2) → o = .nx → env' = env → Ws X (.Assign [.Subscript (.Name x p) i ps] e pos) D σ H := by
        rintro m kk j bb g1 g2 rfl rfl hj hbb hset rfl rfl rfl
        refine (ps_asg (we_pe X e) (pg_sub (pe_var h1 h2 h3 h4) (we_pe X i) set_list (assignSub_ok _ _ _ _ hp)) hsw hss rfl).ws (he rel e1 fun w H1 sb1 bg1 rw' => ⟨_, hv, ?_⟩)
        have rel1 := rel.step sb1 bg1
        refine hi rel1 e3 fun y H2 sb2 bg2 ty => ?_
        have rel2 := rel1.step sb2 bg2
        cases ty
        have rd := rw'.rp rel e2
        cases rd
        obtain ⟨u1, u2, eb, hb2⟩ := bg2.get hβ
        rw [hbb] at eb
        cases eb
        refine ⟨b, _, kk, j, rfl, rfl, hb2, hj, ?_⟩
        rw [hset _ rfl]
        obtain ⟨r3, sm⟩ := rel2.setBag (g := g1) (s := g2) hβ
        exact q _ _ _ r3 ((rel.fzm sb1).trans ((rel1.fzm sb2).trans sm))
      split at h
      · cases h
        exact go _ 0 0 _ _ _ rfl rfl rfl rfl (fun w hw => by rw [hw]; rfl) rfl rfl rfl
      · cases h
        exact go _ 1 1 _ _ _ rfl rfl rfl rfl (fun w hw => by rw [hw]; rfl) rfl rfl rfl
      · cases h
    · cases h
end
end Iv

set_option maxHeartbeats 4000000
namespace Iv
open PySem PySem.Spec PyProof.Rows L2
variable [Ct] [Nm]
section
variable {F : FT} {S : Sx} {X : Cx}
/-! ### x[i], x[j] = e -/
def swF (S : Sx) (x : Str) (f : EF) (g1 g2 : VF) (env : Env') (st : BSt) : Option (Out × Env' × BSt) := match slotOf S x with
  | some n => (f env st).bind fun p => (match p.1.d? with
    | some (.tuple [d1, d2]) => (g1 env p.2).bind fun q1 => (match env[n]? with
      | some (some (.ow (.list ds))) => (match q1.1 with
        | .int k1 => (ixN ds.length k1).bind fun j1 => (g2 (env.set n (some (.ow (.list (ds.set j1 d1))))) q1.2).bind fun q2 => (match q2.1 with
          | .int k2 => (ixN ds.length k2).map fun j2 => (.nx, env.set n (some (.ow (.list ((ds.set j1 d1).set j2 d2)))), q2.2)
          | _ => none)
        | _ => none)
      | _ => none)
    | _ => none)
  | none => none
theorem swSub_ok (x y : Expr) (i j : Expr) (k : Nat) (p1 p2 pt : Pos) (v : Expr) (env : Env) : swappedStores [.Tuple [.Subscript x i p1, .Subscript y j p2] k pt] v env = pure none := by
  cases v with
  | Tuple vs kk pp =>
    unfold swappedStores
    simp only [List.length_cons, List.length_nil]
    split
    · rfl
    · split
      · rfl
      · refine if_pos ?_
        rfl
  | _ => rfl
theorem ss_sw (C : CxS F S X) {x : Str} {i j v : Expr} {f : EF} {g1 g2 : VF} {k : Nat} {p p' ps ps' pt pos : Pos} (hi' : plainIx i = true) (hj' : plainIx j = true) (he : SoundE X v f) (hi : SoundV X i g1) (hj : SoundV X j g2) :
    SoundS X (.Assign [.Tuple [.Subscript (.Name x p) i ps, .Subscript (.Name x p') j ps'] k pt] v pos) (swF S x f g1 g2) := by
  intro β Oo H0 O σ H env env' st st' o D rel h q
  unfold swF at h
  cases es : slotOf S x with
  | none => rw [es] at h; cases h
  | some n =>
    rw [es] at h
    obtain ⟨h1, h2, h3, h4⟩ := slotOf_ok C es
    obtain ⟨⟨r, s1⟩, e1, h⟩ := bind1 h
    dsimp only at h
    split at h
    · rename_i d1 d2 e2
      obtain ⟨⟨di, s2⟩, e3, h⟩ := bind1 h
      dsimp only at h
      split at h
      · rename_i ds e4
        split at h
        · rename_i k1
          obtain ⟨j1, e5, h⟩ := bind1 h
          obtain ⟨⟨dj, s3⟩, e6, h⟩ := bind1 h
          dsimp only at h
          split at h
          · rename_i k2
            obtain ⟨j2, e7, h⟩ := map1 h
            cases h
            obtain ⟨v0, hv, a, rfl, hO, hn, xs, ha, rxs⟩ := rel.sl n _ e4
            refine (ps_asg (we_pe X v) (pg_tup C.calm (pgs_cons (pg_sub (pe_var h1 h2 h3 h4) (we_pe X i) set_list (assignSub_ok _ _ _ _ hi')) (pgs_cons (pg_sub (pe_var h1 h2 h3 h4) (we_pe X j) set_list (assignSub_ok _ _ _ _ hj')) pgs_nil rfl) rfl) rfl rfl) (sole_ok v _ _ _ _ _) (swSub_ok _ _ _ _ _ _ _ _ v X.env) rfl).ws (he rel e1 fun w H1 sb1 bg1 rw' => ?_)
            have rel1 := rel.step sb1 bg1
            obtain ⟨t, ws, rfl, ht, hws⟩ := rp_tup (rw'.rp rel e2)
            cases hws with
            | @cons w1 ws1 _ _ hw1 hws =>
              cases hws with
              | @cons w2 ws2 _ _ hw2 hws =>
                cases hws
                refine ⟨t, _, rfl, fz_tup ht, rfl, w1, [w2], rfl, _, hv, hi rel1 e3 fun y H2 sb2 bg2 ty => ?_⟩
                have rel2 := rel1.step sb2 bg2
                cases ty
                have ha2 := sb2.go a _ hn rfl (sb1.go a _ hn rfl ha)
                have rx2 := (rxs.mono (rel.fzm sb1)).mono (rel1.fzm sb2)
                have rd1 := hw1.mono (rel1.fzm sb2)
                have rd2 := hw2.mono (rel1.fzm sb2)
                refine ⟨a, xs, k1, j1, rfl, rfl, ha2, by rw [rxs.length]; exact e5, ?_⟩
                obtain ⟨r3, sm3⟩ := rel2.mut (d' := .list (ds.set j1 d1)) (o' := .lst (xs.set j1 w1)) e4 hv ha2 rfl ⟨_, upd_same, (rx2.set j1 rd1).mono fun b o q => by
                  obtain ⟨n, q, t⟩ := fz_some3 q
                  exact fz_put n (by rw [upd_ne (fun z => n (by rw [z]; exact hO))]; exact q) t⟩
                refine ⟨w2, [], rfl, _, hv, hj r3 e6 fun y2 H4 sb4 bg4 ty2 => ?_⟩
                have r4 := r3.step sb4 bg4
                cases ty2
                have ha4 := sb4.go a _ hn rfl (upd_same (H := H2) (a := a) (o := .lst (xs.set j1 w1)))
                have rx4 := ((rx2.set j1 rd1).mono sm3).mono (r3.fzm sb4)
                have rd4 := (rd2.mono sm3).mono (r3.fzm sb4)
                refine ⟨a, _, k2, j2, rfl, rfl, ha4, by rw [List.length_set, rxs.length]; exact e7, ?_⟩
                have hl : n < env.length := (List.getElem?_eq_some_iff.mp e4).1
                obtain ⟨r5, sm5⟩ := r4.mut (i := n) (d := .list (ds.set j1 d1)) (d' := .list ((ds.set j1 d1).set j2 d2)) (o' := .lst ((xs.set j1 w1).set j2 w2)) (List.getElem?_set_self hl) hv ha4 rfl ⟨_, upd_same, (rx4.set j2 rd4).mono fun b o q => by
                  obtain ⟨n, q, t⟩ := fz_some3 q
                  exact fz_put n (by rw [upd_ne (fun z => n (by rw [z]; exact hO))]; exact q) t⟩
                rw [List.set_set] at r5
                exact ⟨rfl, q _ _ _ r5 ((rel.fzm sb1).trans ((rel1.fzm sb2).trans (sm3.trans ((r3.fzm sb4).trans sm5))))⟩
          · cases h
        · cases h
      · cases h
    · cases h
/-! ### {}, {k: v} -/
def dict0 (_ : Env') (st : BSt) : Option (R × BSt) := some (.ow (.dict []), st)
theorem s_dict0 {pos : Pos} : SoundE X (.Dict [] [] pos) dict0 := by
  intro β Oo H0 O σ H env st r st' Q rel h q
  cases h
  refine pe_dnewK.we fun p hp => q _ _ (SB.laid hp) (same_bag (same_laid hp) rel.bag) ⟨p, rfl, hp, rel.neB hp, .inl ⟨[], .inl upd_same, rfl, .nil⟩, _, upd_same, rfl⟩
def dict1 (k v : VF) (env : Env') (st : BSt) : Option (R × BSt) := (k env st).bind fun p => (keyOf p.1).bind fun kk => (v env p.2).bind fun q => if flatD q.1 then some (.ow (.dict [(kD kk, q.1)]), q.2) else none
theorem s_dict1 {k v : Expr} {f g : VF} {pos : Pos} (hk : SoundV X k f) (hv : SoundV X v g) : SoundE X (.Dict [some k] [v] pos) (dict1 f g) := by
  intro β Oo H0 O σ H env st r st' Q rel h q
  obtain ⟨⟨dk, s1⟩, e1, h⟩ := bind1 h
  obtain ⟨kk, e2, h⟩ := bind1 h
  obtain ⟨⟨dv, s2⟩, e3, h⟩ := bind1 h
  obtain ⟨c, h⟩ := ite_some h
  cases h
  refine (pe_disp (pps_cons (we_pe X k) (we_pe X v) pps_nil) rfl rfl (fun z => by cases z) (by show 1 ≤ 15; decide)).we fun p hp => ?_
  have sb0 : SB β H (upd H p (.dK [])) := SB.laid hp
  have rel0 := rel.step sb0 (same_bag (same_laid hp) rel.bag)
  refine hk rel0 e1 fun x H1 sb1 bg1 tx => ?_
  have rel1 := rel0.step sb1 bg1
  refine hv rel1 e3 fun y H2 sb2 bg2 ty => ?_
  have rel2 := rel1.step sb2 bg2
  have np := rel.neB hp
  have ep : H2 p = some (.dK []) := sb2.go p _ np rfl (sb1.go p _ np rfl upd_same)
  have ex : x = kV kk := by
    have e2' : dk = kD kk := keyOf_ok e2
    rw [e2'] at tx
    cases kk with
    | inl i => cases tx; rfl
    | inr i => cases tx; rfl
  have ry : ∀ hp', Rp X.K hp' y dv := by
    intro hp'
    have c : flatD dv = true := c
    cases dv with
    | none => cases ty; exact .non
    | bool b => cases ty; exact .bl b
    | int i => cases ty; exact .int i
    | str z => cases ty; exact .str z
    | list _ => cases c
    | tuple _ => cases c
    | dict _ => cases c
  refine ⟨ep, [(kk, y)], by rw [ex]; rfl, by show 1 ≤ 15; decide, ?_⟩
  have nO : ¬ O p := rel.notO hp
  refine q _ _ ?_ ?_ ⟨p, rfl, hp, np, .inl ⟨[(kk, y)], .inl ?_, rfl, .one (ry _)⟩, _, upd_same, rfl⟩
  · exact ((sb0.trans sb1).trans sb2).mut ep rfl (.inr hp)
  · exact bg2.mono fun b o hb e => by rw [upd_ne (fun z => np (by rw [hb, z]))]; exact e
  · rw [upd_same]; rfl
/-! ### the bag is made -/
def frzAll (env : Env') : Env' := frzs (List.range env.length) env
def noOwS : Option R → Bool
  | some (.ow _) => false
  | _ => true
def noOw (env : Env') : Bool := env.all noOwS
def unbag : Option R → Option R
  | some .bag => none
  | x => x
theorem noOw_ok {env : Env'} (h : noOw env = true) {i : Nat} {d : D} (e : env[i]? = some (some (.ow d))) : False := by
  have := List.all_eq_true.mp h _ (List.mem_of_getElem? e)
  cases this
def noBagS : Option R → Bool
  | some .bag => false
  | _ => true
def bagF (i : Nat) (f : EF) (g : SF) (env : Env') (st : BSt) : Option (Out × Env' × BSt) := match st with
  | none => if noOw (frzAll env) && (frzAll env).all noBagS then (f (frzAll env) none).bind fun p => (match p with
    | (.ow (.list [.int a, .int b]), none) => (g ((frzAll env).set i (some .bag)) (some (a, b))).bind fun q => (match q.1 with
      | .rt (.fz d) => some (.rt (.fz d), env, none)
      | .rt _ => none
      | o => if noOw (frzAll q.2.1) then some (o, (frzAll q.2.1).map unbag, none) else none)
    | _ => none) else none
  | some _ => none
theorem ss_bag (C : CxS F S X) {x : Str} {i : Nat} {e : Expr} {rest : List Stmt} {f : EF} {g : SF} {p pos : Pos} (hx : tgtSlot S x = some i) (hc : noComp e = true) (he : SoundE X e f) (hg : SoundSs X rest g) : SoundSs X (.Assign [.Name x p] e pos :: rest) (bagF i f g) := by
  intro β Oo H0 O σ H env env' st st' o D rel h q
  unfold bagF at h
  cases st with
  | some _ => cases h
  | none =>
  have hβ : β = none := rel.bag
  cases hcc : noOw (frzAll env) && (frzAll env).all noBagS with
  | false => rw [hcc] at h; cases h
  | true =>
  rw [hcc] at h
  rw [Bool.and_eq_true] at hcc
  obtain ⟨c1, c2⟩ := hcc
  simp only [if_true] at h
  obtain ⟨O1, rel1, sm1⟩ := rel.frzs (List.range env.length)
  change Rel X.K β Oo H0 O1 σ H (frzAll env) none at rel1
  obtain ⟨⟨r, s1⟩, e1, h⟩ := bind1 h
  split at h
  · rename_i a b es
    cases es
    obtain ⟨⟨o2, env2, st2⟩, e2, h⟩ := bind1 h
    obtain ⟨h1, h2, h3, h4⟩ := tgtSlot_ok C hx
    refine (pss_cons (ps_set h1 h2 h3 (we_pe X e) (noComp_ok hc _ _ _) h4) (wss_pss X rest)).wss (he rel1 e1 fun v H1 sb1 bg1 rv => ?_)
    obtain ⟨pb, rfl, g1, g2, xs, g3, g4⟩ := rv
    have exs : xs = [.int a, .int b] := by
      cases g4 with
      | cons z1 z2 => cases z1; cases z2 with
        | cons z3 z4 => cases z3; cases z4; rfl
    subst exs
    have nO : ¬ O1 pb := rel1.notO g1
    have fm1 : Same (Fz O1 H) (Fz (orO O1 pb) H1) := rel1.putOw_same sb1 g1
    have relI : Rel X.K (some pb) (orO O1 pb) H1 (orO O1 pb) (σ.set i (some (.ref pb))) H1 ((frzAll env).set i (some .bag)) (some (a, b)) := {
      sl := fun j y ej => by
        rcases get_set ej with ⟨rfl, hl, z⟩ | ⟨hj, ej⟩
        · cases z; exact ⟨_, List.getElem?_set_self (by rw [← rel1.len]; exact hl), pb, rfl, rfl⟩
        · rw [set_ne hj]
          obtain ⟨w, w1, w2⟩ := rel1.sl j y ej
          refine ⟨w, w1, ?_⟩
          cases y with
          | fz d => exact Rp.mono fm1 w2
          | ow d => exact (noOw_ok c1 ej).elim
          | bag => have := List.all_eq_true.mp c2 _ (List.mem_of_getElem? ej); cases this
          | scr ns =>
            obtain ⟨aa, rfl, w4⟩ := w2
            rcases w4 with ⟨w3, oo, w4⟩ | w4 | ⟨w3, w4⟩
            · exact ⟨aa, rfl, .inl ⟨(fun z => by have z := Option.some.inj z; rw [← z, g1] at w4; cases w4), oo, sb1.go aa _ w3 rfl w4⟩⟩
            · exact ⟨aa, rfl, .inr (.inl w4)⟩
            · exact ⟨aa, rfl, .inr (.inr ⟨(fun z => by have z := Option.some.inj z; have w5 := (fz_some w4).2; rw [← z, g1] at w5; cases w5), fm1 _ _ w4⟩)⟩
          | fnc f F ws dsF =>
            obtain ⟨rfl, g⟩ := w2
            refine ⟨rfl, (fun z => ?_), (fun z => ?_), sb1.go _ _ g.nf rfl g.ob, sb1.go _ _ g.nc rfl g.co, g.rp.mono fm1⟩
            · have z := Option.some.inj z; have := g.ob; rw [← z, g1] at this; cases this
            · have z := Option.some.inj z; have := g.co; rw [← z, g1] at this; cases this
      ne := fun j k d e' aa hjk k1 k2 k3 => by
        rcases get_set k1 with ⟨_, _, z⟩ | ⟨_, k1⟩
        · cases z
        · exact (noOw_ok c1 k1).elim
      fr := fun j d aa k1 k2 => by
        rcases get_set k1 with ⟨_, _, z⟩ | ⟨_, k1⟩
        · cases z
        · exact (noOw_ok c1 k1).elim
      len := by rw [List.length_set, List.length_set]; exact rel1.len
      sub := fun _ z => z
      dom := fun aa ha => by
        rcases ha with ha | rfl
        · exact (rel1.step sb1 bg1).dom aa ha
        · exact ⟨_, g3, rfl⟩
      dom0 := fun aa ha => by
        rcases ha with ha | rfl
        · exact (rel1.step sb1 bg1).dom' aa ha
        · rw [g3]; simp
      sb := SB.refl
      bag := ⟨pb, rfl, g3⟩
      bO := fun b' z => .inr (Option.some.inj z).symm
      tabs := sb1.tb rel1.tabs }
    have over : ∀ {H2 : Hp}, SB (some pb) H1 H2 → SB β H H2 := fun {H2} s => by
      refine ⟨fun aa oo nb t ea => ?_, fun aa nb ea => ?_, fun t => s.tb (sb1.tb t)⟩
      · have ap : aa ≠ pb := ne_of_none ea g1
        exact s.go aa oo (fun z => ap (Option.some.inj z).symm) t (sb1.go aa oo nb t ea)
      · by_cases ap : aa = pb
        · rw [ap]; exact g1
        · exact sb1.dm aa nb (s.dm aa (fun z => ap (Option.some.inj z).symm) ea)
    have sub2 : ∀ {O2 : Addr → Prop} {σ2 : L2.St} {H2 : Hp} {env2 : Env'} {st2 : BSt}, Rel X.K (some pb) (orO O1 pb) H1 O2 σ2 H2 env2 st2 → Same (Fz (orO O1 pb) H1) (Fz O2 H2) → noOw (frzAll env2) = true →
        ∃ O4, Rel X.K β Oo H0 O4 σ2 H2 ((frzAll env2).map unbag) none ∧ Same (Fz O H) (Fz O4 H2) := fun {O2 σ2 H2 env2 st2} r2 sm2 n2 => by
      obtain ⟨O3, r3, sm3⟩ := r2.frzs (List.range env2.length)
      change Rel X.K (some pb) (orO O1 pb) H1 O3 σ2 H2 (frzAll env2) st2 at r3
      have un : ∀ {j : Nat} {y : R}, ((frzAll env2).map unbag)[j]? = some (some y) → (frzAll env2)[j]? = some (some y) ∧ y ≠ .bag := fun {j y} ej => by
        rw [List.getElem?_map] at ej
        obtain ⟨z, e1, e2⟩ := map1 ej
        cases z with
        | none => cases e2
        | some z => cases z <;> cases e2 <;> exact ⟨e1, fun z => by cases z⟩
      have fm2 : Same (Fz O3 H2) (Fz (orO O1 pb) H2) := fz_mono r3.sub fun _ _ _ _ z => z
      refine ⟨orO O1 pb, {
        sl := fun j y ej => by
          obtain ⟨ej, nb⟩ := un ej
          obtain ⟨w, w1, w2⟩ := r3.sl j y ej
          refine ⟨w, w1, ?_⟩
          cases y with
          | fz d => exact Rp.mono fm2 w2
          | ow d => exact (noOw_ok n2 ej).elim
          | bag => exact absurd rfl nb
          | scr ns =>
            obtain ⟨aa, rfl, w4⟩ := w2
            rcases w4 with ⟨w3, oo, w4⟩ | w4 | ⟨w3, w4⟩
            · exact ⟨aa, rfl, .inl ⟨by rw [hβ]; simp, oo, w4⟩⟩
            · exact ⟨aa, rfl, .inr (.inl w4)⟩
            · exact ⟨aa, rfl, .inr (.inr ⟨by rw [hβ]; simp, fm2 _ _ w4⟩)⟩
          | fnc f F ws dsF =>
            obtain ⟨rfl, g⟩ := w2
            exact ⟨rfl, (by rw [hβ]; simp), (by rw [hβ]; simp), g.ob, g.co, g.rp.mono fm2⟩
        ne := fun j k d e' aa hjk k1 k2 k3 => (noOw_ok n2 (un k1).1).elim
        fr := fun j d aa k1 k2 => (noOw_ok n2 (un k1).1).elim
        len := by rw [List.length_map]; exact r3.len
        sub := fun aa ha => .inl (rel1.sub aa ha)
        dom := fun aa ha => r3.dom aa (r3.sub aa ha)
        dom0 := rel1.dom0
        sb := rel1.sb.trans (over r3.sb)
        bag := hβ
        bO := rel1.bO
        tabs := r3.tabs }, ?_⟩
      exact sm1.trans (fm1.trans (sm2.trans (fz_mono r2.sub fun _ _ _ _ z => z)))
    have ne2 : ∀ {o3 : Out}, (if noOw (frzAll env2) = true then some (o3, (frzAll env2).map unbag, (none : BSt)) else none) = some (o, env', st') → noOw (frzAll env2) = true ∧ o3 = o ∧ (frzAll env2).map unbag = env' ∧ none = st' := fun {o3} hh => by
      cases hn : noOw (frzAll env2) with
      | false => rw [hn] at hh; cases hh
      | true => rw [hn] at hh; cases hh; exact ⟨rfl, rfl, rfl, rfl⟩
    refine hg relI e2 ?_
    cases o2 with
    | nx =>
      obtain ⟨n2, rfl, rfl, rfl⟩ := ne2 h
      exact fun σ2 H2 O2 r2 sm2 => let ⟨O4, r4, sm4⟩ := sub2 r2 sm2 n2; q _ _ _ r4 sm4
    | bk =>
      obtain ⟨n2, rfl, rfl, rfl⟩ := ne2 h
      exact fun σ2 H2 O2 r2 sm2 => let ⟨O4, r4, sm4⟩ := sub2 r2 sm2 n2; q _ _ _ r4 sm4
    | ct =>
      obtain ⟨n2, rfl, rfl, rfl⟩ := ne2 h
      exact fun σ2 H2 O2 r2 sm2 => let ⟨O4, r4, sm4⟩ := sub2 r2 sm2 n2; q _ _ _ r4 sm4
    | rt r =>
      cases r with
      | fz d =>
        cases h
        intro v H2 sb2 _ rv
        exact q v H2 (rel1.sb.trans (over sb2)) hβ (Rp.mono (fz_mono (fun aa ha => .inl (rel1.sub aa ha)) fun _ _ _ _ z => z) rv)
      | ow d => cases h
      | bag => cases h
      | scr ns => cases h
      | fnc _ _ _ _ => cases h
  · cases h
end
end Iv

set_option maxHeartbeats 4000000
namespace Iv
open PySem PySem.Spec PyProof.Rows L2
variable [Ct] [Nm]
/-! ### a def that was handed in is called -/
open Classical in
noncomputable def cloF (F : FT) (as : List R) (i : Nat) (af : AF) (env : Env') (st : BSt) : Option (R × BSt) := match env[i]? with
  | some (some (.fnc f F' ws ds)) => if R.fnc f F' ws ds ∈ as then (af env st).bind fun p => F F'.qual (p.1 ++ ds.map .fz) p.2 else none
  | _ => none
section
variable {F : FT} {S : Sx} {X : Cx}
theorem s_clo (C : CxS F S X) {x : Str} {i : Nat} {e : Expr} {es : List Expr} {f : AF} {p pos : Pos} (hx : slotOf S x = some i) (hn : noStar e = true) (hns : es.all noStar = true) (h : SoundA X (e :: es) f) :
    SoundE X (.Call (.Name x p) (e :: es) [] pos) (cloF F S.args i f) := by
  intro β Oo H0 O σ H env st r st' Q rel hf q
  unfold cloF at hf
  split at hf
  · rename_i fa F' ws ds e0
    split at hf
    · rename_i hm
      obtain ⟨⟨rs, s1⟩, e1, hf⟩ := bind1 hf
      obtain ⟨v, hv, rfl, hat⟩ := rel.sl i _ e0
      obtain ⟨h1, h2, h3, h4⟩ := slotOf_ok C hx
      obtain ⟨k, nd, hr, no, hlen, hc, hnf⟩ := C.clo _ _ _ _ hm
      intro pins s I
      refine wpAny_Call_Name_kw (thn ((pe_var (pos := p) h1 h2 h3 h4).run pins s σ H (fun v H1 => v = .ref fa ∧ H1 = H) I ⟨.ref fa, hv, rfl, rfl⟩) fun u s1' ⟨v, H1, I1, r1, q1⟩ => ?_)
      obtain ⟨ev, eH⟩ := q1
      subst ev
      rw [eH] at I1
      obtain rfl : u = Value.ref fa := r1
      have key : Wa X (e :: es) σ H fun vs H1 => H1 fa = some (NdefX.FnO fa F') ∧ H1 F'.c = some (LamX.CodeO F'.c F'.qual) ∧ spN X.K nd.ps.length (F F'.qual) (ws.map some) vs H1 Q E0 := by
        refine h rel e1 fun vs H1 sb1 bg1 av _ => ?_
        have rel1 := rel.step sb1 bg1
        refine ⟨sb1.go _ _ hat.nf rfl hat.ob, sb1.go _ _ hat.nc rfl hat.co, ?_, β, O, rs, ws, ds, _, r, st', rfl, av, hat.rp.mono (rel.fzm sb1), rel1.bO', rel1.dom, bg1, rel1.tabs, hf, fun v H2 sb2 bg2 rv => ?_⟩
        · have hl : rs.length + ds.length = nd.ps.length + nd.fr.length := by
            have := hlen _ _ _ hf
            rw [List.length_append, List.length_map] at this
            exact this
          have hw : ds.length = nd.fr.length := by
            have := hc.len
            rw [List.length_map] at this
            rw [← hat.rp.length]; exact this
          rw [paired_length av]; omega
        · exact q _ _ (sb1.trans sb2) bg2 (rv.back sb1)
      refine PySem.W.callWith_F (first := []) (NdefX.fnAt_of I1 hat.ob) (thn (key pos pins s1' I1) fun us s2 ⟨vs, H2, I2, r', g1, g2, g3⟩ => ⟨NdefX.fnAt_of I2 g1, ?_⟩) (noStar_ok hn es X.env) (noStars_any hns)
      show wpAny _ _ (call (.ref fa) us) _ _ _
      refine wpAny_call (codeAny_mono (no.run X.A X.stack s2 H2 us vs _ Q E0 hr I2.env0 g1 g2 (hc.later (fun y c e => (hnf y c e).1) (fun y c e => (hnf y c e).2) I2) r' g3) fun r s' hq => ?_)
      cases r with
      | error e => exact (pass0 : Passes CX0 X E0) pins σ H2 s2 e s' I2 hq
      | ok fl =>
        cases fl with
        | ret u => exact I2.after hq
        | next => exact False.elim hq
        | brk => exact False.elim hq
        | cont => exact False.elim hq
    · cases hf
  · cases hf
/-! ### a def that was made here is handed on, as the last argument -/
def capD (env : Env') : List Nat → Option (List D)
  | [] => some []
  | j :: js => match env[j]? with
    | some (some (.fz d)) => (capD env js).map (d :: ·)
    | _ => none
theorem capD_ok {K : PySem.W.Frag} {β : Option Addr} {Oo O : Addr → Prop} {H0 H : Hp} {σ : L2.St} {env : Env'} {st : BSt} (r : Rel K β Oo H0 O σ H env st) : ∀ {js : List Nat} {ds : List D}, capD env js = some ds → ∃ ws, RpAll K (Fz O H) ws ds ∧ js.map (NdefX.slotAt σ) = ws.map some
  | [], ds, h => by cases h; exact ⟨[], .nil, rfl⟩
  | j :: js, ds, h => by
    unfold capD at h
    split at h
    · rename_i d e
      obtain ⟨ds', e2, rfl⟩ := map1 h
      obtain ⟨ws, h1, h2⟩ := capD_ok r e2
      obtain ⟨v, hv, hr⟩ := r.sl j _ e
      exact ⟨v :: ws, .cons hr h1, by rw [List.map_cons, List.map_cons, h2, NdefX.slotAt_of hv]⟩
    · cases h
open Classical in
noncomputable def callC (F : FT) (g q : Str) (rs : List R) (ds : List D) (st : BSt) : Option (R × BSt) :=
  if h : ∃ o, ∀ (f : Addr) (F' : NdefX.NF) (ws : List V), F'.qual = q → ws.length = ds.length → F g (rs ++ [.fnc f F' ws ds]) st = some o then some (Classical.choose h) else none
theorem callC_ok {g q : Str} {rs : List R} {ds : List D} {st : BSt} {o : R × BSt} (h : callC F g q rs ds st = some o) (f : Addr) (F' : NdefX.NF) (ws : List V) (hq : F'.qual = q) (hl : ws.length = ds.length) : F g (rs ++ [.fnc f F' ws ds]) st = some o := by
  unfold callC at h
  split at h
  · rename_i z
    cases h
    exact Classical.choose_spec z f F' ws hq hl
  · cases h
theorem callC_eq {g q : Str} {rs : List R} {ds : List D} {st : BSt} {o : R × BSt} (h : ∀ (f : Addr) (F' : NdefX.NF) (ws : List V), F'.qual = q → ws.length = ds.length → F g (rs ++ [.fnc f F' ws ds]) st = some o) : callC F g q rs ds st = some o := by
  unfold callC
  have ex : ∃ o, ∀ (f : Addr) (F' : NdefX.NF) (ws : List V), F'.qual = q → ws.length = ds.length → F g (rs ++ [.fnc f F' ws ds]) st = some o := ⟨o, h⟩
  rw [dif_pos ex]
  have a := Classical.choose_spec ex 0 (NdefX.NF.of (.Pass ⟨0, 0, 0, 0⟩) q q [] 0) (List.replicate ds.length V.non) rfl (by simp)
  have b := h 0 (NdefX.NF.of (.Pass ⟨0, 0, 0, 0⟩) q q [] 0) (List.replicate ds.length V.non) rfl (by simp)
  rw [b] at a
  exact a.symm
open Classical in
noncomputable def clF (F : FT) (mk : List R) (js : List Nat) (g : Str) (i : Nat) (af : AF) (env : Env') (st : BSt) : Option (R × BSt) := match env[i]? with
  | some (some (.fnc f F' [] [])) => if R.fnc f F' [] [] ∈ mk then (af env st).bind fun p => (capD env js).bind fun ds => callC F g F'.qual p.1 ds p.2 else none
  | _ => none
/-- arguments, and a name behind them -/
inductive Prs (X : Cx) : List Expr → List EF → Prop
  | nil : Prs X [] []
  | cons {e : Expr} {f : EF} {es : List Expr} {fs : List EF} : noStar e = true → SoundE X e f → Prs X es fs → Prs X (e :: es) (f :: fs)
theorem wa_snoc {y : Str} {i : Nat} {py : Pos} (h1 : X.N[i]? = some y) (h2 : Vis X.env.scope y) (h3 : (y == ("__debug__" : Str)) = false) (h4 : (y == ("__classdict__" : Str)) = false) :
    ∀ {es : List Expr} {fs : List EF}, Prs X es fs → ∀ {β : Option Addr} {Oo : Addr → Prop} {H0 : Hp} {O : Addr → Prop} {σ : L2.St} {H : Hp} {env : Env'} {st st' : BSt} {rs : List R} {v : V} {Q : List V → Hp → Prop},
      Rel X.K β Oo H0 O σ H env st → argsF fs env st = some (rs, st') → σ[i]? = some (some v) → (∀ vs H', SB β H H' → BagAt β H' st' → ArgsAt X.K β O H' vs rs → NoF rs → Q (vs ++ [v]) H') → Wa X (es ++ [.Name y py]) σ H Q
  | _, _, .nil, β, Oo, H0, O, σ, H, env, st, st', rs, v, Q, rel, h, hv, q => by
    cases h
    exact (pa_cons (pe_var h1 h2 h3 h4) pa_nil (noStar_ok (e := .Name y py) rfl [] X.env)).wa ⟨v, hv, q [] H SB.refl rel.bag .nil (fun _ _ _ _ h => by cases h)⟩
  | _, _, .cons hn he hs, β, Oo, H0, O, σ, H, env, st, st', rs, v, Q, rel, h, hv, q => by
    rename_i e f es fs
    obtain ⟨⟨r, s1⟩, e1, h⟩ := bind1 h
    obtain ⟨⟨rs', s2⟩, e2, h⟩ := map1 h
    cases h
    refine (pa_cons (we_pe X e) (wa_pa X (es ++ [.Name y py])) (noStar_ok hn (es ++ [.Name y py]) X.env)).wa (he rel e1 fun w H1 sb1 bg1 rv => ?_)
    have rel1 := rel.step sb1 bg1
    refine wa_snoc h1 h2 h3 h4 hs rel1 e2 hv fun vs H2 sb2 bg2 rvs nf => ?_
    exact q _ _ (sb1.trans sb2) bg2 (.cons ((argAt_of rel rv).mono (rel1.fzm sb2) sb2) rvs) (noF_cons rv nf)
theorem prs_stars {es : List Expr} {fs : List EF} (h : Prs X es fs) : es.all noStar = true := by
  induction h with
  | nil => rfl
  | cons a _ _ ih => rw [List.all_cons, a, ih]; rfl
theorem s_cl (C : CxS F S X) {g y : Str} {i : Nat} {e : Expr} {es : List Expr} {f : EF} {fs : List EF} {p py pos : Pos} (hx : isFn S g = true) (hy : slotOf S y = some i) (h : Prs X (e :: es) (f :: fs)) :
    SoundE X (.Call (.Name g p) (e :: (es ++ [.Name y py])) [] pos) (clF F S.made S.cap g i (argsF (f :: fs))) := by
  intro β Oo H0 O σ H env st r st' Q rel hf q
  unfold clF at hf
  split at hf
  · rename_i fa F' e0
    split at hf
    · rename_i hm
      obtain ⟨⟨rs, s1⟩, e1, hf⟩ := bind1 hf
      obtain ⟨ds, e2, hf⟩ := bind1 hf
      obtain ⟨v, hv, rfl, hat⟩ := rel.sl i _ e0
      obtain ⟨h1, h2, h3, h4⟩ := slotOf_ok C hy
      obtain ⟨gg, ⟨k, ga, gd, ps, gb, g1, g2, g3, g4, g5, g7, g6⟩, hd⟩ := isFn_ok C hx
      obtain ⟨nd, c, hnd, hF, hcap⟩ := C.mad _ _ hm
      obtain ⟨ws, rw1, hws⟩ := capD_ok rel e2
      have hcall := callC_ok hf fa F' ws rfl rw1.length
      have hst : (es ++ [Expr.Name y py]).all noStar = true := by
        have := prs_stars h
        rw [List.all_cons, Bool.and_eq_true] at this
        rw [List.all_append, this.2]; rfl
      have hne : noStar e = true := by
        have := prs_stars h
        rw [List.all_cons, Bool.and_eq_true] at this
        exact this.1
      refine we_call g5 g7 g4 gg g1 g2 g3 hd hne hst (wa_snoc h1 h2 h3 h4 h rel e1 hv fun vs H1 sb1 bg1 av nf pins s I => ?_)
      have rel1 := rel.step sb1 bg1
      refine ⟨?_, β, O, vs, rs, some (fa, F', ws, ds), s1, r, st', rfl, av, nf, ⟨⟨hat.nf, hat.nc, sb1.go _ _ hat.nf rfl hat.ob, sb1.go _ _ hat.nc rfl hat.co, rw1.mono (rel.fzm sb1)⟩, nd, F'.cl, c, hnd, hF, ?_, (hcap I.ok).1⟩, rel1.bO', rel1.dom, bg1, rel1.tabs, hcall, fun v H2 sb2 bg2 rv => q _ _ (sb1.trans sb2) bg2 (rv.back sb1)⟩
      · have hl := g6 _ _ _ hcall
        rw [List.length_append] at hl ⊢
        rw [paired_length av]; exact hl
      · have := NdefX.cells_of I (hcap I.ok).2
        rw [hws] at this
        exact this
    · cases hf
  · cases hf
end
end Iv

set_option maxHeartbeats 4000000
namespace Iv
open PySem PySem.Spec PyProof.Rows L2
variable [Ct] [Nm]
/-! ### targets within targets -/
def setG : List GF → List D → Env' → Option Env'
  | [], [], env => some env
  | g :: gs, d :: ds, env => (g d env).bind fun env1 => setG gs ds env1
  | _, _, _ => none
def unG (gs : List GF) : GF := fun d env => match d with
  | .tuple ds => setG gs ds env
  | _ => none
def plainTg : Expr → Bool
  | .Name .. => true
  | .Tuple .. => true
  | _ => false
section
variable {F : FT} {S : Sx} {X : Cx}
inductive Tgs (X : Cx) : List Expr → List Nat → List GF → Prop
  | nil : Tgs X [] [] []
  | cons {e : Expr} {sl : List Nat} {g : GF} {es : List Expr} {sls : List Nat} {gs : List GF} : plainTg e = true → SoundG X e sl g → Tgs X es sls gs → Tgs X (e :: es) (sl ++ sls) (g :: gs)
theorem each_cons {e : Expr} {es : List Expr} {env : Env} (h : plainTg e = true) : assignEach (e :: es) env = (false, assign e env) :: assignEach es env := by
  cases e <;> first | rfl | cases h
theorem tgs_each {es : List Expr} {sl : List Nat} {gs : List GF} {env : Env} (h : Tgs X es sl gs) : (assignEach es env).length = es.length ∧ (assignEach es env).findIdx? (·.1) = none := by
  induction h with
  | nil => exact ⟨rfl, rfl⟩
  | cons hp _ _ ih =>
    rw [each_cons hp]
    refine ⟨by simp [ih.1], ?_⟩
    rw [List.findIdx?_cons]
    simp [ih.2]
theorem tgs_len {es : List Expr} {sl : List Nat} {gs : List GF} (h : Tgs X es sl gs) : gs.length = es.length := by
  induction h with
  | nil => rfl
  | cons _ _ _ ih => simp [ih]
theorem setG_len : ∀ {gs : List GF} {ds : List D} {env env' : Env'}, setG gs ds env = some env' → ds.length = gs.length
  | [], [], _, _, _ => rfl
  | _ :: gs, _ :: ds, _, _, h => by
    obtain ⟨e1, _, h⟩ := bind1 h
    simp [setG_len (gs := gs) h]
  | [], _ :: _, _, _, h => by cases h
  | _ :: _, [], _, _, h => by cases h
theorem g_tgs : ∀ {es : List Expr} {sl : List Nat} {gs : List GF}, Tgs X es sl gs → ∀ {β : Option Addr} {Oo : Addr → Prop} {H0 : Hp} {O : Addr → Prop} {σ : L2.St} {H : Hp} {env env' : Env'} {st : BSt} {vs : List V} {ds : List D} {Q : L2.St → Hp → Prop},
    Rel X.K β Oo H0 O σ H env st → RpAll X.K (Fz O H) vs ds → setG gs ds env = some env' → (∀ σ', Rel X.K β Oo H0 O σ' H env' st → σ'.length = σ.length → (∀ j, j ∉ sl → σ'[j]? = σ[j]?) → Q σ' H) → Wgs X es vs σ H Q
  | _, _, _, .nil, β, Oo, H0, O, σ, H, env, env', st, vs, ds, Q, rel, rv, hs, q => by
    cases ds with
    | nil =>
      cases hs; cases rv
      intro pins s us I r
      exact pgs_nil.run pins s σ H [] us Q I r ⟨rfl, q σ rel rfl fun _ _ => rfl⟩
    | cons d ds => cases hs
  | _, _, _, .cons hp hg ht, β, Oo, H0, O, σ, H, env, env', st, vs, ds, Q, rel, rv, hs, q => by
    rename_i e sl g es sls gs
    cases rv with
    | nil => cases hs
    | @cons v vs d ds r1 r2 =>
      obtain ⟨env1, e1, hs⟩ := bind1 hs
      intro pins s us I r
      refine (pgs_cons (wg_pg X e) (wgs_pgs X es) (by rw [each_cons hp]; rfl)).run pins s σ H (v :: vs) us Q I r ⟨v, vs, rfl, ?_⟩
      refine hg rel r1 e1 fun σ1 rel1 hl1 hk1 => ?_
      refine g_tgs ht rel1 r2 hs fun σ2 rel2 hl2 hk2 => q σ2 rel2 (hl2.trans hl1) fun j hj => ?_
      simp only [List.mem_append, not_or] at hj
      exact (hk2 j hj.2).trans (hk1 j hj.1)
theorem g_tupG (C : CxS F S X) {es : List Expr} {sl : List Nat} {gs : List GF} {k : Nat} {pos : Pos} (h : Tgs X es sl gs) : SoundG X (.Tuple es k pos) sl (unG gs) := by
  intro β Oo H0 O σ H env env' st v d Q rel rv hg q
  have ne := tgs_each (env := X.env) h
  unfold unG at hg
  split at hg
  · obtain ⟨a, xs, rfl, h1, h2⟩ := rp_tup rv
    refine (pg_tup C.calm (wgs_pgs X es) ne.1 ne.2).wg ⟨a, xs, rfl, fz_tup h1, ?_, g_tgs h rel h2 hg q⟩
    rw [h2.length, setG_len hg, tgs_len h]
  · cases hg
/-- names, and tuples of names, one within another -/
def tgN : Nat → Sx → Expr → Option (List Nat × GF)
  | _, S, .Name x _ => (tgtSlot S x).map fun i => ([i], setF i)
  | 0, _, _ => none
  | n + 1, S, .Tuple es _ _ => (match slotsT S es with
    | some is => some (is, unF is)
    | none => (tgL n S es).map fun p => (p.1, unG p.2))
  | _, _, _ => none
where tgL (n : Nat) (S : Sx) : List Expr → Option (List Nat × List GF)
  | [] => some ([], [])
  | e :: es => if plainTg e then (tgN n S e).bind fun p => (tgL n S es).map fun q => (p.1 ++ q.1, p.2 :: q.2) else none
/-! ### x += e, x -= e -/
def augO : Operator → Int → Int → Option Int
  | .Add, a, b => some (a + b)
  | .Sub, a, b => some (a - b)
  | _, _, _ => none
def augF (op : Operator) (i : Nat) (f : VF) (env : Env') (st : BSt) : Option (Out × Env' × BSt) := match env[i]? with
  | some (some (.fz (.int a))) => (f env st).bind fun p => (match p.1 with
    | .int b => (augO op a b).map fun c => (.nx, env.set i (some (.fz (.int c))), p.2)
    | _ => none)
  | some (some (.ow (.list ds))) => (f env st).bind fun p => (match op, p.1 with
    | .Add, .list es => if lenOk (ds.length + es.length) then some (.nx, env.set i (some (.ow (.list (ds ++ es)))), p.2) else none
    | _, _ => none)
  | _ => none
theorem tgN_ok (C : CxS F S X) : ∀ (n : Nat) {tg : Expr} {p : List Nat × GF}, tgN n S tg = some p → SoundG X tg p.1 p.2 := by
  have nm : ∀ {x : Str} {pos : Pos} {p : List Nat × GF}, ((tgtSlot S x).map fun i => ([i], setF i)) = some p → SoundG X (.Name x pos) p.1 p.2 := fun h => by
    obtain ⟨i, e, rfl⟩ := map1 h; exact g_name C e
  intro n
  induction n with
  | zero =>
    intro tg p h
    cases tg with
    | Name x pos => exact nm h
    | _ => cases h
  | succ n ih =>
    have hL : ∀ {es : List Expr} {q : List Nat × List GF}, tgN.tgL n S es = some q → Tgs X es q.1 q.2 := by
      intro es
      induction es with
      | nil => intro q h; cases h; exact .nil
      | cons e es ihe =>
        intro q h
        unfold tgN.tgL at h
        split at h
        · rename_i hp
          obtain ⟨p1, e1, h⟩ := bind1 h
          obtain ⟨q1, e2, rfl⟩ := map1 h
          exact .cons hp (ih e1) (ihe e2)
        · cases h
    intro tg p h
    cases tg with
    | Name x pos => exact nm h
    | Tuple es k pos =>
      unfold tgN at h
      split at h
      · rename_i is e1
        cases h
        exact g_tup C e1
      · obtain ⟨q, e2, rfl⟩ := map1 h
        exact g_tupG C (hL e2)
    | _ => cases h
theorem ss_aug (C : CxS F S X) {x : Str} {i : Nat} {e : Expr} {op : Operator} {f : VF} {p pos : Pos} (hx : tgtSlot S x = some i) (hf : SoundV X e f) : SoundS X (.AugAssign (.Name x p) op e pos) (augF op i f) := by
  intro β Oo H0 O σ H env env' st st' o D rel h q
  unfold augF at h
  split at h
  · rename_i a e0
    obtain ⟨⟨d, s1⟩, e1, h⟩ := bind1 h
    dsimp only at h
    split at h
    · rename_i b
      obtain ⟨c, e2, h⟩ := map1 h
      cases h
      obtain ⟨h1, h2, h3, h4⟩ := tgtSlot_ok C hx
      obtain ⟨v, hv, hr⟩ := rel.sl i _ e0
      have hv' : v = .int a := by cases hr; rfl
      subst hv'
      have go : ∀ H1, SB β H H1 → BagAt β H1 st' → D.nx (σ.set i (some (.int c))) H1 := fun H1 sb1 bg1 =>
        q _ _ _ ((rel.step sb1 bg1).put i (v := .int c) (x := .fz (.int c)) (.int c) (fun _ z => by cases z)) (rel.fzm sb1)
      unfold augO at e2
      split at e2
      · cases e2
        exact (ps_aug h1 h2 h3 (we_pe X e) ip_add h4).ws ⟨_, hv, hf rel e1 fun y H1 sb1 bg1 ty => by cases ty; exact ⟨_, _, rfl, rfl, go H1 sb1 bg1⟩⟩
      · cases e2
        exact (ps_aug h1 h2 h3 (we_pe X e) ip_sub h4).ws ⟨_, hv, hf rel e1 fun y H1 sb1 bg1 ty => by cases ty; exact ⟨_, _, rfl, rfl, go H1 sb1 bg1⟩⟩
      · cases e2
    · cases h
  · rename_i ds e0
    obtain ⟨⟨d, s1⟩, e1, h⟩ := bind1 h
    dsimp only at h
    split at h
    · rename_i es _
      obtain ⟨c, h⟩ := ite_some h
      cases h
      obtain ⟨h1, h2, h3, h4⟩ := tgtSlot_ok C hx
      obtain ⟨v, hv, a, rfl, hO, hn, xs, ha, rxs⟩ := rel.sl i _ e0
      refine (ps_aug h1 h2 h3 (we_pe X e) ip_addL h4).ws ⟨_, hv, hf rel e1 fun y H1 sb1 bg1 ty => ?_⟩
      obtain ⟨b, ys, rfl, hnb, hb, rys⟩ := ty
      have rel1 := rel.step sb1 bg1
      have ha1 := sb1.go a _ hn rfl ha
      have rx1 := rxs.mono (rel.fzm sb1)
      have c := of_decide_eq_true c
      refine ⟨a, b, xs, ys, rfl, rfl, ha1, hb, by rw [rxs.length, rys.length]; exact c, ?_⟩
      have es0 : σ.set i (some (V.ref a)) = σ := by
        refine List.ext_getElem? fun j => ?_
        by_cases hj : i = j
        · subst hj
          rw [List.getElem?_set_self ((List.getElem?_eq_some_iff.mp hv).1), hv]
        · rw [List.getElem?_set_ne hj]
      show D.nx (σ.set i (some (V.ref a))) _
      rw [es0]
      obtain ⟨r2, sm⟩ := rel1.mut (d' := .list (ds ++ es)) (o' := .lst (xs ++ ys)) e0 hv ha1 rfl ⟨_, upd_same, (rx1.append rys).mono fun b o q => by
        obtain ⟨n, q, t⟩ := fz_some3 q
        exact fz_put n (by rw [upd_ne (fun z => n (by rw [z]; exact hO))]; exact q) t⟩
      exact q _ _ _ r2 ((rel.fzm sb1).trans sm)
    · cases h
  · cases h
/-! ### xs.index(e) -/
def idxD (ds : List D) (d : D) : Option Nat := ds.findIdx? fun z => PyData.eqv z d
def idxF (f g : VF) (env : Env') (st : BSt) : Option (R × BSt) := (f env st).bind fun p => (g env p.2).bind fun q => (match p.1 with
  | .list ds => if SeqAt.shaped (.list ds) && SeqAt.shaped q.1 then (idxD ds q.1).map fun j => (.fz (.int (j : Nat)), q.2) else none
  | _ => none)
theorem s_idx (C : CxS F S X) {o e : Expr} {f g : VF} {apos pos : Pos} (hc : noCall0 o = true) (hl : (apos.endLine == pos.line) = true) (hn : noStar e = true) (ho : SoundV X o f) (he : SoundV X e g) : SoundE X (.Call (.Attribute o "index" apos) [e] [] pos) (idxF f g) := by
  intro β Oo H0 O σ H env st r st' Q rel h q
  obtain ⟨⟨d1, s1⟩, e1, h⟩ := bind1 h
  obtain ⟨⟨d2, s2⟩, e2, h⟩ := bind1 h
  dsimp only at h
  cases d1 with
  | list ds =>
    dsimp only at h
    split at h
    case isFalse => cases h
    rename_i c
    rw [Bool.and_eq_true] at c
    obtain ⟨j, e3, h⟩ := map1 h
    cases h
    refine (pe_bm PySem.F.plainAttrs_list PySem.F.slot_list_index PySem.F.type_list_index (mt_indexD C.hu) (we_pe X o) (pa_cons (we_pe X e) pa_nil (noStar_ok hn [] X.env)) (noCall0_ok hc _ _ _) (few_ok hn X.env pos) hl (noStar_ok hn [] X.env) rfl).we (ho rel e1 fun v H1 sb1 bg1 tv => ?_)
    have rel1 := rel.step sb1 bg1
    have tv0 := tv
    obtain ⟨a, xs, rfl, hna, ha, rxs⟩ := tv
    refine ⟨.inl ⟨rfl, _, SqL.of ha⟩, he rel1 e2 fun w H2 sb2 bg2 tw => ?_⟩
    obtain ⟨hj, hz⟩ := List.findIdx?_eq_some_iff_findIdx_eq.mp e3
    have hzj : ds[j]? = some ds[j] := List.getElem?_eq_getElem hj
    have hfi : List.findIdx (fun z => PyData.eqv z d2) ds = j := hz
    refine ⟨a, w, d2, ds, j, ds[j], rfl, rfl, (tv0.mono (rel1.fzm sb2) sb2).dp c.1, tw.dp c.2, c.1, c.2, hzj, ?_, fun m z' hm hz' => ?_, q _ _ (sb1.trans sb2) bg2 (.int _)⟩
    · have hl' : List.findIdx (fun z => PyData.eqv z d2) ds < ds.length := by rw [hfi]; exact hj
      have := List.findIdx_getElem (w := hl')
      simp only [hfi] at this
      exact this
    · obtain ⟨hm2, rfl⟩ := List.getElem?_eq_some_iff.mp hz'
      have := List.not_of_lt_findIdx (p := fun z => PyData.eqv z d2) (xs := ds) (i := m) (by rw [hfi]; exact hm)
      simpa using this
  | _ => cases h
/-! ### xs[i] += e, of a list of one's own -/
theorem get_listN : PGet X (fun o i H Q => ∃ (p : Addr) (xs : List V) (j : Nat) (v : V), o = .ref p ∧ i = .int ((j : Nat) : Int) ∧ SqL X.K H p xs ∧ xs[j]? = some v ∧ Q v H) := by
  intro pins s σ H x y v u Q I rx ry h
  obtain ⟨p, xs, j, z, rfl, rfl, hq, he, q⟩ := h
  cases rx
  obtain ⟨t, rfl⟩ := ry
  obtain ⟨its, r, pl, hz⟩ := I.list hq
  obtain ⟨w, ew, rw'⟩ := r.get he
  have hl := r.length
  have hn := line63
  have hj := (List.getElem?_eq_some_iff.mp he).1
  exact wpAny_getItem_list pl.isList (by omega) (by omega) (by simpa using ew) ⟨z, H, I, rw', q⟩
def augSF (op : Operator) (n : Nat) (g f : VF) (env : Env') (st : BSt) : Option (Out × Env' × BSt) := match env[n]? with
  | some (some (.ow (.list ds))) => (g env st).bind fun q => (match q.1 with
    | .int k => if decide (0 ≤ k) then (match ds[k.toNat]? with
      | some (.int a) => (f env q.2).bind fun p => (match p.1 with
        | .int b => (augO op a b).map fun c => (.nx, env.set n (some (.ow (.list (ds.set k.toNat (.int c))))), p.2)
        | _ => none)
      | _ => none) else none
    | _ => none)
  | _ => none
theorem augStore_ok (i : Expr) (hi : plainIx i = true) : ∀ ov iv new, augStore i ov iv new = (do holding [new, ov, iv] (setItem ov iv new); release [new, ov, iv] []; pure .next) := by
  intro ov iv new
  cases i <;> first | rfl | cases hi
theorem ss_augS (C : CxS F S X) {x : Str} {n : Nat} {i e : Expr} {op : Operator} {g f : VF} {p ps pos : Pos} (hx : slotOf S x = some n) (hp : plainIx i = true) (hg : SoundV X i g) (hf : SoundV X e f) : SoundS X (.AugAssign (.Subscript (.Name x p) i ps) op e pos) (augSF op n g f) := by
  intro β Oo H0 O σ H env env' st st' o D rel h q
  unfold augSF at h
  cases e0 : env[n]? with
  | none => rw [e0] at h; cases h
  | some r0 =>
  rw [e0] at h
  cases r0 with
  | none => cases h
  | some r0 =>
  cases r0 with
  | ow d0 =>
    cases d0 with
    | list ds =>
      dsimp only at h
      obtain ⟨⟨d1, s1⟩, e1, h⟩ := bind1 h
      dsimp only at h
      cases d1 with
      | int k =>
        dsimp only at h
        cases hk : decide (0 ≤ k) with
        | false => rw [hk] at h; cases h
        | true =>
          rw [hk] at h
          simp only [if_true] at h
          have hk' := of_decide_eq_true hk
          cases e2 : ds[k.toNat]? with
          | none => rw [e2] at h; cases h
          | some d2 =>
            rw [e2] at h
            cases d2 with
            | int a =>
              dsimp only at h
              obtain ⟨⟨d3, s2⟩, e3, h⟩ := bind1 h
              dsimp only at h
              cases d3 with
              | int b =>
                dsimp only at h
                obtain ⟨c, e4, h⟩ := map1 h
                cases h
                obtain ⟨h1, h2, h3, h4⟩ := slotOf_ok C hx
                obtain ⟨v, hv, aa, rfl, hO, hn, xs, ha, rxs⟩ := rel.sl n _ e0
                have fin : ∀ H1 H2, SB β H H1 → BagAt β H1 s1 → SB β H1 H2 → BagAt β H2 st' → ∃ (p : Addr) (xs : List V) (k' : Int) (j : Nat), V.ref aa = .ref p ∧ V.int k = .int k' ∧ H2 p = some (.lst xs) ∧ ixN xs.length k' = some j ∧ D.nx σ (upd H2 p (.lst (xs.set j (.int c)))) := fun H1 H2 sb1 bg1 sb2 bg2 => by
                  have rel1 := rel.step sb1 bg1
                  have rel2 := rel1.step sb2 bg2
                  have ha2 := sb2.go aa _ hn rfl (sb1.go aa _ hn rfl ha)
                  have rx2 := (rxs.mono (rel.fzm sb1)).mono (rel1.fzm sb2)
                  have hj : k.toNat < xs.length := by rw [rxs.length]; exact (List.getElem?_eq_some_iff.mp e2).1
                  refine ⟨aa, xs, k, k.toNat, rfl, rfl, ha2, by unfold ixN; rw [if_pos hk', if_pos (by omega)], ?_⟩
                  obtain ⟨r2, sm⟩ := rel2.mut (d' := .list (ds.set k.toNat (.int c))) (o' := .lst (xs.set k.toNat (.int c))) e0 hv ha2 rfl ⟨_, upd_same, (rx2.set k.toNat (.int c)).mono fun b o q => by
                    obtain ⟨n, q, t⟩ := fz_some3 q
                    exact fz_put n (by rw [upd_ne (fun z => n (by rw [z]; exact hO))]; exact q) t⟩
                  exact q _ _ _ r2 ((rel.fzm sb1).trans ((rel1.fzm sb2).trans sm))
                have rd : ∀ H1, SB β H H1 → BagAt β H1 s1 → ∃ (p : Addr) (xs : List V) (j : Nat) (v : V), V.ref aa = .ref p ∧ V.int k = .int ((j : Nat) : Int) ∧ SqL X.K H1 p xs ∧ xs[j]? = some v ∧ v = .int a := fun H1 sb1 bg1 => by
                  obtain ⟨w, hw, rw'⟩ := rxs.get e2
                  cases rw'
                  exact ⟨aa, xs, k.toNat, .int a, rfl, by rw [show ((k.toNat : Nat) : Int) = k by omega], SqL.of (sb1.go aa _ hn rfl ha), hw, rfl⟩
                unfold augO at e4
                split at e4
                · cases e4
                  refine (ps_augS (pe_var h1 h2 h3 h4) (we_pe X i) get_listN (we_pe X e) ip_add set_list (augStore_ok i hp)).ws ⟨_, hv, hg rel e1 fun y H1 sb1 bg1 ty => ?_⟩
                  cases ty
                  obtain ⟨pp, xs', j, v, g1, g2, g3, g4, rfl⟩ := rd H1 sb1 bg1
                  refine ⟨pp, xs', j, _, g1, g2, g3, g4, hf (rel.step sb1 bg1) e3 fun y2 H2 sb2 bg2 ty2 => ?_⟩
                  cases ty2
                  exact ⟨_, _, rfl, rfl, fin H1 H2 sb1 bg1 sb2 bg2⟩
                · cases e4
                  refine (ps_augS (pe_var h1 h2 h3 h4) (we_pe X i) get_listN (we_pe X e) ip_sub set_list (augStore_ok i hp)).ws ⟨_, hv, hg rel e1 fun y H1 sb1 bg1 ty => ?_⟩
                  cases ty
                  obtain ⟨pp, xs', j, v, g1, g2, g3, g4, rfl⟩ := rd H1 sb1 bg1
                  refine ⟨pp, xs', j, _, g1, g2, g3, g4, hf (rel.step sb1 bg1) e3 fun y2 H2 sb2 bg2 ty2 => ?_⟩
                  cases ty2
                  exact ⟨_, _, rfl, rfl, fin H1 H2 sb1 bg1 sb2 bg2⟩
                · cases e4
              | _ => cases h
            | _ => cases h
      | _ => cases h
    | _ => cases h
  | _ => cases h
end
end Iv

set_option maxHeartbeats 4000000
namespace Iv
open PySem PySem.Spec PyProof.Rows L2
variable [Ct] [Nm]
/-! ### dicts by any kind of key -/
section
variable {κ : Type} [DecidableEq κ] {enc : κ → D} {dec : D → Option κ}
def valG (dec : D → Option κ) (kds : List (D × D)) (k : κ) : Option D := (kds.find? fun kv => decide (dec kv.1 = some k)).map (·.2)
def putG (enc : κ → D) (dec : D → Option κ) (kds : List (D × D)) (k : κ) (v : D) : List (D × D) :=
  if (kds.any fun kv => decide (dec kv.1 = some k)) = true then kds.map (fun kv => if dec kv.1 = some k then (kv.1, v) else kv) else kds ++ [(enc k, v)]
theorem valG_ok {K : PySem.W.Frag} {H : Hp} (hd : ∀ k, dec (enc k) = some k) {k : κ} : ∀ {kds : List (D × D)} {kvs : List (κ × V)}, kds.map (·.1) = kvs.map (fun p => enc p.1) → RpAll K H (kvs.map (·.2)) (kds.map (·.2)) → ∀ {d : D}, valG dec kds k = some d → ∃ v, valV kvs k = some v ∧ Rp K H v d
  | [], [], _, _, d, h => by cases h
  | [], _ :: _, h, _, _, _ => by simp at h
  | _ :: _, [], h, _, _, _ => by simp at h
  | p :: kds, u :: kvs, h, r, d, hv => by
    simp only [List.map_cons, List.cons.injEq] at h
    simp only [List.map_cons] at r
    cases r with
    | cons r1 r2 =>
      unfold valG at hv
      unfold valV
      rw [List.find?_cons] at hv ⊢
      rw [h.1, hd] at hv
      by_cases e : u.1 = k
      · rw [decide_eq_true (by rw [e])] at hv
        rw [decide_eq_true e]
        cases hv
        exact ⟨_, rfl, r1⟩
      · rw [decide_eq_false (fun z => e (Option.some.inj z))] at hv
        rw [decide_eq_false e]
        exact valG_ok hd h.2 r2 hv
theorem anyG {k : κ} (hd : ∀ k, dec (enc k) = some k) : ∀ {kds : List (D × D)} {kvs : List (κ × V)}, kds.map (·.1) = kvs.map (fun p => enc p.1) → (kds.any fun kv => decide (dec kv.1 = some k)) = (kvs.any fun kv => decide (kv.1 = k))
  | [], [], _ => rfl
  | [], _ :: _, h => by simp at h
  | _ :: _, [], h => by simp at h
  | d :: kds, v :: kvs, h => by
    simp only [List.map_cons, List.cons.injEq] at h
    simp only [List.any_cons]
    rw [anyG hd h.2, h.1, hd]
    congr 1
    simp
theorem mapG {k : κ} (hd : ∀ k, dec (enc k) = some k) {K : PySem.W.Frag} {hp : Hp} {v : D} {w : V} (hv : Rp K hp w v) : ∀ {kds : List (D × D)} {kvs : List (κ × V)}, kds.map (·.1) = kvs.map (fun p => enc p.1) → RpAll K hp (kvs.map (·.2)) (kds.map (·.2)) →
    (kds.map (fun kv => if dec kv.1 = some k then (kv.1, v) else kv)).map (·.1) = (kvs.map (fun kv => if kv.1 = k then (kv.1, w) else kv)).map (fun p => enc p.1) ∧ RpAll K hp ((kvs.map (fun kv => if kv.1 = k then (kv.1, w) else kv)).map (·.2)) ((kds.map (fun kv => if dec kv.1 = some k then (kv.1, v) else kv)).map (·.2))
  | [], [], _, _ => ⟨rfl, .nil⟩
  | [], _ :: _, h, _ => by simp at h
  | _ :: _, [], h, _ => by simp at h
  | d :: kds, u :: kvs, h, r => by
    simp only [List.map_cons, List.cons.injEq] at h
    simp only [List.map_cons] at r
    cases r with
    | cons r1 r2 =>
      obtain ⟨i1, i2⟩ := mapG (k := k) hd hv h.2 r2
      simp only [List.map_cons]
      by_cases e : u.1 = k
      · have e' : dec d.1 = some k := by rw [h.1, hd, e]
        rw [if_pos e', if_pos e]
        exact ⟨by rw [i1, h.1], .cons hv i2⟩
      · have e' : ¬ dec d.1 = some k := by rw [h.1, hd]; exact fun z => e (Option.some.inj z)
        rw [if_neg e', if_neg e]
        exact ⟨by rw [i1, h.1], .cons r1 i2⟩
theorem putG_ok {k : κ} (hd : ∀ k, dec (enc k) = some k) {K : PySem.W.Frag} {hp : Hp} {v : D} {w : V} {kds : List (D × D)} {kvs : List (κ × V)} (hv : Rp K hp w v) (h : kds.map (·.1) = kvs.map (fun p => enc p.1)) (r : RpAll K hp (kvs.map (·.2)) (kds.map (·.2))) :
    (putG enc dec kds k v).map (·.1) = (putK kvs k w).map (fun p => enc p.1) ∧ RpAll K hp ((putK kvs k w).map (·.2)) ((putG enc dec kds k v).map (·.2)) := by
  unfold putG putK
  rw [anyG hd h]
  split
  · exact mapG hd hv h r
  · refine ⟨?_, ?_⟩
    · rw [List.map_append, List.map_append, h]; rfl
    · rw [List.map_append, List.map_append]
      exact r.append (.one hv)
end
def encT (ks : List Key) : D := .tuple (ks.map kD)
def keysOf : List D → Option (List Key)
  | [] => some []
  | d :: ds => (Iv.keyOf d).bind fun k => (keysOf ds).map (k :: ·)
def decT : D → Option (List Key)
  | .tuple ds => keysOf ds
  | _ => none
theorem keysOf_kD : ∀ ks : List Key, keysOf (ks.map kD) = some ks
  | [] => rfl
  | k :: ks => by
    show (Iv.keyOf (kD k)).bind _ = _
    rw [keyOf_kD]
    simp only [Option.bind_some]
    rw [keysOf_kD ks]; rfl
theorem decT_enc (ks : List Key) : decT (encT ks) = some ks := keysOf_kD ks
theorem keysOf_ok : ∀ {ds : List D} {ks : List Key}, keysOf ds = some ks → ds = ks.map kD
  | [], ks, h => by cases h; rfl
  | d :: ds, ks, h => by
    obtain ⟨k, e1, h⟩ := bind1 h
    obtain ⟨ks', e2, rfl⟩ := map1 h
    rw [keyOf_ok e1, keysOf_ok e2]; rfl
theorem rp_keys {K : PySem.W.Frag} {H : Hp} : ∀ {ks : List Key} {vs : List V}, RpAll K H vs (ks.map kD) → vs = ks.map kV
  | [], _, h => by cases h; rfl
  | k :: ks, _, h => by
    cases h with
    | cons a b =>
      rw [rp_keys b]
      cases k with
      | inl i => cases a; rfl
      | inr z => cases a; rfl
def noCt (kk : List Key) : Bool := Ct.cts.all fun c => decide (keysOf c ≠ some kk)
theorem noCt_ok {kk : List Key} {ds : List D} (h : noCt kk = true) (e : keysOf ds = some kk) : ds ∉ Ct.cts := fun m => of_decide_eq_true (List.all_eq_true.mp h _ m) e
section
variable {F : FT} {S : Sx} {X : Cx}
/-! ### d[k] -/
def ixG (f g : VF) (env : Env') (st : BSt) : Option (R × BSt) := (f env st).bind fun p => (g env p.2).bind fun q => (match p.1 with
  | .dict kds => if plainK kds then (Iv.keyOf q.1).bind fun k => (valG Iv.keyOf kds k).map fun d => (.fz d, q.2) else (match kds, q.1 with
    | [(.none, .dict kds')], .tuple ks => (keysOf ks).bind fun kk => (valG decT kds' kk).map fun d => (.fz d, q.2)
    | _, _ => none)
  | d => (ixD d q.1).map fun r => (.fz r, q.2))
theorem s_ixG (C : CxS F S X) {a b : Expr} {f g : VF} {pos : Pos} (hp : plainIx b = true) (ha : SoundV X a f) (hb : SoundV X b g) : SoundE X (.Subscript a b pos) (ixG f g) := by
  intro β Oo H0 O σ H env st r st' Q rel h q
  obtain ⟨⟨d, s1⟩, e1, h⟩ := bind1 h
  obtain ⟨⟨e, s2⟩, e2, h⟩ := bind1 h
  have old : (ixD d e).map (fun r => (R.fz r, s2)) = some (r, st') → We X (.Subscript a b pos) σ H Q := fun h => s_ix hp ha hb rel (by unfold ixF; rw [e1]; simp only [Option.bind_some]; rw [e2]; exact h) q
  cases d with
  | dict kds =>
    dsimp only at h
    split at h
    case isFalse =>
      split at h
      · rename_i kds' ks
        obtain ⟨key, e3, h⟩ := bind1 h
        obtain ⟨d', e4, h⟩ := map1 h
        cases h
        refine (pe_dgetT (by have := C.hu; omega) (we_pe X a) (we_pe X b) (plainIx_ok hp)).we (ha rel e1 fun x H1 sb1 bg1 tx => ?_)
        have rel1 := rel.step sb1 bg1
        refine hb rel1 e2 fun y H2 sb2 bg2 ty => ?_
        obtain ⟨aa, rfl, hna, hdc⟩ := tx.mono (rel1.fzm sb2) sb2
        rcases hdc with ⟨kvs, _, h2, _⟩ | ⟨kds'', e6, kvs, h1, h2, h3⟩
        · exfalso
          cases kvs with
          | nil => cases h2
          | cons u kvs =>
            have h2 := (List.cons.inj h2).1
            obtain ⟨k0, _⟩ := u
            cases k0 <;> cases h2
        · cases e6
          obtain ⟨v, hv, rv⟩ := valG_ok (enc := encT) decT_enc h2 h3 e4
          obtain ⟨bb, xs, rfl, hb1, hb2⟩ := rp_tup ty
          rw [keysOf_ok e3] at hb2
          exact ⟨aa, kvs, key, bb, v, rfl, rfl, h1, by rw [← rp_keys hb2]; exact fz_tup hb1, hv, q _ _ (sb1.trans sb2) bg2 rv⟩
      · cases h
    rename_i c
    obtain ⟨k, e3, h⟩ := bind1 h
    obtain ⟨d', e4, h⟩ := map1 h
    cases h
    refine (pe_dget (by have := C.hu; omega) (we_pe X a) (we_pe X b) (plainIx_ok hp)).we (ha rel e1 fun x H1 sb1 bg1 tx => ?_)
    have rel1 := rel.step sb1 bg1
    refine hb rel1 e2 fun y H2 sb2 bg2 ty => ?_
    obtain ⟨aa, rfl, hna, hdc⟩ := tx.mono (rel1.fzm sb2) sb2
    obtain ⟨kvs, h1, h2, h3⟩ := DcAt.k hdc c
    obtain ⟨v, hv, rv⟩ := valG_ok (enc := kD) keyOf_kD h2 h3 e4
    have ey : y = kV k := by
      rw [keyOf_ok e3] at ty
      cases k with
      | inl i => cases ty; rfl
      | inr i => cases ty; rfl
    refine ⟨aa, v, rfl, ?_, q _ _ (sb1.trans sb2) bg2 rv⟩
    rw [ey, ← hv]
    exact .inl ⟨kvs, k, h1, rfl, rfl⟩
  | _ => exact old h
/-! ### d[e, ..], keys that are tuples written there -/
def ixTF (f : VF) (af : AF) (env : Env') (st : BSt) : Option (R × BSt) := (f env st).bind fun p => (af env p.2).bind fun q => (dsOf q.1).bind fun ks => (keysOf ks).bind fun kk => (match p.1 with
  | .dict [(.none, .dict kds)] => if lenOk ks.length then (valG decT kds kk).map fun d => (.fz d, q.2) else none
  | _ => none)
theorem s_ixT (C : CxS F S X) {a : Expr} {es : List Expr} {kk : Nat} {f : VF} {af : AF} {p2 pos : Pos} (ha : SoundV X a f) (hb : SoundA X es af) : SoundE X (.Subscript a (.Tuple es kk p2) pos) (ixTF f af) := by
  intro β Oo H0 O σ H env st r st' Q rel h q
  obtain ⟨⟨d, s1⟩, e1, h⟩ := bind1 h
  obtain ⟨⟨rs, s2⟩, e2, h⟩ := bind1 h
  obtain ⟨ks, e3, h⟩ := bind1 h
  obtain ⟨key, e4, h⟩ := bind1 h
  dsimp only at h
  split at h
  · rename_i kds _
    split at h
    case isFalse => cases h
    rename_i c
    obtain ⟨d', e5, h⟩ := map1 h
    cases h
    refine (pe_dget (by have := C.hu; omega) (we_pe X a) (pe_tup (wa_pa X es)) (fun _ _ => rfl)).we (ha rel e1 fun x H1 sb1 bg1 tx => ?_)
    have rel1 := rel.step sb1 bg1
    refine hb rel1 e2 fun vs H2 sb2 bg2 av _ => ?_
    have rel2 := rel1.step sb2 bg2
    have rp := dsOf_ok e3 av
    refine ⟨by rw [rp.length]; exact of_decide_eq_true c, fun b hb0 => ?_⟩
    obtain ⟨aa, rfl, hna, hdc⟩ := tx.mono (rel1.fzm sb2) sb2
    rcases hdc with ⟨kvs, _, h2, _⟩ | ⟨kds', e6, kvs, h1, h2, h3⟩
    · exfalso
      cases kvs with
      | nil => cases h2
      | cons u kvs =>
        have h2 := (List.cons.inj h2).1
        obtain ⟨k0, _⟩ := u
        cases k0 <;> cases h2
    · cases e6
      have e7 : valG (κ := List Key) decT _ key = some d' := e5
      obtain ⟨v, hv, rv⟩ := valG_ok (enc := encT) decT_enc h2 h3 e7
      have ek : vs = key.map kV := by
        rw [keysOf_ok e4] at rp
        exact rp_keys rp
      refine ⟨aa, v, rfl, ?_, q _ _ (sb1.trans (sb2.trans (SB.laid hb0))) (same_bag (same_laid hb0) bg2) (rv.mono (same_fz (same_laid hb0)))⟩
      rw [← hv]
      exact .inr ⟨kvs, key, b, h1.elim (fun h1 => .inl (by rw [upd_ne (ne_of_none h1 hb0)]; exact h1)) (fun ⟨o, h1⟩ => .inr ⟨o, by rw [upd_ne (ne_of_none h1 hb0)]; exact h1⟩), rfl, by rw [upd_same, ek], rfl⟩
  · cases h
/-! ### {} for such keys, d[e, ..] = v -/
def dict0T (_ : Env') (st : BSt) : Option (R × BSt) := some (.ow (.dict [(.none, .dict [])]), st)
theorem s_dict0T {pos : Pos} : SoundE X (.Dict [] [] pos) dict0T := by
  intro β Oo H0 O σ H env st r st' Q rel h q
  cases h
  exact pe_dnewT.we fun p hp => q _ _ (SB.laid hp) (same_bag (same_laid hp) rel.bag) ⟨p, rfl, hp, rel.neB hp, .inr ⟨[], rfl, [], .inl upd_same, rfl, .nil⟩, _, upd_same, rfl⟩
end
end Iv

set_option maxHeartbeats 4000000
namespace Iv
open PySem PySem.Spec PyProof.Rows L2
variable [Ct] [Nm]
section
variable {F : FT} {S : Sx} {X : Cx}
/-! ### d[e, ..] = v -/
def setTF (n : Nat) (f : EF) (af : AF) (env : Env') (st : BSt) : Option (Out × Env' × BSt) := (f env st).bind fun p => p.1.d?.bind fun d => (af env p.2).bind fun q => (dsOf q.1).bind fun ks => (keysOf ks).bind fun kk => (match env[n]? with
  | some (some (.ow (.dict [(.none, .dict kds)]))) => if lenOk ks.length && decide (kds.length < sizeLine) then some (.nx, env.set n (some (.ow (.dict [(.none, .dict (putG encT decT kds kk d))]))), q.2) else none
  | _ => none)
theorem ss_setT (C : CxS F S X) {x : Str} {n : Nat} {es : List Expr} {e : Expr} {kk : Nat} {f : EF} {af : AF} {p p2 ps pos : Pos} (hx : slotOf S x = some n) (hc : noComp e = true) (he : SoundE X e f) (hb : SoundA X es af) :
    SoundS X (.Assign [.Subscript (.Name x p) (.Tuple es kk p2) ps] e pos) (setTF n f af) := by
  intro β Oo H0 O σ H env env' st st' o D rel h q
  obtain ⟨⟨r, s1⟩, e1, h⟩ := bind1 h
  obtain ⟨d, e2, h⟩ := bind1 h
  obtain ⟨⟨rs, s2⟩, e3, h⟩ := bind1 h
  obtain ⟨ks, e4, h⟩ := bind1 h
  obtain ⟨key, e5, h⟩ := bind1 h
  obtain ⟨h1, h2, h3, h4⟩ := slotOf_ok C hx
  have hsw : swapsWith e (some (.Subscript (.Name x p) (.Tuple es kk p2) ps)) pos.line X.env = pure false := noComp_ok hc _ _ _
  have main : ∀ kds, env[n]? = some (some (.ow (.dict [(.none, .dict kds)]))) → (if lenOk ks.length && decide (kds.length < sizeLine) then some (Out.nx, env.set n (some (R.ow (.dict [(.none, .dict (putG encT decT kds key d))]))), s2) else none) = some (o, env', st') → Ws X (.Assign [.Subscript (.Name x p) (.Tuple es kk p2) ps] e pos) D σ H := by
    intro kds e6 h
    obtain ⟨c, h⟩ := ite_some h
    cases h
    rw [Bool.and_eq_true] at c
    obtain ⟨v0, hv, a, rfl, hO, hn, hdc⟩ := rel.sl n _ e6
    have hpl := hdc.2
    have hdc : DcAt X.K O H a [(.none, .dict kds)] := hdc.1
    rcases hdc with ⟨kvs, _, h2, _⟩ | ⟨kds', e7, kvs, ha, hks, rxs⟩
    · exfalso
      cases kvs with
      | nil => cases h2
      | cons u kvs =>
        have h2 := (List.cons.inj h2).1
        obtain ⟨k0, _⟩ := u
        cases k0 <;> cases h2
    cases e7
    have ha := DcAt.strictT ha hpl
    refine (ps_dput (by have := C.hu; omega) (pe_var h1 h2 h3 h4) (pe_tup (wa_pa X es)) (we_pe X e) hsw).ws (he rel e1 fun w H1 sb1 bg1 rw' => ⟨_, hv, ?_⟩)
    have rel1 := rel.step sb1 bg1
    refine hb rel1 e3 fun vs H2 sb2 bg2 av _ => ?_
    have rel2 := rel1.step sb2 bg2
    have rp := dsOf_ok e4 av
    refine ⟨by rw [rp.length]; exact of_decide_eq_true c.1, fun b hb0 => ?_⟩
    have rel3 := rel2.step (SB.laid (o := .tup vs) hb0) (same_bag (same_laid hb0) bg2)
    have sm3 := rel2.fzm (SB.laid (o := .tup vs) hb0)
    have ha2 := sb2.go a _ hn rfl (sb1.go a _ hn rfl ha)
    have ha3 : upd H2 b (.tup vs) a = some (.dT kvs) := by rw [upd_ne (ne_of_none ha2 hb0)]; exact ha2
    have rx3 := ((rxs.mono (rel.fzm sb1)).mono (rel1.fzm sb2)).mono sm3
    have rd := ((rw'.rp rel e2).mono (rel1.fzm sb2)).mono sm3
    have ek : vs = key.map kV := by
      rw [keysOf_ok e5] at rp
      exact rp_keys rp
    have lk : kvs.length = kds.length := by simpa using congrArg List.length hks.symm
    obtain ⟨p1, p2'⟩ := putG_ok (κ := List Key) (enc := encT) (dec := decT) (k := key) decT_enc rd hks rx3
    refine ⟨a, _, rfl, DPut.t (k := key) ha3 (by rw [upd_same, ek]) (by rw [lk]; exact of_decide_eq_true c.2), ?_⟩
    obtain ⟨r2, sm⟩ := rel3.mut (d' := .dict [(.none, .dict (putG encT decT kds key d))]) (o' := .dT (putK kvs key w)) e6 hv ha3 rfl ⟨.inr ⟨_, rfl, _, .inl upd_same, p1, p2'.mono fun b' o' q => by
      obtain ⟨n', q, t⟩ := fz_some3 q
      exact fz_put n' (by rw [upd_ne (fun z => n' (by rw [z]; exact hO))]; exact q) t⟩, _, upd_same, rfl⟩
    exact q _ _ _ r2 ((rel.fzm sb1).trans ((rel1.fzm sb2).trans (sm3.trans sm)))
  dsimp only at h
  split at h
  · rename_i e6
    exact main _ e6 h
  · cases h
/-! ### dict([(k, v), ..]) -/
def pairsD : List D → Option (List (Key × D))
  | [] => some []
  | .tuple [k, v] :: ds => (Iv.keyOf k).bind fun kk => (pairsD ds).map ((kk, v) :: ·)
  | _ :: _ => none
def mkD (kvs : List (Key × D)) : List (D × D) := kvs.foldl (fun acc kv => putG kD Iv.keyOf acc kv.1 kv.2) []
theorem pairsD_ok {K : PySem.W.Frag} {H : Hp} : ∀ {ds : List D} {vs : List V} {kds : List (Key × D)}, pairsD ds = some kds → RpAll K H vs ds → ∃ (ps : List Addr) (kvs : List (Key × V)), vs = ps.map V.ref ∧ Paired (fun p kv => SqT K H p [kV kv.1, kv.2]) ps kvs ∧ kds.map (·.1) = kvs.map (·.1) ∧ RpAll K H (kvs.map (·.2)) (kds.map (·.2))
  | [], _, _, h, .nil => by cases h; exact ⟨[], [], rfl, .nil, rfl, .nil⟩
  | d :: ds, _, kds, h, .cons r1 r2 => by
    unfold pairsD at h
    split at h
    · rename_i z; cases z
    · rename_i k v ds' e
      cases e
      obtain ⟨kk, e1, h⟩ := bind1 h
      obtain ⟨kds', e2, rfl⟩ := map1 h
      obtain ⟨ps, kvs, rfl, h2, h3, h4⟩ := pairsD_ok e2 r2
      cases r1 with
      | @tup a xs _ g1 g2 =>
        cases g2 with
        | @cons x1 xs1 _ _ q1 q2 =>
          cases q2 with
          | @cons x2 xs2 _ _ q3 q4 =>
            cases q4
            have ex : x1 = kV kk := by
              rw [keyOf_ok e1] at q1
              cases kk with
              | inl i => cases q1; rfl
              | inr i => cases q1; rfl
            subst ex
            exact ⟨a :: ps, (kk, x2) :: kvs, rfl, .cons g1 h2, by simp [h3], .cons q3 h4⟩
    · cases h
theorem merge_ok {K : PySem.W.Frag} {H : Hp} : ∀ {kds : List (Key × D)} {kvs : List (Key × V)} {acc : List (D × D)} {avs : List (Key × V)}, kds.map (·.1) = kvs.map (·.1) → RpAll K H (kvs.map (·.2)) (kds.map (·.2)) → acc.map (·.1) = avs.map (fun p => kD p.1) → RpAll K H (avs.map (·.2)) (acc.map (·.2)) →
    (kds.foldl (fun acc kv => putG kD Iv.keyOf acc kv.1 kv.2) acc).map (·.1) = (mergeK avs kvs).map (fun p => kD p.1) ∧ RpAll K H ((mergeK avs kvs).map (·.2)) ((kds.foldl (fun acc kv => putG kD Iv.keyOf acc kv.1 kv.2) acc).map (·.2))
  | [], [], _, _, _, _, h1, h2 => ⟨h1, h2⟩
  | [], _ :: _, _, _, h, _, _, _ => by simp at h
  | _ :: _, [], _, _, h, _, _, _ => by simp at h
  | kd :: kds, kv :: kvs, acc, avs, h, r, h1, h2 => by
    simp only [List.map_cons, List.cons.injEq] at h
    simp only [List.map_cons] at r
    cases r with
    | cons r1 r2 =>
      obtain ⟨p1, p2⟩ := putG_ok (κ := Key) (enc := kD) (dec := Iv.keyOf) (k := kv.1) keyOf_kD r1 h1 h2
      have := merge_ok h.2 r2 p1 p2
      rw [← h.1] at this
      rw [List.foldl_cons]
      have em : mergeK avs (kv :: kvs) = mergeK (putK avs kd.1 kv.2) kvs := by rw [h.1]; rfl
      rw [em]
      exact this
theorem paired_imp {α γ : Type} {P Q : α → γ → Prop} (h : ∀ a b, P a b → Q a b) : ∀ {l : List α} {m : List γ}, Paired P l m → Paired Q l m
  | _, _, .nil => .nil
  | _, _, .cons a b => .cons (h _ _ a) (paired_imp h b)
def dicF (f : VF) (env : Env') (st : BSt) : Option (R × BSt) := (f env st).bind fun p => (match p.1 with
  | .list ds => (pairsD ds).map fun kds => (.ow (.dict (mkD kds)), p.2)
  | _ => none)
theorem s_dic (C : CxS F S X) {x : Str} {e : Expr} {f : VF} {p pos : Pos} (hx : isB S "dict" x = true) (hn : noStar e = true) (he : SoundV X e f) : SoundE X (.Call (.Name x p) [e] [] pos) (dicF f) := by
  intro β Oo H0 O σ H env st r st' Q rel h q
  obtain ⟨⟨d, s1⟩, e1, h⟩ := bind1 h
  cases d with
  | list ds =>
    dsimp only at h
    obtain ⟨kds, e2, h⟩ := map1 h
    cases h
    unfold isB at hx
    rw [Bool.and_eq_true] at hx
    have ex := of_decide_eq_true hx.2
    subst ex
    obtain ⟨g, m, n, dd⟩ := isBlt_ok C hx.1
    refine (pe_callTy (call_dictP C.calm) g m (by decide +kernel) (pa_cons (we_pe X e) pa_nil (noStar_ok hn [] X.env)) n dd (noStar_ok hn [] X.env) rfl).we (he rel e1 fun v H1 sb1 bg1 tv => ?_)
    have rel1 := rel.step sb1 bg1
    obtain ⟨a, xs, rfl, hna, ha, rxs⟩ := tv
    obtain ⟨ps, kvs, rfl, h2, h3, h4⟩ := pairsD_ok e2 rxs
    refine ⟨a, ps, kvs, rfl, SqL.of ha, paired_imp (fun _ _ z => fz_tup z) h2, fun b hb0 => ?_⟩
    obtain ⟨p1, p2⟩ := merge_ok (acc := []) (avs := []) h3 h4 rfl .nil
    refine q _ _ (sb1.trans (SB.laid hb0)) (same_bag (same_laid hb0) bg1) ⟨b, rfl, sb1.dm b (rel1.neB hb0) hb0, rel1.neB hb0, .inl ⟨_, .inl upd_same, p1, p2.mono fun a' o' e' => ?_⟩, _, upd_same, rfl⟩
    obtain ⟨n', e', t⟩ := fz_some3 e'
    have ap : a' ≠ b := ne_of_none e' hb0
    exact fz_put (fun z => z.elim n' ap) (by rw [upd_ne ap]; exact e') t
  | _ => cases h
end
end Iv

set_option maxHeartbeats 4000000
namespace Iv
open PySem PySem.Spec PyProof.Rows L2
variable [Ct] [Nm]
/-! ### x.remove(e), e any datum that is there -/
def rRemD (K : PySem.W.Frag) : V → List V → Hp → VK → Prop := fun x vs H Q => ∃ (p : Addr) (w : List V) (y : V) (d : D) (ds : List D) (j : Nat), x = .ref p ∧ vs = [y] ∧ H p = some (.lst w) ∧ Dp K H (.ref p) (.list ds) ∧ Dp K H y d ∧
  SeqAt.shaped (.list ds) = true ∧ SeqAt.shaped d = true ∧ (ds.findIdx? fun z => PyData.eqv z d) = some j ∧ Q .non (upd H p (.lst (w.eraseIdx j)))
theorem eraseIdx_le {α : Type} (l : List α) (j : Nat) : (l.eraseIdx j).length ≤ l.length := by
  rw [List.length_eraseIdx]; split <;> omega
section
variable {F : FT} {S : Sx} {X : Cx}
theorem mt_remD (hu : X.A.units + 65 < cLine) : MtM X "list.remove" (rRemD X.K) := by
  intro pins s σ H x vs v us Q I rx rvs h
  obtain ⟨p, w, y, d, ds, j, rfl, rfl, hH, hL, hy, sl, sd, hf, q⟩ := h
  cases rx
  obtain ⟨u, rfl, ru⟩ := rvs.one
  obtain ⟨bs, r1⟩ := Dp.reads I d y u hy ru
  have lay : PyData.canLayAll0 ds = true := SeqAt.canLay_of_shaped sl
  obtain ⟨hz, its, n, r, hlen, e⟩ := I.lstM hH
  obtain ⟨hj, hfi⟩ := List.findIdx?_eq_some_iff_findIdx_eq.mp hf
  cases hL with
  | lst hs ha =>
    have ex : ∃ as, ReadsAll s.heap its ds as ∧ its.length = ds.length := by
      obtain ⟨its', rv, ⟨⟨cls, dd, data, sls⟩, n', ho, hc, hdn, hdt⟩, hlen'⟩ := I.list hs
      rw [e] at ho
      cases ho
      have eqs : its = its' := by
        have : Data.seq its.toArray n = Data.seq its'.toArray n' := hdt
        injection this with h1 h2
        simpa using congrArg Array.toList h1
      subst eqs
      obtain ⟨as, h4⟩ := Dp.readsAll I ds _ its ha rv
      exact ⟨as, h4, SeqAt.ReadsAll.length ds its as h4⟩
    obtain ⟨as, h4, hn⟩ := ex
    have mp : its.map (SeqAt.readOf s.heap) = ds := SeqAt.readsAll_map ds its as lay h4
    have hjs : j < its.toArray.size := by rw [List.size_toArray]; omega
    have rd : ∀ (m : Nat) (hm : m < its.toArray.size) (hm' : m < ds.length), SeqAt.readOf s.heap its.toArray[m] = ds[m] := fun m hm hm' => by
      have : (its.map (SeqAt.readOf s.heap))[m]? = some ds[m] := by rw [mp, List.getElem?_eq_getElem hm']
      rw [List.getElem?_map, List.getElem?_eq_getElem (by simpa using hm)] at this
      simpa using this
    have hit : PyData.eqv ds[j] d = true := by
      have hl' : List.findIdx (fun z => PyData.eqv z d) ds < ds.length := by rw [hfi]; exact hj
      have := List.findIdx_getElem (w := hl')
      simp only [hfi] at this
      exact this
    refine call_meets PySem.F.slot_list_remove ⟨_, e, rfl⟩ PySem.F.entry_list_remove (PySem.F.args_list_remove_2 _ _)
      (SeqAt.list_removeAt p its.toArray n none #[] u (fun z => PyData.eqv (SeqAt.readOf s.heap z) d) j hjs ?_ ?_ (by rw [List.size_toArray]; omega)) ⟨e, ?_, ?_⟩
    · rw [rd j hjs hj]; exact hit
    · intro m hm hmj
      rw [rd m hm (by rw [List.size_toArray] at hm; omega)]
      have := List.not_of_lt_findIdx (p := fun z => PyData.eqv z d) (xs := ds) (i := m) (by rw [hfi]; exact hmj)
      simpa using this
    · exact SeqAt.items_eqAt (vs := its.toArray) (show ReadsAll s.heap its.toArray.toList ds as from h4) r1 lay (SeqAt.canLay_of_shaped sd) (room_in_shaped sd hu)
    · refine ⟨.non, _, I.lset (its' := its.eraseIdx j) (t' := s.toks) hH e ?_ (r.eraseIdx j) ?_, rfl, q⟩
      · show its.toArray.eraseIdxIfInBounds j = _
        rw [List.eraseIdxIfInBounds_toArray]
      · have := eraseIdx_le w j; omega
def remF (S : Sx) (x : Str) (f : VF) (env : Env') (st : BSt) : Option (Out × Env' × BSt) := match slotOf S x with
  | some i => (f env st).bind fun q => (match env[i]? with
    | some (some (.ow (.list ds))) => if SeqAt.shaped (.list ds) && SeqAt.shaped q.1 then (idxD ds q.1).map fun j => (.nx, env.set i (some (.ow (.list (ds.eraseIdx j)))), q.2) else none
    | _ => none)
  | none => none
theorem rp_erase {K : PySem.W.Frag} {H : Hp} : ∀ {xs : List V} {ds : List D}, RpAll K H xs ds → ∀ j, RpAll K H (xs.eraseIdx j) (ds.eraseIdx j)
  | _, _, .nil, j => .nil
  | _, _, .cons a b, 0 => b
  | _, _, .cons a b, j + 1 => .cons a (rp_erase b j)
theorem ss_rem (C : CxS F S X) {x : Str} {e : Expr} {f : VF} {p apos cpos pos : Pos} (hl : (apos.endLine == cpos.line) = true) (hn : noStar e = true) (he : SoundV X e f) : SoundS X (.Expr (.Call (.Attribute (.Name x p) "remove" apos) [e] [] cpos) pos) (remF S x f) := by
  intro β Oo H0 O σ H env env' st st' o D rel h q
  unfold remF at h
  cases es : slotOf S x with
  | none => rw [es] at h; cases h
  | some i =>
    rw [es] at h
    obtain ⟨h1, h2, h3, h4⟩ := slotOf_ok C es
    obtain ⟨⟨d, s1⟩, e1, h⟩ := bind1 h
    dsimp only at h
    split at h
    · rename_i ds e3
      split at h
      case isFalse => cases h
      rename_i c
      rw [Bool.and_eq_true] at c
      obtain ⟨j, ej, h⟩ := map1 h
      cases h
      obtain ⟨v, hv, a, rfl, hO, hn', xs, ha, rxs⟩ := rel.sl i _ e3
      refine (ps_expr (pe_bm PySem.F.plainAttrs_list PySem.F.slot_list_remove PySem.F.type_list_remove (mt_remD C.hu) (pe_var h1 h2 h3 h4) (pa_cons (we_pe X e) pa_nil (noStar_ok hn [] X.env)) rfl (few_ok hn X.env cpos) hl (noStar_ok hn [] X.env) rfl) rfl).ws
        ⟨_, hv, .inl ⟨rfl, _, SqL.of ha⟩, he rel e1 fun w H1 sb1 bg1 tw => ?_⟩
      have rel1 := rel.step sb1 bg1
      have ha1 := sb1.go a _ hn' rfl ha
      have rx1 := rxs.mono (rel.fzm sb1)
      have tL : TopAt X.K β O H1 (.ref a) (.list ds) := top_of_ow hn' ⟨xs, ha1, rx1⟩
      refine ⟨a, xs, w, d, ds, j, rfl, rfl, ha1, tL.dp c.1, tw.dp c.2, c.1, c.2, ej, ?_⟩
      obtain ⟨r2, sm⟩ := rel1.mut (d' := .list (ds.eraseIdx j)) (o' := .lst (xs.eraseIdx j)) e3 hv ha1 rfl ⟨_, upd_same, (rp_erase rx1 j).mono fun b o q => by
        obtain ⟨n, q, t⟩ := fz_some3 q
        exact fz_put n (by rw [upd_ne (fun z => n (by rw [z]; exact hO))]; exact q) t⟩
      exact q _ _ _ r2 ((rel.fzm sb1).trans sm)
    · cases h
/-! ### d.get(k, e) -/
def getF (f g : VF) (e : EF) (env : Env') (st : BSt) : Option (R × BSt) := (f env st).bind fun p => (g env p.2).bind fun q => (e env q.2).bind fun r => r.1.d?.bind fun dd => (match p.1 with
  | .dict kds => if plainK kds then (Iv.keyOf q.1).map fun k => (.fz ((valG Iv.keyOf kds k).getD dd), r.2) else (match kds, q.1 with
    | [(.none, .dict kds')], .tuple ks => (keysOf ks).bind fun kk => if noCt kk then some (.fz ((valG decT kds' kk).getD dd), r.2) else none
    | _, _ => none)
  | _ => none)
theorem valG_no {κ : Type} [DecidableEq κ] {enc : κ → D} {dec : D → Option κ} (hd : ∀ k, dec (enc k) = some k) {k : κ} : ∀ {kds : List (D × D)} {kvs : List (κ × V)}, kds.map (·.1) = kvs.map (fun p => enc p.1) → valG dec kds k = none → valV kvs k = none
  | [], [], _, _ => rfl
  | [], _ :: _, h, _ => by simp at h
  | _ :: _, [], h, _ => by simp at h
  | p :: kds, u :: kvs, h, hv => by
    simp only [List.map_cons, List.cons.injEq] at h
    unfold valG at hv
    unfold valV
    rw [List.find?_cons] at hv ⊢
    rw [h.1, hd] at hv
    by_cases e : u.1 = k
    · rw [decide_eq_true (by rw [e])] at hv
      cases hv
    · rw [decide_eq_false (fun z => e (Option.some.inj z))] at hv
      rw [decide_eq_false e]
      exact valG_no hd h.2 hv
theorem m2_ok {o e x : Expr} {m : Str} {apos cpos : Pos} (hc : attributeBase o m X.env (eval o X.env) = eval o X.env) (hl : (apos.endLine == cpos.line) = true) (hn : noStar e = true) (hx : noStar x = true) : M2 X o m apos e x cpos := by
  have h1 := noStar_ok hn [x] X.env
  have h2 := noStar_ok hx [] X.env
  refine ⟨hc, ?_, hl, ?_⟩
  · rw [h1, h2]; rfl
  · rw [h1, h2]; rfl
theorem s_get (C : CxS F S X) {o e x : Expr} {f g : VF} {ef : EF} {apos pos : Pos} (hc : noCall0 o = true) (hl : (apos.endLine == pos.line) = true) (hn : noStar e = true) (hx : noStar x = true) (ho : SoundV X o f) (he : SoundV X e g) (hd : SoundE X x ef) : SoundE X (.Call (.Attribute o "get" apos) [e, x] [] pos) (getF f g ef) := by
  intro β Oo H0 O σ H env st r st' Q rel h q
  obtain ⟨⟨d1, s1⟩, e1, h⟩ := bind1 h
  obtain ⟨⟨d2, s2⟩, e2, h⟩ := bind1 h
  obtain ⟨⟨r3, s3⟩, e3, h⟩ := bind1 h
  obtain ⟨dd, e4, h⟩ := bind1 h
  dsimp only at h
  cases d1 with
  | dict kds =>
    dsimp only at h
    split at h
    case isFalse =>
      split at h
      case h_2 => cases h
      rename_i kds' ks _ _ _ _
      obtain ⟨kk, e5, h⟩ := bind1 h
      obtain ⟨c, h⟩ := ite_some h
      cases h
      refine (pe_dget2 (by have := C.hu; omega) (we_pe X o) (we_pe X e) (we_pe X x) (m2_ok (noCall0_ok hc _ _ _) hl hn hx)).we (ho rel e1 fun v H1 sb1 bg1 tv => ?_)
      have rel1 := rel.step sb1 bg1
      obtain ⟨aa, rfl, hna, hdc⟩ := tv
      have no1 : ∀ {H : Hp}, DcAt X.K O H aa [(.none, .dict kds')] → ∃ kvs : List (List Key × V), Rd H aa (.dT kvs) ∧ kds'.map (·.1) = kvs.map (fun p => encT p.1) ∧ RpAll X.K (Fz O H) (kvs.map (·.2)) (kds'.map (·.2)) := fun {H} hdc => by
        rcases hdc with ⟨kvs, _, h2, _⟩ | ⟨kds'', e6, kvs, h1, h2, h3⟩
        · exfalso
          cases kvs with
          | nil => cases h2
          | cons u kvs =>
            have h2 := (List.cons.inj h2).1
            obtain ⟨k0, _⟩ := u
            cases k0 <;> cases h2
        · cases e6; exact ⟨kvs, h1, h2, h3⟩
      obtain ⟨kvs1, g1, _, _⟩ := no1 hdc
      refine ⟨aa, rfl, .inr ⟨kvs1, g1⟩, he rel1 e2 fun y H2 sb2 bg2 ty => ?_⟩
      have rel2 := rel1.step sb2 bg2
      refine hd rel2 e3 fun z H3 sb3 bg3 rz => ?_
      have rel3 := rel2.step sb3 bg3
      have hdc3 := DcAt.mono (DcAt.mono hdc (rel1.fzm sb2) fun o t => sb2.go aa o hna t) (rel2.fzm sb3) fun o t => sb3.go aa o hna t
      obtain ⟨kvs, h1, h2, h3⟩ := no1 hdc3
      obtain ⟨bb, xs, rfl, _, rks, tb⟩ := rp_tup3 (Rp.mono (rel2.fzm sb3) ty)
      rcases tb with tb | tb
      case inr => exact absurd tb (noCt_ok c e5)
      have exs : xs = kk.map kV := by
        rw [keysOf_ok e5] at rks
        exact rp_keys rks
      subst exs
      have sb := (sb1.trans sb2).trans sb3
      cases hv : valG decT kds' kk with
      | some dv =>
        obtain ⟨v, hv', rv⟩ := valG_ok (enc := encT) decT_enc h2 h3 hv
        have rv' : ResAt X.K β O H H3 v (.fz ((valG decT kds' kk).getD dd)) := by rw [hv]; exact rv
        refine ⟨some v, ?_, q _ _ sb bg3 rv'⟩
        rw [← hv']
        exact .inr ⟨kvs, kk, bb, h1, rfl, (fz_some tb).2, rfl⟩
      | none =>
        have hv' := valG_no (enc := encT) decT_enc h2 hv
        have rv' : ResAt X.K β O H H3 z (.fz ((valG decT kds' kk).getD dd)) := by rw [hv]; exact rz.rp rel2 e4
        refine ⟨none, ?_, q _ _ sb bg3 rv'⟩
        rw [← hv']
        exact .inr ⟨kvs, kk, bb, h1, rfl, (fz_some tb).2, rfl⟩
    rename_i c
    obtain ⟨k, e5, h⟩ := map1 h
    cases h
    refine (pe_dget2 (by have := C.hu; omega) (we_pe X o) (we_pe X e) (we_pe X x) (m2_ok (noCall0_ok hc _ _ _) hl hn hx)).we (ho rel e1 fun v H1 sb1 bg1 tv => ?_)
    have rel1 := rel.step sb1 bg1
    obtain ⟨aa, rfl, hna, hdc⟩ := tv
    obtain ⟨kvs1, g1, _, _⟩ := DcAt.k hdc c
    refine ⟨aa, rfl, .inl ⟨kvs1, g1⟩, he rel1 e2 fun y H2 sb2 bg2 ty => ?_⟩
    have rel2 := rel1.step sb2 bg2
    refine hd rel2 e3 fun z H3 sb3 bg3 rz => ?_
    have rel3 := rel2.step sb3 bg3
    have hdc3 := DcAt.mono (DcAt.mono hdc (rel1.fzm sb2) fun o t => sb2.go aa o hna t) (rel2.fzm sb3) fun o t => sb3.go aa o hna t
    obtain ⟨kvs, h1, h2, h3⟩ := DcAt.k hdc3 c
    have ey : y = kV k := by
      rw [keyOf_ok e5] at ty
      cases k with
      | inl i => cases ty; rfl
      | inr i => cases ty; rfl
    have sb := (sb1.trans sb2).trans sb3
    cases hv : valG Iv.keyOf kds k with
    | some dv =>
      obtain ⟨v, hv', rv⟩ := valG_ok (enc := kD) keyOf_kD h2 h3 hv
      have rv' : ResAt X.K β O H H3 v (.fz ((valG Iv.keyOf kds k).getD dd)) := by rw [hv]; exact rv
      refine ⟨some v, ?_, q _ _ sb bg3 rv'⟩
      rw [ey, ← hv']
      exact .inl ⟨kvs, k, h1, rfl, rfl⟩
    | none =>
      have hv' := valG_no (enc := kD) keyOf_kD h2 hv
      have rv' : ResAt X.K β O H H3 z (.fz ((valG Iv.keyOf kds k).getD dd)) := by rw [hv]; exact rz.rp rel2 e4
      refine ⟨none, ?_, q _ _ sb bg3 rv'⟩
      rw [ey, ← hv']
      exact .inl ⟨kvs, k, h1, rfl, rfl⟩
  | _ => cases h
/-! ### for h in x: y = e, where x is a list of one's own that stays so -/
def forA (i j : Nat) (f : EF) : List D → Env' → BSt → Option (Env' × BSt)
  | [], env, st => some (env, st)
  | d :: ds, env, st => (f (env.set i (some (.fz d))) st).bind fun p => (match p.1 with
    | .fz e => forA i j f ds ((env.set i (some (.fz d))).set j (some (.fz e))) p.2
    | _ => none)
def forAF (n i j : Nat) (f : EF) (env : Env') (st : BSt) : Option (Out × Env' × BSt) := match env[n]? with
  | some (some (.ow (.list ds))) => if decide (n ≠ i) && decide (n ≠ j) then (forA i j f ds env st).map fun p => (.nx, p.1, p.2) else none
  | _ => none
theorem ss_forA (C : CxS F S X) {h x y : Str} {n i j : Nat} {e : Expr} {f : EF} {ph px py apos pos : Pos} (hh : tgtSlot S h = some i) (hx : slotOf S x = some n) (hy : tgtSlot S y = some j) (hc : noComp e = true) (he : SoundE X e f) : SoundS X (.For (.Name h ph) (.Name x px) [.Assign [.Name y py] e apos] [] pos) (forAF n i j f) := by
  intro β Oo H0 O σ H env env' st st' o D rel hf q
  unfold forAF at hf
  split at hf
  · rename_i ds e0
    split at hf
    case isFalse => cases hf
    rename_i c
    rw [Bool.and_eq_true] at c
    have n1 := of_decide_eq_true c.1
    have n2 := of_decide_eq_true c.2
    obtain ⟨⟨env1, st1⟩, e1, hf⟩ := map1 hf
    cases hf
    obtain ⟨v, hv, a, rfl, hO, hn, xs, ha, rxs⟩ := rel.sl n _ e0
    obtain ⟨x1, x2, x3, x4⟩ := slotOf_ok C hx
    obtain ⟨y1, y2, y3, y4⟩ := tgtSlot_ok C hy
    refine (ps_for (by rw [C.xe]; exact PassesOwn.never) C.calm (pi_list (pe_var x1 x2 x3 x4)) (wg_pg X (.Name h ph)) (wss_pss X [.Assign [.Name y py] e apos]) (noSetI_ok rfl X.env)).ws ⟨_, hv, a, rfl, ⟨xs, SqL.of ha⟩, ?_⟩
    refine ⟨fun t m σm Hm => m = ds.length - t ∧ t ≤ ds.length ∧ ∃ envm stm, Rel X.K β Oo H0 O σm Hm envm stm ∧ SB β H Hm ∧ σm[n]? = some (some (.ref a)) ∧ forA i j f (ds.drop t) envm stm = some (env1, st1), ⟨ds.length, rfl, Nat.zero_le _, env, st, rel, SB.refl, hv, e1⟩, ?_⟩
    rintro t m σm Hm ⟨rfl, ht, envm, stm, relm, sbm, hvm, em⟩
    have ham := sbm.go a _ hn rfl ha
    have rxm := rxs.mono (rel.fzm sbm)
    have hxl := rxs.length
    by_cases hlt : t < ds.length
    · refine .inr ⟨walk_list.goes t Hm (by omega) (SqL.of ham), fun σ' H' => ∃ envm stm, Rel X.K β Oo H0 O σ' H' envm stm ∧ SB β H H' ∧ σ'[n]? = some (some (.ref a)) ∧ forA i j f (ds.drop (t + 1)) envm stm = some (env1, st1),
        fun σ' H' z => ⟨ds.length - (t + 1), by omega, rfl, by omega, z⟩, fun w H3 yl => ?_⟩
      obtain ⟨rfl, ew⟩ := walk_list.yields t Hm w H3 (by omega) (SqL.of ham) yl
      obtain ⟨d, ed, rw'⟩ := rpall_get rxm ew
      have edrop : ds.drop t = d :: ds.drop (t + 1) := by
        rw [List.drop_eq_getElem_cons hlt]
        rw [List.getElem?_eq_getElem hlt] at ed
        cases ed; rfl
      rw [edrop] at em
      obtain ⟨⟨r5, s5⟩, e5, em⟩ := bind1 em
      dsimp only at em
      cases r5 with
      | fz d5 =>
        refine g_name C hh relm rw' rfl fun σ4 rel4 _ keep => ?_
        refine (pss_cons (ws_ps X _) (wss_pss X [])).wss ?_
        refine (ps_set y1 y2 y3 (we_pe X e) (noComp_ok hc _ _ _) y4).ws (he rel4 e5 fun v5 H5 sb5 bg5 rv5 => ?_)
        refine pss_nil.wss ?_
        refine ⟨_, _, (rel4.step sb5 bg5).put j (x := .fz d5) rv5 (fun _ z => by cases z), sbm.trans sb5, ?_, em⟩
        rw [set_ne n2, keep n (by simpa using n1)]
        exact hvm
      | _ => cases em
    · have en : t = ds.length := by omega
      subst en
      rw [List.drop_length] at em
      cases em
      exact .inl ⟨by rw [← hxl]; exact walk_list.stops Hm (SqL.of ham), q σm Hm O relm (rel.fzm sbm)⟩
  · cases hf
end
end Iv

set_option maxHeartbeats 4000000
namespace Iv
open PySem PySem.Spec PyProof.Rows L2
variable [Ct] [Nm]
/-! ### for k in d: the dict is locked meanwhile -/
def isDc : HO → Bool
  | .dK _ => true
  | .dT _ => true
  | _ => false
def IsDk (u d : HO) : Prop := isDc d = true ∧ (u = d ∨ ∃ q, u = .frz q d)
/-- what stands there stays, but for dicts that are locked, or no more -/
def Lk (h h' : Hp) : Prop := ∀ a o, h a = some o → h' a = some o ∨ ∃ d, IsDk o d ∧ Rd h' a d
section
variable {K : PySem.W.Frag} {H H' : Hp}
theorem Lk.rdK (e : Lk H H') {a : Addr} {d : HO} (hd : isDc d = true) (h : Rd H a d) : Rd H' a d := by
  rcases h with h | ⟨o, h⟩
  · rcases e _ _ h with h | ⟨d', ⟨z0, (z | ⟨q, z⟩)⟩, r⟩
    · exact .inl h
    · subst z; exact r
    · subst z; cases hd
  · rcases e _ _ h with h | ⟨d', ⟨z0, (z | ⟨q, z⟩)⟩, r⟩
    · exact .inr ⟨o, h⟩
    · subst z; cases z0
    · cases z; exact r
theorem Lk.one (e : Lk H H') {a : Addr} {o : HO} (h : H a = some o) (n : ∀ d, ¬ IsDk o d) : H' a = some o := (e a o h).elim id fun ⟨kvs, z, _⟩ => (n kvs z).elim
theorem no_lst {xs : List V} {d : HO} : ¬ IsDk (.lst xs) d := fun ⟨y, z⟩ => z.elim (fun z => by subst z; cases y) fun ⟨_, z⟩ => by cases z
theorem no_flst {o : Obj} {xs : List V} {d : HO} : ¬ IsDk (.frz o (.lst xs)) d := fun ⟨y, z⟩ => z.elim (fun z => by subst z; cases y) fun ⟨_, z⟩ => by cases z; cases y
theorem no_tup {xs : List V} {d : HO} : ¬ IsDk (.tup xs) d := fun ⟨y, z⟩ => z.elim (fun z => by subst z; cases y) fun ⟨_, z⟩ => by cases z
theorem no_ftup {o : Obj} {xs : List V} {d : HO} : ¬ IsDk (.frz o (.tup xs)) d := fun ⟨y, z⟩ => z.elim (fun z => by subst z; cases y) fun ⟨_, z⟩ => by cases z; cases y
theorem Lk.sqT (e : Lk H H') {a : Addr} {xs : List V} (h : SqT K H a xs) : SqT K H' a xs := by
  rcases h with (h | ⟨o, h⟩) | h
  · exact .inl (.inl (e.one h fun _ => no_tup))
  · exact .inl (.inr ⟨o, e.one h fun _ => no_ftup⟩)
  · exact .inr h
theorem Rp.lk (e : Lk H H') {v : V} {d : D} (h : Rp K H v d) : Rp K H' v d := by
  refine Rp.rec (motive_1 := fun v d _ => Rp K H' v d) (motive_2 := fun vs ds _ => RpAll K H' vs ds) ?_ ?_ ?_ ?_ ?_ ?_ ?_ ?_ ?_ ?_ h
  · exact .non
  · exact fun b => .bl b
  · exact fun i => .int i
  · exact fun x => .str x
  · exact fun h1 _ ih => .lst (e.one h1 fun _ => no_lst) ih
  · exact fun h1 _ h3 ih => .tup (e.sqT h1) ih (h3.imp (fun h => e.one h fun _ => no_tup) id)
  · exact fun h1 _ ih => .dct (e.rdK rfl h1) ih
  · exact fun h1 _ ih => .dctT (e.rdK rfl h1) ih
  · exact .nil
  · exact fun _ _ a b => .cons a b
theorem RpAll.lk (e : Lk H H') : ∀ {vs : List V} {ds : List D}, RpAll K H vs ds → RpAll K H' vs ds
  | _, _, .nil => .nil
  | _, _, .cons a b => .cons (a.lk e) (b.lk e)
end
section
variable {K : PySem.W.Frag} {β : Option Addr} {Oo O : Addr → Prop} {H0 H : Hp} {σ : L2.St} {env : Env'} {st : BSt} {d : Addr} {u u' : HO} {kvs : HO}
theorem dk_tbl (h : IsDk u kvs) : isTbl u = false := by
  obtain ⟨y, (rfl | ⟨q, rfl⟩)⟩ := h
  · cases u <;> first | rfl | cases y
  · rfl
theorem lk_upd (hd : H d = some u) (hu : IsDk u kvs) (hu' : IsDk u' kvs) (nO : ¬ O d) : Lk (Fz O H) (Fz O (upd H d u')) := fun a o h => by
  obtain ⟨n, h, t⟩ := fz_some3 h
  by_cases e : a = d
  · subst e
    rw [hd] at h; cases h
    refine .inr ⟨kvs, hu, ?_⟩
    have ht := dk_tbl hu'
    obtain ⟨_, (rfl | ⟨q, rfl⟩)⟩ := hu'
    · exact .inl (fz_put n upd_same ht)
    · exact .inr ⟨q, fz_put n upd_same rfl⟩
  · exact .inl (fz_put n (by rw [upd_ne e]; exact h) t)
theorem tab_dk (hd : H d = some u) (hu : IsDk u kvs) {P : Addr} {nm : Nat → Nat → Str} (t : NdefX.TabN H P nm) : NdefX.TabN (upd H d u') P nm := by
  obtain ⟨ps, h1, h2, h3⟩ := t
  refine ⟨ps, ?_, h2, fun pos cv hc => ?_⟩
  · rw [upd_ne (fun z => by rw [z, hd] at h1; cases h1; obtain ⟨y, (z | ⟨_, z⟩)⟩ := hu <;> first | (subst z; cases y) | cases z)]; exact h1
  · obtain ⟨c, e1, e2⟩ := h3 pos cv hc
    refine ⟨c, e1, ?_⟩
    rw [upd_ne (fun z => by rw [z, hd] at e2; cases e2; obtain ⟨y, (z | ⟨_, z⟩)⟩ := hu <;> first | (subst z; cases y) | cases z)]; exact e2
theorem sl_lk (hd : H d = some u) (hu : IsDk u kvs) (hu' : IsDk u' kvs) (nO : ¬ O d) {v : V} {r : R} (h : SlAt K β O H v r) : SlAt K β O (upd H d u') v r := by
  have L := lk_upd (O := O) hd hu hu' nO
  have ne : ∀ a o, H a = some o → (∀ kvs, ¬ IsDk o kvs) → upd H d u' a = some o := fun a o e n => by
    rw [upd_ne (fun z => by rw [z, hd] at e; cases e; exact n _ hu)]; exact e
  cases r with
  | fz dd => exact Rp.lk L h
  | ow dd =>
    obtain ⟨a, rfl, hO, hn, ho⟩ := h
    have ad : a ≠ d := fun z => nO (z ▸ hO)
    refine ⟨a, rfl, hO, hn, ?_⟩
    cases dd with
    | list ds => obtain ⟨xs, h1, h2⟩ := ho; exact ⟨xs, by rw [upd_ne ad]; exact h1, h2.lk L⟩
    | dict kds =>
      obtain ⟨hdc, o, ho, pl⟩ := ho
      refine ⟨?_, o, by rw [upd_ne ad]; exact ho, pl⟩
      rcases hdc with ⟨kv, h1, h2, h3⟩ | ⟨kds', rfl, kv, h1, h2, h3⟩
      · refine .inl ⟨kv, ?_, h2, h3.lk L⟩
        unfold Rd at h1 ⊢
        rw [upd_ne ad]; exact h1
      · refine .inr ⟨kds', rfl, kv, ?_, h2, h3.lk L⟩
        unfold Rd at h1 ⊢
        rw [upd_ne ad]; exact h1
    | none => exact ho.elim
    | bool _ => exact ho.elim
    | int _ => exact ho.elim
    | str _ => exact ho.elim
    | tuple _ => exact ho.elim
  | bag => exact h
  | scr ns =>
    obtain ⟨a, rfl, h⟩ := h
    refine ⟨a, rfl, ?_⟩
    rcases h with ⟨n, o, h⟩ | h | ⟨n, h⟩
    · exact .inl ⟨n, o, ne _ _ h fun _ => no_flst⟩
    · exact .inr (.inl h)
    · exact .inr (.inr ⟨n, L.one h fun _ => no_lst⟩)
  | fnc f F ws ds =>
    obtain ⟨rfl, h⟩ := h
    exact ⟨rfl, h.nf, h.nc, ne _ _ h.ob (fun _ z => by obtain ⟨y, (z | ⟨_, z⟩)⟩ := z <;> first | (subst z; cases y) | cases z), ne _ _ h.co (fun _ z => by obtain ⟨y, (z | ⟨_, z⟩)⟩ := z <;> first | (subst z; cases y) | cases z), h.rp.lk L⟩
theorem bag_lk (hd : H d = some u) (hu : IsDk u kvs) (h : BagAt β H st) : BagAt β (upd H d u') st := by
  cases st with
  | none => exact h
  | some p =>
    obtain ⟨g, s⟩ := p
    obtain ⟨b, e, h⟩ := h
    exact ⟨b, e, by rw [upd_ne (fun z => by rw [z, hd] at h; cases h; exact no_lst hu)]; exact h⟩
def lkH (H0 : Hp) (d : Addr) (u' : HO) : Hp := fun a => if a = d then (H0 d).map (fun _ => u') else H0 a
theorem lkH_d (H0 : Hp) (d : Addr) (u' : HO) : lkH H0 d u' d = (H0 d).map (fun _ => u') := if_pos rfl
theorem lkH_ne {H0 : Hp} {d a : Addr} {u' : HO} (h : a ≠ d) : lkH H0 d u' a = H0 a := if_neg h
theorem Rel.lock (r : Rel K β Oo H0 O σ H env st) (hd : H d = some u) (hu : IsDk u kvs) (hu' : IsDk u' kvs) (nO : ¬ O d) : Rel K β Oo (lkH H0 d u') O σ (upd H d u') env st where
  sl := fun i x e => let ⟨v, h1, h2⟩ := r.sl i x e; ⟨v, h1, sl_lk hd hu hu' nO h2⟩
  ne := r.ne
  fr := fun i dd a h1 h2 => by
    have z := r.fr i dd a h1 h2
    by_cases e : a = d
    · rw [e] at z ⊢; rw [lkH_d, z]; rfl
    · rw [lkH_ne e]; exact z
  len := r.len
  sub := r.sub
  dom := fun a ha => by
    obtain ⟨o, e, p⟩ := r.dom a ha
    exact ⟨o, by rw [upd_ne (fun z : a = d => nO (z ▸ ha))]; exact e, p⟩
  dom0 := fun a ha => by
    have z := r.dom0 a ha
    rw [lkH_ne (fun e : a = d => nO (e ▸ r.sub a ha))]; exact z
  sb := by
    refine ⟨fun a o n t e => ?_, fun a n e => ?_, fun _ p hp => tab_dk hd hu (r.tabs p hp)⟩
    · by_cases z : a = d
      · subst z
        rw [lkH_d] at e
        obtain ⟨_, _, rfl⟩ := map1 e
        exact upd_same
      · rw [lkH_ne z] at e
        rw [upd_ne z]; exact r.sb.go a o n t e
    · by_cases z : a = d
      · subst z; rw [upd_same] at e; cases e
      · rw [upd_ne z] at e
        rw [lkH_ne z]; exact r.sb.dm a n e
  bag := bag_lk hd hu r.bag
  bO := r.bO
  tabs := fun p hp => tab_dk hd hu (r.tabs p hp)
theorem Rel.unlock {O1 : Addr → Prop} {σ1 : L2.St} {H1 : Hp} {env1 : Env'} {st1 : BSt} (r : Rel K β Oo H0 O σ H env st) (hd : H d = some u) (r1 : Rel K β Oo (lkH H0 d u') O1 σ1 H1 env1 st1) (hd1 : H1 d = some u') (hu : IsDk u kvs) (hu' : IsDk u' kvs) (nO : ¬ O1 d) : Rel K β Oo H0 O1 σ1 (upd H1 d u) env1 st1 where
  sl := fun i x e => let ⟨v, h1, h2⟩ := r1.sl i x e; ⟨v, h1, sl_lk hd1 hu' hu nO h2⟩
  ne := r1.ne
  fr := fun i dd a h1 h2 => by
    have z := r1.fr i dd a h1 h2
    by_cases e : a = d
    · rw [e, lkH_d] at z
      rw [e]
      cases q : H0 d with
      | none => rfl
      | some o => rw [q] at z; cases z
    · rw [lkH_ne e] at z; exact z
  len := r1.len
  sub := r1.sub
  dom := fun a ha => by
    obtain ⟨o, e, p⟩ := r1.dom a ha
    exact ⟨o, by rw [upd_ne (fun z : a = d => nO (z ▸ ha))]; exact e, p⟩
  dom0 := r.dom0
  sb := by
    refine ⟨fun a o n t e => ?_, fun a n e => ?_, fun _ p hp => tab_dk hd1 hu' (r1.tabs p hp)⟩
    · by_cases z : a = d
      · subst z
        have := r.sb.go _ _ n t e
        rw [hd] at this
        cases this
        exact upd_same
      · rw [upd_ne z]
        exact r1.sb.go a o n t (by rw [lkH_ne z]; exact e)
    · by_cases z : a = d
      · subst z; rw [upd_same] at e; cases e
      · rw [upd_ne z] at e
        have := r1.sb.dm a n e
        rw [lkH_ne z] at this; exact this
  bag := bag_lk hd1 hu' r1.bag
  bO := r1.bO
  tabs := fun p hp => tab_dk hd1 hu' (r1.tabs p hp)
end
theorem it_keys {K : PySem.W.Frag} {d : Addr} {od : Obj} {kvs : List (Key × V)} : ItOk K (Itk d od kvs) (fun h => h d = some (.frz od (.dK kvs))) (kvs.map fun p => kD p.1) where
  mono := fun e z => e _ _ z
  goes := fun {O H i} hi z => ⟨(fz_some z).2, by simpa using hi⟩
  stops := fun {O H} z => ⟨(fz_some z).2, by simp⟩
  yld := fun {O H H' i x} hi _ z y => by
    obtain ⟨rfl, k, v, e, rfl⟩ := y
    refine ⟨Same.refl _, kD k, by rw [List.getElem?_map, e]; rfl, ?_⟩
    cases k with
    | inl i => exact .int _
    | inr i => exact .str _
def forKF (n : Nat) (g : GF) (f : SF) (env : Env') (st : BSt) : Option (Out × Env' × BSt) := match env[n]? with
  | some (some (.fz (.dict kds))) => if plainK kds then (forL g f (kds.map (·.1)) env st).bind fun q => (match q.1 with
    | .nx => some q
    | _ => none) else none
  | _ => none
section
variable {F : FT} {S : Sx} {X : Cx}
theorem forK_core (C : CxS F S X) {x : Str} {n : Nat} {tg : Expr} {a : List Stmt} {g : GF} {sl : List Nat} {f : SF} {px pos : Pos} (hx : slotOf S x = some n) (hg : SoundG X tg sl g) (ha : SoundSs X a f)
    {β : Option Addr} {Oo : Addr → Prop} {H0 : Hp} {O : Addr → Prop} {σ : L2.St} {H : Hp} {env env' : Env'} {st st' : BSt} {D : Ends} {d : Addr} {od : Obj} {kvs : List (Key × V)} (rel : Rel X.K β Oo H0 O σ H env st) (hv : σ[n]? = some (some (.ref d))) (hd : H d = some (.frz od (.dK kvs))) (nO : ¬ O d)
    (h : forL g f (kvs.map fun p => kD p.1) env st = some (.nx, env', st')) (q : ∀ σ' H' O', Rel X.K β Oo H0 O' σ' H' env' st' → Same (Fz O H) (Fz O' H') → D.nx σ' H') : Ws X (.For tg (.Name x px) a [] pos) D σ H := by
  obtain ⟨x1, x2, x3, x4⟩ := slotOf_ok C hx
  refine (ps_for (by rw [C.xe]; exact PassesOwn.never) C.calm (pi_keys (pe_var x1 x2 x3 x4)) (wg_pg X tg) (wss_pss X a) (noSetI_ok rfl X.env)).ws ⟨_, hv, d, od, rfl, .inl ⟨kvs, hd, ?_⟩⟩
  have ok := it_keys (K := X.K) (d := d) (od := od) (kvs := kvs)
  have fr : Fz O H d = some (.frz od (.dK kvs)) := fz_put nO hd rfl
  generalize kvs.map (fun p => kD p.1) = ds at *
  refine ⟨fun n m σm Hm => m = ds.length - n ∧ n ≤ ds.length ∧ ∃ O1 env1 st1, Rel X.K β Oo H0 O1 σm Hm env1 st1 ∧ Same (Fz O H) (Fz O1 Hm) ∧ forL g f (ds.drop n) env1 st1 = some (.nx, env', st'),
    ⟨ds.length, rfl, Nat.zero_le _, O, env, st, rel, Same.refl _, by simpa using h⟩, ?_⟩
  rintro n m σm Hm ⟨rfl, hn, O1, env1, st1, rel2, sm2, e2⟩
  have fr2 := ok.mono sm2 fr
  by_cases hlt : n < ds.length
  · refine .inr ⟨ok.goes hlt fr2, fun σ' H' => ∃ O1 env1 st1, Rel X.K β Oo H0 O1 σ' H' env1 st1 ∧ Same (Fz O H) (Fz O1 H') ∧ forL g f (ds.drop (n + 1)) env1 st1 = some (.nx, env', st'),
      fun σ' H' z => ⟨ds.length - (n + 1), by omega, rfl, by omega, z⟩, fun x H3 y => ?_⟩
    obtain ⟨sm, dd, ed, rx⟩ := ok.yld hlt rel2.dom fr2 y
    have edrop : ds.drop n = dd :: ds.drop (n + 1) := by
      rw [List.drop_eq_getElem_cons hlt]
      rw [List.getElem?_eq_getElem hlt] at ed
      cases ed; rfl
    rw [edrop] at e2
    obtain ⟨env3, g3, e2⟩ := bind1 e2
    obtain ⟨⟨o4, env4, st4⟩, e4, e2⟩ := bind1 e2
    have rel3 := rel2.step (same_sb sm) (same_bag sm rel2.bag)
    have sm3 := sm2.trans (same_fz sm)
    refine hg rel3 rx g3 fun σ4 rel4 _ _ => ha rel4 e4 ?_
    cases o4 with
    | nx => exact fun σ' H' O' r' s' => ⟨O', env4, st4, r', sm3.trans s', e2⟩
    | ct => exact fun σ' H' O' r' s' => ⟨O', env4, st4, r', sm3.trans s', e2⟩
    | bk => cases e2; exact fun σ' H' O' r' s' => q σ' H' O' r' (sm3.trans s')
    | rt r => cases e2
  · have en : n = ds.length := by omega
    subst en
    rw [List.drop_length] at e2
    cases e2
    exact .inl ⟨ok.stops fr2, q σm Hm O1 rel2 sm2⟩
theorem ss_forK (C : CxS F S X) {x : Str} {n : Nat} {tg : Expr} {a : List Stmt} {g : GF} {sl : List Nat} {f : SF} {px pos : Pos} (hx : slotOf S x = some n) (hg : SoundG X tg sl g) (ha : SoundSs X a f) : SoundS X (.For tg (.Name x px) a [] pos) (forKF n g f) := by
  intro β Oo H0 O σ H env env' st st' o D rel hf q
  unfold forKF at hf
  split at hf
  case h_2 => cases hf
  rename_i kds e0
  obtain ⟨c, hf⟩ : plainK kds = true ∧ ((forL g f (kds.map (·.1)) env st).bind fun q => (match q.1 with
    | .nx => some q
    | _ => none)) = some (o, env', st') := by
    cases z : plainK kds with
    | false => rw [z] at hf; cases hf
    | true => rw [z] at hf; exact ⟨rfl, hf⟩
  obtain ⟨⟨o1, env1, st1⟩, e1, hf⟩ := bind1 hf
  cases o1 with
  | bk => cases hf
  | ct => cases hf
  | rt r => cases hf
  | nx =>
    cases hf
    obtain ⟨v, hv, rp⟩ := rel.sl n _ e0
    have rp : Rp X.K (Fz O H) v (.dict kds) := rp
    obtain ⟨d, rfl, hn, hdc⟩ : TopAt X.K β O H v (.dict kds) := top_of_rp rel.bO' rp
    obtain ⟨kvs, h1, h2, h3⟩ := DcAt.k hdc c
    have nO : ¬ O d := by
      cases rp with
      | dct z _ => exact z.elim (fun z => (fz_some z).1) fun ⟨_, z⟩ => (fz_some z).1
      | dctT z _ => exact z.elim (fun z => (fz_some z).1) fun ⟨_, z⟩ => (fz_some z).1
    rw [h2] at e1
    rcases h1 with h1 | ⟨od, h1⟩
    · refine (ps_lock (ws_ps X _)).ws ⟨d, _, h1, trivial, fun od => ?_⟩
      have hu : IsDk (.dK kvs) (.dK kvs) := ⟨rfl, .inl rfl⟩
      have hu' : IsDk (.frz od (.dK kvs)) (.dK kvs) := ⟨rfl, .inr ⟨od, rfl⟩⟩
      refine forK_core C hx hg ha (rel.lock h1 hu hu' nO) hv upd_same nO e1 fun σ' H' O' r' s' => ?_
      have hz := s' d (.frz od (.dK kvs)) (fz_put nO upd_same rfl)
      obtain ⟨nO', hd'⟩ := fz_some hz
      refine ⟨hd', q _ _ O' (rel.unlock h1 r' hd' hu hu' nO') fun b o e => ?_⟩
      obtain ⟨n', e, t⟩ := fz_some3 e
      by_cases z : b = d
      · subst z
        rw [h1] at e; cases e
        exact fz_put nO' upd_same rfl
      · have := s' b o (fz_put n' (by rw [upd_ne z]; exact e) t)
        obtain ⟨n2, e2, _⟩ := fz_some3 this
        exact fz_put n2 (by rw [upd_ne z]; exact e2) t
    · exact forK_core C hx hg ha rel hv h1 nO e1 fun σ' H' O' r' s' => q σ' H' O' r' s'
end
end Iv

set_option maxHeartbeats 4000000
namespace Iv
open PySem PySem.Spec PyProof.Rows L2
variable [Ct] [Nm]
/-! ### a bag that is made for one call alone -/
def takF (F : FT) (x : Str) (f g : EF) (env : Env') (st : BSt) : Option (R × BSt) := match st with
  | none => (f env none).bind fun p => (match p with
    | (.ow (.list [.int a, .int b]), none) => (g env none).bind fun q => (match q with
      | (.fz (.int n), none) => (F x [.bag, .fz (.int n)] (some (a, b))).bind fun r => (match r.1 with
        | .fz e => some (.fz e, none)
        | _ => none)
      | _ => none)
    | _ => none)
  | some _ => none
section
variable {F : FT} {S : Sx} {X : Cx}
theorem s_tak (C : CxS F S X) {x : Str} {e1 e2 : Expr} {f g : EF} {p pos : Pos} (hx : isFn S x = true) (hn : noStar e1 = true) (hn2 : noStar e2 = true) (h1 : SoundE X e1 f) (h2 : SoundE X e2 g) : SoundE X (.Call (.Name x p) [e1, e2] [] pos) (takF F x f g) := by
  intro β Oo H0 O σ H env st r st' Q rel h q
  cases st with
  | some _ => cases h
  | none =>
  have hβ : β = none := rel.bag
  subst hβ
  obtain ⟨⟨r1, s1⟩, k1, h⟩ := bind1 (show (f env none).bind _ = _ from h)
  split at h
  case h_2 => cases h
  rename_i a b ep
  cases ep
  obtain ⟨⟨r2, s2⟩, k2, h⟩ := bind1 h
  split at h
  case h_2 => cases h
  rename_i n eq2
  cases eq2
  obtain ⟨⟨r3, s3⟩, k3, h⟩ := bind1 h
  obtain ⟨gx, ⟨k, fa, fd, ps, gg, z1, z2, z3, z4, z5, z7, z6⟩, hd⟩ := isFn_ok C hx
  refine we_call z5 z7 z4 gx z1 z2 z3 hd hn (by simp [hn2]) ?_
  refine (pa_cons (we_pe X e1) (pa_cons (we_pe X e2) pa_nil (noStar_ok hn2 [] X.env)) (noStar_ok hn [e2] X.env)).wa (h1 rel k1 fun v H1 sb1 bg1 rv => ?_)
  obtain ⟨pb, rfl, g1, g2, xs, g3, g4⟩ := rv
  have exs : xs = [.int a, .int b] := by
    cases g4 with
    | cons z1 z2 => cases z1; cases z2 with
      | cons z3 z4 => cases z3; cases z4; rfl
  subst exs
  have rel1 := rel.step sb1 bg1
  refine h2 rel1 k2 fun v2 H2 sb2 bg2 rv2 => ?_
  have rel2 := rel1.step sb2 bg2
  have ev : v2 = .int n := by cases rv2; rfl
  subst ev
  intro pins s I
  have gb := sb2.go pb _ g2 rfl g3
  have ln : [V.ref pb, .int n].length = ps.length := (z6 _ _ _ k3)
  refine ⟨ln, some pb, orO O pb, [.ref pb, .int n], [.bag, .fz (.int n)], none, some (a, b), r3, s3, rfl, .cons ⟨(fun _ z => by cases z), pb, rfl, rfl⟩ (.cons ⟨(fun _ z => by cases z), .int n⟩ .nil), ?_, trivial, (fun b' z => .inr (Option.some.inj z).symm), ?_, ⟨pb, rfl, gb⟩, rel2.tabs, k3, fun v H3 sb3 bg3 rv3 => ?_⟩
  · intro f' F' ws ds hm
    simp at hm
  · intro aa ha
    rcases ha with ha | rfl
    · exact rel2.dom aa ha
    · exact ⟨_, gb, rfl⟩
  · cases r3 with
    | fz e =>
      cases h
      have over : SB none H H3 := by
        have s := sb1.trans sb2
        refine ⟨fun aa oo nb t ea => ?_, fun aa nb ea => ?_, fun t => sb3.tb (s.tb t)⟩
        · have ap : aa ≠ pb := ne_of_none ea g1
          exact sb3.go aa oo (fun z => ap (Option.some.inj z).symm) t (s.go aa oo nb t ea)
        · by_cases ap : aa = pb
          · rw [ap]; exact g1
          · exact s.dm aa nb (sb3.dm aa (fun z => ap (Option.some.inj z).symm) ea)
      exact q v H3 over rfl (Rp.mono (fz_mono (fun aa ha => .inl ha) fun _ _ _ _ z => z) rv3)
    | ow d => cases h
    | bag => cases h
    | scr ns => cases h
    | fnc _ _ _ _ => cases h
/-! ### list(range(a, b)) -/
def lrF (f g : VF) (env : Env') (st : BSt) : Option (R × BSt) := (f env st).bind fun p => (g env p.2).bind fun q => (match p.1, q.1 with
  | .int i, .int j => if decide (0 ≤ i) && decide (i ≤ 100000) && decide (0 ≤ j) && decide (j ≤ 100000) then some (.ow (.list (rangeD2 i (j - i).toNat)), q.2) else none
  | _, _ => none)
theorem rg_rp {K : PySem.W.Frag} {h : Hp} (a b : Int) : RpAll K h (rgV a b) (rangeD2 a (b - a).toNat) := by
  unfold rgV rangeD2
  generalize List.range (b - a).toNat = l
  induction l with
  | nil => exact .nil
  | cons x l ih => exact .cons (.int _) ih
theorem s_lr (C : CxS F S X) {x y : Str} {a b : Expr} {f g : VF} {p p2 pos pos2 : Pos} (hx : isB S "list" x = true) (hy : isB S "range" y = true) (hn : noStar a = true) (hn2 : noStar b = true) (ha : SoundV X a f) (hb : SoundV X b g) : SoundE X (.Call (.Name x p) [.Call (.Name y p2) [a, b] [] pos2] [] pos) (lrF f g) := by
  intro β Oo H0 O σ H env st r st' Q rel h q
  obtain ⟨⟨d1, s1⟩, e1, h⟩ := bind1 h
  obtain ⟨⟨d2, s2⟩, e2, h⟩ := bind1 h
  dsimp only at h
  split at h
  case h_2 => cases h
  rename_i i j _
  obtain ⟨c, h⟩ := ite_some h
  cases h
  simp only [Bool.and_eq_true, decide_eq_true_eq] at c
  unfold isB at hx hy
  rw [Bool.and_eq_true] at hx hy
  have ex := of_decide_eq_true hx.2
  have ey := of_decide_eq_true hy.2
  subst ex ey
  obtain ⟨gx, mx, nx, dx⟩ := isBlt_ok C hx.1
  obtain ⟨gy, my, ny, dy⟩ := isBlt_ok C hy.1
  refine (pe_listRg C.calm gx mx (prg_2 gy my (we_pe X a) (we_pe X b) (noStar_ok hn [b] X.env) (noStar_ok hn2 [] X.env) (noStars_any (by simp [hn2]))) rfl).we (ha rel e1 fun v H1 sb1 bg1 tv => ?_)
  have rel1 := rel.step sb1 bg1
  refine hb rel1 e2 fun w H2 sb2 bg2 tw => ?_
  have rel2 := rel1.step sb2 bg2
  cases tv; cases tw
  refine ⟨i, j, rfl, rfl, RgOk.of_le c.1.1.1 (by omega) (by omega) c.1.2, fun p hp => ?_⟩
  have sb := sb1.trans sb2
  exact q _ _ (sb.trans (SB.laid hp)) (same_bag (same_laid hp) bg2) ((fresh_list hp rel2.dom' (rel2.neB hp) (rg_rp i j)).back sb)
end
end Iv

set_option maxHeartbeats 4000000
namespace L2
open PySem PySem.Spec PyProof.Rows
/-! ### {k: v for ..}, whatever the keys are: by DPut -/
theorem dset_by {X : Cx} {pn : List (Addr × Obj)} {τ : St} {h0 h1 : Hp} {t : Shared} {E : Value → Shared → Prop} {D : Addr} {y z : V} {u r : Value} {Q : Unit → Shared → Prop} (hu : X.A.units + 1 < cLine) (J : Inv X pn τ h0 t) (g : DPut h0 D y z h1) (ry : RelV y u) (rz : RelV z r)
    (q : ∀ t', Inv X pn τ h1 t' → Q () t') : wpAny (model X.prog X.w) X.A (dictSet D u r) Q E t := by
  rcases g with ⟨kvs, k, e, rfl, l, rfl⟩ | ⟨kvs, k, b, e, rfl, eb, l, rfl⟩
  · exact d_dictSet J e l ry rz q
  · cases (show u = Value.ref b from ry)
    obtain ⟨n1, nd, xs, kt, dd⟩ := dt_of J.hok e
    have len := Paired.length kt
    have l2 : (putK kvs k z).length ≤ sizeLine := Nat.le_trans (length_putK kvs k z) l
    refine wpAny_dictSet_heap (hsz := by omega) (show (tupleKind (mixKind X.prog X.w)).room X.A from by show X.A.units < cLine; omega) (key_of J.hok eb) dd fun g' dd' sb => q _ ?_
    obtain ⟨o, es, ep, a1, a2, a3, a4, _, a5⟩ := dd'
    refine d_write J (by rw [e]; exact True.intro) sb ⟨o, a1⟩ ⟨l2, nd, _, (kt.put k eb rz).keeps fun c ys ec => ?_, o, es, ep, a1, a2, a3, a4, a5⟩
    rw [upd_ne fun w => by rw [w, e] at ec; cases ec]
    exact ec
def DcB (mk : HO) (J : It) (h1 : Hp) (g : TG) (tt : TT) (tk tv : TE) (vs : List Nat) (σ : St) (Q : VK) : Prop := ∀ D, h1 D = none → ∃ W : Nat → Nat → Hp → Prop, (∃ m, W 0 m (upd h1 D mk)) ∧ ∀ i m h, W i m h →
  (J.stop i h ∧ Q (.ref D) h) ∨ (J.go i h ∧ ∃ Nx : Hp → Prop, (∀ h', Nx h' → ∃ m', m' < m ∧ W (i + 1) m' h') ∧ ∀ x h', J.yld i h x h' → g x (wipe σ vs) h' fun σ2 h2 => wipe σ2 vs = wipe σ vs ∧ tt σ2 h2 fun b h3 =>
    if b = true then tk σ2 h3 fun y h4 => tv σ2 h4 fun z h5 => ∃ h6, DPut h5 D y z h6 ∧ Nx h6 else Nx h3)
def tDcP (mk : HO) (wi : TI) (g : TG) (tt : TT) (tk tv : TE) (vs : List Nat) : TE := fun σ H Q => wi σ H fun J h1 => DcB mk J h1 g tt tk tv vs σ Q
section
variable {X : Cx}
theorem dcP_core {mk : HO} {kx vx tg iter : Expr} {ifs : List Expr} {scope : Scope} {own : List (Str × Nat)} {pos pos' : Pos} {wi : TI} {g : TG} {tt : TT} {tk tv : TE} {pins : List (Addr × Obj)} {s : Shared} {σ : St} {H : Hp} {Q : VK} {use : Option (Value → Sem Unit)} {Qf : Value → Shared → Prop} (hmk : mk = .dK [] ∨ mk = .dT []) (hu : X.A.units + 1 < cLine) (hc : X.calm = true) (hN : X.N.Nodup) (I : Inv X pins σ H s) (hi : PI X tg iter wi) (ok : BlkOk X.N X.env.scope scope own)
    (hg : ∀ s H C cl fp, PG (X.blk s H scope (compEnvC scope cl C X.env) fp) tg g) (ht : ∀ s H C cl fp, PTs (X.blk s H scope (compEnvC scope cl C X.env) fp) ifs tt)
    (hk : ∀ s H C cl fp, PE (X.blk s H scope (compEnvC scope cl C X.env) fp) kx tk) (hv : ∀ s H C cl fp, PE (X.blk s H scope (compEnvC scope cl C X.env) fp) vx tv) (hs : ∀ x, foldedSetIterable iter X.env x = pure x)
    (h : tDcP mk wi g tt tk tv (own.map (·.2)) σ H Q)
    (out : ∀ D C t m h', Inv X pins σ h' t → Q (.ref D) h' → t.heap.Ns C m → FpOk X pins h' C → compPost (model X.prog X.w) X.A X.xe use Qf (.ref D) C (.ok .next) t) :
    wpAny (model X.prog X.w) X.A (comprehension (.DictComp kx vx [⟨tg, iter, ifs, 0⟩] scope pos) scope X.env pos' newDict false (eval iter X.env) use) Qf X.xe s := by
  have free : ∀ y ∈ scope.names, y.2 = .free → ∃ c, X.env.cells.lookup y.1 = some c := fun y hy e => (ok.free y hy e).elim (fun k => I.ok.has _ (.inl k)) fun k => I.ok.has _ (.inr k)
  refine wpAny_comprehension_free (use := use) rfl hs (closure_ok free) ok.kind (fun y hy e => by rw [ok.uniq y hy, e])
    (thn (hi.run pins s σ H _ I h) fun _ sA hx => thn hx fun itv sB hB => ?_)
  obtain ⟨it, fp, tn, J, hH, rfl, IB, T, stB, fB, q⟩ := hB
  refine wpAny_newObj_type (newEnv_comp ?_)
  generalize eD : sB.heap.objs.size = D
  obtain ⟨W, ⟨m0, w0⟩, turn⟩ := q D (IB.hok.fresh (Nat.le_of_eq eD))
  generalize es : ({ sB with heap := sB.heap.push { cls := .type "dict", data := .dict #[] } } : Shared) = sC
  have eC : sC.heap = sB.heap.push { cls := .type "dict", data := .dict #[] } := by rw [← es]
  have IC : Inv X pins σ (upd hH D mk) sC := by
    rw [← es]
    refine IB.laid (t' := sB.toks) (fun b o e => Heap.get?_push_of_some _ e) (Nat.le_of_eq eD) ?_
    rw [← eD]
    rcases hmk with rfl | rfl
    · exact dk_empty sB.heap IB.big
    · exact dt_empty sB.heap IB.big
  have less : ∀ b ∈ fp, b < sB.heap.objs.size := fun b hb => let ⟨_, e, _⟩ := T.obj _ _ stB b hb; Heap.lt_size e
  have fC : ∀ b ∈ fp, FpOk X pins (upd hH D mk) b ∧ b < sC.heap.objs.size := fun b hb => by
    refine ⟨⟨?_, (fB b hb).2⟩, ?_⟩
    · rw [upd_ne (by rw [← eD]; exact Nat.ne_of_lt (less b hb))]
      exact (fB b hb).1
    · rw [eC, Heap.size_push]
      exact Nat.lt_succ_of_lt (less b hb)
  have stC : tn 0 sC.heap := T.keep _ _ _ stB fun b _ o e => by rw [eC]; exact Heap.get?_push_of_some _ e
  have ID := block_start IC ok hN fC
  generalize ecl : cellsFrom (sC.heap.objs.size + 1) scope.names (cloFrom X.env.cells scope.names []) = cl at ID
  have pg := hg sC (upd hH D mk) sC.heap.objs.size cl fp
  have pt := ht sC (upd hH D mk) sC.heap.objs.size cl fp
  have pk := hk sC (upd hH D mk) sC.heap.objs.size cl fp
  have pv := hv sC (upd hH D mk) sC.heap.objs.size cl fp
  have none0 : ∀ b ∈ fp, (upd hH D mk) b = none := fun b hb => (fC b hb).1.1
  show codeAny _ _ (.compStart (.DictComp kx vx [⟨tg, iter, ifs, 0⟩] scope pos) 0 (.ref it) (.ref D) (compEnvC scope cl sC.heap.objs.size X.env)) (compPost _ _ _ _ _ (.ref D) sC.heap.objs.size) { sC with heap := pushCells (sC.heap.push { cls := .type "dict", data := .dict #[] }) scope.names }
  generalize ece : compEnvC scope cl sC.heap.objs.size X.env = ce at ID pg pt pk pv ⊢
  have cL : ce.locals = sC.heap.objs.size := by subst ece; rfl
  generalize eH : upd hH D mk = hC at IC ID pg pt pk pv w0 none0 fC
  generalize es2 : ({ sC with heap := pushCells (sC.heap.push { cls := .type "dict", data := .dict #[] }) scope.names } : Shared) = sD at ID ⊢
  have stD : tn 0 sD.heap := T.keep _ _ _ stC fun b _ o e => by rw [← es2]; exact pushCells_keeps _ _ _ _ (Heap.get?_push_of_some _ e)
  have stay : ∀ {τ : St} {h' : Hp} {t : Shared}, Inv (X.blk sC hC scope ce fp) [] τ h' t → (∀ b ∈ fp, h' b = none) → ∀ b ∈ fp, FpOk (X.blk sC hC scope ce fp) [] h' b := fun {τ h' t} I' n b hb =>
    ⟨n b hb, (I'.ok.exf b hb).1, I'.ok.exfs b hb, .inl hb, fun x c e => (I'.ok.exf b hb).2 x c e, fun p hp => absurd (show p ∈ ([] : List (Addr × Obj)) ++ [] from hp) (by simp)⟩
  suffices loop : codeAny (model X.prog X.w) X.A (.compLoop (.DictComp kx vx [⟨tg, iter, ifs, 0⟩] scope pos) 0 (.ref it) (.ref D) ce) (compPost (model X.prog X.w) X.A X.xe use Qf (.ref D) sC.heap.objs.size) sD from
    codeAny_compStart_dict loop (T.self X.A 0 _ _ _ stD loop)
  refine compLoop_anyD (fun n t => ∃ i h', Inv (X.blk sC hC scope ce fp) [] (wipe σ (own.map (·.2))) h' t ∧ tn i t.heap ∧ (∀ b ∈ fp, h' b = none) ∧ W i n h') ?_ m0 ⟨0, hC, ID, stD, none0, w0⟩
  rintro n tE ⟨i, hE, IE, stE, nE, wE⟩
  rcases turn i n hE wE with ⟨stop, qq⟩ | ⟨go, Nx, hNx, step⟩
  · refine thnF (T.done (X.blk sC hC scope ce fp) rfl rfl rfl hc i [] tE _ hE (fun _ _ => False) IE (stay IE nE) stE stop) fun r tF ⟨er, IF⟩ => ?_
    subst er
    have IG : Inv X pins σ hE tF := IC.call' (ch := fp) IF.os IF.base IF.hok IF.bare fun b hb => let f := (fC b hb).1.2; ⟨f.2.2.1, f.1, f.2.2.2.1, f.2.2.2.2⟩
    have nC : hE sC.heap.objs.size = none := cL ▸ (show hE ce.locals = none from IF.free)
    obtain ⟨m, hn, _⟩ := IF.loc
    have hn : tF.heap.Ns sC.heap.objs.size m := cL ▸ (show tF.heap.Ns ce.locals m from hn)
    exact out D sC.heap.objs.size tF m hE IG qq hn (IC.fpOk (H' := hE) (Nat.le_refl _) nC)
  · refine thnF (T.item (X.blk sC hC scope ce fp) rfl rfl rfl hc i [] tE _ hE (fun _ _ => False) IE (stay IE nE) stE go) fun r tF ⟨u, er, h6⟩ => ?_
    subst er
    refine thnF h6 fun _ tG ⟨x, hG, IG, rG, yG, stG, nG⟩ => ?_
    have IP := IG.pinned (stay IG nG) (T.obj _ _ stG)
    refine thnF (pg.run _ tG _ hG x u _ IP rG (step x hG yG)) fun _ tI ⟨σI, hI, II, wI, qI⟩ => ?_
    refine thnF (pt.run _ tI σI hI _ II qI) fun b tJ ⟨hJ, IJ, qJ⟩ => ?_
    have fin : ∀ {t : Shared} {h' : Hp}, Inv (X.blk sC hC scope ce fp) ([] ++ pinsAt fp tG.heap) σI h' t → Nx h' → ∃ m, m < n ∧ ∃ i h', Inv (X.blk sC hC scope ce fp) [] (wipe σ (own.map (·.2))) h' t ∧ tn i t.heap ∧ (∀ b ∈ fp, h' b = none) ∧ W i m h' := fun {t h'} I' nx => by
      obtain ⟨m', hm, w'⟩ := hNx h' nx
      have pin : ∀ b ∈ fp, ∀ o, tG.heap.get? b = some o → t.heap.get? b = some o ∧ h' b = none := fun b hb o e =>
        let z := I'.pin (b, o) (List.mem_append_right _ (List.mem_append_right _ (mem_pinsAt hb e)))
        ⟨z.1, z.2.1⟩
      refine ⟨m', hm, i + 1, h', (I'.unpinned (pins := [])).weak (by rw [← wI, wipe_length]) (fun j v e => ?_), T.keep _ _ _ stG fun b hb o e => (pin b hb o e).1, fun b hb => ?_, w'⟩
      · rw [← wI] at e
        exact (wipe_some e).1
      · obtain ⟨o, e, _⟩ := T.obj _ _ stG b hb
        exact (pin b hb o e).2
    cases b with
    | false => exact fin IJ (by simpa using qJ)
    | true =>
      simp only [if_true] at qJ ⊢
      refine thnF (pk.run _ tJ σI hJ _ IJ qJ) fun z tK ⟨yk, hK, IK, rK, qK⟩ => ?_
      refine thnF (pv.run _ tK σI hK _ IK qK) fun z2 tL ⟨yv, hL, IL, rL, h6, dp, nx⟩ => ?_
      exact dset_by (X := X.blk sC hC scope ce fp) hu IL dp rK rL fun t' I' => fin I' nx
theorem pe_dcP {mk : HO} {kx vx tg iter : Expr} {ifs : List Expr} {scope : Scope} {own : List (Str × Nat)} {pos : Pos} {wi : TI} {g : TG} {tt : TT} {tk tv : TE} (hmk : mk = .dK [] ∨ mk = .dT []) (hu : X.A.units + 1 < cLine) (hc : X.calm = true) (hN : X.N.Nodup) (hi : PI X tg iter wi) (ok : BlkOk X.N X.env.scope scope own)
    (hg : ∀ s H C cl fp, PG (X.blk s H scope (compEnvC scope cl C X.env) fp) tg g) (ht : ∀ s H C cl fp, PTs (X.blk s H scope (compEnvC scope cl C X.env) fp) ifs tt)
    (hk : ∀ s H C cl fp, PE (X.blk s H scope (compEnvC scope cl C X.env) fp) kx tk) (hv : ∀ s H C cl fp, PE (X.blk s H scope (compEnvC scope cl C X.env) fp) vx tv) (hs : ∀ x, foldedSetIterable iter X.env x = pure x) :
    PE X (.DictComp kx vx [⟨tg, iter, ifs, 0⟩] scope pos) (tDcP mk wi g tt tk tv (own.map (·.2))) := by
  refine ⟨fun pins s σ H Q I h => ?_⟩
  rw [arm_eval_DictComp]
  refine dcP_core hmk hu hc hN I hi ok hg ht hk hv hs h fun D C t m h' I' q hn f => ⟨m, hn, fun g' sb => ?_⟩
  obtain ⟨f0, f1, f2, f3, f4, f5⟩ := f
  exact ⟨.ref D, h', I'.turned (t' := t.toks) (fun b o hb e => (sb.2 b hb).trans e) f0 f1 f3 f4 f5, rfl, q⟩
/-- y = {..} on one row, y a local -/
theorem ps_setDcP {mk : HO} {i : Nat} {y : Str} {py : Pos} {kx vx tg iter : Expr} {ifs : List Expr} {scope : Scope} {own : List (Str × Nat)} {pos spos : Pos} {wi : TI} {g : TG} {tt : TT} {tk tv : TE} (hmk : mk = .dK [] ∨ mk = .dT []) (hu : X.A.units + 1 < cLine) (hc : X.calm = true) (hN : X.N.Nodup) (hy : X.N[i]? = some y) (hyl : X.env.scope.names.lookup y = some .local)
    (hsw : swapsWith (.DictComp kx vx [⟨tg, iter, ifs, 0⟩] scope pos) (some (.Name y py)) spos.line X.env = pure true) (hi : PI X tg iter wi) (ok : BlkOk X.N X.env.scope scope own)
    (hg : ∀ s H C cl fp, PG (X.blk s H scope (compEnvC scope cl C X.env) fp) tg g) (ht : ∀ s H C cl fp, PTs (X.blk s H scope (compEnvC scope cl C X.env) fp) ifs tt)
    (hk : ∀ s H C cl fp, PE (X.blk s H scope (compEnvC scope cl C X.env) fp) kx tk) (hv : ∀ s H C cl fp, PE (X.blk s H scope (compEnvC scope cl C X.env) fp) vx tv) (hs : ∀ x, foldedSetIterable iter X.env x = pure x) :
    PS X (.Assign [.Name y py] (.DictComp kx vx [⟨tg, iter, ifs, 0⟩] scope pos) spos) (tAsg (tDcP mk wi g tt tk tv (own.map (·.2))) (gName i)) := by
  refine ⟨fun pins s σ H D I h => ?_⟩
  rw [exec_Assign_Name_used _ _ _ _ hsw]
  refine wpAny_bind (wpAny_standAt (wpAny_bind ?_))
  show wpAny _ X.A (do let _ ← comprehension (.DictComp kx vx [⟨tg, iter, ifs, 0⟩] scope pos) scope X.env (firstIterPos [⟨tg, iter, ifs, 0⟩] pos) newDict false (eval iter X.env) (some (assign (.Name y py) X.env))) _ _ s
  have h' : tDcP mk wi g tt tk tv (own.map (·.2)) σ H (fun x h1 => gName i x σ h1 D.nx) := h
  refine wpAny_bind (thn (dcP_core (Qf := fun _ t => SP X pins D .next t) hmk hu hc hN I hi ok hg ht hk hv hs h' fun L C t m hL IL q hn f => ?_) fun _ t hq => wpAny_pure (wpAny_pure hq))
  show wpAny _ _ (assign (.Name y py) X.env (.ref L)) _ _ _
  refine wpAny_assign_Name (store_ok2 (v := V.ref L) IL hN hy (.inl hyl) rfl (fun t2 I2 ⟨a, sb, ha⟩ => ?_) (.inr hyl))
  obtain ⟨f0, f1, f2, f3, f4, f5⟩ := f
  have ca : C ≠ a := ha.elim (fun z => by rw [z]; exact f1) fun z e => f4 y a z e.symm
  exact ⟨m, hn.sameBut sb ca, fun h3 sb3 => ⟨_, hL, I2.turned (t' := t2.toks) (fun b o hb e => (sb3.2 b hb).trans e) f0 f1 f3 f4 f5, q⟩⟩
end
end L2

set_option maxHeartbeats 4000000
namespace Iv
open PySem PySem.Spec PyProof.Rows L2
variable [Ct] [Nm]
/-! ### dicts by a comprehension, their keys tuples -/
theorem ite_one {α : Type} {c : Bool} {a : Option α} {r : α} (h : (if c = true then a else none) = some r) : c = true ∧ a = some r := by
  cases c with
  | false => cases h
  | true => exact ⟨rfl, h⟩
def dcLoop (g : GF) (t : TF) (ek ev : EF) (env0 : Env') : List D → List (D × D) → BSt → Option (List (D × D) × BSt)
  | [], acc, st => some (acc, st)
  | d :: ds, acc, st => (g d env0).bind fun env1 => (t env1 st).bind fun p =>
    if p.1 then (ek env1 p.2).bind fun k => (ev env1 k.2).bind fun v => (match k.1 with
      | .fz (.tuple ks) => (keysOf ks).bind fun kk => v.1.d?.bind fun x => if noCt kk && decide (acc.length < sizeLine) then dcLoop g t ek ev env0 ds (putG encT decT acc kk x) v.2 else none
      | _ => none)
    else dcLoop g t ek ev env0 ds acc p.2
section
variable {F : FT} {S : Sx} {X : Cx}
variable {tg iter kx vx : Expr} {ifs : List Expr} {scope : Scope} {own : List (Str × Nat)} {i : IF} {g : GF} {t : TF} {ek ev : EF} {sl : List Nat}
def gG (X : Cx) (scope : Scope) (tg : Expr) : TG := fun v σ H Q => ∀ (s : Shared) (H' : Hp) (C : Addr) (cl : List (Str × Addr)) (fp : List Addr), Wg (X.blk s H' scope (compEnvC scope cl C X.env) fp) tg v σ H Q
def gT (X : Cx) (scope : Scope) (ifs : List Expr) : TT := fun σ H Q => ∀ (s : Shared) (H' : Hp) (C : Addr) (cl : List (Str × Addr)) (fp : List Addr), ∃ tt, PTs (X.blk s H' scope (compEnvC scope cl C X.env) fp) ifs tt ∧ tt σ H Q
def gE (X : Cx) (scope : Scope) (e : Expr) : TE := fun σ H Q => ∀ (s : Shared) (H' : Hp) (C : Addr) (cl : List (Str × Addr)) (fp : List Addr), We (X.blk s H' scope (compEnvC scope cl C X.env) fp) e σ H Q
/-- the loop of the comprehension, over whatever is walked -/
theorem dc_body (C : CxS F S X) (hk : scope.kind = .function) (hsl : ∀ j ∈ sl, j ∈ own.map (·.2))
    (hg : ∀ X', CxS F (S.inner scope) X' → X'.K = X.K → SoundG X' tg sl g) (ht : ∀ X', CxS F (S.inner scope) X' → X'.K = X.K → SoundTs X' ifs t) (hek : ∀ X', CxS F (S.inner scope) X' → X'.K = X.K → SoundE X' kx ek) (hev : ∀ X', CxS F (S.inner scope) X' → X'.K = X.K → SoundE X' vx ev)
    {β : Option Addr} {Oo : Addr → Prop} {H0 : Hp} {O : Addr → Prop} {σ : L2.St} {H1 : Hp} {env : Env'} {s1 s2 : BSt} {J : It} {Fr : Hp → Prop} {ds : List D} {out : List (D × D)} {Q : VK} (rel1 : Rel X.K β Oo H0 O σ H1 env s1) (ok : ItOk X.K J Fr ds) (fr : Fr (Fz O H1))
    (e2 : dcLoop g t ek ev (wipeE env (own.map (·.2))) ds [] s1 = some (out, s2)) (q : ∀ v H', SB β H1 H' → BagAt β H' s2 → ResAt X.K β O H1 H' v (.ow (.dict [(.none, .dict out)])) → Q v H') :
    DcB (.dT []) J H1 (gG X scope tg) (gT X scope ifs) (gE X scope kx) (gE X scope vx) (own.map (·.2)) σ Q := by
  intro D hD
  have nD : ¬ O D := rel1.notO hD
  have bD : β ≠ some D := rel1.neB hD
  let Pv : Nat → Hp → Prop := fun n Hn => ∃ acc kvs sn, dcLoop g t ek ev (wipeE env (own.map (·.2))) (ds.drop n) acc sn = some (out, s2) ∧ BagAt β Hn sn ∧ SB β H1 Hn ∧ Hn D = some (.dT kvs) ∧ acc.map (·.1) = kvs.map (fun p => encT p.1) ∧ RpAll X.K (Fz (orO O D) Hn) (kvs.map (·.2)) (acc.map (·.2))
  have relN : ∀ {Hn : Hp} {sn : BSt}, SB β H1 Hn → BagAt β Hn sn → (∃ xs, Hn D = some (.dT xs)) → Rel X.K β Oo H0 (orO O D) (L2.wipe σ (own.map (·.2))) Hn (wipeE env (own.map (·.2))) sn := fun {Hn sn} sb bg hd => by
    have r1 := (rel1.step sb bg).wipe (own.map (·.2))
    have fm : Same (Fz O H1) (Fz (orO O D) Hn) := rel1.putOw_same sb hD
    have r0 := rel1.wipe (own.map (·.2))
    exact { sl := fun j y ej => by
              obtain ⟨v, h1, h2⟩ := r0.sl j y ej
              exact ⟨v, h1, h2.mono fm sb fun a d _ _ z => .inl z⟩
            ne := r1.ne
            fr := r1.fr
            len := r1.len
            sub := fun a ha => .inl (r1.sub a ha)
            dom := fun a ha => by
              rcases ha with ha | rfl
              · exact r1.dom a ha
              · obtain ⟨xs, hd⟩ := hd; exact ⟨_, hd, rfl⟩
            dom0 := r1.dom0
            sb := r1.sb
            bag := bg
            bO := r1.bO
            tabs := r1.tabs }
  have frN : ∀ {Hn : Hp}, SB β H1 Hn → Fr (Fz (orO O D) Hn) := fun sb => ok.mono (rel1.putOw_same sb hD) fr
  refine ⟨fun n m Hn => m = ds.length - n ∧ n ≤ ds.length ∧ Pv n Hn, ⟨ds.length, rfl, Nat.zero_le _, ⟨[], [], s1, by simpa using e2, ?_, SB.laid hD, upd_same, rfl, .nil⟩⟩, ?_⟩
  · exact same_bag (same_laid hD) rel1.bag
  rintro n m Hn ⟨rfl, hn, acc, kvs, sn, el, bg, sb, hDn, hkk, rac⟩
  by_cases hlt : n < ds.length
  · refine .inr ⟨ok.goes hlt (frN sb), fun Hx => Pv (n + 1) Hx, fun Hx px => ⟨ds.length - (n + 1), by omega, rfl, by omega, px⟩, fun x Hy y => ?_⟩
    have rn := relN sb bg ⟨_, hDn⟩
    obtain ⟨sm, d, ed, rx⟩ := ok.yld hlt rn.dom (frN sb) y
    have edrop : ds.drop n = d :: ds.drop (n + 1) := by
      rw [List.drop_eq_getElem_cons hlt]
      rw [List.getElem?_eq_getElem hlt] at ed
      cases ed; rfl
    rw [edrop] at el
    obtain ⟨env1, g1, el⟩ := bind1 el
    obtain ⟨⟨b, sn1⟩, t1, el⟩ := bind1 el
    have rny := rn.step (same_sb sm) (same_bag sm bg)
    intro s H' C0 cl fp
    refine hg _ (C.inner hk s H' C0 cl fp) rfl rny rx g1 fun σ2 rel2 hl2 hk2 => ⟨?_, ?_⟩
    · refine (wipe_eq hl2 fun j hj => hk2 j fun z => hj (hsl j z)).trans ?_
      refine wipe_eq (wipe_length _ _) fun j hj => wipe_get hj
    intro s' H'' C0' cl' fp'
    obtain ⟨tt, pt, ht'⟩ := ht _ (C.inner hk s' H'' C0' cl' fp') rfl
    refine ⟨tt, pt, ht' rel2 t1 fun H3 sb3 bg3 => ?_⟩
    have smD : ∀ {Ha Hb : Hp} {xs : List (List Key × V)}, SB β Ha Hb → Ha D = some (.dT xs) → Hb D = some (.dT xs) := fun s q => s.go D _ bD rfl q
    cases b with
    | false =>
      refine iteF ⟨acc, kvs, sn1, el, bg3, sb.trans ((same_sb sm).trans sb3), smD sb3 (sm _ _ hDn), hkk, ?_⟩
      exact (rac.mono (same_fz sm)).mono (rel2.fzm sb3)
    | true =>
      refine iteT ?_
      intro s4 H4' C4 cl4 fp4
      obtain ⟨⟨kr, sn2⟩, e3, el⟩ := bind1 el
      obtain ⟨⟨vr, sn3⟩, e4, el⟩ := bind1 el
      dsimp only at el
      split at el
      case h_2 => cases el
      rename_i ks ekr
      obtain ⟨kk, e5, el⟩ := bind1 el
      obtain ⟨dx, e6, el⟩ := bind1 el
      obtain ⟨cc, el⟩ := ite_one el
      rw [Bool.and_eq_true] at cc
      have rel3 := rel2.step sb3 bg3
      refine hek _ (C.inner hk s4 H4' C4 cl4 fp4) rfl rel3 e3 fun y H4 sb4 bg4 ry => ?_
      have rel4 := rel3.step sb4 bg4
      intro s5 H5' C5 cl5 fp5
      refine hev _ (C.inner hk s5 H5' C5 cl5 fp5) rfl rel4 e4 fun z H5 sb5 bg5 rz => ?_
      have ry5 : Rp X.K (Fz (orO O D) H5) y (.tuple ks) := Rp.mono (rel4.fzm sb5) ry
      have rz5 := rz.rp rel4 e6
      obtain ⟨bb, xs, rfl, _, rks, tb⟩ := rp_tup3 ry5
      rcases tb with tb | tb
      case inr => exact absurd tb (noCt_ok cc.1 e5)
      have exs : xs = kk.map kV := by
        rw [keysOf_ok e5] at rks
        exact rp_keys rks
      subst exs
      have hD5 := smD sb5 (smD sb4 (smD sb3 (sm _ _ hDn)))
      have ra5 := (((rac.mono (same_fz sm)).mono (rel2.fzm sb3)).mono (rel3.fzm sb4)).mono (rel4.fzm sb5)
      have lk : kvs.length = acc.length := by simpa using congrArg List.length hkk.symm
      obtain ⟨p1, p2⟩ := putG_ok (κ := List Key) (enc := encT) (dec := decT) (k := kk) decT_enc rz5 hkk ra5
      refine ⟨_, DPut.t (k := kk) hD5 (fz_some tb).2 (by rw [lk]; exact of_decide_eq_true cc.2), putG encT decT acc kk dx, putK kvs kk z, sn3, el, ?_, ?_, upd_same, p1, ?_⟩
      · exact bg5.mono fun b0 o hb0 e => by rw [upd_ne (fun z => bD (by rw [hb0, z]))]; exact e
      · exact ((((sb.trans (same_sb sm)).trans sb3).trans sb4).trans sb5).mut hD5 rfl (.inr hD)
      · refine p2.mono fun a o ea => ?_
        obtain ⟨na, ea, t⟩ := fz_some3 ea
        exact fz_put na (by rw [upd_ne (fun z => na (.inr z))]; exact ea) t
  · have en : n = ds.length := by omega
    subst en
    rw [List.drop_length] at el
    cases el
    exact .inl ⟨ok.stops (frN sb), q _ _ sb bg ⟨D, rfl, hD, bD, .inr ⟨_, rfl, kvs, .inl hDn, hkk, rac⟩, _, hDn, rfl⟩⟩
def dcF (i : IF) (own : List Nat) (g : GF) (t : TF) (ek ev : EF) (env : Env') (st : BSt) : Option (R × BSt) := (i env st).bind fun p => (dcLoop g t ek ev (wipeE env own) p.1 [] p.2).map fun q => (.ow (.dict [(.none, .dict q.1)]), q.2)
/-- the keys of a dict are walked: it is locked meanwhile -/
def dcKF (n : Nat) (own : List Nat) (g : GF) (t : TF) (ek ev : EF) (env : Env') (st : BSt) : Option (R × BSt) := match env[n]? with
  | some (some (.fz (.dict [(.none, .dict kds)]))) => (dcLoop g t ek ev (wipeE env own) (kds.map (·.1)) [] st).map fun q => (.ow (.dict [(.none, .dict q.1)]), q.2)
  | _ => none
theorem pgG (X : Cx) (scope : Scope) (tg : Expr) : ∀ s H C cl fp, PG (X.blk s H scope (compEnvC scope cl C X.env) fp) tg (gG X scope tg) := fun s H' C cl fp => ⟨fun pins s1 σ H v u Q I rr h => h s H' C cl fp pins s1 u I rr⟩
theorem pgT (X : Cx) (scope : Scope) (ifs : List Expr) : ∀ s H C cl fp, PTs (X.blk s H scope (compEnvC scope cl C X.env) fp) ifs (gT X scope ifs) := fun s H' C cl fp => ⟨fun pins s1 σ H Q I h => let ⟨tt, pt, q⟩ := h s H' C cl fp; pt.run pins s1 σ H Q I q⟩
theorem pgE (X : Cx) (scope : Scope) (e : Expr) : ∀ s H C cl fp, PE (X.blk s H scope (compEnvC scope cl C X.env) fp) e (gE X scope e) := fun s H' C cl fp => ⟨fun pins s1 σ H Q I h => h s H' C cl fp pins s1 I⟩
theorem s_dc (C : CxS F S X) (hk : scope.kind = .function) (ok : blkC S.N S.sc scope own = true) (hni : noSetI iter = true) {pos : Pos} (hi : SoundI X tg iter i) (hsl : ∀ j ∈ sl, j ∈ own.map (·.2))
    (hg : ∀ X', CxS F (S.inner scope) X' → X'.K = X.K → SoundG X' tg sl g) (ht : ∀ X', CxS F (S.inner scope) X' → X'.K = X.K → SoundTs X' ifs t) (hek : ∀ X', CxS F (S.inner scope) X' → X'.K = X.K → SoundE X' kx ek) (hev : ∀ X', CxS F (S.inner scope) X' → X'.K = X.K → SoundE X' vx ev) :
    SoundE X (.DictComp kx vx [⟨tg, iter, ifs, 0⟩] scope pos) (dcF i (own.map (·.2)) g t ek ev) := by
  intro β Oo H0 O σ H env st r st' Q rel h q
  have bo : BlkOk X.N X.env.scope scope own := by rw [C.N, C.sc]; exact blkOk_by ok
  obtain ⟨⟨ds, s1⟩, e1, h⟩ := bind1 h
  obtain ⟨⟨out, s2⟩, e2, h⟩ := map1 h
  cases h
  refine (pe_dcP (.inr rfl) (by have := C.hu; omega) C.calm (by rw [C.N]; exact C.nd) (wi_pi X tg iter) bo (pgG X scope tg) (pgT X scope ifs) (pgE X scope kx) (pgE X scope vx) (noSetI_ok hni X.env)).we ?_
  refine hi rel e1 fun J Fr H1 sb1 bg1 iok fr => dc_body C hk hsl hg ht hek hev (rel.step sb1 bg1) iok fr e2 fun v H' sb bg rv => q v H' (sb1.trans sb) bg (rv.back sb1)
theorem rp_out {K : PySem.W.Frag} {O : Addr → Prop} {H : Hp} {d : Addr} {kds : List (D × D)} (h : Rp K (Fz O H) (.ref d) (.dict kds)) : ¬ O d := by
  cases h with
  | dct z _ => exact z.elim (fun z => (fz_some z).1) fun ⟨_, z⟩ => (fz_some z).1
  | dctT z _ => exact z.elim (fun z => (fz_some z).1) fun ⟨_, z⟩ => (fz_some z).1
theorem it_keysT {K : PySem.W.Frag} {d : Addr} {od : Obj} {kvs : List (List Key × V)} : ItOk K (Itkt d od kvs) (fun h => h d = some (.frz od (.dT kvs))) (kvs.map fun p => encT p.1) where
  mono := fun e z => e _ _ z
  goes := fun {O H i} hi z => walk_keysT.goes i H (by simpa using hi) (fz_some z).2
  stops := fun {O H} z => by rw [List.length_map]; exact walk_keysT.stops H (fz_some z).2
  yld := fun {O H H' i x} hi hO z y => by
    obtain ⟨rfl, k, v, a, e, rfl, ha⟩ := walk_keysT.yields i H x H' (by simpa using hi) (fz_some z).2 y
    refine ⟨Same.refl _, encT k, by rw [List.getElem?_map, e]; rfl, ?_⟩
    have nO : ¬ O a := fun z => by
      obtain ⟨o, e, p⟩ := hO a z
      rw [ha] at e; cases e; cases p
    exact .tup (SqT.of (fz_put nO ha rfl)) (rp_keyT k) (.inl (fz_put nO ha rfl))
theorem s_dcK (C : CxS F S X) {x : Str} {n : Nat} {px : Pos} (hx : slotOf S x = some n) (hk : scope.kind = .function) (ok : blkC S.N S.sc scope own = true) {pos : Pos} (hsl : ∀ j ∈ sl, j ∈ own.map (·.2))
    (hg : ∀ X', CxS F (S.inner scope) X' → X'.K = X.K → SoundG X' tg sl g) (ht : ∀ X', CxS F (S.inner scope) X' → X'.K = X.K → SoundTs X' ifs t) (hek : ∀ X', CxS F (S.inner scope) X' → X'.K = X.K → SoundE X' kx ek) (hev : ∀ X', CxS F (S.inner scope) X' → X'.K = X.K → SoundE X' vx ev) :
    SoundE X (.DictComp kx vx [⟨tg, .Name x px, ifs, 0⟩] scope pos) (dcKF n (own.map (·.2)) g t ek ev) := by
  intro β Oo H0 O σ H env st r st' Q rel h q
  have bo : BlkOk X.N X.env.scope scope own := by rw [C.N, C.sc]; exact blkOk_by ok
  unfold dcKF at h
  split at h
  case h_2 => cases h
  rename_i kds e0
  obtain ⟨⟨out, s2⟩, e2, h⟩ := map1 h
  cases h
  obtain ⟨x1, x2, x3, x4⟩ := slotOf_ok C hx
  obtain ⟨v, hv, rp⟩ := rel.sl n _ e0
  have rp : Rp X.K (Fz O H) v (.dict [(.none, .dict kds)]) := rp
  obtain ⟨d, rfl, hn, hdc⟩ : TopAt X.K β O H v (.dict [(.none, .dict kds)]) := top_of_rp rel.bO' rp
  have nO : ¬ O d := rp_out rp
  rcases hdc with ⟨kvs, _, h2, _⟩ | ⟨kds', e6, kvs, h1, h2, h3⟩
  · exfalso
    cases kvs with
    | nil => cases h2
    | cons u kvs =>
      have h2 := (List.cons.inj h2).1
      obtain ⟨k0, _⟩ := u
      cases k0 <;> cases h2
  cases e6
  rw [h2] at e2
  have core : ∀ {β : Option Addr} {Oo : Addr → Prop} {H0 : Hp} {O : Addr → Prop} {H : Hp} {od : Obj} {Q : VK}, Rel X.K β Oo H0 O σ H env st → H d = some (.frz od (.dT kvs)) → ¬ O d → (∀ v H', SB β H H' → BagAt β H' s2 → ResAt X.K β O H H' v (.ow (.dict [(.none, .dict out)])) → Q v H') → We X (.DictComp kx vx [⟨tg, .Name x px, ifs, 0⟩] scope pos) σ H Q := fun {β Oo H0 O H od Q} rel hd nO q => by
    refine (pe_dcP (.inr rfl) (by have := C.hu; omega) C.calm (by rw [C.N]; exact C.nd) (pi_keys (pe_var x1 x2 x3 x4)) bo (pgG X scope tg) (pgT X scope ifs) (pgE X scope kx) (pgE X scope vx) (noSetI_ok rfl X.env)).we ⟨_, hv, d, od, rfl, .inr ⟨kvs, hd, ?_⟩⟩
    exact dc_body C hk hsl hg ht hek hev rel it_keysT (fz_put nO hd rfl) e2 q
  rcases h1 with h1 | ⟨od, h1⟩
  · refine (pe_lock (we_pe X _)).we ⟨d, _, h1, trivial, fun od => ?_⟩
    have hu : IsDk (.dT kvs) (.dT kvs) := ⟨rfl, .inl rfl⟩
    have hu' : IsDk (.frz od (.dT kvs)) (.dT kvs) := ⟨rfl, .inr ⟨od, rfl⟩⟩
    refine core (rel.lock h1 hu hu' nO) upd_same nO fun v H' sb bg rv => ?_
    have hd' := sb.go d _ hn rfl upd_same
    obtain ⟨p, rfl, p1, p2, p3⟩ := rv
    have pd : p ≠ d := fun z => by rw [z, upd_same] at p1; cases p1
    rw [upd_ne pd] at p1
    refine ⟨hd', q _ _ ?_ (bag_lk hd' hu' bg) ⟨p, rfl, p1, p2, ?_⟩⟩
    · refine ⟨fun a o n t e => ?_, fun a n e => ?_, fun tb pp hp => ?_⟩
      · by_cases z : a = d
        · subst z; rw [h1] at e; cases e; exact upd_same
        · rw [upd_ne z]; exact sb.go a o n t (by rw [upd_ne z]; exact e)
      · by_cases z : a = d
        · subst z; rw [upd_same] at e; cases e
        · rw [upd_ne z] at e
          have := sb.dm a n e
          rw [upd_ne z] at this; exact this
      · exact tab_dk hd' hu' (sb.tb (fun pp hp => tab_dk h1 hu (tb pp hp)) pp hp)
    · have nO' : ¬ orO O p d := fun z => z.elim nO fun z => pd z.symm
      have L := lk_upd (O := orO O p) hd' hu' hu nO'
      obtain ⟨pc, o, po, pl⟩ := p3
      refine ⟨?_, o, by rw [upd_ne pd]; exact po, pl⟩
      rcases pc with ⟨kv, _, k2, _⟩ | ⟨kds', ek, kv, k1, k2, k3⟩
      · exfalso
        cases kv with
        | nil => cases k2
        | cons u kv =>
          have k2 := (List.cons.inj k2).1
          obtain ⟨k0, _⟩ := u
          cases k0 <;> cases k2
      · refine .inr ⟨kds', ek, kv, ?_, k2, k3.lk L⟩
        unfold Rd at k1 ⊢
        rw [upd_ne pd]; exact k1
  · exact core rel h1 nO q
/-- y = {.. for .. in ..} -/
theorem dc_asg (C : CxS F S X) (ok : blkC S.N S.sc scope own = true) (hni : noSetI iter = true) {wi : TI} (hi : PI X tg iter wi) {y : Str} {i : Nat} {p pos spos : Pos} (hx : tgtSlot S y = some i) {σ : L2.St} {H : Hp} {D : Ends}
    (rd : tDcP (.dT []) wi (gG X scope tg) (gT X scope ifs) (gE X scope kx) (gE X scope vx) (own.map (·.2)) σ H (fun v H1 => D.nx (σ.set i (some v)) H1)) : Ws X (.Assign [.Name y p] (.DictComp kx vx [⟨tg, iter, ifs, 0⟩] scope pos) spos) D σ H := by
  obtain ⟨h1, h2, h3, h4⟩ := tgtSlot_ok C hx
  have bo : BlkOk X.N X.env.scope scope own := by rw [C.N, C.sc]; exact blkOk_by ok
  have rd : tAsg (tDcP (.dT []) wi (gG X scope tg) (gT X scope ifs) (gE X scope kx) (gE X scope vx) (own.map (·.2))) (gName i) D σ H := rd
  have sw : swapsWith (.DictComp kx vx [⟨tg, iter, ifs, 0⟩] scope pos) (some (.Name y p)) spos.line X.env = pure (X.env.blockKind == .function && X.env.kindOf y == some .local && p.line == pos.line && !(scope.names.any fun (n, k) => n == y && (k == .local || k == .cell))) := rfl
  cases hb : (X.env.blockKind == .function && X.env.kindOf y == some .local && p.line == pos.line && !(scope.names.any fun (n, k) => n == y && (k == .local || k == .cell))) with
  | true =>
    rw [hb] at sw
    have hy : X.env.scope.names.lookup y = some .local := by
      simp only [Bool.and_eq_true] at hb
      exact eq_of_beq hb.1.1.2
    exact (ps_setDcP (.inr rfl) (by have := C.hu; omega) C.calm h1 h2 hy sw hi bo (pgG X scope tg) (pgT X scope ifs) (pgE X scope kx) (pgE X scope vx) (noSetI_ok hni X.env)).ws rd
  | false =>
    rw [hb] at sw
    exact (ps_set h1 h2 h3 (pe_dcP (.inr rfl) (by have := C.hu; omega) C.calm h1 hi bo (pgG X scope tg) (pgT X scope ifs) (pgE X scope kx) (pgE X scope vx) (noSetI_ok hni X.env)) sw h4).ws rd
theorem ss_asgDc (C : CxS F S X) (hk : scope.kind = .function) (ok : blkC S.N S.sc scope own = true) (hni : noSetI iter = true) {y : Str} {j : Nat} {p pos spos : Pos} (hx : tgtSlot S y = some j) (hi : SoundI X tg iter i) (hsl : ∀ j ∈ sl, j ∈ own.map (·.2))
    (hg : ∀ X', CxS F (S.inner scope) X' → X'.K = X.K → SoundG X' tg sl g) (ht : ∀ X', CxS F (S.inner scope) X' → X'.K = X.K → SoundTs X' ifs t) (hek : ∀ X', CxS F (S.inner scope) X' → X'.K = X.K → SoundE X' kx ek) (hev : ∀ X', CxS F (S.inner scope) X' → X'.K = X.K → SoundE X' vx ev) :
    SoundS X (.Assign [.Name y p] (.DictComp kx vx [⟨tg, iter, ifs, 0⟩] scope pos) spos) (asgF j (dcF i (own.map (·.2)) g t ek ev)) := by
  intro β Oo H0 O σ H env env' st st' o D rel h q
  obtain ⟨⟨r, s0⟩, e0, h⟩ := map1 h
  cases h
  obtain ⟨⟨ds, s1⟩, e1, h⟩ := bind1 e0
  obtain ⟨⟨out, s2⟩, e2, h⟩ := map1 h
  cases h
  refine dc_asg C ok hni (wi_pi X tg iter) hx (hi rel e1 fun J Fr H1 sb1 bg1 iok fr => dc_body C hk hsl hg ht hek hev (rel.step sb1 bg1) iok fr e2 fun v H' sb bg rv => ?_)
  obtain ⟨O', r', sm, _⟩ := rel.store j (sb1.trans sb) bg (rv.back sb1)
  exact q _ _ _ r' sm
theorem ss_asgDcK (C : CxS F S X) {x : Str} {n : Nat} {px : Pos} (hx : slotOf S x = some n) (hk : scope.kind = .function) (ok : blkC S.N S.sc scope own = true) {y : Str} {j : Nat} {p pos spos : Pos} (hy : tgtSlot S y = some j) (hsl : ∀ j ∈ sl, j ∈ own.map (·.2))
    (hg : ∀ X', CxS F (S.inner scope) X' → X'.K = X.K → SoundG X' tg sl g) (ht : ∀ X', CxS F (S.inner scope) X' → X'.K = X.K → SoundTs X' ifs t) (hek : ∀ X', CxS F (S.inner scope) X' → X'.K = X.K → SoundE X' kx ek) (hev : ∀ X', CxS F (S.inner scope) X' → X'.K = X.K → SoundE X' vx ev) :
    SoundS X (.Assign [.Name y p] (.DictComp kx vx [⟨tg, .Name x px, ifs, 0⟩] scope pos) spos) (asgF j (dcKF n (own.map (·.2)) g t ek ev)) := by
  intro β Oo H0 O σ H env env' st st' o D rel h q
  obtain ⟨⟨r, s0⟩, ec, h⟩ := map1 h
  cases h
  unfold dcKF at ec
  split at ec
  case h_2 => cases ec
  rename_i kds e0
  obtain ⟨⟨out, s2⟩, e2, h⟩ := map1 ec
  cases h
  obtain ⟨x1, x2, x3, x4⟩ := slotOf_ok C hx
  obtain ⟨v, hv, rp⟩ := rel.sl n _ e0
  have rp : Rp X.K (Fz O H) v (.dict [(.none, .dict kds)]) := rp
  obtain ⟨d, rfl, hn, hdc⟩ : TopAt X.K β O H v (.dict [(.none, .dict kds)]) := top_of_rp rel.bO' rp
  have nO : ¬ O d := rp_out rp
  rcases hdc with ⟨kvs, _, h2, _⟩ | ⟨kds', e6, kvs, h1, h2, h3⟩
  · exfalso
    cases kvs with
    | nil => cases h2
    | cons u kvs =>
      have h2 := (List.cons.inj h2).1
      obtain ⟨k0, _⟩ := u
      cases k0 <;> cases h2
  cases e6
  rw [h2] at e2
  have core : ∀ {H0 : Hp} {H : Hp} {od : Obj} {D : Ends}, Rel X.K β Oo H0 O σ H env st → H d = some (.frz od (.dT kvs)) → (∀ σ' H' O', Rel X.K β Oo H0 O' σ' H' (env.set j (some (.ow (.dict [(.none, .dict out)])))) s2 → Same (Fz O H) (Fz O' H') → D.nx σ' H') → Ws X (.Assign [.Name y p] (.DictComp kx vx [⟨tg, .Name x px, ifs, 0⟩] scope pos) spos) D σ H := fun {H0 H od D} rel hd q => by
    refine dc_asg C ok rfl (pi_keys (pe_var x1 x2 x3 x4)) hy ⟨_, hv, d, od, rfl, .inr ⟨kvs, hd, ?_⟩⟩
    refine dc_body C hk hsl hg ht hek hev rel it_keysT (fz_put nO hd rfl) e2 fun v H' sb bg rv => ?_
    obtain ⟨O', r', sm, _⟩ := rel.store j sb bg rv
    exact q _ _ _ r' sm
  rcases h1 with h1 | ⟨od, h1⟩
  · refine (ps_lock (ws_ps X _)).ws ⟨d, _, h1, trivial, fun od => ?_⟩
    have hu : IsDk (.dT kvs) (.dT kvs) := ⟨rfl, .inl rfl⟩
    have hu' : IsDk (.frz od (.dT kvs)) (.dT kvs) := ⟨rfl, .inr ⟨od, rfl⟩⟩
    refine core (rel.lock h1 hu hu' nO) upd_same fun σ' H' O' r' s' => ?_
    have hz := s' d (.frz od (.dT kvs)) (fz_put nO upd_same rfl)
    obtain ⟨nO', hd'⟩ := fz_some hz
    refine ⟨hd', q _ _ O' (rel.unlock h1 r' hd' hu hu' nO') fun b o e => ?_⟩
    obtain ⟨n', e, t⟩ := fz_some3 e
    by_cases z : b = d
    · subst z
      rw [h1] at e; cases e
      exact fz_put nO' upd_same rfl
    · have := s' b o (fz_put n' (by rw [upd_ne z]; exact e) t)
      obtain ⟨n2, e2, _⟩ := fz_some3 this
      exact fz_put n2 (by rw [upd_ne z]; exact e2) t
  · exact core rel h1 fun σ' H' O' r' s' => q σ' H' O' r' s'
end
end Iv

set_option maxHeartbeats 4000000
namespace Iv
open PySem PySem.Spec PyProof.Rows L2
variable [Ct] [Nm]
/-! ### the evaluator -/
structure Ev where
  e : Sx → Expr → EF
  t : Sx → Expr → TF
  s : Sx → List Stmt → SF
structure EvOk (F : FT) (P : Ev) : Prop where
  e : ∀ {S X}, CxS F S X → ∀ x, SoundE X x (P.e S x)
  t : ∀ {S X}, CxS F S X → ∀ x, SoundT X x (P.t S x)
  s : ∀ {S X}, CxS F S X → ∀ x, SoundSs X x (P.s S x)
def failT (_ : Env') (_ : BSt) : Option (Bool × BSt) := none
def failI (_ : Env') (_ : BSt) : Option (List D × BSt) := none
def pV (P : Ev) (S : Sx) : Expr → VF
  | .Name x _ => nameV S x
  | e => valF (P.e S e)
def orElse (f g : EF) (env : Env') (st : BSt) : Option (R × BSt) := match f env st with
  | some r => some r
  | none => g env st
section
variable {F : FT} {P : Ev} {S : Sx} {X : Cx}
theorem pV_ok (h : EvOk F P) (C : CxS F S X) (e : Expr) : SoundV X e (pV P S e) := by
  cases e with
  | Name x p => exact s_nameV C
  | _ => exact s_val (h.e C _)
theorem s_or {e : Expr} {f g : EF} (hf : SoundE X e f) (hg : SoundE X e g) : SoundE X e (orElse f g) := by
  intro β Oo H0 O σ H env st r st' Q rel h q
  unfold orElse at h
  split at h
  · rename_i r' e1; cases h; exact hf rel e1 q
  · exact hg rel h q
theorem t_fail {e : Expr} : SoundT X e failT := fun _ _ _ _ _ _ _ _ _ _ _ _ h => by cases h
theorem i_fail {tg e : Expr} : SoundI X tg e failI := fun _ _ _ _ _ _ _ _ _ _ _ _ h => by cases h
theorem ite_e {e : Expr} {c : Bool} {f : EF} (h : c = true → SoundE X e f) : SoundE X e (if c then f else failE) := by
  cases c with
  | true => exact h rfl
  | false => exact s_fail
theorem ite_s {s : Stmt} {c : Bool} {f : SF} (h : c = true → SoundS X s f) : SoundS X s (if c then f else failS) := by
  cases c with
  | true => exact h rfl
  | false => exact ss_fail
theorem args_ok (h : EvOk F P) (C : CxS F S X) : ∀ {es : List Expr}, es.all noStar = true → SoundA X es (argsF (es.map (P.e S)))
  | [], _ => s_args0
  | e :: es, hs => by
    simp only [List.all_cons, Bool.and_eq_true] at hs
    exact s_args hs.1 (h.e C e) (args_ok h C hs.2)
/-! pieces -/
def unE (P : Ev) (S : Sx) : UnaryOp → Expr → EF
  | .Not, a => notE (pV P S a)
  | .USub, a => negE (pV P S a)
  | _, _ => failE
theorem unE_ok (h : EvOk F P) (C : CxS F S X) {op : UnaryOp} {a : Expr} {pos : Pos} : SoundE X (.UnaryOp op a pos) (unE P S op a) := by
  cases op with
  | Not => exact s_notE (pV_ok h C a)
  | USub => exact s_negE (pV_ok h C a)
  | _ => exact s_fail
def boE (P : Ev) (S : Sx) (pos : Pos) : BoolOp → List Expr → EF
  | _, [a] => P.e S a
  | .And, a :: b :: r => andE (pV P S a) (P.e S (.BoolOp .And (b :: r) pos))
  | .Or, a :: b :: r => orE (pV P S a) (P.e S (.BoolOp .Or (b :: r) pos))
  | _, [] => failE
theorem boE_ok (h : EvOk F P) (C : CxS F S X) {op : BoolOp} {es : List Expr} {pos : Pos} : SoundE X (.BoolOp op es pos) (boE P S pos op es) := by
  cases es with
  | nil => cases op <;> exact s_fail
  | cons a r =>
    cases r with
    | nil => cases op <;> exact s_one (h.e C a)
    | cons b r => cases op with
      | And => exact s_andE (pV_ok h C a) (h.e C _)
      | Or => exact s_orE (pV_ok h C a) (h.e C _)
def cmE (P : Ev) (S : Sx) (a : Expr) : List CmpOp → List Expr → EF
  | [op], [b] => if noSet b then blF (cmpF op (pV P S a) (pV P S b)) else failE
  | [op, op'], [b, c] => if noSet b && noSet c then blF (chainF op op' (pV P S a) (pV P S b) (pV P S c)) else failE
  | _, _ => failE
theorem cmE_ok (h : EvOk F P) (C : CxS F S X) {a : Expr} {ops : List CmpOp} {bs : List Expr} {pos : Pos} : SoundE X (.Compare a ops bs pos) (cmE P S a ops bs) := by
  unfold cmE
  split
  · exact ite_e fun c => s_cmp C c (pV_ok h C a) (pV_ok h C _)
  · exact ite_e fun c => by
      rw [Bool.and_eq_true] at c
      exact (s_chain C c.1 c.2 (pV_ok h C a) (pV_ok h C _) (pV_ok h C _)).1
  · exact s_fail
def cmT (P : Ev) (S : Sx) (a : Expr) : List CmpOp → List Expr → TF
  | [op], [b] => if noSet b then cmpF op (pV P S a) (pV P S b) else failT
  | [op, op'], [b, c] => if noSet b && noSet c then chainF op op' (pV P S a) (pV P S b) (pV P S c) else failT
  | _, _ => failT
theorem cmT_ok (h : EvOk F P) (C : CxS F S X) {a : Expr} {ops : List CmpOp} {bs : List Expr} {pos : Pos} : SoundT X (.Compare a ops bs pos) (cmT P S a ops bs) := by
  unfold cmT
  split
  · split
    · rename_i c; exact s_cmpT C c (pV_ok h C a) (pV_ok h C _)
    · exact t_fail
  · split
    · rename_i c
      rw [Bool.and_eq_true] at c
      exact (s_chain C c.1 c.2 (pV_ok h C a) (pV_ok h C _) (pV_ok h C _)).2
    · exact t_fail
  · exact t_fail
def diE (P : Ev) (S : Sx) : List (Option Expr) → List Expr → EF
  | [], [] => dict0
  | [some k], [v] => dict1 (pV P S k) (pV P S v)
  | _, _ => failE
theorem diE_ok (h : EvOk F P) (C : CxS F S X) {ks : List (Option Expr)} {vs : List Expr} {pos : Pos} : SoundE X (.Dict ks vs pos) (diE P S ks vs) := by
  unfold diE
  split
  · exact s_dict0
  · exact s_dict1 (pV_ok h C _) (pV_ok h C _)
  · exact s_fail
def partE (P : Ev) (S : Sx) : Option Expr → OF
  | none => partF none
  | some e => partF (some (pV P S e))
theorem partE_ok (h : EvOk F P) (C : CxS F S X) (o : Option Expr) : SoundO X o (partE P S o) := by
  cases o with
  | none => exact s_part0
  | some e => exact s_part (pV_ok h C e)
def suE (P : Ev) (S : Sx) (a : Expr) : Expr → EF
  | .Slice lo hi none _ => slF (pV P S a) (partE P S lo) (partE P S hi)
  | .Slice none none (some (.UnaryOp .USub (.Constant (.int 1) _ _) _)) _ => revF (pV P S a)
  | .Tuple es _ _ => if es.all noStar then ixTF (pV P S a) (argsF (es.map (P.e S))) else failE
  | i => if plainIx i then (match a with
    | .Name x _ => orElse (ixN' S x (pV P S i)) (ixG (pV P S a) (pV P S i))
    | _ => ixG (pV P S a) (pV P S i)) else failE
theorem suE_ok (h : EvOk F P) (C : CxS F S X) {a i : Expr} {pos : Pos} : SoundE X (.Subscript a i pos) (suE P S a i) := by
  unfold suE
  split
  · exact s_slice (pV_ok h C a) (partE_ok h C _) (partE_ok h C _)
  · exact s_rev (pV_ok h C a)
  · exact ite_e fun c => s_ixT C (pV_ok h C _) (args_ok h C c)
  · refine ite_e fun c => ?_
    split
    · exact s_or (s_ixN C c (pV_ok h C _)) (s_ixG C c (pV_ok h C _) (pV_ok h C _))
    · exact s_ixG C c (pV_ok h C _) (pV_ok h C _)
def isE (P : Ev) (S : Sx) (e : Expr) : Expr → EF
  | .Tuple [c, c'] _ _ => (match tyOf S c, tyOf S c' with
    | some t, some u => isiF2 t u (pV P S e)
    | _, _ => failE)
  | c => (match tyOf S c with
    | some t => isiF t (pV P S e)
    | none => failE)
def splitL : List Expr → Option (List Expr × Expr)
  | [] => none
  | [a] => some ([], a)
  | a :: b :: r => (splitL (b :: r)).map fun p => (a :: p.1, p.2)
theorem splitL_ok : ∀ {es : List Expr} {p : List Expr × Expr}, splitL es = some p → es = p.1 ++ [p.2]
  | [a], p, h => by cases h; rfl
  | a :: b :: r, p, h => by
    unfold splitL at h
    obtain ⟨q, e, rfl⟩ := map1 h
    rw [splitL_ok e]; rfl
theorem prs_ok (h : EvOk F P) (C : CxS F S X) : ∀ {es : List Expr}, es.all noStar = true → Prs X es (es.map (P.e S))
  | [], _ => .nil
  | e :: es, hs => by
    simp only [List.all_cons, Bool.and_eq_true] at hs
    exact .cons hs.1 (h.e C e) (prs_ok h C hs.2)
/-- the last argument is the def that was made here -/
def nestE (S : Sx) (es : List Expr) : Option (List Expr × Nat) := match S.nest with
  | none => none
  | some n => (match splitL es with
    | some (es', .Name y _) => if decide (y = n) then (slotOf S y).map fun i => (es', i) else none
    | _ => none)
theorem nestE_ok {es es' : List Expr} {i : Nat} (h : nestE S es = some (es', i)) : ∃ y py, es = es' ++ [.Name y py] ∧ slotOf S y = some i := by
  unfold nestE at h
  split at h
  · cases h
  · split at h
    · rename_i es2 y py e1
      split at h
      · obtain ⟨j, e2, e3⟩ := map1 h
        cases e3
        exact ⟨y, py, splitL_ok e1, e2⟩
      · cases h
    · cases h
/-- a bag made for this call alone -/
def isBagC : Expr → Bool
  | .Call (.Name y _) _ _ _ => decide (y = "_law_bag")
  | _ => false
def isRgC (S : Sx) : Expr → Bool
  | .Call (.Name y _) [a, b] [] _ => isB S "range" y && noStar a && noStar b
  | _ => false
def lrE (P : Ev) (S : Sx) : Expr → EF
  | .Call _ [a, b] [] _ => lrF (pV P S a) (pV P S b)
  | _ => failE
theorem lrE_ok (h : EvOk F P) (C : CxS F S X) {x : Str} {e : Expr} {p pos : Pos} (hx : isB S "list" x = true) (hc : isRgC S e = true) : SoundE X (.Call (.Name x p) [e] [] pos) (lrE P S e) := by
  unfold isRgC at hc
  split at hc
  · simp only [Bool.and_eq_true] at hc
    exact s_lr C hx hc.1.1 hc.1.2 hc.2 (pV_ok h C _) (pV_ok h C _)
  · cases hc
noncomputable def caE (F : FT) (P : Ev) (S : Sx) (pos : Pos) : Expr → List Expr → List Keyword → EF
  | .Name x _, e :: es, [] =>
    if (e :: es).all noStar then
      if isFn S x then if isBagC e then (match es with
        | [c] => takF F x (P.e S e) (P.e S c)
        | _ => failE) else (match nestE S es with
        | some (es', i) => clF F S.made S.cap x i (argsF ((e :: es').map (P.e S)))
        | none => callF F x (argsF ((e :: es).map (P.e S))))
      else if decide (x ∈ S.hks) then (match slotOf S x with
        | some i => cloF F S.args i (argsF ((e :: es).map (P.e S)))
        | none => failE)
      else match es with
        | [] => if isB S "dict" x then dicF (pV P S e) else if isB S "list" x && isRgC S e then lrE P S e else (match bl1 S x with
          | some .len => (match e with
            | .Name y _ => orElse (lenN S y) (bltF1 .len (pV P S e))
            | _ => bltF1 .len (pV P S e))
          | some .sorted => (match e with
            | .Call (.Name y _) [e'] [] _ => if isB2 S "sorted" x && isB2 S "set" y && noStar e' then ssF (pV P S e') else bltF1 .sorted (pV P S e)
            | _ => bltF1 .sorted (pV P S e))
          | some b => bltF1 b (pV P S e)
          | none => failE)
        | [c] => if isInst S x then isE P S e c else (match bl2 S x with
          | some b => bltF2 b (pV P S e) (pV P S c)
          | none => failE)
        | _ => failE
    else failE
  | .Attribute o m apos, [e], [] => if decide (m = "index") && noCall0 o && (apos.endLine == pos.line) && noStar e then idxF (pV P S o) (pV P S e) else failE
  | .Attribute o m apos, [e, x], [] => if decide (m = "get") && noCall0 o && (apos.endLine == pos.line) && noStar e && noStar x then getF (pV P S o) (pV P S e) (P.e S x) else failE
  | .Attribute o m apos, [], [] => if decide (m = "upper") && noCall0 o && (apos.endLine == pos.line) then upF (pV P S o) else failE
  | _, _, _ => failE
theorem isE_ok (h : EvOk F P) (C : CxS F S X) {x : Str} {e c : Expr} {p pos : Pos} (hx : isInst S x = true) (hn : noStar e = true) : SoundE X (.Call (.Name x p) [e, c] [] pos) (isE P S e c) := by
  unfold isE
  split
  · split
    · rename_i t u e1 e2; exact s_isi2 C hx e1 e2 hn (pV_ok h C e)
    · exact s_fail
  · split
    · rename_i t e1; exact s_isi C hx e1 hn (pV_ok h C e)
    · exact s_fail
theorem caE_ok (h : EvOk F P) (C : CxS F S X) {f : Expr} {as : List Expr} {ks : List Keyword} {pos : Pos} : SoundE X (.Call f as ks pos) (caE F P S pos f as ks) := by
  unfold caE
  split
  · rename_i x p e es
    refine ite_e fun c => ?_
    have c' := c
    simp only [List.all_cons, Bool.and_eq_true] at c'
    split
    · rename_i hx
      split
      · split
        · rename_i c2
          exact s_tak C hx c'.1 (by simpa using c'.2) (h.e C _) (h.e C _)
        · exact s_fail
      split
      · rename_i es' i e1
        obtain ⟨y, py, rfl, e2⟩ := nestE_ok e1
        rw [List.all_append, Bool.and_eq_true] at c'
        exact s_cl C hx e2 (prs_ok h C (es := e :: es') (by rw [List.all_cons, c'.1, c'.2.1]; rfl))
      · exact s_call C hx c'.1 c'.2 (args_ok h C c)
    · split
      · split
        · rename_i i e1
          exact s_clo C e1 c'.1 c'.2 (args_ok h C c)
        · exact s_fail
      split
      · split
        · rename_i hd; exact s_dic C hd c'.1 (pV_ok h C _)
        split
        · rename_i hr
          rw [Bool.and_eq_true] at hr
          exact lrE_ok h C hr.1 hr.2
        split
        · rename_i hb
          split
          · exact s_or (s_lenN C hb) (s_blt1 C hb c'.1 (pV_ok h C _))
          · exact s_blt1 C hb c'.1 (pV_ok h C _)
        · rename_i hb
          split
          · split
            · rename_i c3
              simp only [Bool.and_eq_true] at c3
              exact s_ss C c3.1.1 c3.1.2 c3.2 (pV_ok h C _)
            · exact s_blt1 C hb c'.1 (pV_ok h C _)
          · exact s_blt1 C hb c'.1 (pV_ok h C _)
        · rename_i b hb; exact s_blt1 C hb c'.1 (pV_ok h C _)
        · exact s_fail
      · rename_i cc
        have c2 : noStar cc = true := by simpa using c'.2
        split
        · rename_i hx; exact isE_ok h C hx c'.1
        · split
          · rename_i b hb; exact s_blt2 C hb c'.1 c2 (pV_ok h C _) (pV_ok h C _)
          · exact s_fail
      · exact s_fail
  · refine ite_e fun c => ?_
    simp only [Bool.and_eq_true] at c
    have em := of_decide_eq_true c.1.1.1
    subst em
    exact s_idx C c.1.1.2 c.1.2 c.2 (pV_ok h C _) (pV_ok h C _)
  · refine ite_e fun c => ?_
    simp only [Bool.and_eq_true] at c
    have em := of_decide_eq_true c.1.1.1.1
    subst em
    exact s_get C c.1.1.1.2 c.1.1.2 c.1.2 c.2 (pV_ok h C _) (pV_ok h C _) (h.e C _)
  · refine ite_e fun c => ?_
    simp only [Bool.and_eq_true] at c
    have em := of_decide_eq_true c.1.1
    subst em
    exact s_up c.1.2 c.2 (pV_ok h C _)
  · exact s_fail
/-! targets, iterables, comprehensions -/
def tgE (S : Sx) (tg : Expr) : Option (List Nat × GF) := tgN 2 S tg
theorem tgE_ok (C : CxS F S X) {tg : Expr} {p : List Nat × GF} (h : tgE S tg = some p) : SoundG X tg p.1 p.2 := tgN_ok C 2 h
def isTupT : Expr → Bool
  | .Tuple .. => true
  | _ => false
def itE (P : Ev) (S : Sx) (tg : Expr) (e : Expr) : IF := match e with
  | .Call (.Name x _) [a] [] _ => if isB S "range" x && noStar a then rangeF (pV P S a) else if isB S "enumerate" x && noStar a && isTupT tg then enumF (P.e S a) else plainF (P.e S e)
  | .Call (.Name x _) [a, b] [] _ => if isB S "zip" x && noStar a && noStar b && isTupT tg then zipF (P.e S a) (P.e S b) else if isB S "range" x && noStar a && noStar b then rangeF2 (pV P S a) (pV P S b) else plainF (P.e S e)
  | .Call (.Name x _) [a, b, c] [] _ => if isB S "zip" x && noStar a && noStar b && noStar c && isTupT tg then zipF3 (P.e S a) (P.e S b) (P.e S c) else plainF (P.e S e)
  | _ => plainF (P.e S e)
theorem itE_ok (h : EvOk F P) (C : CxS F S X) (tg e : Expr) : SoundI X tg e (itE P S tg e) := by
  unfold itE
  split
  · split
    · rename_i c; rw [Bool.and_eq_true] at c; exact s_range C c.1 c.2 (pV_ok h C _)
    · split
      · rename_i c
        simp only [Bool.and_eq_true] at c
        cases tg with
        | Tuple es k tp => exact s_enum C c.1.1 c.1.2 (h.e C _)
        | _ => cases c.2
      · exact s_iter (h.e C _)
  · split
    · rename_i c
      simp only [Bool.and_eq_true] at c
      cases tg with
      | Tuple es k tp => exact s_zip C c.1.1.1 c.1.1.2 c.1.2 (h.e C _) (h.e C _)
      | _ => cases c.2
    · split
      · rename_i c
        simp only [Bool.and_eq_true] at c
        exact s_range2 C c.1.1 c.1.2 c.2 (pV_ok h C _) (pV_ok h C _)
      · exact s_iter (h.e C _)
  · split
    · rename_i c
      simp only [Bool.and_eq_true] at c
      cases tg with
      | Tuple es k tp => exact s_zip3 C c.1.1.1.1 c.1.1.1.2 c.1.1.2 c.1.2 (h.e C _) (h.e C _) (h.e C _)
      | _ => cases c.2
    · exact s_iter (h.e C _)
  · exact s_iter (h.e C _)
def isFnK : ScopeKind → Bool
  | .function => true
  | _ => false
def ifsE (P : Ev) (S : Sx) : List Expr → TF
  | [] => yesT
  | [c] => P.t S c
  | _ => failT
theorem ifsE_ok (h : EvOk F P) (C : CxS F S X) (ifs : List Expr) : SoundTs X ifs (ifsE P S ifs) ∨ ifsE P S ifs = failT := by
  cases ifs with
  | nil => exact .inl s_ifs0
  | cons c r =>
    cases r with
    | nil => exact .inl (s_ifs1 (h.t C c))
    | cons d r => exact .inr rfl
def lcOk (S : Sx) (scope : Scope) (iter : Expr) (ifs : List Expr) (sl : List Nat) : Bool :=
  isFnK scope.kind && blkC S.N S.sc scope (ownOf S.N scope.names) && noSetI iter && (sl.all fun j => decide (j ∈ (ownOf S.N scope.names).map (·.2))) && decide (ifs.length ≤ 1)
def lcE (P : Ev) (S : Sx) (elt : Expr) (gens : List Comprehension) (scope : Scope) : EF := match gens with
  | [⟨tg, iter, ifs, 0⟩] => (match tgE (S.inner scope) tg with
    | some p => if lcOk S scope iter ifs p.1 then lcF (itE P S tg iter) ((ownOf S.N scope.names).map (·.2)) p.2 (ifsE P (S.inner scope) ifs) (P.e (S.inner scope) elt) else failE
    | none => failE)
  | [⟨tg, iter, ifs, 0⟩, ⟨tg1, iter1, ifs1, 0⟩] => (match tgE (S.inner scope) tg, tgE (S.inner scope) tg1 with
    | some p, some p1 => if lcOk S scope iter ifs p.1 && lcOk S scope iter1 ifs1 p1.1 then lcF2 (itE P S tg iter) ((ownOf S.N scope.names).map (·.2)) p.2 (ifsE P (S.inner scope) ifs) (itE P (S.inner scope) tg1 iter1) p1.1 p1.2 (ifsE P (S.inner scope) ifs1) (P.e (S.inner scope) elt) else failE
    | _, _ => failE)
  | _ => failE
theorem lcOk_ok {scope : Scope} {iter : Expr} {ifs : List Expr} {sl : List Nat} (c : lcOk S scope iter ifs sl = true) : scope.kind = .function ∧ blkC S.N S.sc scope (ownOf S.N scope.names) = true ∧ noSetI iter = true ∧ (∀ j ∈ sl, j ∈ (ownOf S.N scope.names).map (·.2)) ∧ ifs.length ≤ 1 := by
  unfold lcOk at c
  simp only [Bool.and_eq_true, decide_eq_true_eq, List.all_eq_true] at c
  refine ⟨?_, c.1.1.1.2, c.1.1.2, c.1.2, c.2⟩
  have k := c.1.1.1.1
  revert k
  cases scope.kind <;> simp [isFnK]
theorem ifs_sound (h : EvOk F P) (C : CxS F S X) {ifs : List Expr} (hl : ifs.length ≤ 1) : SoundTs X ifs (ifsE P S ifs) := by
  match ifs, hl with
  | [], _ => exact s_ifs0
  | [c], _ => exact s_ifs1 (h.t C c)
theorem lcE_ok (h : EvOk F P) (C : CxS F S X) {elt : Expr} {gens : List Comprehension} {scope : Scope} {pos : Pos} : SoundE X (.ListComp elt gens scope pos) (lcE P S elt gens scope) := by
  unfold lcE
  split
  · split
    · rename_i p e1
      refine ite_e fun c => ?_
      obtain ⟨c1, c2, c3, c4, c5⟩ := lcOk_ok c
      exact s_lc C c1 c2 c3 (itE_ok h C _ _) c4 (fun X' C' _ => tgE_ok C' e1) (fun X' C' _ => ifs_sound h C' c5) (fun X' C' _ => h.e C' _)
    · exact s_fail
  · split
    · rename_i p p1 e1 e2
      refine ite_e fun c => ?_
      rw [Bool.and_eq_true] at c
      obtain ⟨c1, c2, c3, c4, c5⟩ := lcOk_ok c.1
      obtain ⟨d1, d2, d3, d4, d5⟩ := lcOk_ok c.2
      exact s_lc2 C c1 c2 c3 d3 (itE_ok h C _ _) c4 d4 (fun X' C' _ => tgE_ok C' e1) (fun X' C' _ => ifs_sound h C' c5) (fun X' C' _ => itE_ok h C' _ _) (fun X' C' _ => tgE_ok C' e2) (fun X' C' _ => ifs_sound h C' d5) (fun X' C' _ => h.e C' _)
    · exact s_fail
  · exact s_fail
def dcE (P : Ev) (S : Sx) (kx vx : Expr) (gens : List Comprehension) (scope : Scope) : EF := match gens with
  | [⟨tg, iter, ifs, 0⟩] => (match tgE (S.inner scope) tg with
    | some p => if lcOk S scope iter ifs p.1 then (match iter with
      | .Name x _ => (match slotOf S x with
        | some n => dcKF n ((ownOf S.N scope.names).map (·.2)) p.2 (ifsE P (S.inner scope) ifs) (P.e (S.inner scope) kx) (P.e (S.inner scope) vx)
        | none => failE)
      | _ => dcF (itE P S tg iter) ((ownOf S.N scope.names).map (·.2)) p.2 (ifsE P (S.inner scope) ifs) (P.e (S.inner scope) kx) (P.e (S.inner scope) vx)) else failE
    | none => failE)
  | _ => failE
theorem dcE_ok (h : EvOk F P) (C : CxS F S X) {kx vx : Expr} {gens : List Comprehension} {scope : Scope} {pos : Pos} : SoundE X (.DictComp kx vx gens scope pos) (dcE P S kx vx gens scope) := by
  unfold dcE
  split
  · split
    · rename_i p e1
      refine ite_e fun c => ?_
      obtain ⟨c1, c2, c3, c4, c5⟩ := lcOk_ok c
      split
      · split
        · rename_i n e2
          exact s_dcK C e2 c1 c2 c4 (fun X' C' _ => tgE_ok C' e1) (fun X' C' _ => ifs_sound h C' c5) (fun X' C' _ => h.e C' _) (fun X' C' _ => h.e C' _)
        · exact s_fail
      · exact s_dc C c1 c2 c3 (itE_ok h C _ _) c4 (fun X' C' _ => tgE_ok C' e1) (fun X' C' _ => ifs_sound h C' c5) (fun X' C' _ => h.e C' _) (fun X' C' _ => h.e C' _)
    · exact s_fail
  · exact s_fail
noncomputable def stepE (F : FT) (P : Ev) (S : Sx) : Expr → EF
  | .Constant c _ _ => constF c
  | .Name x _ => nameF S x
  | .BinOp a op b _ => binF op (pV P S a) (pV P S b)
  | .UnaryOp op a _ => unE P S op a
  | .BoolOp op es pos => boE P S pos op es
  | .IfExp c a b _ => ifE (P.t S c) (P.e S a) (P.e S b)
  | .Compare a ops bs _ => cmE P S a ops bs
  | .Tuple es _ _ => if es.all noStar then tupF (argsF (es.map (P.e S))) else failE
  | .List es _ => if es.all noStar then lstF (argsF (es.map (P.e S))) else failE
  | .Dict ks vs _ => diE P S ks vs
  | .Subscript a i _ => suE P S a i
  | .Call f as ks pos => caE F P S pos f as ks
  | .ListComp elt gens scope _ => lcE P S elt gens scope
  | .DictComp kx vx gens scope _ => dcE P S kx vx gens scope
  | _ => failE
theorem stepE_ok (h : EvOk F P) (C : CxS F S X) (e : Expr) : SoundE X e (stepE F P S e) := by
  cases e with
  | Constant c k p => exact s_const
  | Name x p => exact s_name C
  | BinOp a op b p => exact s_bin (pV_ok h C a) (pV_ok h C b)
  | UnaryOp op a p => exact unE_ok h C
  | BoolOp op es p => exact boE_ok h C
  | IfExp c a b p => exact s_if (h.t C c) (h.e C a) (h.e C b)
  | Compare a ops bs p => exact cmE_ok h C
  | Tuple es k p => exact ite_e fun c => s_tup (args_ok h C c)
  | List es p => exact ite_e fun c => s_lst (args_ok h C c)
  | Dict ks vs p => exact diE_ok h C
  | Subscript a i p => exact suE_ok h C
  | Call f as ks p => exact caE_ok h C
  | ListComp elt gens scope p => exact lcE_ok h C
  | DictComp kx vx gens scope p => exact dcE_ok h C
  | _ => exact s_fail
def boT (P : Ev) (S : Sx) : BoolOp → List Expr → TF
  | _, [] => failT
  | _, [a] => P.t S a
  | .And, a :: b :: r => andT (P.t S a) (boT P S .And (b :: r))
  | .Or, a :: b :: r => orT (P.t S a) (boT P S .Or (b :: r))
theorem boT_ok (h : EvOk F P) (C : CxS F S X) {op : BoolOp} {pos : Pos} : ∀ {es : List Expr}, SoundW X (.BoolOp op es pos) (boT P S op es)
  | [] => fun _ _ _ _ _ _ _ _ _ _ _ _ hf => by cases op <;> cases hf
  | [a] => by cases op with
    | And => exact s_and1 (h.t C a)
    | Or => exact s_or1 (h.t C a)
  | a :: b :: r => by cases op with
    | And => exact s_andT (h.t C a) (boT_ok h C)
    | Or => exact s_orT (h.t C a) (boT_ok h C)
noncomputable def stepT (F : FT) (P : Ev) (S : Sx) : Expr → TF
  | .UnaryOp .Not a _ => notT (P.t S a)
  | .BoolOp op es _ => boT P S op es
  | .Compare a ops bs _ => cmT P S a ops bs
  | .Name x _ => tstF (nameV S x)
  | e => if plainT e then tstF (valF (stepE F P S e)) else failT
theorem stepT_ok (h : EvOk F P) (C : CxS F S X) (e : Expr) : SoundT X e (stepT F P S e) := by
  have d : ∀ e, SoundT X e (if plainT e then tstF (valF (stepE F P S e)) else failT) := fun e => by
    split
    · rename_i c; exact s_tst c (s_val (stepE_ok h C e))
    · exact t_fail
  unfold stepT
  split
  · exact s_notT (h.t C _)
  · exact (boT_ok h C).t
  · exact cmT_ok h C
  · exact s_tst rfl (s_nameV C)
  · exact d e
end
end Iv

set_option maxHeartbeats 4000000
namespace Iv
open PySem PySem.Spec PyProof.Rows L2
variable [Ct] [Nm]
/-! ### names that get away -/
def eats : List Str := ["len", "abs", "all", "list", "tuple", "str", "sum", "sorted", "isinstance", "set"]
def topx (f : Expr → List Str) : Expr → List Str
  | .Name _ _ => []
  | e => f e
def esc : Nat → Expr → List Str
  | 0, _ => []
  | _ + 1, .Name x _ => [x]
  | n + 1, .Call (.Name f _) as _ _ => if f ∈ eats then as.flatMap (topx (esc n)) else as.flatMap (esc n)
  | n + 1, .Call (.Attribute o _ _) as _ _ => topx (esc n) o ++ as.flatMap (esc n)
  | n + 1, .BinOp a _ b _ => topx (esc n) a ++ topx (esc n) b
  | n + 1, .UnaryOp _ a _ => topx (esc n) a
  | n + 1, .BoolOp _ es _ => es.flatMap (topx (esc n))
  | n + 1, .Compare a _ bs _ => topx (esc n) a ++ bs.flatMap (topx (esc n))
  | n + 1, .IfExp c a b _ => topx (esc n) c ++ esc n a ++ esc n b
  | n + 1, .Tuple es _ _ => es.flatMap (esc n)
  | n + 1, .List es _ => es.flatMap (esc n)
  | n + 1, .Subscript a i _ => topx (esc n) a ++ topx (esc n) i
  | n + 1, .Slice lo hi _ _ => (match lo with | some e => esc n e | none => []) ++ (match hi with | some e => esc n e | none => [])
  | n + 1, .DictComp k v gens _ _ => esc n k ++ esc n v ++ gens.flatMap fun g => esc n g.iter ++ g.ifs.flatMap (topx (esc n))
  | n + 1, .ListComp elt gens _ _ => esc n elt ++ gens.flatMap fun g => esc n g.iter ++ g.ifs.flatMap (topx (esc n))
  | _, _ => []
def escS : Stmt → List Str
  | .Assign _ e _ => esc 12 e
  | .Return (some (.Name _ _)) _ => []
  | .Return (some e) _ => esc 12 e
  | .Expr (.Call (.Attribute (.Name _ _) _ _) as _ _) _ => as.flatMap (esc 12)
  | .If c _ _ _ => topx (esc 12) c
  | .While c _ _ _ => topx (esc 12) c
  | .For _ it _ _ _ => esc 12 it
  | .AugAssign _ _ e _ => esc 12 e
  | _ => []
/-- for h in x: y = e, x a list that is changed behind it -/
def forPat (S : Sx) (tg it : Expr) (a : List Stmt) : Option (Nat × Nat × Nat × Expr) := match tg, it, a with
  | .Name h _, .Name x _, [.Assign [.Name y _] e _] => if decide (x ∈ S.rks) && noComp e then (tgtSlot S h).bind fun i => (slotOf S x).bind fun n => (tgtSlot S y).map fun j => (n, i, j, e) else none
  | _, _, _ => none
/-- for k in d, d a dict -/
def forKey (S : Sx) (it : Expr) : Option Nat := match it with
  | .Name x _ => if decide (x ∈ S.kks) then slotOf S x else none
  | _ => none
def escI (S : Sx) (s : Stmt) : List Nat := match s with
  | .For tg it a _ _ => if (forPat S tg it a).isSome then [] else (escS s).filterMap (slotOf S)
  | _ => (escS s).filterMap (slotOf S)
section
variable {F : FT} {P : Ev} {S : Sx} {X : Cx} {w : Wh}
/-! ### statements -/
def asN (P : Ev) (S : Sx) (i : Nat) : Expr → SF
  | .ListComp elt [⟨tg, iter, ifs, 0⟩] scope _ => (match tgE (S.inner scope) tg with
    | some p => if lcOk S scope iter ifs p.1 then asgF i (lcF (itE P S tg iter) ((ownOf S.N scope.names).map (·.2)) p.2 (ifsE P (S.inner scope) ifs) (P.e (S.inner scope) elt)) else failS
    | none => failS)
  | .DictComp kx vx [⟨tg, iter, ifs, 0⟩] scope _ => (match tgE (S.inner scope) tg with
    | some p => if lcOk S scope iter ifs p.1 then (match iter with
      | .Name x _ => (match slotOf S x with
        | some n => asgF i (dcKF n ((ownOf S.N scope.names).map (·.2)) p.2 (ifsE P (S.inner scope) ifs) (P.e (S.inner scope) kx) (P.e (S.inner scope) vx))
        | none => failS)
      | _ => asgF i (dcF (itE P S tg iter) ((ownOf S.N scope.names).map (·.2)) p.2 (ifsE P (S.inner scope) ifs) (P.e (S.inner scope) kx) (P.e (S.inner scope) vx))) else failS
    | none => failS)
  | e => if noComp e then asgF i (P.e S e) else failS
theorem asN_ok (h : EvOk F P) (C : CxS F S X) {x : Str} {i : Nat} (hx : tgtSlot S x = some i) (e : Expr) {p pos : Pos} : SoundS X (.Assign [.Name x p] e pos) (asN P S i e) := by
  unfold asN
  split
  · split
    · rename_i q e1
      refine ite_s fun c => ?_
      obtain ⟨c1, c2, c3, c4, c5⟩ := lcOk_ok c
      exact ss_asgLc C c1 c2 c3 hx (itE_ok h C _ _) c4 (fun X' C' _ => tgE_ok C' e1) (fun X' C' _ => ifs_sound h C' c5) (fun X' C' _ => h.e C' _)
    · exact ss_fail
  · split
    · rename_i q e1
      refine ite_s fun c => ?_
      obtain ⟨c1, c2, c3, c4, c5⟩ := lcOk_ok c
      split
      · split
        · rename_i n e2
          exact ss_asgDcK C e2 c1 c2 hx c4 (fun X' C' _ => tgE_ok C' e1) (fun X' C' _ => ifs_sound h C' c5) (fun X' C' _ => h.e C' _) (fun X' C' _ => h.e C' _)
        · exact ss_fail
      · exact ss_asgDc C c1 c2 c3 hx (itE_ok h C _ _) c4 (fun X' C' _ => tgE_ok C' e1) (fun X' C' _ => ifs_sound h C' c5) (fun X' C' _ => h.e C' _) (fun X' C' _ => h.e C' _)
    · exact ss_fail
  · exact ite_s fun c => ss_asg C hx c (h.e C _)
def asT (P : Ev) (S : Sx) (ts : List Expr) (k : Nat) (pt : Pos) (v : Expr) : SF :=
  match ts, v with
  | [.Name x px, .Name y py], .Tuple [a, b] _ _ => (match tgtSlot S x, tgtSlot S y with
    | some i, some j => if swap2 S x y px py a b && decide (i ≠ j) then par2F i j (P.e S a) (P.e S b) else failS
    | _, _ => failS)
  | [.Name x px, .Name y py, .Name z pz], .Tuple [a, b, c] _ _ => (match tgtSlot S x, tgtSlot S y, tgtSlot S z with
    | some i, some j, some l => if swap3 S x y z px py pz a b c && decide (i ≠ j) && decide (i ≠ l) && decide (j ≠ l) then par3F i j l (P.e S a) (P.e S b) (P.e S c) else failS
    | _, _, _ => failS)
  | [.Subscript (.Name x _) i _, .Subscript (.Name y _) j _], v => if decide (x = y) && plainIx i && plainIx j then swF S x (P.e S v) (pV P S i) (pV P S j) else failS
  | ts, v => if noTup v then (match slotsT S ts with
    | some is => unpF (P.e S v) (unF is)
    | none => failS) else failS
theorem asT_ok (h : EvOk F P) (C : CxS F S X) (ts : List Expr) (k : Nat) (pt : Pos) (v : Expr) {pos : Pos} : SoundS X (.Assign [.Tuple ts k pt] v pos) (asT P S ts k pt v) := by
  unfold asT
  split
  · split
    · rename_i i j e1 e2
      refine ite_s fun c => ?_
      rw [Bool.and_eq_true] at c
      exact ss_par2 C c.1 e1 e2 (of_decide_eq_true c.2) (h.e C _) (h.e C _)
    · exact ss_fail
  · split
    · rename_i i j l e1 e2 e3
      refine ite_s fun c => ?_
      simp only [Bool.and_eq_true] at c
      exact ss_par3 C c.1.1.1 e1 e2 e3 (of_decide_eq_true c.1.1.2) (of_decide_eq_true c.1.2) (of_decide_eq_true c.2) (h.e C _) (h.e C _) (h.e C _)
    · exact ss_fail
  · refine ite_s fun c => ?_
    simp only [Bool.and_eq_true] at c
    have e1 := of_decide_eq_true c.1.1
    subst e1
    exact ss_sw C c.1.2 c.2 (h.e C _) (pV_ok h C _) (pV_ok h C _)
  · refine ite_s fun c => ?_
    split
    · rename_i is e1
      exact ss_unp c (h.e C _) (g_tup C e1)
    · exact ss_fail
def isD0 : Expr → Bool
  | .Dict [] [] _ => true
  | _ => false
theorem isD0_ok {e : Expr} (h : isD0 e = true) : ∃ pos, e = .Dict [] [] pos := by
  unfold isD0 at h
  split at h
  · exact ⟨_, rfl⟩
  · cases h
def asE (P : Ev) (S : Sx) : List Expr → Expr → SF
  | [.Name x _], e => (match tgtSlot S x with
    | some i => if isD0 e && decide (x ∈ S.tks) then asgF i dict0T else asN P S i e
    | none => failS)
  | [.Tuple ts k pt], v => asT P S ts k pt v
  | [.Subscript (.Name x _) (.Tuple es _ _) _], e => (match slotOf S x with
    | some n => if es.all noStar && noComp e then setTF n (P.e S e) (argsF (es.map (P.e S))) else failS
    | none => failS)
  | [.Subscript (.Name x _) i _], e => if plainIx i && noComp e then setN S x (P.e S e) (pV P S i) else failS
  | _, _ => failS
theorem asE_ok (h : EvOk F P) (C : CxS F S X) {ts : List Expr} {v : Expr} {pos : Pos} : SoundS X (.Assign ts v pos) (asE P S ts v) := by
  unfold asE
  split
  · split
    · rename_i i e1
      split
      · rename_i c
        rw [Bool.and_eq_true] at c
        obtain ⟨pos', rfl⟩ := isD0_ok c.1
        exact ss_asg C e1 rfl s_dict0T
      · exact asN_ok h C e1 _
    · exact ss_fail
  · exact asT_ok h C _ _ _ _
  · split
    · rename_i n e1
      refine ite_s fun c => ?_
      rw [Bool.and_eq_true] at c
      exact ss_setT C e1 c.2 (h.e C _) (args_ok h C c.1)
    · exact ss_fail
  · refine ite_s fun c => ?_
    rw [Bool.and_eq_true] at c
    exact ss_setN C c.1 c.2 (h.e C _) (pV_ok h C _)
  · exact ss_fail
def exE (P : Ev) (S : Sx) : Expr → SF
  | .Call (.Attribute (.Name x _) m apos) [e] [] cpos => if decide (m = "append") && (apos.endLine == cpos.line) && noStar e then appF S x (P.e S e) else if decide (m = "remove") && (apos.endLine == cpos.line) && noStar e then remF S x (pV P S e) else failS
  | .Constant (.str _) _ _ => skipS
  | _ => failS
theorem exE_ok (h : EvOk F P) (C : CxS F S X) {e : Expr} {pos : Pos} : SoundS X (.Expr e pos) (exE P S e) := by
  unfold exE
  split
  · split
    · rename_i c
      simp only [Bool.and_eq_true] at c
      have em := of_decide_eq_true c.1.1
      subst em
      exact ss_app C c.1.2 c.2 (h.e C _)
    · refine ite_s fun c => ?_
      simp only [Bool.and_eq_true] at c
      have em := of_decide_eq_true c.1.1
      subst em
      exact ss_rem C c.1.2 c.2 (pV_ok h C _)
  · intro β Oo H0 O σ H env env' st st' o D rel hf q
    cases hf
    exact ps_doc.ws (q _ _ _ rel (Same.refl _))
  · exact ss_fail
def stepS (w : Wh) (P : Ev) (S : Sx) : Stmt → SF
  | .Assign ts v _ => asE P S ts v
  | .Expr e _ => exE P S e
  | .Return (some (.Name x p)) _ => retN S x (retF (P.e S (.Name x p)))
  | .Return (some e) _ => retF (P.e S e)
  | .If c a b _ => ifS (P.t S c) (P.s S a) (P.s S b)
  | .While c a [] _ => w (P.t S c) (P.s S a)
  | .For tg it a [] _ => (match forPat S tg it a with
    | some p => forAF p.1 p.2.1 p.2.2.1 (P.e S p.2.2.2)
    | none => (match tgE S tg with
      | some p => if (forKey S it).isSome then forKF ((forKey S it).getD 0) p.2 (P.s S a) else if noSetI it then forF (itE P S tg it) p.2 (P.s S a) else failS
      | none => failS))
  | .AugAssign (.Name x _) op e _ => (match tgtSlot S x with
    | some i => augF op i (pV P S e)
    | none => failS)
  | .AugAssign (.Subscript (.Name x _) i _) op e _ => (match slotOf S x with
    | some n => if plainIx i then augSF op n (pV P S i) (pV P S e) else failS
    | none => failS)
  | .Pass _ => skipS
  | .Break _ => fun env st => some (.bk, env, st)
  | .Continue _ => fun env st => some (.ct, env, st)
  | _ => failS
theorem forPat_ok (h : EvOk F P) (C : CxS F S X) {tg it : Expr} {a : List Stmt} {pos : Pos} {p : Nat × Nat × Nat × Expr} (hp : forPat S tg it a = some p) : SoundS X (.For tg it a [] pos) (forAF p.1 p.2.1 p.2.2.1 (P.e S p.2.2.2)) := by
  unfold forPat at hp
  split at hp
  · split at hp
    · rename_i c
      rw [Bool.and_eq_true] at c
      obtain ⟨i, e1, hp⟩ := bind1 hp
      obtain ⟨n, e2, hp⟩ := bind1 hp
      obtain ⟨j, e3, rfl⟩ := map1 hp
      exact ss_forA C e1 e2 e3 c.2 (h.e C _)
    · cases hp
  · cases hp
theorem forKey_ok (h : EvOk F P) (C : CxS F S X) {tg it : Expr} {a : List Stmt} {pos : Pos} {p : List Nat × GF} (c : (forKey S it).isSome = true) (e1 : tgE S tg = some p) : SoundS X (.For tg it a [] pos) (forKF ((forKey S it).getD 0) p.2 (P.s S a)) := by
  unfold forKey at c ⊢
  split at c
  · rename_i x px
    split at c
    · rename_i c2
      rw [if_pos c2]
      cases e : slotOf S x with
      | none => rw [e] at c; cases c
      | some n => exact ss_forK C e (tgE_ok C e1) (h.s C _)
    · cases c
  · cases c
theorem stepS_ok (hw : WhOk w) (h : EvOk F P) (C : CxS F S X) (s : Stmt) : SoundS X s (stepS w P S s) := by
  unfold stepS
  split
  · exact asE_ok h C
  · exact exE_ok h C
  · exact ss_retN C (ss_ret (h.e C _))
  · exact ss_ret (h.e C _)
  · exact ss_if (h.t C _) (h.s C _) (h.s C _)
  · exact ss_while C hw (h.t C _) (h.s C _)
  · split
    · rename_i p e1
      exact forPat_ok h C e1
    · split
      · rename_i p e1
        split
        · rename_i c
          exact forKey_ok h C c e1
        · exact ite_s fun c => ss_for C c (itE_ok h C _ _) (tgE_ok C e1) (h.s C _)
      · exact ss_fail
  · split
    · rename_i i e1; exact ss_aug C e1 (pV_ok h C _)
    · exact ss_fail
  · split
    · rename_i n e1; exact ite_s fun c => ss_augS C e1 c (pV_ok h C _) (pV_ok h C _)
    · exact ss_fail
  · exact ss_pass
  · exact ss_break
  · exact ss_continue
  · exact ss_fail
def bagMk : Stmt → Bool
  | .Assign [.Name _ _] (.Call (.Name f _) _ _ _) _ => decide (f = "_law_bag")
  | _ => false
def blkS (w : Wh) (P : Ev) (S : Sx) : List Stmt → SF
  | [] => skipS
  | s :: rest => if bagMk s then (match s with
    | .Assign [.Name x _] e _ => (match tgtSlot S x with
      | some i => if noComp e then bagF i (P.e S e) (P.s S rest) else failS
      | none => failS)
    | _ => failS) else seqS (frzS (escI S s) (stepS w P S s)) (P.s S rest)
theorem sss_fail {s : List Stmt} : SoundSs X s failS := fun _ _ _ _ _ _ _ _ _ _ _ _ _ h => by cases h
theorem blkS_ok (hw : WhOk w) (h : EvOk F P) (C : CxS F S X) (ss : List Stmt) : SoundSs X ss (blkS w P S ss) := by
  cases ss with
  | nil => exact ss_nil
  | cons s rest =>
    dsimp only [blkS]
    split
    · split
      · split
        · rename_i i e1
          split
          · rename_i c; exact ss_bag C e1 c (h.e C _) (h.s C _)
          · exact sss_fail
        · exact sss_fail
      · exact sss_fail
    · exact ss_cons (ss_frz _ (stepS_ok hw h C s)) (h.s C rest)
noncomputable def ev (w : Wh) (F : FT) : Nat → Ev
  | 0 => ⟨fun _ _ => failE, fun _ _ => failT, fun _ _ => failS⟩
  | n + 1 => ⟨fun S => stepE F (ev w F n) S, fun S => stepT F (ev w F n) S, fun S => blkS w (ev w F n) S⟩
theorem ev_ok (hw : WhOk w) : ∀ n, EvOk F (ev w F n)
  | 0 => ⟨fun _ _ => s_fail, fun _ _ => t_fail, fun _ _ => sss_fail⟩
  | n + 1 => ⟨fun C x => stepE_ok (ev_ok hw n) C x, fun C x => stepT_ok (ev_ok hw n) C x, fun C x => blkS_ok hw (ev_ok hw n) C x⟩
end
/-! ### defs -/
/-- a def of the text: its names by slot, its parameters -/
structure Df where
  st : Stmt
  N : List Str
  ps : List Str
  nd : Option Nd := none
  hks : List Str := []
  tks : List Str := []
  rks : List Str := []
  gd : Bool := false
  kks : List Str := []
  ext : Option (Nat × (List R → BSt → Option (R × BSt))) := none
def fin (o : Option (Out × Env' × BSt)) : Option (R × BSt) := o.bind fun p => (match p.1 with
      | .rt r => some (r, p.2.2)
      | .nx => some (.fz .none, p.2.2)
      | _ => none)
def env0 (n : Nat) (rs : List R) : Env' := rs.map some ++ List.replicate (n - rs.length) none
open Classical in
/-- what comes out whatever the made def's object is -/
noncomputable def uni (q : Str) (g : Addr → NdefX.NF → Option (R × BSt)) : Option (R × BSt) := if h : ∃ o, ∀ f F', F'.qual = q → g f F' = some o then some (Classical.choose h) else none
theorem uni_ok {q : Str} {g : Addr → NdefX.NF → Option (R × BSt)} {o : R × BSt} (h : uni q g = some o) (f : Addr) (F' : NdefX.NF) (hq : F'.qual = q) : g f F' = some o := by
  unfold uni at h
  split at h
  · rename_i z
    cases h
    exact Classical.choose_spec z f F' hq
  · cases h
theorem uni_eq {q : Str} {g : Addr → NdefX.NF → Option (R × BSt)} {o : R × BSt} (h : ∀ f F', F'.qual = q → g f F' = some o) : uni q g = some o := by
  unfold uni
  have ex : ∃ o, ∀ f F', F'.qual = q → g f F' = some o := ⟨o, h⟩
  rw [dif_pos ex]
  have a := Classical.choose_spec ex 0 (NdefX.NF.of (.Pass ⟨0, 0, 0, 0⟩) q q [] 0) rfl
  have b := h 0 (NdefX.NF.of (.Pass ⟨0, 0, 0, 0⟩) q q [] 0) rfl
  rw [b] at a
  exact a.symm
noncomputable def runDf (w : Wh) (F : FT) (gl : Str → Option Gv) (n : Nat) (d : Df) (rs : List R) (st : BSt) : Option (R × BSt) :=
  if rs.length = d.ps.length then (match d.nd with
    | none => fin ((ev w F n).s { N := d.N, sc := defScope d.st, gl := gl, args := rs, hks := d.hks, tks := d.tks, rks := d.rks, gd := d.gd, kks := d.kks } (defBody d.st) (env0 d.N.length rs) st)
    | some nd => uni nd.q fun f F' => fin ((ev w F n).s { N := d.N, sc := defScope d.st, gl := gl, made := [.fnc f F' [] []], cap := nd.cap, nest := some nd.name, tks := d.tks, rks := d.rks } (defBody d.st).tail ((env0 d.N.length rs).set nd.ix (some (.fnc f F' [] []))) st))
  else none
noncomputable def runNd (w : Wh) (F : FT) (gl : Str → Option Gv) (n : Nat) (nd : Nd) (rs : List R) (st : BSt) : Option (R × BSt) :=
  if rs.length = nd.ps.length + nd.fr.length then fin ((ev w F n).s { N := nd.N, sc := C8.fnScope nd.st, gl := gl, blk := true } (C8.fnBody nd.st) (env0 nd.N.length rs) st) else none
section
variable {P : Program} {w : World} {K : PySem.W.Frag} {mg : Str → Option Value} {base : Heap}
theorem args_slots {β : Option Addr} {Oo : Addr → Prop} {H : Hp} : ∀ {vs : List V} {rs : List R}, ArgsAt K β Oo H vs rs → ∀ (i : Nat) r, rs[i]? = some r → ∃ v, vs[i]? = some v ∧ ArgAt K β Oo H v r
  | _, _, .nil, i, r, e => by simp at e
  | _, _, .cons a b, 0, r, e => by simp at e; subst e; exact ⟨_, rfl, a⟩
  | _, _, .cons a b, i + 1, r, e => by
    obtain ⟨v, h1, h2⟩ := args_slots b i r (by simpa using e)
    exact ⟨v, by simpa using h1, h2⟩
theorem args_app {β : Option Addr} {Oo : Addr → Prop} {H : Hp} : ∀ {vs ws : List V} {rs qs : List R}, ArgsAt K β Oo H vs rs → ArgsAt K β Oo H ws qs → ArgsAt K β Oo H (vs ++ ws) (rs ++ qs)
  | _, _, _, _, .nil, h => h
  | _, _, _, _, .cons a b, h => .cons a (args_app b h)
theorem args_rp {β : Option Addr} {Oo : Addr → Prop} {H : Hp} : ∀ {ws : List V} {ds : List D}, RpAll K (Fz Oo H) ws ds → ArgsAt K β Oo H ws (ds.map .fz)
  | _, _, .nil => .nil
  | _, _, .cons a b => .cons ⟨(fun _ z => by cases z), a⟩ (args_rp b)
/-- a def's slots at its entry -/
theorem rel_start {β : Option Addr} {Oo : Addr → Prop} {H : Hp} {N : List Str} {vs : List V} {rs : List R} {st : BSt} (av : ArgsAt K β Oo H vs rs) (hN : rs.length ≤ N.length) (hb : ∀ b, β = some b → Oo b) (hO : ∀ a, Oo a → ∃ o, H a = some o ∧ plainO o = true) (bg : BagAt β H st) (tb : NdefX.TabsN Tb0 H) :
    Rel K β Oo H Oo (L2.start N vs) H (env0 N.length rs) st := by
  have hl : vs.length = rs.length := paired_length av
  have no : ∀ (i : Nat) d1, (env0 N.length rs)[i]? = some (some (.ow d1)) → False := fun i d1 h1 => by
    unfold env0 at h1
    rcases Nat.lt_or_ge i rs.length with hi | hi
    · rw [List.getElem?_append_left (by simpa using hi), List.getElem?_map] at h1
      obtain ⟨r2, e2, e3⟩ := map1 h1
      cases e3
      obtain ⟨v, _, h2⟩ := args_slots av i _ e2
      exact h2.1 _ rfl
    · rw [List.getElem?_append_right (by simpa using hi), List.getElem?_replicate] at h1
      split at h1 <;> cases h1
  exact {
    sl := fun i r' e => by
      unfold env0 at e
      rcases Nat.lt_or_ge i rs.length with hi | hi
      · rw [List.getElem?_append_left (by simpa using hi), List.getElem?_map] at e
        obtain ⟨r2, e2, e3⟩ := map1 e
        cases e3
        obtain ⟨v, h1, h2⟩ := args_slots av i r' e2
        refine ⟨v, ?_, h2.2⟩
        unfold L2.start
        rw [List.getElem?_append_left (by rw [List.length_map, hl]; exact hi), List.getElem?_map, h1]; rfl
      · rw [List.getElem?_append_right (by simpa using hi), List.getElem?_replicate] at e
        split at e <;> cases e
    ne := fun i j d1 d2 a _ h1 _ _ => (no i d1 h1).elim
    fr := fun i d1 a h1 _ => (no i d1 h1).elim
    len := by
      unfold L2.start env0
      simp only [List.length_append, List.length_map, List.length_replicate]
      omega
    sub := fun _ z => z
    dom := hO
    dom0 := fun a h z => by
      obtain ⟨o, e, _⟩ := hO a h
      rw [e] at z; cases z
    sb := SB.refl
    bag := bg
    bO := hb
    tabs := tb }
/-- fn_of, where the promise asks of the heap and of the callers -/
theorem fn_ofS {k : Nat} {f : Addr} {name qual : Str} {params : Arguments} {body : List Stmt} {scope : Scope} {dV kV doc pm cdv ct oc : Value} {an od : Option Addr}
    {osl : Array (Option Value)} {N ps : List Str} {sp : SpS} {g : Bool} (lk : K.lookup f = some ⟨oc, od, .func (PySem.W.fnOf name qual params body scope dV kV doc pm an cdv ct), osl⟩) (hcd : PySem.W.codeIn K cdv qual = true) (S : FnScope N ps scope)
    (len : ∀ outer s vs H Q E, sp outer s vs H Q E → vs.length = ps.length)
    (hbody : ∀ (A : Around) (outer : List Env) (s : Shared) (H : Hp) (vs : List V) (Q : VK) (E : XK), Room k (A.deeper (envOfC qual scope s.heap.objs.size f cdv)) → (g = true → A.guards = some []) → Env0 P w K mg base A outer s H → sp outer s vs H Q E →
      ∃ t, PSs (cxOf CX0 P w K mg base N qual scope f cdv A outer s H E) body t ∧ t { nx := fun _ H' => Q .non H', rt := Q } (L2.start N vs) H) :
    FnOkS P w K mg base (k + 1) f (PySem.W.fnOf name qual params body scope dV kV doc pm an cdv ct) ps sp g := by
  refine ⟨len, fun A outer s H args us vs Q E hr hgd e0 hb r hsp => ?_⟩
  have hl := len _ _ _ _ _ _ hsp
  have KX : K.In s.heap := e0.mod.kin.keeps fun b o e => (e0.bs b o e).1
  have lim : s.heap.NoLimit := e0.mod.nolimit.keeps fun b o e => (e0.bs b o e).1
  have hkind : ∀ y ∈ ps.zip us, scope.names.lookup y.1 = some .local ∨ (scope.names.lookup y.1 = some .cell ∧ ((cellsFrom (s.heap.objs.size + 1) scope.names []).lookup y.1).isSome = true) := fun ⟨n, v⟩ hy => by
    rcases S.par n (List.of_mem_zip hy).1 with q | q
    · exact .inl q
    · exact .inr ⟨q, PySem.W.cellsFrom_some _ _ _ (.inl q)⟩
  refine codeAny_call_function hr.depth (KX _ _ lk) rfl S.co S.gen rfl (PySem.W.codeRec_of KX hcd) (hb _ _ _ _ ?_)
  refine wpAny_newFunctionEnv_cells S.kind hkind fun env he s1 x => ?_
  subst he
  refine ⟨lim.keeps x.toInCall.keep, codeAny_func ?_⟩
  obtain ⟨t, ht, hq⟩ := hbody A outer s H vs Q E (hr.deeper _) hgd e0 hsp
  have I : Inv (cxOf CX0 P w K mg base N qual scope f cdv A outer s H E) [] (L2.start N vs) H s1 := inv_start S hr.hd e0 hl r x
  refine wpAny_mono (ht.run [] s1 (L2.start N vs) H _ I hq) (fun fl s' hs => ?_) fun e s' hs => hs
  have fin : ∀ {σ' : L2.St} {H' : Hp} {v : V} {u : Value}, Inv (cxOf CX0 P w K mg base N qual scope f cdv A outer s H E) [] σ' H' s' → RelV v u → Q v H' → CE outer P w H s Q u s' :=
    fun {σ' H' v u} J rv q => ⟨v, H', J.os, J.bare, J.base, J.hok, rv, q⟩
  cases fl with
  | ret u =>
    obtain ⟨v, σ', H', J, rv, q⟩ := hs
    exact fin J rv q
  | next =>
    obtain ⟨σ', H', J, q⟩ := hs
    exact fin (v := V.non) (u := Value.none) J rfl q
  | brk =>
    obtain ⟨_, _, _, q⟩ := hs
    exact False.elim q
  | cont =>
    obtain ⟨_, _, _, q⟩ := hs
    exact False.elim q
/-! ### what a table says of its defs within defs -/
structure NdOk (nd : Nd) : Prop where
  sc : NdefX.NScope nd.N nd.ps nd.fr (C8.fnScope nd.st)
  bi : ∀ (q : Str) (cl : List (Str × Addr)) (c : Addr) (doc pm ctv : Value) (us : List Value), us.length = nd.ps.length → bindArgs ((NdefX.NF.of nd.st nd.name q cl c).fd doc pm ctv) ⟨us, []⟩ = pure (nd.ps.zip us)
structure NdIn (x : Str) (d : Df) (nd : Nd) : Prop where
  hd : defBody d.st = nd.st :: (defBody d.st).tail
  q : nd.q = x ++ ".<locals>." ++ nd.name
  nds : Nm.nds nd.q = some nd
  st : ∃ pos : Pos, nd.st = .FunctionDef nd.name (C8.fnArgs nd.st) (C8.fnBody nd.st) [] none [] (C8.fnScope nd.st) none nd.name pos
  free : NdefX.ndefB (defScope d.st) (C8.fnScope nd.st) nd.fr = true
  d0 : (C8.fnArgs nd.st).defaults = []
  k0 : (C8.fnArgs nd.st).kw_defaults = []
  ann : ∀ env, annTrees (C8.fnArgs nd.st) none env = []
  ix : d.N[nd.ix]? = some nd.name
  loc : (defScope d.st).names.lookup nd.name = some .local
  cap : nd.cap.map (fun j => d.N[j]?) = nd.fr.map some
/-- the globals of the module, read once: all but the room -/
structure Glb (P : Program) (w : World) (K : PySem.W.Frag) (mg : Str → Option Value) (base : Heap) (gl : Str → Option Gv) (F : FT) (k : Nat) : Prop where
  blt : ∀ x, gl x = some .blt → mg x = none
  cst : ∀ x d, gl x = some (.cst d) → ∃ v u, mg x = some u ∧ RelV v u ∧ ∀ H, Rp K H v d
  fn : ∀ x, gl x = some .fn → ∃ f fd ps, mg x = some (.ref f) ∧ PySem.W.keepIn K (.ref f) = true ∧ Binds K fd ps [] ∧ FnOkS P w K mg base k f fd ps (spI K ps.length (F x)) ∧ ∀ rs st r, F x rs st = some r → rs.length = ps.length
  fnG : ∀ x, gl x = some .fnG → ∃ f fd ps, mg x = some (.ref f) ∧ PySem.W.keepIn K (.ref f) = true ∧ Binds K fd ps [] ∧ FnOkS P w K mg base k f fd ps (spI K ps.length (F x)) true ∧ ∀ rs st r, F x rs st = some r → rs.length = ps.length
  nf : ∀ q nd, Nm.nds q = some nd → ∀ f cl c, NdefX.NOk P w K mg base CX0 k f (NdefX.NF.of nd.st nd.name q cl c) nd.ps nd.fr (spN K nd.ps.length (F q)) ∧ ∀ rs st r, F q rs st = some r → rs.length = nd.ps.length + nd.fr.length
end
end Iv

set_option maxHeartbeats 4000000
namespace Iv
open PySem PySem.Spec PyProof.Rows L2
variable [Ct] [Nm]
section
variable {P : Program} {w : World} {K : PySem.W.Frag} {mg : Str → Option Value} {base : Heap}
theorem fin_some {o : Option (Out × Env' × BSt)} {r : R × BSt} (h : fin o = some r) : ∃ p, o = some p ∧ (match p.1 with
      | .rt r => some (r, p.2.2)
      | .nx => some (.fz .none, p.2.2)
      | _ => none) = some r := by
  unfold fin at h
  obtain ⟨p, e, h⟩ := bind1 h
  exact ⟨p, e, h⟩
theorem gl_of {F : FT} {gl : Str → Option Gv} {k : Nat} (G : Glb P w K mg base gl F k) {X : Cx} (e1 : X.prog = P) (e2 : X.w = w) (e3 : X.K = K) (e4 : X.mg = mg) (e5 : X.base = base) (hr : Room k X.A) (y : Str) (g : Gv) (e : gl y = some g) : GvOk X F y g := by
  subst e1 e2 e3 e4 e5
  cases g with
  | blt => exact G.blt y e
  | cst dd => exact G.cst y dd e
  | fn =>
    obtain ⟨f', fd', ps', h1, h2, h3, h4, h5⟩ := G.fn y e
    exact ⟨k, f', fd', ps', h1, h2, h3, hr, h4, h5⟩
  | fnG =>
    obtain ⟨f', fd', ps', h1, h2, h3, h4, h5⟩ := G.fnG y e
    exact ⟨k, f', fd', ps', h1, h2, h3, hr, h4, h5⟩
/-- a def within a def keeps its promise -/
theorem nd_ok {wh : Wh} (hw : WhOk wh) {F : FT} {gl : Str → Option Gv} {k : Nat} (G : Glb P w K mg base gl F k) (n : Nat) {nd : Nd} (ok : NdOk nd) (q : Str) (f : Addr) (cl : List (Str × Addr)) (c : Addr) :
    NdefX.NOk P w K mg base CX0 (k + 1) f (NdefX.NF.of nd.st nd.name q cl c) nd.ps nd.fr (spN K nd.ps.length (runNd wh F gl n nd)) := by
  refine NdefX.nok_of (N := nd.N) ok.sc (fun doc pm ctv us hl => ok.bi q cl c doc pm ctv us hl) (fun ws vs H Q E h => h.1) fun A outer s H vs wo Q E hr hf hc hlw h => ?_
  obtain ⟨hl, β, Oo, rs, ws, ds, st, r, st', rfl, av, rp, hb, hO, bg, tb, hf2, q2⟩ := h
  unfold runNd at hf2
  have hrl : (rs ++ ds.map R.fz).length = nd.ps.length + nd.fr.length := by
    rw [List.length_append, List.length_map, ← paired_length av, hl, ← rp.length]
    rw [List.length_map] at hlw
    omega
  rw [if_pos hrl] at hf2
  obtain ⟨⟨o, env', st1⟩, e1, hf2⟩ := fin_some hf2
  let X := (NdefX.ncx CX0 P w K mg base nd.N (NdefX.NF.of nd.st nd.name q cl c) f A outer s H E).nox
  have C : CxS F { N := nd.N, sc := C8.fnScope nd.st, gl := gl, blk := true } X := {
    N := rfl
    sc := rfl
    calm := rfl
    nd := ok.sc.nd
    hu := by
      have h1 := hr.un
      show (A.deeper _).units + 65 < cLine
      omega
    fn := fun h => by cases h
    cel := fun _ h => by cases h
    gl := fun y g e => gl_of G rfl rfl rfl rfl rfl hr y g e
    xe := rfl
    kind := ok.sc.kind
    clo := fun _ _ _ _ h => by cases h
    mad := fun _ _ h => by cases h
    gd := fun h => by cases h }
  refine ⟨_, PSs.nox (wss_pss X (C8.fnBody nd.st)), ?_⟩
  have hN : nd.ps.length + nd.fr.length ≤ nd.N.length := by
    have := congrArg List.length ok.sc.pre
    rw [List.length_take, List.length_append] at this
    omega
  have rel := rel_start (N := nd.N) (st := st) (args_app av (args_rp rp)) (by rw [hrl]; exact hN) hb hO bg tb
  have es : L2.start nd.N (vs ++ ws) = NdefX.startF nd.N vs (ws.map some) := by
    unfold L2.start NdefX.startF
    rw [List.map_append, List.append_assoc, List.length_append, List.length_map, Nat.sub_sub]
  rw [es] at rel
  refine (ev_ok hw n).s C (C8.fnBody nd.st) rel e1 ?_
  cases o with
  | rt r' => cases hf2; exact fun v H' s1 b1 r1 => q2 v H' s1 b1 r1
  | nx => cases hf2; exact fun σ' H' O' r1 s1 => q2 _ H' r1.sb r1.bag .non
  | bk => cases hf2
  | ct => cases hf2
/-- a plain def keeps its promise -/
theorem df_ok {wh : Wh} (hw : WhOk wh) {F : FT} {gl : Str → Option Gv} {k : Nat} (G : Glb P w K mg base gl F k) {x : Str} {d : Df} {f : Addr} {fd : FuncData} (n : Nat) (U : FunD K x x (defArgs d.st) (defBody d.st) (defScope d.st) [] [] f fd) (Sc : FnScope d.N d.ps (defScope d.st)) (hnd : d.nd = none) :
    FnOkS P w K mg base (k + 1) f fd d.ps (spI K d.ps.length (runDf wh F gl n d)) d.gd := by
  obtain ⟨oc, od, dV, kV, doc, pm, an, cdv, ct, osl, rfl, lk, hcd, _, _⟩ := U.ex
  refine fn_ofS lk hcd Sc (fun outer s vs H Q E h => h.1) (fun A outer s H vs Q E hr hgd e0 h => ?_)
  obtain ⟨hl, β, Oo, vs1, rs, cv, st, r, st', rfl, av, nf, hcv, hb, hO, bg, tb, hf, q⟩ := h
  have av' : ArgsAt K β Oo H (vs1 ++ cvV cv) (rs ++ cvR cv) := by
    refine args_app av ?_
    cases cv with
    | none => exact .nil
    | some c => exact .cons ⟨(fun _ z => by cases z), rfl, hcv.1⟩ .nil
  unfold runDf at hf
  have hrl : (rs ++ cvR cv).length = d.ps.length := by rw [← paired_length av']; exact hl
  rw [if_pos hrl, hnd] at hf
  obtain ⟨⟨o, env', st1⟩, e1, hf⟩ := fin_some hf
  let X := (cxOf CX0 P w K mg base d.N x (defScope d.st) f cdv A outer s H E).nox
  have C : CxS F { N := d.N, sc := defScope d.st, gl := gl, args := rs ++ cvR cv, hks := d.hks, tks := d.tks, rks := d.rks, gd := d.gd, kks := d.kks } X := {
    N := rfl
    sc := rfl
    calm := rfl
    nd := Sc.nd
    hu := by
      have h1 := hr.un
      show (A.deeper (envOfC x (defScope d.st) s.heap.objs.size f cdv)).units + 65 < cLine
      omega
    fn := fun _ _ => rfl
    cel := fun _ h => by cases h
    gl := fun y g e => gl_of G rfl rfl rfl rfl rfl hr y g e
    xe := rfl
    kind := Sc.kind
    clo := fun f' F' ws ds hm => by
      rcases List.mem_append.mp hm with hm | hm
      · exact (nf _ _ _ _ hm).elim
      · cases cv with
        | none => cases hm
        | some c =>
          obtain ⟨c1, c2, c3, c4⟩ := c
          have e := List.mem_singleton.mp hm
          cases e
          obtain ⟨_, nd, cl, cc, h1, h2, h3, h4⟩ := hcv
          obtain ⟨g1, g2⟩ := G.nf _ _ h1 c1 cl cc
          have h2 : c2 = NdefX.NF.of nd.st nd.name c2.qual cl cc := h2
          rw [← h2] at g1
          exact ⟨k, nd, hr, g1, g2, h3, fun y c e => ⟨h4 y c e, fun z => by cases z⟩⟩
    mad := fun _ _ h => by cases h
    gd := hgd }
  refine ⟨_, PSs.nox (wss_pss X (defBody d.st)), ?_⟩
  have hNl : d.ps.length ≤ d.N.length := by have := congrArg List.length Sc.pre; rw [List.length_take] at this; omega
  have rel := rel_start (N := d.N) (st := st) av' (by rw [hrl]; exact hNl) hb hO bg tb
  refine (ev_ok hw n).s C (defBody d.st) rel e1 ?_
  cases o with
  | rt r' => cases hf; exact fun v H' s1 b1 r1 => q v H' s1 b1 r1
  | nx => cases hf; exact fun σ' H' O' r1 s1 => q _ H' r1.sb r1.bag .non
  | bk => cases hf
  | ct => cases hf
end
end Iv

set_option maxHeartbeats 4000000
namespace Iv
open PySem PySem.Spec PyProof.Rows L2
variable [Ct] [Nm]
theorem cells_above : ∀ (names : List (Str × NameKind)) (n : Nat) (acc : List (Str × Addr)) (m : Nat), m ≤ n → (∀ q ∈ acc, m ≤ q.2) → ∀ q ∈ cellsFrom n names acc, m ≤ q.2
  | [], _, acc, m, _, h, q, hq => h q hq
  | (x, k) :: r, n, acc, m, hn, h, q, hq => by
    unfold cellsFrom at hq
    cases k with
    | cell =>
      refine cells_above r (n + 1) ((x, n) :: acc) m (by omega) (fun q' hq' => ?_) q hq
      rcases List.mem_cons.mp hq' with rfl | hq'
      · exact hn
      · exact h q' hq'
    | _ => exact cells_above r n acc m hn h q hq
section
variable {P : Program} {w : World} {K : PySem.W.Frag} {mg : Str → Option Value} {base : Heap}
/-- a def that makes a def keeps its promise -/
theorem dfn_ok {wh : Wh} (hw : WhOk wh) {F : FT} {gl : Str → Option Gv} {k : Nat} (G : Glb P w K mg base gl F k) {x : Str} {d : Df} {fd : FuncData} (n : Nat) (U : FunD K x x (defArgs d.st) (defBody d.st) (defScope d.st) [] [] (He.ga K x) fd) (Sc : FnScope d.N d.ps (defScope d.st)) {nd : Nd} (hnd : d.nd = some nd) (I : NdIn x d nd)
    (TB : LamX.TabB base mg (He.cT K (x, none)).1 (He.cT K (x, none)).2) (hTm : (He.cT K (x, none)).2 ∈ Nm.tabs) (hnm : ∀ l c, Nm.nm (He.cT K (x, none)).2 l c = nd.q) :
    FnOkS P w K mg base (k + 1) (He.ga K x) fd d.ps (spI K d.ps.length (runDf wh F gl n d)) d.gd := by
  obtain ⟨oc, od, dV, kV, doc, pm, an, cdv, ct, osl, rfl, lk, hcd, _, _⟩ := U.ex
  refine fn_ofS lk hcd Sc (fun outer s vs H Q E h => h.1) (fun A outer s H vs Q E hr hgd e0 h => ?_)
  obtain ⟨hl, β, Oo, vs1, rs, cv, st, r, st', rfl, av, nf, hcv, hb, hO, bg, tb, hf, q⟩ := h
  have av' : ArgsAt K β Oo H (vs1 ++ cvV cv) (rs ++ cvR cv) := by
    refine args_app av ?_
    cases cv with
    | none => exact .nil
    | some c => exact .cons ⟨(fun _ z => by cases z), rfl, hcv.1⟩ .nil
  unfold runDf at hf
  have hrl : (rs ++ cvR cv).length = d.ps.length := by rw [← paired_length av']; exact hl
  rw [if_pos hrl, hnd] at hf
  let X := (cxOf CX0 P w K mg base d.N x (defScope d.st) (He.ga K x) cdv A outer s H E).nox
  have hNl : d.ps.length ≤ d.N.length := by have := congrArg List.length Sc.pre; rw [List.length_take] at this; omega
  have rel := rel_start (N := d.N) (st := st) av' (by rw [hrl]; exact hNl) hb hO bg tb
  obtain ⟨pos, hst⟩ := I.st
  obtain ⟨c, rfl⟩ := He.codeIn_ref hcd
  have ec : (He.cT K (x, none)).1 = c := He.codeOf_eq (p := (x, none)) lk rfl
  have hfree := NdefX.ndef_free I.free
  have hfr := NdefX.ndef_fr I.free
  have hq : X.env.qual ++ nd.name = nd.q := I.q.symm
  rw [ec] at TB
  have PS1 := NdefX.ps_ndefMS (X := X) (T := Tb0) (nm := Nm.nm (He.cT K (x, none)).2) (name := nd.name) (i := nd.ix) hst TB rfl (List.mem_map_of_mem (f := fun P => (P, Nm.nm P)) hTm) (by rw [hq]; exact hnm _ _) (fun p hp he => by
      obtain ⟨P', _, rfl⟩ := List.mem_map.mp hp
      exact congrArg Nm.nm he) hfree I.d0 I.k0 (I.ann _) Sc.nd I.ix (.inl I.loc) (.inl rfl)
  refine ⟨tSeq (NdefX.tNdefM Tb0 nd.ix (NdefX.NF.of nd.st nd.name (X.env.qual ++ nd.name) (cloFrom X.env.cells (C8.fnScope nd.st).names []))) (Wss X (defBody d.st).tail), ?_, ?_⟩
  · have := PSs.nox (X := cxOf CX0 P w K mg base d.N x (defScope d.st) (He.ga K x) (.ref c) A outer s H E) (pss_cons PS1 (wss_pss X (defBody d.st).tail))
    rw [← I.hd] at this
    exact this
  refine ⟨tb, fun fa c' H1 eN nn T1 f0 f1 c1 => ?_⟩
  have hq' : (NdefX.NF.of nd.st nd.name (X.env.qual ++ nd.name) (cloFrom X.env.cells (C8.fnScope nd.st).names []) c').qual = nd.q := hq
  have hf := uni_ok hf fa _ hq'
  obtain ⟨⟨o, env', st1⟩, e1, hf⟩ := fin_some hf
  have sb : SB β H H1 := ⟨fun a o _ t e => eN a o e (fun ps z => by rw [z] at t; cases t), fun a _ e => nn a e, fun _ => T1⟩
  have bg1 : BagAt β H1 st := bg.mono fun b o hb' e => by
    obtain ⟨g, s', _, e2⟩ := bg.get hb'
    rw [e2] at e
    cases e
    exact eN _ _ e2 (fun ps z => by cases z)
  have rel1 := rel.step sb bg1
  have rel2 := rel1.put (v := .ref fa) (x := .fnc fa (NdefX.NF.of nd.st nd.name (X.env.qual ++ nd.name) (cloFrom X.env.cells (C8.fnScope nd.st).names []) c') [] []) nd.ix ⟨rfl, (fun z => by obtain ⟨o, e, _⟩ := hO fa (hb fa z); rw [f0] at e; cases e), (fun z => by
      obtain ⟨g, s', _, e2⟩ := bg1.get z
      have c1' : H1 c' = _ := c1
      have e2' : H1 c' = _ := e2
      rw [c1'] at e2'
      cases e2'), f1, c1, .nil⟩ (fun _ z => by cases z)
  have C : CxS F { N := d.N, sc := defScope d.st, gl := gl, made := [.fnc fa (NdefX.NF.of nd.st nd.name (X.env.qual ++ nd.name) (cloFrom X.env.cells (C8.fnScope nd.st).names []) c') [] []], cap := nd.cap, nest := some nd.name, tks := d.tks, rks := d.rks } X := {
    N := rfl
    sc := rfl
    calm := rfl
    nd := Sc.nd
    hu := by
      have h1 := hr.un
      show (A.deeper (envOfC x (defScope d.st) s.heap.objs.size (He.ga K x) (.ref c))).units + 65 < cLine
      omega
    fn := fun _ _ => rfl
    cel := fun _ h => by cases h
    gl := fun y g e => gl_of G rfl rfl rfl rfl rfl hr y g e
    xe := rfl
    kind := Sc.kind
    clo := fun _ _ _ _ h => by cases h
    mad := fun f' F' hm => by
      have e := List.mem_singleton.mp hm
      cases e
      refine ⟨nd, c', by rw [hq']; exact I.nds, rfl, fun ok => ⟨fun y cc ey => ?_, NdefX.Caps.made ok hfree hfr I.cap⟩⟩
      have hf' : ∀ y ∈ (C8.fnScope nd.st).names, y.2 = .free → ∃ c, X.env.cells.lookup y.1 = some c := fun y hy e => (hfree y hy e).elim (fun z => ok.has _ (.inl z)) fun z => ok.has _ (.inr z)
      have ec2 := NdefX.clo_cm hf' ey
      have ab : s.heap.objs.size + 1 ≤ cc := cells_above (defScope d.st).names (s.heap.objs.size + 1) [] _ (Nat.le_refl _) (fun _ h => by cases h) (y, cc) (PySem.mem_of_lookup ec2)
      intro hm
      have hm : cc ∈ s.heap.objs.size :: frs outer := hm
      rcases List.mem_cons.mp hm with e | hm
      · rw [e] at ab
        exact Nat.not_succ_le_self _ ab
      · obtain ⟨_, o', ho, _⟩ := Heap.FunFrames.mem e0.funs hm
        exact Nat.lt_irrefl _ (Nat.lt_of_lt_of_le (Heap.lt_size ho) (Nat.le_of_succ_le ab))
    gd := fun h => by cases h }
  refine (ev_ok hw n).s C (defBody d.st).tail rel2 e1 ?_
  cases o with
  | rt r' =>
    cases hf
    exact fun v H' s1 b1 r1 => q v H' s1 b1 r1
  | nx => cases hf; exact fun σ' H' O' r1 s1 => q _ H' r1.sb r1.bag .non
  | bk => cases hf
  | ct => cases hf
end
end Iv

set_option maxHeartbeats 4000000
namespace Iv
open PySem PySem.Spec PyProof.Rows L2
/-! ### the table of a text -/
structure Tbl where
  dfs : List (Str × Df)
  csts : List (Str × Sum Int Str)
  tups : List (Str × List (Sum Int Str)) := []
  blts : List Str
  nfs : List (Str × Nd) := []
def cstD : Sum Int Str → D
  | .inl i => .int i
  | .inr z => .str z
def cstFa (x : Str) : Sum Int Str → He.Fa
  | .inl i => .int x i
  | .inr z => .str x z
def cstDv : Sum Int Str → He.Dv
  | .inl i => .int i
  | .inr z => .str z
def Tbl.gl (T : Tbl) (x : Str) : Option Gv := match T.dfs.lookup x with
  | some d => some (if d.gd then .fnG else .fn)
  | none => (match T.csts.lookup x with
    | some c => some (.cst (cstD c))
    | none => (match T.tups.lookup x with
      | some cs => some (.cst (.tuple (cs.map cstD)))
      | none => if x ∈ T.blts then some .blt else none))
variable [Ct] [Nm]
noncomputable def Tbl.F (T : Tbl) (wh : Wh) (n : Nat) : Nat → FT
  | 0 => fun _ _ _ => none
  | k + 1 => fun x rs st => match T.dfs.lookup x with
    | some d => (match d.ext with
      | none => runDf wh (T.F wh n k) T.gl n d rs st
      | some g => if rs.length = d.ps.length && decide (g.1 ≤ k + 1) then g.2 rs st else none)
    | none => (T.nfs.lookup x).bind fun nd => runNd wh (T.F wh n k) T.gl n nd rs st
def Tbl.fa (T : Tbl) : List He.Fa := T.dfs.map (fun p => .glo p.1) ++ (T.csts.map (fun p => cstFa p.1 p.2) ++ (T.tups.map (fun p => .glo p.1) ++ T.blts.map .free))
def toD (p : Str × Df) : He.DefD := ⟨(p.1, none), p.1, p.1, defArgs p.2.st, defBody p.2.st, defScope p.2.st, [], []⟩
def Tbl.fn (T : Tbl) : List He.DefD := T.dfs.map toD
/-- the defs that make a def -/
def Tbl.tf (T : Tbl) : List He.Defn := T.dfs.filterMap fun p => if p.2.nd.isSome then some (p.1, none) else none
def Tbl.ex (T : Tbl) (K : PySem.W.Frag) : Bool := T.tups.all fun p => He.tupB K p.1 (p.2.map cstDv)
theorem lookup_at {β : Type} : ∀ {l : List (Str × β)} {x : Str} {d : β}, l.lookup x = some d → ∃ i : Nat, l[i]? = some (x, d)
  | (y, e) :: l, x, d, h => by
    rw [List.lookup_cons] at h
    by_cases q : x == y
    · rw [q] at h; cases h; exact ⟨0, by rw [eq_of_beq q]; rfl⟩
    · simp only [q] at h
      obtain ⟨i, hi⟩ := lookup_at h
      exact ⟨i + 1, by simpa using hi⟩
theorem rp_csts {K : PySem.W.Frag} {H : Hp} : ∀ cs : List (Sum Int Str), RpAll K H ((cs.map cstDv).map (He.Dv.v K)) (cs.map cstD)
  | [] => .nil
  | .inl i :: cs => .cons (.int i) (rp_csts cs)
  | .inr z :: cs => .cons (.str z) (rp_csts cs)
structure DefB (d : Df) : Prop where
  sc : FnScope d.N d.ps (defScope d.st)
  bi : ∀ (x : Str) (kV doc pm : Value) (an : Option Addr) (cdv ct : Value) (us : List Value), us.length = d.ps.length → bindArgs (PySem.W.fnOf x x (defArgs d.st) (defBody d.st) (defScope d.st) .none kV doc pm an cdv ct) ⟨us, []⟩ = pure (d.ps.zip us)
/-- all that is asked of a table: each def's scope, each made def -/
structure TblOk (T : Tbl) : Prop where
  df : ∀ p ∈ T.dfs, DefB p.2
  nd : ∀ p ∈ T.dfs, ∀ nd, p.2.nd = some nd → NdIn p.1 p.2 nd
  ct : ∀ p ∈ T.tups, p.2.map cstD ∈ Ct.cts
  nf : ∀ q nd, Nm.nds q = some nd → T.nfs.lookup q = some nd ∧ T.dfs.lookup q = none ∧ NdOk nd
/-- what is asked of the defs that are told by hand -/
def Tbl.ExtOk (T : Tbl) (P : Program) (w : World) (K : PySem.W.Frag) (mg : Str → Option Value) (base : Heap) (wh : Wh) (n : Nat) : Prop := ∀ x d g, T.dfs.lookup x = some d → d.ext = some g → ∀ k fd, (∀ j, j ≤ k → Glb P w K mg base T.gl (T.F wh n j) j) → FunD K x x (defArgs d.st) (defBody d.st) (defScope d.st) [] [] (He.ga K x) fd → Binds K fd d.ps [] →
  g.1 ≤ k + 1 → FnOkS P w K mg base (k + 1) (He.ga K x) fd d.ps (spI K d.ps.length g.2) d.gd
section
variable {T : Tbl} {wh : Wh} {P : Program} {w : World} {K : PySem.W.Frag} {mg : Str → Option Value} {base h : Heap}
theorem fact_of (c : He.SaysD T.fa T.fn K) {f : He.Fa} (hf : f ∈ T.fa) : f.ok K = true := by
  obtain ⟨i, hi⟩ := List.getElem?_of_mem hf
  exact c.fact i hi
theorem tf_mem {p : Str × Df} (hp : p ∈ T.dfs) {nd : Nd} (h : p.2.nd = some nd) : ((p.1, none) : He.Defn) ∈ T.tf := by
  unfold Tbl.tf
  rw [List.mem_filterMap]
  exact ⟨p, hp, by rw [h]; rfl⟩
theorem gl_fn {x : Str} (e : T.gl x = some .fn) : ∃ d, T.dfs.lookup x = some d ∧ d.gd = false := by
  unfold Tbl.gl at e
  split at e
  · rename_i d ed
    refine ⟨d, ed, ?_⟩
    cases q : d.gd with
    | false => rfl
    | true => rw [q] at e; cases e
  · split at e
    · cases e
    · split at e
      · cases e
      · split at e <;> cases e
theorem gl_fnG {x : Str} (e : T.gl x = some .fnG) : ∃ d, T.dfs.lookup x = some d ∧ d.gd = true := by
  unfold Tbl.gl at e
  split at e
  · rename_i d ed
    refine ⟨d, ed, ?_⟩
    cases q : d.gd with
    | true => rfl
    | false => rw [q] at e; cases e
  · split at e
    · cases e
    · split at e
      · cases e
      · split at e <;> cases e
theorem Tbl.glb1 (hw : WhOk wh) (hok : TblOk T) (c : He.SaysD T.fa T.fn K) (ce : T.ex K = true) (X : K.In h) (G : h.Ns mainGlobals mg) (TB : ∀ p ∈ T.tf, LamX.TabB base mg (He.cT K p).1 (He.cT K p).2) (hT : ∀ p ∈ T.tf, (He.cT K p).2 ∈ Nm.tabs) (hN : ∀ p ∈ T.dfs, ∀ nd, p.2.nd = some nd → ∀ l c, Nm.nm (He.cT K (p.1, none)).2 l c = nd.q) (n k : Nat) (hx : T.ExtOk P w K mg base wh n)
    (prev : ∀ j, j < k → Glb P w K mg base T.gl (T.F wh n j) j) : Glb P w K mg base T.gl (T.F wh n k) k := by
  have fn1 : ∀ (x : Str) (d : Df), T.dfs.lookup x = some d → ∃ f fd ps, mg x = some (.ref f) ∧ PySem.W.keepIn K (.ref f) = true ∧ Binds K fd ps [] ∧ FnOkS P w K mg base k f fd ps (spI K ps.length (T.F wh n k x)) d.gd ∧ ∀ rs st r, T.F wh n k x rs st = some r → rs.length = ps.length := fun x d ed => by
    obtain ⟨i, hi⟩ := lookup_at ed
    have hm := List.mem_of_getElem? hi
    have g := He.glo_ok X G (fact_of c (f := .glo x) (by unfold Tbl.fa; simp only [List.mem_append, List.mem_map]; exact .inl ⟨(x, d), hm, rfl⟩))
    obtain ⟨fd, U⟩ := c.def_ i (d := toD (x, d)) (by unfold Tbl.fn; rw [List.getElem?_map, hi]; rfl)
    have U : FunD K x x (defArgs d.st) (defBody d.st) (defScope d.st) [] [] (He.ga K x) fd := U
    have ok := hok.df _ hm
    have b : Binds K fd d.ps [] := U.bindsN fun kV doc pm an cdv ct us hl => ok.bi x kV doc pm an cdv ct us hl
    refine ⟨He.ga K x, fd, d.ps, g, U.kp, b, ?_, ?_⟩
    · cases k with
      | zero =>
        refine ⟨fun outer s vs H Q E z => z.1, fun A outer s H args us vs Q E hr _ he hb hv z => ?_⟩
        obtain ⟨_, β, Oo, vs1, rs, cv, st, r, st', _, _, _, _, _, _, _, _, z, _⟩ := z
        cases z
      | succ k =>
        cases hext : d.ext with
        | some g =>
          have o := hx x d g ed hext k fd (fun j hj => prev j (by omega)) U b
          refine ⟨fun outer s vs H Q E z => z.1, fun A outer s H args us vs Q E hr hgd he hb hv z => ?_⟩
          obtain ⟨z0, β, Oo, vs1, rs, cv, st, r, st', z1, z2, z3, z4, z5, z6, z7, z8, z9, z10⟩ := z
          have e : T.F wh n (k + 1) x (rs ++ cvR cv) st = if (rs ++ cvR cv).length = d.ps.length && decide (g.1 ≤ k + 1) then g.2 (rs ++ cvR cv) st else none := by
            show (match T.dfs.lookup x with
              | some d => (match d.ext with
                | none => runDf wh (T.F wh n k) T.gl n d (rs ++ cvR cv) st
                | some g => if (rs ++ cvR cv).length = d.ps.length && decide (g.1 ≤ k + 1) then g.2 (rs ++ cvR cv) st else none)
              | none => (T.nfs.lookup x).bind fun nd => runNd wh (T.F wh n k) T.gl n nd (rs ++ cvR cv) st) = _
            rw [ed]
            simp only [hext]
          rw [e] at z9
          obtain ⟨c, z9⟩ := ite_one z9
          rw [Bool.and_eq_true] at c
          exact (o (of_decide_eq_true c.2)).run A outer s H args us vs Q E hr hgd he hb hv ⟨z0, β, Oo, vs1, rs, cv, st, r, st', z1, z2, z3, z4, z5, z6, z7, z8, z9, z10⟩
        | none =>
        have e : T.F wh n (k + 1) x = runDf wh (T.F wh n k) T.gl n d := by
          funext rs st
          show (match T.dfs.lookup x with
            | some d => (match d.ext with
      | none => runDf wh (T.F wh n k) T.gl n d rs st
      | some g => if rs.length = d.ps.length && decide (g.1 ≤ k + 1) then g.2 rs st else none)
            | none => (T.nfs.lookup x).bind fun nd => runNd wh (T.F wh n k) T.gl n nd rs st) = _
          rw [ed]
          simp only [hext]
        rw [e]
        cases hnd : d.nd with
        | none => exact df_ok hw (prev k (Nat.lt_succ_self k)) n U ok.sc hnd
        | some nd => exact dfn_ok hw (prev k (Nat.lt_succ_self k)) n U ok.sc hnd (hok.nd _ hm nd hnd) (TB _ (tf_mem hm hnd)) (hT _ (tf_mem hm hnd)) (hN _ hm nd hnd)
    · intro rs st r z
      cases k with
      | zero => cases z
      | succ k =>
        have z : (match T.dfs.lookup x with
            | some d => (match d.ext with
      | none => runDf wh (T.F wh n k) T.gl n d rs st
      | some g => if rs.length = d.ps.length && decide (g.1 ≤ k + 1) then g.2 rs st else none)
            | none => (T.nfs.lookup x).bind fun nd => runNd wh (T.F wh n k) T.gl n nd rs st) = some r := z
        rw [ed] at z
        simp only at z
        split at z
        · unfold runDf at z
          split at z
          · rename_i q; exact q
          · cases z
        · obtain ⟨c, z⟩ := ite_one z
          rw [Bool.and_eq_true] at c
          exact of_decide_eq_true c.1
  exact {
    blt := fun x e => by
      unfold Tbl.gl at e
      split at e
      · split at e <;> cases e
      · split at e
        · cases e
        · split at e
          · cases e
          · split at e
            · rename_i hm
              exact He.free_ok X G (fact_of c (f := .free x) (by unfold Tbl.fa; simp [hm]))
            · cases e
    cst := fun x d e => by
      unfold Tbl.gl at e
      split at e
      · split at e <;> cases e
      · split at e
        · rename_i cc ec
          cases e
          obtain ⟨i, hi⟩ := lookup_at ec
          have hm : cstFa x cc ∈ T.fa := by
            unfold Tbl.fa
            simp only [List.mem_append, List.mem_map]
            exact .inr (.inl ⟨(x, cc), List.mem_of_getElem? hi, rfl⟩)
          have f := fact_of c hm
          cases cc with
          | inl j => obtain ⟨t, ht⟩ := He.int_ok X G f; exact ⟨.int j, _, ht, ⟨t, rfl⟩, fun _ => .int j⟩
          | inr z => obtain ⟨t, ht⟩ := He.str_ok X G f; exact ⟨.str z, _, ht, ⟨t, rfl⟩, fun _ => .str z⟩
        · split at e
          · rename_i cs ec
            cases e
            obtain ⟨i, hi⟩ := lookup_at ec
            have hm := List.mem_of_getElem? hi
            have g := He.glo_ok X G (fact_of c (f := .glo x) (by unfold Tbl.fa; simp only [List.mem_append, List.mem_map]; exact .inr (.inr (.inl ⟨(x, cs), hm, rfl⟩))))
            have tb := List.all_eq_true.mp ce _ hm
            exact ⟨.ref (He.ga K x), _, g, rfl, fun H => .tup (He.tupB_ok tb H) (rp_csts cs) (.inr (hok.ct _ hm))⟩
          · split at e <;> cases e
    fn := fun x e => by
      obtain ⟨d, ed, eg⟩ := gl_fn e
      obtain ⟨f, fd, ps, h1, h2, h3, h4, h5⟩ := fn1 x d ed
      rw [eg] at h4
      exact ⟨f, fd, ps, h1, h2, h3, h4, h5⟩
    fnG := fun x e => by
      obtain ⟨d, ed, eg⟩ := gl_fnG e
      obtain ⟨f, fd, ps, h1, h2, h3, h4, h5⟩ := fn1 x d ed
      rw [eg] at h4
      exact ⟨f, fd, ps, h1, h2, h3, h4, h5⟩
    nf := fun q nd e f cl cc => by
      obtain ⟨h1, h2, h3⟩ := hok.nf q nd e
      cases k with
      | zero =>
        refine ⟨⟨fun ws vs H Q E z => z.1, fun A outer s H us vs ws Q E _ _ _ _ _ _ z => ?_⟩, fun rs st r z => by cases z⟩
        obtain ⟨_, β, Oo, rs, ws, ds, st, r, st', _, _, _, _, _, _, _, z, _⟩ := z
        cases z
      | succ k =>
        have e : T.F wh n (k + 1) q = runNd wh (T.F wh n k) T.gl n nd := by
          funext rs st
          show (match T.dfs.lookup q with
                | some d => (match d.ext with
      | none => runDf wh (T.F wh n k) T.gl n d rs st
      | some g => if rs.length = d.ps.length && decide (g.1 ≤ k + 1) then g.2 rs st else none)
                | none => (T.nfs.lookup q).bind fun nd => runNd wh (T.F wh n k) T.gl n nd rs st) = _
          rw [h2, h1]; rfl
        rw [e]
        refine ⟨nd_ok hw (prev k (Nat.lt_succ_self k)) n h3 q f cl cc, fun rs st r z => ?_⟩
        unfold runNd at z
        split at z
        · rename_i q; exact q
        · cases z }
theorem Tbl.glb (hw : WhOk wh) (hok : TblOk T) (c : He.SaysD T.fa T.fn K) (ce : T.ex K = true) (X : K.In h) (G : h.Ns mainGlobals mg) (TB : ∀ p ∈ T.tf, LamX.TabB base mg (He.cT K p).1 (He.cT K p).2) (hT : ∀ p ∈ T.tf, (He.cT K p).2 ∈ Nm.tabs) (hN : ∀ p ∈ T.dfs, ∀ nd, p.2.nd = some nd → ∀ l c, Nm.nm (He.cT K (p.1, none)).2 l c = nd.q) (n : Nat) (hx : T.ExtOk P w K mg base wh n) : ∀ k, Glb P w K mg base T.gl (T.F wh n k) k := fun k => by
  induction k using Nat.strongRecOn with
  | ind k ih => exact Tbl.glb1 hw hok c ce X G TB hT hN n k hx ih
/-- the law's own promise, from what the evaluator says of every script -/
def spL (K : PySem.W.Frag) (m : Nat) : Sp := fun vs H Q _ => ∃ (a : Addr) (ns : List Int), vs = [.ref a] ∧ ScAt K none (fun _ => False) H a ns ∧ ns.length ≤ m ∧ NdefX.TabsN Tb0 H ∧ ∀ H', Q (.bl true) H'
/-- what is asked of the law's def alone: to run where it is called first -/
def LawRun (P : Program) (w : World) (K : PySem.W.Frag) (mg : Str → Option Value) (base : Heap) (k : Nat) (f : Addr) (fd : FuncData) (ps : List Str) (sp : Sp) : Prop := ∀ (s : Shared) (H : Hp) (args : Args) (us : List Value) (vs : List V) (Q : VK) (E : XK), Room k callerA → Env0 P w K mg base callerA [] s H → BindsTo s fd args (ps.zip us) → Vals vs us → sp vs H Q E →
    codeAny (model P w) callerA (.call (.ref f) args) (CR CX0 [] P w H s Q E) s
theorem Tbl.law (hw : WhOk wh) (hok : TblOk T) (c : He.SaysD T.fa T.fn K) (ce : T.ex K = true) (X : K.In h) (G : h.Ns mainGlobals mg) (hT : ∀ p ∈ T.tf, (He.cT K p).2 ∈ Nm.tabs) (hN : ∀ p ∈ T.dfs, ∀ nd, p.2.nd = some nd → ∀ l c, Nm.nm (He.cT K (p.1, none)).2 l c = nd.q) (n k m : Nat) {f : Addr} (hfa : mg ("law" : Str) = some (.ref f)) {d : Df} (hl : T.dfs.lookup ("law" : Str) = some d) (hnd : d.nd = none) (hext : d.ext = none) (hps : d.ps = [("script" : Str)])
    (ans : ∀ ns : List Int, ns.length ≤ m → T.F wh n k ("law" : Str) [.scr ns] none = some (.fz (.bool true), none)) :
    ∃ fd : FuncData, (∀ (s : Shared) (v : Value), BindsTo s fd ⟨[v], []⟩ [("script", v)]) ∧ ∀ base : Heap, K.In base → base.Ns mainGlobals mg → (∀ p ∈ T.tf, LamX.TabB base mg (He.cT K p).1 (He.cT K p).2) → T.ExtOk P w K mg base wh n → LawRun P w K mg base k f fd ["script"] (spL K m) := by
  have ex : ∃ fd, FunD K "law" "law" (defArgs d.st) (defBody d.st) (defScope d.st) [] [] (He.ga K "law") fd := by
    obtain ⟨i, hi⟩ := lookup_at hl
    exact c.def_ i (d := toD ("law", d)) (by unfold Tbl.fn; rw [List.getElem?_map, hi]; rfl)
  obtain ⟨i, hi⟩ := lookup_at hl
  have hm := List.mem_of_getElem? hi
  have g := He.glo_ok X G (fact_of c (f := .glo "law") (by unfold Tbl.fa; simp only [List.mem_append, List.mem_map]; exact .inl ⟨("law", d), hm, rfl⟩))
  have ef := hfa.symm.trans g
  cases ef
  obtain ⟨fd, U⟩ := ex
  have ok := hok.df _ hm
  have bA := U.bindsA (ps := d.ps) fun kV doc pm an cdv ct us hl => ok.bi "law" kV doc pm an cdv ct us hl
  refine ⟨fd, fun s v => by have := bA s [v] (by rw [hps]; rfl); rw [hps] at this; exact this, fun base _ _ TB hx => ?_⟩
  cases k with
  | zero => exact absurd (ans [] (Nat.zero_le _)) (fun z => by cases z)
  | succ k =>
    have o := df_ok hw (Tbl.glb hw hok c ce X G TB hT hN n hx k) (P := P) (w := w) (base := base) n U ok.sc hnd
    rw [← hps]
    refine fun s H args us vs Q E hr he hb hv z => o.run callerA [] s H args us vs Q E hr (fun _ => rfl) he hb hv ?_
    obtain ⟨a, ns, rfl, hS, hlen, tbs, q⟩ := z
    refine ⟨by rw [hps]; rfl, none, fun _ => False, [.ref a], [.scr ns], none, none, .fz (.bool true), none, rfl, .cons ⟨(fun _ z => by cases z), a, rfl, hS⟩ .nil, (fun _ _ _ _ z => by simp at z), trivial, (fun _ z => by cases z), (fun _ z => z.elim), rfl, tbs, ?_, fun v H' _ _ r => ?_⟩
    · have e := ans ns hlen
      have e' : (match T.dfs.lookup ("law" : Str) with
                | some d => (match d.ext with
      | none => runDf wh (T.F wh n k) T.gl n d [.scr ns] none
      | some g => if ([R.scr ns]).length = d.ps.length && decide (g.1 ≤ k + 1) then g.2 [.scr ns] none else none)
                | none => (T.nfs.lookup ("law" : Str)).bind fun nd => runNd wh (T.F wh n k) T.gl n nd [.scr ns] none) = some (.fz (.bool true), none) := e
      rw [hl] at e'
      simp only [hext] at e'
      exact e'
    · cases r
      exact q H'
theorem sc_of {K : PySem.W.Frag} {H : Hp} {a : Addr} {ns : List Int} (h : SqL K H a (ns.map V.int)) : ScAt K none (fun _ => False) H a ns := by
  rcases h with (h | ⟨o, h⟩) | h
  · exact .inr (.inr ⟨(fun z => by cases z), fz_put (fun z => z) h rfl⟩)
  · exact .inl ⟨(fun z => by cases z), o, h⟩
  · exact .inr (.inl fun H' => .inr h)
end
end Iv

set_option maxHeartbeats 4000000
namespace Iv
open PySem PySem.Spec PyProof.Rows L2 LamX
/-! ### the end, from a run of the law's def where it is called first -/
section
variable {P : Program} {w : World} {K : PySem.W.Frag} {mg mb : Str → Option Value} {k : Nat} {fa a : Addr} {cs : List (Addr × Addr)} {fd : FuncData} {x : Str} {sp : Sp} {s1 : Shared} {vs : List Value} {ns : List Int}
/-- the tables that are empty yet -/
def EmptyT (h : Heap) (cs : List (Addr × Addr)) : Prop := ∀ p ∈ cs, h.get? p.2 = some { cls := .none, data := .fields #[] }
/-- tracked: the script, or such a table -/
structure Trk (H : Hp) (a : Addr) (cs : List (Addr × Addr)) : Prop where
  tb : ∀ p ∈ cs, H p.2 = some (.tbl #[])
  kd : ∀ b, H b = none ∨ b ∈ cs.map (·.2) ∨ ∃ o xs, H b = some (.frz o (.lst xs))
  on : ∀ b, H b ≠ none → b = a ∨ b ∈ cs.map (·.2)
theorem at_table (hT : EmptyT s1.heap cs) {b : Addr} (h : b ∈ cs.map (·.2)) : s1.heap.get? b = some { cls := .none, data := .fields #[] } := by
  obtain ⟨p, hp, rfl⟩ := List.mem_map.mp h
  exact hT p hp
theorem untracked {H : Hp} (T : Trk H a cs) (hT : EmptyT s1.heap cs) (ha : s1.heap.get? a = some { cls := .type "list", data := .seq vs.toArray }) {b : Addr} {o : Obj} (e : s1.heap.get? b = some o) (h1 : ∀ us n, o.data ≠ .seq us n) (h2 : o.data ≠ .fields #[]) : H b = none := by
  cases q : H b with
  | none => rfl
  | some u =>
    exfalso
    rcases T.on b (by rw [q]; simp) with rfl | z
    · rw [ha] at e; cases e; exact h1 _ _ rfl
    · rw [at_table hT z] at e; cases e; exact h2 rfl
theorem run_first {H : Hp} (T : Trk H a cs) (KX : K.In s1.heap) (hns : s1.heap.Ns mainGlobals mg) (hb : s1.heap.Ns builtinsNs mb) (hbb : ∀ x : Str, x ≠ "__name__" → mb x = bootBuiltins x) (hlim : s1.heap.NoLimit) (hg : s1.gens = #[])
    (hT : EmptyT s1.heap cs) (nT : ∀ p ∈ cs, K.lookup p.2 = none) (C : ∀ p ∈ cs, PySem.W.CodeHd s1.heap p.1 p.2)
    (hbm : ∃ (bm : Addr) (ob : Obj), mg "__builtins__" = some (.ref bm) ∧ bm ≠ builtinsNs ∧ s1.heap.get? bm = some ob ∧ ob.cls = .type "module" ∧ ob.dict = some builtinsNs ∧ ob.data = .plain)
    (ha : s1.heap.get? a = some { cls := .type "list", data := .seq vs.toArray }) (hr : Room k callerA)
    (F : ∀ base : Heap, K.In base → base.Ns mainGlobals mg → (∀ p ∈ cs, TabB base mg p.1 p.2) → LawRun P w K mg base k fa fd [x] sp) (hbind : ∀ (s : Shared) (u : Value), BindsTo s fd ⟨[u], []⟩ [(x, u)])
    (hsp : sp [.ref a] H (fun v _ => v = .bl true) fun _ _ _ => False) (hok : HOk P w H s1.heap) (hK : H a ≠ none → K.lookup a = none) :
    codeAny (model P w) callerA (.call (.ref fa) ⟨[.ref a], []⟩) (fun r s' => r = .ok (.ret (.bool true)) ∧ OldK s1.heap s'.heap ∧ s'.os = s1.os ∧ AllBare s'.gens) s1 := by
  have put : ∀ {b : Addr} {o : Obj}, s1.heap.get? b = some o → H b = none → (hidT s1.heap H).get? b = some o := fun e n => hidT_get e n
  have nsK : ∀ {b : Addr} {m : Str → Option Value}, s1.heap.Ns b m → (hidT s1.heap H).Ns b m := fun {b m} ⟨o, es, ep, e, d, r⟩ =>
    ⟨o, es, ep, put e (untracked T hT ha e (fun us n z => by rw [d] at z; cases z) fun z => by rw [d] at z; cases z), d, r⟩
  have kIn : K.In (hidT s1.heap H) := fun b o e => by
    refine put (KX b o e) ?_
    cases q : H b with
    | none => rfl
    | some u =>
      exfalso
      rcases T.on b (by rw [q]; simp) with rfl | z
      · rw [hK (by rw [q]; simp)] at e; cases e
      · obtain ⟨p, hp, rfl⟩ := List.mem_map.mp z
        rw [nT p hp] at e; cases e
  have md : L2.Mod K mg (hidT s1.heap H) := ⟨kIn, nsK hns, ⟨mb, nsK hb, hbb⟩, let ⟨mc, h1, h2⟩ := hlim; ⟨mc, nsK h1, h2⟩⟩
  have tabs : ∀ p ∈ cs, TabB (hidT s1.heap H) mg p.1 p.2 := fun p hp => by
    have hp2 := hT p hp
    refine ⟨?_, ?_, fun z => ?_⟩
    · obtain ⟨o, us, file, tf, flags, tg, inF, text, tt, e1, r1, r2, r3, r4, r5, r6, r7, r8, hne⟩ := C p hp
      refine ⟨o, us, file, tf, flags, tg, inF, text, tt, put e1 (untracked T hT ha e1 (fun _ _ z => by rw [r2] at z; cases z) fun z => ?_), r1, r2, r3, r4, r5, r6, r7, r8, hne⟩
      rw [r2] at z; cases z; simp at r3
    · obtain ⟨bm, ob, b1, b2, b3, b4, b5, b6⟩ := hbm
      refine ⟨bm, ob, b1, b2, fun q => ?_, fun q => ?_, put b3 (untracked T hT ha b3 (fun _ _ z => by rw [b6] at z; cases z) fun z => by rw [b6] at z; cases z), b4, b5, b6⟩
      · obtain ⟨o, es, ep, e, hd, _⟩ := hns
        rw [q, e] at b3; cases b3
        rw [hd] at b6; cases b6
      · rw [q, hp2] at b3; cases b3; cases b6
    · obtain ⟨o, es, ep, e, hd, _⟩ := hns
      rw [z, hp2] at e; cases e; cases hd
  have e0 : Env0 P w K mg (hidT s1.heap H) callerA [] s1 H := ⟨rfl, md, fun b o e => of_hidT e, Nat.le_of_eq (hidT_size _ _), trivial, fun b z => absurd (show b ∈ ([] : List Addr) from z) (by simp), hok, .of_eq hg⟩
  refine codeAny_mono (F _ kIn (nsK hns) tabs s1 H ⟨[.ref a], []⟩ [.ref a] [.ref a] _ _ hr e0 (hbind s1 (.ref a)) (.cons rfl .nil) hsp) fun r s' h => ?_
  cases r with
  | error e => exact (show CX0 [] H s1 (fun _ _ _ => False) e s' from h).elim
  | ok fl =>
    cases fl with
    | next => exact False.elim h
    | brk => exact False.elim h
    | cont => exact False.elim h
    | ret u =>
      obtain ⟨v, H', os, bare, un, hok', r', q⟩ := h
      have q : v = .bl true := q
      subst q
      obtain rfl : u = Value.bool true := r'
      have stays : ∀ b o, b ∉ cs.map (·.2) → s1.heap.get? b = some o → s'.heap.get? b = some o := fun b o nb e => by
        rcases T.kd b with z | z | ⟨ob, xs, z⟩
        · exact un.keep b o e z (fun y => absurd (show b ∈ ([] : List Addr) from y) (by simp)) (by simp)
        · exact absurd z nb
        · obtain ⟨e1, _⟩ := hok b _ z
          obtain ⟨e2, _⟩ := hok' b _ (un.frzs b ob _ z)
          rw [e] at e1; cases e1
          exact e2
      have grown : ∀ p ∈ cs, ∃ more : Array Value, s'.heap.get? p.2 = some { cls := .none, data := .fields more } := fun p hp => by
        obtain ⟨more, z⟩ := un.tbls p.2 #[] (T.tb p hp)
        exact ⟨_, hok' p.2 _ z⟩
      refine ⟨rfl, ⟨fun b o e => ?_, fun b o e => ?_⟩, os, bare⟩
      · by_cases z : b ∈ cs.map (·.2)
        · obtain ⟨p, hp, rfl⟩ := List.mem_map.mp z
          obtain ⟨more, hm⟩ := grown p hp
          rw [hT p hp] at e; cases e
          exact .inr (.inl ⟨((C p hp).tab (hT p hp)).isCodeTable, rfl, #[], more, rfl, by rw [Array.empty_append]; exact hm⟩)
        · exact .inl (stays b o z e)
      · by_cases z : b ∈ cs.map (·.2)
        · obtain ⟨p, hp, rfl⟩ := List.mem_map.mp z
          exact ⟨_, (grown p hp).choose_spec⟩
        · exact ⟨o, stays b o z e⟩
theorem law_first (KX : K.In s1.heap) (hns : s1.heap.Ns mainGlobals mg) (hb : s1.heap.Ns builtinsNs mb) (hbb : ∀ x : Str, x ≠ "__name__" → mb x = bootBuiltins x) (hlim : s1.heap.NoLimit) (hg : s1.gens = #[])
    (hT : EmptyT s1.heap cs) (nT : ∀ p ∈ cs, K.lookup p.2 = none) (C : ∀ p ∈ cs, PySem.W.CodeHd s1.heap p.1 p.2)
    (hbm : ∃ (bm : Addr) (ob : Obj), mg "__builtins__" = some (.ref bm) ∧ bm ≠ builtinsNs ∧ s1.heap.get? bm = some ob ∧ ob.cls = .type "module" ∧ ob.dict = some builtinsNs ∧ ob.data = .plain)
    (ha : s1.heap.get? a = some { cls := .type "list", data := .seq vs.toArray }) (hi : IntsAre vs ns) (hl : ns.length ≤ sizeLine) (hr : Room k callerA)
    (F : ∀ base : Heap, K.In base → base.Ns mainGlobals mg → (∀ p ∈ cs, TabB base mg p.1 p.2) → LawRun P w K mg base k fa fd [x] sp) (hbind : ∀ (s : Shared) (u : Value), BindsTo s fd ⟨[u], []⟩ [(x, u)])
    (hsp : ∀ H : Hp, (∀ p ∈ cs, H p.2 = some (.tbl #[])) → SqL K H a (ns.map V.int) → sp [.ref a] H (fun v _ => v = .bl true) fun _ _ _ => False) :
    codeAny (model P w) callerA (.call (.ref fa) ⟨[.ref a], []⟩) (fun r s' => r = .ok (.ret (.bool true)) ∧ OldK s1.heap s'.heap ∧ s'.os = s1.os ∧ AllBare s'.gens) s1 := by
  have rv := vals_ints hi
  have lenV := hi.length
  have aT : a ∉ cs.map (·.2) := fun z => by
    have q := at_table (s1 := s1) hT z
    rw [ha] at q
    have z' : Data.seq vs.toArray _ = Data.fields #[] := congrArg Obj.data (Option.some.inj q)
    cases z'
  have memT : ∀ p ∈ cs, p.2 ∈ cs.map (·.2) := fun p hp => List.mem_map.mpr ⟨p, hp, rfl⟩
  have go := fun (H : Hp) (T : Trk H a cs) (hS : SqL K H a (ns.map V.int)) => run_first (P := P) (w := w) (fa := fa) (vs := vs) T KX hns hb hbb hlim hg hT nT C hbm ha hr F hbind (hsp H T.tb hS)
  cases hk : K.lookup a with
  | some o =>
    have e := KX a o hk
    rw [ha] at e
    cases e
    have un : ∀ b, b ∉ cs.map (·.2) → (if b ∈ cs.map (·.2) then some (HO.tbl #[]) else none) = none := fun b z => if_neg z
    refine go (fun b => if b ∈ cs.map (·.2) then some (.tbl #[]) else none) ⟨fun p hp => if_pos (memT p hp), fun b => ?_, fun b z => ?_⟩ (.inr ⟨_, vs.toArray, _, hk, rfl, rfl, rfl, by rw [List.size_toArray, lenV]; exact hl, by simpa using rv⟩) (fun b u z => ?_) fun z => absurd (un a aT) z
    · by_cases q : b ∈ cs.map (·.2)
      · exact .inr (.inl q)
      · exact .inl (un b q)
    · by_cases q : b ∈ cs.map (·.2)
      · exact .inr q
      · exact absurd (un b q) z
    · by_cases q : b ∈ cs.map (·.2)
      · have z' := (if_pos q).symm.trans z
        cases z'
        exact at_table hT q
      · have z' := (un b q).symm.trans z
        cases z'
  | none =>
    let O : HO := .frz { cls := .type "list", data := .seq vs.toArray } (.lst (ns.map V.int))
    refine go (fun b => if b = a then some O else if b ∈ cs.map (·.2) then some (.tbl #[]) else none) ⟨fun p hp => ?_, fun b => ?_, fun b z => ?_⟩ (.inl (.inr ⟨_, if_pos rfl⟩)) (fun b u z => ?_) fun _ => hk
    · exact (if_neg (show ¬ p.2 = a from fun z => aT (by rw [← z]; exact memT p hp))).trans (if_pos (memT p hp))
    · by_cases q : b = a
      · exact .inr (.inr ⟨_, _, if_pos q⟩)
      · by_cases q2 : b ∈ cs.map (·.2)
        · exact .inr (.inl q2)
        · exact .inl ((if_neg q).trans (if_neg q2))
    · by_cases q : b = a
      · exact .inl q
      · by_cases q2 : b ∈ cs.map (·.2)
        · exact .inr q2
        · exact absurd ((if_neg q).trans (if_neg q2)) z
    · by_cases q : b = a
      · have z' := (if_pos q).symm.trans z
        cases z'
        rw [q]
        exact ⟨ha, by rw [List.length_map]; exact hl, vs, _, rv, ha⟩
      · have z1 := (if_neg q).symm.trans z
        by_cases q2 : b ∈ cs.map (·.2)
        · have z' := (if_pos q2).symm.trans z1
          cases z'
          exact at_table hT q2
        · have z' := (if_neg q2).symm.trans z1
          cases z'
end
/-- what is to be shown of a law -/
def LawAtR (l : PySem.W.OpenLaw) (w : World) (K : PySem.W.Frag) (k n : Nat) (x : Str) (mg : Str → Option Value) (fa : Addr) (h : Heap) : Prop :=
  ∃ (fd : FuncData) (cs : List (Addr × Addr)) (sp : Sp), EmptyT h cs ∧ (∀ p ∈ cs, K.lookup p.2 = none) ∧ (∀ p ∈ cs, PySem.W.CodeHd h p.1 p.2) ∧ (∀ (s : Shared) (u : Value), BindsTo s fd ⟨[u], []⟩ [(x, u)]) ∧
    (∀ (H : Hp) (a : Addr) (ns : List Int), ns.length ≤ n → (∀ p ∈ cs, H p.2 = some (.tbl #[])) → SqL K H a (ns.map V.int) → sp [.ref a] H (fun v _ => v = .bl true) fun _ _ _ => False) ∧
    ∀ base : Heap, K.In base → base.Ns mainGlobals mg → (∀ p ∈ cs, TabB base mg p.1 p.2) → LawRun l.prog w K mg base k fa fd [x] sp
theorem walk_first {l : PySem.W.OpenLaw} {n k : Nat} {q : Program} {loose : List Str} {XP : (Str → Option Value) → Heap → Prop} {YP : World → Heap → Prop} {d : DefRec} {x : Str}
    (hn : l.most = some n) (hn2 : n ≤ sizeLine) (hdf : d.params.defaults = []) (hr : Room k callerA)
    (F : ∀ (w : World) (mg : Str → Option Value) (fa : Addr) (h : Heap), YP w h → h.Ns mainGlobals mg → mg d.name = some (.ref fa) → ∃ K : PySem.W.Frag, K.In h ∧ LawAtR l w K k n x mg fa h) :
    PySem.W.WalkO q loose XP YP l.row.toRowW d [] (fun f vs => PySem.call f vs) := by
  refine Att.attach_callB hn hdf fun w s0 s1 mg mb fa o pm cd doc a vs ns G Y ho hd hcd hmg hobj hints hlen hbits hg => ?_
  obtain ⟨K, KX, fd, cs, sp, hT, nT, C, hb, hsp, hF⟩ := F w mg fa _ Y G.T.g hmg
  exact law_first KX G.T.g G.T.b G.T.builtins G.T.nolimit hg hT nT C G.T.bmain hobj hints (Nat.le_trans hlen hn2) hr hF hb fun H hH hS => hsp H a ns hlen hH hS
end Iv

set_option maxHeartbeats 4000000
namespace Iv
open PySem PySem.Spec PyProof.Rows L2
variable [Ct] [Nm]
/-! ### the evaluator's terms in short: what a def comes to -/
def vE (i : Nat) (env : Env') (st : BSt) : Option (R × BSt) := match env[i]? with
  | some (some (.fz d)) => some (.fz d, st)
  | some (some .bag) => some (.bag, st)
  | some (some (.scr ns)) => some (.scr ns, st)
  | _ => none
def vV (i : Nat) (env : Env') (st : BSt) : Option (D × BSt) := match env[i]? with
  | some (some (.fz d)) => some (d, st)
  | some (some (.ow d)) => some (d, st)
  | _ => none
def kE (d : D) (_ : Env') (st : BSt) : Option (R × BSt) := some (.fz d, st)
def kV' (d : D) (_ : Env') (st : BSt) : Option (D × BSt) := some (d, st)
def ixS (i : Nat) (g : VF) (env : Env') (st : BSt) : Option (R × BSt) := match env[i]? with
  | some (some .bag) => (g env st).bind fun p => (match p.2, p.1 with
    | some b, .int 0 => some (.fz (.int b.1), p.2)
    | some b, .int 1 => some (.fz (.int b.2), p.2)
    | _, _ => none)
  | some (some (.scr ns)) => (g env st).bind fun p => (match p.1 with
    | .int i => (atI ns i).map fun n => (.fz (.int n), p.2)
    | _ => none)
  | _ => none
def lenS (i : Nat) (env : Env') (st : BSt) : Option (R × BSt) := match env[i]? with
  | some (some (.scr ns)) => some (.fz (.int ns.length), st)
  | _ => none
def remS (i : Nat) (f : VF) (env : Env') (st : BSt) : Option (Out × Env' × BSt) := (f env st).bind fun q => (match env[i]? with
    | some (some (.ow (.list ds))) => if SeqAt.shaped (.list ds) && SeqAt.shaped q.1 then (idxD ds q.1).map fun j => (.nx, env.set i (some (.ow (.list (ds.eraseIdx j)))), q.2) else none
    | _ => none)
def appS (i : Nat) (f : EF) (env : Env') (st : BSt) : Option (Out × Env' × BSt) := (f env st).bind fun p => p.1.d?.bind fun d => (match env[i]? with
    | some (some (.ow (.list ds))) => if decide (ds.length < sizeLine) then some (.nx, env.set i (some (.ow (.list (ds ++ [d])))), p.2) else none
    | _ => none)
def setS (i : Nat) (f : EF) (g : VF) (env : Env') (st : BSt) : Option (Out × Env' × BSt) := (f env st).bind fun p => p.1.d?.bind fun d => (g env p.2).bind fun q => (match env[i]? with
    | some (some (.ow (.list ds))) => (match q.1 with
      | .int k => (ixN ds.length k).map fun j => (.nx, env.set i (some (.ow (.list (ds.set j d)))), q.2)
      | _ => none)
    | some (some (.ow (.dict kds))) => (keyOf q.1).bind fun k => if decide (kds.length < sizeLine) && plainK kds then some (.nx, env.set i (some (.ow (.dict (putD kds k d)))), q.2) else none
    | some (some .bag) => (match q.2, q.1, d with
      | some b, .int 0, .int n => some (.nx, env, some (n, b.2))
      | some b, .int 1, .int n => some (.nx, env, some (b.1, n))
      | _, _, _ => none)
    | _ => none)
def retS (i : Nat) (f : SF) (env : Env') (st : BSt) : Option (Out × Env' × BSt) := match env[i]? with
    | some (some (.ow d)) => some (.rt (.ow d), env, st)
    | _ => f env st
def swS (n : Nat) (f : EF) (g1 g2 : VF) (env : Env') (st : BSt) : Option (Out × Env' × BSt) := (f env st).bind fun p => (match p.1.d? with
    | some (.tuple [d1, d2]) => (g1 env p.2).bind fun q1 => (match env[n]? with
      | some (some (.ow (.list ds))) => (match q1.1 with
        | .int k1 => (ixN ds.length k1).bind fun j1 => (g2 (env.set n (some (.ow (.list (ds.set j1 d1))))) q1.2).bind fun q2 => (match q2.1 with
          | .int k2 => (ixN ds.length k2).map fun j2 => (.nx, env.set n (some (.ow (.list ((ds.set j1 d1).set j2 d2)))), q2.2)
          | _ => none)
        | _ => none)
      | _ => none)
    | _ => none)
def runM (m n : Nat) (f : SF) (rs : List R) (st : BSt) : Option (R × BSt) :=
  if rs.length = m then (f (rs.map some ++ List.replicate (n - rs.length) none) st).bind fun p => (match p.1 with
      | .rt r => some (r, p.2.2)
      | .nx => some (.fz .none, p.2.2)
      | _ => none)
  else none
end Iv

set_option maxHeartbeats 4000000
namespace Iv
open PySem PySem.Spec PyProof.Rows L2
variable [Ct] [Nm]
/-! ### what comes out, told by what is wanted of it -/
def wp {α : Type} (o : Option α) (Q : α → Prop) : Prop := ∃ a, o = some a ∧ Q a
section
variable {α β : Type}
theorem wp_some {a : α} {Q : α → Prop} : wp (some a) Q ↔ Q a := ⟨fun ⟨_, h, q⟩ => (by cases h; exact q), fun q => ⟨a, rfl, q⟩⟩
theorem wp_none {Q : α → Prop} : wp none Q ↔ False := ⟨fun ⟨_, h, _⟩ => (by cases h), fun h => h.elim⟩
theorem wp_bind {o : Option α} {f : α → Option β} {Q : β → Prop} : wp (o.bind f) Q ↔ wp o fun a => wp (f a) Q := by
  cases o with
  | none => exact ⟨fun ⟨_, h, _⟩ => (by cases h), fun ⟨_, h, _⟩ => (by cases h)⟩
  | some a => exact ⟨fun h => ⟨a, rfl, h⟩, fun ⟨b, h, q⟩ => (by cases h; exact q)⟩
theorem wp_map {o : Option α} {f : α → β} {Q : β → Prop} : wp (o.map f) Q ↔ wp o fun a => Q (f a) := by
  cases o with
  | none => exact ⟨fun ⟨_, h, _⟩ => (by cases h), fun ⟨_, h, _⟩ => (by cases h)⟩
  | some a => exact ⟨fun ⟨_, h, q⟩ => ⟨a, rfl, (by cases h; exact q)⟩, fun ⟨b, h, q⟩ => by cases h; exact ⟨_, rfl, q⟩⟩
theorem wp_mono {o : Option α} {P Q : α → Prop} (h : wp o P) (q : ∀ a, P a → Q a) : wp o Q := let ⟨a, e, p⟩ := h; ⟨a, e, q a p⟩
theorem wp_eq {o : Option α} {Q : α → Prop} {a : α} (h : o = some a) (q : Q a) : wp o Q := ⟨a, h, q⟩
theorem wp_get {o : Option α} {a : α} (h : wp o fun b => b = a) : o = some a := by obtain ⟨b, e, rfl⟩ := h; exact e
theorem wp_if {c : Prop} [Decidable c] {a b : Option α} {Q : α → Prop} : wp (if c then a else b) Q ↔ (if c then wp a Q else wp b Q) := by split <;> exact Iff.rfl
end
/-! ### statements -/
theorem wp_seq {f g : SF} {env : Env'} {st : BSt} {Q : Out × Env' × BSt → Prop} (h : wp (f env st) fun p => match p.1 with | .nx => wp (g p.2.1 p.2.2) Q | o => Q (o, p.2)) : wp (seqS f g env st) Q := by
  obtain ⟨⟨o, env1, st1⟩, e, q⟩ := h
  unfold seqS
  rw [e]
  cases o with
  | nx => exact q
  | _ => exact ⟨_, rfl, q⟩
theorem wp_frz {is : List Nat} {f : SF} {env : Env'} {st : BSt} {Q : Out × Env' × BSt → Prop} : wp (frzS is f env st) Q ↔ wp (f (frzs is env) st) Q := Iff.rfl
theorem wp_ifs {c : TF} {f g : SF} {env : Env'} {st : BSt} {Q : Out × Env' × BSt → Prop} (h : wp (c env st) fun p => if p.1 then wp (f env p.2) Q else wp (g env p.2) Q) : wp (ifS c f g env st) Q := by
  obtain ⟨⟨b, s1⟩, e, q⟩ := h
  unfold ifS
  rw [e]
  cases b <;> exact q
theorem wp_run {m n : Nat} {f : SF} {rs : List R} {st : BSt} {Q : R × BSt → Prop} (hl : rs.length = m) (h : wp (f (rs.map some ++ List.replicate (n - rs.length) none) st) fun p => match p.1 with | .rt r => Q (r, p.2.2) | .nx => Q (.fz .none, p.2.2) | _ => False) : wp (runM m n f rs st) Q := by
  obtain ⟨⟨o, env1, st1⟩, e, q⟩ := h
  unfold runM
  rw [if_pos hl, e]
  cases o with
  | rt r => exact ⟨_, rfl, q⟩
  | nx => exact ⟨_, rfl, q⟩
  | _ => exact q.elim
/-- a loop that keeps something; it may end the def -/
theorem wp_forL {g : GF} {f : SF} {I : Nat → Env' → BSt → Prop} {Q : Out × Env' × BSt → Prop} : ∀ (ds : List D) (j : Nat) (env : Env') (st : BSt), I j env st →
    (∀ i d env st, ds[i]? = some d → I (j + i) env st → ∃ env1, g d env = some env1 ∧ wp (f env1 st) fun p => match p.1 with | .nx => I (j + i + 1) p.2.1 p.2.2 | .ct => I (j + i + 1) p.2.1 p.2.2 | .bk => Q (.nx, p.2) | .rt r => Q (.rt r, p.2)) →
    (∀ env st, I (j + ds.length) env st → Q (.nx, env, st)) → wp (forL g f ds env st) Q
  | [], j, env, st, h, _, q => ⟨_, rfl, q _ _ h⟩
  | d :: ds, j, env, st, h, hb, q => by
    obtain ⟨e1, h1, ⟨o, e2, s2⟩, h2, h3⟩ := hb 0 d env st rfl h
    have ih := fun (h : I (j + 1) e2 s2) => wp_forL ds (j + 1) e2 s2 (Q := Q) h (fun i d env st hd hI => by
      have := hb (i + 1) d env st (by simpa using hd) (by rw [show j + (i + 1) = j + 1 + i by omega]; exact hI)
      rw [show j + (i + 1) + 1 = j + 1 + i + 1 by omega] at this
      exact this) (fun env st hI => q env st (by rw [List.length_cons, show j + (ds.length + 1) = j + 1 + ds.length by omega]; exact hI))
    unfold forL
    simp only [h1, Option.bind_some, h2]
    cases o with
    | nx => exact ih h3
    | ct => exact ih h3
    | bk => exact ⟨_, rfl, h3⟩
    | rt r => exact ⟨_, rfl, h3⟩
theorem wp_for {i : IF} {g : GF} {f : SF} {env : Env'} {st : BSt} {I : Nat → Env' → BSt → Prop} {Q : Out × Env' × BSt → Prop} {ds : List D} {st1 : BSt} (hi : i env st = some (ds, st1)) (h0 : I 0 env st1)
    (hb : ∀ i d env st, ds[i]? = some d → I i env st → ∃ env1, g d env = some env1 ∧ wp (f env1 st) fun p => match p.1 with | .nx => I (i + 1) p.2.1 p.2.2 | .ct => I (i + 1) p.2.1 p.2.2 | .bk => Q (.nx, p.2) | .rt r => Q (.rt r, p.2))
    (q : ∀ env st, I ds.length env st → Q (.nx, env, st)) : wp (forF i g f env st) Q := by
  unfold forF
  rw [hi]
  exact wp_forL ds 0 env st1 h0 (fun i d env st hd hI => by
    rw [Nat.zero_add] at hI ⊢
    exact hb i d env st hd hI) (fun env st hI => q env st (by rw [Nat.zero_add] at hI; exact hI))
/-- a comprehension that keeps something -/
theorem wp_lcL {g : GF} {t : TF} {e : EF} {env0 : Env'} {I : Nat → List D → BSt → Prop} {Q : List D × BSt → Prop} : ∀ (ds : List D) (j : Nat) (acc : List D) (st : BSt), I j acc st → acc.length + ds.length ≤ sizeLine →
    (∀ i d acc st, ds[i]? = some d → I (j + i) acc st → ∃ env1, g d env0 = some env1 ∧ wp (t env1 st) fun p => if p.1 then wp (e env1 p.2) fun q => ∃ x, q.1.d? = some x ∧ I (j + i + 1) (acc ++ [x]) q.2 else I (j + i + 1) acc p.2) →
    (∀ acc st, I (j + ds.length) acc st → Q (acc, st)) → wp (lcLoop g t e env0 ds acc st) Q
  | [], j, acc, st, h, _, _, q => ⟨_, rfl, q _ _ h⟩
  | d :: ds, j, acc, st, h, hl, hb, q => by
    obtain ⟨e1, h1, ⟨b, s1⟩, h2, h3⟩ := hb 0 d acc st rfl h
    have hl' : acc.length + (ds.length + 1) ≤ sizeLine := hl
    have ih := fun (acc' : List D) (s2 : BSt) (hl2 : acc'.length ≤ acc.length + 1) (h : I (j + 1) acc' s2) => wp_lcL ds (j + 1) acc' s2 (Q := Q) h (by omega) (fun i d acc st hd hI => by
      have := hb (i + 1) d acc st (by simpa using hd) (by rw [show j + (i + 1) = j + 1 + i by omega]; exact hI)
      rw [show j + (i + 1) + 1 = j + 1 + i + 1 by omega] at this
      exact this) (fun acc st hI => q acc st (by rw [List.length_cons, show j + (ds.length + 1) = j + 1 + ds.length by omega]; exact hI))
    unfold lcLoop
    simp only [h1, Option.bind_some, h2]
    cases b with
    | true =>
      obtain ⟨⟨r, s2⟩, h4, x, h5, h6⟩ := h3
      simp only [if_true, h4, Option.bind_some, h5]
      rw [if_pos (decide_eq_true (by omega))]
      exact ih _ _ (by simp) h6
    | false => exact ih _ _ (by omega) h3
theorem wp_lc {i : IF} {own : List Nat} {g : GF} {t : TF} {e : EF} {env : Env'} {st : BSt} {I : Nat → List D → BSt → Prop} {Q : R × BSt → Prop} {ds : List D} {st1 : BSt} (hi : i env st = some (ds, st1)) (hl : ds.length ≤ sizeLine) (h0 : I 0 [] st1)
    (hb : ∀ i d acc st, ds[i]? = some d → I i acc st → ∃ env1, g d (wipeE env own) = some env1 ∧ wp (t env1 st) fun p => if p.1 then wp (e env1 p.2) fun q => ∃ x, q.1.d? = some x ∧ I (i + 1) (acc ++ [x]) q.2 else I (i + 1) acc p.2)
    (q : ∀ acc st, I ds.length acc st → Q (.ow (.list acc), st)) : wp (lcF i own g t e env st) Q := by
  unfold lcF
  rw [hi]
  simp only [Option.bind_some]
  rw [wp_map]
  exact wp_lcL ds 0 [] st1 h0 (by simpa using hl) (fun i d acc st hd hI => by
    rw [Nat.zero_add] at hI ⊢
    exact hb i d acc st hd hI) (fun acc st hI => q acc st (by rw [Nat.zero_add] at hI; exact hI))
theorem ar_nil' (env : Env') (st : BSt) : argsF [] env st = some ([], st) := rfl
theorem ar_cons' (f : EF) (fs : List EF) (env : Env') (st : BSt) : argsF (f :: fs) env st = (f env st).bind fun p => (argsF fs env p.2).map fun q => (p.1.down :: q.1, q.2) := rfl
theorem ds_nil : dsOf [] = some [] := rfl
theorem ds_fz (d : D) (rs : List R) : dsOf (.fz d :: rs) = (dsOf rs).map (d :: ·) := by
  simp only [dsOf]
theorem lenOk_of {n : Nat} (h : n ≤ 16777216) : lenOk n = true := decide_eq_true (by rw [sizeLine_eq]; exact h)
theorem range_i {f : VF} {env : Env'} {st st1 : BSt} {n : Int} (hf : f env st = some (.int n, st1)) (h0 : 0 ≤ n) (h1 : n < 1000000) : rangeF f env st = some (rangeD n.toNat, st1) := by
  unfold rangeF
  rw [hf]
  simp only [Option.bind_some]
  rw [if_pos]
  rw [Bool.and_eq_true]
  exact ⟨decide_eq_true (by omega), decide_eq_true (by omega)⟩
theorem range_get {n i : Nat} {d : D} (h : (rangeD n)[i]? = some d) : d = .int (i : Nat) ∧ i < n := by
  unfold rangeD at h
  rw [List.getElem?_map] at h
  obtain ⟨j, h1, h2⟩ := map1 h
  have := List.getElem?_eq_some_iff.mp h1
  obtain ⟨h3, h4⟩ := this
  rw [List.getElem_range] at h4
  rw [List.length_range] at h3
  subst h4
  exact ⟨h2.symm, h3⟩
theorem wp_fl {g : GF} {f : SF} {env : Env'} {st : BSt} {ds : List D} {Q : Out × Env' × BSt → Prop} (I : Nat → Env' → BSt → Prop) (h0 : I 0 env st)
    (hb : ∀ i d env st, ds[i]? = some d → I i env st → ∃ env1, g d env = some env1 ∧ wp (f env1 st) fun p => match p.1 with | .nx => I (i + 1) p.2.1 p.2.2 | .ct => I (i + 1) p.2.1 p.2.2 | .bk => Q (.nx, p.2) | .rt r => Q (.rt r, p.2))
    (q : ∀ env st, I ds.length env st → Q (.nx, env, st)) : wp (forL g f ds env st) Q :=
  wp_forL ds 0 env st h0 (fun i d env st hd hI => by
    rw [Nat.zero_add] at hI ⊢
    exact hb i d env st hd hI) (fun env st hI => q env st (by rw [Nat.zero_add] at hI; exact hI))
theorem wp_forI {i : IF} {g : GF} {f : SF} {env : Env'} {st : BSt} {Q : Out × Env' × BSt → Prop} (h : wp (i env st) fun p => wp (forL g f p.1 env p.2) Q) : wp (forF i g f env st) Q := by
  unfold forF; rw [wp_bind]; exact h
theorem wp_lcI {i : IF} {own : List Nat} {g : GF} {t : TF} {e : EF} {env : Env'} {st : BSt} {Q : R × BSt → Prop} (h : wp (i env st) fun p => wp (lcLoop g t e (wipeE env own) p.1 [] p.2) fun q => Q (.ow (.list q.1), q.2)) : wp (lcF i own g t e env st) Q := by
  unfold lcF; rw [wp_bind]; exact wp_mono h fun p hp => by rw [wp_map]; exact hp
theorem wp_ll {g : GF} {t : TF} {e : EF} {env0 : Env'} {st : BSt} {ds : List D} {Q : List D × BSt → Prop} (I : Nat → List D → BSt → Prop) (h0 : I 0 [] st) (hl : ds.length ≤ 16777216)
    (hb : ∀ i d acc st, ds[i]? = some d → I i acc st → ∃ env1, g d env0 = some env1 ∧ wp (t env1 st) fun p => if p.1 then wp (e env1 p.2) fun q => ∃ x, q.1.d? = some x ∧ I (i + 1) (acc ++ [x]) q.2 else I (i + 1) acc p.2)
    (q : ∀ acc st, I ds.length acc st → Q (acc, st)) : wp (lcLoop g t e env0 ds [] st) Q :=
  wp_lcL ds 0 [] st h0 (by rw [sizeLine_eq]; simpa using hl) (fun i d acc st hd hI => by
    rw [Nat.zero_add] at hI ⊢
    exact hb i d acc st hd hI) (fun acc st hI => q acc st (by rw [Nat.zero_add] at hI; exact hI))
theorem wp_range {f : VF} {env : Env'} {st : BSt} {Q : List D × BSt → Prop} (h : wp (f env st) fun p => ∃ n : Int, p.1 = .int n ∧ 0 ≤ n ∧ n < 1000000 ∧ Q (rangeD n.toNat, p.2)) : wp (rangeF f env st) Q := by
  obtain ⟨⟨d, s1⟩, e, n, rfl, h0, h1, q⟩ := h
  exact ⟨_, range_i e h0 h1, q⟩
theorem range_len (n : Nat) : (rangeD n).length = n := by simp [rangeD]
end Iv

set_option maxHeartbeats 4000000
namespace Iv
open PySem PySem.Spec PyProof.Rows L2
variable [Ct] [Nm]
/-! ### the bag's block, told by what is wanted of it -/
theorem frz1_len (i : Nat) (env : Env') : (frz1 i env).length = env.length := by
  unfold frz1
  split
  · rw [List.length_set]
  · rfl
theorem frzs_len : ∀ (is : List Nat) (env : Env'), (frzs is env).length = env.length
  | [], _ => rfl
  | i :: is, env => by
    show (frzs is (frz1 i env)).length = _
    rw [frzs_len is, frz1_len]
theorem frz1_get (i j : Nat) (env : Env') : (frz1 i env)[j]? = if i = j then (match env[j]? with | some (some (.ow d)) => some (some (.fz d)) | x => x) else env[j]? := by
  unfold frz1
  split
  · rename_i d e
    by_cases h : i = j
    · subst h
      rw [if_pos rfl, e, List.getElem?_set_self ((List.getElem?_eq_some_iff.mp e).1)]
    · rw [if_neg h, List.getElem?_set_ne h]
  · rename_i h0
    by_cases h : i = j
    · subst h
      rw [if_pos rfl]
      split
      · rename_i d e; exact absurd e (h0 d)
      · rfl
    · rw [if_neg h]
def frzO : Option (Option R) → Option (Option R)
  | some (some (.ow d)) => some (some (.fz d))
  | x => x
theorem frzO_idem (x : Option (Option R)) : frzO (frzO x) = frzO x := by
  rcases x with _ | _ | r
  · rfl
  · rfl
  · cases r <;> rfl
theorem frz1_get' (i j : Nat) (env : Env') : (frz1 i env)[j]? = if i = j then frzO env[j]? else env[j]? := by
  rw [frz1_get]
  split
  · rcases env[j]? with _ | _ | r
    · rfl
    · rfl
    · cases r <;> rfl
  · rfl
theorem frzs_get : ∀ (is : List Nat) (env : Env') (j : Nat), (frzs is env)[j]? = if j ∈ is then frzO env[j]? else env[j]?
  | [], _, _ => by simp [frzs]
  | i :: is, env, j => by
    show (frzs is (frz1 i env))[j]? = _
    rw [frzs_get is, frz1_get']
    by_cases h : i = j
    · subst h
      simp only [if_pos, List.mem_cons_self]
      split
      · exact frzO_idem _
      · rfl
    · rw [if_neg h]
      have : (j ∈ i :: is) ↔ j ∈ is := by
        rw [List.mem_cons]
        exact ⟨fun z => z.elim (fun z => absurd z.symm h) id, .inr⟩
      simp only [this]
theorem frzAll_get (env : Env') (j : Nat) : (frzAll env)[j]? = frzO env[j]? := by
  unfold frzAll
  rw [frzs_get]
  split
  · rfl
  · rename_i h
    rw [List.mem_range] at h
    rw [List.getElem?_eq_none (by omega)]; rfl
theorem frzAll_len (env : Env') : (frzAll env).length = env.length := frzs_len _ _
theorem noOw_frzAll (env : Env') : noOw (frzAll env) = true := by
  unfold noOw
  rw [List.all_eq_true]
  intro x hx
  obtain ⟨j, hj⟩ := List.getElem?_of_mem hx
  rw [frzAll_get] at hj
  rcases e : env[j]? with _ | _ | r
  · rw [e] at hj; cases hj
  · rw [e] at hj; cases hj; rfl
  · rw [e] at hj
    cases r <;> cases hj <;> rfl
theorem frzAll_id {env : Env'} (h : noOw env = true) : frzAll env = env := by
  refine List.ext_getElem? fun j => ?_
  rw [frzAll_get]
  rcases e : env[j]? with _ | _ | r
  · rfl
  · rfl
  · cases r with
    | ow d => exact (noOw_ok h e).elim
    | _ => rfl
/-- what is kept from cell to cell: the script in its slot, no list of one's own, no bag -/
structure Cell (ns : List Int) (m : Nat) (env : Env') : Prop where
  len : env.length = m
  scr : env[0]? = some (some (.scr ns))
  ow : noOw env = true
  bag : env.all noBagS = true
theorem Cell.set {ns : List Int} {m : Nat} {env : Env'} (h : Cell ns m env) {i : Nat} (hi : i ≠ 0) (d : D) : Cell ns m (env.set i (some (.fz d))) := by
  refine ⟨by rw [List.length_set]; exact h.len, by rw [List.getElem?_set_ne hi]; exact h.scr, ?_, ?_⟩
  · unfold noOw
    rw [List.all_eq_true]
    intro x hx
    rcases List.mem_or_eq_of_mem_set hx with hx | rfl
    · exact List.all_eq_true.mp h.ow x hx
    · rfl
  · rw [List.all_eq_true]
    intro x hx
    rcases List.mem_or_eq_of_mem_set hx with hx | rfl
    · exact List.all_eq_true.mp h.bag x hx
    · rfl
theorem cell_after {ns : List Int} {m : Nat} {env : Env'} (hl : env.length = m) (h0 : env[0]? = some (some (.scr ns))) : Cell ns m ((frzAll env).map unbag) := by
  refine ⟨by rw [List.length_map, frzAll_len]; exact hl, by rw [List.getElem?_map, frzAll_get, h0]; rfl, ?_, ?_⟩
  · unfold noOw
    rw [List.all_map, List.all_eq_true]
    intro x hx
    have := List.all_eq_true.mp (noOw_frzAll env) x hx
    rcases x with _ | r
    · rfl
    · cases r <;> first | rfl | exact this
  · rw [List.all_map, List.all_eq_true]
    intro x hx
    rcases x with _ | r
    · rfl
    · cases r <;> rfl
theorem wp_bag {ns : List Int} {m i : Nat} {f : EF} {g : SF} {env : Env'} {a b : Int} {Q : Out × Env' × BSt → Prop} (C : Cell ns m env) (hf : f env none = some (.ow (.list [.int a, .int b]), none))
    (hg : wp (g (env.set i (some .bag)) (some (a, b))) fun q => q.1 = .nx ∧ q.2.1.length = m ∧ q.2.1[0]? = some (some (.scr ns))) (q : ∀ env, Cell ns m env → Q (.nx, env, none)) : wp (bagF i f g env none) Q := by
  obtain ⟨⟨o, e1, s1⟩, e, ho, hl, h0⟩ := hg
  have ho : o = .nx := ho
  subst ho
  refine ⟨(.nx, (frzAll e1).map unbag, none), ?_, q _ (cell_after hl h0)⟩
  have id1 := frzAll_id C.ow
  unfold bagF
  simp only [id1, C.ow, C.bag, Bool.and_self, if_true]
  rw [hf]
  simp only [Option.bind_some]
  rw [e]
  simp only [Option.bind_some]
  rw [noOw_frzAll]
  rfl
end Iv

set_option maxHeartbeats 4000000
namespace Iv
open PySem PySem.Spec PyProof.Rows L2
/-- no made defs: for the plain mathematics, which asks nothing of it -/
abbrev nmZ : Nm := ⟨fun _ _ _ => "", [], fun _ => none⟩
local instance nmZ_IvX : Iv.Nm := Iv.nmZ
variable [Ct]
/-! ### loops: any end that some number of turns reaches -/
open Classical in
noncomputable def whR : Wh := fun c f env st => if h : ∃ n, (whileN c f n env st).isSome = true then whileN c f (Classical.choose h) env st else none
theorem whR_ok [Ct] [Nm] : WhOk whR := fun c f env st r h => by
  unfold whR at h
  split at h
  · rename_i z; exact ⟨_, h⟩
  · cases h
theorem whileN_up (c : TF) (f : SF) : ∀ (n : Nat) (env : Env') (st : BSt) (r : Out × Env' × BSt), whileN c f n env st = some r → ∀ m, n ≤ m → whileN c f m env st = some r
  | 0, _, _, _, h, _, _ => by cases h
  | n + 1, env, st, r, h, 0, hm => by omega
  | n + 1, env, st, r, h, m + 1, hm => by
    obtain ⟨⟨b, s1⟩, e1, h⟩ := bind1 h
    unfold whileN
    rw [e1]
    cases b with
    | false => exact h
    | true =>
      simp only [if_true] at h
      obtain ⟨⟨o, env1, s2⟩, e2, h⟩ := bind1 h
      simp only [Option.bind_some, if_true, e2]
      cases o with
      | nx => exact whileN_up c f n _ _ _ h m (by omega)
      | ct => exact whileN_up c f n _ _ _ h m (by omega)
      | bk => exact h
      | rt r => exact h
theorem whR_eq {c : TF} {f : SF} {n : Nat} {env : Env'} {st : BSt} {r : Out × Env' × BSt} (h : whileN c f n env st = some r) : whR c f env st = some r := by
  unfold whR
  have ex : ∃ n, (whileN c f n env st).isSome = true := ⟨n, by rw [h]; rfl⟩
  rw [dif_pos ex]
  have hc := Classical.choose_spec ex
  generalize Classical.choose ex = m at hc
  obtain ⟨r', e'⟩ := Option.isSome_iff_exists.mp hc
  have a := whileN_up c f n env st r h (max n m) (Nat.le_max_left _ _)
  have b := whileN_up c f m env st r' e' (max n m) (Nat.le_max_right _ _)
  rw [a] at b
  rw [e', ← b]
variable {st : BSt}
theorem ar_nil (env : Env') (st : BSt) : argsF [] env st = some ([], st) := rfl
theorem ar_cons (f : EF) (fs : List EF) (env : Env') (st : BSt) : argsF (f :: fs) env st = (f env st).bind fun p => (argsF fs env p.2).map fun q => (p.1.down :: q.1, q.2) := rfl
/-! ### single steps -/
theorem d_fz (d : D) : R.d? (.fz d) = some d := rfl
theorem d_ow (d : D) : R.d? (.ow d) = some d := rfl
theorem dn_fz (d : D) : R.down (.fz d) = .fz d := rfl
theorem dn_ow (d : D) : R.down (.ow d) = .fz d := rfl
theorem dn_bag : R.down .bag = .bag := rfl
theorem dn_scr (ns : List Int) : R.down (.scr ns) = .scr ns := rfl
theorem b_of (b : Bool) : boolOf (.bool b) = some b := rfl
theorem l_list (ds : List D) : blD1 .len (.list ds) = some (.fz (.int ds.length)) := rfl
theorem l_tuple (ds : List D) : blD1 .len (.tuple ds) = some (.fz (.int ds.length)) := rfl
theorem l_str {z : Str} (h : z.length ≤ sizeLine) : blD1 .len (.str z) = some (.fz (.int z.length)) := by
  show (if lenOk z.length then _ else none) = _
  exact if_pos (decide_eq_true h)
theorem l_all (bs : List Bool) : blD1 .all (.list (bs.map .bool)) = some (.fz (.bool (bs.all id))) := by
  show (boolsOf _).map _ = _
  have e : ∀ l : List Bool, boolsOf (l.map PyData.bool) = some l := fun l => by
    induction l with
    | nil => rfl
    | cons b l ih => simp [boolsOf, ih]
  rw [e]; rfl
theorem l_listL (ds : List D) : blD1 .list (.list ds) = some (.ow (.list ds)) := rfl
theorem l_listT (ds : List D) : blD1 .list (.tuple ds) = some (.ow (.list ds)) := rfl
theorem l_tupL (ds : List D) : blD1 .tuple (.list ds) = some (.fz (.tuple ds)) := rfl
theorem l_tupT (ds : List D) : blD1 .tuple (.tuple ds) = some (.fz (.tuple ds)) := rfl
theorem l_abs (i : Int) : blD1 .abs (.int i) = some (.fz (.int (if i < 0 then -i else i))) := rfl
theorem c_lt (i j : Int) : cmpD .Lt (.int i) (.int j) = some (decide (i < j)) := rfl
theorem c_le (i j : Int) : cmpD .LtE (.int i) (.int j) = some (decide (i ≤ j)) := rfl
theorem c_gt (i j : Int) : cmpD .Gt (.int i) (.int j) = some (decide (j < i)) := rfl
theorem c_ge (i j : Int) : cmpD .GtE (.int i) (.int j) = some (decide (j ≤ i)) := rfl
theorem sh_int (i : Int) : SeqAt.shaped (.int i) = true := rfl
theorem sh_bool (i : Bool) : SeqAt.shaped (.bool i) = true := rfl
theorem sh_str {i : Str} (h : PyData.strOk i = true) : SeqAt.shaped (.str i) = true := by
  show (PyData.strOk i && _) = true
  rw [h]; rfl
theorem c_eqI (i j : Int) : cmpD .Eq (.int i) (.int j) = some (i == j) := rfl
theorem c_neI (i j : Int) : cmpD .NotEq (.int i) (.int j) = some (!(i == j)) := rfl
theorem c_eqS {i j : Str} (hi : PyData.strOk i = true) (hj : PyData.strOk j = true) : cmpD .Eq (.str i) (.str j) = some (i == j) := by
  show (if SeqAt.shaped (.str i) && SeqAt.shaped (.str j) then some (PyData.eqv (.str i) (.str j)) else none) = _
  rw [sh_str hi, sh_str hj]; rfl
theorem c_inS (c : Nat) (z : Str) : cmpD .In (.str ⟨#[c]⟩) (.str z) = some (decide (c ∈ z.cps.toList)) := rfl
theorem c_niS (c : Nat) (z : Str) : cmpD .NotIn (.str ⟨#[c]⟩) (.str z) = some (!decide (c ∈ z.cps.toList)) := rfl
theorem i_list (ds : List D) : itemsD (.list ds) = some ds := rfl
theorem i_tuple (ds : List D) : itemsD (.tuple ds) = some ds := rfl
theorem i_str (z : Str) : itemsD (.str z) = some (signsD z) := rfl
theorem x_list (ds : List D) (i : Int) : ixD (.list ds) (.int i) = atI ds i := rfl
theorem x_tuple (ds : List D) (i : Int) : ixD (.tuple ds) (.int i) = atI ds i := rfl
theorem y_list (ds : List D) (a b : Option Int) : slD (.list ds) a b = some (.ow (.list (cutL ds a b))) := rfl
theorem y_tuple (ds : List D) (a b : Option Int) : slD (.tuple ds) a b = some (.fz (.tuple (cutL ds a b))) := rfl
/-! ### comprehensions over plain data -/
theorem lc_map {g : GF} {e : EF} {env0 : Env'} {x : D → D} : ∀ (ds acc : List D), (∀ d ∈ ds, ∃ env1 r, g d env0 = some env1 ∧ e env1 st = some (r, st) ∧ r.d? = some (x d)) → acc.length + ds.length ≤ sizeLine →
    lcLoop g yesT e env0 ds acc st = some (acc ++ ds.map x, st)
  | [], acc, _, _ => by simp [lcLoop]
  | d :: ds, acc, h, hl => by
    obtain ⟨env1, r, h1, h2, h3⟩ := h d List.mem_cons_self
    simp only [List.length_cons] at hl
    have ih := lc_map ds (acc ++ [x d]) (fun y hy => h y (List.mem_cons_of_mem _ hy)) (by simp; omega)
    unfold lcLoop
    simp only [h1, yesT, Option.bind_some, if_true, h2, h3]
    rw [if_pos (by simp; omega), ih]
    simp
theorem lc_filter {g : GF} {t : TF} {e : EF} {env0 : Env'} {p : D → Bool} : ∀ (ds acc : List D), (∀ d ∈ ds, ∃ env1, g d env0 = some env1 ∧ t env1 st = some (p d, st) ∧ (∃ r, e env1 st = some (r, st) ∧ r.d? = some d)) → acc.length + ds.length ≤ sizeLine →
    lcLoop g t e env0 ds acc st = some (acc ++ ds.filter p, st)
  | [], acc, _, _ => by simp [lcLoop]
  | d :: ds, acc, h, hl => by
    obtain ⟨env1, h1, h2, r, h3, h4⟩ := h d List.mem_cons_self
    simp only [List.length_cons] at hl
    unfold lcLoop
    simp only [h1, Option.bind_some, h2]
    cases hp : p d with
    | true =>
      simp only [if_true, h3, Option.bind_some, h4]
      rw [if_pos (by simp; omega), lc_filter ds (acc ++ [d]) (fun y hy => h y (List.mem_cons_of_mem _ hy)) (by simp; omega), List.filter_cons_of_pos hp]
      simp
    | false =>
      simp only [Bool.false_eq_true, if_false]
      rw [lc_filter ds acc (fun y hy => h y (List.mem_cons_of_mem _ hy)) (by omega), List.filter_cons_of_neg (by simp [hp])]
theorem lcF_map {i : IF} {own : List Nat} {g : GF} {e : EF} {env : Env'} {ds : List D} (x : D → D) (hi : i env st = some (ds, st)) (h : ∀ d ∈ ds, ∃ env1 r, g d (wipeE env own) = some env1 ∧ e env1 st = some (r, st) ∧ r.d? = some (x d)) (hl : ds.length ≤ sizeLine) :
    lcF i own g yesT e env st = some (.ow (.list (ds.map x)), st) := by
  unfold lcF
  rw [hi]
  simp only [Option.bind_some]
  rw [lc_map ds [] h (by simpa using hl)]
  rfl
theorem lcF_filter {i : IF} {own : List Nat} {g : GF} {t : TF} {e : EF} {env : Env'} {ds : List D} (p : D → Bool) (hi : i env st = some (ds, st)) (h : ∀ d ∈ ds, ∃ env1, g d (wipeE env own) = some env1 ∧ t env1 st = some (p d, st) ∧ (∃ r, e env1 st = some (r, st) ∧ r.d? = some d)) (hl : ds.length ≤ sizeLine) :
    lcF i own g t e env st = some (.ow (.list (ds.filter p)), st) := by
  unfold lcF
  rw [hi]
  simp only [Option.bind_some]
  rw [lc_filter ds [] h (by simpa using hl)]
  rfl
theorem boolsOf_map (l : List Bool) : boolsOf (l.map PyData.bool) = some l := by
  induction l with
  | nil => rfl
  | cons b l ih => simp [boolsOf, ih]
theorem cutL1 {α : Type} (xs : List α) : cutL xs (some 1) none = xs.drop 1 := by
  unfold cutL
  rw [show HT.sIx xs.length 0 (some 1) = min 1 xs.length from HT.sIx_nat xs.length 0 1, HT.sIx_none]
  cases xs with
  | nil => rfl
  | cons x r =>
    have e : min 1 (x :: r).length = 1 := by simp
    rw [e]
    simp
theorem zipD_ints (ns ms : List Int) : zipD (ns.map PyData.int) (ms.map PyData.int) = (List.zip ns ms).map fun p => PyData.tuple [.int p.1, .int p.2] := by
  unfold zipD
  rw [List.zip_map, List.map_map]
  rfl
theorem mod_int (a b : Nat) (h : 0 < b) : binD .Mod (.int a) (.int b) = some (.fz (.int ((a % b : Nat) : Int))) := by
  show (if decide ((0 : Int) < b) then _ else none) = _
  rw [if_pos (decide_eq_true (by omega))]
  rfl
theorem seq_nx {f g : SF} {env env1 : Env'} {st st1 : BSt} (h : f env st = some (.nx, env1, st1)) : seqS f g env st = g env1 st1 := by unfold seqS; rw [h]; rfl
theorem seq_rt {f g : SF} {env env1 : Env'} {st st1 : BSt} {r : R} (h : f env st = some (.rt r, env1, st1)) : seqS f g env st = some (.rt r, env1, st1) := by unfold seqS; rw [h]; rfl
theorem run_rt {m n : Nat} {f : SF} {rs : List R} {st st1 : BSt} {env1 : Env'} {r : R} (hl : rs.length = m) (h : f (rs.map some ++ List.replicate (n - rs.length) none) st = some (.rt r, env1, st1)) : runM m n f rs st = some (r, st1) := by
  unfold runM; rw [if_pos hl, h]; rfl
theorem nat_of {i : Int} (h : 0 ≤ i) : ((i.toNat : Nat) : Int) = i := by omega
theorem lay_strs : ∀ {l : List Str}, (∀ x ∈ l, PyData.strOk x = true) → PyData.canLayAll0 (l.map PyData.str) = true
  | [], _ => rfl
  | x :: l, h => by
    show (PyData.strOk x && PyData.canLayAll0 (l.map PyData.str)) = true
    rw [h x List.mem_cons_self, lay_strs fun y hy => h y (List.mem_cons_of_mem _ hy)]; rfl
theorem dep_strs : ∀ l : List Str, PyData.depthAll (l.map PyData.str) = 0
  | [] => rfl
  | x :: l => by
    show max 0 (PyData.depthAll (l.map PyData.str)) = 0
    rw [dep_strs l]; rfl
theorem sh_strs {l : List Str} (h : ∀ x ∈ l, PyData.strOk x = true) : SeqAt.shaped (.list (l.map PyData.str)) = true := by
  show (PyData.canLayAll0 (l.map PyData.str) && decide (PyData.depthAll (l.map PyData.str) + 1 ≤ 64)) = true
  rw [lay_strs h, dep_strs]; rfl
def hasS (l : List Str) (n : Str) : Bool := l.any fun z => z == n
theorem any_strs (l : List Str) (n : Str) : ((l.map PyData.str).any fun z => PyData.eqv z (.str n)) = hasS l n := by
  unfold hasS
  rw [List.any_map]
  rfl
theorem c_inL {l : List Str} {n : Str} (hn : PyData.strOk n = true) (h : ∀ x ∈ l, PyData.strOk x = true) : cmpD .In (.str n) (.list (l.map PyData.str)) = some (hasS l n) := by
  show (if SeqAt.shaped (.str n) && SeqAt.shaped (.list (l.map PyData.str)) then some ((l.map PyData.str).any fun z => PyData.eqv z (.str n)) else none) = _
  rw [sh_str hn, sh_strs h, any_strs]; rfl
theorem c_niL {l : List Str} {n : Str} (hn : PyData.strOk n = true) (h : ∀ x ∈ l, PyData.strOk x = true) : cmpD .NotIn (.str n) (.list (l.map PyData.str)) = some (!hasS l n) := by
  show (if SeqAt.shaped (.str n) && SeqAt.shaped (.list (l.map PyData.str)) then some (!((l.map PyData.str).any fun z => PyData.eqv z (.str n))) else none) = _
  rw [sh_str hn, sh_strs h, any_strs]; rfl
theorem cut_take {α : Type} (xs : List α) (i : Nat) : cutL xs none (some (i : Int)) = xs.take i := by
  unfold cutL
  rw [HT.sIx_none, HT.sIx_nat]
  simp only [List.drop_zero, Nat.sub_zero]
  rcases Nat.le_total i xs.length with h | h
  · rw [Nat.min_eq_left h]
  · rw [Nat.min_eq_right h, List.take_of_length_le (Nat.le_refl _), List.take_of_length_le h]
theorem cut_drop {α : Type} (xs : List α) (i : Nat) : cutL xs (some (i : Int)) none = xs.drop i := by
  unfold cutL
  rw [HT.sIx_none, HT.sIx_nat]
  rcases Nat.le_total i xs.length with h | h
  · rw [Nat.min_eq_left h, List.take_of_length_le (by rw [List.length_drop]; omega)]
  · rw [Nat.min_eq_right h, List.drop_of_length_le (Nat.le_refl _), List.drop_of_length_le h, List.take_nil]
theorem enumD_mem : ∀ (ds : List D) (n : Nat) {x : D}, x ∈ enumD n ds → ∃ (i : Nat) (d : D), x = .tuple [.int (i : Nat), d] ∧ d ∈ ds
  | d :: ds, n, x, h => by
    rcases List.mem_cons.mp (show x ∈ PyData.tuple [.int (n : Nat), d] :: enumD (n + 1) ds from h) with rfl | h
    · exact ⟨n, d, rfl, List.mem_cons_self⟩
    · obtain ⟨i, e, h1, h2⟩ := enumD_mem ds (n + 1) h
      exact ⟨i, e, h1, List.mem_cons_of_mem _ h2⟩
def bgOk (s : Int × Int) : Prop := 0 ≤ s.2 ∧ s.2 < 2147483647
theorem d_mod {i j : Int} (h : 0 < j) : binD .Mod (.int i) (.int j) = some (.fz (.int (i % j))) := by
  show (if decide (0 < j) then _ else none) = _
  rw [decide_eq_true h]; rfl
theorem lg31 {x : Nat} (h : x < 2147483648) : x.log2 < 31 := by
  by_cases e : x = 0
  · subst e; decide
  · exact (Nat.log2_lt e).mpr h
theorem lg60 {x : Nat} (h : x < 1152921504606846976) : x.log2 < 60 := by
  by_cases e : x = 0
  · subst e; decide
  · exact (Nat.log2_lt e).mpr h
theorem divOk_of {m : Int} (h : 0 < m) (h2 : m < 1152921504606846976) : divOk m = true := by
  have l := lg60 (x := m.natAbs) (by omega)
  unfold divOk
  rw [decide_eq_true h, decide_eq_true (by omega)]; rfl
theorem wp_at {xs : List D} {i : Int} {Q : D → Prop} (h0 : 0 ≤ i) (h1 : i < (xs.length : Int)) (q : ∀ x ∈ xs, Q x) : wp (atI xs i) Q := by
  have hi : i.toNat < xs.length := by omega
  have hx : atI xs i = some xs[i.toNat] := by
    have := atI_nat (xs := xs) (j := i.toNat) (v := xs[i.toNat]) (List.getElem?_eq_getElem hi)
    rw [show ((i.toNat : Nat) : Int) = i from by omega] at this
    exact this
  exact wp_eq hx (q _ (List.getElem_mem hi))
theorem b_add (x y : Int) : binD .Add (.int x) (.int y) = some (.fz (.int (x + y))) := rfl
theorem b_sub (x y : Int) : binD .Sub (.int x) (.int y) = some (.fz (.int (x - y))) := rfl
theorem b_addL {xs ys : List D} (h : xs.length + ys.length ≤ 16777216) : binD .Add (.list xs) (.list ys) = some (.ow (.list (xs ++ ys))) := by
  show (if lenOk _ then _ else none) = _
  rw [lenOk_of h]; rfl
theorem b_addT {xs ys : List D} (h : xs.length + ys.length ≤ 16777216) : binD .Add (.tuple xs) (.tuple ys) = some (.fz (.tuple (xs ++ ys))) := by
  show (if lenOk _ then _ else none) = _
  rw [lenOk_of h]; rfl
end Iv

set_option maxHeartbeats 4000000
namespace Iv
open PySem PySem.Spec PyProof.Rows L2
variable [Ct]
/-! ### fractions as Rat -/
def frD (q : Rat) : D := .tuple [.int q.num, .int (q.den : Int)]
@[irreducible] def pw (n : Nat) : Nat := 2 ^ n
theorem pw_pos (n : Nat) : 0 < pw n := by unfold pw; exact Nat.pow_pos (by omega)
theorem pw_le {m n : Nat} (h : m ≤ n) : pw m ≤ pw n := by unfold pw; exact Nat.pow_le_pow_right (by omega) h
theorem pw_add (m n : Nat) : pw (m + n) = pw m * pw n := by unfold pw; exact Nat.pow_add 2 m n
theorem pw_log {n m : Nat} (h : n < pw m) : n.log2 ≤ m := by
  by_cases h0 : n = 0
  · subst h0; simp
  · unfold pw at h
    exact Nat.le_of_lt ((Nat.log2_lt h0).mpr h)
theorem pw_log' {n m : Nat} (hm : 0 < m) (h : n < pw m) : n.log2 < m := by
  by_cases h0 : n = 0
  · subst h0; simpa using hm
  · unfold pw at h
    exact (Nat.log2_lt h0).mpr h
theorem pw_mul {a b m n : Nat} (ha : a < pw m) (hb : b < pw n) : a * b < pw (m + n) := by
  rw [pw_add]
  exact Nat.mul_lt_mul'' ha hb
theorem mul_big {i j : Int} (hi : i.natAbs < pw 100000) (hj : j.natAbs < pw 100000) : binD .Mult (.int i) (.int j) = some (.fz (.int (i * j))) := by
  show (if mulOk i j then _ else _) = _
  rw [show mulOk i j = true from decide_eq_true (by have := pw_log hi; have := pw_log hj; omega)]
  rfl
theorem div_big {i j : Int} (h : 0 < j) (hj : j.natAbs < pw 8999) : binD .FloorDiv (.int i) (.int j) = some (.fz (.int (i / j))) := by
  show (if divOk j then _ else _) = _
  rw [show divOk j = true from by
    unfold divOk
    rw [Bool.and_eq_true]
    exact ⟨decide_eq_true h, decide_eq_true (by have := pw_log hj; omega)⟩]
  rfl
theorem div_bigN {i j : Int} (h : j < 0) (hj : j.natAbs < pw 8999) : binD .FloorDiv (.int i) (.int j) = some (.fz (.int (i.fdiv j))) := by
  show (if divOk j then _ else if divNeg j then _ else _) = _
  rw [show divOk j = false from by
    unfold divOk
    rw [decide_eq_false (by omega)]; rfl]
  rw [show divNeg j = true from by
    unfold divNeg
    rw [Bool.and_eq_true]
    exact ⟨decide_eq_true h, decide_eq_true (by have := pw_log hj; omega)⟩]
  rfl
theorem mod_big {i j : Int} (h : 0 < j) : binD .Mod (.int i) (.int j) = some (.fz (.int (i % j))) := by
  show (if decide (0 < j) then _ else _) = _
  rw [decide_eq_true h]; rfl
theorem abs_i (i : Int) : blD1 .abs (.int i) = some (.fz (.int (i.natAbs : Int))) := by
  rw [l_abs]
  congr 3
  split <;> omega
def gcdI (t b : Int) : Nat := Nat.gcd t.natAbs b.natAbs
theorem gcdI_pos {t b : Int} (hb : b ≠ 0) : 0 < gcdI t b := Nat.gcd_pos_of_pos_right _ (by omega)
theorem gcdI_le {t b : Int} (hb : b ≠ 0) : gcdI t b ≤ b.natAbs := Nat.gcd_le_right _ (by omega)
theorem gcdI_dl (t b : Int) : ((gcdI t b : Nat) : Int) ∣ t := Int.ofNat_dvd_left.mpr (Nat.gcd_dvd_left _ _)
theorem gcdI_dr (t b : Int) : ((gcdI t b : Nat) : Int) ∣ b := Int.ofNat_dvd_left.mpr (Nat.gcd_dvd_right _ _)
theorem rat_pos {t b : Int} (hb : 0 < b) : frD ((t : Rat) / b) = .tuple [.int (t / (gcdI t b : Nat)), .int (b / (gcdI t b : Nat))] := by
  unfold frD
  rw [← Rat.divInt_eq_div, Rat.num_divInt, Rat.den_divInt, if_neg (by omega)]
  have e : b.gcd t = gcdI t b := by unfold Int.gcd gcdI; exact Nat.gcd_comm _ _
  rw [e, Int.sign_eq_one_of_pos hb, Int.one_mul]
  congr 3
  rw [Int.natCast_ediv]
  congr 2
  rw [show ((b.natAbs : Nat) : Int) = b from by omega]
theorem rat_neg {t b : Int} (hb : b < 0) : frD ((t : Rat) / b) = .tuple [.int (t.fdiv (-(gcdI t b : Nat))), .int (b.fdiv (-(gcdI t b : Nat)))] := by
  have h := rat_pos (t := -t) (b := -b) (by omega)
  have e : gcdI (-t) (-b) = gcdI t b := by unfold gcdI; simp
  have q : ((-t : Int) : Rat) / ((-b : Int) : Rat) = (t : Rat) / b := by
    rw [← Rat.divInt_eq_div, ← Rat.divInt_eq_div, Rat.neg_divInt_neg]
  rw [e, q] at h
  rw [h]
  have g0 := gcdI_pos (t := t) (b := b) (by omega)
  have key : ∀ x : Int, ((gcdI t b : Nat) : Int) ∣ x → (-x) / (gcdI t b : Nat) = x.fdiv (-(gcdI t b : Nat)) := fun x hx => by
    obtain ⟨c, rfl⟩ := hx
    rw [← Int.mul_neg, Int.mul_ediv_cancel_left _ (by omega)]
    rw [show ((gcdI t b : Nat) : Int) * c = -((gcdI t b : Nat) : Int) * (-c) from by rw [Int.neg_mul_neg]]
    rw [Int.mul_fdiv_cancel_left _ (by omega)]
  rw [key t (gcdI_dl t b), key b (gcdI_dr t b)]
theorem rat_eq (q : Rat) : q = (q.num : Rat) / ((q.den : Int) : Rat) := by
  rw [← Rat.divInt_eq_div, Rat.num_divInt_den]
theorem den_ne (q : Rat) : ((q.den : Int) : Rat) ≠ 0 := by
  rw [Ne, Rat.intCast_eq_zero_iff]
  have := q.den_nz
  omega
theorem rat_plus (a b : Rat) : ((a.num * b.den + b.num * a.den : Int) : Rat) / ((a.den * b.den : Int) : Rat) = a + b := by
  have h1 := rat_eq a
  have h2 := rat_eq b
  have d1 := den_ne a
  have d2 := den_ne b
  rw [Rat.intCast_add, Rat.intCast_mul, Rat.intCast_mul, Rat.intCast_mul]
  generalize (a.num : Rat) = x at h1
  generalize (b.num : Rat) = y at h2
  generalize ((a.den : Int) : Rat) = z at h1 d1
  generalize ((b.den : Int) : Rat) = w at h2 d2
  subst h1; subst h2
  grind
theorem rat_minus (a b : Rat) : ((a.num * b.den - b.num * a.den : Int) : Rat) / ((a.den * b.den : Int) : Rat) = a - b := by
  have h1 := rat_eq a
  have h2 := rat_eq b
  have d1 := den_ne a
  have d2 := den_ne b
  rw [Rat.intCast_sub, Rat.intCast_mul, Rat.intCast_mul, Rat.intCast_mul]
  generalize (a.num : Rat) = x at h1
  generalize (b.num : Rat) = y at h2
  generalize ((a.den : Int) : Rat) = z at h1 d1
  generalize ((b.den : Int) : Rat) = w at h2 d2
  subst h1; subst h2
  grind
theorem rat_tb (a : Rat) (m y : Int) (hy : y ≠ 0) : ((a.num * m : Int) : Rat) / ((a.den * y : Int) : Rat) = a * m / y := by
  have h1 := rat_eq a
  have d1 := den_ne a
  have d2 : (y : Rat) ≠ 0 := by rw [Ne, Rat.intCast_eq_zero_iff]; exact hy
  rw [Rat.intCast_mul, Rat.intCast_mul]
  generalize (a.num : Rat) = x at h1
  generalize ((a.den : Int) : Rat) = z at h1 d1
  generalize (y : Rat) = w at d2
  subst h1
  grind
/-! sizes -/
structure Sz (q : Rat) : Prop where
  d : q.den < pw 4400
  n : q.num.natAbs < pw 40000
theorem Sz.d' {q : Rat} (h : Sz q) : ((q.den : Int)).natAbs < pw 100000 := Nat.lt_of_lt_of_le h.d (pw_le (by omega))
theorem Sz.n' {q : Rat} (h : Sz q) : q.num.natAbs < pw 100000 := Nat.lt_of_lt_of_le h.n (pw_le (by omega))
theorem Sz.dd {p q : Rat} (h : Sz p) (g : Sz q) : ((p.den : Int) * (q.den : Int)).natAbs < pw 8999 := by
  rw [Int.natAbs_mul]
  exact Nat.lt_of_lt_of_le (pw_mul h.d g.d) (pw_le (by omega))
theorem den0 (p : Rat) : (0 : Int) < (p.den : Int) := by have := p.den_nz; omega
theorem less_iff (a b : Rat) : decide (a.num * (b.den : Int) < b.num * (a.den : Int)) = decide (a < b) := by
  rw [decide_eq_decide]
  exact (Rat.lt_iff a b).symm
/-- over a common bottom -/
def Has (L N : Nat) (q : Rat) : Prop := ∃ a : Int, a.natAbs ≤ N ∧ q * (L : Rat) = (a : Rat)
theorem Has.sz {L N : Nat} {q : Rat} (h : Has L N q) (h0 : 0 < L) : q.den ≤ L ∧ q.num.natAbs ≤ N := by
  obtain ⟨a, ha, e⟩ := h
  have hL : (L : Rat) ≠ 0 := by rw [Ne, Rat.natCast_eq_zero_iff]; omega
  have e2 : q = mkRat a L := by
    rw [Rat.mkRat_eq_div]
    grind
  have dn := Rat.den_mkRat a L
  have nn := Rat.num_mkRat a L
  rw [← e2, if_neg (by omega)] at dn nn
  refine ⟨by rw [dn]; exact Nat.div_le_self _ _, ?_⟩
  rw [nn]
  refine Nat.le_trans ?_ ha
  exact Int.natAbs_ediv_le_natAbs _ _
end Iv

set_option maxHeartbeats 4000000
namespace Iv
open PySem PySem.Spec PyProof.Rows L2
variable [Ct]
theorem pw_lt {m n : Nat} (h : m < n) : pw m < pw n := by unfold pw; exact Nat.pow_lt_pow_right (by omega) h
theorem iq_ne {g : Int} (h : g ≠ 0) : (g : Rat) ≠ 0 := by rw [Ne, Rat.intCast_eq_zero_iff]; exact h
section
variable {L N M : Nat} {a b : Rat}
theorem Has.mono (h : Has L N a) (hm : N ≤ M) : Has L M a := by
  obtain ⟨x, hx, e⟩ := h
  exact ⟨x, by omega, e⟩
theorem Has.add (ha : Has L N a) (hb : Has L M b) : Has L (N + M) (a + b) := by
  obtain ⟨x, hx, e⟩ := ha
  obtain ⟨y, hy, f⟩ := hb
  exact ⟨x + y, by omega, by rw [Rat.intCast_add, ← e, ← f, Rat.add_mul]⟩
theorem Has.sub (ha : Has L N a) (hb : Has L M b) : Has L (N + M) (a - b) := by
  obtain ⟨x, hx, e⟩ := ha
  obtain ⟨y, hy, f⟩ := hb
  exact ⟨x - y, by omega, by rw [Rat.intCast_sub, ← e, ← f]; grind⟩
theorem Has.mulI (ha : Has L N a) (m : Int) : Has L (N * m.natAbs) (a * (m : Rat)) := by
  obtain ⟨x, hx, e⟩ := ha
  refine ⟨x * m, ?_, ?_⟩
  · rw [Int.natAbs_mul]; exact Nat.mul_le_mul_right _ hx
  · rw [Rat.intCast_mul, ← e]; grind
theorem natAbs_rat (y : Int) : ((y.natAbs : Nat) : Rat) = (y : Rat) ∨ ((y.natAbs : Nat) : Rat) = -(y : Rat) := by
  rcases Int.natAbs_eq y with h | h
  · left; conv => rhs; rw [h]
    rfl
  · right; conv => rhs; rw [h]
    rw [Rat.intCast_neg, Rat.neg_neg]; rfl
theorem Has.divI (ha : Has L N a) {y : Int} (hy : y ≠ 0) : Has (L * y.natAbs) N (a / (y : Rat)) := by
  obtain ⟨x, hx, e⟩ := ha
  have y0 : (y : Rat) ≠ 0 := iq_ne hy
  rcases natAbs_rat y with h | h
  · refine ⟨x, hx, ?_⟩
    rw [Rat.natCast_mul, h, ← e]
    grind
  · refine ⟨-x, by omega, ?_⟩
    rw [Rat.natCast_mul, h, Rat.intCast_neg, ← e]
    grind
theorem Has.nat (L n : Nat) : Has L (n * L) (n : Rat) := ⟨((n * L : Nat) : Int), by omega, by rw [← Rat.natCast_mul]; rfl⟩
theorem Has.up (ha : Has L N a) (m : Nat) : Has (L * m) (N * m) a := by
  obtain ⟨x, hx, e⟩ := ha
  refine ⟨x * (m : Int), ?_, ?_⟩
  · rw [Int.natAbs_mul]; exact Nat.mul_le_mul_right _ hx
  · rw [Rat.natCast_mul, Rat.intCast_mul, ← e, ← Rat.mul_assoc]; rfl
theorem Has.red {G : Nat} (ha : Has (L * G) N a) : Has L N (a * ((G : Int) : Rat)) := by
  obtain ⟨x, hx, e⟩ := ha
  refine ⟨x, hx, ?_⟩
  rw [← e, Rat.natCast_mul, Rat.intCast_natCast]
  grind
theorem Has.ok (h : Has L N a) (h0 : 0 < L) (hL : L < pw 4400) (hN : N < pw 40000) : Sz a := by
  obtain ⟨h1, h2⟩ := h.sz h0
  exact ⟨by omega, by omega⟩
end
end Iv

set_option maxHeartbeats 4000000
namespace Iv
open PySem PySem.Spec PyProof.Rows L2
/-- what is said of more is said of each part -/
theorem says_both {a a' : List He.Fa} {b b' : List He.DefD} {K : PySem.W.Frag} (c : He.SaysD (a ++ a') (b ++ b') K) : He.SaysD a b K ∧ He.SaysD a' b' K := by
  have h1 : (((a ++ a').all fun f => f.ok K) && (b ++ b').all fun d => d.ok K) = true := congrArg (fun z : He.AlD => z.1) c
  have h2 : (b ++ b').map (fun d => He.fnW K d.at_) = (b ++ b').map He.DefD.val := congrArg (fun z : He.AlD => z.2) c
  rw [List.all_append, List.all_append] at h1
  simp only [Bool.and_eq_true] at h1
  rw [List.map_append, List.map_append] at h2
  obtain ⟨e1, e2⟩ := List.append_inj h2 (by rw [List.length_map, List.length_map])
  have mk : ∀ {f : List He.Fa} {g : List He.DefD}, (f.all fun f => f.ok K) = true → (g.all fun d => d.ok K) = true → g.map (fun d => He.fnW K d.at_) = g.map He.DefD.val → He.SaysD f g K := fun {f g} p q e => by
    show ((_ && _, _) : He.AlD) = (true, _)
    rw [p, q, e]; rfl
  exact ⟨mk h1.1.1 h1.2.1 e1, mk h1.1.2 h1.2.2 e2⟩
end Iv

set_option maxHeartbeats 4000000
namespace Iv
open PySem PySem.Spec PyProof.Rows L2
variable [Ct] [Nm]
/-! ### all but some places stays -/
structure Mv (M : Addr → Prop) (H H' : Hp) : Prop where
  go : ∀ a o, ¬ M a → isTbl o = false → H a = some o → H' a = some o
  dm : ∀ a, H' a = none → H a = none
  tb : NdefX.TabsN Tb0 H → NdefX.TabsN Tb0 H'
section
variable {M M' : Addr → Prop} {O O' : Addr → Prop} {H H' H1 H2 : Hp} {K : PySem.W.Frag}
theorem Mv.refl : Mv M H H := ⟨fun _ _ _ _ h => h, fun _ h => h, fun h => h⟩
theorem Mv.trans (a : Mv M H H1) (b : Mv M H1 H2) : Mv M H H2 := ⟨fun x o n t e => b.go x o n t (a.go x o n t e), fun x e => a.dm x (b.dm x e), fun t => b.tb (a.tb t)⟩
theorem Mv.sub (a : Mv M H H1) (h : ∀ x, M x → M' x) : Mv M' H H1 := ⟨fun x o n t e => a.go x o (fun z => n (h x z)) t e, a.dm, a.tb⟩
theorem SB.mv (h : SB none H H') : Mv M H H' := ⟨fun a o _ t e => h.go a o (fun z => by cases z) t e, fun a e => h.dm a (fun z => by cases z) e, h.tb⟩
theorem Mv.sb (h : Mv (fun _ => False) H H') : SB none H H' := ⟨fun a o _ t e => h.go a o (fun z => z) t e, fun a _ e => h.dm a e, h.tb⟩
theorem Mv.laid {p : Addr} {o : HO} (h : H p = none) : Mv M H (upd H p o) := (SB.laid h).mv
theorem Mv.put {a : Addr} {ob o' : HO} (hob : H a = some ob) (pl : plainO ob = true) (m : M a) : Mv M H (upd H a o') := ⟨fun b o n t e => by rw [upd_ne (fun (z : b = a) => n (by rw [z]; exact m))]; exact e, fun b e => NdefX.upd_none e, fun t p hp => tab_upd hob pl (t p hp)⟩
theorem Mv.fz (h : Mv M H H') (hM : ∀ a, M a → O a) : Same (Fz O H) (Fz O H') := fz_mono (fun _ z => z) fun a o n t e => h.go a o (fun z => n (hM a z)) t e
/-- a new place is owned -/
theorem fz_new {x : Addr} (hx : H x = none) (h : ∀ a o, ¬ O a → isTbl o = false → H a = some o → H' a = some o) : Same (Fz O H) (Fz (orO O x) H') := fun a o e => by
  obtain ⟨n, e, t⟩ := fz_some3 e
  refine fz_put (fun z => ?_) (h a o n t e) t
  rcases z with z | z
  · exact n z
  · rw [z, hx] at e; cases e
/-- what is owned stands, and the tables of code -/
structure Wd (O : Addr → Prop) (H : Hp) : Prop where
  dom : ∀ a, O a → ∃ o, H a = some o ∧ plainO o = true
  tabs : NdefX.TabsN Tb0 H
theorem Wd.sb (w : Wd O H) (h : SB none H H') : Wd O H' := ⟨fun a ha => let ⟨o, e, p⟩ := w.dom a ha; ⟨o, h.go a o (fun z => by cases z) (plain_noTbl p) e, p⟩, h.tb w.tabs⟩
theorem Wd.put {a : Addr} {ob o' : HO} (w : Wd O H) (hob : H a = some ob) (pl : plainO ob = true) (pl' : plainO o' = true) : Wd O (upd H a o') := ⟨fun b hb => by
  by_cases z : b = a
  · rw [z, upd_same]; exact ⟨_, rfl, pl'⟩
  · rw [upd_ne z]; exact w.dom b hb, fun p hp => tab_upd hob pl (w.tabs p hp)⟩
theorem Wd.add {x : Addr} (w : Wd O H) (hx : ∃ o, H x = some o ∧ plainO o = true) : Wd (orO O x) H := ⟨fun a ha => ha.elim (w.dom a) fun z => z ▸ hx, w.tabs⟩
theorem Wd.nn (w : Wd O H) : ∀ a, O a → H a ≠ none := fun a h z => by
  obtain ⟨o, e, _⟩ := w.dom a h
  rw [e] at z; cases z
theorem args_fz : ∀ {vs : List V} {ds : List D}, RpAll K (Fz O H) vs ds → ArgsAt K none O H vs (ds.map .fz)
  | _, _, .nil => .nil
  | _, _, .cons a b => .cons ⟨(fun _ z => by cases z), a⟩ (args_fz b)
theorem noF_fz (ds : List D) : NoF (ds.map .fz) := fun f F ws es h => by
  obtain ⟨d, _, e⟩ := List.mem_map.mp h
  cases e
/-- frozen data is read the same where a place is owned that holds none of its things -/
theorem Rp.avoid {x : Addr} (hx : ∀ xs, H x ≠ some (.lst xs)) (hx2 : ∀ xs, H x ≠ some (.tup xs)) (hx3 : ∀ k, ¬ L2.Rd H x (.dK k)) (hx4 : ∀ k, ¬ L2.Rd H x (.dT k)) (hx5 : ∀ o u, H x ≠ some (.frz o u)) {v : V} {d : D} (h : Rp K (Fz O H) v d) : Rp K (Fz (orO O x) H) v d := by
  have st : ∀ (a : Addr) (o : HO), Fz O H a = some o → o ≠ (.lst []) → a ≠ x → Fz (orO O x) H a = some o := fun a o e _ ne => by
    obtain ⟨n, e, t⟩ := fz_some3 e
    exact fz_put (fun z => z.elim n ne) e t
  have st' : ∀ (a : Addr) (o : HO), Fz O H a = some o → a ≠ x → Fz (orO O x) H a = some o := fun a o e ne => by
    obtain ⟨n, e, t⟩ := fz_some3 e
    exact fz_put (fun z => z.elim n ne) e t
  refine Rp.rec (motive_1 := fun v d _ => Rp K (Fz (orO O x) H) v d) (motive_2 := fun vs ds _ => RpAll K (Fz (orO O x) H) vs ds) ?_ ?_ ?_ ?_ ?_ ?_ ?_ ?_ ?_ ?_ h
  · exact .non
  · exact fun b => .bl b
  · exact fun i => .int i
  · exact fun x => .str x
  · exact fun {a xs ds} h1 _ ih => .lst (st' a _ h1 fun z => hx xs (z ▸ (fz_some h1).2)) ih
  · intro a xs ds h1 _ h3 ih
    refine .tup ?_ ih (h3.imp (fun h3 => st' a _ h3 fun z => hx2 xs (z ▸ (fz_some h3).2)) id)
    rcases h1 with h1 | h1
    · rcases h1 with h1 | ⟨o, h1⟩
      · exact .inl (.inl (st' a _ h1 fun z => hx2 xs (z ▸ (fz_some h1).2)))
      · exact .inl (.inr ⟨o, st' a _ h1 fun z => hx5 _ _ (z ▸ (fz_some h1).2)⟩)
    · exact .inr h1
  · intro a kvs ds h1 _ ih
    refine .dct ?_ ih
    have na : a ≠ x := fun z => hx3 kvs (h1.elim (fun h1 => .inl (z ▸ (fz_some h1).2)) fun ⟨o, h1⟩ => .inr ⟨o, z ▸ (fz_some h1).2⟩)
    exact h1.elim (fun h1 => .inl (st' a _ h1 na)) fun ⟨o, h1⟩ => .inr ⟨o, st' a _ h1 na⟩
  · intro a kvs ds h1 _ ih
    refine .dctT ?_ ih
    have na : a ≠ x := fun z => hx4 kvs (h1.elim (fun h1 => .inl (z ▸ (fz_some h1).2)) fun ⟨o, h1⟩ => .inr ⟨o, z ▸ (fz_some h1).2⟩)
    exact h1.elim (fun h1 => .inl (st' a _ h1 na)) fun ⟨o, h1⟩ => .inr ⟨o, st' a _ h1 na⟩
  · exact .nil
  · exact fun _ _ a b => .cons a b
theorem Rp.avoidIns {x C dx : Addr} {fs : List (Str × V)} (hx : H x = some (.ins C dx fs)) {v : V} {d : D} (h : Rp K (Fz O H) v d) : Rp K (Fz (orO O x) H) v d := by
  refine Rp.avoid (fun _ z => ?_) (fun _ z => ?_) (fun _ z => ?_) (fun _ z => ?_) (fun _ _ z => ?_) h
  · rw [hx] at z; cases z
  · rw [hx] at z; cases z
  · rcases z with z | ⟨_, z⟩ <;> (rw [hx] at z; cases z)
  · rcases z with z | ⟨_, z⟩ <;> (rw [hx] at z; cases z)
  · rw [hx] at z; cases z
end
/-! ### a plain def called anywhere -/
def tPure (K : PySem.W.Frag) (F : FT) (x : Str) (t : TA) : TE := fun σ H Q => t σ H fun vs H1 => ∃ (O : Addr → Prop) (ds : List D) (r : R),
  RpAll K (Fz O H1) vs ds ∧ Wd O H1 ∧ F x (ds.map .fz) none = some (r, none) ∧ ∀ v H2, SB none H1 H2 → ResAt K none O H1 H2 v r → Q v H2
section
variable {X : Cx} {F : FT} {gl : Str → Option Gv} {k : Nat} {x : Str} {e : Expr} {es : List Expr} {t : TA} {p pos : Pos}
theorem wa_mono {σ : L2.St} {H : Hp} {Q Q' : List V → Hp → Prop} (h : Wa X es σ H Q) (f : ∀ vs H1, Q vs H1 → Q' vs H1) : Wa X es σ H Q' := fun pos pins s I =>
  wpAny_mono (h pos pins s I) (fun us s1 ⟨vs, H1, I1, r, q⟩ => ⟨vs, H1, I1, r, f _ _ q⟩) fun _ _ z => z
theorem pe_pure (G : Glb X.prog X.w X.K X.mg X.base gl F k) (hr : Room k X.A) (hx : gl x = some .fn) (hg : Gl X x) (ha : PA X (e :: es) t) (hdb : (x == ("__debug__" : Str)) = false := by decide) (hn : noStar e = true := by rfl) (hns : es.all noStar = true := by rfl) :
    PE X (.Call (.Name x p) (e :: es) [] pos) (tPure X.K F x t) := by
  refine ⟨fun pins s σ H Q I h => ?_⟩
  obtain ⟨f, fd, ps, h1, h2, h3, h4, h5⟩ := G.fn x hx
  refine we_call h4 (fun z => by cases z) hr hg h1 h2 h3 hdb hn hns (wa_mono (ha.wa h) ?_) pins s I
  rintro vs H1 ⟨O, ds, r, av, wd, hf, q⟩ pins1 s1 I1
  have hl : vs.length = ps.length := by rw [av.length]; have := h5 _ _ _ hf; rwa [List.length_map] at this
  exact ⟨hl, none, O, vs, ds.map .fz, none, none, r, none, (List.append_nil vs).symm, args_fz av, noF_fz ds, trivial, (fun b z => by cases z), wd.dom, rfl, wd.tabs, (by show F x (ds.map .fz ++ []) none = _; rw [List.append_nil]; exact hf), fun v H2 sb _ rs => q v H2 sb rs⟩
end
end Iv

set_option maxHeartbeats 4000000
namespace Iv
open PySem PySem.Spec PyProof.Rows L2 LamX L2H HotX
/-! ### a lambda called, its exceptions without a context -/
section
variable {X : Cx} {pins : List (Addr × Obj)} {σ : L2.St} {H HZ : Hp} {s s1 : Shared}
abbrev lamN (X : Cx) (A : Around) (outer : List Env) (s : Shared) (H : Hp) (E : XK) (scope : Scope) (f c' : Addr) : Cx := (lamCx X A outer s H E scope f c').wish fun e s' =>
  wpAny (model X.prog X.w) (A.deeper (lamEnv X scope s.heap.objs.size f c')) (leaving (lamEnv X scope s.heap.objs.size f c') e) (fun _ s'' => L2N.CX X.prog X.w outer H s E e s'') (fun e' s'' => L2N.CX X.prog X.w outer H s E e' s'') s'
theorem act_run {params : Arguments} {body : Expr} {scope : Scope} {f c' : Addr} {pm ctv : Value} {k : Nat} {A : Around} {outer : List Env} {Q : VK} {E : XK} {tb : TE} (I : Inv X pins σ H s) (L : LamS X.env.scope scope)
    (of1 : s1.heap.get? f = some (PySem.W.kla_obj "<lambda>" (X.env.qual ++ "<lambda>") params body scope (cloFrom X.env.cells scope.names []) pm c' ctv))
    (hbind : bindArgs (PySem.W.kla_fn "<lambda>" (X.env.qual ++ "<lambda>") params body scope (cloFrom X.env.cells scope.names []) pm (.ref c') ctv) ⟨[], []⟩ = pure [])
    (un : Un (frs X.stack) [] H HZ s.heap s1.heap) (e0 : Env0 X.prog X.w X.K X.mg X.base A outer s1 HZ) (hr : Room (k + 1) A) (hc : HZ c' = some (CodeO c' (X.env.qual ++ "<lambda>")))
    (hbody : Room k (A.deeper (lamEnv X scope s1.heap.objs.size f c')) → PE (lamN X A outer s1 HZ E scope f c') body tb) (ht : tb σ HZ Q) :
    codeAny (model X.prog X.w) A (.call (.ref f) ⟨[], []⟩) (CR (L2N.CX X.prog X.w) outer X.prog X.w HZ s1 Q E) s1 := by
  obtain ⟨⟨oc, vs, t, h1, h2, h3⟩, _, _⟩ := e0.hok c' _ hc
  have lim : s1.heap.NoLimit := e0.mod.nolimit.keeps fun b o e => (e0.bs b o e).1
  refine PySem.W.kla_callFunE hr.depth of1 rfl L.co L.gen rfl ⟨c', oc, vs, t, rfl, h1, h2, h3⟩ ?_
  rw [hbind]
  refine wpAny_pure (wpAny_newFunctionEnv (fun y hy => (L.own y hy).2) (fun y hy => absurd hy (by simp)) (fun hh hns sb => ⟨lim.fresh _ sb, ?_⟩) L.kind)
  have kp : ∀ b o, s1.heap.get? b = some o → hh.get? b = some o := fun b o e => sb.extBut b o (Nat.ne_of_lt (Heap.lt_size e)) (Heap.get?_push_of_some _ e)
  have J := (lam_start2 (E := E) (f := f) (c' := c') (tk := s1.toks + ([] : List (Str × Value)).length) I L e0 hr.hd un hns kp).wish fun e s' =>
    wpAny (model X.prog X.w) (A.deeper (lamEnv X scope s1.heap.objs.size f c')) (leaving (lamEnv X scope s1.heap.objs.size f c') e) (fun _ s'' => L2N.CX X.prog X.w outer HZ s1 E e s'') (fun e' s'' => L2N.CX X.prog X.w outer HZ s1 E e' s'') s'
  show codeAny _ _ (.expr body (lamEnv X scope s1.heap.objs.size f c')) _ _
  refine PySem.W.kla_codeExpr (wpAny_mono ((hbody (hr.deeper _)).run [] _ _ HZ Q J ht) (fun v s' hq => ?_) fun e s' hq => hq)
  obtain ⟨w', H', J', rv, q⟩ := hq
  exact ⟨w', H', J'.os, J'.bare, J'.base, J'.hok, rv, q⟩
end
/-! ### a def run where an exception is handled, its promise told of that exception -/
theorem run_ofH {CX : CXT} {P : Program} {w : World} {K : PySem.W.Frag} {mg : Str → Option Value} {base : Heap} {k : Nat} {f : Addr} {name qual : Str} {params : Arguments} {body : List Stmt} {scope : Scope} {dV kV doc pm cdv ct oc : Value} {an od : Option Addr}
    {osl : Array (Option Value)} {N ps : List Str} (lk : K.lookup f = some ⟨oc, od, .func (PySem.W.fnOf name qual params body scope dV kV doc pm an cdv ct), osl⟩) (hcd : PySem.W.codeIn K cdv qual = true) (S : FnScope N ps scope)
    {A : Around} {outer : List Env} {s : Shared} {H : Hp} {args : Args} {us : List Value} {vs : List V} {Q : VK} {E : XK} {p : Addr × Obj} (hr : RoomH (k + 1) A) (hpin : PinOk outer H s p) (e0 : Env0 P w K mg base A outer s H) (hb : BindsTo s (PySem.W.fnOf name qual params body scope dV kV doc pm an cdv ct) args (ps.zip us)) (r : Vals vs us) (hl : vs.length = ps.length)
    (hbody : RoomH k (A.deeper (envOfC qual scope s.heap.objs.size f cdv)) → ∃ t, PSs (cxH CX P w K mg base N qual scope f cdv A outer s H E p) body t ∧ t { nx := fun _ H' => Q .non H', rt := Q } (L2.start N vs) H) :
    codeAny (model P w) A (.call (.ref f) args) (CR CX outer P w H s Q E) s := by
  have keepK : ∀ b o, base.get? b = some o → s.heap.get? b = some o := fun b o e => (e0.bs b o e).1
  have KX := e0.mod.kin.keeps keepK
  refine codeAny_call_function hr.depth (KX _ _ lk) rfl S.co S.gen rfl (PySem.W.codeRec_of KX hcd) (hb _ _ _ _ ?_)
  refine wpAny_newFunctionEnv_cells S.kind (fun ⟨n, v⟩ hy => ?_) fun env he s1 x => ?_
  · exact (S.par n (List.of_mem_zip hy).1).elim .inl fun q => .inr ⟨q, PySem.W.cellsFrom_some _ _ _ (.inl q)⟩
  subst he
  refine ⟨(e0.mod.nolimit.keeps keepK).keeps x.toInCall.keep, codeAny_func ?_⟩
  obtain ⟨t, ht, hq⟩ := hbody (hr.deeper _)
  have I : Inv (cxH CX P w K mg base N qual scope f cdv A outer s H E p) [] (L2.start N vs) H s1 := inv_startH S hpin e0 hl r x
  refine wpAny_mono (ht.run [] s1 (L2.start N vs) H _ I hq) (fun fl s' hs => ?_) fun e s' hs => hs
  cases fl with
  | ret u => obtain ⟨v, σ', H', J, rv, q⟩ := hs; exact ⟨v, H', J.os, J.bare, J.base, J.hok, rv, q⟩
  | next => obtain ⟨σ', H', J, q⟩ := hs; exact ⟨V.non, H', J.os, J.bare, J.base, J.hok, rfl, q⟩
  | brk => exact (show False from hs.elim fun _ z => z.elim fun _ z => z.2).elim
  | cont => exact (show False from hs.elim fun _ z => z.elim fun _ z => z.2).elim
/-- f(e), e the exception that is handled: its object is p's -/
theorem pe_callHp {X : Cx} {k : Nat} {x : Str} {f : Addr} {name : Str} {params : Arguments} {body : List Stmt} {scope : Scope} {dV kV doc pm cdv ct oc : Value} {an od : Option Addr} {osl : Array (Option Value)} {N : List Str} {a : Str} {p : Addr × Obj} {q pos : Pos} {e : Expr} {te : TE} {sp : Sp}
    (lk : X.K.lookup f = some ⟨oc, od, .func (PySem.W.fnOf name x params body scope dV kV doc pm an cdv ct), osl⟩) (hcd : PySem.W.codeIn X.K cdv x = true) (S : FnScope N [a] scope) (hb : Binds X.K (PySem.W.fnOf name x params body scope dV kV doc pm an cdv ct) [a] [])
    (hr : RoomH (k + 1) X.A) (hot : Hot1 X.A p) (hp : p ∈ X.pn) (hg : Gl X x) (hm : X.mg x = some (.ref f)) (hk : PySem.W.keepIn X.K (.ref f) = true) (ha : PE X e te)
    (hbody : ∀ (A : Around) (outer : List Env) (s : Shared) (H : Hp) (v : V) (Q : VK), Hot1 A p → RoomH k (A.deeper (envOfC x scope s.heap.objs.size f cdv)) → sp [v] H Q E0 → ∃ t, PSs (cxH CX0 X.prog X.w X.K X.mg X.base N x scope f cdv A outer s H E0 p) body t ∧ t { nx := fun _ H' => Q .non H', rt := Q } (L2.start N [v]) H)
    (hdb : (x == ("__debug__" : Str)) = false := by decide) (he : starEach [e] X.env = (false, eval e X.env) :: starEach [] X.env := by rfl) (hpl : (backTo pos (starEach [] X.env)).any (·.1) = false := by rfl) :
    PE X (.Call (.Name x q) [e] [] pos) (fun σ H Q => te σ H fun v H1 => sp [v] H1 Q E0) := by
  refine ⟨fun pins s σ H Q I h => ?_⟩
  refine wpAny_Call_Name_kw (ld_glob I hg hm ?_ hdb)
  have hA : PA X [e] (tCons te tNil) := pa_cons ha pa_nil he
  refine PySem.W.callWith_K (h₀ := X.base) I.ok.mod.kin hk (thn (hA.run pos pins s σ H (fun vs H1 => match vs with | [v] => sp [v] H1 Q E0 | _ => False) I h) fun us s1 ⟨vs, H1, I1, r, hsp⟩ => ⟨I1.kIn, ?_⟩) he hpl
  obtain ⟨v, rfl⟩ : ∃ v, vs = [v] := by
    match vs, hsp with
    | [v], _ => exact ⟨v, rfl⟩
  have hsp : sp [v] H1 Q E0 := hsp
  have P1 := I1.pin p (List.mem_append_left _ hp)
  have hpin : PinOk X.stack H1 s1 p := ⟨P1.1, P1.2.1, fun hm => (List.mem_cons.mp (I1.stkSub p.1 hm)).elim P1.2.2.1 P1.2.2.2.1, P1.2.2.2.2⟩
  have b := hb s1 us I1.kIn (by rw [List.append_nil, ← r.length]; rfl)
  rw [List.append_nil] at b
  refine wpAny_call (codeAny_mono (run_ofH (E := E0) lk hcd S hr hpin I1.env0 b r rfl fun hr' => hbody X.A X.stack s1 H1 v Q hot hr' hsp) fun r s' hq => ?_)
  cases r with
  | error e => exact (show False from hq).elim
  | ok fl =>
    cases fl with
    | ret u => exact I1.after hq
    | next => exact False.elim hq
    | brk => exact False.elim hq
    | cont => exact False.elim hq
end Iv

set_option maxHeartbeats 4000000
namespace Iv
open PySem PySem.Spec PyProof.Rows L2 LamX L2H HotX
/-! ### a comprehension over a range, where an exception is handled: the block keeps the pins -/
abbrev blkH (X : Cx) (s : Shared) (H : Hp) (scope : Scope) (cenv : Env) (fp : List Addr) : Cx := { X.blk s H scope cenv fp with pn := X.pn }
theorem okH {X : Cx} {s : Shared} {H : Hp} {scope : Scope} {cenv : Env} {fp : List Addr} (ok : (X.blk s H scope cenv fp).Ok) : (blkH X s H scope cenv fp).Ok :=
  ⟨ok.mod, ok.kind, ok.glob, ok.blt, ok.above, ok.inj, ok.has, ok.cab, ok.hd, ok.frames, ok.stk, ok.exf, ok.bs, ok.bsz, ok.noex, ok.exfs, ok.funs, ok.frf⟩
theorem invH {X : Cx} {s s' : Shared} {H H' : Hp} {scope : Scope} {cenv : Env} {fp : List Addr} {σ : L2.St} (I : Inv (X.blk s H scope cenv fp) [] σ H' s') (hp : ∀ p ∈ X.pn, s'.heap.get? p.1 = some p.2 ∧ H' p.1 = none ∧ p.1 ≠ cenv.locals ∧ p.1 ∉ frs X.stack ∧ ∀ v, p.2.data ≠ .cell v) : Inv (blkH X s H scope cenv fp) [] σ H' s' :=
  ⟨okH I.ok, I.os, I.bare, I.base, I.loc, I.cell, I.free, I.freeC, fun p h => hp p (by simpa using h), I.hok, I.len⟩
section
variable {X : Cx}
theorem pe_lcH {elt tg iter : Expr} {ifs : List Expr} {scope : Scope} {own : List (Str × Nat)} {pos : Pos} {wi : TI} {g : TG} {tt : TT} {te : TE} (hc : HotC X) (hN : X.N.Nodup) (hi : PIH X tg iter wi) (ok : BlkOk X.N X.env.scope scope own)
    (hg : ∀ (s : Shared) (H : Hp) (C : Addr) (cl : List (Str × Addr)) (fp : List Addr), PG (blkH X s H scope (compEnvC scope cl C X.env) fp) tg g) (ht : ∀ (s : Shared) (H : Hp) (C : Addr) (cl : List (Str × Addr)) (fp : List Addr), PTs (blkH X s H scope (compEnvC scope cl C X.env) fp) ifs tt)
    (he : ∀ (s : Shared) (H : Hp) (C : Addr) (cl : List (Str × Addr)) (fp : List Addr), PE (blkH X s H scope (compEnvC scope cl C X.env) fp) elt te) (hs : ∀ x, foldedSetIterable iter X.env x = pure x := by intro _; rfl) :
    PE X (.ListComp elt [⟨tg, iter, ifs, 0⟩] scope pos) (tLc wi g tt te (own.map (·.2))) := by
  refine ⟨fun pins s σ H Q I h => ?_⟩
  rw [eval_ListComp]
  have hfree : ∀ y ∈ scope.names, y.2 = .free → ∃ c, X.env.cells.lookup y.1 = some c := fun y hy e => (ok.free y hy e).elim (fun k => I.ok.has _ (.inl k)) fun k => I.ok.has _ (.inr k)
  refine wpAny_comprehension_free rfl hs (closure_ok hfree) ok.kind (fun y hy e => by rw [ok.uniq y hy, e])
    (thn (hi.run pins s σ H _ I h) fun xv s1 hx => thn hx fun itv s2 h2 => ?_)
  obtain ⟨it, fp, tn, J, H2, e, I2, T, st2, f2, q⟩ := h2
  subst e
  refine wpAny_newObj_type (newEnv_comp ?_) (by show 0 ≤ sizeLine; decide)
  generalize hD : s2.heap.objs.size = D
  have hDn : H2 D = none := I2.hok.fresh (Nat.le_of_eq hD)
  obtain ⟨W, ⟨m0, w0⟩, turn⟩ := q D hDn
  generalize hs3 : ({ s2 with heap := s2.heap.push { cls := .type "list", data := .seq ([] : List Value).toArray } } : Shared) = s3
  have h3 : s3.heap = s2.heap.push { cls := .type "list", data := .seq ([] : List Value).toArray } := by rw [← hs3]
  have I3 : Inv X pins σ (upd H2 D (.lst [])) s3 := by
    rw [← hs3]
    refine I2.laid (t' := s2.toks) (fun b o e => Heap.get?_push_of_some _ e) (Nat.le_of_eq hD) ⟨Nat.zero_le _, [], 0, .nil, ?_⟩
    rw [← hD]
    exact Heap.get?_push_size _ rfl
  have f3 : ∀ b ∈ fp, FpOk X pins (upd H2 D (.lst [])) b ∧ b < s3.heap.objs.size := fun b hb => by
    obtain ⟨o, e, _⟩ := T.obj _ _ st2 b hb
    have hlt := Heap.lt_size e
    refine ⟨⟨?_, (f2 b hb).2⟩, by rw [h3, Heap.size_push]; exact Nat.lt_succ_of_lt hlt⟩
    rw [upd_ne (by rw [← hD]; exact Nat.ne_of_lt hlt)]
    exact (f2 b hb).1
  have st3 : tn 0 s3.heap := T.keep _ _ _ st2 fun b _ o e => by rw [h3]; exact Heap.get?_push_of_some _ e
  have B4 := block_start I3 ok hN f3
  generalize hce : compEnvC scope (cellsFrom (s3.heap.objs.size + 1) scope.names (cloFrom X.env.cells scope.names [])) s3.heap.objs.size X.env = ce at B4
  have cL : ce.locals = s3.heap.objs.size := by subst hce; rfl
  generalize hH3 : upd H2 D (.lst []) = H3 at I3 B4 w0 f3
  generalize hs4 : ({ s3 with heap := pushCells (s3.heap.push { cls := .type "dict", data := .dict #[] }) scope.names } : Shared) = s4 at B4
  have k34 : ∀ b o, s3.heap.get? b = some o → s4.heap.get? b = some o := fun b o e => by rw [← hs4]; exact pushCells_keeps _ _ _ _ (Heap.get?_push_of_some _ e)
  have I4 : Inv (blkH X s3 H3 scope ce fp) [] (wipe σ (own.map (·.2))) H3 s4 := invH B4 fun p hp => by
    have P1 := I3.pin p (List.mem_append_left _ hp)
    exact ⟨k34 _ _ P1.1, P1.2.1, (by rw [cL]; exact Nat.ne_of_lt (Heap.lt_size P1.1)), (fun hm => (List.mem_cons.mp (I3.stkSub p.1 hm)).elim P1.2.2.1 P1.2.2.2.1), P1.2.2.2.2⟩
  have hot : HotC (blkH X s3 H3 scope ce fp) := hc
  have pg := hg s3 H3 s3.heap.objs.size (cellsFrom (s3.heap.objs.size + 1) scope.names (cloFrom X.env.cells scope.names [])) fp
  have pt := ht s3 H3 s3.heap.objs.size (cellsFrom (s3.heap.objs.size + 1) scope.names (cloFrom X.env.cells scope.names [])) fp
  have pe := he s3 H3 s3.heap.objs.size (cellsFrom (s3.heap.objs.size + 1) scope.names (cloFrom X.env.cells scope.names [])) fp
  rw [hce] at pg pt pe
  have nfp : ∀ b ∈ fp, H3 b = none := fun b hb => (f3 b hb).1.1
  have st4 : tn 0 s4.heap := T.keep _ _ _ st3 fun b _ o e => k34 b o e
  have stat : ∀ {σ' : L2.St} {H' : Hp} {s' : Shared}, Inv (blkH X s3 H3 scope ce fp) [] σ' H' s' → (∀ b ∈ fp, H' b = none) → ∀ b ∈ fp, FpOk (blkH X s3 H3 scope ce fp) [] H' b := fun {σ' H' s'} I' hn b hb =>
    ⟨hn b hb, (I'.ok.exf b hb).1, I'.ok.exfs b hb, .inl hb, fun x c e => (I'.ok.exf b hb).2 x c e, fun p hp => (f3 b hb).1.2.2.2.2.2 p (List.mem_append_left _ (by simpa using hp))⟩
  have loop : codeAny (model X.prog X.w) X.A (.compLoop (.ListComp elt [⟨tg, iter, ifs, 0⟩] scope pos) 0 (.ref it) (.ref D) ce) (compPost (model X.prog X.w) X.A X.xe none (EP X pins σ Q) (.ref D) s3.heap.objs.size) s4 := by
    refine compLoop_any (fun n s' => ∃ i H', Inv (blkH X s3 H3 scope ce fp) [] (wipe σ (own.map (·.2))) H' s' ∧ tn i s'.heap ∧ (∀ b ∈ fp, H' b = none) ∧ W i n H') ?_ m0 ⟨0, H3, I4, st4, nfp, w0⟩
    rintro n s5 ⟨i, H5, I5, st5, n5, w5⟩
    rcases turn i n H5 w5 with ⟨stop, qq⟩ | ⟨go, Nx, hNx, step⟩
    · refine thnF (T.done (blkH X s3 H3 scope ce fp) rfl rfl rfl hot i [] s5 _ H5 (fun _ _ => False) I5 (stat I5 n5) st5 stop) fun r s6 ⟨hr, I6⟩ => ?_
      subst hr
      have I7 : Inv X pins σ H5 s6 := I3.call' (ch := fp) I6.os I6.base I6.hok I6.bare fun b hb => ⟨(f3 b hb).1.2.2.2.1, (f3 b hb).1.2.1, (f3 b hb).1.2.2.2.2.1, (f3 b hb).1.2.2.2.2.2⟩
      have z : H5 ce.locals = none := I6.free
      rw [cL] at z
      obtain ⟨m, hn, _⟩ := I6.loc
      have hn : s6.heap.Ns ce.locals m := hn
      rw [cL] at hn
      obtain ⟨g0, g1, g2, g3, g4, g5⟩ := I3.fpOk (Nat.le_refl _) z
      exact ⟨m, hn, fun h'' sb => ⟨.ref D, H5, I7.turned (t' := s6.toks) (fun b o hb e => (sb.2 b hb).trans e) g0 g1 g3 g4 g5, rfl, qq⟩⟩
    · refine thnF (T.item (blkH X s3 H3 scope ce fp) rfl rfl rfl hot i [] s5 _ H5 (fun _ _ => False) I5 (stat I5 n5) st5 go) fun r s6 ⟨u, hr, h6⟩ => ?_
      subst hr
      refine thnF h6 fun _ s7 ⟨x, H7, I7, r7, y7, st7, n7⟩ => ?_
      have I7' := I7.pinned (stat I7 n7) (T.obj _ _ st7)
      refine thnF (pg.run _ s7 _ H7 x u _ I7' r7 (step x H7 y7)) fun _ s8 ⟨σ8, H8, I8, hw8, q8⟩ => ?_
      refine thnF (pt.run _ s8 σ8 H8 _ I8 q8) fun b s9 ⟨H9, I9, q9⟩ => ?_
      have fin : ∀ {s' : Shared} {H' : Hp}, Inv (blkH X s3 H3 scope ce fp) ([] ++ pinsAt fp s7.heap) σ8 H' s' → Nx H' → ∃ m, m < n ∧ ∃ i H', Inv (blkH X s3 H3 scope ce fp) [] (wipe σ (own.map (·.2))) H' s' ∧ tn i s'.heap ∧ (∀ b ∈ fp, H' b = none) ∧ W i m H' := fun {s' H'} I' nx => by
        obtain ⟨m', hm, w'⟩ := hNx H' nx
        have pin' : ∀ b ∈ fp, ∀ o, s7.heap.get? b = some o → s'.heap.get? b = some o ∧ H' b = none := fun b hb o e =>
          let z := I'.pin (b, o) (List.mem_append_right _ (List.mem_append_right _ (mem_pinsAt hb e)))
          ⟨z.1, z.2.1⟩
        have hl : (wipe σ (own.map (·.2))).length = σ8.length := by rw [← hw8, wipe_length]
        refine ⟨m', hm, i + 1, H', (I'.unpinned (pins := [])).weak hl (fun j v e => ?_), T.keep _ _ _ st7 fun b hb o e => (pin' b hb o e).1, fun b hb => ?_, w'⟩
        · rw [← hw8] at e
          exact (wipe_some e).1
        · obtain ⟨o, e, _⟩ := T.obj _ _ st7 b hb
          exact (pin' b hb o e).2
      cases b with
      | false =>
        simp only [Bool.false_eq_true, if_false] at q9 ⊢
        exact fin I9 q9
      | true =>
        simp only [if_true] at q9 ⊢
        refine thnF (pe.run _ s9 σ8 H9 _ I9 q9) fun z s10 ⟨yv, H10, I10, r10, acc, hD10, hz10, nx⟩ => ?_
        exact app_ok (X := blkH X s3 H3 scope ce fp) I10 hD10 hz10 r10 fun s11 I11 => fin I11 nx
  subst hce
  exact codeAny_compStart_list loop (T.self X.A 0 _ _ _ st4 loop)
end
/-! ### isinstance of the exception that is pinned -/
theorem call_isP {X : Cx} {a D : Addr} {oe : Obj} (C : ExcC X.K D) (hp : (a, oe) ∈ X.pn) (hz : Zc (.ref D) none oe) (hf : ∃ vs, oe.data = .fields vs) : CallR X (.builtin "isinstance") (rIsE X.K D a) := by
  intro pins s σ H xs us Q I r h
  obtain ⟨c, cv, b, rfl, hcv, e, q⟩ := h
  obtain ⟨u1, u2, rfl, r1, r2⟩ := vals2 r
  cases r1
  obtain rfl := hcv _ r2
  have hget := (I.pin (a, oe) (List.mem_append_left _ hp)).1
  obtain ⟨vs, hv⟩ := hf
  have J : PySem.W.InstAt s.heap a oe D none := by
    obtain ⟨oc, od, oda, osl⟩ := oe
    obtain ⟨h1, h2⟩ := hz
    dsimp only at h1 h2 hv
    subst h1 h2 hv
    exact ⟨hget, rfl, rfl, trivial⟩
  exact PySem.W.kia_one (PySem.W.handS_kitx_exc C.hg C.hk C.hs C.hd C.ha C.hn C.ht C.hm) I.kIn J e (fun z => nomatch z) fun tk => ⟨.bl b, H, I.kept (t' := tk) fun _ _ z => z, rfl, q⟩
end Iv

set_option maxHeartbeats 4000000
namespace Iv
open PySem PySem.Spec PyProof.Rows L2
/-! ### what an own error's class says -/
def excCB (K : PySem.W.Frag) (D : Addr) : Bool := He.eqO (PySem.W.findIn K (.ref D) "__getattribute__") (some (some (.builtin "BaseException.__getattribute__"))) && (He.eqO (PySem.W.findIn K (.ref D) "__getattr__") (some none) &&
  (decide (PySem.W.subIn K (.ref D) (.type "BaseException") = some true) && (PySem.W.hasDictIn K D && (He.eqO (PySem.W.findIn K (.ref D) "__class__") (some (some (.builtin "object.__class__"))) &&
  (He.eqO (PySem.W.specialIn K (.builtin "object.__class__") "__get__") (some (some (.builtin "getset_descriptor.__get__"))) && (decide (PySem.W.takesIn K (.builtin "object.__class__") = some true) && decide (PySem.W.mroIn K D (.type "object") = some true)))))))
theorem excCB_ok {K : PySem.W.Frag} {D : Addr} (h : excCB K D = true) : ExcC K D := by
  unfold excCB at h
  simp only [Bool.and_eq_true] at h
  obtain ⟨h1, h2, h3, h4, h5, h6, h7, h8⟩ := h
  exact ⟨He.eqO_ok h1, He.eqO_ok h2, of_decide_eq_true h3, h4, He.eqO_ok h5, He.eqO_ok h6, of_decide_eq_true h7, of_decide_eq_true h8⟩
def kindNs : List Str := ["AskedError", "ToldError", "NoHeight", "NoHole", "NoHours", "NoName", "NoRain", "NoTubs", "NotPlugged", "NothingLeft", "Plugged"]
def kindB (K : PySem.W.Frag) (x : Str) (bs : List Bool) : Bool := excCB K (He.ga K x) && ((kindNs.zip bs).all (fun p => decide (PySem.W.kitOne K (.ref (He.ga K x)) (.ref (He.ga K p.1)) = some p.2)) && decide (PySem.W.kitOne K (.ref (He.ga K x)) (.type "ValueError") = some true))
structure KindOf (K : PySem.W.Frag) (D : Addr) (bs : List Bool) : Prop where
  c : ExcC K D
  k : ∀ p ∈ kindNs.zip bs, PySem.W.kitOne K (.ref D) (.ref (He.ga K p.1)) = some p.2
  v : PySem.W.kitOne K (.ref D) (.type "ValueError") = some true
theorem kindB_ok {K : PySem.W.Frag} {x : Str} {bs : List Bool} (h : kindB K x bs = true) : KindOf K (He.ga K x) bs := by
  unfold kindB at h
  simp only [Bool.and_eq_true, List.all_eq_true] at h
  exact ⟨excCB_ok h.1, fun p hp => of_decide_eq_true (h.2.1 p hp), of_decide_eq_true h.2.2⟩
end Iv

set_option maxHeartbeats 4000000
namespace Iv
open PySem PySem.Spec PyProof.Rows L2
variable [Ct] [Nm]
/-! ### a yard: its fields, where it stands -/
def yf (bz : Bool) (t n : V) (l : Addr) : List (Str × V) := [("busy", .bl bz), ("tubs", t), ("now", n), ("past", .ref l)]
section
variable {bz : Bool} {t n : V} {l : Addr}
theorem yf_busy : (yf bz t n l).lookup ("busy" : Str) = some (.bl bz) := by kernel_rfl
theorem yf_tubs : (yf bz t n l).lookup ("tubs" : Str) = some t := by kernel_rfl
theorem yf_now : (yf bz t n l).lookup ("now" : Str) = some n := by kernel_rfl
theorem yf_past : (yf bz t n l).lookup ("past" : Str) = some (.ref l) := by kernel_rfl
theorem yf_made : putF "past" (.ref l) (putF "now" n (putF "tubs" t (putF "busy" (.bl bz) []))) = yf bz t n l := by kernel_rfl
theorem yf_now_put (n' : V) : putF "now" n' (yf bz t n l) = yf bz t n' l := by kernel_rfl
theorem yf_busy_put (c : Bool) : putF "busy" (.bl c) (yf bz t n l) = yf c t n l := by kernel_rfl
theorem yf_few : (yf bz t n l).length < 1000 := by show 4 < 1000; decide
theorem yf_no {m : Str} (h : decide (m = "busy" ∨ m = "tubs" ∨ m = "now" ∨ m = "past") = false) : (yf bz t n l).lookup m = none := by
  have h := of_decide_eq_false h
  unfold yf
  have e : ∀ {a b : Str}, ¬ a = b → (a == b) = false := fun h => by simpa using h
  have h1 : ¬ m = "busy" := fun z => h (.inl z)
  have h2 : ¬ m = "tubs" := fun z => h (.inr (.inl z))
  have h3 : ¬ m = "now" := fun z => h (.inr (.inr (.inl z)))
  have h4 : ¬ m = "past" := fun z => h (.inr (.inr (.inr z)))
  simp [List.lookup, e h1, e h2, e h3, e h4]
end
/-- the places of a yard that change -/
def yb (b l : Addr) : Addr → Prop := fun a => a = b ∨ a = l
structure YardAt (C : Addr) (K : PySem.W.Frag) (O : Addr → Prop) (H : Hp) (b l : Addr) (t n : D) (ps : List D) : Prop where
  ob : ∃ dx vt vn, H b = some (.ins C dx (yf false vt vn l)) ∧ Rp K (Fz O H) vt t ∧ Rp K (Fz O H) vn n
  ls : ∃ xs, H l = some (.lst xs) ∧ RpAll K (Fz O H) xs ps
  ob_ : O b
  ol : O l
section
variable {C : Addr} {K : PySem.W.Frag} {O : Addr → Prop} {H H' : Hp} {b l : Addr} {t n : D} {ps : List D}
theorem YardAt.ne (y : YardAt C K O H b l t n ps) : b ≠ l := by
  obtain ⟨dx, vt, vn, h1, _⟩ := y.ob
  obtain ⟨xs, h2, _⟩ := y.ls
  exact ne_of h1 h2 (fun z => by cases z)
theorem YardAt.sub (y : YardAt C K O H b l t n ps) : ∀ a, yb b l a → O a := fun a h => h.elim (fun z => z ▸ y.ob_) fun z => z ▸ y.ol
theorem YardAt.keep (y : YardAt C K O H b l t n ps) (e : Same (Fz O H) (Fz O H')) (hb : H' b = H b) (hl : H' l = H l) : YardAt C K O H' b l t n ps := by
  obtain ⟨dx, vt, vn, h1, h2, h3⟩ := y.ob
  obtain ⟨xs, h4, h5⟩ := y.ls
  exact ⟨⟨dx, vt, vn, hb.trans h1, h2.mono e, h3.mono e⟩, ⟨xs, hl.trans h4, h5.mono e⟩, y.ob_, y.ol⟩
theorem YardAt.mv {M : Addr → Prop} (y : YardAt C K O H b l t n ps) (m : Mv M H H') (hM : ∀ a, M a → O a) (nb : ¬ M b) (nl : ¬ M l) : YardAt C K O H' b l t n ps := by
  obtain ⟨dx, vt, vn, h1, h2, h3⟩ := y.ob
  obtain ⟨xs, h4, h5⟩ := y.ls
  have e := m.fz hM
  exact ⟨⟨dx, vt, vn, m.go _ _ nb rfl h1, h2.mono e, h3.mono e⟩, ⟨xs, m.go _ _ nl rfl h4, h5.mono e⟩, y.ob_, y.ol⟩
theorem YardAt.sb (y : YardAt C K O H b l t n ps) (m : SB none H H') : YardAt C K O H' b l t n ps := y.mv (M := fun _ => False) m.mv (fun _ z => z.elim) (fun z => z) fun z => z
theorem YardAt.wd (y : YardAt C K O H' b l t n ps) (w : Wd O H) (m : Mv (yb b l) H H') : Wd O H' := ⟨fun a ha => by
  by_cases hb : a = b
  · obtain ⟨dx, vt, vn, h1, _⟩ := y.ob; rw [hb]; exact ⟨_, h1, rfl⟩
  · by_cases hl : a = l
    · obtain ⟨xs, h1, _⟩ := y.ls; rw [hl]; exact ⟨_, h1, rfl⟩
    · obtain ⟨o, e, p⟩ := w.dom a ha
      exact ⟨o, m.go a o (fun z => z.elim hb hl) (plain_noTbl p) e, p⟩, m.tb w.tabs⟩
end
/-! ### the promises -/
section
variable (K : PySem.W.Frag) (C : Addr) (F : FT)
def spBecome : Sp := fun vs H Q _ => ∃ (O : Addr → Prop) (b l : Addr) (t n : D) (ps : List D) (v' : V) (n' : D), vs = [.ref b, v'] ∧ YardAt C K O H b l t n ps ∧ ps.length < 1000 ∧ Rp K (Fz O H) v' n' ∧
  ∀ H', Mv (yb b l) H H' → YardAt C K O H' b l t n' (ps ++ [n]) → Q .non H'
def spPart (i : Nat) : Sp := fun vs H Q _ => ∃ (O : Addr → Prop) (b l : Addr) (t : D) (ds : List D) (ps : List D) (d : D), vs = [.ref b] ∧ YardAt C K O H b l t (.tuple ds) ps ∧ ds.length = 5 ∧ ds[i]? = some d ∧ ∀ v, Rp K (Fz O H) v d → Q v H
def spInit : Sp := fun vs H Q E => ∃ (O : Addr → Prop) (x dx : Addr) (vt : V) (t : D) (c : Bool), vs = [.ref x, vt] ∧ H x = some (.ins C dx []) ∧ ¬ O x ∧ Wd O H ∧ Rp K (Fz O H) vt t ∧ F "are_tubs" [.fz t] none = some (.fz (.bool c), none) ∧
  (c = false → ∀ H', SB none H H' → E (.ref (He.ga K "NoTubs")) none H') ∧ (c = true → ∃ n, F "at_first" [.fz t] none = some (.fz n, none) ∧ ∀ l H', H l = none → Mv (fun a => a = x) H H' → YardAt C K (orO (orO O x) l) H' x l t n [] → Q .non H')
def spRefuse : Sp := fun vs H Q E => ∃ (O : Addr → Prop) (vt vh : V) (t h : D) (c : Bool), vs = [vt, vh] ∧ Wd O H ∧ Rp K (Fz O H) vt t ∧ Rp K (Fz O H) vh h ∧ F "is_hole_of" [.fz t, .fz h] none = some (.fz (.bool c), none) ∧
  (c = false → ∀ H', SB none H H' → E (.ref (He.ga K "NoHole")) none H') ∧ (c = true → ∀ H', SB none H H' → Q .non H')
def spRain : Sp := fun vs H Q E => ∃ (O : Addr → Prop) (b l : Addr) (t n : D) (ps : List D) (v : V) (d : D) (c : Bool), vs = [.ref b, v] ∧ YardAt C K O H b l t n ps ∧ ps.length < 1000 ∧ Wd O H ∧ Rp K (Fz O H) v d ∧ F "is_rain" [.fz t, .fz d] none = some (.fz (.bool c), none) ∧
  (c = false → ∀ H', SB none H H' → E (.ref (He.ga K "NoRain")) none H') ∧ (c = true → ∃ n', F "with_rain" [.fz n, .fz d] none = some (.fz n', none) ∧ ∀ H', Mv (yb b l) H H' → YardAt C K O H' b l t n' (ps ++ [n]) → Q .non H')
def spGoOn : Sp := fun vs H Q E => ∃ (O : Addr → Prop) (b l : Addr) (t n : D) (ps : List D) (v : V) (d : D) (c : Bool), vs = [.ref b, v] ∧ YardAt C K O H b l t n ps ∧ ps.length < 1000 ∧ Wd O H ∧ Rp K (Fz O H) v d ∧ F "is_whole_within" [.fz d, .fz (.int 1), .fz (.int 1000)] none = some (.fz (.bool c), none) ∧
  (c = false → ∀ H', SB none H H' → E (.ref (He.ga K "NoHours")) none H') ∧ (c = true → ∃ n', F "after_hours" [.fz t, .fz n, .fz d] none = some (.fz n', none) ∧ ∀ H', Mv (yb b l) H H' → YardAt C K O H' b l t n' (ps ++ [n]) → Q .non H')
def spBack : Sp := fun vs H Q E => ∃ (O : Addr → Prop) (b l : Addr) (t n : D) (ps : List D), vs = [.ref b] ∧ YardAt C K O H b l t n ps ∧ Wd O H ∧
  (ps = [] → E (.ref (He.ga K "NothingLeft")) none H) ∧ (∀ qs n', ps = qs ++ [n'] → ∀ H', Mv (yb b l) H H' → YardAt C K O H' b l t n' qs → Q .non H')
def spPlug : Sp := fun vs H Q E => ∃ (O : Addr → Prop) (b l : Addr) (t d0 d1 d2 d4 : D) (pl : List D) (ps : List D) (v : V) (h : D) (c : Bool), vs = [.ref b, v] ∧ YardAt C K O H b l t (.tuple [d0, d1, d2, .tuple pl, d4]) ps ∧ ps.length < 1000 ∧ Wd O H ∧ Rp K (Fz O H) v h ∧ F "is_hole_of" [.fz t, .fz h] none = some (.fz (.bool c), none) ∧
  (c = false → ∀ H', SB none H H' → E (.ref (He.ga K "NoHole")) none H') ∧ (c = true → ∃ i, cmpD .In h (.tuple pl) = some i ∧ (i = true → ∀ H', SB none H H' → E (.ref (He.ga K "Plugged")) none H') ∧
    (i = false → pl.length + 1 ≤ sizeLine ∧ ∃ n', F "with_plugs" [.fz (.tuple [d0, d1, d2, .tuple pl, d4]), .fz (.tuple (pl ++ [h]))] none = some (.fz n', none) ∧ ∀ H', Mv (yb b l) H H' → YardAt C K O H' b l t n' (ps ++ [.tuple [d0, d1, d2, .tuple pl, d4]]) → Q .non H'))
def spThrough : Sp := fun vs H Q E => ∃ (O : Addr → Prop) (b l : Addr) (t d0 d1 d2 d3 : D) (kds : List (D × D)) (ps : List D) (v : V) (ks : List D) (c : Bool), vs = [.ref b, v] ∧ YardAt C K O H b l t (.tuple [d0, d1, d2, d3, .dict [(.none, .dict kds)]]) ps ∧ Wd O H ∧ Rp K (Fz O H) v (.tuple ks) ∧ F "is_hole_of" [.fz t, .fz (.tuple ks)] none = some (.fz (.bool c), none) ∧
  (c = false → ∀ H', SB none H H' → E (.ref (He.ga K "NoHole")) none H') ∧ (c = true → ∃ kk d, keysOf ks = some kk ∧ valG decT kds kk = some d ∧ ∀ u H', SB none H H' → Rp K (Fz O H') u d → Q u H')
end
section
variable {K : PySem.W.Frag} {O : Addr → Prop} {H : Hp}
/-- what went[hole] asks -/
theorem rp_getT {vw vh : V} {kds : List (D × D)} {ks : List D} {kk : List Key} {d : D} {Q : V → Prop} (hw : Rp K (Fz O H) vw (.dict [(.none, .dict kds)])) (hh : Rp K (Fz O H) vh (.tuple ks)) (e3 : keysOf ks = some kk) (e4 : valG decT kds kk = some d) (q : ∀ u, Rp K (Fz O H) u d → Q u) :
    ∃ (aa : Addr) (kvs : List (List Key × V)) (key : List Key) (bb : Addr) (v : V), vw = .ref aa ∧ vh = .ref bb ∧ L2.Rd H aa (.dT kvs) ∧ SqT K H bb (key.map kV) ∧ valV kvs key = some v ∧ Q v := by
  obtain ⟨aa, rfl, _, hdc⟩ : TopAt K none O H vw (.dict [(.none, .dict kds)]) := top_of_rp (β := none) (fun b z => by cases z) hw
  rcases hdc with ⟨kvs, _, h2, _⟩ | ⟨kds'', e6, kvs, h1, h2, h3⟩
  · exfalso
    cases kvs with
    | nil => cases h2
    | cons u kvs =>
      have h2 := (List.cons.inj h2).1
      obtain ⟨k0, _⟩ := u
      cases k0 <;> cases h2
  · cases e6
    obtain ⟨v, hv, rv⟩ := valG_ok (enc := encT) decT_enc h2 h3 e4
    obtain ⟨bb, xs, rfl, hb1, hb2⟩ : ∃ a xs, vh = .ref a ∧ SqT K (Fz O H) a xs ∧ RpAll K (Fz O H) xs ks := by
      cases hh with
      | tup h1 h2 h3 => exact ⟨_, _, rfl, h1, h2⟩
    rw [keysOf_ok e3] at hb2
    exact ⟨aa, kvs, kk, bb, v, rfl, rfl, h1, by rw [← rp_keys hb2]; exact sameT fz_same hb1, hv, q _ rv⟩
end
end Iv

set_option maxHeartbeats 4000000
namespace Iv
open PySem PySem.Spec PyProof.Rows L2
/-! ### len of an object whose class has __len__ -/
theorem call_lenO {X : Cx} {k : Nat} {f C : Addr} {fd : FuncData} {sp : Sp} (hm : Meth X.K C "__len__" f) (F : FnOk X.prog X.w X.K X.mg X.base CX0 k f fd ["self"] sp) (hr : Room (k + 1) X.A) (hb : Binds X.K fd ["self"] []) :
    CallR X (.builtin "len") (fun xs H Q => ∃ a dx fs, xs = [.ref a] ∧ H a = some (.ins C dx fs) ∧ sp [.ref a] H (fun v H1 => ∃ n : Int, v = .int n ∧ 0 ≤ n ∧ n < 2 ^ 63 ∧ Q (.int n) H1) E0) := by
  intro pins s σ H xs us Q I r h
  obtain ⟨a, dx, fs, rfl, ha, hsp⟩ := h
  obtain ⟨u, rfl, ru⟩ := vals1 r
  cases ru
  obtain ⟨mA, OM, _⟩ := ins_get I.hok ha
  obtain ⟨od, IA, _⟩ := OM.look
  refine Calls.call_function_entry kind_len plain_len entry_len (args_len1 _) ?_
  unfold Builtin.«len»
  refine wpAny_bind (m := oneArg "len" _) (wpAny_pure ?_)
  refine wpAny_bind (m := callSpecial? (.ref a) (Str.ofString "__len__")) ?_
  unfold callSpecial? specialOf
  refine wpAny_bind (wpAny_bind (IA.type.here ((PySem.W.looks_findIn I.kIn hm.at_).here ?_)))
  refine wpAny_holding (wpAny_bind ((PySem.W.bind_fn I.kIn _ (beq_iff_eq.mp hm.fn)).here ?_))
  have b := hb s [.ref a] I.kIn rfl
  have run : wpAny (model X.prog X.w) X.A.in1 (call (.ref f) [.ref a]) (fun r s' => ∃ (n : Int) (u : Tok), r = .int n u ∧ 0 ≤ n ∧ n < 2 ^ 63 ∧ ∃ H1, Inv X pins σ H1 s' ∧ Q (.int n) H1) X.xe s := by
    refine wpAny_call (codeAny_mono (F.run X.A.in1 X.stack s H ⟨[.ref a], []⟩ [.ref a] [.ref a] _ E0 hr.in1 I.env0.in1 b (.cons rfl .nil) hsp) fun r s' hq => ?_)
    cases r with
    | error e => exact (show False from hq).elim
    | ok fl =>
      cases fl with
      | ret u =>
        obtain ⟨v, H1, I1, rv, n, rfl, h0, h1, q⟩ := I.after hq
        obtain ⟨t, rfl⟩ := rv
        exact ⟨n, t, rfl, h0, h1, H1, I1, q⟩
      | next => exact False.elim hq
      | brk => exact False.elim hq
      | cont => exact False.elim hq
  refine wpAny_bind (wpAny_mono run (fun r s' hr => ?_) fun _ _ y => y)
  obtain ⟨n, u, rfl, h0, h1, H1, I1, q⟩ := hr
  refine wpAny_pure ?_
  refine wpAny_bind (wpAny_holding (wpAny_pure ?_))
  refine wpAny_bind (wpAny_letGo ?_)
  show wpAny _ _ (if n < 0 then _ else _) _ _ _
  rw [if_neg (by omega)]
  show wpAny _ _ (if n ≥ 2 ^ 63 then _ else _) _ _ _
  rw [if_neg (by omega)]
  exact wpAny_bind (wpAny_mkInt (wpAny_pure ⟨_, rfl, .int n, H1, I1.tok _, ⟨_, rfl⟩, q⟩))
end Iv

set_option maxHeartbeats 4000000
namespace Iv
open PySem PySem.Spec PyProof.Rows L2 LamX L2H HotX
variable [Ct] [Nm]
/-! ### a lambda made: all stays, the tables of code but for one row -/
section
variable {X : Cx} {pins : List (Addr × Obj)} {σ : L2.St} {H HZ : Hp} {s s1 : Shared}
theorem tab_more {P c' : Addr} {q : Str} {ps : Array Value} {pos : Pos} (hP : H P = some (.tbl ps)) (ht : TriplesOk ps.toList) (nC : H c' = none) (hq : ∀ l c, Nm.nm P l c = q)
    (hT : NdefX.TabsN Tb0 H) : SB none H (upd (upd H P (.tbl (ps ++ #[rawInt pos.line, rawInt pos.col, .ref c']))) c' (CodeO c' q)) := by
  have keep : ∀ b o, isTbl o = false → H b = some o → upd (upd H P (.tbl (ps ++ #[rawInt pos.line, rawInt pos.col, .ref c']))) c' (CodeO c' q) b = some o := fun b o t e => by
    have n1 : b ≠ c' := fun z => by rw [z, nC] at e; cases e
    have n2 : b ≠ P := fun z => by rw [z, hP] at e; cases e; cases t
    rw [upd_ne n1, upd_ne n2]; exact e
  refine ⟨fun b o _ t e => keep b o t e, fun b _ e => NdefX.upd_none (NdefX.upd_none e), fun _ p hp => ?_⟩
  obtain ⟨ps1, a1, a2, a3⟩ := hT p hp
  have nPc : P ≠ c' := fun z => by rw [z, nC] at hP; cases hP
  by_cases hb : p.1 = P
  · have e1 : p.2 = Nm.nm P := by
      obtain ⟨P', _, rfl⟩ := List.mem_map.mp hp
      exact congrArg Nm.nm hb
    have e2 : ps1 = ps := by
      rw [hb, hP] at a1; cases a1; rfl
    subst e2
    rw [e1] at a3 ⊢
    rw [hb]
    have eL : (ps1 ++ #[rawInt pos.line, rawInt pos.col, .ref c']).toList = ps1.toList ++ [rawInt pos.line, rawInt pos.col, .ref c'] := by simp
    refine ⟨_, (upd_ne nPc).trans upd_same, eL ▸ PySem.TriplesOk_snoc _ _ _ _ ht, fun pp cv hcv => ?_⟩
    rw [eL] at hcv
    rcases among_app _ ht hcv with z | z
    · obtain ⟨c0, g1, g2⟩ := a3 pp cv z
      exact ⟨c0, g1, keep _ _ rfl g2⟩
    · subst z
      exact ⟨c', rfl, by rw [hq]; exact upd_same⟩
  · have n1 : p.1 ≠ c' := fun z => by rw [z, nC] at a1; cases a1
    refine ⟨ps1, by rw [upd_ne n1, upd_ne hb]; exact a1, a2, fun pp cv hcv => ?_⟩
    obtain ⟨c0, g1, g2⟩ := a3 pp cv hcv
    exact ⟨c0, g1, keep _ _ rfl g2⟩
theorem lam_mk {c P : Addr} {q : Str} {params : Arguments} {body : Expr} {scope : Scope} {pos : Pos} {E : Value → Shared → Prop} {Q : Value → Shared → Prop} (I : Inv X pins σ H s) (TB : TabB X.base X.mg c P) (hcode : X.env.code = .ref c) (eq : X.env.qual ++ "<lambda>" = q)
    (hm : P ∈ Nm.tabs) (hq : ∀ l c, Nm.nm P l c = q) (hT : NdefX.TabsN Tb0 H) (hdef : defaultsOf params X.env = ([], [])) (hfree : ∀ y ∈ scope.names, y.2 = .free → ∃ c, X.env.cells.lookup y.1 = some c)
    (h : ∀ (f c' : Addr) (pm ctv : Value) (H1 : Hp) (s' : Shared), Inv X pins σ H1 s' → SB none H H1 →
      s'.heap.get? f = some (PySem.W.kla_obj "<lambda>" q params body scope (cloFrom X.env.cells scope.names []) pm c' ctv) → H1 f = none → f ∉ frs X.stack → H1 c' = some (CodeO c' q) → Q (.ref f) s') :
    wpAny (model X.prog X.w) X.A (eval (.Lambda params body scope pos) X.env) Q E s := by
  obtain ⟨ps, hP, ht, ha⟩ : NdefX.TabN H P (Nm.nm P) := hT (P, Nm.nm P) (List.mem_map_of_mem hm)
  have kP : s.heap.get? P = some { cls := .none, data := .fields ps } := I.hok P _ hP
  have far : ∀ f, s.heap.objs.size ≤ f → f ∉ frs X.stack := fun f hf z => (List.mem_cons.mp (I.stkSub _ z)).elim (fun e => by
    have lt := I.lt
    rw [← e] at lt
    exact absurd (Nat.lt_of_lt_of_le lt hf) (Nat.lt_irrefl f)) fun e => I.nofs hf e
  refine PySem.W.kla_eval hdef ?_
  rw [eq]
  rcases hc : codeAmong pos ps.toList with _ | cv
  · refine PySem.W.kla_makeFunction (c := c) (P := P) (closure_ok hfree) I.ok.glob (I.mod.glob.keeps I.bk) hcode (TB.code.keeps I.bk) kP ht hc TB.gP (TB.bm.keeps I.bk) fun c' ctv h' tk hx hge hlt hrec htb => ?_
    obtain ⟨cc, oc, vs, t, ec, hoc, hd, hv⟩ := hrec
    obtain rfl : c' = cc := Value.ref.inj ec
    have nC : H c' = none := I.hok.fresh hge
    have J := inv_table (t' := tk) (more := #[rawInt pos.line, rawInt pos.col, .ref c']) (h' := h'.push (PySem.W.kla_obj "<lambda>" q params body scope (cloFrom X.env.cells scope.names []) ((X.mg "__name__").getD .none) c' ctv)) I hP
      (fun b o nb e => Heap.get?_push_of_some _ (hx b o nb e)) (Heap.get?_push_of_some _ htb) hge ⟨oc, vs, t, Heap.get?_push_of_some _ hoc, hd, hv⟩
    have le : s.heap.objs.size ≤ h'.objs.size := by omega
    refine h h'.objs.size c' _ ctv _ _ J (tab_more hP ht nC hq hT) (Heap.get?_push_size _ rfl) ?_ (far _ le) upd_same
    have m2 : h'.objs.size ≠ P := Nat.ne_of_gt (Nat.lt_of_lt_of_le (Heap.lt_size kP) le)
    rw [upd_ne (Nat.ne_of_gt hlt), upd_ne m2]
    exact I.hok.fresh le
  · obtain ⟨c', rfl, hco⟩ := ha pos cv hc
    rw [hq] at hco
    refine PySem.W.kla_makeFunctionHit (c := c) (P := P) (closure_ok hfree) I.ok.glob (I.mod.glob.keeps I.bk) hcode (TB.code.keeps I.bk) kP ht hc (TB.bm.keeps I.bk) fun ctv h' tk hx hsz => ?_
    exact h h'.objs.size c' _ ctv H _ (I.kept (t' := tk) fun b o e => Heap.get?_push_of_some _ (hx b o e)) SB.refl (Heap.get?_push_size _ rfl) (I.hok.fresh hsz) (far _ hsz) hco
/-- what a def was handed, a lambda, is called -/
theorem pe_actN {CXg : CXT} {Eg : XK} {Ng : List Str} {qg : Str} {sg : Scope} {g f c' : Addr} {cdg pm ctv : Value} {params : Arguments} {body : Expr} {scope : Scope} {k i : Nat} {a : Str} {pn : List (Addr × Obj)} {xe : Value → Shared → Prop} {W : WX} {tb : XK → TE} {p1 p2 : Pos}
    (I : Inv X pins σ H s) (L : LamS X.env.scope scope) (hf : s.heap.get? f = some (PySem.W.kla_obj "<lambda>" (X.env.qual ++ "<lambda>") params body scope (cloFrom X.env.cells scope.names []) pm c' ctv)) (hfn : H f = none) (hfr : f ∉ frs X.stack)
    (hbind : bindArgs (PySem.W.kla_fn "<lambda>" (X.env.qual ++ "<lambda>") params body scope (cloFrom X.env.cells scope.names []) pm (.ref c') ctv) ⟨[], []⟩ = pure [])
    (tk : L2N.Takes ((cxOf CXg X.prog X.w X.K X.mg X.base Ng qg sg g cdg X.A X.stack s H Eg).tr pn xe) W) (hr : Room (k + 1) (X.A.deeper (envOfC qg sg s.heap.objs.size g cdg)))
    (hbody : ∀ (A : Around) (outer : List Env) (s1 : Shared) (HZ : Hp) (E : XK), Room k (A.deeper (lamEnv X scope s1.heap.objs.size f c')) → PE (lamN X A outer s1 HZ E scope f c') body (tb E))
    (hN : Ng[i]? = some a) (hv : Vis sg a) (hd : (a == ("__debug__" : Str)) = false) (hcd : (a == ("__classdict__" : Str)) = false) :
    PE ((cxOf CXg X.prog X.w X.K X.mg X.base Ng qg sg g cdg X.A X.stack s H Eg).tr pn xe) (.Call (.Name a p1) [] [] p2)
      (fun σZ HZ Q => σZ[i]? = some (some (.ref f)) ∧ HZ c' = some (CodeO c' (X.env.qual ++ "<lambda>")) ∧ tb (WE W σZ) σ HZ Q) := by
  refine ⟨fun pinsZ sZ σZ HZ Q IZ ⟨hs, hc, ht⟩ => ?_⟩
  refine wpAny_Call_Name_kw (thn ((pe_var (i := i) hN hv hd hcd).run pinsZ sZ σZ HZ (fun v H1 => v = .ref f ∧ H1 = HZ) IZ ⟨.ref f, hs, rfl, rfl⟩) fun u s1 ⟨v, H1, I1, r1, ev, eH⟩ => ?_)
  subst ev eH
  obtain rfl : u = Value.ref f := r1
  have of1 := I1.base.keep f _ hf hfn hfr (fun z => nomatch (show f ∈ ([] : List Addr) from z))
  refine PySem.W.callWith_F0 ⟨_, _, _, _, of1⟩ (wpAny_call ?_)
  refine codeAny_mono (act_run (X := X) (σ := σ) (E := WE W σZ) (Q := Q) I L of1 hbind I1.base I1.env0 hr hc (fun h => hbody _ _ _ _ _ h) ht) fun r s' hq => ?_
  rcases r with e | fl
  · exact tk e s' (L2N.XE.of_call I1 (fun _ _ _ w => w) hq)
  · cases fl with
    | ret u => exact I1.after hq
    | next => exact False.elim hq
    | brk => exact False.elim hq
    | cont => exact False.elim hq
end
end Iv

set_option maxHeartbeats 4000000
namespace Iv
open PySem PySem.Spec PyProof.Rows L2 He
/-! ### a hook that looks at the addresses that it is given -/
def obsY (as : List Addr) (fa : List Fa) (fn : List DefD) (tf : List Defn) (ex : PySem.W.Frag → Bool) (g : Addr → Option Obj) : AlX := (obsT fa fn [] (frT g as), ex (frT g as) && tabsB g tf (frT g as))
theorem saysY {as : List Addr} {fa : List Fa} {fn : List DefD} {tf : List Defn} {ex : PySem.W.Frag → Bool} {w : World} {h : Heap} (e : obsY as fa fn tf ex h.get? = valX fn [] w) : SaysX fa fn [] tf ex w h (frT h.get? as) := by
  obtain ⟨e1, e2⟩ := Prod.mk.inj e
  rw [Bool.and_eq_true] at e2
  have tab : ∀ p ∈ tf, PySem.W.codeHdIn (frT h.get? as) (cT (frT h.get? as) p).1 (cT (frT h.get? as) p).2 = true ∧ ∃ o, h.get? (cT (frT h.get? as) p).2 = some o ∧ emptyTab o = true := by
    intro p hp
    have z := List.all_eq_true.mp e2.2 p hp
    rw [Bool.and_eq_true] at z
    refine ⟨z.1, ?_⟩
    have z2 := z.2
    split at z2
    · rename_i o q; exact ⟨o, q, z2⟩
    · cases z2
  exact {
    t := e1
    more := e2.1
    hd := fun p hp => (tab p hp).1
    out := fun p hp => let ⟨_, o, q, z⟩ := tab p hp; frT_none q z
    empty := fun p hp => by obtain ⟨_, o, q, z⟩ := tab p hp; rw [q, emptyTab_eq z] }
def hookY (as : List Addr) (fa : List Fa) (fn : List DefD) (tf : List Defn) (ex : PySem.W.Frag → Bool) : PySem.W.Hook where
  α := AlX
  obs := fun s => obsY as fa fn tf ex s.heap.get?
  val := fun w => valX fn [] w
  says := fun w h => ∃ K : PySem.W.Frag, K.In h ∧ SaysX fa fn [] tf ex w h K
  of := fun _ _ e => ⟨_, frT_in, saysY e⟩
  keeps := fun _ _ _ ⟨K, hK, c⟩ k => ⟨K, hK.keeps k, { c with empty := fun p hp => k _ _ (c.empty p hp) }⟩
theorem obsY_eq {as : List Addr} {fa : List Fa} {fn : List DefD} {tf : List Defn} {ex : PySem.W.Frag → Bool} {g : Addr → Option Obj} {s : Shared} (h : ∀ a, g a = s.heap.get? a) : obsY as fa fn tf ex g = (hookY as fa fn tf ex).obs s := by
  have e := funext h
  subst e
  rfl
end Iv

set_option maxHeartbeats 0
namespace K11
open PySem PySem.Spec PyProof.Rows L2 Iv
def topS (i : Nat) : Stmt := PySem.Challenge.pw_holetubs_k11_written_tubs.main.body.getD i (.Pass ⟨0, 0, 0, 0⟩)
def yardF (rs : List R) (st : BSt) : Option (R × BSt) := match rs with
  | [.fz (.int u)] => if decide (1 ≤ u) && decide (u ≤ 10) then some (.ow (.list (List.replicate 8 (.bool true))), st) else none
  | _ => none
def d_is_whole : Df := { st := topS 3, N := ["thing"], ps := ["thing"] }
def d_is_whole_within : Df := { st := topS 4, N := ["thing", "least", "greatest"], ps := ["thing", "least", "greatest"] }
def d_common_divisor : Df := { st := topS 5, N := ["one", "other"], ps := ["one", "other"] }
def d_is_fraction : Df := { st := topS 6, N := ["thing", "top", "bottom"], ps := ["thing"] }
def d_reduced : Df := { st := topS 7, N := ["top", "bottom", "by"], ps := ["top", "bottom"] }
def d_less : Df := { st := topS 8, N := ["one", "other"], ps := ["one", "other"] }
def d_lesser : Df := { st := topS 9, N := ["one", "other"], ps := ["one", "other"] }
def d_plus : Df := { st := topS 10, N := ["one", "other"], ps := ["one", "other"] }
def d_minus : Df := { st := topS 11, N := ["one", "other"], ps := ["one", "other"] }
def d_times_by : Df := { st := topS 12, N := ["one", "many", "by"], ps := ["one", "many", "by"] }
def d_is_tuple_of : Df := { st := topS 23, N := ["thing", "least", "most"], ps := ["thing", "least", "most"] }
def d_is_rising : Df := { st := topS 24, N := ["numbers", "one", "other"], ps := ["numbers"] }
def d_is_name : Df := { st := topS 25, N := ["thing", "letter"], ps := ["thing"] }
def d_is_way : Df := { st := topS 26, N := ["thing"], ps := ["thing"] }
def d_is_hole : Df := { st := topS 27, N := ["thing", "height", "rate", "into"], ps := ["thing"] }
def d_are_holes : Df := { st := topS 28, N := ["thing", "part", "height", "rate", "into"], ps := ["thing"] }
def d_is_tub : Df := { st := topS 29, N := ["thing", "name", "ground", "holes"], ps := ["thing"] }
def d_names_of : Df := { st := topS 30, N := ["tubs", "name", "ground", "holes"], ps := ["tubs"] }
def d_fits_among : Df := { st := topS 31, N := ["tub", "ahead", "behind", "name", "ground", "holes", "height", "rate", "into"], ps := ["tub", "ahead", "behind"] }
def d_are_tubs : Df := { st := topS 32, N := ["thing", "part", "names", "at", "tub"], ps := ["thing"] }
def d_is_rain : Df := { st := topS 33, N := ["tubs", "thing", "part"], ps := ["tubs", "thing"] }
def d_holes_of : Df := { st := topS 34, N := ["tubs", "name", "ground", "holes", "height", "rate", "into"], ps := ["tubs"] }
def d_is_name_of : Df := { st := topS 35, N := ["tubs", "thing"], ps := ["tubs", "thing"] }
def d_is_hole_of : Df := { st := topS 36, N := ["tubs", "thing"], ps := ["tubs", "thing"] }
def d_tub_at : Df := { st := topS 37, N := ["tubs", "name"], ps := ["tubs", "name"] }
def d_place_of : Df := { st := topS 38, N := ["tubs", "hole", "name", "height", "at", "row"], ps := ["tubs", "hole"] }
def d_without_holes : Df := { st := topS 39, N := ["tubs", "plugs", "hole", "name", "ground", "holes"], ps := ["tubs", "plugs"] }
def d_flows : Df := { st := topS 41, N := ["tubs", "rain", "letting", "names", "comes", "lets", "at", "name", "ground", "holes", "own", "height", "rate", "into", "much"], ps := ["tubs", "rain", "letting"], hks := ["letting"] }
def d_shared_out : Df := { st := topS 45, N := ["holes", "much", "lets", "left", "height", "rate", "into"], ps := ["holes", "much"] }
def n_flows_in_the_end : Nd := { st := (defBody (topS 46)).headD (.Pass ⟨0, 0, 0, 0⟩), name := "letting", q := "flows_in_the_end.<locals>.letting", ix := 2, cap := [0], ps := ["at", "much"], fr := ["tubs"], N := ["at", "much", "tubs"] }
def d_flows_in_the_end : Df := { st := topS 46, N := ["tubs", "rain", "letting"], ps := ["tubs", "rain"], nd := some n_flows_in_the_end }
def d_lets_in_the_end : Df := { st := topS 47, N := ["tubs", "rain", "hole", "at", "which", "came", "lets"], ps := ["tubs", "rain", "hole"] }
def d_rest_of : Df := { st := topS 48, N := ["holes", "much", "least", "left", "height", "rate", "into"], ps := ["holes", "much"] }
def d_comes : Df := { st := topS 49, N := ["tubs", "rain"], ps := ["tubs", "rain"] }
def d_rests : Df := { st := topS 50, N := ["tubs", "rain", "name", "ground", "holes", "much"], ps := ["tubs", "rain"] }
def d_rain_with : Df := { st := topS 53, N := ["tubs", "rain", "name", "much", "at"], ps := ["tubs", "rain", "name", "much"] }
def d_comes_up_to : Df := { st := topS 54, N := ["tubs", "rain", "name", "height", "rest"], ps := ["tubs", "rain", "name", "height"] }
def d_least_rain : Df := { st := topS 55, N := ["tubs", "rain", "name", "other", "height", "least", "enough", "middle"], ps := ["tubs", "rain", "name", "other", "height"] }
def d_with_rate : Df := { st := topS 56, N := ["tubs", "hole", "rate", "at", "which", "name", "ground", "holes", "height", "old", "into", "tub"], ps := ["tubs", "hole", "rate"] }
def d_rates_by : Df := { st := topS 57, N := ["tubs", "rain", "hole", "another", "lets", "rate"], ps := ["tubs", "rain", "hole", "another", "lets"] }
def d_choices : Df := { st := topS 58, N := ["things", "many", "told", "at", "thing", "others"], ps := ["things", "many"] }
def d_fewest_plugs : Df := { st := topS 59, N := ["tubs", "rain", "name", "much", "at", "holes", "many", "plugs"], ps := ["tubs", "rain", "name", "much"] }
def d_hole_lets : Df := { st := topS 74, N := ["height", "rate", "level", "left"], ps := ["height", "rate", "level", "left"] }
def d_holes_let : Df := { st := topS 75, N := ["holes", "level", "comes", "lets", "left", "height", "rate", "into", "much"], ps := ["holes", "level", "comes"] }
def d_rain_at : Df := { st := topS 76, N := ["weather", "hour", "falling", "start", "rain"], ps := ["weather", "hour"] }
def n_stretch_from : Nd := { st := (defBody (topS 77)).headD (.Pass ⟨0, 0, 0, 0⟩), name := "letting", q := "stretch_from.<locals>.letting", ix := 4, cap := [3, 0], ps := ["at", "much"], fr := ["levels", "tubs"], N := ["at", "much", "levels", "tubs"] }
def d_stretch_from : Df := { st := topS 77, N := ["tubs", "weather", "hour", "levels", "letting", "comes", "lets", "gains", "came", "own"], ps := ["tubs", "weather", "hour", "levels"], nd := some n_stretch_from }
def d_levels_at : Df := { st := topS 78, N := ["tubs", "stretch", "hour", "start", "levels", "gains", "lets", "span", "grounds", "name", "ground", "holes", "level", "gain"], ps := ["tubs", "stretch", "hour"] }
def d_spans_to_holes : Df := { st := topS 79, N := ["tub", "level", "gain", "name", "ground", "holes", "spans", "height", "rate", "into", "span"], ps := ["tub", "level", "gain"] }
def d_end_of : Df := { st := topS 80, N := ["tubs", "weather", "stretch", "start", "levels", "gains", "lets", "ahead", "hour", "rain", "tub", "level", "gain", "span", "end"], ps := ["tubs", "weather", "stretch"] }
def d_stretches : Df := { st := topS 81, N := ["tubs", "weather", "beginning", "stretch", "told", "end"], ps := ["tubs", "weather", "beginning"] }
def d_levels_by : Df := { st := topS 82, N := ["tubs", "told", "hour", "begun", "stretch"], ps := ["tubs", "told", "hour"] }
def d_went_by : Df := { st := topS 83, N := ["tubs", "told", "hour", "hole", "at", "which", "begun", "stretch", "ends", "went", "start", "levels", "gains", "lets", "end"], ps := ["tubs", "told", "hour", "hole"] }
def d_heights : Df := { st := topS 84, N := ["tubs", "weather", "beginning", "hour"], ps := ["tubs", "weather", "beginning", "hour"] }
def d_through : Df := { st := topS 85, N := ["tubs", "weather", "beginning", "hour", "hole"], ps := ["tubs", "weather", "beginning", "hour", "hole"] }
def d_turns : Df := { st := topS 86, N := ["tubs", "weather", "beginning", "told", "turned", "before", "after", "tub", "old", "new"], ps := ["tubs", "weather", "beginning"] }
def d_settled : Df := { st := topS 87, N := ["tubs", "weather", "beginning", "turned"], ps := ["tubs", "weather", "beginning"] }
def d_at_first : Df := { st := topS 90, N := ["tubs", "hole"], ps := ["tubs"] }
def d_with_rain : Df := { st := topS 91, N := ["now", "other", "hour", "rain", "levels", "plugs", "went"], ps := ["now", "other"] }
def d_with_plugs : Df := { st := topS 92, N := ["now", "holes", "hour", "rain", "levels", "plugs", "went"], ps := ["now", "holes"] }
def d_after_pouring : Df := { st := topS 93, N := ["tubs", "now", "name", "height", "hour", "rain", "levels", "plugs", "went", "at"], ps := ["tubs", "now", "name", "height"] }
def d_after_hours : Df := { st := topS 94, N := ["tubs", "now", "hours", "hour", "rain", "levels", "plugs", "went", "unplugged", "told", "end", "more", "hole", "grown"], ps := ["tubs", "now", "hours"] }
def d_ways_away : Df := { st := topS 95, N := ["tubs", "name", "ground", "holes", "height", "rate", "into"], ps := ["tubs"] }
def d__law_bag : Df := { st := topS 99, N := ["script", "k", "cell"], ps := ["script", "k"] }
def d__law_take : Df := { st := topS 100, N := ["bag", "many", "found"], ps := ["bag", "many"] }
def d__law_lowest : Df := { st := topS 101, N := ["top", "bottom", "one", "other"], ps := ["top", "bottom"] }
def d__law_one_so : Df := { st := topS 104, N := ["u", "tub", "dry", "found", "wet", "drain", "rain"], ps := ["u"] }
def d__law_two_so : Df := { st := topS 105, N := ["u", "tubs", "dry", "weather", "found"], ps := ["u"] }
def d__law_yard_told : Df := { st := topS 106, N := ["u", "yard", "found"], ps := ["u"], ext := some (20, yardF) }
def d_law : Df := { st := topS 107, N := ["script", "k", "u"], ps := ["script"] }
def dfs0 : List (Str × Df) := [(("is_whole" : Str), d_is_whole), (("is_whole_within" : Str), d_is_whole_within), (("common_divisor" : Str), d_common_divisor), (("is_fraction" : Str), d_is_fraction), (("reduced" : Str), d_reduced), (("less" : Str), d_less), (("lesser" : Str), d_lesser), (("plus" : Str), d_plus)]
def dfs1 : List (Str × Df) := [(("minus" : Str), d_minus), (("times_by" : Str), d_times_by), (("is_tuple_of" : Str), d_is_tuple_of), (("is_rising" : Str), d_is_rising), (("is_name" : Str), d_is_name), (("is_way" : Str), d_is_way), (("is_hole" : Str), d_is_hole), (("are_holes" : Str), d_are_holes)]
def dfs2 : List (Str × Df) := [(("is_tub" : Str), d_is_tub), (("names_of" : Str), d_names_of), (("fits_among" : Str), d_fits_among), (("are_tubs" : Str), d_are_tubs), (("is_rain" : Str), d_is_rain), (("holes_of" : Str), d_holes_of), (("is_name_of" : Str), d_is_name_of), (("is_hole_of" : Str), d_is_hole_of)]
def dfs3 : List (Str × Df) := [(("tub_at" : Str), d_tub_at), (("place_of" : Str), d_place_of), (("without_holes" : Str), d_without_holes), (("flows" : Str), d_flows), (("shared_out" : Str), d_shared_out), (("flows_in_the_end" : Str), d_flows_in_the_end), (("lets_in_the_end" : Str), d_lets_in_the_end), (("rest_of" : Str), d_rest_of)]
def dfs4 : List (Str × Df) := [(("comes" : Str), d_comes), (("rests" : Str), d_rests), (("rain_with" : Str), d_rain_with), (("comes_up_to" : Str), d_comes_up_to), (("least_rain" : Str), d_least_rain), (("with_rate" : Str), d_with_rate), (("rates_by" : Str), d_rates_by), (("choices" : Str), d_choices)]
def dfs5 : List (Str × Df) := [(("fewest_plugs" : Str), d_fewest_plugs), (("hole_lets" : Str), d_hole_lets), (("holes_let" : Str), d_holes_let), (("rain_at" : Str), d_rain_at), (("stretch_from" : Str), d_stretch_from), (("levels_at" : Str), d_levels_at), (("spans_to_holes" : Str), d_spans_to_holes), (("end_of" : Str), d_end_of)]
def dfs6 : List (Str × Df) := [(("stretches" : Str), d_stretches), (("levels_by" : Str), d_levels_by), (("went_by" : Str), d_went_by), (("heights" : Str), d_heights), (("through" : Str), d_through), (("turns" : Str), d_turns), (("settled" : Str), d_settled), (("at_first" : Str), d_at_first)]
def dfs7 : List (Str × Df) := [(("with_rain" : Str), d_with_rain), (("with_plugs" : Str), d_with_plugs), (("after_pouring" : Str), d_after_pouring), (("after_hours" : Str), d_after_hours), (("ways_away" : Str), d_ways_away), (("_law_bag" : Str), d__law_bag), (("_law_take" : Str), d__law_take), (("_law_lowest" : Str), d__law_lowest)]
def dfs8 : List (Str × Df) := [(("_law_one_so" : Str), d__law_one_so), (("_law_two_so" : Str), d__law_two_so), (("_law_yard_told" : Str), d__law_yard_told), (("law" : Str), d_law)]
def tbl : Tbl where
  dfs := dfs0 ++ dfs1 ++ dfs2 ++ dfs3 ++ dfs4 ++ dfs5 ++ dfs6 ++ dfs7 ++ dfs8
  csts := [(("LETTERS" : Str), .inr ("abcdefghijklmnopqrstuvwxyz" : Str)), (("LONGEST_NAME" : Str), .inl 8), (("AWAY" : Str), .inr ("" : Str)), (("HIGHEST_HOLE" : Str), .inl 1000), (("GREATEST_RATE" : Str), .inl 100), (("GREATEST_GROUND" : Str), .inl 1000), (("MOST_HOLES" : Str), .inl 3), (("MOST_TUBS" : Str), .inl 3), (("GREATEST_RAIN" : Str), .inl 1000), (("BOTTOM" : Str), .inl 0), (("GREATEST_LEAST_RAIN" : Str), .inl 100000), (("MOST_HOURS" : Str), .inl 1000)]
  tups := [(("NOUGHT" : Str), [.inl 0, .inl 1]), (("RISES" : Str), [.inr ("rises" : Str)])]
  blts := (["isinstance", "int", "bool", "tuple", "len", "abs", "all", "zip"] : List Str) ++ (["str", "enumerate", "list", "min", "range", "sorted", "max", "sum"] : List Str)
  nfs := [(("flows_in_the_end.<locals>.letting" : Str), n_flows_in_the_end), (("stretch_from.<locals>.letting" : Str), n_stretch_from)]
theorem k_is_whole : DefB d_is_whole := ⟨⟨rfl, rfl, rfl, by decide +kernel, rfl, by decide +kernel, by decide +kernel⟩, fun _ _ _ _ _ _ _ us hl => match us, hl with | [_], _ => rfl⟩
theorem k_is_whole_within : DefB d_is_whole_within := ⟨⟨rfl, rfl, rfl, by decide +kernel, rfl, by decide +kernel, by decide +kernel⟩, fun _ _ _ _ _ _ _ us hl => match us, hl with | [_, _, _], _ => rfl⟩
theorem k_common_divisor : DefB d_common_divisor := ⟨⟨rfl, rfl, rfl, by decide +kernel, rfl, by decide +kernel, by decide +kernel⟩, fun _ _ _ _ _ _ _ us hl => match us, hl with | [_, _], _ => rfl⟩
theorem k_is_fraction : DefB d_is_fraction := ⟨⟨rfl, rfl, rfl, by decide +kernel, rfl, by decide +kernel, by decide +kernel⟩, fun _ _ _ _ _ _ _ us hl => match us, hl with | [_], _ => rfl⟩
theorem k_reduced : DefB d_reduced := ⟨⟨rfl, rfl, rfl, by decide +kernel, rfl, by decide +kernel, by decide +kernel⟩, fun _ _ _ _ _ _ _ us hl => match us, hl with | [_, _], _ => rfl⟩
theorem k_less : DefB d_less := ⟨⟨rfl, rfl, rfl, by decide +kernel, rfl, by decide +kernel, by decide +kernel⟩, fun _ _ _ _ _ _ _ us hl => match us, hl with | [_, _], _ => rfl⟩
theorem k_lesser : DefB d_lesser := ⟨⟨rfl, rfl, rfl, by decide +kernel, rfl, by decide +kernel, by decide +kernel⟩, fun _ _ _ _ _ _ _ us hl => match us, hl with | [_, _], _ => rfl⟩
theorem k_plus : DefB d_plus := ⟨⟨rfl, rfl, rfl, by decide +kernel, rfl, by decide +kernel, by decide +kernel⟩, fun _ _ _ _ _ _ _ us hl => match us, hl with | [_, _], _ => rfl⟩
theorem k_minus : DefB d_minus := ⟨⟨rfl, rfl, rfl, by decide +kernel, rfl, by decide +kernel, by decide +kernel⟩, fun _ _ _ _ _ _ _ us hl => match us, hl with | [_, _], _ => rfl⟩
theorem k_times_by : DefB d_times_by := ⟨⟨rfl, rfl, rfl, by decide +kernel, rfl, by decide +kernel, by decide +kernel⟩, fun _ _ _ _ _ _ _ us hl => match us, hl with | [_, _, _], _ => rfl⟩
theorem k_is_tuple_of : DefB d_is_tuple_of := ⟨⟨rfl, rfl, rfl, by decide +kernel, rfl, by decide +kernel, by decide +kernel⟩, fun _ _ _ _ _ _ _ us hl => match us, hl with | [_, _, _], _ => rfl⟩
theorem k_is_rising : DefB d_is_rising := ⟨⟨rfl, rfl, rfl, by decide +kernel, rfl, by decide +kernel, by decide +kernel⟩, fun _ _ _ _ _ _ _ us hl => match us, hl with | [_], _ => rfl⟩
theorem k_is_name : DefB d_is_name := ⟨⟨rfl, rfl, rfl, by decide +kernel, rfl, by decide +kernel, by decide +kernel⟩, fun _ _ _ _ _ _ _ us hl => match us, hl with | [_], _ => rfl⟩
theorem k_is_way : DefB d_is_way := ⟨⟨rfl, rfl, rfl, by decide +kernel, rfl, by decide +kernel, by decide +kernel⟩, fun _ _ _ _ _ _ _ us hl => match us, hl with | [_], _ => rfl⟩
theorem k_is_hole : DefB d_is_hole := ⟨⟨rfl, rfl, rfl, by decide +kernel, rfl, by decide +kernel, by decide +kernel⟩, fun _ _ _ _ _ _ _ us hl => match us, hl with | [_], _ => rfl⟩
theorem k_are_holes : DefB d_are_holes := ⟨⟨rfl, rfl, rfl, by decide +kernel, rfl, by decide +kernel, by decide +kernel⟩, fun _ _ _ _ _ _ _ us hl => match us, hl with | [_], _ => rfl⟩
theorem k_is_tub : DefB d_is_tub := ⟨⟨rfl, rfl, rfl, by decide +kernel, rfl, by decide +kernel, by decide +kernel⟩, fun _ _ _ _ _ _ _ us hl => match us, hl with | [_], _ => rfl⟩
theorem k_names_of : DefB d_names_of := ⟨⟨rfl, rfl, rfl, by decide +kernel, rfl, by decide +kernel, by decide +kernel⟩, fun _ _ _ _ _ _ _ us hl => match us, hl with | [_], _ => rfl⟩
theorem k_fits_among : DefB d_fits_among := ⟨⟨rfl, rfl, rfl, by decide +kernel, rfl, by decide +kernel, by decide +kernel⟩, fun _ _ _ _ _ _ _ us hl => match us, hl with | [_, _, _], _ => rfl⟩
theorem k_are_tubs : DefB d_are_tubs := ⟨⟨rfl, rfl, rfl, by decide +kernel, rfl, by decide +kernel, by decide +kernel⟩, fun _ _ _ _ _ _ _ us hl => match us, hl with | [_], _ => rfl⟩
theorem k_is_rain : DefB d_is_rain := ⟨⟨rfl, rfl, rfl, by decide +kernel, rfl, by decide +kernel, by decide +kernel⟩, fun _ _ _ _ _ _ _ us hl => match us, hl with | [_, _], _ => rfl⟩
theorem k_holes_of : DefB d_holes_of := ⟨⟨rfl, rfl, rfl, by decide +kernel, rfl, by decide +kernel, by decide +kernel⟩, fun _ _ _ _ _ _ _ us hl => match us, hl with | [_], _ => rfl⟩
theorem k_is_name_of : DefB d_is_name_of := ⟨⟨rfl, rfl, rfl, by decide +kernel, rfl, by decide +kernel, by decide +kernel⟩, fun _ _ _ _ _ _ _ us hl => match us, hl with | [_, _], _ => rfl⟩
theorem k_is_hole_of : DefB d_is_hole_of := ⟨⟨rfl, rfl, rfl, by decide +kernel, rfl, by decide +kernel, by decide +kernel⟩, fun _ _ _ _ _ _ _ us hl => match us, hl with | [_, _], _ => rfl⟩
theorem k_tub_at : DefB d_tub_at := ⟨⟨rfl, rfl, rfl, by decide +kernel, rfl, by decide +kernel, by decide +kernel⟩, fun _ _ _ _ _ _ _ us hl => match us, hl with | [_, _], _ => rfl⟩
theorem k_place_of : DefB d_place_of := ⟨⟨rfl, rfl, rfl, by decide +kernel, rfl, by decide +kernel, by decide +kernel⟩, fun _ _ _ _ _ _ _ us hl => match us, hl with | [_, _], _ => rfl⟩
theorem k_without_holes : DefB d_without_holes := ⟨⟨rfl, rfl, rfl, by decide +kernel, rfl, by decide +kernel, by decide +kernel⟩, fun _ _ _ _ _ _ _ us hl => match us, hl with | [_, _], _ => rfl⟩
theorem k_flows : DefB d_flows := ⟨⟨rfl, rfl, rfl, by decide +kernel, rfl, by decide +kernel, by decide +kernel⟩, fun _ _ _ _ _ _ _ us hl => match us, hl with | [_, _, _], _ => rfl⟩
theorem k_shared_out : DefB d_shared_out := ⟨⟨rfl, rfl, rfl, by decide +kernel, rfl, by decide +kernel, by decide +kernel⟩, fun _ _ _ _ _ _ _ us hl => match us, hl with | [_, _], _ => rfl⟩
theorem k_flows_in_the_end : DefB d_flows_in_the_end := ⟨⟨rfl, rfl, rfl, by decide +kernel, rfl, by decide +kernel, by decide +kernel⟩, fun _ _ _ _ _ _ _ us hl => match us, hl with | [_, _], _ => rfl⟩
theorem k_lets_in_the_end : DefB d_lets_in_the_end := ⟨⟨rfl, rfl, rfl, by decide +kernel, rfl, by decide +kernel, by decide +kernel⟩, fun _ _ _ _ _ _ _ us hl => match us, hl with | [_, _, _], _ => rfl⟩
theorem k_rest_of : DefB d_rest_of := ⟨⟨rfl, rfl, rfl, by decide +kernel, rfl, by decide +kernel, by decide +kernel⟩, fun _ _ _ _ _ _ _ us hl => match us, hl with | [_, _], _ => rfl⟩
theorem k_comes : DefB d_comes := ⟨⟨rfl, rfl, rfl, by decide +kernel, rfl, by decide +kernel, by decide +kernel⟩, fun _ _ _ _ _ _ _ us hl => match us, hl with | [_, _], _ => rfl⟩
theorem k_rests : DefB d_rests := ⟨⟨rfl, rfl, rfl, by decide +kernel, rfl, by decide +kernel, by decide +kernel⟩, fun _ _ _ _ _ _ _ us hl => match us, hl with | [_, _], _ => rfl⟩
theorem k_rain_with : DefB d_rain_with := ⟨⟨rfl, rfl, rfl, by decide +kernel, rfl, by decide +kernel, by decide +kernel⟩, fun _ _ _ _ _ _ _ us hl => match us, hl with | [_, _, _, _], _ => rfl⟩
theorem k_comes_up_to : DefB d_comes_up_to := ⟨⟨rfl, rfl, rfl, by decide +kernel, rfl, by decide +kernel, by decide +kernel⟩, fun _ _ _ _ _ _ _ us hl => match us, hl with | [_, _, _, _], _ => rfl⟩
theorem k_least_rain : DefB d_least_rain := ⟨⟨rfl, rfl, rfl, by decide +kernel, rfl, by decide +kernel, by decide +kernel⟩, fun _ _ _ _ _ _ _ us hl => match us, hl with | [_, _, _, _, _], _ => rfl⟩
theorem k_with_rate : DefB d_with_rate := ⟨⟨rfl, rfl, rfl, by decide +kernel, rfl, by decide +kernel, by decide +kernel⟩, fun _ _ _ _ _ _ _ us hl => match us, hl with | [_, _, _], _ => rfl⟩
theorem k_rates_by : DefB d_rates_by := ⟨⟨rfl, rfl, rfl, by decide +kernel, rfl, by decide +kernel, by decide +kernel⟩, fun _ _ _ _ _ _ _ us hl => match us, hl with | [_, _, _, _, _], _ => rfl⟩
theorem k_choices : DefB d_choices := ⟨⟨rfl, rfl, rfl, by decide +kernel, rfl, by decide +kernel, by decide +kernel⟩, fun _ _ _ _ _ _ _ us hl => match us, hl with | [_, _], _ => rfl⟩
theorem k_fewest_plugs : DefB d_fewest_plugs := ⟨⟨rfl, rfl, rfl, by decide +kernel, rfl, by decide +kernel, by decide +kernel⟩, fun _ _ _ _ _ _ _ us hl => match us, hl with | [_, _, _, _], _ => rfl⟩
theorem k_hole_lets : DefB d_hole_lets := ⟨⟨rfl, rfl, rfl, by decide +kernel, rfl, by decide +kernel, by decide +kernel⟩, fun _ _ _ _ _ _ _ us hl => match us, hl with | [_, _, _, _], _ => rfl⟩
theorem k_holes_let : DefB d_holes_let := ⟨⟨rfl, rfl, rfl, by decide +kernel, rfl, by decide +kernel, by decide +kernel⟩, fun _ _ _ _ _ _ _ us hl => match us, hl with | [_, _, _], _ => rfl⟩
theorem k_rain_at : DefB d_rain_at := ⟨⟨rfl, rfl, rfl, by decide +kernel, rfl, by decide +kernel, by decide +kernel⟩, fun _ _ _ _ _ _ _ us hl => match us, hl with | [_, _], _ => rfl⟩
theorem k_stretch_from : DefB d_stretch_from := ⟨⟨rfl, rfl, rfl, by decide +kernel, rfl, by decide +kernel, by decide +kernel⟩, fun _ _ _ _ _ _ _ us hl => match us, hl with | [_, _, _, _], _ => rfl⟩
theorem k_levels_at : DefB d_levels_at := ⟨⟨rfl, rfl, rfl, by decide +kernel, rfl, by decide +kernel, by decide +kernel⟩, fun _ _ _ _ _ _ _ us hl => match us, hl with | [_, _, _], _ => rfl⟩
theorem k_spans_to_holes : DefB d_spans_to_holes := ⟨⟨rfl, rfl, rfl, by decide +kernel, rfl, by decide +kernel, by decide +kernel⟩, fun _ _ _ _ _ _ _ us hl => match us, hl with | [_, _, _], _ => rfl⟩
theorem k_end_of : DefB d_end_of := ⟨⟨rfl, rfl, rfl, by decide +kernel, rfl, by decide +kernel, by decide +kernel⟩, fun _ _ _ _ _ _ _ us hl => match us, hl with | [_, _, _], _ => rfl⟩
theorem k_stretches : DefB d_stretches := ⟨⟨rfl, rfl, rfl, by decide +kernel, rfl, by decide +kernel, by decide +kernel⟩, fun _ _ _ _ _ _ _ us hl => match us, hl with | [_, _, _], _ => rfl⟩
theorem k_levels_by : DefB d_levels_by := ⟨⟨rfl, rfl, rfl, by decide +kernel, rfl, by decide +kernel, by decide +kernel⟩, fun _ _ _ _ _ _ _ us hl => match us, hl with | [_, _, _], _ => rfl⟩
theorem k_went_by : DefB d_went_by := ⟨⟨rfl, rfl, rfl, by decide +kernel, rfl, by decide +kernel, by decide +kernel⟩, fun _ _ _ _ _ _ _ us hl => match us, hl with | [_, _, _, _], _ => rfl⟩
theorem k_heights : DefB d_heights := ⟨⟨rfl, rfl, rfl, by decide +kernel, rfl, by decide +kernel, by decide +kernel⟩, fun _ _ _ _ _ _ _ us hl => match us, hl with | [_, _, _, _], _ => rfl⟩
theorem k_through : DefB d_through := ⟨⟨rfl, rfl, rfl, by decide +kernel, rfl, by decide +kernel, by decide +kernel⟩, fun _ _ _ _ _ _ _ us hl => match us, hl with | [_, _, _, _, _], _ => rfl⟩
theorem k_turns : DefB d_turns := ⟨⟨rfl, rfl, rfl, by decide +kernel, rfl, by decide +kernel, by decide +kernel⟩, fun _ _ _ _ _ _ _ us hl => match us, hl with | [_, _, _], _ => rfl⟩
theorem k_settled : DefB d_settled := ⟨⟨rfl, rfl, rfl, by decide +kernel, rfl, by decide +kernel, by decide +kernel⟩, fun _ _ _ _ _ _ _ us hl => match us, hl with | [_, _, _], _ => rfl⟩
theorem k_at_first : DefB d_at_first := ⟨⟨rfl, rfl, rfl, by decide +kernel, rfl, by decide +kernel, by decide +kernel⟩, fun _ _ _ _ _ _ _ us hl => match us, hl with | [_], _ => rfl⟩
theorem k_with_rain : DefB d_with_rain := ⟨⟨rfl, rfl, rfl, by decide +kernel, rfl, by decide +kernel, by decide +kernel⟩, fun _ _ _ _ _ _ _ us hl => match us, hl with | [_, _], _ => rfl⟩
theorem k_with_plugs : DefB d_with_plugs := ⟨⟨rfl, rfl, rfl, by decide +kernel, rfl, by decide +kernel, by decide +kernel⟩, fun _ _ _ _ _ _ _ us hl => match us, hl with | [_, _], _ => rfl⟩
theorem k_after_pouring : DefB d_after_pouring := ⟨⟨rfl, rfl, rfl, by decide +kernel, rfl, by decide +kernel, by decide +kernel⟩, fun _ _ _ _ _ _ _ us hl => match us, hl with | [_, _, _, _], _ => rfl⟩
theorem k_after_hours : DefB d_after_hours := ⟨⟨rfl, rfl, rfl, by decide +kernel, rfl, by decide +kernel, by decide +kernel⟩, fun _ _ _ _ _ _ _ us hl => match us, hl with | [_, _, _], _ => rfl⟩
theorem k_ways_away : DefB d_ways_away := ⟨⟨rfl, rfl, rfl, by decide +kernel, rfl, by decide +kernel, by decide +kernel⟩, fun _ _ _ _ _ _ _ us hl => match us, hl with | [_], _ => rfl⟩
theorem k__law_bag : DefB d__law_bag := ⟨⟨rfl, rfl, rfl, by decide +kernel, rfl, by decide +kernel, by decide +kernel⟩, fun _ _ _ _ _ _ _ us hl => match us, hl with | [_, _], _ => rfl⟩
theorem k__law_take : DefB d__law_take := ⟨⟨rfl, rfl, rfl, by decide +kernel, rfl, by decide +kernel, by decide +kernel⟩, fun _ _ _ _ _ _ _ us hl => match us, hl with | [_, _], _ => rfl⟩
theorem k__law_lowest : DefB d__law_lowest := ⟨⟨rfl, rfl, rfl, by decide +kernel, rfl, by decide +kernel, by decide +kernel⟩, fun _ _ _ _ _ _ _ us hl => match us, hl with | [_, _], _ => rfl⟩
theorem k__law_one_so : DefB d__law_one_so := ⟨⟨rfl, rfl, rfl, by decide +kernel, rfl, by decide +kernel, by decide +kernel⟩, fun _ _ _ _ _ _ _ us hl => match us, hl with | [_], _ => rfl⟩
theorem k__law_two_so : DefB d__law_two_so := ⟨⟨rfl, rfl, rfl, by decide +kernel, rfl, by decide +kernel, by decide +kernel⟩, fun _ _ _ _ _ _ _ us hl => match us, hl with | [_], _ => rfl⟩
theorem k__law_yard_told : DefB d__law_yard_told := ⟨⟨rfl, rfl, rfl, by decide +kernel, rfl, by decide +kernel, by decide +kernel⟩, fun _ _ _ _ _ _ _ us hl => match us, hl with | [_], _ => rfl⟩
theorem k_law : DefB d_law := ⟨⟨rfl, rfl, rfl, by decide +kernel, rfl, by decide +kernel, by decide +kernel⟩, fun _ _ _ _ _ _ _ us hl => match us, hl with | [_], _ => rfl⟩
@[reducible] def ctI : Ct := ⟨[[.int 0, .int 1], [.str "rises"]]⟩
local instance ctI_K11H : Iv.Ct := ctI
def nmf (a0 a1 a : Addr) (_ _ : Nat) : Str := if a = a0 then "flows_in_the_end.<locals>.letting" else if a = a1 then "stretch_from.<locals>.letting" else "_law_yard_told.<locals>.<lambda>"
abbrev nmI (a0 a1 a2 : Addr) : Nm := ⟨nmf a0 a1, [a0, a1, a2], fun q => tbl.nfs.lookup q⟩
theorem ko_flows_in_the_end : NdOk n_flows_in_the_end := ⟨NdefX.nscope_by (by decide +kernel), fun _ _ _ _ _ _ us hl => match us, hl with | [_, _], _ => rfl⟩
theorem ki_flows_in_the_end [Nm] (hn : ∀ q, Nm.nds q = tbl.nfs.lookup q) : NdIn "flows_in_the_end" d_flows_in_the_end n_flows_in_the_end := by
  exact ⟨rfl, rfl, (hn _).trans rfl, ⟨_, rfl⟩, by decide +kernel, rfl, rfl, fun _ => rfl, rfl, by decide +kernel, rfl⟩
theorem ko_stretch_from : NdOk n_stretch_from := ⟨NdefX.nscope_by (by decide +kernel), fun _ _ _ _ _ _ us hl => match us, hl with | [_, _], _ => rfl⟩
theorem ki_stretch_from [Nm] (hn : ∀ q, Nm.nds q = tbl.nfs.lookup q) : NdIn "stretch_from" d_stretch_from n_stretch_from := by
  exact ⟨rfl, rfl, (hn _).trans rfl, ⟨_, rfl⟩, by decide +kernel, rfl, rfl, fun _ => rfl, rfl, by decide +kernel, rfl⟩
theorem oks [Nm] (hn : ∀ q, Nm.nds q = tbl.nfs.lookup q) : TblOk tbl := by
  refine ⟨fun p hp => ?_, fun p hp nd h => ?_, fun p hp => ?_, fun q nd h => ?_⟩
  · simp only [tbl, dfs0, dfs1, dfs2, dfs3, dfs4, dfs5, dfs6, dfs7, dfs8, List.mem_append, List.mem_cons, List.not_mem_nil, or_false] at hp
    rcases hp with (((((((((rfl | rfl | rfl | rfl | rfl | rfl | rfl | rfl) | (rfl | rfl | rfl | rfl | rfl | rfl | rfl | rfl)) | (rfl | rfl | rfl | rfl | rfl | rfl | rfl | rfl)) | (rfl | rfl | rfl | rfl | rfl | rfl | rfl | rfl)) | (rfl | rfl | rfl | rfl | rfl | rfl | rfl | rfl)) | (rfl | rfl | rfl | rfl | rfl | rfl | rfl | rfl)) | (rfl | rfl | rfl | rfl | rfl | rfl | rfl | rfl)) | (rfl | rfl | rfl | rfl | rfl | rfl | rfl | rfl)) | (rfl | rfl | rfl | rfl))
    · exact k_is_whole
    · exact k_is_whole_within
    · exact k_common_divisor
    · exact k_is_fraction
    · exact k_reduced
    · exact k_less
    · exact k_lesser
    · exact k_plus
    · exact k_minus
    · exact k_times_by
    · exact k_is_tuple_of
    · exact k_is_rising
    · exact k_is_name
    · exact k_is_way
    · exact k_is_hole
    · exact k_are_holes
    · exact k_is_tub
    · exact k_names_of
    · exact k_fits_among
    · exact k_are_tubs
    · exact k_is_rain
    · exact k_holes_of
    · exact k_is_name_of
    · exact k_is_hole_of
    · exact k_tub_at
    · exact k_place_of
    · exact k_without_holes
    · exact k_flows
    · exact k_shared_out
    · exact k_flows_in_the_end
    · exact k_lets_in_the_end
    · exact k_rest_of
    · exact k_comes
    · exact k_rests
    · exact k_rain_with
    · exact k_comes_up_to
    · exact k_least_rain
    · exact k_with_rate
    · exact k_rates_by
    · exact k_choices
    · exact k_fewest_plugs
    · exact k_hole_lets
    · exact k_holes_let
    · exact k_rain_at
    · exact k_stretch_from
    · exact k_levels_at
    · exact k_spans_to_holes
    · exact k_end_of
    · exact k_stretches
    · exact k_levels_by
    · exact k_went_by
    · exact k_heights
    · exact k_through
    · exact k_turns
    · exact k_settled
    · exact k_at_first
    · exact k_with_rain
    · exact k_with_plugs
    · exact k_after_pouring
    · exact k_after_hours
    · exact k_ways_away
    · exact k__law_bag
    · exact k__law_take
    · exact k__law_lowest
    · exact k__law_one_so
    · exact k__law_two_so
    · exact k__law_yard_told
    · exact k_law
  · simp only [tbl, dfs0, dfs1, dfs2, dfs3, dfs4, dfs5, dfs6, dfs7, dfs8, List.mem_append, List.mem_cons, List.not_mem_nil, or_false] at hp
    rcases hp with (((((((((rfl | rfl | rfl | rfl | rfl | rfl | rfl | rfl) | (rfl | rfl | rfl | rfl | rfl | rfl | rfl | rfl)) | (rfl | rfl | rfl | rfl | rfl | rfl | rfl | rfl)) | (rfl | rfl | rfl | rfl | rfl | rfl | rfl | rfl)) | (rfl | rfl | rfl | rfl | rfl | rfl | rfl | rfl)) | (rfl | rfl | rfl | rfl | rfl | rfl | rfl | rfl)) | (rfl | rfl | rfl | rfl | rfl | rfl | rfl | rfl)) | (rfl | rfl | rfl | rfl | rfl | rfl | rfl | rfl)) | (rfl | rfl | rfl | rfl))
    · cases h
    · cases h
    · cases h
    · cases h
    · cases h
    · cases h
    · cases h
    · cases h
    · cases h
    · cases h
    · cases h
    · cases h
    · cases h
    · cases h
    · cases h
    · cases h
    · cases h
    · cases h
    · cases h
    · cases h
    · cases h
    · cases h
    · cases h
    · cases h
    · cases h
    · cases h
    · cases h
    · cases h
    · cases h
    · cases h; exact ki_flows_in_the_end hn
    · cases h
    · cases h
    · cases h
    · cases h
    · cases h
    · cases h
    · cases h
    · cases h
    · cases h
    · cases h
    · cases h
    · cases h
    · cases h
    · cases h
    · cases h; exact ki_stretch_from hn
    · cases h
    · cases h
    · cases h
    · cases h
    · cases h
    · cases h
    · cases h
    · cases h
    · cases h
    · cases h
    · cases h
    · cases h
    · cases h
    · cases h
    · cases h
    · cases h
    · cases h
    · cases h
    · cases h
    · cases h
    · cases h
    · cases h
    · cases h
  · simp only [tbl, List.mem_cons, List.not_mem_nil, or_false] at hp
    rcases hp with rfl | rfl
    · exact List.mem_cons_self
    · exact List.mem_cons_of_mem _ (List.mem_cons_self)
  · rw [hn] at h
    have h : List.lookup q [(("flows_in_the_end.<locals>.letting" : Str), n_flows_in_the_end), (("stretch_from.<locals>.letting" : Str), n_stretch_from)] = some nd := h
    rw [List.lookup_cons] at h
    split at h
    · rename_i e; cases h; have e := eq_of_beq e; subst e; exact ⟨rfl, by decide +kernel, ko_flows_in_the_end⟩
    rw [List.lookup_cons] at h
    split at h
    · rename_i e; cases h; have e := eq_of_beq e; subst e; exact ⟨rfl, by decide +kernel, ko_stretch_from⟩
    cases h
end K11

set_option maxHeartbeats 4000000
namespace K11
open PySem PySem.Spec PyProof.Rows L2 Iv
local instance ctI_K11X : Iv.Ct := ctI
def loose : List Str := (["_wall", "__name__", "NOUGHT", "is_whole", "is_whole_within", "common_divisor", "is_fraction", "reduced", "less", "lesser"] : List Str) ++ (["plus", "minus", "times_by", "LETTERS", "LONGEST_NAME", "AWAY", "HIGHEST_HOLE", "GREATEST_RATE", "GREATEST_GROUND", "MOST_HOLES"] : List Str) ++ (["MOST_TUBS", "GREATEST_RAIN", "is_tuple_of", "is_rising", "is_name", "is_way", "is_hole", "are_holes", "is_tub", "names_of"] : List Str) ++ (["fits_among", "are_tubs", "is_rain", "holes_of", "is_name_of", "is_hole_of", "tub_at", "place_of", "without_holes", "flows"] : List Str) ++ (["RISES", "BOTTOM", "shared_out", "flows_in_the_end", "lets_in_the_end", "rest_of", "comes", "rests", "GREATEST_LEAST_RAIN", "rain_with"] : List Str) ++ (["comes_up_to", "least_rain", "with_rate", "rates_by", "choices", "fewest_plugs", "TubError", "ToldError", "NoTubs", "NoRain"] : List Str) ++ (["NoName", "NoHeight", "NoHole", "NoHours", "AskedError", "Plugged", "NotPlugged", "NothingLeft", "hole_lets", "holes_let"] : List Str) ++ (["rain_at", "stretch_from", "levels_at", "spans_to_holes", "end_of", "stretches", "levels_by", "went_by", "heights", "through"] : List Str) ++ (["turns", "settled", "MOST_HOURS", "at_first", "with_rain", "with_plugs", "after_pouring", "after_hours", "ways_away", "refuse_no_hole"] : List Str) ++ (["Yard", "_law_bag", "_law_take", "_law_lowest", "_law_kinds", "_law_told", "_law_one_so", "_law_two_so", "_law_yard_told"] : List Str)
abbrev RR : PySem.W.OpenRow := PySem.W.OpenLaw.row PySem.Challenge.rw_holetubs_k11_written_tubs
abbrev s_refuse_no_hole : Stmt := topS 96
abbrev s_Y___init__ : Stmt := inClass (topS 97) 0
abbrev s_Y_become : Stmt := inClass (topS 97) 1
abbrev s_Y_set_rain : Stmt := inClass (topS 97) 2
abbrev s_Y_pour : Stmt := inClass (topS 97) 3
abbrev s_Y_plug : Stmt := inClass (topS 97) 4
abbrev s_Y_unplug : Stmt := inClass (topS 97) 5
abbrev s_Y_go_on : Stmt := inClass (topS 97) 6
abbrev s_Y_back : Stmt := inClass (topS 97) 7
abbrev s_Y_hour : Stmt := inClass (topS 97) 8
abbrev s_Y_heights : Stmt := inClass (topS 97) 9
abbrev s_Y_plugged : Stmt := inClass (topS 97) 10
abbrev s_Y_through : Stmt := inClass (topS 97) 11
abbrev s_Y_away : Stmt := inClass (topS 97) 12
abbrev s_Y___len__ : Stmt := inClass (topS 97) 13
abbrev s_Y___eq__ : Stmt := inClass (topS 97) 14
abbrev s__law_kinds : Stmt := topS 102
abbrev s__law_told : Stmt := topS 103
def fnX : List He.DefD := [⟨(("refuse_no_hole" : Str), none), ("refuse_no_hole" : Str), ("refuse_no_hole" : Str), defArgs s_refuse_no_hole, defBody s_refuse_no_hole, defScope s_refuse_no_hole, [], []⟩, ⟨(("Yard" : Str), some ("__init__" : Str)), ("__init__" : Str), ("Yard.__init__" : Str), defArgs s_Y___init__, defBody s_Y___init__, defScope s_Y___init__, [], []⟩, ⟨(("Yard" : Str), some ("become" : Str)), ("become" : Str), ("Yard.become" : Str), defArgs s_Y_become, defBody s_Y_become, defScope s_Y_become, [], []⟩, ⟨(("Yard" : Str), some ("set_rain" : Str)), ("set_rain" : Str), ("Yard.set_rain" : Str), defArgs s_Y_set_rain, defBody s_Y_set_rain, defScope s_Y_set_rain, [], []⟩, ⟨(("Yard" : Str), some ("plug" : Str)), ("plug" : Str), ("Yard.plug" : Str), defArgs s_Y_plug, defBody s_Y_plug, defScope s_Y_plug, [], []⟩, ⟨(("Yard" : Str), some ("go_on" : Str)), ("go_on" : Str), ("Yard.go_on" : Str), defArgs s_Y_go_on, defBody s_Y_go_on, defScope s_Y_go_on, [], []⟩, ⟨(("Yard" : Str), some ("back" : Str)), ("back" : Str), ("Yard.back" : Str), defArgs s_Y_back, defBody s_Y_back, defScope s_Y_back, [], []⟩, ⟨(("Yard" : Str), some ("hour" : Str)), ("hour" : Str), ("Yard.hour" : Str), defArgs s_Y_hour, defBody s_Y_hour, defScope s_Y_hour, [], []⟩, ⟨(("Yard" : Str), some ("heights" : Str)), ("heights" : Str), ("Yard.heights" : Str), defArgs s_Y_heights, defBody s_Y_heights, defScope s_Y_heights, [], []⟩, ⟨(("Yard" : Str), some ("plugged" : Str)), ("plugged" : Str), ("Yard.plugged" : Str), defArgs s_Y_plugged, defBody s_Y_plugged, defScope s_Y_plugged, [], []⟩, ⟨(("Yard" : Str), some ("through" : Str)), ("through" : Str), ("Yard.through" : Str), defArgs s_Y_through, defBody s_Y_through, defScope s_Y_through, [], []⟩, ⟨(("Yard" : Str), some ("away" : Str)), ("away" : Str), ("Yard.away" : Str), defArgs s_Y_away, defBody s_Y_away, defScope s_Y_away, [], []⟩, ⟨(("Yard" : Str), some ("__len__" : Str)), ("__len__" : Str), ("Yard.__len__" : Str), defArgs s_Y___len__, defBody s_Y___len__, defScope s_Y___len__, [], []⟩, ⟨(("_law_kinds" : Str), none), ("_law_kinds" : Str), ("_law_kinds" : Str), defArgs s__law_kinds, defBody s__law_kinds, defScope s__law_kinds, [], []⟩, ⟨(("_law_told" : Str), none), ("_law_told" : Str), ("_law_told" : Str), defArgs s__law_told, defBody s__law_told, defScope s__law_told, [], []⟩]
def faX : List He.Fa := [.cls "Yard", .mkr "Yard", .glo "Yard", .noat "Yard" "busy", .noat "Yard" "tubs", .noat "Yard" "now", .noat "Yard" "past", .meth "Yard" "become", .meth "Yard" "set_rain", .meth "Yard" "plug", .meth "Yard" "go_on", .meth "Yard" "back", .meth "Yard" "hour", .meth "Yard" "heights", .meth "Yard" "plugged", .meth "Yard" "through", .meth "Yard" "away", .meth "Yard" "__len__", .glo "refuse_no_hole", .glo "_law_kinds", .glo "_law_told", .glo "TubError", .glo "ToldError", .glo "NoTubs", .glo "NoRain", .glo "NoName", .glo "NoHeight", .glo "NoHole", .glo "NoHours", .glo "AskedError", .glo "Plugged", .glo "NotPlugged", .glo "NothingLeft", .exc "TubError", .exc "ToldError", .exc "NoTubs", .exc "NoRain", .exc "NoName", .exc "NoHeight", .exc "NoHole", .exc "NoHours", .exc "AskedError", .exc "Plugged", .exc "NotPlugged", .exc "NothingLeft", .exm "Plugged" "TubError" true, .free "ValueError"]
def exX (K : PySem.W.Frag) : Bool := tbl.ex K && (decide ((He.cT K ("flows_in_the_end", none)).2 ≠ (He.cT K ("stretch_from", none)).2) && (decide ((He.cT K ("flows_in_the_end", none)).2 ≠ (He.cT K ("_law_yard_told", none)).2) && (decide ((He.cT K ("stretch_from", none)).2 ≠ (He.cT K ("_law_yard_told", none)).2) && kindB K "Plugged" [true, false, false, false, false, false, false, false, false, false, true])))
def tfX : List He.Defn := tbl.tf ++ [(("_law_yard_told" : Str), none)]
def asX : List Addr := ([3, 6, 4, 21, 22, 29, 36, 43, 50, 57, 64, 71, 78, 85, 92, 99, 104, 109, 116, 123, 128, 135, 140, 145, 150, 155, 160, 167, 174, 181, 186, 191, 198, 199, 206, 213, 220, 227, 234, 239, 246, 253, 260, 267, 272, 277, 284, 294, 307, 319, 331, 343, 355, 367, 379, 391, 403, 415, 427, 436] : List Addr) ++ ([443, 450, 455, 460, 465, 470, 477, 482, 487, 494, 501, 508, 515, 520, 527, 534, 541, 546, 551, 558, 671, 682, 689, 696, 701, 708, 713, 720, 727, 734, 0, 20, 28, 35, 42, 49, 56, 63, 70, 77, 84, 91, 98, 103, 108, 115, 122, 127, 134, 139, 144, 149, 154, 159, 166, 173, 180, 185, 190, 197] : List Addr) ++ ([205, 212, 219, 226, 233, 238, 245, 252, 259, 266, 271, 276, 283, 293, 306, 318, 330, 342, 354, 366, 378, 390, 402, 414, 426, 435, 442, 449, 454, 459, 464, 469, 476, 481, 486, 493, 500, 507, 514, 519, 526, 533, 540, 545, 550, 557, 670, 681, 688, 695, 700, 707, 712, 719, 726, 733, 15, 17, 18, 19] : List Addr) ++ ([23, 25, 26, 27, 30, 32, 33, 34, 37, 39, 40, 41, 44, 46, 47, 48, 51, 53, 54, 55, 58, 60, 61, 62, 65, 67, 68, 69, 72, 74, 75, 76, 79, 81, 82, 83, 86, 88, 89, 90, 93, 95, 96, 97, 100, 102, 105, 107, 110, 112, 113, 114, 117, 119, 120, 121, 124, 126, 129, 131] : List Addr) ++ ([132, 133, 136, 138, 141, 143, 146, 148, 151, 153, 156, 158, 161, 163, 164, 165, 168, 170, 171, 172, 175, 177, 178, 179, 182, 184, 187, 189, 192, 194, 195, 196, 200, 202, 203, 204, 207, 209, 210, 211, 214, 216, 217, 218, 221, 223, 224, 225, 228, 230, 231, 232, 235, 237, 240, 242, 243, 244, 247, 249] : List Addr) ++ ([250, 251, 254, 256, 257, 258, 261, 263, 264, 265, 268, 270, 273, 275, 278, 280, 281, 282, 292, 295, 305, 317, 329, 341, 353, 365, 377, 389, 401, 413, 425, 430, 432, 433, 434, 437, 439, 440, 441, 444, 446, 447, 448, 451, 453, 456, 458, 461, 463, 466, 468, 471, 473, 474, 475, 478, 480, 483, 485, 488] : List Addr) ++ ([490, 491, 492, 495, 497, 498, 499, 502, 504, 505, 506, 509, 511, 512, 513, 516, 518, 521, 523, 524, 525, 528, 530, 531, 532, 535, 537, 538, 539, 542, 544, 547, 549, 552, 554, 555, 556, 572, 579, 586, 593, 600, 607, 614, 621, 628, 635, 642, 649, 656, 661, 668, 669, 672, 673, 676, 678, 679, 680, 683] : List Addr) ++ ([685, 686, 687, 690, 692, 693, 694, 697, 699, 702, 704, 705, 706, 709, 711, 714, 716, 717, 718, 721, 723, 724, 725, 728, 730, 731, 732, 571, 578, 585, 592, 599, 606, 613, 620, 627, 634, 641, 648, 655, 660, 667] : List Addr)
abbrev hk : PySem.W.Hook := hookY asX (tbl.fa ++ faX) (tbl.fn ++ fnX) tfX exX
def ob (s : PySem.W.SharedT) : He.AlX := obsY asX (tbl.fa ++ faX) (tbl.fn ++ fnX) tfX exX (HandSHeadRun.getT s)
theorem ob_eq (s : PySem.W.SharedT) : ob s = hk.obs s.abs := obsY_eq (HandSHeadRun.getT_eq s)
theorem run (w : World) : HandSHeadRun.RunEq RR (PySem.W.view RR.prog [107]) hk ob 40000 loose w := by
  intro os
  kernel_rfl
end K11

set_option maxHeartbeats 0
noncomputable section
namespace K11
open PySem PySem.Spec PyProof.Rows L2 Iv
variable {wh : Wh} {k : Nat}
local instance ctI_K11M : Iv.Ct := ctI
def m_is_whole (wh : Wh) (F : FT) : SF :=
    (seqS (frzS [] (retF (andE (valF (isiF .int (vV 0))) (notE (valF (isiF .bool (vV 0)))))))
    skipS)
theorem e_is_whole : tbl.F wh 60 (k + 1) "is_whole" = runM 1 1 (m_is_whole wh (tbl.F wh 60 k)) := by kernel_rfl
def m_is_whole_within (wh : Wh) (F : FT) : SF :=
    (seqS (frzS [0] (retF (andE (valF (callF F "is_whole" (argsF [(vE 0)]))) (blF (chainF .LtE .LtE (vV 1) (vV 0) (vV 2))))))
    skipS)
theorem e_is_whole_within : tbl.F wh 60 (k + 1) "is_whole_within" = runM 3 3 (m_is_whole_within wh (tbl.F wh 60 k)) := by kernel_rfl
def m_common_divisor (wh : Wh) (F : FT) : SF :=
    (seqS (frzS [] (wh (cmpF .NotEq (vV 1) (valF (kE (.int 0)))) (seqS (frzS [1] (par2F 0 1 (vE 1) (binF .Mod (vV 0) (vV 1))))
    skipS)))
    (seqS (frzS [] (retS 0 (retF (vE 0))))
    skipS))
theorem e_common_divisor : tbl.F wh 60 (k + 1) "common_divisor" = runM 2 2 (m_common_divisor wh (tbl.F wh 60 k)) := by kernel_rfl
def m_is_fraction (wh : Wh) (F : FT) : SF :=
    (seqS (frzS [] (ifS (orT (notT (tstF (valF (isiF .tuple (vV 0))))) (cmpF .NotEq (valF (orElse (lenS 0) (bltF1 .len (vV 0)))) (valF (kE (.int 2))))) (seqS (frzS [] (retF (kE (.bool false))))
    skipS) skipS))
    (seqS (frzS [0] (unpF (vE 0) (unF [1, 2])))
    (seqS (frzS [1, 2] (ifS (orT (notT (tstF (valF (callF F "is_whole" (argsF [(vE 1)]))))) (notT (tstF (valF (callF F "is_whole" (argsF [(vE 2)])))))) (seqS (frzS [] (retF (kE (.bool false))))
    skipS) skipS))
    (seqS (frzS [1, 2] (retF (andE (valF (blF (cmpF .GtE (vV 1) (valF (kE (.int 0)))))) (andE (valF (blF (cmpF .GtE (vV 2) (valF (kE (.int 1)))))) (blF (cmpF .Eq (valF (callF F "common_divisor" (argsF [(vE 1), (vE 2)]))) (valF (kE (.int 1)))))))))
    skipS))))
theorem e_is_fraction : tbl.F wh 60 (k + 1) "is_fraction" = runM 1 3 (m_is_fraction wh (tbl.F wh 60 k)) := by kernel_rfl
def m_reduced (wh : Wh) (F : FT) : SF :=
    (seqS (frzS [] (asgF 2 (callF F "common_divisor" (argsF [(bltF1 .abs (vV 0)), (bltF1 .abs (vV 1))]))))
    (seqS (frzS [] (ifS (cmpF .Lt (vV 1) (valF (kE (.int 0)))) (seqS (frzS [] (asgF 2 (negE (vV 2))))
    skipS) skipS))
    (seqS (frzS [] (retF (tupF (argsF [(binF .FloorDiv (vV 0) (vV 2)), (binF .FloorDiv (vV 1) (vV 2))]))))
    skipS)))
theorem e_reduced : tbl.F wh 60 (k + 1) "reduced" = runM 2 3 (m_reduced wh (tbl.F wh 60 k)) := by kernel_rfl
def m_less (wh : Wh) (F : FT) : SF :=
    (seqS (frzS [] (retF (blF (cmpF .Lt (valF (binF .Mult (valF (orElse (ixS 0 (valF (kE (.int 0)))) (ixG (vV 0) (valF (kE (.int 0)))))) (valF (orElse (ixS 1 (valF (kE (.int 1)))) (ixG (vV 1) (valF (kE (.int 1)))))))) (valF (binF .Mult (valF (orElse (ixS 1 (valF (kE (.int 0)))) (ixG (vV 1) (valF (kE (.int 0)))))) (valF (orElse (ixS 0 (valF (kE (.int 1)))) (ixG (vV 0) (valF (kE (.int 1))))))))))))
    skipS)
theorem e_less : tbl.F wh 60 (k + 1) "less" = runM 2 2 (m_less wh (tbl.F wh 60 k)) := by kernel_rfl
def m_lesser (wh : Wh) (F : FT) : SF :=
    (seqS (frzS [1, 0, 1, 0] (retF (ifE (tstF (valF (callF F "less" (argsF [(vE 1), (vE 0)])))) (vE 1) (vE 0))))
    skipS)
theorem e_lesser : tbl.F wh 60 (k + 1) "lesser" = runM 2 2 (m_lesser wh (tbl.F wh 60 k)) := by kernel_rfl
def m_plus (wh : Wh) (F : FT) : SF :=
    (seqS (frzS [] (retF (callF F "reduced" (argsF [(binF .Add (valF (binF .Mult (valF (orElse (ixS 0 (valF (kE (.int 0)))) (ixG (vV 0) (valF (kE (.int 0)))))) (valF (orElse (ixS 1 (valF (kE (.int 1)))) (ixG (vV 1) (valF (kE (.int 1)))))))) (valF (binF .Mult (valF (orElse (ixS 1 (valF (kE (.int 0)))) (ixG (vV 1) (valF (kE (.int 0)))))) (valF (orElse (ixS 0 (valF (kE (.int 1)))) (ixG (vV 0) (valF (kE (.int 1))))))))), (binF .Mult (valF (orElse (ixS 0 (valF (kE (.int 1)))) (ixG (vV 0) (valF (kE (.int 1)))))) (valF (orElse (ixS 1 (valF (kE (.int 1)))) (ixG (vV 1) (valF (kE (.int 1)))))))]))))
    skipS)
theorem e_plus : tbl.F wh 60 (k + 1) "plus" = runM 2 2 (m_plus wh (tbl.F wh 60 k)) := by kernel_rfl
def m_minus (wh : Wh) (F : FT) : SF :=
    (seqS (frzS [] (retF (callF F "reduced" (argsF [(binF .Sub (valF (binF .Mult (valF (orElse (ixS 0 (valF (kE (.int 0)))) (ixG (vV 0) (valF (kE (.int 0)))))) (valF (orElse (ixS 1 (valF (kE (.int 1)))) (ixG (vV 1) (valF (kE (.int 1)))))))) (valF (binF .Mult (valF (orElse (ixS 1 (valF (kE (.int 0)))) (ixG (vV 1) (valF (kE (.int 0)))))) (valF (orElse (ixS 0 (valF (kE (.int 1)))) (ixG (vV 0) (valF (kE (.int 1))))))))), (binF .Mult (valF (orElse (ixS 0 (valF (kE (.int 1)))) (ixG (vV 0) (valF (kE (.int 1)))))) (valF (orElse (ixS 1 (valF (kE (.int 1)))) (ixG (vV 1) (valF (kE (.int 1)))))))]))))
    skipS)
theorem e_minus : tbl.F wh 60 (k + 1) "minus" = runM 2 2 (m_minus wh (tbl.F wh 60 k)) := by kernel_rfl
def m_times_by (wh : Wh) (F : FT) : SF :=
    (seqS (frzS [] (retF (callF F "reduced" (argsF [(binF .Mult (valF (orElse (ixS 0 (valF (kE (.int 0)))) (ixG (vV 0) (valF (kE (.int 0)))))) (vV 1)), (binF .Mult (valF (orElse (ixS 0 (valF (kE (.int 1)))) (ixG (vV 0) (valF (kE (.int 1)))))) (vV 2))]))))
    skipS)
theorem e_times_by : tbl.F wh 60 (k + 1) "times_by" = runM 3 3 (m_times_by wh (tbl.F wh 60 k)) := by kernel_rfl
def m_is_tuple_of (wh : Wh) (F : FT) : SF :=
    (seqS (frzS [] (retF (andE (valF (isiF .tuple (vV 0))) (blF (chainF .LtE .LtE (vV 1) (valF (orElse (lenS 0) (bltF1 .len (vV 0)))) (vV 2))))))
    skipS)
theorem e_is_tuple_of : tbl.F wh 60 (k + 1) "is_tuple_of" = runM 3 3 (m_is_tuple_of wh (tbl.F wh 60 k)) := by kernel_rfl
def m_is_rising (wh : Wh) (F : FT) : SF :=
    (seqS (frzS [0] (retF (bltF1 .all (valF (lcF (zipF (vE 0) (slF (vV 0) (partF (some (valF (kE (.int 1))))) (partF none))) [1, 2] (unF [1, 2]) yesT (blF (cmpF .Lt (vV 1) (vV 2))))))))
    skipS)
theorem e_is_rising : tbl.F wh 60 (k + 1) "is_rising" = runM 1 3 (m_is_rising wh (tbl.F wh 60 k)) := by kernel_rfl
def m_is_name (wh : Wh) (F : FT) : SF :=
    (seqS (frzS [] (ifS (orT (notT (tstF (valF (isiF .str (vV 0))))) (notT (chainF .LtE .LtE (valF (kE (.int 1))) (valF (orElse (lenS 0) (bltF1 .len (vV 0)))) (kV' (.int 8))))) (seqS (frzS [] (retF (kE (.bool false))))
    skipS) skipS))
    (seqS (frzS [0] (retF (bltF1 .all (valF (lcF (plainF (vE 0)) [1] (setF 1) yesT (blF (cmpF .In (vV 1) (kV' (.str "abcdefghijklmnopqrstuvwxyz")))))))))
    skipS))
theorem e_is_name : tbl.F wh 60 (k + 1) "is_name" = runM 1 2 (m_is_name wh (tbl.F wh 60 k)) := by kernel_rfl
def m_is_way (wh : Wh) (F : FT) : SF :=
    (seqS (frzS [0] (retF (orE (valF (callF F "is_name" (argsF [(vE 0)]))) (andE (valF (isiF .str (vV 0))) (blF (cmpF .Eq (vV 0) (kV' (.str ""))))))))
    skipS)
theorem e_is_way : tbl.F wh 60 (k + 1) "is_way" = runM 1 1 (m_is_way wh (tbl.F wh 60 k)) := by kernel_rfl
def m_is_hole (wh : Wh) (F : FT) : SF :=
    (seqS (frzS [0] (ifS (notT (tstF (valF (callF F "is_tuple_of" (argsF [(vE 0), (kE (.int 3)), (kE (.int 3))]))))) (seqS (frzS [] (retF (kE (.bool false))))
    skipS) skipS))
    (seqS (frzS [0] (unpF (vE 0) (unF [1, 2, 3])))
    (seqS (frzS [1, 2, 3] (retF (andE (valF (callF F "is_whole_within" (argsF [(vE 1), (kE (.int 0)), (kE (.int 1000))]))) (andE (valF (callF F "is_whole_within" (argsF [(vE 2), (kE (.int 1)), (kE (.int 100))]))) (callF F "is_way" (argsF [(vE 3)]))))))
    skipS)))
theorem e_is_hole : tbl.F wh 60 (k + 1) "is_hole" = runM 1 4 (m_is_hole wh (tbl.F wh 60 k)) := by kernel_rfl
def m_are_holes (wh : Wh) (F : FT) : SF :=
    (seqS (frzS [0, 0] (ifS (orT (notT (tstF (valF (callF F "is_tuple_of" (argsF [(vE 0), (kE (.int 0)), (kE (.int 3))]))))) (notT (tstF (valF (bltF1 .all (valF (lcF (plainF (vE 0)) [1] (setF 1) yesT (callF F "is_hole" (argsF [(vE 1)]))))))))) (seqS (frzS [] (retF (kE (.bool false))))
    skipS) skipS))
    (seqS (frzS [0] (retF (callF F "is_rising" (argsF [(lcF (plainF (vE 0)) [2, 3, 4] (unF [2, 3, 4]) yesT (vE 2))]))))
    skipS))
theorem e_are_holes : tbl.F wh 60 (k + 1) "are_holes" = runM 1 5 (m_are_holes wh (tbl.F wh 60 k)) := by kernel_rfl
def m_is_tub (wh : Wh) (F : FT) : SF :=
    (seqS (frzS [0] (ifS (notT (tstF (valF (callF F "is_tuple_of" (argsF [(vE 0), (kE (.int 3)), (kE (.int 3))]))))) (seqS (frzS [] (retF (kE (.bool false))))
    skipS) skipS))
    (seqS (frzS [0] (unpF (vE 0) (unF [1, 2, 3])))
    (seqS (frzS [1, 2, 3] (retF (andE (valF (callF F "is_name" (argsF [(vE 1)]))) (andE (valF (callF F "is_whole_within" (argsF [(vE 2), (kE (.int 1)), (kE (.int 1000))]))) (callF F "are_holes" (argsF [(vE 3)]))))))
    skipS)))
theorem e_is_tub : tbl.F wh 60 (k + 1) "is_tub" = runM 1 4 (m_is_tub wh (tbl.F wh 60 k)) := by kernel_rfl
def m_names_of (wh : Wh) (F : FT) : SF :=
    (seqS (frzS [0] (retF (lcF (plainF (vE 0)) [1, 2, 3] (unF [1, 2, 3]) yesT (vE 1))))
    skipS)
theorem e_names_of : tbl.F wh 60 (k + 1) "names_of" = runM 1 4 (m_names_of wh (tbl.F wh 60 k)) := by kernel_rfl
def m_fits_among (wh : Wh) (F : FT) : SF :=
    (seqS (frzS [0] (unpF (vE 0) (unF [3, 4, 5])))
    (seqS (frzS [5] (retF (andE (valF (blF (cmpF .NotIn (vV 3) (vV 1)))) (bltF1 .all (valF (lcF (plainF (vE 5)) [6, 7, 8] (unF [6, 7, 8]) yesT (orE (valF (blF (cmpF .Eq (vV 8) (kV' (.str ""))))) (blF (cmpF .In (vV 8) (vV 2))))))))))
    skipS))
theorem e_fits_among : tbl.F wh 60 (k + 1) "fits_among" = runM 3 9 (m_fits_among wh (tbl.F wh 60 k)) := by kernel_rfl
def m_are_tubs (wh : Wh) (F : FT) : SF :=
    (seqS (frzS [0, 0] (ifS (orT (notT (tstF (valF (callF F "is_tuple_of" (argsF [(vE 0), (kE (.int 1)), (kE (.int 3))]))))) (notT (tstF (valF (bltF1 .all (valF (lcF (plainF (vE 0)) [1] (setF 1) yesT (callF F "is_tub" (argsF [(vE 1)]))))))))) (seqS (frzS [] (retF (kE (.bool false))))
    skipS) skipS))
    (seqS (frzS [0] (asgF 2 (callF F "names_of" (argsF [(vE 0)]))))
    (seqS (frzS [0] (retF (bltF1 .all (valF (lcF (enumF (vE 0)) [3, 4] (unF [3, 4]) yesT (callF F "fits_among" (argsF [(vE 4), (slF (vV 2) (partF none) (partF (some (vV 3)))), (slF (vV 2) (partF (some (valF (binF .Add (vV 3) (valF (kE (.int 1))))))) (partF none))])))))))
    skipS)))
theorem e_are_tubs : tbl.F wh 60 (k + 1) "are_tubs" = runM 1 5 (m_are_tubs wh (tbl.F wh 60 k)) := by kernel_rfl
def m_is_rain (wh : Wh) (F : FT) : SF :=
    (seqS (frzS [1] (ifS (notT (tstF (valF (callF F "is_tuple_of" (argsF [(vE 1), (orElse (lenS 0) (bltF1 .len (vV 0))), (orElse (lenS 0) (bltF1 .len (vV 0)))]))))) (seqS (frzS [] (retF (kE (.bool false))))
    skipS) skipS))
    (seqS (frzS [1] (retF (bltF1 .all (valF (lcF (plainF (vE 1)) [2] (setF 2) yesT (callF F "is_whole_within" (argsF [(vE 2), (kE (.int 0)), (kE (.int 1000))])))))))
    skipS))
theorem e_is_rain : tbl.F wh 60 (k + 1) "is_rain" = runM 2 3 (m_is_rain wh (tbl.F wh 60 k)) := by kernel_rfl
def m_holes_of (wh : Wh) (F : FT) : SF :=
    (seqS (frzS [0] (retF (lcF2 (plainF (vE 0)) [1, 2, 3, 4, 5, 6] (unF [1, 2, 3]) yesT (plainF (vE 3)) [4, 5, 6] (unF [4, 5, 6]) yesT (tupF (argsF [(vE 1), (vE 4)])))))
    skipS)
theorem e_holes_of : tbl.F wh 60 (k + 1) "holes_of" = runM 1 7 (m_holes_of wh (tbl.F wh 60 k)) := by kernel_rfl
def m_is_name_of (wh : Wh) (F : FT) : SF :=
    (seqS (frzS [0] (retF (blF (cmpF .In (vV 1) (valF (callF F "names_of" (argsF [(vE 0)])))))))
    skipS)
theorem e_is_name_of : tbl.F wh 60 (k + 1) "is_name_of" = runM 2 2 (m_is_name_of wh (tbl.F wh 60 k)) := by kernel_rfl
def m_is_hole_of (wh : Wh) (F : FT) : SF :=
    (seqS (frzS [1] (ifS (notT (tstF (valF (callF F "is_tuple_of" (argsF [(vE 1), (kE (.int 2)), (kE (.int 2))]))))) (seqS (frzS [] (retF (kE (.bool false))))
    skipS) skipS))
    (seqS (frzS [0] (retF (andE (valF (callF F "is_whole" (argsF [(orElse (ixS 1 (valF (kE (.int 1)))) (ixG (vV 1) (valF (kE (.int 1)))))]))) (blF (cmpF .In (vV 1) (valF (callF F "holes_of" (argsF [(vE 0)]))))))))
    skipS))
theorem e_is_hole_of : tbl.F wh 60 (k + 1) "is_hole_of" = runM 2 2 (m_is_hole_of wh (tbl.F wh 60 k)) := by kernel_rfl
def m_tub_at (wh : Wh) (F : FT) : SF :=
    (seqS (frzS [0, 1] (retF (idxF (valF (callF F "names_of" (argsF [(vE 0)]))) (vV 1))))
    skipS)
theorem e_tub_at : tbl.F wh 60 (k + 1) "tub_at" = runM 2 2 (m_tub_at wh (tbl.F wh 60 k)) := by kernel_rfl
def m_place_of (wh : Wh) (F : FT) : SF :=
    (seqS (frzS [1] (unpF (vE 1) (unF [2, 3])))
    (seqS (frzS [0, 2] (asgF 4 (callF F "tub_at" (argsF [(vE 0), (vE 2)]))))
    (seqS (frzS [4, 3] (retF (tupF (argsF [(vE 4), (idxF (valF (lcF (plainF (ixG (valF (orElse (ixS 0 (vV 4)) (ixG (vV 0) (vV 4)))) (valF (kE (.int 2))))) [5] (setF 5) yesT (orElse (ixS 5 (valF (kE (.int 0)))) (ixG (vV 5) (valF (kE (.int 0))))))) (vV 3))]))))
    skipS)))
theorem e_place_of : tbl.F wh 60 (k + 1) "place_of" = runM 2 6 (m_place_of wh (tbl.F wh 60 k)) := by kernel_rfl
def m_without_holes (wh : Wh) (F : FT) : SF :=
    (seqS (frzS [0] (retF (bltF1 .tuple (valF (lcF (plainF (vE 0)) [3, 4, 5] (unF [3, 4, 5]) yesT (tupF (argsF [(vE 3), (vE 4), (bltF1 .tuple (valF (lcF (plainF (vE 5)) [2] (setF 2) (cmpF .NotIn (valF (tupF (argsF [(vE 3), (orElse (ixS 2 (valF (kE (.int 0)))) (ixG (vV 2) (valF (kE (.int 0)))))]))) (vV 1)) (vE 2))))])))))))
    skipS)
theorem e_without_holes : tbl.F wh 60 (k + 1) "without_holes" = runM 2 6 (m_without_holes wh (tbl.F wh 60 k)) := by kernel_rfl
def m_flows (wh : Wh) (F : FT) (as : List R) : SF :=
    (seqS (frzS [0] (asgF 3 (callF F "names_of" (argsF [(vE 0)]))))
    (seqS (frzS [] (asgF 4 (bltF1 .list (vV 1))))
    (seqS (frzS [] (asgF 5 (lstF (argsF []))))
    (seqS (frzS [0] (forF (enumF (vE 0)) (unG [setF 6, unF [7, 8, 9]]) (seqS (frzS [6] (asgF 10 (cloF F as 2 (argsF [(vE 6), (orElse (ixS 4 (vV 6)) (ixG (vV 4) (vV 6)))]))))
    (seqS (frzS [10] (appS 5 (vE 10)))
    (seqS (frzS [9, 10] (forF (zipF (vE 9) (vE 10)) (unG [unF [11, 12, 13], setF 14]) (seqS (frzS [] (ifS (cmpF .NotEq (vV 13) (kV' (.str ""))) (seqS (frzS [14] (augSF .Add 4 (valF (idxF (vV 3) (vV 13))) (vV 14)))
    skipS) skipS))
    skipS)))
    skipS)))))
    (seqS (frzS [4, 5] (retF (tupF (argsF [(vE 4), (vE 5)]))))
    skipS)))))
theorem e_flows (rs : List R) : tbl.F wh 60 (k + 1) "flows" rs = runM 3 15 (m_flows wh (tbl.F wh 60 k) rs) rs := by kernel_rfl
def m_shared_out (wh : Wh) (F : FT) : SF :=
    (seqS (frzS [] (asgF 2 (lstF (argsF []))))
    (seqS (frzS [1] (asgF 3 (vE 1)))
    (seqS (frzS [0] (forF (plainF (vE 0)) (unF [4, 5, 6]) (seqS (frzS [3, 5] (appS 2 (bltF2 .min2 (vV 3) (vV 5))))
    (seqS (frzS [] (augF .Sub 3 (valF (orElse (ixS 2 (valF (negE (valF (kE (.int 1)))))) (ixG (vV 2) (valF (negE (valF (kE (.int 1))))))))))
    skipS))))
    (seqS (frzS [] (retS 2 (retF (vE 2))))
    skipS))))
theorem e_shared_out : tbl.F wh 60 (k + 1) "shared_out" = runM 2 7 (m_shared_out wh (tbl.F wh 60 k)) := by kernel_rfl
def m_letting (wh : Wh) (F : FT) : SF :=
    (seqS (frzS [1] (retF (callF F "shared_out" (argsF [(ixG (valF (orElse (ixS 2 (vV 0)) (ixG (vV 2) (vV 0)))) (valF (kE (.int 2)))), (vE 1)]))))
    skipS)
theorem e_letting : tbl.F wh 60 (k + 1) "flows_in_the_end.<locals>.letting" = runM 3 3 (m_letting wh (tbl.F wh 60 k)) := by kernel_rfl
def m_flows_in_the_end (wh : Wh) (F : FT) (as : List R) : SF :=
    (seqS (frzS [0, 1, 2] (retF (clF F as [0] "flows" 2 (argsF [(vE 0), (vE 1)]))))
    skipS)
theorem e_flows_in_the_end (rs : List R) (st : BSt) : tbl.F wh 60 (k + 1) "flows_in_the_end" rs st = if rs.length = 2 then uni "flows_in_the_end.<locals>.letting" (fun f F' => fin (m_flows_in_the_end wh (tbl.F wh 60 k) [.fnc f F' [] []] ((env0 3 rs).set 2 (some (.fnc f F' [] []))) st)) else none := by kernel_rfl
def m_lets_in_the_end (wh : Wh) (F : FT) : SF :=
    (seqS (frzS [0, 2] (unpF (callF F "place_of" (argsF [(vE 0), (vE 2)])) (unF [3, 4])))
    (seqS (frzS [0, 1] (unpF (callF F "flows_in_the_end" (argsF [(vE 0), (vE 1)])) (unF [5, 6])))
    (seqS (frzS [] (retF (ixG (valF (orElse (ixS 6 (vV 3)) (ixG (vV 6) (vV 3)))) (vV 4))))
    skipS)))
theorem e_lets_in_the_end : tbl.F wh 60 (k + 1) "lets_in_the_end" = runM 3 7 (m_lets_in_the_end wh (tbl.F wh 60 k)) := by kernel_rfl
def m_rest_of (wh : Wh) (F : FT) : SF :=
    (seqS (frzS [] (asgF 2 (kE (.int 0))))
    (seqS (frzS [1] (asgF 3 (vE 1)))
    (seqS (frzS [0] (forF (plainF (vE 0)) (unF [4, 5, 6]) (seqS (frzS [] (ifS (cmpF .Eq (vV 3) (valF (kE (.int 0)))) (seqS (frzS [2, 4] (retF (tupF (argsF [(vE 2), (vE 4)]))))
    skipS) skipS))
    (seqS (frzS [] (ifS (cmpF .Lt (vV 3) (vV 5)) (seqS (frzS [4, 4] (retF (tupF (argsF [(vE 4), (vE 4)]))))
    skipS) skipS))
    (seqS (frzS [5] (augF .Sub 3 (vV 5)))
    (seqS (frzS [4] (asgF 2 (vE 4)))
    skipS))))))
    (seqS (frzS [2] (retF (ifE (cmpF .Eq (vV 3) (valF (kE (.int 0)))) (tupF (argsF [(vE 2), (kE .none)])) (kE (.tuple [.str "rises"])))))
    skipS))))
theorem e_rest_of : tbl.F wh 60 (k + 1) "rest_of" = runM 2 7 (m_rest_of wh (tbl.F wh 60 k)) := by kernel_rfl
def m_comes (wh : Wh) (F : FT) : SF :=
    (seqS (frzS [0, 1] (retF (bltF1 .tuple (valF (ixG (valF (callF F "flows_in_the_end" (argsF [(vE 0), (vE 1)]))) (valF (kE (.int 0))))))))
    skipS)
theorem e_comes : tbl.F wh 60 (k + 1) "comes" = runM 2 2 (m_comes wh (tbl.F wh 60 k)) := by kernel_rfl
def m_rests (wh : Wh) (F : FT) : SF :=
    (seqS (frzS [0, 0, 1] (retF (lcF (zipF (vE 0) (callF F "comes" (argsF [(vE 0), (vE 1)]))) [2, 3, 4, 5] (unG [unF [2, 3, 4], setF 5]) yesT (callF F "rest_of" (argsF [(vE 4), (vE 5)])))))
    skipS)
theorem e_rests : tbl.F wh 60 (k + 1) "rests" = runM 2 6 (m_rests wh (tbl.F wh 60 k)) := by kernel_rfl
def m_rain_with (wh : Wh) (F : FT) : SF :=
    (seqS (frzS [0, 2] (asgF 4 (callF F "tub_at" (argsF [(vE 0), (vE 2)]))))
    (seqS (frzS [4, 3] (retF (binF .Add (valF (binF .Add (valF (slF (vV 1) (partF none) (partF (some (vV 4))))) (valF (tupF (argsF [(vE 3)]))))) (valF (slF (vV 1) (partF (some (valF (binF .Add (vV 4) (valF (kE (.int 1))))))) (partF none))))))
    skipS))
theorem e_rain_with : tbl.F wh 60 (k + 1) "rain_with" = runM 4 5 (m_rain_with wh (tbl.F wh 60 k)) := by kernel_rfl
def m_comes_up_to (wh : Wh) (F : FT) : SF :=
    (seqS (frzS [0, 1, 0, 2] (asgF 4 (ixG (valF (callF F "rests" (argsF [(vE 0), (vE 1)]))) (valF (callF F "tub_at" (argsF [(vE 0), (vE 2)]))))))
    (seqS (frzS [] (retF (orE (valF (blF (cmpF .Eq (vV 4) (kV' (.tuple [.str "rises"]))))) (blF (cmpF .GtE (valF (orElse (ixS 4 (valF (kE (.int 0)))) (ixG (vV 4) (valF (kE (.int 0)))))) (vV 3))))))
    skipS))
theorem e_comes_up_to : tbl.F wh 60 (k + 1) "comes_up_to" = runM 4 5 (m_comes_up_to wh (tbl.F wh 60 k)) := by kernel_rfl
def m_least_rain (wh : Wh) (F : FT) : SF :=
    (seqS (frzS [0, 0, 1, 2, 3, 4] (ifS (notT (tstF (valF (callF F "comes_up_to" (argsF [(vE 0), (callF F "rain_with" (argsF [(vE 0), (vE 1), (vE 2), (kE (.int 100000))])), (vE 3), (vE 4)]))))) (seqS (frzS [] (retF (kE .none)))
    skipS) skipS))
    (seqS (frzS [] (asgF 5 (kE (.int 0))))
    (seqS (frzS [] (asgF 6 (kE (.int 100000))))
    (seqS (frzS [] (wh (cmpF .Lt (vV 5) (vV 6)) (seqS (frzS [] (asgF 7 (binF .FloorDiv (valF (binF .Add (vV 5) (vV 6))) (valF (kE (.int 2))))))
    (seqS (frzS [0, 0, 1, 2, 7, 3, 4] (ifS (tstF (valF (callF F "comes_up_to" (argsF [(vE 0), (callF F "rain_with" (argsF [(vE 0), (vE 1), (vE 2), (vE 7)])), (vE 3), (vE 4)])))) (seqS (frzS [7] (asgF 6 (vE 7)))
    skipS) (seqS (frzS [] (asgF 5 (binF .Add (vV 7) (valF (kE (.int 1))))))
    skipS)))
    skipS))))
    (seqS (frzS [] (retS 5 (retF (vE 5))))
    skipS)))))
theorem e_least_rain : tbl.F wh 60 (k + 1) "least_rain" = runM 5 8 (m_least_rain wh (tbl.F wh 60 k)) := by kernel_rfl
def m_with_rate (wh : Wh) (F : FT) : SF :=
    (seqS (frzS [0, 1] (unpF (callF F "place_of" (argsF [(vE 0), (vE 1)])) (unF [3, 4])))
    (seqS (frzS [] (unpF (orElse (ixS 0 (vV 3)) (ixG (vV 0) (vV 3))) (unF [5, 6, 7])))
    (seqS (frzS [] (unpF (orElse (ixS 7 (vV 4)) (ixG (vV 7) (vV 4))) (unF [8, 9, 10])))
    (seqS (frzS [5, 6, 4, 8, 2, 10] (asgF 11 (tupF (argsF [(vE 5), (vE 6), (binF .Add (valF (binF .Add (valF (slF (vV 7) (partF none) (partF (some (vV 4))))) (valF (tupF (argsF [(tupF (argsF [(vE 8), (vE 2), (vE 10)]))]))))) (valF (slF (vV 7) (partF (some (valF (binF .Add (vV 4) (valF (kE (.int 1))))))) (partF none))))]))))
    (seqS (frzS [3, 11] (retF (binF .Add (valF (binF .Add (valF (slF (vV 0) (partF none) (partF (some (vV 3))))) (valF (tupF (argsF [(vE 11)]))))) (valF (slF (vV 0) (partF (some (valF (binF .Add (vV 3) (valF (kE (.int 1))))))) (partF none))))))
    skipS)))))
theorem e_with_rate : tbl.F wh 60 (k + 1) "with_rate" = runM 3 12 (m_with_rate wh (tbl.F wh 60 k)) := by kernel_rfl
def m_rates_by (wh : Wh) (F : FT) : SF :=
    (seqS (frzS [0, 2, 1, 3] (retF (lcF (rangeF2 (valF (kE (.int 1))) (valF (binF .Add (kV' (.int 100)) (valF (kE (.int 1)))))) [5] (setF 5) (cmpF .Eq (valF (callF F "lets_in_the_end" (argsF [(callF F "with_rate" (argsF [(vE 0), (vE 2), (vE 5)])), (vE 1), (vE 3)]))) (vV 4)) (vE 5))))
    skipS)
theorem e_rates_by : tbl.F wh 60 (k + 1) "rates_by" = runM 5 6 (m_rates_by wh (tbl.F wh 60 k)) := by kernel_rfl
def m_choices (wh : Wh) (F : FT) : SF :=
    (seqS (frzS [] (ifS (cmpF .Eq (vV 1) (valF (kE (.int 0)))) (seqS (frzS [] (retF (lstF (argsF [(tupF (argsF []))]))))
    skipS) skipS))
    (seqS (frzS [] (asgF 2 (lstF (argsF []))))
    (seqS (frzS [0] (forF (enumF (vE 0)) (unF [3, 4]) (seqS (frzS [4] (augF .Add 2 (valF (lcF (plainF (callF F "choices" (argsF [(slF (vV 0) (partF (some (valF (binF .Add (vV 3) (valF (kE (.int 1))))))) (partF none)), (binF .Sub (vV 1) (valF (kE (.int 1))))]))) [5] (setF 5) yesT (binF .Add (valF (tupF (argsF [(vE 4)]))) (vV 5))))))
    skipS)))
    (seqS (frzS [] (retS 2 (retF (vE 2))))
    skipS))))
theorem e_choices : tbl.F wh 60 (k + 1) "choices" = runM 2 6 (m_choices wh (tbl.F wh 60 k)) := by kernel_rfl
def m_fewest_plugs (wh : Wh) (F : FT) : SF :=
    (seqS (frzS [0, 2] (asgF 4 (callF F "tub_at" (argsF [(vE 0), (vE 2)]))))
    (seqS (frzS [0] (asgF 5 (bltF1 .sorted (valF (callF F "holes_of" (argsF [(vE 0)]))))))
    (seqS (frzS [] (forF (rangeF (valF (binF .Add (valF (orElse (lenS 5) (bltF1 .len (vV 5)))) (valF (kE (.int 1)))))) (setF 6) (seqS (frzS [5, 6] (forF (plainF (callF F "choices" (argsF [(vE 5), (vE 6)]))) (setF 7) (seqS (frzS [0, 7, 1] (ifS (cmpF .GtE (valF (ixG (valF (callF F "comes" (argsF [(callF F "without_holes" (argsF [(vE 0), (vE 7)])), (vE 1)]))) (vV 4))) (vV 3)) (seqS (frzS [] (retS 7 (retF (vE 7))))
    skipS) skipS))
    skipS)))
    skipS)))
    (seqS (frzS [] (retF (kE .none)))
    skipS))))
theorem e_fewest_plugs : tbl.F wh 60 (k + 1) "fewest_plugs" = runM 4 8 (m_fewest_plugs wh (tbl.F wh 60 k)) := by kernel_rfl
def m_hole_lets (wh : Wh) (F : FT) : SF :=
    (seqS (frzS [2, 0] (ifS (tstF (valF (callF F "less" (argsF [(vE 2), (tupF (argsF [(vE 0), (kE (.int 1))]))])))) (seqS (frzS [] (retF (kE (.int 0))))
    skipS) skipS))
    (seqS (frzS [0, 2] (ifS (tstF (valF (callF F "less" (argsF [(tupF (argsF [(vE 0), (kE (.int 1))])), (vE 2)])))) (seqS (frzS [] (retS 1 (retF (vE 1))))
    skipS) skipS))
    (seqS (frzS [3, 1] (retF (bltF2 .min2 (valF (bltF2 .max2 (vV 3) (valF (kE (.int 0))))) (vV 1))))
    skipS)))
theorem e_hole_lets : tbl.F wh 60 (k + 1) "hole_lets" = runM 4 4 (m_hole_lets wh (tbl.F wh 60 k)) := by kernel_rfl
def m_holes_let (wh : Wh) (F : FT) : SF :=
    (seqS (frzS [] (asgF 3 (lstF (argsF []))))
    (seqS (frzS [2] (asgF 4 (vE 2)))
    (seqS (frzS [0] (forF (plainF (vE 0)) (unF [5, 6, 7]) (seqS (frzS [5, 6, 1, 4] (asgF 8 (callF F "hole_lets" (argsF [(vE 5), (vE 6), (vE 1), (vE 4)]))))
    (seqS (frzS [8] (appS 3 (vE 8)))
    (seqS (frzS [8] (augF .Sub 4 (vV 8)))
    skipS)))))
    (seqS (frzS [] (retS 3 (retF (vE 3))))
    skipS))))
theorem e_holes_let : tbl.F wh 60 (k + 1) "holes_let" = runM 3 9 (m_holes_let wh (tbl.F wh 60 k)) := by kernel_rfl
def m_rain_at (wh : Wh) (F : FT) : SF :=
    (seqS (frzS [] (asgF 2 (ixG (valF (orElse (ixS 0 (valF (kE (.int 0)))) (ixG (vV 0) (valF (kE (.int 0)))))) (valF (kE (.int 1))))))
    (seqS (frzS [0] (forF (plainF (vE 0)) (unF [3, 4]) (seqS (frzS [1, 3] (ifS (notT (tstF (valF (callF F "less" (argsF [(vE 1), (tupF (argsF [(vE 3), (kE (.int 1))]))]))))) (seqS (frzS [4] (asgF 2 (vE 4)))
    skipS) skipS))
    skipS)))
    (seqS (frzS [] (retS 2 (retF (vE 2))))
    skipS)))
theorem e_rain_at : tbl.F wh 60 (k + 1) "rain_at" = runM 2 5 (m_rain_at wh (tbl.F wh 60 k)) := by kernel_rfl
def m_letting_stretch_from (wh : Wh) (F : FT) : SF :=
    (seqS (frzS [1] (retF (callF F "holes_let" (argsF [(ixG (valF (orElse (ixS 3 (vV 0)) (ixG (vV 3) (vV 0)))) (valF (kE (.int 2)))), (orElse (ixS 2 (vV 0)) (ixG (vV 2) (vV 0))), (vE 1)]))))
    skipS)
theorem e_letting_stretch_from : tbl.F wh 60 (k + 1) "stretch_from.<locals>.letting" = runM 4 4 (m_letting_stretch_from wh (tbl.F wh 60 k)) := by kernel_rfl
def m_stretch_from (wh : Wh) (F : FT) (as : List R) : SF :=
    (seqS (frzS [0, 1, 2, 4] (unpF (clF F as [3, 0] "flows" 4 (argsF [(vE 0), (callF F "rain_at" (argsF [(vE 1), (vE 2)]))])) (unF [5, 6])))
    (seqS (frzS [5, 6] (asgF 7 (lcF (zipF (vE 5) (vE 6)) [8, 9] (unF [8, 9]) yesT (binF .Sub (vV 8) (valF (bltF1 .sum (vV 9)))))))
    (seqS (frzS [2, 3, 7, 6] (retF (tupF (argsF [(vE 2), (vE 3), (vE 7), (vE 6)]))))
    skipS)))
theorem e_stretch_from (rs : List R) (st : BSt) : tbl.F wh 60 (k + 1) "stretch_from" rs st = if rs.length = 4 then uni "stretch_from.<locals>.letting" (fun f F' => fin (m_stretch_from wh (tbl.F wh 60 k) [.fnc f F' [] []] ((env0 10 rs).set 4 (some (.fnc f F' [] []))) st)) else none := by kernel_rfl
def m_levels_at (wh : Wh) (F : FT) : SF :=
    (seqS (frzS [1] (unpF (vE 1) (unF [3, 4, 5, 6])))
    (seqS (frzS [2, 3] (asgF 7 (callF F "minus" (argsF [(vE 2), (vE 3)]))))
    (seqS (frzS [0] (asgF 8 (lcF (plainF (vE 0)) [9, 10, 11] (unF [9, 10, 11]) yesT (vE 10))))
    (seqS (frzS [7, 4, 5, 8] (retF (lcF (zipF3 (vE 4) (vE 5) (vE 8)) [12, 13, 10] (unF [12, 13, 10]) yesT (callF F "plus" (argsF [(vE 12), (callF F "times_by" (argsF [(vE 7), (vE 13), (vE 10)]))])))))
    skipS))))
theorem e_levels_at : tbl.F wh 60 (k + 1) "levels_at" = runM 3 14 (m_levels_at wh (tbl.F wh 60 k)) := by kernel_rfl
def m_spans_to_holes (wh : Wh) (F : FT) : SF :=
    (seqS (frzS [] (ifS (cmpF .Eq (vV 2) (valF (kE (.int 0)))) (seqS (frzS [] (retF (lstF (argsF []))))
    skipS) skipS))
    (seqS (frzS [0] (unpF (vE 0) (unF [3, 4, 5])))
    (seqS (frzS [1, 4, 2, 5] (asgF 6 (lcF (plainF (vE 5)) [7, 8, 9] (unF [7, 8, 9]) yesT (callF F "times_by" (argsF [(callF F "minus" (argsF [(tupF (argsF [(vE 7), (kE (.int 1))])), (vE 1)])), (vE 4), (vE 2)])))))
    (seqS (frzS [6] (retF (lcF (plainF (vE 6)) [10] (setF 10) (tstF (valF (callF F "less" (argsF [(kE (.tuple [.int 0, .int 1])), (vE 10)])))) (vE 10))))
    skipS))))
theorem e_spans_to_holes : tbl.F wh 60 (k + 1) "spans_to_holes" = runM 3 11 (m_spans_to_holes wh (tbl.F wh 60 k)) := by kernel_rfl
def m_end_of (wh : Wh) (F : FT) : SF :=
    (seqS (frzS [2] (unpF (vE 2) (unF [3, 4, 5, 6])))
    (seqS (frzS [8, 1, 3, 8] (asgF 7 (lcF (plainF (vE 1)) [8, 9] (unF [8, 9]) (tstF (valF (callF F "less" (argsF [(vE 3), (tupF (argsF [(vE 8), (kE (.int 1))]))])))) (tupF (argsF [(vE 8), (kE (.int 1))])))))
    (seqS (frzS [0, 4, 5] (forF (zipF3 (vE 0) (vE 4) (vE 5)) (unF [10, 11, 12]) (seqS (frzS [3, 10, 11, 12] (augF .Add 7 (valF (lcF (plainF (callF F "spans_to_holes" (argsF [(vE 10), (vE 11), (vE 12)]))) [13] (setF 13) yesT (callF F "plus" (argsF [(vE 3), (vE 13)]))))))
    skipS)))
    (seqS (frzS [] (asgF 14 (kE .none)))
    (seqS (frzS [7] (forF (plainF (vE 7)) (setF 8) (seqS (frzS [8, 14, 8] (asgF 14 (ifE (cmpF .Is (vV 14) (valF (kE .none))) (vE 8) (callF F "lesser" (argsF [(vE 14), (vE 8)])))))
    skipS)))
    (seqS (frzS [] (retS 14 (retF (vE 14))))
    skipS))))))
theorem e_end_of : tbl.F wh 60 (k + 1) "end_of" = runM 3 15 (m_end_of wh (tbl.F wh 60 k)) := by kernel_rfl
def m_stretches (wh : Wh) (F : FT) : SF :=
    (seqS (frzS [0, 1] (asgF 3 (callF F "stretch_from" (argsF [(vE 0), (vE 1), (kE (.tuple [.int 0, .int 1])), (bltF1 .list (vV 2))]))))
    (seqS (frzS [3] (asgF 4 (lstF (argsF [(vE 3)]))))
    (seqS (frzS [0, 1, 3] (asgF 5 (callF F "end_of" (argsF [(vE 0), (vE 1), (vE 3)]))))
    (seqS (frzS [] (wh (cmpF .IsNot (vV 5) (valF (kE .none))) (seqS (frzS [0, 1, 5, 0, 3, 5] (asgF 3 (callF F "stretch_from" (argsF [(vE 0), (vE 1), (vE 5), (callF F "levels_at" (argsF [(vE 0), (vE 3), (vE 5)]))]))))
    (seqS (frzS [3] (appS 4 (vE 3)))
    (seqS (frzS [0, 1, 3] (asgF 5 (callF F "end_of" (argsF [(vE 0), (vE 1), (vE 3)]))))
    skipS)))))
    (seqS (frzS [] (retS 4 (retF (vE 4))))
    skipS)))))
theorem e_stretches : tbl.F wh 60 (k + 1) "stretches" = runM 3 6 (m_stretches wh (tbl.F wh 60 k)) := by kernel_rfl
def m_levels_by (wh : Wh) (F : FT) : SF :=
    (seqS (frzS [1, 2] (asgF 3 (lcF (plainF (vE 1)) [4] (setF 4) (notT (tstF (valF (callF F "less" (argsF [(vE 2), (orElse (ixS 4 (valF (kE (.int 0)))) (ixG (vV 4) (valF (kE (.int 0)))))]))))) (vE 4))))
    (seqS (frzS [0, 2] (retF (bltF1 .tuple (valF (callF F "levels_at" (argsF [(vE 0), (orElse (ixS 3 (valF (negE (valF (kE (.int 1)))))) (ixG (vV 3) (valF (negE (valF (kE (.int 1))))))), (vE 2)]))))))
    skipS))
theorem e_levels_by : tbl.F wh 60 (k + 1) "levels_by" = runM 3 5 (m_levels_by wh (tbl.F wh 60 k)) := by kernel_rfl
def m_went_by (wh : Wh) (F : FT) : SF :=
    (seqS (frzS [0, 3] (unpF (callF F "place_of" (argsF [(vE 0), (vE 3)])) (unF [4, 5])))
    (seqS (frzS [1, 2] (asgF 6 (lcF (plainF (vE 1)) [7] (setF 7) (tstF (valF (callF F "less" (argsF [(orElse (ixS 7 (valF (kE (.int 0)))) (ixG (vV 7) (valF (kE (.int 0))))), (vE 2)])))) (vE 7))))
    (seqS (frzS [2] (asgF 8 (binF .Add (valF (lcF (plainF (slF (vV 6) (partF (some (valF (kE (.int 1))))) (partF none))) [7] (setF 7) yesT (orElse (ixS 7 (valF (kE (.int 0)))) (ixG (vV 7) (valF (kE (.int 0))))))) (valF (lstF (argsF [(vE 2)]))))))
    (seqS (frzS [] (asgF 9 (kE (.tuple [.int 0, .int 1]))))
    (seqS (frzS [6, 8] (forF (zipF (vE 6) (vE 8)) (unG [unF [10, 11, 12, 13], setF 14]) (seqS (frzS [9, 14, 10] (asgF 9 (callF F "plus" (argsF [(vE 9), (callF F "times_by" (argsF [(callF F "minus" (argsF [(vE 14), (vE 10)])), (ixG (valF (orElse (ixS 13 (vV 4)) (ixG (vV 13) (vV 4)))) (vV 5)), (kE (.int 1))]))]))))
    skipS)))
    (seqS (frzS [] (retS 9 (retF (vE 9))))
    skipS))))))
theorem e_went_by : tbl.F wh 60 (k + 1) "went_by" = runM 4 15 (m_went_by wh (tbl.F wh 60 k)) := by kernel_rfl
def m_heights (wh : Wh) (F : FT) : SF :=
    (seqS (frzS [0, 0, 1, 2, 3] (retF (callF F "levels_by" (argsF [(vE 0), (callF F "stretches" (argsF [(vE 0), (vE 1), (vE 2)])), (vE 3)]))))
    skipS)
theorem e_heights : tbl.F wh 60 (k + 1) "heights" = runM 4 4 (m_heights wh (tbl.F wh 60 k)) := by kernel_rfl
def m_through (wh : Wh) (F : FT) : SF :=
    (seqS (frzS [0, 0, 1, 2, 3, 4] (retF (callF F "went_by" (argsF [(vE 0), (callF F "stretches" (argsF [(vE 0), (vE 1), (vE 2)])), (vE 3), (vE 4)]))))
    skipS)
theorem e_through : tbl.F wh 60 (k + 1) "through" = runM 5 5 (m_through wh (tbl.F wh 60 k)) := by kernel_rfl
def m_turns (wh : Wh) (F : FT) : SF :=
    (seqS (frzS [0, 1, 2] (asgF 3 (callF F "stretches" (argsF [(vE 0), (vE 1), (vE 2)]))))
    (seqS (frzS [] (asgF 4 (lstF (argsF []))))
    (seqS (frzS [3] (forF (zipF (vE 3) (slF (vV 3) (partF (some (valF (kE (.int 1))))) (partF none))) (unF [5, 6]) (seqS (frzS [0] (forF (zipF3 (vE 0) (orElse (ixS 5 (valF (kE (.int 2)))) (ixG (vV 5) (valF (kE (.int 2))))) (orElse (ixS 6 (valF (kE (.int 2)))) (ixG (vV 6) (valF (kE (.int 2)))))) (unF [7, 8, 9]) (seqS (frzS [] (ifS (cmpF .NotEq (vV 8) (vV 9)) (seqS (frzS [] (appS 4 (tupF (argsF [(orElse (ixS 6 (valF (kE (.int 0)))) (ixG (vV 6) (valF (kE (.int 0))))), (orElse (ixS 7 (valF (kE (.int 0)))) (ixG (vV 7) (valF (kE (.int 0)))))]))))
    skipS) skipS))
    skipS)))
    skipS)))
    (seqS (frzS [] (retS 4 (retF (vE 4))))
    skipS))))
theorem e_turns : tbl.F wh 60 (k + 1) "turns" = runM 3 10 (m_turns wh (tbl.F wh 60 k)) := by kernel_rfl
def m_settled (wh : Wh) (F : FT) : SF :=
    (seqS (frzS [0, 1, 2] (asgF 3 (callF F "turns" (argsF [(vE 0), (vE 1), (vE 2)]))))
    (seqS (frzS [] (retF (ifE (tstF (vV 3)) (ixG (valF (orElse (ixS 3 (valF (negE (valF (kE (.int 1)))))) (ixG (vV 3) (valF (negE (valF (kE (.int 1)))))))) (valF (kE (.int 0)))) (kE (.tuple [.int 0, .int 1])))))
    skipS))
theorem e_settled : tbl.F wh 60 (k + 1) "settled" = runM 3 4 (m_settled wh (tbl.F wh 60 k)) := by kernel_rfl
def m_at_first (wh : Wh) (F : FT) : SF :=
    (seqS (frzS [0] (retF (tupF (argsF [(kE (.int 0)), (binF .Mult (valF (tupF (argsF [(kE (.int 0))]))) (valF (orElse (lenS 0) (bltF1 .len (vV 0))))), (binF .Mult (valF (tupF (argsF [(kE (.tuple [.int 0, .int 1]))]))) (valF (orElse (lenS 0) (bltF1 .len (vV 0))))), (tupF (argsF [])), (dcF (plainF (callF F "holes_of" (argsF [(vE 0)]))) [1] (setF 1) yesT (vE 1) (kE (.tuple [.int 0, .int 1])))]))))
    skipS)
theorem e_at_first : tbl.F wh 60 (k + 1) "at_first" = runM 1 2 (m_at_first wh (tbl.F wh 60 k)) := by kernel_rfl
def m_with_rain (wh : Wh) (F : FT) : SF :=
    (seqS (frzS [0] (unpF (vE 0) (unF [2, 3, 4, 5, 6])))
    (seqS (frzS [2, 1, 4, 5, 6] (retF (tupF (argsF [(vE 2), (vE 1), (vE 4), (vE 5), (vE 6)]))))
    skipS))
theorem e_with_rain : tbl.F wh 60 (k + 1) "with_rain" = runM 2 7 (m_with_rain wh (tbl.F wh 60 k)) := by kernel_rfl
def m_with_plugs (wh : Wh) (F : FT) : SF :=
    (seqS (frzS [0] (unpF (vE 0) (unF [2, 3, 4, 5, 6])))
    (seqS (frzS [2, 3, 4, 6] (retF (tupF (argsF [(vE 2), (vE 3), (vE 4), (bltF1 .tuple (valF (bltF1 .sorted (vV 1)))), (vE 6)]))))
    skipS))
theorem e_with_plugs : tbl.F wh 60 (k + 1) "with_plugs" = runM 2 7 (m_with_plugs wh (tbl.F wh 60 k)) := by kernel_rfl
def m_after_pouring (wh : Wh) (F : FT) : SF :=
    (seqS (frzS [1] (unpF (vE 1) (unF [4, 5, 6, 7, 8])))
    (seqS (frzS [0, 2] (asgF 9 (callF F "tub_at" (argsF [(vE 0), (vE 2)]))))
    (seqS (frzS [4, 5, 9, 3, 7, 8] (retF (tupF (argsF [(vE 4), (vE 5), (binF .Add (valF (binF .Add (valF (slF (vV 6) (partF none) (partF (some (vV 9))))) (valF (tupF (argsF [(callF F "plus" (argsF [(orElse (ixS 6 (vV 9)) (ixG (vV 6) (vV 9))), (vE 3)]))]))))) (valF (slF (vV 6) (partF (some (valF (binF .Add (vV 9) (valF (kE (.int 1))))))) (partF none)))), (vE 7), (vE 8)]))))
    skipS)))
theorem e_after_pouring : tbl.F wh 60 (k + 1) "after_pouring" = runM 4 10 (m_after_pouring wh (tbl.F wh 60 k)) := by kernel_rfl
def m_after_hours (wh : Wh) (F : FT) : SF :=
    (seqS (frzS [1] (unpF (vE 1) (unF [3, 4, 5, 6, 7])))
    (seqS (frzS [0, 6] (asgF 8 (callF F "without_holes" (argsF [(vE 0), (vE 6)]))))
    (seqS (frzS [8, 4, 5] (asgF 9 (callF F "stretches" (argsF [(vE 8), (tupF (argsF [(tupF (argsF [(kE (.int 0)), (vE 4)]))])), (vE 5)]))))
    (seqS (frzS [2] (asgF 10 (tupF (argsF [(vE 2), (kE (.int 1))]))))
    (seqS (frzS [8, 9, 10, 8] (asgF 11 (dcF (plainF (callF F "holes_of" (argsF [(vE 8)]))) [12] (setF 12) yesT (vE 12) (callF F "went_by" (argsF [(vE 8), (vE 9), (vE 10), (vE 12)])))))
    (seqS (frzS [7] (asgF 13 (dcKF 7 [12] (setF 12) yesT (vE 12) (callF F "plus" (argsF [(orElse (ixS 7 (vV 12)) (ixG (vV 7) (vV 12))), (getF (vV 11) (vV 12) (kE (.tuple [.int 0, .int 1])))])))))
    (seqS (frzS [4, 8, 9, 10, 6, 13] (retF (tupF (argsF [(binF .Add (vV 3) (vV 2)), (vE 4), (callF F "levels_by" (argsF [(vE 8), (vE 9), (vE 10)])), (vE 6), (vE 13)]))))
    skipS)))))))
theorem e_after_hours : tbl.F wh 60 (k + 1) "after_hours" = runM 3 14 (m_after_hours wh (tbl.F wh 60 k)) := by kernel_rfl
def m_ways_away (wh : Wh) (F : FT) : SF :=
    (seqS (frzS [0] (retF (lcF2 (plainF (vE 0)) [1, 2, 3, 4, 5, 6] (unF [1, 2, 3]) yesT (plainF (vE 3)) [4, 5, 6] (unF [4, 5, 6]) (cmpF .Eq (vV 6) (kV' (.str ""))) (tupF (argsF [(vE 1), (vE 4)])))))
    skipS)
theorem e_ways_away : tbl.F wh 60 (k + 1) "ways_away" = runM 1 7 (m_ways_away wh (tbl.F wh 60 k)) := by kernel_rfl
def m__law_bag (wh : Wh) (F : FT) : SF :=
    (seqS (frzS [] (asgF 2 (kE (.int 0))))
    (seqS (frzS [] (ifS (cmpF .Lt (vV 1) (valF (orElse (lenS 0) (bltF1 .len (vV 0))))) (seqS (frzS [] (asgF 2 (bltF1 .abs (valF (orElse (ixS 0 (vV 1)) (ixG (vV 0) (vV 1)))))))
    skipS) skipS))
    (seqS (frzS [] (ifS (cmpF .Lt (vV 2) (valF (binF .Pow (valF (kE (.int 10))) (valF (kE (.int 18)))))) (seqS (frzS [] (retF (lstF (argsF [(kE (.int 0)), (binF .Add (valF (kE (.int 1))) (valF (binF .Mod (valF (binF .Add (valF (binF .Mult (vV 2) (valF (kE (.int 7919))))) (valF (binF .Mult (valF (kE (.int 104729))) (vV 1))))) (valF (kE (.int 2147483646))))))]))))
    skipS) skipS))
    (seqS (frzS [2] (retF (lstF (argsF [(vE 2), (binF .Add (valF (kE (.int 1))) (valF (binF .Mod (valF (binF .Add (vV 2) (vV 1))) (valF (kE (.int 2147483646))))))]))))
    skipS))))
theorem e__law_bag : tbl.F wh 60 (k + 1) "_law_bag" = runM 2 3 (m__law_bag wh (tbl.F wh 60 k)) := by kernel_rfl
def m__law_take (wh : Wh) (F : FT) : SF :=
    (seqS (frzS [] (ifS (cmpF .Gt (valF (orElse (ixS 0 (valF (kE (.int 0)))) (ixG (vV 0) (valF (kE (.int 0)))))) (valF (kE (.int 0)))) (seqS (frzS [] (asgF 2 (binF .Mod (valF (orElse (ixS 0 (valF (kE (.int 0)))) (ixG (vV 0) (valF (kE (.int 0)))))) (vV 1))))
    (seqS (frzS [] (setS 0 (binF .FloorDiv (valF (orElse (ixS 0 (valF (kE (.int 0)))) (ixG (vV 0) (valF (kE (.int 0)))))) (vV 1)) (valF (kE (.int 0)))))
    (seqS (frzS [] (retS 2 (retF (vE 2))))
    skipS))) skipS))
    (seqS (frzS [] (setS 0 (binF .Mod (valF (binF .Mult (valF (orElse (ixS 0 (valF (kE (.int 1)))) (ixG (vV 0) (valF (kE (.int 1)))))) (valF (kE (.int 48271))))) (valF (kE (.int 2147483647)))) (valF (kE (.int 1)))))
    (seqS (frzS [] (retF (binF .Mod (valF (binF .FloorDiv (valF (binF .Mod (valF (binF .Mult (valF (orElse (ixS 0 (valF (kE (.int 1)))) (ixG (vV 0) (valF (kE (.int 1)))))) (valF (orElse (ixS 0 (valF (kE (.int 1)))) (ixG (vV 0) (valF (kE (.int 1)))))))) (valF (kE (.int 2147483629))))) (valF (kE (.int 64))))) (vV 1))))
    skipS)))
theorem e__law_take : tbl.F wh 60 (k + 1) "_law_take" = runM 2 3 (m__law_take wh (tbl.F wh 60 k)) := by kernel_rfl
def m__law_lowest (wh : Wh) (F : FT) : SF :=
    (seqS (frzS [1] (par2F 2 3 (bltF1 .abs (vV 0)) (vE 1)))
    (seqS (frzS [] (wh (cmpF .Gt (vV 3) (valF (kE (.int 0)))) (seqS (frzS [3] (par2F 2 3 (vE 3) (binF .Mod (vV 2) (vV 3))))
    skipS)))
    (seqS (frzS [] (retF (tupF (argsF [(binF .FloorDiv (vV 0) (vV 2)), (binF .FloorDiv (vV 1) (vV 2))]))))
    skipS)))
theorem e__law_lowest : tbl.F wh 60 (k + 1) "_law_lowest" = runM 2 4 (m__law_lowest wh (tbl.F wh 60 k)) := by kernel_rfl
def m__law_one_so (wh : Wh) (F : FT) : SF :=
    (seqS (frzS [0] (asgF 1 (tupF (argsF [(tupF (argsF [(kE (.str "ann")), (binF .Mult (valF (kE (.int 2))) (vV 0)), (tupF (argsF [(tupF (argsF [(kE (.int 3)), (binF .Mult (valF (kE (.int 4))) (vV 0)), (kE (.str ""))])), (tupF (argsF [(kE (.int 5)), (vE 0), (kE (.str ""))]))]))]))]))))
    (seqS (frzS [] (asgF 2 (tupF (argsF [(tupF (argsF [(kE (.int 0)), (kE (.int 1))]))]))))
    (seqS (frzS [1, 2] (asgF 3 (lstF (argsF [(blF (cmpF .Eq (valF (callF F "heights" (argsF [(vE 1), (tupF (argsF [(tupF (argsF [(kE (.int 0)), (tupF (argsF [(binF .Mult (valF (kE (.int 2))) (vV 0))]))]))])), (vE 2), (tupF (argsF [(kE (.int 2)), (kE (.int 1))]))]))) (valF (tupF (argsF [(tupF (argsF [(kE (.int 2)), (kE (.int 1))]))])))))]))))
    (seqS (frzS [1, 2] (appS 3 (blF (cmpF .Eq (valF (callF F "heights" (argsF [(vE 1), (tupF (argsF [(tupF (argsF [(kE (.int 0)), (tupF (argsF [(binF .Mult (valF (kE (.int 2))) (vV 0))]))]))])), (vE 2), (tupF (argsF [(kE (.int 9)), (kE (.int 1))]))]))) (valF (tupF (argsF [(tupF (argsF [(kE (.int 3)), (kE (.int 1))]))])))))))
    (seqS (frzS [1, 2] (appS 3 (blF (cmpF .Eq (valF (callF F "through" (argsF [(vE 1), (tupF (argsF [(tupF (argsF [(kE (.int 0)), (tupF (argsF [(binF .Mult (valF (kE (.int 2))) (vV 0))]))]))])), (vE 2), (tupF (argsF [(kE (.int 9)), (kE (.int 1))])), (tupF (argsF [(kE (.str "ann")), (kE (.int 3))]))]))) (valF (tupF (argsF [(binF .Mult (valF (kE (.int 12))) (vV 0)), (kE (.int 1))])))))))
    (seqS (frzS [1, 2, 1] (appS 3 (andE (valF (blF (cmpF .Eq (valF (callF F "turns" (argsF [(vE 1), (tupF (argsF [(tupF (argsF [(kE (.int 0)), (tupF (argsF [(binF .Mult (valF (kE (.int 2))) (vV 0))]))]))])), (vE 2)]))) (valF (lstF (argsF [(tupF (argsF [(tupF (argsF [(kE (.int 3)), (kE (.int 1))])), (kE (.str "ann"))]))])))))) (blF (cmpF .Eq (valF (callF F "rests" (argsF [(vE 1), (tupF (argsF [(binF .Mult (valF (kE (.int 2))) (vV 0))]))]))) (valF (lstF (argsF [(tupF (argsF [(kE (.int 3)), (kE (.int 3))]))]))))))))
    (seqS (frzS [1, 1] (appS 3 (andE (valF (blF (cmpF .Eq (valF (callF F "rests" (argsF [(vE 1), (tupF (argsF [(binF .Mult (valF (kE (.int 4))) (vV 0))]))]))) (valF (lstF (argsF [(tupF (argsF [(kE (.int 3)), (kE (.int 5))]))])))))) (blF (cmpF .Eq (valF (callF F "rests" (argsF [(vE 1), (tupF (argsF [(binF .Mult (valF (kE (.int 5))) (vV 0))]))]))) (valF (lstF (argsF [(tupF (argsF [(kE (.int 5)), (kE .none)]))]))))))))
    (seqS (frzS [1, 1] (appS 3 (andE (valF (blF (cmpF .Eq (valF (callF F "rests" (argsF [(vE 1), (tupF (argsF [(binF .Add (valF (binF .Mult (valF (kE (.int 5))) (vV 0))) (valF (kE (.int 1))))]))]))) (valF (lstF (argsF [(tupF (argsF [(kE (.str "rises"))]))])))))) (blF (cmpF .Eq (valF (callF F "rests" (argsF [(vE 1), (tupF (argsF [(kE (.int 0))]))]))) (valF (lstF (argsF [(tupF (argsF [(kE (.int 0)), (kE (.int 3))]))]))))))))
    (seqS (frzS [] (asgF 4 (tupF (argsF [(tupF (argsF [(kE (.int 0)), (tupF (argsF [(kE (.int 0))]))])), (tupF (argsF [(kE (.int 1)), (tupF (argsF [(binF .Mult (valF (kE (.int 6))) (vV 0))]))])), (tupF (argsF [(kE (.int 2)), (tupF (argsF [(kE (.int 0))]))]))]))))
    (seqS (frzS [1, 4] (appS 3 (blF (cmpF .Eq (valF (callF F "heights" (argsF [(vE 1), (vE 4), (tupF (argsF [(tupF (argsF [(kE (.int 4)), (kE (.int 1))]))])), (tupF (argsF [(kE (.int 1)), (kE (.int 1))]))]))) (valF (tupF (argsF [(tupF (argsF [(kE (.int 3)), (kE (.int 1))]))])))))))
    (seqS (frzS [1, 4] (appS 3 (blF (cmpF .Eq (valF (callF F "heights" (argsF [(vE 1), (vE 4), (tupF (argsF [(tupF (argsF [(kE (.int 4)), (kE (.int 1))]))])), (tupF (argsF [(kE (.int 2)), (kE (.int 1))]))]))) (valF (tupF (argsF [(tupF (argsF [(kE (.int 4)), (kE (.int 1))]))])))))))
    (seqS (frzS [1, 4, 1, 4] (appS 3 (andE (valF (blF (cmpF .Eq (valF (callF F "heights" (argsF [(vE 1), (vE 4), (tupF (argsF [(tupF (argsF [(kE (.int 4)), (kE (.int 1))]))])), (tupF (argsF [(kE (.int 5)), (kE (.int 2))]))]))) (valF (tupF (argsF [(tupF (argsF [(kE (.int 3)), (kE (.int 1))]))])))))) (blF (cmpF .Eq (valF (callF F "settled" (argsF [(vE 1), (vE 4), (tupF (argsF [(tupF (argsF [(kE (.int 4)), (kE (.int 1))]))]))]))) (valF (tupF (argsF [(kE (.int 5)), (kE (.int 2))]))))))))
    (seqS (frzS [1, 4] (appS 3 (blF (cmpF .Eq (valF (callF F "turns" (argsF [(vE 1), (vE 4), (tupF (argsF [(tupF (argsF [(kE (.int 4)), (kE (.int 1))]))]))]))) (valF (lstF (argsF [(tupF (argsF [(tupF (argsF [(kE (.int 1)), (kE (.int 2))])), (kE (.str "ann"))])), (tupF (argsF [(tupF (argsF [(kE (.int 1)), (kE (.int 1))])), (kE (.str "ann"))])), (tupF (argsF [(tupF (argsF [(kE (.int 2)), (kE (.int 1))])), (kE (.str "ann"))])), (tupF (argsF [(tupF (argsF [(kE (.int 5)), (kE (.int 2))])), (kE (.str "ann"))]))])))))))
    (seqS (frzS [1, 1] (appS 3 (andE (valF (blF (cmpF .Eq (valF (callF F "least_rain" (argsF [(vE 1), (tupF (argsF [(kE (.int 0))])), (kE (.str "ann")), (kE (.str "ann")), (kE (.int 3))]))) (valF (kE (.int 1)))))) (blF (cmpF .Eq (valF (callF F "least_rain" (argsF [(vE 1), (tupF (argsF [(kE (.int 0))])), (kE (.str "ann")), (kE (.str "ann")), (kE (.int 4))]))) (valF (binF .Add (valF (binF .Mult (valF (kE (.int 4))) (vV 0))) (valF (kE (.int 1))))))))))
    (seqS (frzS [] (asgF 5 (tupF (argsF [(tupF (argsF [(kE (.str "ann")), (kE (.int 1)), (tupF (argsF [(tupF (argsF [(kE (.int 0)), (kE (.int 2)), (kE (.str ""))]))]))]))]))))
    (seqS (frzS [5] (appS 3 (blF (cmpF .Eq (valF (lcF (rangeF (valF (kE (.int 4)))) [6] (setF 6) yesT (callF F "rests" (argsF [(vE 5), (tupF (argsF [(vE 6)]))])))) (valF (lstF (argsF [(lstF (argsF [(tupF (argsF [(kE (.int 0)), (kE (.int 0))]))])), (lstF (argsF [(tupF (argsF [(kE (.int 0)), (kE (.int 0))]))])), (lstF (argsF [(tupF (argsF [(kE (.int 0)), (kE .none)]))])), (lstF (argsF [(tupF (argsF [(kE (.str "rises"))]))]))])))))))
    (seqS (frzS [1, 1] (retF (binF .Add (vV 3) (valF (lstF (argsF [(blF (cmpF .Eq (valF (callF F "least_rain" (argsF [(vE 1), (tupF (argsF [(kE (.int 0))])), (kE (.str "ann")), (kE (.str "ann")), (kE (.int 6))]))) (valF (binF .Add (valF (binF .Mult (valF (kE (.int 5))) (vV 0))) (valF (kE (.int 1))))))), (blF (cmpF .Eq (valF (callF F "least_rain" (argsF [(vE 1), (tupF (argsF [(kE (.int 7))])), (kE (.str "ann")), (kE (.str "ann")), (kE (.int 0))]))) (valF (kE (.int 0)))))]))))))
    skipS)))))))))))))))))
theorem e__law_one_so : tbl.F wh 60 (k + 1) "_law_one_so" = runM 1 7 (m__law_one_so wh (tbl.F wh 60 k)) := by kernel_rfl
def m__law_two_so (wh : Wh) (F : FT) : SF :=
    (seqS (frzS [0, 0] (asgF 1 (tupF (argsF [(tupF (argsF [(kE (.str "ann")), (vE 0), (tupF (argsF [(tupF (argsF [(kE (.int 2)), (vE 0), (kE (.str ""))])), (tupF (argsF [(kE (.int 4)), (binF .Mult (valF (kE (.int 3))) (vV 0)), (kE (.str "bo"))]))]))])), (tupF (argsF [(kE (.str "bo")), (binF .Mult (valF (kE (.int 2))) (vV 0)), (tupF (argsF [(tupF (argsF [(kE (.int 1)), (binF .Mult (valF (kE (.int 5))) (vV 0)), (kE (.str ""))]))]))]))]))))
    (seqS (frzS [] (asgF 2 (tupF (argsF [(tupF (argsF [(kE (.int 0)), (kE (.int 1))])), (tupF (argsF [(kE (.int 0)), (kE (.int 1))]))]))))
    (seqS (frzS [] (asgF 3 (tupF (argsF [(tupF (argsF [(kE (.int 0)), (tupF (argsF [(binF .Mult (valF (kE (.int 3))) (vV 0)), (kE (.int 0))]))]))]))))
    (seqS (frzS [1, 3, 2] (asgF 4 (lstF (argsF [(blF (cmpF .Eq (valF (callF F "turns" (argsF [(vE 1), (vE 3), (vE 2)]))) (valF (lstF (argsF [(tupF (argsF [(tupF (argsF [(kE (.int 2)), (kE (.int 3))])), (kE (.str "ann"))])), (tupF (argsF [(tupF (argsF [(kE (.int 5)), (kE (.int 3))])), (kE (.str "ann"))])), (tupF (argsF [(tupF (argsF [(kE (.int 5)), (kE (.int 3))])), (kE (.str "bo"))])), (tupF (argsF [(tupF (argsF [(kE (.int 8)), (kE (.int 3))])), (kE (.str "bo"))]))])))))]))))
    (seqS (frzS [1, 3, 2, 1] (appS 4 (andE (valF (blF (cmpF .Eq (valF (callF F "heights" (argsF [(vE 1), (vE 3), (vE 2), (tupF (argsF [(kE (.int 2)), (kE (.int 1))]))]))) (valF (tupF (argsF [(tupF (argsF [(kE (.int 4)), (kE (.int 1))])), (tupF (argsF [(kE (.int 1)), (kE (.int 3))]))])))))) (blF (cmpF .Eq (valF (callF F "comes" (argsF [(vE 1), (tupF (argsF [(binF .Mult (valF (kE (.int 3))) (vV 0)), (kE (.int 0))]))]))) (valF (tupF (argsF [(binF .Mult (valF (kE (.int 3))) (vV 0)), (binF .Mult (valF (kE (.int 2))) (vV 0))]))))))))
    (seqS (frzS [1, 3, 2] (appS 4 (blF (cmpF .Eq (valF (callF F "through" (argsF [(vE 1), (vE 3), (vE 2), (tupF (argsF [(kE (.int 8)), (kE (.int 3))])), (tupF (argsF [(kE (.str "ann")), (kE (.int 4))]))]))) (valF (tupF (argsF [(binF .Mult (valF (kE (.int 2))) (vV 0)), (kE (.int 1))])))))))
    (seqS (frzS [1] (appS 4 (blF (cmpF .Eq (valF (callF F "rests" (argsF [(vE 1), (tupF (argsF [(binF .Mult (valF (kE (.int 3))) (vV 0)), (kE (.int 0))]))]))) (valF (lstF (argsF [(tupF (argsF [(kE (.int 4)), (kE (.int 4))])), (tupF (argsF [(kE (.int 1)), (kE (.int 1))]))])))))))
    (seqS (frzS [1, 3, 2] (appS 4 (blF (cmpF .Eq (valF (callF F "settled" (argsF [(vE 1), (vE 3), (vE 2)]))) (valF (tupF (argsF [(kE (.int 8)), (kE (.int 3))])))))))
    (seqS (frzS [1] (appS 4 (blF (cmpF .Eq (valF (callF F "fewest_plugs" (argsF [(vE 1), (tupF (argsF [(binF .Mult (valF (kE (.int 3))) (vV 0)), (kE (.int 0))])), (kE (.str "bo")), (binF .Mult (valF (kE (.int 2))) (vV 0))]))) (valF (tupF (argsF [])))))))
    (seqS (frzS [1] (appS 4 (blF (cmpF .Eq (valF (callF F "fewest_plugs" (argsF [(vE 1), (tupF (argsF [(binF .Mult (valF (kE (.int 3))) (vV 0)), (kE (.int 0))])), (kE (.str "bo")), (binF .Mult (valF (kE (.int 3))) (vV 0))]))) (valF (tupF (argsF [(tupF (argsF [(kE (.str "ann")), (kE (.int 2))]))])))))))
    (seqS (frzS [1] (appS 4 (blF (cmpF .Is (valF (callF F "fewest_plugs" (argsF [(vE 1), (tupF (argsF [(binF .Mult (valF (kE (.int 3))) (vV 0)), (kE (.int 0))])), (kE (.str "bo")), (binF .Add (valF (binF .Mult (valF (kE (.int 3))) (vV 0))) (valF (kE (.int 1))))]))) (valF (kE .none))))))
    (seqS (frzS [1] (appS 4 (blF (cmpF .Eq (valF (callF F "rates_by" (argsF [(vE 1), (tupF (argsF [(binF .Mult (valF (kE (.int 3))) (vV 0)), (kE (.int 0))])), (tupF (argsF [(kE (.str "ann")), (kE (.int 2))])), (tupF (argsF [(kE (.str "ann")), (kE (.int 4))])), (kE (.int 0))]))) (valF (lrF (valF (binF .Mult (valF (kE (.int 3))) (vV 0))) (valF (kE (.int 101)))))))))
    (seqS (frzS [1] (appS 4 (blF (cmpF .Eq (valF (callF F "rates_by" (argsF [(vE 1), (tupF (argsF [(binF .Mult (valF (kE (.int 3))) (vV 0)), (kE (.int 0))])), (tupF (argsF [(kE (.str "ann")), (kE (.int 2))])), (tupF (argsF [(kE (.str "bo")), (kE (.int 1))])), (kE (.int 1))]))) (valF (lstF (argsF [(binF .Sub (valF (binF .Mult (valF (kE (.int 3))) (vV 0))) (valF (kE (.int 1))))])))))))
    (seqS (frzS [1] (retF (binF .Add (vV 4) (valF (lstF (argsF [(blF (cmpF .Eq (valF (callF F "least_rain" (argsF [(vE 1), (tupF (argsF [(kE (.int 0)), (kE (.int 0))])), (kE (.str "ann")), (kE (.str "bo")), (kE (.int 1))]))) (valF (binF .Add (vV 0) (valF (kE (.int 1)))))))]))))))
    skipS))))))))))))))
theorem e__law_two_so : tbl.F wh 60 (k + 1) "_law_two_so" = runM 1 5 (m__law_two_so wh (tbl.F wh 60 k)) := by kernel_rfl
def m_law (wh : Wh) (F : FT) : SF :=
    (seqS (frzS [] (forF (rangeF (valF (binF .Add (valF (kE (.int 1))) (valF (bltF2 .min2 (valF (orElse (lenS 0) (bltF1 .len (vV 0)))) (valF (kE (.int 10)))))))) (setF 1) (seqS (frzS [0, 1] (asgF 2 (binF .Add (valF (kE (.int 1))) (valF (takF F "_law_take" (callF F "_law_bag" (argsF [(vE 0), (vE 1)])) (kE (.int 10)))))))
    (seqS (frzS [2, 2, 2] (ifS (orT (cmpF .In (valF (kE (.bool false))) (valF (callF F "_law_one_so" (argsF [(vE 2)])))) (orT (cmpF .In (valF (kE (.bool false))) (valF (callF F "_law_two_so" (argsF [(vE 2)])))) (cmpF .In (valF (kE (.bool false))) (valF (callF F "_law_yard_told" (argsF [(vE 2)])))))) (seqS (frzS [] (retF (kE (.bool false))))
    skipS) skipS))
    skipS))))
    (seqS (frzS [] (retF (kE (.bool true))))
    skipS))
theorem e_law : tbl.F wh 60 (k + 1) "law" = runM 1 3 (m_law wh (tbl.F wh 60 k)) := by kernel_rfl
end K11

set_option maxHeartbeats 4000000
namespace K11
open PySem PySem.Spec PyProof.Rows L2 Iv
local instance nmZ_K11P : Iv.Nm := Iv.nmZ
local instance ctI_K11P : Iv.Ct := ctI
noncomputable abbrev FF (k : Nat) : FT := tbl.F whR 60 k
variable {k : Nat}
theorem f_law_take (m : Int) (hm : 0 < m) (hd' : m < 1152921504606846976) (s : Int × Int) (hs : bgOk s) : ∃ (i : Int) (s' : Int × Int), FF (k + 1) "_law_take" [.bag, .fz (.int m)] (some s) = some (.fz (.int i), some s') ∧ 0 ≤ i ∧ i < m ∧ bgOk s' := by
  unfold FF
  rw [e__law_take]
  have hd := divOk_of hm hd'
  obtain ⟨a, b⟩ := s
  obtain ⟨h1, h2⟩ := hs
  have h1 : 0 ≤ b := h1
  have h2 : b < 2147483647 := h2
  cases c : decide (0 < a) with
  | true =>
    have fd : binD .FloorDiv (.int a) (.int m) = some (.fz (.int (a / m))) := by
      show (if divOk m then _ else _) = _
      rw [hd]; rfl
    have c' : decide (a > 0) = true := c
    refine ⟨a % m, (a / m, b), ?_, Int.emod_nonneg _ (by omega), Int.emod_lt_of_pos _ hm, h1, h2⟩
    simp only [m__law_take, runM, seqS, frzS, frzs, frz1, retF, retS, ifS, skipS, andE, orE, notE, ifE, valF, vE, vV, kE, kV', callF, ar_nil, ar_cons, dn_fz, dn_ow, dn_bag, dn_scr, d_fz, d_ow, b_of, t_of, isiF, isD, blF, cmpF, chainF, orElse, lenS, bltF1, notT, andT, orT, tstF, l_list, l_tuple, l_all, l_listL, l_listT, l_tupL, l_tupT, l_abs, c_lt, c_le, c_gt, c_ge, c_eqI, c_neI, c_inS, c_niS, i_list, i_tuple, i_str, x_list, x_tuple, plainF, ixF, ixG, ixS, asgF, unpF, unF, setAll, List.length_cons, List.length_nil, List.map_cons, List.map_nil, if_true, if_false, List.cons_append, List.nil_append, List.append_nil, List.getElem?_cons_zero, List.getElem?_cons_succ, List.replicate, List.set_cons_zero, List.set_cons_succ, Option.bind_some, Option.map_some, Option.bind_none, Option.map_none, Bool.not_true, Bool.not_false, Bool.false_eq_true, Bool.or_false, Bool.or_true, Nat.reduceAdd, Nat.reduceSub, Nat.zero_add, decide_true, decide_false, Bool.true_and, Bool.false_and, Bool.and_true, Bool.and_false, binF, d_mod hm, fd, c', setS]
  | false =>
    have c' : decide (a > 0) = false := c
    have mk : ∀ x y : Int, 0 ≤ x → x < 2147483647 → 0 ≤ y → y < 2147483647 → binD .Mult (.int x) (.int y) = some (.fz (.int (x * y))) := fun x y hx hx' hy hy' => by
      show (if mulOk x y then _ else none) = _
      have : mulOk x y = true := by
        have l1 := lg31 (x := x.natAbs) (by omega)
        have l2 := lg31 (x := y.natAbs) (by omega)
        exact decide_eq_true (by omega)
      rw [this]; rfl
    have q1 := mk b 48271 h1 h2 (by omega) (by omega)
    have m1 := d_mod (i := b * 48271) (j := 2147483647) (by omega)
    have n1 : 0 ≤ b * 48271 % 2147483647 := Int.emod_nonneg _ (by omega)
    have n2 : b * 48271 % 2147483647 < 2147483647 := Int.emod_lt_of_pos _ (by omega)
    generalize b * 48271 % 2147483647 = y at m1 n1 n2
    have q2 := mk y y n1 n2 n1 n2
    have m2 := d_mod (i := y * y) (j := 2147483629) (by omega)
    generalize y * y = yy at q2 m2
    generalize yy % 2147483629 = w at m2
    have q3 : binD .FloorDiv (.int w) (.int 64) = some (.fz (.int (w / 64))) := by
      show (if divOk 64 then _ else none) = _
      rw [show divOk 64 = true from by decide +kernel]; rfl
    refine ⟨w / 64 % m, (a, y), ?_, Int.emod_nonneg _ (by omega), Int.emod_lt_of_pos _ hm, n1, n2⟩
    simp only [m__law_take, runM, seqS, frzS, frzs, frz1, retF, retS, ifS, skipS, andE, orE, notE, ifE, valF, vE, vV, kE, kV', callF, ar_nil, ar_cons, dn_fz, dn_ow, dn_bag, dn_scr, d_fz, d_ow, b_of, t_of, isiF, isD, blF, cmpF, chainF, orElse, lenS, bltF1, notT, andT, orT, tstF, l_list, l_tuple, l_all, l_listL, l_listT, l_tupL, l_tupT, l_abs, c_lt, c_le, c_gt, c_ge, c_eqI, c_neI, c_inS, c_niS, i_list, i_tuple, i_str, x_list, x_tuple, plainF, ixF, ixG, ixS, asgF, unpF, unF, setAll, List.length_cons, List.length_nil, List.map_cons, List.map_nil, if_true, if_false, List.cons_append, List.nil_append, List.append_nil, List.getElem?_cons_zero, List.getElem?_cons_succ, List.replicate, List.set_cons_zero, List.set_cons_succ, Option.bind_some, Option.map_some, Option.bind_none, Option.map_none, Bool.not_true, Bool.not_false, Bool.false_eq_true, Bool.or_false, Bool.or_true, Nat.reduceAdd, Nat.reduceSub, Nat.zero_add, decide_true, decide_false, Bool.true_and, Bool.false_and, Bool.and_true, Bool.and_false, binF, c', setS, q1, m1, q2, m2, q3, d_mod hm]
def bagV (ns : List Int) (j : Nat) : Int := match ns[j]? with
  | some n => if n < 0 then -n else n
  | none => 0
theorem bagV_nn (ns : List Int) (j : Nat) : 0 ≤ bagV ns j := by
  unfold bagV
  split
  · split <;> omega
  · omega
theorem f_law_bag (ns : List Int) (j : Nat) (hj : j ≤ 1000) : ∃ s, FF (k + 1) "_law_bag" [.scr ns, .fz (.int (j : Nat))] none = some (.ow (.list [.int s.1, .int s.2]), none) ∧ bgOk s := by
  unfold FF
  rw [e__law_bag]
  have hp : binD .Pow (.int 10) (.int 18) = some (.fz (.int 1000000000000000000)) := by
    show (if powOk 10 18 then _ else none) = _
    rw [show powOk 10 18 = true from by decide +kernel]
    rfl
  have hv := bagV_nn ns j
  have st2 : (frzS [] (ifS (cmpF .Lt (vV 1) (valF (orElse (lenS 0) (bltF1 .len (vV 0))))) (seqS (frzS [] (asgF 2 (bltF1 .abs (valF (orElse (ixS 0 (vV 1)) (ixG (vV 0) (vV 1))))))) skipS) skipS)) [some (.scr ns), some (.fz (.int (j : Nat))), some (.fz (.int 0))] none = some (.nx, [some (.scr ns), some (.fz (.int (j : Nat))), some (.fz (.int (bagV ns j)))], none) := by
    cases hn : ns[j]? with
    | none =>
      have : decide ((j : Int) < (ns.length : Int)) = false := by
        have := List.getElem?_eq_none_iff.mp hn
        exact decide_eq_false (by omega)
      simp only [runM, seqS, frzS, frzs, frz1, retF, retS, ifS, skipS, andE, orE, notE, ifE, valF, vE, vV, kE, kV', callF, ar_nil, ar_cons, dn_fz, dn_ow, dn_bag, dn_scr, d_fz, d_ow, b_of, t_of, isiF, isD, blF, cmpF, chainF, orElse, lenS, bltF1, notT, andT, orT, tstF, l_list, l_tuple, l_all, l_listL, l_listT, l_tupL, l_tupT, l_abs, c_lt, c_le, c_gt, c_ge, c_eqI, c_neI, c_inS, c_niS, i_list, i_tuple, i_str, x_list, x_tuple, plainF, ixF, ixG, ixS, asgF, unpF, unF, setAll, List.length_cons, List.length_nil, List.map_cons, List.map_nil, if_true, if_false, List.cons_append, List.nil_append, List.append_nil, List.getElem?_cons_zero, List.getElem?_cons_succ, List.replicate, List.set_cons_zero, List.set_cons_succ, Option.bind_some, Option.map_some, Option.bind_none, Option.map_none, Bool.not_true, Bool.not_false, Bool.false_eq_true, Bool.or_false, Bool.or_true, Nat.reduceAdd, Nat.reduceSub, Nat.zero_add, decide_true, decide_false, Bool.true_and, Bool.false_and, Bool.and_true, Bool.and_false, this, bagV, hn]
    | some n =>
      have hlt : decide ((j : Int) < (ns.length : Int)) = true := by
        have := (List.getElem?_eq_some_iff.mp hn).1
        exact decide_eq_true (by omega)
      have hx : atI ns (j : Int) = some n := atI_nat hn
      simp only [runM, seqS, frzS, frzs, frz1, retF, retS, ifS, skipS, andE, orE, notE, ifE, valF, vE, vV, kE, kV', callF, ar_nil, ar_cons, dn_fz, dn_ow, dn_bag, dn_scr, d_fz, d_ow, b_of, t_of, isiF, isD, blF, cmpF, chainF, orElse, lenS, bltF1, notT, andT, orT, tstF, l_list, l_tuple, l_all, l_listL, l_listT, l_tupL, l_tupT, l_abs, c_lt, c_le, c_gt, c_ge, c_eqI, c_neI, c_inS, c_niS, i_list, i_tuple, i_str, x_list, x_tuple, plainF, ixF, ixG, ixS, asgF, unpF, unF, setAll, List.length_cons, List.length_nil, List.map_cons, List.map_nil, if_true, if_false, List.cons_append, List.nil_append, List.append_nil, List.getElem?_cons_zero, List.getElem?_cons_succ, List.replicate, List.set_cons_zero, List.set_cons_succ, Option.bind_some, Option.map_some, Option.bind_none, Option.map_none, Bool.not_true, Bool.not_false, Bool.false_eq_true, Bool.or_false, Bool.or_true, Nat.reduceAdd, Nat.reduceSub, Nat.zero_add, decide_true, decide_false, Bool.true_and, Bool.false_and, Bool.and_true, Bool.and_false, hlt, bagV, hn, hx]
  have mk : ∀ x y : Int, 0 ≤ x → x < 1152921504606846976 → 0 ≤ y → y < 1152921504606846976 → binD .Mult (.int x) (.int y) = some (.fz (.int (x * y))) := fun x y hx hx' hy hy' => by
    show (if mulOk x y then _ else none) = _
    have : mulOk x y = true := by
      have l1 := lg60 (x := x.natAbs) (by omega)
      have l2 := lg60 (x := y.natAbs) (by omega)
      exact decide_eq_true (by omega)
    rw [this]; rfl
  generalize bagV ns j = v at hv st2
  have ad : ∀ x y : Int, binD .Add (.int x) (.int y) = some (.fz (.int (x + y))) := fun _ _ => rfl
  have md := fun x : Int => d_mod (i := x) (j := 2147483646) (by omega)
  have b0 : ∀ x : Int, 0 ≤ 1 + x % 2147483646 ∧ 1 + x % 2147483646 < 2147483647 := fun x => by
    have h1 := Int.emod_nonneg x (b := 2147483646) (by omega)
    have h2 := Int.emod_lt_of_pos x (b := 2147483646) (by omega)
    omega
  cases c : decide (v < 1000000000000000000) with
  | true =>
    have c' := of_decide_eq_true c
    have m1 := mk v 7919 hv (by omega) (by omega) (by omega)
    have m2 := mk 104729 (j : Int) (by omega) (by omega) (by omega) (by omega)
    refine ⟨(0, 1 + (v * 7919 + 104729 * (j : Int)) % 2147483646), ?_, b0 _⟩
    refine run_rt (env1 := [some (.scr ns), some (.fz (.int (j : Nat))), some (.fz (.int v))]) rfl ?_
    unfold m__law_bag
    rw [seq_nx (env1 := [some (.scr ns), some (.fz (.int (j : Nat))), some (.fz (.int 0))]) (st1 := none) rfl]
    rw [seq_nx st2]
    refine seq_rt ?_
    simp only [runM, seqS, frzS, frzs, frz1, retF, retS, ifS, skipS, andE, orE, notE, ifE, valF, vE, vV, kE, kV', callF, ar_nil, ar_cons, dn_fz, dn_ow, dn_bag, dn_scr, d_fz, d_ow, b_of, t_of, isiF, isD, blF, cmpF, chainF, orElse, lenS, bltF1, notT, andT, orT, tstF, l_list, l_tuple, l_all, l_listL, l_listT, l_tupL, l_tupT, l_abs, c_lt, c_le, c_gt, c_ge, c_eqI, c_neI, c_inS, c_niS, i_list, i_tuple, i_str, x_list, x_tuple, plainF, ixF, ixG, ixS, asgF, unpF, unF, setAll, List.length_cons, List.length_nil, List.map_cons, List.map_nil, if_true, if_false, List.cons_append, List.nil_append, List.append_nil, List.getElem?_cons_zero, List.getElem?_cons_succ, List.replicate, List.set_cons_zero, List.set_cons_succ, Option.bind_some, Option.map_some, Option.bind_none, Option.map_none, Bool.not_true, Bool.not_false, Bool.false_eq_true, Bool.or_false, Bool.or_true, Nat.reduceAdd, Nat.reduceSub, Nat.zero_add, decide_true, decide_false, Bool.true_and, Bool.false_and, Bool.and_true, Bool.and_false, binF, hp, c, m1, m2, ad, md, lstF]
    rfl
  | false =>
    refine ⟨(v, 1 + (v + (j : Int)) % 2147483646), ?_, b0 _⟩
    refine run_rt (env1 := [some (.scr ns), some (.fz (.int (j : Nat))), some (.fz (.int v))]) rfl ?_
    unfold m__law_bag
    rw [seq_nx (env1 := [some (.scr ns), some (.fz (.int (j : Nat))), some (.fz (.int 0))]) (st1 := none) rfl]
    rw [seq_nx st2]
    rw [seq_nx (env1 := [some (.scr ns), some (.fz (.int (j : Nat))), some (.fz (.int v))]) (st1 := none) (by simp only [runM, seqS, frzS, frzs, frz1, retF, retS, ifS, skipS, andE, orE, notE, ifE, valF, vE, vV, kE, kV', callF, ar_nil, ar_cons, dn_fz, dn_ow, dn_bag, dn_scr, d_fz, d_ow, b_of, t_of, isiF, isD, blF, cmpF, chainF, orElse, lenS, bltF1, notT, andT, orT, tstF, l_list, l_tuple, l_all, l_listL, l_listT, l_tupL, l_tupT, l_abs, c_lt, c_le, c_gt, c_ge, c_eqI, c_neI, c_inS, c_niS, i_list, i_tuple, i_str, x_list, x_tuple, plainF, ixF, ixG, ixS, asgF, unpF, unF, setAll, List.length_cons, List.length_nil, List.map_cons, List.map_nil, if_true, if_false, List.cons_append, List.nil_append, List.append_nil, List.getElem?_cons_zero, List.getElem?_cons_succ, List.replicate, List.set_cons_zero, List.set_cons_succ, Option.bind_some, Option.map_some, Option.bind_none, Option.map_none, Bool.not_true, Bool.not_false, Bool.false_eq_true, Bool.or_false, Bool.or_true, Nat.reduceAdd, Nat.reduceSub, Nat.zero_add, decide_true, decide_false, Bool.true_and, Bool.false_and, Bool.and_true, Bool.and_false, binF, hp, c])]
    refine seq_rt ?_
    simp only [runM, seqS, frzS, frzs, frz1, retF, retS, ifS, skipS, andE, orE, notE, ifE, valF, vE, vV, kE, kV', callF, ar_nil, ar_cons, dn_fz, dn_ow, dn_bag, dn_scr, d_fz, d_ow, b_of, t_of, isiF, isD, blF, cmpF, chainF, orElse, lenS, bltF1, notT, andT, orT, tstF, l_list, l_tuple, l_all, l_listL, l_listT, l_tupL, l_tupT, l_abs, c_lt, c_le, c_gt, c_ge, c_eqI, c_neI, c_inS, c_niS, i_list, i_tuple, i_str, x_list, x_tuple, plainF, ixF, ixG, ixS, asgF, unpF, unF, setAll, List.length_cons, List.length_nil, List.map_cons, List.map_nil, if_true, if_false, List.cons_append, List.nil_append, List.append_nil, List.getElem?_cons_zero, List.getElem?_cons_succ, List.replicate, List.set_cons_zero, List.set_cons_succ, Option.bind_some, Option.map_some, Option.bind_none, Option.map_none, Bool.not_true, Bool.not_false, Bool.false_eq_true, Bool.or_false, Bool.or_true, Nat.reduceAdd, Nat.reduceSub, Nat.zero_add, decide_true, decide_false, Bool.true_and, Bool.false_and, Bool.and_true, Bool.and_false, binF, ad, md, lstF]
    rfl
end K11

set_option maxHeartbeats 4000000
namespace K11
open PySem PySem.Spec PyProof.Rows L2 Iv
local instance nmZ_K11C : Iv.Nm := Iv.nmZ
local instance ctI_K11C : Iv.Ct := ctI
variable {k : Nat}
/-! ### makers, by what is wanted of them -/
structure Hl where
  h : Nat
  r : Nat
  to : Str
def Hl.d (x : Hl) : D := .tuple [.int x.h, .int x.r, .str x.to]
structure Tb where
  n : Str
  g : Nat
  hs : List Hl
def Tb.d (t : Tb) : D := .tuple [.str t.n, .int t.g, .tuple (t.hs.map Hl.d)]
structure GoodHs (later : List Str) (hs : List Hl) : Prop where
  len : hs.length ≤ 3
  up : hs.Pairwise fun a b => a.h < b.h
  hi : ∀ x ∈ hs, x.h ≤ 1000
  lo : ∀ x ∈ hs, 1 ≤ x.r
  ra : ∀ x ∈ hs, x.r ≤ 100
  to : ∀ x ∈ hs, x.to = "" ∨ x.to ∈ later
structure GoodT (later : List Str) (t : Tb) : Prop where
  g0 : 1 ≤ t.g
  g1 : t.g ≤ 30
  hs : GoodHs later t.hs
def nls : List (List Str) := [["ann", "bo", "cy"], ["cy", "ann", "bo"]]
structure GoodTs (ts : List Tb) : Prop where
  pos : 1 ≤ ts.length
  len : ts.length ≤ 3
  nm : ∃ nl ∈ nls, ts.map Tb.n = nl.take ts.length
  tb : ∀ (j : Nat) (t : Tb), ts[j]? = some t → GoodT ((ts.map Tb.n).drop (j + 1)) t
theorem w_take {m : Int} {s : Int × Int} {Q : R × BSt → Prop} (hs : bgOk s) (hm : 0 < m) (hm' : m < 1152921504606846976) (q : ∀ i s', 0 ≤ i → i < m → bgOk s' → Q (.fz (.int i), some s')) : wp (tbl.F whR 60 (k + 1) "_law_take" [.bag, .fz (.int m)] (some s)) Q := by
  obtain ⟨i, s', h1, h2, h3, h4⟩ := f_law_take (k := k) m hm hm' s hs
  exact wp_eq h1 (q i s' h2 h3 h4)
theorem isort_mem (z : Int) (l : List Int) : z ∈ isort l ↔ z ∈ l := (isort_perm l).mem_iff
/-- the keys of a dict that is used as a set of numbers -/
structure KeySet (kds : List (D × D)) (ks : List Int) : Prop where
  eq : kds = ks.map fun i => (.int i, .bool true)
  nd : ks.Nodup
theorem keySet_plain {kds : List (D × D)} {ks : List Int} (h : KeySet kds ks) : plainK kds = true := by
  rw [h.eq]; unfold plainK
  rw [List.all_eq_true]
  intro x hx
  obtain ⟨i, _, rfl⟩ := List.mem_map.mp hx
  rfl
theorem keySet_nil : KeySet [] [] := ⟨rfl, .nil⟩
theorem keysI_set (ks : List Int) : keysI (ks.map fun i => (PyData.int i, PyData.bool true)) = some ks := by
  induction ks with
  | nil => rfl
  | cons i ks ih => simp only [List.map_cons, keysI, ih]; rfl
theorem any_keys (ks : List Int) (n : Int) : ((ks.map fun i => ((PyData.int i, PyData.bool true) : D × D)).any fun kv => decide (Iv.keyOf kv.1 = some (.inl n))) = decide (n ∈ ks) := by
  induction ks with
  | nil => rfl
  | cons i ks ih =>
    rw [List.map_cons, List.any_cons, ih]
    show (decide (some (Sum.inl i : Key) = some (.inl n)) || decide (n ∈ ks)) = _
    by_cases h : i = n
    · subst h; simp
    · have : ¬ n = i := fun z => h z.symm
      have h2 : ¬ (some (Sum.inl i : Key) = some (.inl n)) := fun z => h (by cases z; rfl)
      rw [decide_eq_false h2]
      simp [this]
theorem keySet_put {kds : List (D × D)} {ks : List Int} (h : KeySet kds ks) (n : Int) : ∃ ks', KeySet (putD kds (.inl n) (.bool true)) ks' ∧ (∀ i, i ∈ ks' ↔ i ∈ ks ∨ i = n) ∧ ks'.length ≤ ks.length + 1 := by
  obtain ⟨rfl, nd⟩ := h
  unfold putD
  rw [any_keys]
  by_cases hn : n ∈ ks
  · rw [decide_eq_true hn, if_pos rfl]
    refine ⟨ks, ⟨?_, nd⟩, fun i => ⟨.inl, fun z => z.elim id fun z => z ▸ hn⟩, by omega⟩
    rw [List.map_map]
    refine List.map_congr_left fun i hi => ?_
    show (if Iv.keyOf (PyData.int i) = some (.inl n) then (PyData.int i, PyData.bool true) else (PyData.int i, PyData.bool true)) = _
    split <;> rfl
  · rw [decide_eq_false hn, if_neg (by simp)]
    refine ⟨ks ++ [n], ⟨by rw [List.map_append]; rfl, ?_⟩, fun i => by simp, by simp⟩
    rw [List.nodup_append]
    refine ⟨nd, by simp, fun a ha b hb => ?_⟩
    rw [List.mem_singleton.mp hb]
    exact fun z => hn (z ▸ ha)
theorem isort_lt {ks : List Int} (h : ks.Nodup) : (isort ks).Pairwise (· < ·) := by
  have h1 := isort_sorted ks
  have h2 : (isort ks).Nodup := (isort_perm ks).nodup_iff.mpr h
  exact (h1.and h2).imp fun ⟨a, b⟩ => by omega
theorem enum_get {ds : List D} {n i : Nat} {x : D} (h : (enumD n ds)[i]? = some x) : ∃ d, ds[i]? = some d ∧ x = .tuple [.int ((n + i : Nat) : Int), d] := by
  have hl : i < ds.length := by
    have := (List.getElem?_eq_some_iff.mp h).1
    rwa [enumD_len] at this
  have e := enumD_get ds n i (List.getElem?_eq_getElem hl)
  rw [h] at e
  exact ⟨_, List.getElem?_eq_getElem hl, Option.some.inj e⟩
def intD (n : Nat) : D := .int (n : Nat)
structure TbOk (t : Tb) : Prop where
  len : t.hs.length ≤ 3
  hi : ∀ x ∈ t.hs, x.h ≤ 1000
  ra : ∀ x ∈ t.hs, x.r ≤ 100
theorem GoodTs.ok {ts : List Tb} (h : GoodTs ts) : ∀ t ∈ ts, TbOk t := fun t ht => by
  obtain ⟨j, hj⟩ := List.getElem?_of_mem ht
  have g := h.tb j t hj
  exact ⟨g.hs.len, g.hs.hi, g.hs.ra⟩
theorem sum_take_le {l : List Nat} {b : Nat} (h : ∀ x ∈ l, x ≤ b) (c : Nat) : (l.take c).sum ≤ b * c := by
  induction l generalizing c with
  | nil => simp
  | cons x l ih =>
    cases c with
    | zero => simp
    | succ c =>
      simp only [List.take_succ_cons, List.sum_cons]
      have h1 := h x List.mem_cons_self
      have h2 := ih (fun y hy => h y (List.mem_cons_of_mem _ hy)) c
      rw [Nat.mul_succ]; omega
end K11

set_option maxHeartbeats 4000000
namespace K11
open PySem PySem.Spec PyProof.Rows L2 Iv
local instance nmZ_K11D : Iv.Nm := Iv.nmZ
local instance ctI_K11D : Iv.Ct := ctI
variable {k : Nat} {st : BSt}
/-! ### what comes, shared out over the holes -/
def shareI : List Hl → Int → List Int
  | [], _ => []
  | x :: hs, m => min m x.r :: shareI hs (m - min m x.r)
def iD (i : Int) : D := .int i
theorem min_i (a b : Int) : blD2 .min2 (.int a) (.int b) = some (.fz (.int (min a b))) := by
  show some (R.fz (.int (if b < a then b else a))) = _
  congr 3
  split <;> omega
theorem at_last {α : Type} (l : List α) (x : α) : atI (l ++ [x]) (-1) = some x := by
  unfold atI
  simp [ixN]
  rw [if_pos (by omega)]
  rw [show (-1 + ((l.length : Int) + 1)).toNat = l.length from by omega]
  simp
noncomputable def bodyShare : SF := (seqS (frzS [3, 5] (appS 2 (bltF2 .min2 (vV 3) (vV 5))))
    (seqS (frzS [] (augF .Sub 3 (valF (orElse (ixS 2 (valF (negE (valF (kE (.int 1)))))) (ixG (vV 2) (valF (negE (valF (kE (.int 1))))))))))
    skipS))
theorem loop_share {a0 a1 : Option R} : ∀ (hs : List Hl) (acc : List D) (m : Int) (z4 z5 z6 : Option R), acc.length + hs.length ≤ 16777216 →
    ∃ l z4' z5' z6', forL (unF [4, 5, 6]) bodyShare (hs.map Hl.d) [a0, a1, some (.ow (.list acc)), some (.fz (.int m)), z4, z5, z6] st = some (.nx, [a0, a1, some (.ow (.list (acc ++ (shareI hs m).map iD))), l, z4', z5', z6'], st)
  | [], acc, m, z4, z5, z6, _ => ⟨_, z4, z5, z6, by simp [shareI, forL]; rfl⟩
  | x :: hs, acc, m, z4, z5, z6, hl => by
    simp only [List.length_cons] at hl
    obtain ⟨l, y4, y5, y6, ih⟩ := loop_share (a0 := a0) (a1 := a1) hs (acc ++ [.int (min m x.r)]) (m - min m x.r) (some (.fz (.int x.h))) (some (.fz (.int x.r))) (some (.fz (.str x.to))) (by simp; omega)
    refine ⟨l, y4, y5, y6, ?_⟩
    rw [List.map_cons]
    unfold forL
    have hsz : acc.length < sizeLine := by rw [sizeLine_eq]; omega
    have hb : bodyShare [a0, a1, some (.ow (.list acc)), some (.fz (.int m)), some (.fz (.int x.h)), some (.fz (.int x.r)), some (.fz (.str x.to))] st = some (.nx, [a0, a1, some (.ow (.list (acc ++ [.int (min m x.r)]))), some (.fz (.int (m - min m x.r))), some (.fz (.int x.h)), some (.fz (.int x.r)), some (.fz (.str x.to))], st) := by
      unfold bodyShare
      simp only [runM, seqS, frzS, frzs, frz1, retF, retS, ifS, skipS, andE, orE, notE, ifE, valF, vE, vV, kE, kV', callF, ar_nil, ar_cons, dn_fz, dn_ow, dn_bag, dn_scr, d_fz, d_ow, b_of, t_of, isiF, isD, blF, cmpF, chainF, orElse, lenS, bltF1, notT, andT, orT, tstF, l_list, l_tuple, l_all, l_listL, l_listT, l_tupL, l_tupT, l_abs, c_lt, c_le, c_gt, c_ge, c_eqI, c_neI, c_inS, c_niS, i_list, i_tuple, i_str, x_list, x_tuple, plainF, ixF, ixG, ixS, asgF, unpF, unF, setAll, List.length_cons, List.length_nil, List.map_cons, List.map_nil, if_true, if_false, List.cons_append, List.nil_append, List.append_nil, List.getElem?_cons_zero, List.getElem?_cons_succ, List.replicate, List.set_cons_zero, List.set_cons_succ, Option.bind_some, Option.map_some, Option.bind_none, Option.map_none, Bool.not_true, Bool.not_false, Bool.false_eq_true, Bool.or_false, Bool.or_true, Nat.reduceAdd, Nat.reduceSub, Nat.zero_add, decide_true, decide_false, Bool.true_and, Bool.false_and, Bool.and_true, Bool.and_false, appS, bltF2, min_i, augF, augO, hsz, negE, at_last]
    have hg : unF [4, 5, 6] x.d [a0, a1, some (.ow (.list acc)), some (.fz (.int m)), z4, z5, z6] = some [a0, a1, some (.ow (.list acc)), some (.fz (.int m)), some (.fz (.int x.h)), some (.fz (.int x.r)), some (.fz (.str x.to))] := rfl
    simp only [hg, Option.bind_some, hb, ih, shareI, List.map_cons, iD, List.append_assoc, List.cons_append, List.nil_append]
theorem f_shared_out (hs : List Hl) (m : Int) (hl : hs.length ≤ 16777216) : FF (k + 1) "shared_out" [.fz (.tuple (hs.map Hl.d)), .fz (.int m)] st = some (.ow (.list ((shareI hs m).map iD)), st) := by
  unfold FF
  rw [e_shared_out]
  obtain ⟨l, y4, y5, y6, h⟩ := loop_share (st := st) (a0 := some (.fz (.tuple (hs.map Hl.d)))) (a1 := some (.fz (.int m))) hs [] m none none none (by simpa using hl)
  refine run_rt (env1 := [some (.fz (.tuple (hs.map Hl.d))), some (.fz (.int m)), some (.ow (.list ((shareI hs m).map iD))), l, y4, y5, y6]) rfl ?_
  unfold m_shared_out
  rw [seq_nx (env1 := [some (.fz (.tuple (hs.map Hl.d))), some (.fz (.int m)), some (.ow (.list [])), none, none, none, none]) (st1 := st) rfl]
  rw [seq_nx (env1 := [some (.fz (.tuple (hs.map Hl.d))), some (.fz (.int m)), some (.ow (.list [])), some (.fz (.int m)), none, none, none]) (st1 := st) rfl]
  have h' : frzS [0] (forF (plainF (vE 0)) (unF [4, 5, 6]) bodyShare) [some (.fz (.tuple (hs.map Hl.d))), some (.fz (.int m)), some (.ow (.list [])), some (.fz (.int m)), none, none, none] st = some (.nx, [some (.fz (.tuple (hs.map Hl.d))), some (.fz (.int m)), some (.ow (.list ((shareI hs m).map iD))), l, y4, y5, y6], st) := h
  exact (seq_nx h').trans rfl
/-- the def within flows_in_the_end -/
theorem f_letting (ts : List Tb) (i : Nat) (t : Tb) (m : Int) (hi : ts[i]? = some t) (hl : t.hs.length ≤ 16777216) : FF (k + 2) "flows_in_the_end.<locals>.letting" [.fz (.int (i : Nat)), .fz (.int m), .fz (.tuple (ts.map Tb.d))] st = some (.ow (.list ((shareI t.hs m).map iD)), st) := by
  have h := fun st => f_shared_out (k := k) (st := st) t.hs m hl
  unfold FF at h ⊢
  rw [e_letting]
  have hx : atI (ts.map Tb.d) (i : Int) = some t.d := atI_nat (by rw [List.getElem?_map, hi]; rfl)
  have hy : ∀ a b c : D, atI [a, b, c] 2 = some c := fun _ _ _ => rfl
  simp only [m_letting, runM, seqS, frzS, frzs, frz1, retF, retS, ifS, skipS, andE, orE, notE, ifE, valF, vE, vV, kE, kV', callF, ar_nil, ar_cons, dn_fz, dn_ow, dn_bag, dn_scr, d_fz, d_ow, b_of, t_of, isiF, isD, blF, cmpF, chainF, orElse, lenS, bltF1, notT, andT, orT, tstF, l_list, l_tuple, l_all, l_listL, l_listT, l_tupL, l_tupT, l_abs, c_lt, c_le, c_gt, c_ge, c_eqI, c_neI, c_inS, c_niS, i_list, i_tuple, i_str, x_list, x_tuple, plainF, ixF, ixG, ixS, asgF, unpF, unF, setAll, List.length_cons, List.length_nil, List.map_cons, List.map_nil, if_true, if_false, List.cons_append, List.nil_append, List.append_nil, List.getElem?_cons_zero, List.getElem?_cons_succ, List.replicate, List.set_cons_zero, List.set_cons_succ, Option.bind_some, Option.map_some, Option.bind_none, Option.map_none, Bool.not_true, Bool.not_false, Bool.false_eq_true, Bool.or_false, Bool.or_true, Nat.reduceAdd, Nat.reduceSub, Nat.zero_add, decide_true, decide_false, Bool.true_and, Bool.false_and, Bool.and_true, Bool.and_false, hx, Tb.d, hy, h]
end K11

set_option maxHeartbeats 4000000
namespace K11
open PySem PySem.Spec PyProof.Rows L2 Iv
local instance nmZ_K11E : Iv.Nm := Iv.nmZ
local instance ctI_K11E : Iv.Ct := ctI
variable {k : Nat} {st : BSt}
/-! ### what the holes let out, added to what comes -/
def idx (names : List Str) (z : Str) : Option Nat := names.findIdx? fun y => y == z
def add1 (names : List Str) (cs : List Int) (z : Str) (y : Int) : List Int := if z = "" then cs else match idx names z with
  | some j => cs.set j (cs.getD j 0 + y)
  | none => cs
def pour (names : List Str) : List Int → List (Hl × Int) → List Int
  | cs, [] => cs
  | cs, p :: r => pour names (add1 names cs p.1.to p.2) r
theorem add1_len (names : List Str) (cs : List Int) (z : Str) (y : Int) : (add1 names cs z y).length = cs.length := by
  unfold add1
  split
  · rfl
  · split <;> simp
theorem pour_len (names : List Str) : ∀ (ps : List (Hl × Int)) (cs : List Int), (pour names cs ps).length = cs.length
  | [], _ => rfl
  | p :: r, cs => by unfold pour; rw [pour_len names r, add1_len]
theorem idx_mem {names : List Str} {z : Str} (h : z ∈ names) : ∃ j, idx names z = some j ∧ j < names.length := by
  unfold idx
  cases e : names.findIdx? fun y => y == z with
  | none =>
    rw [List.findIdx?_eq_none_iff] at e
    have := e z h
    simp at this
  | some j =>
    exact ⟨j, rfl, (List.findIdx?_eq_some_iff_findIdx_eq.mp e).1⟩
theorem idxD_strs (names : List Str) (z : Str) : idxD (names.map .str) (.str z) = idx names z := by
  unfold idxD idx
  rw [List.findIdx?_map]
  rfl
theorem c_neS {i j : Str} (hi : PyData.strOk i = true) (hj : PyData.strOk j = true) : cmpD .NotEq (.str i) (.str j) = some (!(i == j)) := by
  show (if SeqAt.shaped (.str i) && SeqAt.shaped (.str j) then some (!PyData.eqv (.str i) (.str j)) else none) = _
  rw [sh_str hi, sh_str hj]; rfl
theorem ok0 : PyData.strOk ("" : Str) = true := by decide +kernel
noncomputable def bodyPour : SF := (seqS (frzS [] (ifS (cmpF .NotEq (vV 13) (kV' (.str ""))) (seqS (frzS [14] (augSF .Add 4 (valF (idxF (vV 3) (vV 13))) (vV 14)))
    skipS) skipS))
    skipS)
def prD (p : Hl × Int) : D := .tuple [p.1.d, .int p.2]
theorem loop_pour {names : List Str} (hok : ∀ z ∈ names, PyData.strOk z = true) {a0 a1 a2 a5 a6 a7 a8 a9 a10 : Option R} : ∀ (ps : List (Hl × Int)) (cs : List Int) (z11 z12 z13 z14 : Option R), cs.length = names.length → (∀ p ∈ ps, p.1.to = "" ∨ p.1.to ∈ names) →
    ∃ y11 y12 y13 y14, forL (unG [unF [11, 12, 13], setF 14]) bodyPour (ps.map prD) [a0, a1, a2, some (.ow (.list (names.map .str))), some (.ow (.list (cs.map iD))), a5, a6, a7, a8, a9, a10, z11, z12, z13, z14] st = some (.nx, [a0, a1, a2, some (.ow (.list (names.map .str))), some (.ow (.list ((pour names cs ps).map iD))), a5, a6, a7, a8, a9, a10, y11, y12, y13, y14], st)
  | [], cs, z11, z12, z13, z14, _, _ => ⟨z11, z12, z13, z14, rfl⟩
  | p :: ps, cs, z11, z12, z13, z14, hl, hp => by
    obtain ⟨x, y⟩ := p
    obtain ⟨y11, y12, y13, y14, ih⟩ := loop_pour hok (a0 := a0) (a1 := a1) (a2 := a2) (a5 := a5) (a6 := a6) (a7 := a7) (a8 := a8) (a9 := a9) (a10 := a10) ps (add1 names cs x.to y) (some (.fz (.int x.h))) (some (.fz (.int x.r))) (some (.fz (.str x.to))) (some (.fz (.int y))) (by rw [add1_len]; exact hl) (fun q hq => hp q (List.mem_cons_of_mem _ hq))
    refine ⟨y11, y12, y13, y14, ?_⟩
    rw [List.map_cons]
    unfold forL
    have hg : unG [unF [11, 12, 13], setF 14] (prD (x, y)) [a0, a1, a2, some (.ow (.list (names.map .str))), some (.ow (.list (cs.map iD))), a5, a6, a7, a8, a9, a10, z11, z12, z13, z14] = some [a0, a1, a2, some (.ow (.list (names.map .str))), some (.ow (.list (cs.map iD))), a5, a6, a7, a8, a9, a10, some (.fz (.int x.h)), some (.fz (.int x.r)), some (.fz (.str x.to)), some (.fz (.int y))] := rfl
    have hb : bodyPour [a0, a1, a2, some (.ow (.list (names.map .str))), some (.ow (.list (cs.map iD))), a5, a6, a7, a8, a9, a10, some (.fz (.int x.h)), some (.fz (.int x.r)), some (.fz (.str x.to)), some (.fz (.int y))] st = some (.nx, [a0, a1, a2, some (.ow (.list (names.map .str))), some (.ow (.list ((add1 names cs x.to y).map iD))), a5, a6, a7, a8, a9, a10, some (.fz (.int x.h)), some (.fz (.int x.r)), some (.fz (.str x.to)), some (.fz (.int y))], st) := by
      by_cases e : x.to = ""
      · rw [e]
        have c := c_neS ok0 ok0
        rw [show (!(("" : Str) == "")) = false from by decide +kernel] at c
        unfold bodyPour
        simp only [runM, seqS, frzS, frzs, frz1, retF, retS, ifS, skipS, andE, orE, notE, ifE, valF, vE, vV, kE, kV', callF, ar_nil, ar_cons, dn_fz, dn_ow, dn_bag, dn_scr, d_fz, d_ow, b_of, t_of, isiF, isD, blF, cmpF, chainF, orElse, lenS, bltF1, notT, andT, orT, tstF, l_list, l_tuple, l_all, l_listL, l_listT, l_tupL, l_tupT, l_abs, c_lt, c_le, c_gt, c_ge, c_eqI, c_neI, c_inS, c_niS, i_list, i_tuple, i_str, x_list, x_tuple, plainF, ixF, ixG, ixS, asgF, unpF, unF, setAll, List.length_cons, List.length_nil, List.map_cons, List.map_nil, if_true, if_false, List.cons_append, List.nil_append, List.append_nil, List.getElem?_cons_zero, List.getElem?_cons_succ, List.replicate, List.set_cons_zero, List.set_cons_succ, Option.bind_some, Option.map_some, Option.bind_none, Option.map_none, Bool.not_true, Bool.not_false, Bool.false_eq_true, Bool.or_false, Bool.or_true, Nat.reduceAdd, Nat.reduceSub, Nat.zero_add, decide_true, decide_false, Bool.true_and, Bool.false_and, Bool.and_true, Bool.and_false, c]
        unfold add1
        rw [if_pos rfl]
      · have hm : x.to ∈ names := (hp (x, y) List.mem_cons_self).resolve_left e
        obtain ⟨j, hj, hjl⟩ := idx_mem hm
        have c := c_neS (hok _ hm) ok0
        rw [show (!(x.to == "")) = true from by simpa using e] at c
        have hjc : j < cs.length := by omega
        have hget : (cs.map iD)[j]? = some (.int (cs.getD j 0)) := by
          rw [List.getElem?_map, List.getElem?_eq_getElem hjc]
          simp [iD, List.getD, List.getElem?_eq_getElem hjc]
        have hd0 : decide ((0 : Int) ≤ (j : Int)) = true := decide_eq_true (by omega)
        have hx : valF (idxF (vV 3) (vV 13)) [a0, a1, a2, some (.ow (.list (names.map .str))), some (.ow (.list (cs.map iD))), a5, a6, a7, a8, a9, a10, some (.fz (.int x.h)), some (.fz (.int x.r)), some (.fz (.str x.to)), some (.fz (.int y))] st = some (.int (j : Int), st) := by
          simp only [runM, seqS, frzS, frzs, frz1, retF, retS, ifS, skipS, andE, orE, notE, ifE, valF, vE, vV, kE, kV', callF, ar_nil, ar_cons, dn_fz, dn_ow, dn_bag, dn_scr, d_fz, d_ow, b_of, t_of, isiF, isD, blF, cmpF, chainF, orElse, lenS, bltF1, notT, andT, orT, tstF, l_list, l_tuple, l_all, l_listL, l_listT, l_tupL, l_tupT, l_abs, c_lt, c_le, c_gt, c_ge, c_eqI, c_neI, c_inS, c_niS, i_list, i_tuple, i_str, x_list, x_tuple, plainF, ixF, ixG, ixS, asgF, unpF, unF, setAll, List.length_cons, List.length_nil, List.map_cons, List.map_nil, if_true, if_false, List.cons_append, List.nil_append, List.append_nil, List.getElem?_cons_zero, List.getElem?_cons_succ, List.replicate, List.set_cons_zero, List.set_cons_succ, Option.bind_some, Option.map_some, Option.bind_none, Option.map_none, Bool.not_true, Bool.not_false, Bool.false_eq_true, Bool.or_false, Bool.or_true, Nat.reduceAdd, Nat.reduceSub, Nat.zero_add, decide_true, decide_false, Bool.true_and, Bool.false_and, Bool.and_true, Bool.and_false, idxF, sh_strs hok, sh_str (hok _ hm), idxD_strs, hj]
        have hs : augSF .Add 4 (valF (idxF (vV 3) (vV 13))) (vV 14) [a0, a1, a2, some (.ow (.list (names.map .str))), some (.ow (.list (cs.map iD))), a5, a6, a7, a8, a9, a10, some (.fz (.int x.h)), some (.fz (.int x.r)), some (.fz (.str x.to)), some (.fz (.int y))] st = some (.nx, [a0, a1, a2, some (.ow (.list (names.map .str))), some (.ow (.list ((add1 names cs x.to y).map iD))), a5, a6, a7, a8, a9, a10, some (.fz (.int x.h)), some (.fz (.int x.r)), some (.fz (.str x.to)), some (.fz (.int y))], st) := by
          have ea : (add1 names cs x.to y).map iD = (cs.map iD).set j (.int (cs.getD j 0 + y)) := by
            unfold add1
            rw [if_neg e, hj]
            simp [iD]
          rw [ea]
          unfold augSF
          simp only [runM, seqS, frzS, frzs, frz1, retF, retS, ifS, skipS, andE, orE, notE, ifE, valF, vE, vV, kE, kV', callF, ar_nil, ar_cons, dn_fz, dn_ow, dn_bag, dn_scr, d_fz, d_ow, b_of, t_of, isiF, isD, blF, cmpF, chainF, orElse, lenS, bltF1, notT, andT, orT, tstF, l_list, l_tuple, l_all, l_listL, l_listT, l_tupL, l_tupT, l_abs, c_lt, c_le, c_gt, c_ge, c_eqI, c_neI, c_inS, c_niS, i_list, i_tuple, i_str, x_list, x_tuple, plainF, ixF, ixG, ixS, asgF, unpF, unF, setAll, List.length_cons, List.length_nil, List.map_cons, List.map_nil, if_true, if_false, List.cons_append, List.nil_append, List.append_nil, List.getElem?_cons_zero, List.getElem?_cons_succ, List.replicate, List.set_cons_zero, List.set_cons_succ, Option.bind_some, Option.map_some, Option.bind_none, Option.map_none, Bool.not_true, Bool.not_false, Bool.false_eq_true, Bool.or_false, Bool.or_true, Nat.reduceAdd, Nat.reduceSub, Nat.zero_add, decide_true, decide_false, Bool.true_and, Bool.false_and, Bool.and_true, Bool.and_false] at hx ⊢
          simp only [runM, seqS, frzS, frzs, frz1, retF, retS, ifS, skipS, andE, orE, notE, ifE, valF, vE, vV, kE, kV', callF, ar_nil, ar_cons, dn_fz, dn_ow, dn_bag, dn_scr, d_fz, d_ow, b_of, t_of, isiF, isD, blF, cmpF, chainF, orElse, lenS, bltF1, notT, andT, orT, tstF, l_list, l_tuple, l_all, l_listL, l_listT, l_tupL, l_tupT, l_abs, c_lt, c_le, c_gt, c_ge, c_eqI, c_neI, c_inS, c_niS, i_list, i_tuple, i_str, x_list, x_tuple, plainF, ixF, ixG, ixS, asgF, unpF, unF, setAll, List.length_cons, List.length_nil, List.map_cons, List.map_nil, if_true, if_false, List.cons_append, List.nil_append, List.append_nil, List.getElem?_cons_zero, List.getElem?_cons_succ, List.replicate, List.set_cons_zero, List.set_cons_succ, Option.bind_some, Option.map_some, Option.bind_none, Option.map_none, Bool.not_true, Bool.not_false, Bool.false_eq_true, Bool.or_false, Bool.or_true, Nat.reduceAdd, Nat.reduceSub, Nat.zero_add, decide_true, decide_false, Bool.true_and, Bool.false_and, Bool.and_true, Bool.and_false, hx, Int.toNat_natCast, hget, hd0, augO]
        unfold bodyPour
        simp only [seqS, frzS, ifS, cmpF, vV, kV', List.getElem?_cons_succ, List.getElem?_cons_zero, Option.bind_some, c, Option.map_some, if_true, frzs, frz1, hs, skipS]
    simp only [hg, Option.bind_some, hb, ih, pour]
end K11

set_option maxHeartbeats 4000000
namespace K11
open PySem PySem.Spec PyProof.Rows L2 Iv
local instance nmZ_K11F : Iv.Nm := Iv.nmZ
local instance ctI_K11F : Iv.Ct := ctI
variable {k : Nat} {st : BSt}
/-! ### what comes to each tub -/
def flowC (names : List Str) : Nat → List Tb → List Int → List Int
  | _, [], cs => cs
  | i, t :: r, cs => flowC names (i + 1) r (pour names cs (t.hs.zip (shareI t.hs (cs.getD i 0))))
def flowL (names : List Str) : Nat → List Tb → List Int → List D
  | _, [], _ => []
  | i, t :: r, cs => .list ((shareI t.hs (cs.getD i 0)).map iD) :: flowL names (i + 1) r (pour names cs (t.hs.zip (shareI t.hs (cs.getD i 0))))
theorem share_len : ∀ (hs : List Hl) (m : Int), (shareI hs m).length = hs.length
  | [], _ => rfl
  | x :: hs, m => by simp [shareI, share_len hs]
noncomputable def bodyFlow (F : FT) (as : List R) : SF := (seqS (frzS [6] (asgF 10 (cloF F as 2 (argsF [(vE 6), (orElse (ixS 4 (vV 6)) (ixG (vV 4) (vV 6)))]))))
    (seqS (frzS [10] (appS 5 (vE 10)))
    (seqS (frzS [9, 10] (forF (zipF (vE 9) (vE 10)) (unG [unF [11, 12, 13], setF 14]) bodyPour))
    skipS)))
theorem zip_pr (hs : List Hl) (ys : List Int) : zipD (hs.map Hl.d) (ys.map iD) = (List.zip hs ys).map prD := by
  unfold zipD
  rw [List.zip_map, List.map_map]
  rfl
theorem loop_flow {ts : List Tb} {names : List Str} (hok : ∀ z ∈ names, PyData.strOk z = true) {f : Addr} {F' : NdefX.NF} {ws : List V} (hq : F'.qual = "flows_in_the_end.<locals>.letting") {as : List R} (ha : R.fnc f F' ws [.tuple (ts.map Tb.d)] ∈ as) {a0 a1 : Option R} : ∀ (r : List Tb) (i : Nat) (cs : List Int) (ls : List D) (z6 z7 z8 z9 z10 z11 z12 z13 z14 : Option R),
    (∀ (j : Nat) t, r[j]? = some t → ts[i + j]? = some t) → i + r.length ≤ cs.length → cs.length = names.length → (∀ t ∈ r, t.hs.length ≤ 3 ∧ ∀ x ∈ t.hs, x.to = "" ∨ x.to ∈ names) → ls.length + r.length ≤ 1000 →
    ∃ y6 y7 y8 y9 y10 y11 y12 y13 y14, forL (unG [setF 6, unF [7, 8, 9]]) (bodyFlow (FF (k + 2)) as) (enumD i (r.map Tb.d)) [a0, a1, some (.fnc f F' ws [.tuple (ts.map Tb.d)]), some (.ow (.list (names.map .str))), some (.ow (.list (cs.map iD))), some (.ow (.list ls)), z6, z7, z8, z9, z10, z11, z12, z13, z14] st = some (.nx, [a0, a1, some (.fnc f F' ws [.tuple (ts.map Tb.d)]), some (.ow (.list (names.map .str))), some (.ow (.list ((flowC names i r cs).map iD))), some (.ow (.list (ls ++ flowL names i r cs))), y6, y7, y8, y9, y10, y11, y12, y13, y14], st)
  | [], i, cs, ls, z6, z7, z8, z9, z10, z11, z12, z13, z14, _, _, _, _, _ => ⟨z6, z7, z8, z9, z10, z11, z12, z13, z14, by rw [show ls ++ flowL names i [] cs = ls from List.append_nil _]; rfl⟩
  | t :: r, i, cs, ls, z6, z7, z8, z9, z10, z11, z12, z13, z14, hr, hi, hl, ht, hn => by
    simp only [List.length_cons] at hi hn
    have hic : i < cs.length := by omega
    have hti : ts[i]? = some t := hr 0 t rfl
    obtain ⟨ht1, ht2⟩ := ht t List.mem_cons_self
    obtain ⟨y11, y12, y13, y14, hp⟩ := loop_pour (st := st) hok (a0 := a0) (a1 := a1) (a2 := some (.fnc f F' ws [.tuple (ts.map Tb.d)])) (a5 := some (.ow (.list (ls ++ [.list ((shareI t.hs (cs.getD i 0)).map iD)])))) (a6 := some (.fz (.int (i : Nat)))) (a7 := some (.fz (.str t.n))) (a8 := some (.fz (.int t.g))) (a9 := some (.fz (.tuple (t.hs.map Hl.d)))) (a10 := some (.fz (.list ((shareI t.hs (cs.getD i 0)).map iD)))) (t.hs.zip (shareI t.hs (cs.getD i 0))) cs z11 z12 z13 z14 hl (fun p hp => ht2 p.1 (List.of_mem_zip hp).1)
    obtain ⟨x6, x7, x8, x9, x10, x11, x12, x13, x14, ih⟩ := loop_flow hok hq ha (a0 := a0) (a1 := a1) r (i + 1) (pour names cs (t.hs.zip (shareI t.hs (cs.getD i 0)))) (ls ++ [.list ((shareI t.hs (cs.getD i 0)).map iD)]) (some (.fz (.int (i : Nat)))) (some (.fz (.str t.n))) (some (.fz (.int t.g))) (some (.fz (.tuple (t.hs.map Hl.d)))) (some (.fz (.list ((shareI t.hs (cs.getD i 0)).map iD)))) y11 y12 y13 y14
      (fun j u h => by rw [show i + 1 + j = i + (j + 1) by omega]; exact hr (j + 1) u (by simpa using h)) (by rw [pour_len]; omega) (by rw [pour_len]; exact hl) (fun u hu => ht u (List.mem_cons_of_mem _ hu)) (by simp; omega)
    refine ⟨x6, x7, x8, x9, x10, x11, x12, x13, x14, ?_⟩
    rw [List.map_cons]
    have he : enumD i (t.d :: r.map Tb.d) = .tuple [.int (i : Nat), t.d] :: enumD (i + 1) (r.map Tb.d) := rfl
    rw [he]
    unfold forL
    have hg : unG [setF 6, unF [7, 8, 9]] (.tuple [.int (i : Nat), t.d]) [a0, a1, some (.fnc f F' ws [.tuple (ts.map Tb.d)]), some (.ow (.list (names.map .str))), some (.ow (.list (cs.map iD))), some (.ow (.list ls)), z6, z7, z8, z9, z10, z11, z12, z13, z14] = some [a0, a1, some (.fnc f F' ws [.tuple (ts.map Tb.d)]), some (.ow (.list (names.map .str))), some (.ow (.list (cs.map iD))), some (.ow (.list ls)), some (.fz (.int (i : Nat))), some (.fz (.str t.n)), some (.fz (.int t.g)), some (.fz (.tuple (t.hs.map Hl.d))), z10, z11, z12, z13, z14] := rfl
    have hlet := f_letting (k := k) (st := st) ts i t (cs.getD i 0) hti (by omega)
    have hx : atI (cs.map iD) (i : Int) = some (.int (cs.getD i 0)) := atI_nat (by
      rw [List.getElem?_map, List.getElem?_eq_getElem hic]
      simp [iD, List.getD, List.getElem?_eq_getElem hic])
    have hb : bodyFlow (FF (k + 2)) as [a0, a1, some (.fnc f F' ws [.tuple (ts.map Tb.d)]), some (.ow (.list (names.map .str))), some (.ow (.list (cs.map iD))), some (.ow (.list ls)), some (.fz (.int (i : Nat))), some (.fz (.str t.n)), some (.fz (.int t.g)), some (.fz (.tuple (t.hs.map Hl.d))), z10, z11, z12, z13, z14] st = some (.nx, [a0, a1, some (.fnc f F' ws [.tuple (ts.map Tb.d)]), some (.ow (.list (names.map .str))), some (.ow (.list ((pour names cs (t.hs.zip (shareI t.hs (cs.getD i 0)))).map iD))), some (.ow (.list (ls ++ [.list ((shareI t.hs (cs.getD i 0)).map iD)]))), some (.fz (.int (i : Nat))), some (.fz (.str t.n)), some (.fz (.int t.g)), some (.fz (.tuple (t.hs.map Hl.d))), some (.fz (.list ((shareI t.hs (cs.getD i 0)).map iD))), y11, y12, y13, y14], st) := by
      unfold bodyFlow
      rw [seq_nx (env1 := [a0, a1, some (.fnc f F' ws [.tuple (ts.map Tb.d)]), some (.ow (.list (names.map .str))), some (.ow (.list (cs.map iD))), some (.ow (.list ls)), some (.fz (.int (i : Nat))), some (.fz (.str t.n)), some (.fz (.int t.g)), some (.fz (.tuple (t.hs.map Hl.d))), some (.ow (.list ((shareI t.hs (cs.getD i 0)).map iD))), z11, z12, z13, z14]) (st1 := st)]
      · have hsz : ls.length < sizeLine := by rw [sizeLine_eq]; omega
        rw [seq_nx (env1 := [a0, a1, some (.fnc f F' ws [.tuple (ts.map Tb.d)]), some (.ow (.list (names.map .str))), some (.ow (.list (cs.map iD))), some (.ow (.list (ls ++ [.list ((shareI t.hs (cs.getD i 0)).map iD)]))), some (.fz (.int (i : Nat))), some (.fz (.str t.n)), some (.fz (.int t.g)), some (.fz (.tuple (t.hs.map Hl.d))), some (.fz (.list ((shareI t.hs (cs.getD i 0)).map iD))), z11, z12, z13, z14]) (st1 := st)]
        · refine (seq_nx (env1 := _) (st1 := st) ?_).trans rfl
          rw [← zip_pr] at hp
          exact hp
        · simp only [runM, seqS, frzS, frzs, frz1, retF, retS, ifS, skipS, andE, orE, notE, ifE, valF, vE, vV, kE, kV', callF, ar_nil, ar_cons, dn_fz, dn_ow, dn_bag, dn_scr, d_fz, d_ow, b_of, t_of, isiF, isD, blF, cmpF, chainF, orElse, lenS, bltF1, notT, andT, orT, tstF, l_list, l_tuple, l_all, l_listL, l_listT, l_tupL, l_tupT, l_abs, c_lt, c_le, c_gt, c_ge, c_eqI, c_neI, c_inS, c_niS, i_list, i_tuple, i_str, x_list, x_tuple, plainF, ixF, ixG, ixS, asgF, unpF, unF, setAll, List.length_cons, List.length_nil, List.map_cons, List.map_nil, if_true, if_false, List.cons_append, List.nil_append, List.append_nil, List.getElem?_cons_zero, List.getElem?_cons_succ, List.replicate, List.set_cons_zero, List.set_cons_succ, Option.bind_some, Option.map_some, Option.bind_none, Option.map_none, Bool.not_true, Bool.not_false, Bool.false_eq_true, Bool.or_false, Bool.or_true, Nat.reduceAdd, Nat.reduceSub, Nat.zero_add, decide_true, decide_false, Bool.true_and, Bool.false_and, Bool.and_true, Bool.and_false, appS, hsz]
      · unfold cloF
        simp only [runM, seqS, frzS, frzs, frz1, retF, retS, ifS, skipS, andE, orE, notE, ifE, valF, vE, vV, kE, kV', callF, ar_nil, ar_cons, dn_fz, dn_ow, dn_bag, dn_scr, d_fz, d_ow, b_of, t_of, isiF, isD, blF, cmpF, chainF, orElse, lenS, bltF1, notT, andT, orT, tstF, l_list, l_tuple, l_all, l_listL, l_listT, l_tupL, l_tupT, l_abs, c_lt, c_le, c_gt, c_ge, c_eqI, c_neI, c_inS, c_niS, i_list, i_tuple, i_str, x_list, x_tuple, plainF, ixF, ixG, ixS, asgF, unpF, unF, setAll, List.length_cons, List.length_nil, List.map_cons, List.map_nil, if_true, if_false, List.cons_append, List.nil_append, List.append_nil, List.getElem?_cons_zero, List.getElem?_cons_succ, List.replicate, List.set_cons_zero, List.set_cons_succ, Option.bind_some, Option.map_some, Option.bind_none, Option.map_none, Bool.not_true, Bool.not_false, Bool.false_eq_true, Bool.or_false, Bool.or_true, Nat.reduceAdd, Nat.reduceSub, Nat.zero_add, decide_true, decide_false, Bool.true_and, Bool.false_and, Bool.and_true, Bool.and_false, hx, hq, ha, hlet]
    simp only [hg, Option.bind_some, hb, ih, flowC, flowL, List.append_assoc, List.cons_append, List.nil_append]
end K11

set_option maxHeartbeats 4000000
namespace K11
open PySem PySem.Spec PyProof.Rows L2 Iv
local instance nmZ_K11G : Iv.Nm := Iv.nmZ
local instance ctI_K11G : Iv.Ct := ctI
variable {k : Nat} {st : BSt}
def fst3 : D → D
  | .tuple [a, _, _] => a
  | _ => .none
abbrev nms (ts : List Tb) : List Str := ts.map Tb.n
abbrev tsD (ts : List Tb) : D := .tuple (ts.map Tb.d)
theorem f_names_of (ts : List Tb) (hl : ts.length ≤ 1000) : FF (k + 1) "names_of" [.fz (tsD ts)] st = some (.ow (.list ((nms ts).map .str)), st) := by
  unfold FF
  rw [e_names_of]
  have h : lcF (plainF (vE 0)) [1, 2, 3] (unF [1, 2, 3]) yesT (vE 1) [some (.fz (tsD ts)), none, none, none] st = some (.ow (.list ((ts.map Tb.d).map fst3)), st) :=
    lcF_map fst3 (ds := ts.map Tb.d) rfl (fun d hd => by
      obtain ⟨t, _, rfl⟩ := List.mem_map.mp hd
      exact ⟨_, _, rfl, rfl, rfl⟩) (by rw [List.length_map, sizeLine_eq]; omega)
  have e : (ts.map Tb.d).map fst3 = (nms ts).map .str := by rw [List.map_map, List.map_map]; rfl
  rw [e] at h
  refine run_rt (env1 := [some (.fz (tsD ts)), none, none, none]) rfl ?_
  unfold m_names_of
  refine seq_rt ?_
  have h' : retF (lcF (plainF (vE 0)) [1, 2, 3] (unF [1, 2, 3]) yesT (vE 1)) [some (.fz (tsD ts)), none, none, none] st = some (.rt (.ow (.list ((nms ts).map .str))), [some (.fz (tsD ts)), none, none, none], st) := by
    simp only [retF, h, Option.bind_some, Option.map_some]
  exact h'
structure TsOk (ts : List Tb) : Prop where
  len : ts.length ≤ 3
  ok : ∀ z ∈ nms ts, PyData.strOk z = true
  hs : ∀ t ∈ ts, t.hs.length ≤ 3 ∧ ∀ x ∈ t.hs, x.to = "" ∨ x.to ∈ nms ts
theorem f_flows {ts : List Tb} (T : TsOk ts) (cs : List Int) (hc : cs.length = ts.length) {f : Addr} {F' : NdefX.NF} {ws : List V} (hq : F'.qual = "flows_in_the_end.<locals>.letting") :
    FF (k + 3) "flows" [.fz (tsD ts), .fz (.tuple (cs.map iD)), .fnc f F' ws [tsD ts]] st = some (.fz (.tuple [.list ((flowC (nms ts) 0 ts cs).map iD), .list (flowL (nms ts) 0 ts cs)]), st) := by
  have hl := T.len
  have hN := f_names_of (k := k + 1) (st := st) ts (by omega)
  obtain ⟨y6, y7, y8, y9, y10, y11, y12, y13, y14, h⟩ := loop_flow (k := k) (st := st) (f := f) (ws := ws) T.ok (ts := ts) hq (as := [.fz (tsD ts), .fz (.tuple (cs.map iD)), .fnc f F' ws [tsD ts]]) (by simp) (a0 := some (.fz (tsD ts))) (a1 := some (.fz (.tuple (cs.map iD)))) ts 0 cs [] none none none none none none none none none
    (fun j t h => by rw [Nat.zero_add]; exact h) (by omega) (by rw [hc, List.length_map]) T.hs (by simp; omega)
  unfold FF at hN ⊢
  rw [e_flows]
  refine run_rt (env1 := [some (.fz (tsD ts)), some (.fz (.tuple (cs.map iD))), some (.fnc f F' ws [tsD ts]), some (.ow (.list ((nms ts).map .str))), some (.fz (.list ((flowC (nms ts) 0 ts cs).map iD))), some (.fz (.list (flowL (nms ts) 0 ts cs))), y6, y7, y8, y9, y10, y11, y12, y13, y14]) rfl ?_
  unfold m_flows
  refine (seq_nx (env1 := [some (.fz (tsD ts)), some (.fz (.tuple (cs.map iD))), some (.fnc f F' ws [tsD ts]), some (.ow (.list ((nms ts).map .str))), none, none, none, none, none, none, none, none, none, none, none]) (st1 := st) ?_).trans ?_
  · simp only [runM, seqS, frzS, frzs, frz1, retF, retS, ifS, skipS, andE, orE, notE, ifE, valF, vE, vV, kE, kV', callF, ar_nil, ar_cons, dn_fz, dn_ow, dn_bag, dn_scr, d_fz, d_ow, b_of, t_of, isiF, isD, blF, cmpF, chainF, orElse, lenS, bltF1, notT, andT, orT, tstF, l_list, l_tuple, l_all, l_listL, l_listT, l_tupL, l_tupT, l_abs, c_lt, c_le, c_gt, c_ge, c_eqI, c_neI, c_inS, c_niS, i_list, i_tuple, i_str, x_list, x_tuple, plainF, ixF, ixG, ixS, asgF, unpF, unF, setAll, List.length_cons, List.length_nil, List.map_cons, List.map_nil, if_true, if_false, List.cons_append, List.nil_append, List.append_nil, List.getElem?_cons_zero, List.getElem?_cons_succ, List.replicate, List.set_cons_zero, List.set_cons_succ, Option.bind_some, Option.map_some, Option.bind_none, Option.map_none, Bool.not_true, Bool.not_false, Bool.false_eq_true, Bool.or_false, Bool.or_true, Nat.reduceAdd, Nat.reduceSub, Nat.zero_add, decide_true, decide_false, Bool.true_and, Bool.false_and, Bool.and_true, Bool.and_false, hN]
  refine (seq_nx (env1 := [some (.fz (tsD ts)), some (.fz (.tuple (cs.map iD))), some (.fnc f F' ws [tsD ts]), some (.ow (.list ((nms ts).map .str))), some (.ow (.list (cs.map iD))), none, none, none, none, none, none, none, none, none, none]) (st1 := st) rfl).trans ?_
  refine (seq_nx (env1 := [some (.fz (tsD ts)), some (.fz (.tuple (cs.map iD))), some (.fnc f F' ws [tsD ts]), some (.ow (.list ((nms ts).map .str))), some (.ow (.list (cs.map iD))), some (.ow (.list [])), none, none, none, none, none, none, none, none, none]) (st1 := st) rfl).trans ?_
  have h' : frzS [0] (forF (enumF (vE 0)) (unG [setF 6, unF [7, 8, 9]]) (bodyFlow (FF (k + 2)) [.fz (tsD ts), .fz (.tuple (cs.map iD)), .fnc f F' ws [tsD ts]])) [some (.fz (tsD ts)), some (.fz (.tuple (cs.map iD))), some (.fnc f F' ws [tsD ts]), some (.ow (.list ((nms ts).map .str))), some (.ow (.list (cs.map iD))), some (.ow (.list [])), none, none, none, none, none, none, none, none, none] st = some (.nx, [some (.fz (tsD ts)), some (.fz (.tuple (cs.map iD))), some (.fnc f F' ws [tsD ts]), some (.ow (.list ((nms ts).map .str))), some (.ow (.list ((flowC (nms ts) 0 ts cs).map iD))), some (.ow (.list (flowL (nms ts) 0 ts cs))), y6, y7, y8, y9, y10, y11, y12, y13, y14], st) := h
  exact (seq_nx h').trans rfl
theorem f_end {ts : List Tb} (T : TsOk ts) (cs : List Int) (hc : cs.length = ts.length) :
    FF (k + 4) "flows_in_the_end" [.fz (tsD ts), .fz (.tuple (cs.map iD))] st = some (.fz (.tuple [.list ((flowC (nms ts) 0 ts cs).map iD), .list (flowL (nms ts) 0 ts cs)]), st) := by
  unfold FF
  rw [e_flows_in_the_end]
  refine (if_pos rfl).trans ?_
  refine uni_eq fun f F' hq => ?_
  have h : callC (tbl.F whR 60 (k + 3)) "flows" F'.qual [.fz (tsD ts), .fz (.tuple (cs.map iD))] [tsD ts] st = some (.fz (.tuple [.list ((flowC (nms ts) 0 ts cs).map iD), .list (flowL (nms ts) 0 ts cs)]), st) :=
    callC_eq fun f2 F2 ws hq2 _ => f_flows T cs hc (hq2.trans hq)
  have c : clF (tbl.F whR 60 (k + 3)) [.fnc f F' [] []] [0] "flows" 2 (argsF [(vE 0), (vE 1)]) [some (.fz (tsD ts)), some (.fz (.tuple (cs.map iD))), some (.fnc f F' [] [])] st = some (.fz (.tuple [.list ((flowC (nms ts) 0 ts cs).map iD), .list (flowL (nms ts) 0 ts cs)]), st) := by
    unfold clF
    simp only [List.getElem?_cons_succ, List.getElem?_cons_zero, List.mem_cons, true_or, if_true]
    exact h
  have m : m_flows_in_the_end whR (tbl.F whR 60 (k + 3)) [.fnc f F' [] []] [some (.fz (tsD ts)), some (.fz (.tuple (cs.map iD))), some (.fnc f F' [] [])] st = some (.rt (.fz (.tuple [.list ((flowC (nms ts) 0 ts cs).map iD), .list (flowL (nms ts) 0 ts cs)])), [some (.fz (tsD ts)), some (.fz (.tuple (cs.map iD))), some (.fnc f F' [] [])], st) := by
    unfold m_flows_in_the_end
    refine seq_rt ?_
    have r : retF (clF (tbl.F whR 60 (k + 3)) [.fnc f F' [] []] [0] "flows" 2 (argsF [(vE 0), (vE 1)])) [some (.fz (tsD ts)), some (.fz (.tuple (cs.map iD))), some (.fnc f F' [] [])] st = some (.rt (.fz (.tuple [.list ((flowC (nms ts) 0 ts cs).map iD), .list (flowL (nms ts) 0 ts cs)])), [some (.fz (tsD ts)), some (.fz (.tuple (cs.map iD))), some (.fnc f F' [] [])], st) := by
      simp only [retF, c, Option.bind_some, Option.map_some]
    exact r
  exact congrArg fin m
theorem f_comes {ts : List Tb} (T : TsOk ts) (cs : List Int) (hc : cs.length = ts.length) :
    FF (k + 5) "comes" [.fz (tsD ts), .fz (.tuple (cs.map iD))] st = some (.fz (.tuple ((flowC (nms ts) 0 ts cs).map iD)), st) := by
  have h := fun st => f_end (k := k) (st := st) T cs hc
  unfold FF at h ⊢
  rw [e_comes]
  have hy : ∀ a b : D, atI [a, b] 0 = some a := fun _ _ => rfl
  simp only [m_comes, runM, seqS, frzS, frzs, frz1, retF, retS, ifS, skipS, andE, orE, notE, ifE, valF, vE, vV, kE, kV', callF, ar_nil, ar_cons, dn_fz, dn_ow, dn_bag, dn_scr, d_fz, d_ow, b_of, t_of, isiF, isD, blF, cmpF, chainF, orElse, lenS, bltF1, notT, andT, orT, tstF, l_list, l_tuple, l_all, l_listL, l_listT, l_tupL, l_tupT, l_abs, c_lt, c_le, c_gt, c_ge, c_eqI, c_neI, c_inS, c_niS, i_list, i_tuple, i_str, x_list, x_tuple, plainF, ixF, ixG, ixS, asgF, unpF, unF, setAll, List.length_cons, List.length_nil, List.map_cons, List.map_nil, if_true, if_false, List.cons_append, List.nil_append, List.append_nil, List.getElem?_cons_zero, List.getElem?_cons_succ, List.replicate, List.set_cons_zero, List.set_cons_succ, Option.bind_some, Option.map_some, Option.bind_none, Option.map_none, Bool.not_true, Bool.not_false, Bool.false_eq_true, Bool.or_false, Bool.or_true, Nat.reduceAdd, Nat.reduceSub, Nat.zero_add, decide_true, decide_false, Bool.true_and, Bool.false_and, Bool.and_true, Bool.and_false, h, hy]
end K11

set_option maxHeartbeats 4000000
namespace K11
open PySem PySem.Spec PyProof.Rows L2 Iv
local instance nmZ_K11I : Iv.Nm := Iv.nmZ
local instance ctI_K11I : Iv.Ct := ctI
variable {k : Nat} {st : BSt}
/-! ### where the water rests -/
def restF : List Hl → Int → Int → D
  | [], least, left => if left = 0 then .tuple [.int least, .none] else .tuple [.str "rises"]
  | x :: hs, least, left => if left = 0 then .tuple [.int least, .int x.h] else if left < x.r then .tuple [.int x.h, .int x.h] else restF hs x.h (left - x.r)
noncomputable def bodyRest : SF := (seqS (frzS [] (ifS (cmpF .Eq (vV 3) (valF (kE (.int 0)))) (seqS (frzS [2, 4] (retF (tupF (argsF [(vE 2), (vE 4)]))))
    skipS) skipS))
    (seqS (frzS [] (ifS (cmpF .Lt (vV 3) (vV 5)) (seqS (frzS [4, 4] (retF (tupF (argsF [(vE 4), (vE 4)]))))
    skipS) skipS))
    (seqS (frzS [5] (augF .Sub 3 (vV 5)))
    (seqS (frzS [4] (asgF 2 (vE 4)))
    skipS))))
theorem loop_rest {a0 a1 : Option R} : ∀ (hs : List Hl) (least left : Int) (z4 z5 z6 : Option R),
    ∃ o env', forL (unF [4, 5, 6]) bodyRest (hs.map Hl.d) [a0, a1, some (.fz (.int least)), some (.fz (.int left)), z4, z5, z6] st = some (o, env', st) ∧
      (o = .rt (.fz (restF hs least left)) ∨ (o = .nx ∧ ∃ l2 l3 y4 y5 y6, env' = [a0, a1, some (.fz (.int l2)), some (.fz (.int l3)), y4, y5, y6] ∧ restF hs least left = restF [] l2 l3))
  | [], least, left, z4, z5, z6 => ⟨_, _, rfl, .inr ⟨rfl, least, left, z4, z5, z6, rfl, rfl⟩⟩
  | x :: hs, least, left, z4, z5, z6 => by
    have hg : unF [4, 5, 6] x.d [a0, a1, some (.fz (.int least)), some (.fz (.int left)), z4, z5, z6] = some [a0, a1, some (.fz (.int least)), some (.fz (.int left)), some (.fz (.int x.h)), some (.fz (.int x.r)), some (.fz (.str x.to))] := rfl
    rw [List.map_cons]
    unfold forL
    simp only [hg, Option.bind_some]
    by_cases c1 : left = 0
    · have hb : bodyRest [a0, a1, some (.fz (.int least)), some (.fz (.int left)), some (.fz (.int x.h)), some (.fz (.int x.r)), some (.fz (.str x.to))] st = some (.rt (.fz (.tuple [.int least, .int x.h])), [a0, a1, some (.fz (.int least)), some (.fz (.int left)), some (.fz (.int x.h)), some (.fz (.int x.r)), some (.fz (.str x.to))], st) := by
        have e : (left == 0) = true := by simpa using c1
        unfold bodyRest
        simp only [runM, seqS, frzS, frzs, frz1, retF, retS, ifS, skipS, andE, orE, notE, ifE, valF, vE, vV, kE, kV', callF, ar_nil, ar_cons, dn_fz, dn_ow, dn_bag, dn_scr, d_fz, d_ow, b_of, t_of, isiF, isD, blF, cmpF, chainF, orElse, lenS, bltF1, notT, andT, orT, tstF, l_list, l_tuple, l_all, l_listL, l_listT, l_tupL, l_tupT, l_abs, c_lt, c_le, c_gt, c_ge, c_eqI, c_neI, c_inS, c_niS, i_list, i_tuple, i_str, x_list, x_tuple, plainF, ixF, ixG, ixS, asgF, unpF, unF, setAll, List.length_cons, List.length_nil, List.map_cons, List.map_nil, if_true, if_false, List.cons_append, List.nil_append, List.append_nil, List.getElem?_cons_zero, List.getElem?_cons_succ, List.replicate, List.set_cons_zero, List.set_cons_succ, Option.bind_some, Option.map_some, Option.bind_none, Option.map_none, Bool.not_true, Bool.not_false, Bool.false_eq_true, Bool.or_false, Bool.or_true, Nat.reduceAdd, Nat.reduceSub, Nat.zero_add, decide_true, decide_false, Bool.true_and, Bool.false_and, Bool.and_true, Bool.and_false, tupF, ds_nil, ds_fz, e]
        rfl
      simp only [hb, Option.bind_some]
      exact ⟨_, _, rfl, .inl (by unfold restF; rw [if_pos c1])⟩
    · have e : (left == 0) = false := by simpa using c1
      by_cases c2 : left < x.r
      · have hb : bodyRest [a0, a1, some (.fz (.int least)), some (.fz (.int left)), some (.fz (.int x.h)), some (.fz (.int x.r)), some (.fz (.str x.to))] st = some (.rt (.fz (.tuple [.int x.h, .int x.h])), [a0, a1, some (.fz (.int least)), some (.fz (.int left)), some (.fz (.int x.h)), some (.fz (.int x.r)), some (.fz (.str x.to))], st) := by
          unfold bodyRest
          simp only [runM, seqS, frzS, frzs, frz1, retF, retS, ifS, skipS, andE, orE, notE, ifE, valF, vE, vV, kE, kV', callF, ar_nil, ar_cons, dn_fz, dn_ow, dn_bag, dn_scr, d_fz, d_ow, b_of, t_of, isiF, isD, blF, cmpF, chainF, orElse, lenS, bltF1, notT, andT, orT, tstF, l_list, l_tuple, l_all, l_listL, l_listT, l_tupL, l_tupT, l_abs, c_lt, c_le, c_gt, c_ge, c_eqI, c_neI, c_inS, c_niS, i_list, i_tuple, i_str, x_list, x_tuple, plainF, ixF, ixG, ixS, asgF, unpF, unF, setAll, List.length_cons, List.length_nil, List.map_cons, List.map_nil, if_true, if_false, List.cons_append, List.nil_append, List.append_nil, List.getElem?_cons_zero, List.getElem?_cons_succ, List.replicate, List.set_cons_zero, List.set_cons_succ, Option.bind_some, Option.map_some, Option.bind_none, Option.map_none, Bool.not_true, Bool.not_false, Bool.false_eq_true, Bool.or_false, Bool.or_true, Nat.reduceAdd, Nat.reduceSub, Nat.zero_add, decide_true, decide_false, Bool.true_and, Bool.false_and, Bool.and_true, Bool.and_false, tupF, ds_nil, ds_fz, e, c2]
          rfl
        simp only [hb, Option.bind_some]
        exact ⟨_, _, rfl, .inl (by rw [restF, if_neg c1, if_pos c2])⟩
      · have hb : bodyRest [a0, a1, some (.fz (.int least)), some (.fz (.int left)), some (.fz (.int x.h)), some (.fz (.int x.r)), some (.fz (.str x.to))] st = some (.nx, [a0, a1, some (.fz (.int x.h)), some (.fz (.int (left - x.r))), some (.fz (.int x.h)), some (.fz (.int x.r)), some (.fz (.str x.to))], st) := by
          unfold bodyRest
          simp only [runM, seqS, frzS, frzs, frz1, retF, retS, ifS, skipS, andE, orE, notE, ifE, valF, vE, vV, kE, kV', callF, ar_nil, ar_cons, dn_fz, dn_ow, dn_bag, dn_scr, d_fz, d_ow, b_of, t_of, isiF, isD, blF, cmpF, chainF, orElse, lenS, bltF1, notT, andT, orT, tstF, l_list, l_tuple, l_all, l_listL, l_listT, l_tupL, l_tupT, l_abs, c_lt, c_le, c_gt, c_ge, c_eqI, c_neI, c_inS, c_niS, i_list, i_tuple, i_str, x_list, x_tuple, plainF, ixF, ixG, ixS, asgF, unpF, unF, setAll, List.length_cons, List.length_nil, List.map_cons, List.map_nil, if_true, if_false, List.cons_append, List.nil_append, List.append_nil, List.getElem?_cons_zero, List.getElem?_cons_succ, List.replicate, List.set_cons_zero, List.set_cons_succ, Option.bind_some, Option.map_some, Option.bind_none, Option.map_none, Bool.not_true, Bool.not_false, Bool.false_eq_true, Bool.or_false, Bool.or_true, Nat.reduceAdd, Nat.reduceSub, Nat.zero_add, decide_true, decide_false, Bool.true_and, Bool.false_and, Bool.and_true, Bool.and_false, augF, augO, e, c2]
        simp only [hb, Option.bind_some]
        obtain ⟨o, env', h1, h2⟩ := loop_rest (a0 := a0) (a1 := a1) hs x.h (left - x.r) (some (.fz (.int x.h))) (some (.fz (.int x.r))) (some (.fz (.str x.to)))
        refine ⟨o, env', h1, ?_⟩
        rw [show restF (x :: hs) least left = restF hs x.h (left - x.r) by rw [restF, if_neg c1, if_neg c2]]
        exact h2
theorem f_rest_of (hs : List Hl) (m : Int) : FF (k + 1) "rest_of" [.fz (.tuple (hs.map Hl.d)), .fz (.int m)] st = some (.fz (restF hs 0 m), st) := by
  unfold FF
  rw [e_rest_of]
  obtain ⟨o, env', h, q⟩ := loop_rest (st := st) (a0 := some (.fz (.tuple (hs.map Hl.d)))) (a1 := some (.fz (.int m))) hs 0 m none none none
  have h' : frzS [0] (forF (plainF (vE 0)) (unF [4, 5, 6]) bodyRest) [some (.fz (.tuple (hs.map Hl.d))), some (.fz (.int m)), some (.fz (.int 0)), some (.fz (.int m)), none, none, none] st = some (o, env', st) := h
  have s1 : ∀ g : SF, seqS (frzS [] (asgF 2 (kE (.int 0)))) (seqS (frzS [1] (asgF 3 (vE 1))) g) [some (.fz (.tuple (hs.map Hl.d))), some (.fz (.int m)), none, none, none, none, none] st = g [some (.fz (.tuple (hs.map Hl.d))), some (.fz (.int m)), some (.fz (.int 0)), some (.fz (.int m)), none, none, none] st := fun g => rfl
  rcases q with rfl | ⟨rfl, l2, l3, y4, y5, y6, rfl, e⟩
  · refine run_rt (env1 := env') rfl ?_
    unfold m_rest_of
    exact (s1 _).trans (seq_rt h')
  · rw [e]
    refine run_rt (env1 := [some (.fz (.tuple (hs.map Hl.d))), some (.fz (.int m)), some (.fz (.int l2)), some (.fz (.int l3)), y4, y5, y6]) rfl ?_
    unfold m_rest_of
    refine (s1 _).trans ((seq_nx h').trans (seq_rt ?_))
    by_cases c : l3 = 0
    · have e0 : (l3 == 0) = true := by simpa using c
      rw [restF, if_pos c]
      simp only [runM, seqS, frzS, frzs, frz1, retF, retS, ifS, skipS, andE, orE, notE, ifE, valF, vE, vV, kE, kV', callF, ar_nil, ar_cons, dn_fz, dn_ow, dn_bag, dn_scr, d_fz, d_ow, b_of, t_of, isiF, isD, blF, cmpF, chainF, orElse, lenS, bltF1, notT, andT, orT, tstF, l_list, l_tuple, l_all, l_listL, l_listT, l_tupL, l_tupT, l_abs, c_lt, c_le, c_gt, c_ge, c_eqI, c_neI, c_inS, c_niS, i_list, i_tuple, i_str, x_list, x_tuple, plainF, ixF, ixG, ixS, asgF, unpF, unF, setAll, List.length_cons, List.length_nil, List.map_cons, List.map_nil, if_true, if_false, List.cons_append, List.nil_append, List.append_nil, List.getElem?_cons_zero, List.getElem?_cons_succ, List.replicate, List.set_cons_zero, List.set_cons_succ, Option.bind_some, Option.map_some, Option.bind_none, Option.map_none, Bool.not_true, Bool.not_false, Bool.false_eq_true, Bool.or_false, Bool.or_true, Nat.reduceAdd, Nat.reduceSub, Nat.zero_add, decide_true, decide_false, Bool.true_and, Bool.false_and, Bool.and_true, Bool.and_false, tupF, ds_nil, ds_fz, e0]
      rfl
    · have e0 : (l3 == 0) = false := by simpa using c
      rw [restF, if_neg c]
      simp only [runM, seqS, frzS, frzs, frz1, retF, retS, ifS, skipS, andE, orE, notE, ifE, valF, vE, vV, kE, kV', callF, ar_nil, ar_cons, dn_fz, dn_ow, dn_bag, dn_scr, d_fz, d_ow, b_of, t_of, isiF, isD, blF, cmpF, chainF, orElse, lenS, bltF1, notT, andT, orT, tstF, l_list, l_tuple, l_all, l_listL, l_listT, l_tupL, l_tupT, l_abs, c_lt, c_le, c_gt, c_ge, c_eqI, c_neI, c_inS, c_niS, i_list, i_tuple, i_str, x_list, x_tuple, plainF, ixF, ixG, ixS, asgF, unpF, unF, setAll, List.length_cons, List.length_nil, List.map_cons, List.map_nil, if_true, if_false, List.cons_append, List.nil_append, List.append_nil, List.getElem?_cons_zero, List.getElem?_cons_succ, List.replicate, List.set_cons_zero, List.set_cons_succ, Option.bind_some, Option.map_some, Option.bind_none, Option.map_none, Bool.not_true, Bool.not_false, Bool.false_eq_true, Bool.or_false, Bool.or_true, Nat.reduceAdd, Nat.reduceSub, Nat.zero_add, decide_true, decide_false, Bool.true_and, Bool.false_and, Bool.and_true, Bool.and_false, tupF, ds_nil, ds_fz, e0]
end K11

set_option maxHeartbeats 4000000
namespace K11
open PySem PySem.Spec PyProof.Rows L2 Iv
local instance nmZ_K11J : Iv.Nm := Iv.nmZ
local instance ctI_K11J : Iv.Ct := ctI
variable {k : Nat} {st : BSt}
def tcD (p : Tb × Int) : D := .tuple [p.1.d, .int p.2]
def tubD : D → List D × D
  | .tuple [.tuple [_, _, .tuple hs], c] => (hs, c)
  | _ => ([], .none)
theorem zip_tc (ts : List Tb) (cs : List Int) : zipD (ts.map Tb.d) (cs.map iD) = (List.zip ts cs).map tcD := by
  unfold zipD
  rw [List.zip_map, List.map_map]
  rfl
/-- a comprehension over pairs, told by the pairs -/
theorem lc_pairs {α : Type} {g : GF} {e : EF} {env0 : Env'} {d : α → D} {x : α → D} : ∀ (ps : List α) (acc : List D), (∀ p ∈ ps, ∃ env1 r, g (d p) env0 = some env1 ∧ e env1 st = some (r, st) ∧ r.d? = some (x p)) → acc.length + ps.length ≤ 16777216 →
    lcLoop g yesT e env0 (ps.map d) acc st = some (acc ++ ps.map x, st)
  | [], acc, _, _ => by simp [lcLoop]
  | p :: ps, acc, h, hl => by
    obtain ⟨env1, r, h1, h2, h3⟩ := h p List.mem_cons_self
    simp only [List.length_cons] at hl
    have ih := lc_pairs (d := d) (x := x) ps (acc ++ [x p]) (fun y hy => h y (List.mem_cons_of_mem _ hy)) (by simp; omega)
    rw [List.map_cons]
    unfold lcLoop
    simp only [h1, yesT, Option.bind_some, if_true, h2, h3]
    rw [if_pos (decide_eq_true (by rw [sizeLine_eq]; omega)), ih]
    simp
theorem f_rests {ts : List Tb} (T : TsOk ts) (cs : List Int) (hc : cs.length = ts.length) :
    FF (k + 6) "rests" [.fz (tsD ts), .fz (.tuple (cs.map iD))] st = some (.ow (.list ((ts.zip (flowC (nms ts) 0 ts cs)).map fun p => restF p.1.hs 0 p.2)), st) := by
  have hl := T.len
  have h := f_comes (k := k) (st := st) T cs hc
  have hr := fun st hs m => f_rest_of (k := k + 4) (st := st) hs m
  unfold FF at h hr ⊢
  rw [e_rests]
  have hz : zipF (vE 0) (callF (tbl.F whR 60 (k + 5)) "comes" (argsF [(vE 0), (vE 1)])) [some (.fz (tsD ts)), some (.fz (.tuple (cs.map iD))), none, none, none, none] st = some ((ts.zip (flowC (nms ts) 0 ts cs)).map tcD, st) := by
    rw [← zip_tc]
    simp only [zipF, runM, seqS, frzS, frzs, frz1, retF, retS, ifS, skipS, andE, orE, notE, ifE, valF, vE, vV, kE, kV', callF, ar_nil, ar_cons, dn_fz, dn_ow, dn_bag, dn_scr, d_fz, d_ow, b_of, t_of, isiF, isD, blF, cmpF, chainF, orElse, lenS, bltF1, notT, andT, orT, tstF, l_list, l_tuple, l_all, l_listL, l_listT, l_tupL, l_tupT, l_abs, c_lt, c_le, c_gt, c_ge, c_eqI, c_neI, c_inS, c_niS, i_list, i_tuple, i_str, x_list, x_tuple, plainF, ixF, ixG, ixS, asgF, unpF, unF, setAll, List.length_cons, List.length_nil, List.map_cons, List.map_nil, if_true, if_false, List.cons_append, List.nil_append, List.append_nil, List.getElem?_cons_zero, List.getElem?_cons_succ, List.replicate, List.set_cons_zero, List.set_cons_succ, Option.bind_some, Option.map_some, Option.bind_none, Option.map_none, Bool.not_true, Bool.not_false, Bool.false_eq_true, Bool.or_false, Bool.or_true, Nat.reduceAdd, Nat.reduceSub, Nat.zero_add, decide_true, decide_false, Bool.true_and, Bool.false_and, Bool.and_true, Bool.and_false, h, seqD]
  have hlc : lcF (zipF (vE 0) (callF (tbl.F whR 60 (k + 5)) "comes" (argsF [(vE 0), (vE 1)]))) [2, 3, 4, 5] (unG [unF [2, 3, 4], setF 5]) yesT (callF (tbl.F whR 60 (k + 5)) "rest_of" (argsF [(vE 4), (vE 5)])) [some (.fz (tsD ts)), some (.fz (.tuple (cs.map iD))), none, none, none, none] st = some (.ow (.list ((ts.zip (flowC (nms ts) 0 ts cs)).map fun p => restF p.1.hs 0 p.2)), st) := by
    unfold lcF
    rw [hz]
    simp only [Option.bind_some]
    rw [lc_pairs (d := tcD) (x := fun p => restF p.1.hs 0 p.2)]
    · rfl
    · intro p _
      refine ⟨[some (.fz (tsD ts)), some (.fz (.tuple (cs.map iD))), some (.fz (.str p.1.n)), some (.fz (.int p.1.g)), some (.fz (.tuple (p.1.hs.map Hl.d))), some (.fz (.int p.2))], .fz (restF p.1.hs 0 p.2), rfl, ?_, rfl⟩
      simp only [runM, seqS, frzS, frzs, frz1, retF, retS, ifS, skipS, andE, orE, notE, ifE, valF, vE, vV, kE, kV', callF, ar_nil, ar_cons, dn_fz, dn_ow, dn_bag, dn_scr, d_fz, d_ow, b_of, t_of, isiF, isD, blF, cmpF, chainF, orElse, lenS, bltF1, notT, andT, orT, tstF, l_list, l_tuple, l_all, l_listL, l_listT, l_tupL, l_tupT, l_abs, c_lt, c_le, c_gt, c_ge, c_eqI, c_neI, c_inS, c_niS, i_list, i_tuple, i_str, x_list, x_tuple, plainF, ixF, ixG, ixS, asgF, unpF, unF, setAll, List.length_cons, List.length_nil, List.map_cons, List.map_nil, if_true, if_false, List.cons_append, List.nil_append, List.append_nil, List.getElem?_cons_zero, List.getElem?_cons_succ, List.replicate, List.set_cons_zero, List.set_cons_succ, Option.bind_some, Option.map_some, Option.bind_none, Option.map_none, Bool.not_true, Bool.not_false, Bool.false_eq_true, Bool.or_false, Bool.or_true, Nat.reduceAdd, Nat.reduceSub, Nat.zero_add, decide_true, decide_false, Bool.true_and, Bool.false_and, Bool.and_true, Bool.and_false, hr]
    · simp; omega
  refine run_rt (env1 := [some (.fz (tsD ts)), some (.fz (.tuple (cs.map iD))), none, none, none, none]) rfl ?_
  unfold m_rests
  refine seq_rt ?_
  have h' : retF (lcF (zipF (vE 0) (callF (tbl.F whR 60 (k + 5)) "comes" (argsF [(vE 0), (vE 1)]))) [2, 3, 4, 5] (unG [unF [2, 3, 4], setF 5]) yesT (callF (tbl.F whR 60 (k + 5)) "rest_of" (argsF [(vE 4), (vE 5)]))) [some (.fz (tsD ts)), some (.fz (.tuple (cs.map iD))), none, none, none, none] st = some (.rt (.ow (.list ((ts.zip (flowC (nms ts) 0 ts cs)).map fun p => restF p.1.hs 0 p.2))), [some (.fz (tsD ts)), some (.fz (.tuple (cs.map iD))), none, none, none, none], st) := by
    simp only [retF, hlc, Option.bind_some, Option.map_some]
  exact h'
end K11

set_option maxHeartbeats 4000000
namespace K11
open PySem PySem.Spec PyProof.Rows L2 Iv
local instance nmZ_K11HA : Iv.Nm := Iv.nmZ
local instance ctI_K11HA : Iv.Ct := ctI
variable {k : Nat} {st : BSt}
/-! ### fractions -/
theorem gcd_loop2 (c : TF) (f : SF) (g : Nat → Nat → Env') (hc : ∀ (a b : Nat), c (g a b) st = some (!((b : Int) == 0), st))
    (hf : ∀ (a b : Nat), 0 < b → f (g a b) st = some (.nx, g b (a % b), st)) :
    ∀ (b a : Nat), ∃ n, whileN c f n (g a b) st = some (.nx, g (Nat.gcd a b) 0, st) := by
  intro b
  induction b using Nat.strongRecOn with
  | _ b ih =>
    intro a
    by_cases h : b = 0
    · subst h
      refine ⟨1, ?_⟩
      unfold whileN
      rw [hc]
      simp
    · have hb : 0 < b := by omega
      obtain ⟨n, hn⟩ := ih (a % b) (Nat.mod_lt _ hb) b
      refine ⟨n + 1, ?_⟩
      unfold whileN
      rw [hc]
      have e : (!((b : Int) == 0)) = true := by simp; omega
      simp only [Option.bind_some, e, if_true, hf a b hb]
      rw [hn, Nat.gcd_comm a b, Nat.gcd_rec b a, Nat.gcd_comm (a % b) b]
theorem f_common_divisor (a b : Nat) : FF (k + 1) "common_divisor" [.fz (.int a), .fz (.int b)] st = some (.fz (.int ((Nat.gcd a b : Nat) : Int)), st) := by
  unfold FF
  rw [e_common_divisor]
  obtain ⟨n, hn⟩ := gcd_loop2 (st := st) (cmpF .NotEq (vV 1) (valF (kE (.int 0)))) (seqS (frzS [1] (par2F 0 1 (vE 1) (binF .Mod (vV 0) (vV 1)))) skipS) (fun a b => [some (.fz (.int (a : Nat))), some (.fz (.int (b : Nat)))]) (fun a b => by simp only [runM, seqS, frzS, frzs, frz1, retF, retS, ifS, skipS, andE, orE, notE, ifE, valF, vE, vV, kE, kV', callF, ar_nil, ar_cons, dn_fz, dn_ow, dn_bag, dn_scr, d_fz, d_ow, b_of, t_of, isiF, isD, blF, cmpF, chainF, orElse, lenS, bltF1, notT, andT, orT, tstF, l_list, l_tuple, l_all, l_listL, l_listT, l_tupL, l_tupT, l_abs, c_lt, c_le, c_gt, c_ge, c_eqI, c_neI, c_inS, c_niS, i_list, i_tuple, i_str, x_list, x_tuple, plainF, ixF, ixG, ixS, asgF, unpF, unF, setAll, List.length_cons, List.length_nil, List.map_cons, List.map_nil, if_true, if_false, List.cons_append, List.nil_append, List.append_nil, List.getElem?_cons_zero, List.getElem?_cons_succ, List.replicate, List.set_cons_zero, List.set_cons_succ, Option.bind_some, Option.map_some, Option.bind_none, Option.map_none, Bool.not_true, Bool.not_false, Bool.false_eq_true, Bool.or_false, Bool.or_true, Nat.reduceAdd, Nat.reduceSub, Nat.zero_add, decide_true, decide_false, Bool.true_and, Bool.false_and, Bool.and_true, Bool.and_false]) (fun a b h => by
    have e := mod_big (i := (a : Int)) (j := (b : Int)) (by omega)
    simp only [runM, seqS, frzS, frzs, frz1, retF, retS, ifS, skipS, andE, orE, notE, ifE, valF, vE, vV, kE, kV', callF, ar_nil, ar_cons, dn_fz, dn_ow, dn_bag, dn_scr, d_fz, d_ow, b_of, t_of, isiF, isD, blF, cmpF, chainF, orElse, lenS, bltF1, notT, andT, orT, tstF, l_list, l_tuple, l_all, l_listL, l_listT, l_tupL, l_tupT, l_abs, c_lt, c_le, c_gt, c_ge, c_eqI, c_neI, c_inS, c_niS, i_list, i_tuple, i_str, x_list, x_tuple, plainF, ixF, ixG, ixS, asgF, unpF, unF, setAll, List.length_cons, List.length_nil, List.map_cons, List.map_nil, if_true, if_false, List.cons_append, List.nil_append, List.append_nil, List.getElem?_cons_zero, List.getElem?_cons_succ, List.replicate, List.set_cons_zero, List.set_cons_succ, Option.bind_some, Option.map_some, Option.bind_none, Option.map_none, Bool.not_true, Bool.not_false, Bool.false_eq_true, Bool.or_false, Bool.or_true, Nat.reduceAdd, Nat.reduceSub, Nat.zero_add, decide_true, decide_false, Bool.true_and, Bool.false_and, Bool.and_true, Bool.and_false, par2F, binF, e]
    rfl) b a
  refine run_rt (env1 := [some (.fz (.int ((Nat.gcd a b : Nat) : Int))), some (.fz (.int 0))]) rfl ?_
  unfold m_common_divisor
  exact (seq_nx (f := frzS [] (whR _ _)) (whR_eq hn)).trans rfl
theorem f_reduced (t b : Int) (hb : b ≠ 0) (hs : b.natAbs < pw 8999) : FF (k + 2) "reduced" [.fz (.int t), .fz (.int b)] st = some (.fz (frD ((t : Rat) / b)), st) := by
  have h := f_common_divisor (k := k) (st := st) t.natAbs b.natAbs
  have g0 := gcdI_pos (t := t) hb
  have g1 := gcdI_le (t := t) hb
  unfold FF at h ⊢
  rw [e_reduced]
  rw [show Nat.gcd t.natAbs b.natAbs = gcdI t b from rfl] at h
  have ab : ∀ i : Int, (if i < 0 then -i else i) = ((i.natAbs : Nat) : Int) := fun i => by split <;> omega
  by_cases c : b < 0
  · have hl : ∀ i : Int, binD .FloorDiv (.int i) (.int (-((gcdI t b : Nat) : Int))) = some (.fz (.int (i.fdiv (-((gcdI t b : Nat) : Int))))) := fun i => div_bigN (by omega) (by omega)
    rw [rat_neg c]
    have c' : decide (b < 0) = true := decide_eq_true c
    simp only [m_reduced, runM, seqS, frzS, frzs, frz1, retF, retS, ifS, skipS, andE, orE, notE, ifE, valF, vE, vV, kE, kV', callF, ar_nil, ar_cons, dn_fz, dn_ow, dn_bag, dn_scr, d_fz, d_ow, b_of, t_of, isiF, isD, blF, cmpF, chainF, orElse, lenS, bltF1, notT, andT, orT, tstF, l_list, l_tuple, l_all, l_listL, l_listT, l_tupL, l_tupT, l_abs, c_lt, c_le, c_gt, c_ge, c_eqI, c_neI, c_inS, c_niS, i_list, i_tuple, i_str, x_list, x_tuple, plainF, ixF, ixG, ixS, asgF, unpF, unF, setAll, List.length_cons, List.length_nil, List.map_cons, List.map_nil, if_true, if_false, List.cons_append, List.nil_append, List.append_nil, List.getElem?_cons_zero, List.getElem?_cons_succ, List.replicate, List.set_cons_zero, List.set_cons_succ, Option.bind_some, Option.map_some, Option.bind_none, Option.map_none, Bool.not_true, Bool.not_false, Bool.false_eq_true, Bool.or_false, Bool.or_true, Nat.reduceAdd, Nat.reduceSub, Nat.zero_add, decide_true, decide_false, Bool.true_and, Bool.false_and, Bool.and_true, Bool.and_false, ab, h, c', negE, tupF, binF, hl, dsOf, lenOk]
    rfl
  · have hl : ∀ i : Int, binD .FloorDiv (.int i) (.int (((gcdI t b : Nat) : Int))) = some (.fz (.int (i / (((gcdI t b : Nat) : Int))))) := fun i => div_big (by omega) (by omega)
    rw [rat_pos (by omega)]
    have c' : decide (b < 0) = false := decide_eq_false c
    simp only [m_reduced, runM, seqS, frzS, frzs, frz1, retF, retS, ifS, skipS, andE, orE, notE, ifE, valF, vE, vV, kE, kV', callF, ar_nil, ar_cons, dn_fz, dn_ow, dn_bag, dn_scr, d_fz, d_ow, b_of, t_of, isiF, isD, blF, cmpF, chainF, orElse, lenS, bltF1, notT, andT, orT, tstF, l_list, l_tuple, l_all, l_listL, l_listT, l_tupL, l_tupT, l_abs, c_lt, c_le, c_gt, c_ge, c_eqI, c_neI, c_inS, c_niS, i_list, i_tuple, i_str, x_list, x_tuple, plainF, ixF, ixG, ixS, asgF, unpF, unF, setAll, List.length_cons, List.length_nil, List.map_cons, List.map_nil, if_true, if_false, List.cons_append, List.nil_append, List.append_nil, List.getElem?_cons_zero, List.getElem?_cons_succ, List.replicate, List.set_cons_zero, List.set_cons_succ, Option.bind_some, Option.map_some, Option.bind_none, Option.map_none, Bool.not_true, Bool.not_false, Bool.false_eq_true, Bool.or_false, Bool.or_true, Nat.reduceAdd, Nat.reduceSub, Nat.zero_add, decide_true, decide_false, Bool.true_and, Bool.false_and, Bool.and_true, Bool.and_false, ab, h, c', tupF, binF, hl, dsOf, lenOk]
    rfl
theorem x_fr0 (q : Rat) : atI [PyData.int q.num, .int (q.den : Int)] 0 = some (.int q.num) := rfl
theorem x_fr1 (q : Rat) : atI [PyData.int q.num, .int (q.den : Int)] 1 = some (.int (q.den : Int)) := rfl
theorem f_less (a b : Rat) (ha : Sz a) (hb : Sz b) : FF (k + 1) "less" [.fz (frD a), .fz (frD b)] st = some (.fz (.bool (decide (a < b))), st) := by
  unfold FF
  rw [e_less]
  have m1 := mul_big ha.n' hb.d'
  have m2 := mul_big hb.n' ha.d'
  simp only [m_less, runM, seqS, frzS, frzs, frz1, retF, retS, ifS, skipS, andE, orE, notE, ifE, valF, vE, vV, kE, kV', callF, ar_nil, ar_cons, dn_fz, dn_ow, dn_bag, dn_scr, d_fz, d_ow, b_of, t_of, isiF, isD, blF, cmpF, chainF, orElse, lenS, bltF1, notT, andT, orT, tstF, l_list, l_tuple, l_all, l_listL, l_listT, l_tupL, l_tupT, l_abs, c_lt, c_le, c_gt, c_ge, c_eqI, c_neI, c_inS, c_niS, i_list, i_tuple, i_str, x_list, x_tuple, plainF, ixF, ixG, ixS, asgF, unpF, unF, setAll, List.length_cons, List.length_nil, List.map_cons, List.map_nil, if_true, if_false, List.cons_append, List.nil_append, List.append_nil, List.getElem?_cons_zero, List.getElem?_cons_succ, List.replicate, List.set_cons_zero, List.set_cons_succ, Option.bind_some, Option.map_some, Option.bind_none, Option.map_none, Bool.not_true, Bool.not_false, Bool.false_eq_true, Bool.or_false, Bool.or_true, Nat.reduceAdd, Nat.reduceSub, Nat.zero_add, decide_true, decide_false, Bool.true_and, Bool.false_and, Bool.and_true, Bool.and_false, frD, x_fr0, x_fr1, binF, m1, m2, less_iff]
theorem f_lesser (a b : Rat) (ha : Sz a) (hb : Sz b) : FF (k + 2) "lesser" [.fz (frD a), .fz (frD b)] st = some (.fz (frD (if b < a then b else a)), st) := by
  have h := f_less (k := k) (st := st) b a hb ha
  unfold FF at h ⊢
  rw [e_lesser]
  by_cases c : b < a
  · rw [decide_eq_true c] at h
    rw [if_pos c]
    simp only [m_lesser, runM, seqS, frzS, frzs, frz1, retF, retS, ifS, skipS, andE, orE, notE, ifE, valF, vE, vV, kE, kV', callF, ar_nil, ar_cons, dn_fz, dn_ow, dn_bag, dn_scr, d_fz, d_ow, b_of, t_of, isiF, isD, blF, cmpF, chainF, orElse, lenS, bltF1, notT, andT, orT, tstF, l_list, l_tuple, l_all, l_listL, l_listT, l_tupL, l_tupT, l_abs, c_lt, c_le, c_gt, c_ge, c_eqI, c_neI, c_inS, c_niS, i_list, i_tuple, i_str, x_list, x_tuple, plainF, ixF, ixG, ixS, asgF, unpF, unF, setAll, List.length_cons, List.length_nil, List.map_cons, List.map_nil, if_true, if_false, List.cons_append, List.nil_append, List.append_nil, List.getElem?_cons_zero, List.getElem?_cons_succ, List.replicate, List.set_cons_zero, List.set_cons_succ, Option.bind_some, Option.map_some, Option.bind_none, Option.map_none, Bool.not_true, Bool.not_false, Bool.false_eq_true, Bool.or_false, Bool.or_true, Nat.reduceAdd, Nat.reduceSub, Nat.zero_add, decide_true, decide_false, Bool.true_and, Bool.false_and, Bool.and_true, Bool.and_false, h]
  · rw [decide_eq_false c] at h
    rw [if_neg c]
    simp only [m_lesser, runM, seqS, frzS, frzs, frz1, retF, retS, ifS, skipS, andE, orE, notE, ifE, valF, vE, vV, kE, kV', callF, ar_nil, ar_cons, dn_fz, dn_ow, dn_bag, dn_scr, d_fz, d_ow, b_of, t_of, isiF, isD, blF, cmpF, chainF, orElse, lenS, bltF1, notT, andT, orT, tstF, l_list, l_tuple, l_all, l_listL, l_listT, l_tupL, l_tupT, l_abs, c_lt, c_le, c_gt, c_ge, c_eqI, c_neI, c_inS, c_niS, i_list, i_tuple, i_str, x_list, x_tuple, plainF, ixF, ixG, ixS, asgF, unpF, unF, setAll, List.length_cons, List.length_nil, List.map_cons, List.map_nil, if_true, if_false, List.cons_append, List.nil_append, List.append_nil, List.getElem?_cons_zero, List.getElem?_cons_succ, List.replicate, List.set_cons_zero, List.set_cons_succ, Option.bind_some, Option.map_some, Option.bind_none, Option.map_none, Bool.not_true, Bool.not_false, Bool.false_eq_true, Bool.or_false, Bool.or_true, Nat.reduceAdd, Nat.reduceSub, Nat.zero_add, decide_true, decide_false, Bool.true_and, Bool.false_and, Bool.and_true, Bool.and_false, h]
theorem f_plus (a b : Rat) (ha : Sz a) (hb : Sz b) : FF (k + 3) "plus" [.fz (frD a), .fz (frD b)] st = some (.fz (frD (a + b)), st) := by
  have d0 := den0 a
  have d1 := den0 b
  have h := f_reduced (k := k) (st := st) (a.num * b.den + b.num * a.den) (a.den * b.den) (Int.ne_of_gt (Int.mul_pos d0 d1)) (ha.dd hb)
  rw [rat_plus] at h
  have m1 := mul_big ha.n' hb.d'
  have m2 := mul_big hb.n' ha.d'
  have m3 := mul_big ha.d' hb.d'
  unfold FF at h ⊢
  rw [e_plus]
  have fa : frD a = .tuple [.int a.num, .int (a.den : Int)] := rfl
  have fb : frD b = .tuple [.int b.num, .int (b.den : Int)] := rfl
  rw [fa, fb]
  simp only [m_plus, runM, seqS, frzS, frzs, frz1, retF, retS, ifS, skipS, andE, orE, notE, ifE, valF, vE, vV, kE, kV', callF, ar_nil, ar_cons, dn_fz, dn_ow, dn_bag, dn_scr, d_fz, d_ow, b_of, t_of, isiF, isD, blF, cmpF, chainF, orElse, lenS, bltF1, notT, andT, orT, tstF, l_list, l_tuple, l_all, l_listL, l_listT, l_tupL, l_tupT, l_abs, c_lt, c_le, c_gt, c_ge, c_eqI, c_neI, c_inS, c_niS, i_list, i_tuple, i_str, x_list, x_tuple, plainF, ixF, ixG, ixS, asgF, unpF, unF, setAll, List.length_cons, List.length_nil, List.map_cons, List.map_nil, if_true, if_false, List.cons_append, List.nil_append, List.append_nil, List.getElem?_cons_zero, List.getElem?_cons_succ, List.replicate, List.set_cons_zero, List.set_cons_succ, Option.bind_some, Option.map_some, Option.bind_none, Option.map_none, Bool.not_true, Bool.not_false, Bool.false_eq_true, Bool.or_false, Bool.or_true, Nat.reduceAdd, Nat.reduceSub, Nat.zero_add, decide_true, decide_false, Bool.true_and, Bool.false_and, Bool.and_true, Bool.and_false, x_fr0, x_fr1, binF, m1, m2, m3, b_add, h]
theorem f_minus (a b : Rat) (ha : Sz a) (hb : Sz b) : FF (k + 3) "minus" [.fz (frD a), .fz (frD b)] st = some (.fz (frD (a - b)), st) := by
  have d0 := den0 a
  have d1 := den0 b
  have h := f_reduced (k := k) (st := st) (a.num * b.den - b.num * a.den) (a.den * b.den) (Int.ne_of_gt (Int.mul_pos d0 d1)) (ha.dd hb)
  rw [rat_minus] at h
  have m1 := mul_big ha.n' hb.d'
  have m2 := mul_big hb.n' ha.d'
  have m3 := mul_big ha.d' hb.d'
  unfold FF at h ⊢
  rw [e_minus]
  have fa : frD a = .tuple [.int a.num, .int (a.den : Int)] := rfl
  have fb : frD b = .tuple [.int b.num, .int (b.den : Int)] := rfl
  rw [fa, fb]
  simp only [m_minus, runM, seqS, frzS, frzs, frz1, retF, retS, ifS, skipS, andE, orE, notE, ifE, valF, vE, vV, kE, kV', callF, ar_nil, ar_cons, dn_fz, dn_ow, dn_bag, dn_scr, d_fz, d_ow, b_of, t_of, isiF, isD, blF, cmpF, chainF, orElse, lenS, bltF1, notT, andT, orT, tstF, l_list, l_tuple, l_all, l_listL, l_listT, l_tupL, l_tupT, l_abs, c_lt, c_le, c_gt, c_ge, c_eqI, c_neI, c_inS, c_niS, i_list, i_tuple, i_str, x_list, x_tuple, plainF, ixF, ixG, ixS, asgF, unpF, unF, setAll, List.length_cons, List.length_nil, List.map_cons, List.map_nil, if_true, if_false, List.cons_append, List.nil_append, List.append_nil, List.getElem?_cons_zero, List.getElem?_cons_succ, List.replicate, List.set_cons_zero, List.set_cons_succ, Option.bind_some, Option.map_some, Option.bind_none, Option.map_none, Bool.not_true, Bool.not_false, Bool.false_eq_true, Bool.or_false, Bool.or_true, Nat.reduceAdd, Nat.reduceSub, Nat.zero_add, decide_true, decide_false, Bool.true_and, Bool.false_and, Bool.and_true, Bool.and_false, x_fr0, x_fr1, binF, m1, m2, m3, b_sub, h]
theorem f_times_by (a : Rat) (m y : Int) (ha : Sz a) (hy : y ≠ 0) (hm : m.natAbs < pw 100) (hy' : y.natAbs < pw 100) : FF (k + 3) "times_by" [.fz (frD a), .fz (.int m), .fz (.int y)] st = some (.fz (frD (a * m / y)), st) := by
  have d0 := den0 a
  have sz : ((a.den : Int) * y).natAbs < pw 8999 := by
    rw [Int.natAbs_mul]
    exact Nat.lt_of_lt_of_le (pw_mul ha.d hy') (pw_le (by omega))
  have h := f_reduced (k := k) (st := st) (a.num * m) (a.den * y) (Int.mul_ne_zero (by omega) hy) sz
  rw [rat_tb a m y hy] at h
  have up : ∀ {x : Int}, x.natAbs < pw 100 → x.natAbs < pw 100000 := fun h => Nat.lt_of_lt_of_le h (pw_le (by omega))
  have m1 := mul_big ha.n' (up hm)
  have m2 := mul_big ha.d' (up hy')
  unfold FF at h ⊢
  rw [e_times_by]
  have fa : frD a = .tuple [.int a.num, .int (a.den : Int)] := rfl
  rw [fa]
  simp only [m_times_by, runM, seqS, frzS, frzs, frz1, retF, retS, ifS, skipS, andE, orE, notE, ifE, valF, vE, vV, kE, kV', callF, ar_nil, ar_cons, dn_fz, dn_ow, dn_bag, dn_scr, d_fz, d_ow, b_of, t_of, isiF, isD, blF, cmpF, chainF, orElse, lenS, bltF1, notT, andT, orT, tstF, l_list, l_tuple, l_all, l_listL, l_listT, l_tupL, l_tupT, l_abs, c_lt, c_le, c_gt, c_ge, c_eqI, c_neI, c_inS, c_niS, i_list, i_tuple, i_str, x_list, x_tuple, plainF, ixF, ixG, ixS, asgF, unpF, unF, setAll, List.length_cons, List.length_nil, List.map_cons, List.map_nil, if_true, if_false, List.cons_append, List.nil_append, List.append_nil, List.getElem?_cons_zero, List.getElem?_cons_succ, List.replicate, List.set_cons_zero, List.set_cons_succ, Option.bind_some, Option.map_some, Option.bind_none, Option.map_none, Bool.not_true, Bool.not_false, Bool.false_eq_true, Bool.or_false, Bool.or_true, Nat.reduceAdd, Nat.reduceSub, Nat.zero_add, decide_true, decide_false, Bool.true_and, Bool.false_and, Bool.and_true, Bool.and_false, x_fr0, x_fr1, binF, m1, m2, h]
end K11

set_option maxHeartbeats 4000000
namespace K11
open PySem PySem.Spec PyProof.Rows L2 Iv
local instance nmZ_K11HB : Iv.Nm := Iv.nmZ
local instance ctI_K11HB : Iv.Ct := ctI
variable {k : Nat} {st : BSt}
/-! ### what a hole lets at a moment -/
def letQ (x : Hl) (l : Rat) (c : Int) : Int := if l < (x.h : Rat) then 0 else if (x.h : Rat) < l then x.r else min (max c 0) x.r
def letsQ : List Hl → Rat → Int → List Int
  | [], _, _ => []
  | x :: hs, l, c => letQ x l c :: letsQ hs l (c - letQ x l c)
theorem lets_len : ∀ (hs : List Hl) (l : Rat) (c : Int), (letsQ hs l c).length = hs.length
  | [], _, _ => rfl
  | x :: hs, l, c => by simp [letsQ, lets_len hs]
theorem nat_fr (n : Nat) : PyData.tuple [.int (n : Int), .int 1] = frD (n : Rat) := rfl
theorem sz_nat {n : Nat} (h : n < pw 100) : Sz (n : Rat) := ⟨(show (1 : Nat) < pw 4400 from by
    have : pw 1 ≤ pw 4400 := pw_le (by omega)
    have e : pw 1 = 2 := by unfold pw; rfl
    omega), Nat.lt_of_lt_of_le (show ((n : Int)).natAbs < pw 100 from h) (pw_le (by omega))⟩
theorem max_i (a b : Int) : blD2 .max2 (.int a) (.int b) = some (.fz (.int (max a b))) := by
  show some (R.fz (.int (if a < b then b else a))) = _
  congr 3
  split <;> omega
theorem f_hole_lets (x : Hl) (l : Rat) (c : Int) (hx : x.h < pw 100) (hl : Sz l) : FF (k + 2) "hole_lets" [.fz (.int x.h), .fz (.int x.r), .fz (frD l), .fz (.int c)] st = some (.fz (.int (letQ x l c)), st) := by
  have h1 := f_less (k := k) (st := st) l (x.h : Rat) hl (sz_nat hx)
  have h2 := f_less (k := k) (st := st) (x.h : Rat) l (sz_nat hx) hl
  unfold FF at h1 h2 ⊢
  rw [e_hole_lets]
  rw [← nat_fr] at h1 h2
  unfold letQ
  by_cases c1 : l < (x.h : Rat)
  · rw [decide_eq_true c1] at h1
    rw [if_pos c1]
    simp only [m_hole_lets, runM, seqS, frzS, frzs, frz1, retF, retS, ifS, skipS, andE, orE, notE, ifE, valF, vE, vV, kE, kV', callF, ar_nil, ar_cons, dn_fz, dn_ow, dn_bag, dn_scr, d_fz, d_ow, b_of, t_of, isiF, isD, blF, cmpF, chainF, orElse, lenS, bltF1, notT, andT, orT, tstF, l_list, l_tuple, l_all, l_listL, l_listT, l_tupL, l_tupT, l_abs, c_lt, c_le, c_gt, c_ge, c_eqI, c_neI, c_inS, c_niS, i_list, i_tuple, i_str, x_list, x_tuple, plainF, ixF, ixG, ixS, asgF, unpF, unF, setAll, List.length_cons, List.length_nil, List.map_cons, List.map_nil, if_true, if_false, List.cons_append, List.nil_append, List.append_nil, List.getElem?_cons_zero, List.getElem?_cons_succ, List.replicate, List.set_cons_zero, List.set_cons_succ, Option.bind_some, Option.map_some, Option.bind_none, Option.map_none, Bool.not_true, Bool.not_false, Bool.false_eq_true, Bool.or_false, Bool.or_true, Nat.reduceAdd, Nat.reduceSub, Nat.zero_add, decide_true, decide_false, Bool.true_and, Bool.false_and, Bool.and_true, Bool.and_false, tupF, ds_nil, ds_fz, lenOk_of, Nat.reduceLeDiff, t_of, h1]
  · rw [decide_eq_false c1] at h1
    rw [if_neg c1]
    by_cases c2 : (x.h : Rat) < l
    · rw [decide_eq_true c2] at h2
      rw [if_pos c2]
      simp only [m_hole_lets, runM, seqS, frzS, frzs, frz1, retF, retS, ifS, skipS, andE, orE, notE, ifE, valF, vE, vV, kE, kV', callF, ar_nil, ar_cons, dn_fz, dn_ow, dn_bag, dn_scr, d_fz, d_ow, b_of, t_of, isiF, isD, blF, cmpF, chainF, orElse, lenS, bltF1, notT, andT, orT, tstF, l_list, l_tuple, l_all, l_listL, l_listT, l_tupL, l_tupT, l_abs, c_lt, c_le, c_gt, c_ge, c_eqI, c_neI, c_inS, c_niS, i_list, i_tuple, i_str, x_list, x_tuple, plainF, ixF, ixG, ixS, asgF, unpF, unF, setAll, List.length_cons, List.length_nil, List.map_cons, List.map_nil, if_true, if_false, List.cons_append, List.nil_append, List.append_nil, List.getElem?_cons_zero, List.getElem?_cons_succ, List.replicate, List.set_cons_zero, List.set_cons_succ, Option.bind_some, Option.map_some, Option.bind_none, Option.map_none, Bool.not_true, Bool.not_false, Bool.false_eq_true, Bool.or_false, Bool.or_true, Nat.reduceAdd, Nat.reduceSub, Nat.zero_add, decide_true, decide_false, Bool.true_and, Bool.false_and, Bool.and_true, Bool.and_false, tupF, ds_nil, ds_fz, lenOk_of, Nat.reduceLeDiff, t_of, h1, h2]
    · rw [decide_eq_false c2] at h2
      rw [if_neg c2]
      simp only [m_hole_lets, runM, seqS, frzS, frzs, frz1, retF, retS, ifS, skipS, andE, orE, notE, ifE, valF, vE, vV, kE, kV', callF, ar_nil, ar_cons, dn_fz, dn_ow, dn_bag, dn_scr, d_fz, d_ow, b_of, t_of, isiF, isD, blF, cmpF, chainF, orElse, lenS, bltF1, notT, andT, orT, tstF, l_list, l_tuple, l_all, l_listL, l_listT, l_tupL, l_tupT, l_abs, c_lt, c_le, c_gt, c_ge, c_eqI, c_neI, c_inS, c_niS, i_list, i_tuple, i_str, x_list, x_tuple, plainF, ixF, ixG, ixS, asgF, unpF, unF, setAll, List.length_cons, List.length_nil, List.map_cons, List.map_nil, if_true, if_false, List.cons_append, List.nil_append, List.append_nil, List.getElem?_cons_zero, List.getElem?_cons_succ, List.replicate, List.set_cons_zero, List.set_cons_succ, Option.bind_some, Option.map_some, Option.bind_none, Option.map_none, Bool.not_true, Bool.not_false, Bool.false_eq_true, Bool.or_false, Bool.or_true, Nat.reduceAdd, Nat.reduceSub, Nat.zero_add, decide_true, decide_false, Bool.true_and, Bool.false_and, Bool.and_true, Bool.and_false, tupF, ds_nil, ds_fz, lenOk_of, Nat.reduceLeDiff, t_of, h1, h2, bltF2, max_i, min_i]
noncomputable def bodyLets (F : FT) : SF := (seqS (frzS [5, 6, 1, 4] (asgF 8 (callF F "hole_lets" (argsF [(vE 5), (vE 6), (vE 1), (vE 4)]))))
    (seqS (frzS [8] (appS 3 (vE 8)))
    (seqS (frzS [8] (augF .Sub 4 (vV 8)))
    skipS)))
theorem loop_lets {a0 a2 : Option R} {l : Rat} (hl : Sz l) : ∀ (hs : List Hl) (acc : List D) (m : Int) (z5 z6 z7 z8 : Option R), acc.length + hs.length ≤ 16777216 → (∀ x ∈ hs, x.h < pw 100) →
    ∃ y4 y5 y6 y7 y8, forL (unF [5, 6, 7]) (bodyLets (FF (k + 2))) (hs.map Hl.d) [a0, some (.fz (frD l)), a2, some (.ow (.list acc)), some (.fz (.int m)), z5, z6, z7, z8] st = some (.nx, [a0, some (.fz (frD l)), a2, some (.ow (.list (acc ++ (letsQ hs l m).map iD))), y4, y5, y6, y7, y8], st)
  | [], acc, m, z5, z6, z7, z8, _, _ => ⟨_, z5, z6, z7, z8, by simp [letsQ, forL]; rfl⟩
  | x :: hs, acc, m, z5, z6, z7, z8, hn, hh => by
    simp only [List.length_cons] at hn
    obtain ⟨y4, y5, y6, y7, y8, ih⟩ := loop_lets (a0 := a0) (a2 := a2) hl hs (acc ++ [.int (letQ x l m)]) (m - letQ x l m) (some (.fz (.int x.h))) (some (.fz (.int x.r))) (some (.fz (.str x.to))) (some (.fz (.int (letQ x l m)))) (by simp; omega) (fun y hy => hh y (List.mem_cons_of_mem _ hy))
    refine ⟨y4, y5, y6, y7, y8, ?_⟩
    rw [List.map_cons]
    unfold forL
    have hsz : acc.length < sizeLine := by rw [sizeLine_eq]; omega
    have hc := f_hole_lets (k := k) (st := st) x l m (hh x List.mem_cons_self) hl
    generalize frD l = FL at *
    have hb : bodyLets (FF (k + 2)) [a0, some (.fz FL), a2, some (.ow (.list acc)), some (.fz (.int m)), some (.fz (.int x.h)), some (.fz (.int x.r)), some (.fz (.str x.to)), z8] st = some (.nx, [a0, some (.fz FL), a2, some (.ow (.list (acc ++ [.int (letQ x l m)]))), some (.fz (.int (m - letQ x l m))), some (.fz (.int x.h)), some (.fz (.int x.r)), some (.fz (.str x.to)), some (.fz (.int (letQ x l m)))], st) := by
      unfold bodyLets
      simp only [runM, seqS, frzS, frzs, frz1, retF, retS, ifS, skipS, andE, orE, notE, ifE, valF, vE, vV, kE, kV', callF, ar_nil, ar_cons, dn_fz, dn_ow, dn_bag, dn_scr, d_fz, d_ow, b_of, t_of, isiF, isD, blF, cmpF, chainF, orElse, lenS, bltF1, notT, andT, orT, tstF, l_list, l_tuple, l_all, l_listL, l_listT, l_tupL, l_tupT, l_abs, c_lt, c_le, c_gt, c_ge, c_eqI, c_neI, c_inS, c_niS, i_list, i_tuple, i_str, x_list, x_tuple, plainF, ixF, ixG, ixS, asgF, unpF, unF, setAll, List.length_cons, List.length_nil, List.map_cons, List.map_nil, if_true, if_false, List.cons_append, List.nil_append, List.append_nil, List.getElem?_cons_zero, List.getElem?_cons_succ, List.replicate, List.set_cons_zero, List.set_cons_succ, Option.bind_some, Option.map_some, Option.bind_none, Option.map_none, Bool.not_true, Bool.not_false, Bool.false_eq_true, Bool.or_false, Bool.or_true, Nat.reduceAdd, Nat.reduceSub, Nat.zero_add, decide_true, decide_false, Bool.true_and, Bool.false_and, Bool.and_true, Bool.and_false, appS, augF, augO, hsz, hc]
    have hg : unF [5, 6, 7] x.d [a0, some (.fz FL), a2, some (.ow (.list acc)), some (.fz (.int m)), z5, z6, z7, z8] = some [a0, some (.fz FL), a2, some (.ow (.list acc)), some (.fz (.int m)), some (.fz (.int x.h)), some (.fz (.int x.r)), some (.fz (.str x.to)), z8] := rfl
    simp only [hg, Option.bind_some, hb, ih, letsQ, List.map_cons, iD, List.append_assoc, List.cons_append, List.nil_append]
theorem f_holes_let (hs : List Hl) (l : Rat) (m : Int) (hl : Sz l) (hn : hs.length ≤ 1000) (hh : ∀ x ∈ hs, x.h < pw 100) : FF (k + 3) "holes_let" [.fz (.tuple (hs.map Hl.d)), .fz (frD l), .fz (.int m)] st = some (.ow (.list ((letsQ hs l m).map iD)), st) := by
  unfold FF
  rw [e_holes_let]
  obtain ⟨y4, y5, y6, y7, y8, h⟩ := loop_lets (k := k) (st := st) (a0 := some (.fz (.tuple (hs.map Hl.d)))) (a2 := some (.fz (.int m))) hl hs [] m none none none none (by simp; omega) hh
  refine run_rt (env1 := [some (.fz (.tuple (hs.map Hl.d))), some (.fz (frD l)), some (.fz (.int m)), some (.ow (.list ((letsQ hs l m).map iD))), y4, y5, y6, y7, y8]) rfl ?_
  unfold m_holes_let
  refine (seq_nx (env1 := [some (.fz (.tuple (hs.map Hl.d))), some (.fz (frD l)), some (.fz (.int m)), some (.ow (.list [])), none, none, none, none, none]) (st1 := st) rfl).trans ?_
  refine (seq_nx (env1 := [some (.fz (.tuple (hs.map Hl.d))), some (.fz (frD l)), some (.fz (.int m)), some (.ow (.list [])), some (.fz (.int m)), none, none, none, none]) (st1 := st) rfl).trans ?_
  have h' : frzS [0] (forF (plainF (vE 0)) (unF [5, 6, 7]) (bodyLets (FF (k + 2)))) [some (.fz (.tuple (hs.map Hl.d))), some (.fz (frD l)), some (.fz (.int m)), some (.ow (.list [])), some (.fz (.int m)), none, none, none, none] st = some (.nx, [some (.fz (.tuple (hs.map Hl.d))), some (.fz (frD l)), some (.fz (.int m)), some (.ow (.list ((letsQ hs l m).map iD))), y4, y5, y6, y7, y8], st) := h
  exact (seq_nx h').trans rfl
/-- the def within stretch_from -/
theorem f_letting_at (ts : List Tb) (lv : List Rat) (i : Nat) (t : Tb) (m : Int) (hi : ts[i]? = some t) (hli : i < lv.length) (hl : Sz (lv.getD i 0)) (hn : t.hs.length ≤ 1000) (hh : ∀ x ∈ t.hs, x.h < pw 100) : FF (k + 4) "stretch_from.<locals>.letting" [.fz (.int (i : Nat)), .fz (.int m), .fz (.list (lv.map frD)), .fz (.tuple (ts.map Tb.d))] st = some (.ow (.list ((letsQ t.hs (lv.getD i 0) m).map iD)), st) := by
  have h := fun st => f_holes_let (k := k) (st := st) t.hs (lv.getD i 0) m hl hn hh
  unfold FF at h ⊢
  rw [e_letting_stretch_from]
  have hx : atI (ts.map Tb.d) (i : Int) = some t.d := atI_nat (by rw [List.getElem?_map, hi]; rfl)
  have hv : atI (lv.map frD) (i : Int) = some (frD (lv.getD i 0)) := atI_nat (by
      rw [List.getElem?_map, List.getElem?_eq_getElem hli]
      simp [List.getD, List.getElem?_eq_getElem hli])
  have hy : ∀ a b c : D, atI [a, b, c] 2 = some c := fun _ _ _ => rfl
  generalize frD (lv.getD i 0) = FL at *
  simp only [m_letting_stretch_from, runM, seqS, frzS, frzs, frz1, retF, retS, ifS, skipS, andE, orE, notE, ifE, valF, vE, vV, kE, kV', callF, ar_nil, ar_cons, dn_fz, dn_ow, dn_bag, dn_scr, d_fz, d_ow, b_of, t_of, isiF, isD, blF, cmpF, chainF, orElse, lenS, bltF1, notT, andT, orT, tstF, l_list, l_tuple, l_all, l_listL, l_listT, l_tupL, l_tupT, l_abs, c_lt, c_le, c_gt, c_ge, c_eqI, c_neI, c_inS, c_niS, i_list, i_tuple, i_str, x_list, x_tuple, plainF, ixF, ixG, ixS, asgF, unpF, unF, setAll, List.length_cons, List.length_nil, List.map_cons, List.map_nil, if_true, if_false, List.cons_append, List.nil_append, List.append_nil, List.getElem?_cons_zero, List.getElem?_cons_succ, List.replicate, List.set_cons_zero, List.set_cons_succ, Option.bind_some, Option.map_some, Option.bind_none, Option.map_none, Bool.not_true, Bool.not_false, Bool.false_eq_true, Bool.or_false, Bool.or_true, Nat.reduceAdd, Nat.reduceSub, Nat.zero_add, decide_true, decide_false, Bool.true_and, Bool.false_and, Bool.and_true, Bool.and_false, hx, hv, Tb.d, hy, h]
/-! ### the rain at an hour -/
structure Rw where
  h : Nat
  rs : List Nat
def Rw.d (x : Rw) : D := .tuple [.int x.h, .tuple (x.rs.map intD)]
abbrev wsD (ws : List Rw) : D := .tuple (ws.map Rw.d)
def rainG (q : Rat) : List Rw → List Nat → List Nat
  | [], f => f
  | w :: ws, f => rainG q ws (if q < (w.h : Rat) then f else w.rs)
def rainQ (ws : List Rw) (q : Rat) : List Nat := rainG q ws (match ws with | [] => [] | w :: _ => w.rs)
noncomputable def bodyRain (F : FT) : SF := (seqS (frzS [1, 3] (ifS (notT (tstF (valF (callF F "less" (argsF [(vE 1), (tupF (argsF [(vE 3), (kE (.int 1))]))]))))) (seqS (frzS [4] (asgF 2 (vE 4)))
    skipS) skipS))
    skipS)
theorem loop_rain {a0 : Option R} {q : Rat} (hq : Sz q) : ∀ (ws : List Rw) (f : List Nat) (z3 z4 : Option R), (∀ w ∈ ws, w.h < pw 100) →
    ∃ y3 y4, forL (unF [3, 4]) (bodyRain (FF (k + 1))) (ws.map Rw.d) [a0, some (.fz (frD q)), some (.fz (.tuple (f.map intD))), z3, z4] st = some (.nx, [a0, some (.fz (frD q)), some (.fz (.tuple ((rainG q ws f).map intD))), y3, y4], st)
  | [], f, z3, z4, _ => ⟨z3, z4, rfl⟩
  | w :: ws, f, z3, z4, hh => by
    obtain ⟨y3, y4, ih⟩ := loop_rain (a0 := a0) hq ws (if q < (w.h : Rat) then f else w.rs) (some (.fz (.int w.h))) (some (.fz (.tuple (w.rs.map intD)))) (fun y hy => hh y (List.mem_cons_of_mem _ hy))
    refine ⟨y3, y4, ?_⟩
    rw [List.map_cons]
    unfold forL
    have hc := f_less (k := k) (st := st) q (w.h : Rat) hq (sz_nat (hh w List.mem_cons_self))
    rw [← nat_fr] at hc
    generalize frD q = FL at *
    have hb : bodyRain (FF (k + 1)) [a0, some (.fz FL), some (.fz (.tuple (f.map intD))), some (.fz (.int w.h)), some (.fz (.tuple (w.rs.map intD)))] st = some (.nx, [a0, some (.fz FL), some (.fz (.tuple ((if q < (w.h : Rat) then f else w.rs).map intD))), some (.fz (.int w.h)), some (.fz (.tuple (w.rs.map intD)))], st) := by
      unfold bodyRain
      by_cases c : q < (w.h : Rat)
      · rw [decide_eq_true c] at hc
        rw [if_pos c]
        simp only [runM, seqS, frzS, frzs, frz1, retF, retS, ifS, skipS, andE, orE, notE, ifE, valF, vE, vV, kE, kV', callF, ar_nil, ar_cons, dn_fz, dn_ow, dn_bag, dn_scr, d_fz, d_ow, b_of, t_of, isiF, isD, blF, cmpF, chainF, orElse, lenS, bltF1, notT, andT, orT, tstF, l_list, l_tuple, l_all, l_listL, l_listT, l_tupL, l_tupT, l_abs, c_lt, c_le, c_gt, c_ge, c_eqI, c_neI, c_inS, c_niS, i_list, i_tuple, i_str, x_list, x_tuple, plainF, ixF, ixG, ixS, asgF, unpF, unF, setAll, List.length_cons, List.length_nil, List.map_cons, List.map_nil, if_true, if_false, List.cons_append, List.nil_append, List.append_nil, List.getElem?_cons_zero, List.getElem?_cons_succ, List.replicate, List.set_cons_zero, List.set_cons_succ, Option.bind_some, Option.map_some, Option.bind_none, Option.map_none, Bool.not_true, Bool.not_false, Bool.false_eq_true, Bool.or_false, Bool.or_true, Nat.reduceAdd, Nat.reduceSub, Nat.zero_add, decide_true, decide_false, Bool.true_and, Bool.false_and, Bool.and_true, Bool.and_false, tupF, ds_nil, ds_fz, lenOk_of, Nat.reduceLeDiff, t_of, hc]
      · rw [decide_eq_false c] at hc
        rw [if_neg c]
        simp only [runM, seqS, frzS, frzs, frz1, retF, retS, ifS, skipS, andE, orE, notE, ifE, valF, vE, vV, kE, kV', callF, ar_nil, ar_cons, dn_fz, dn_ow, dn_bag, dn_scr, d_fz, d_ow, b_of, t_of, isiF, isD, blF, cmpF, chainF, orElse, lenS, bltF1, notT, andT, orT, tstF, l_list, l_tuple, l_all, l_listL, l_listT, l_tupL, l_tupT, l_abs, c_lt, c_le, c_gt, c_ge, c_eqI, c_neI, c_inS, c_niS, i_list, i_tuple, i_str, x_list, x_tuple, plainF, ixF, ixG, ixS, asgF, unpF, unF, setAll, List.length_cons, List.length_nil, List.map_cons, List.map_nil, if_true, if_false, List.cons_append, List.nil_append, List.append_nil, List.getElem?_cons_zero, List.getElem?_cons_succ, List.replicate, List.set_cons_zero, List.set_cons_succ, Option.bind_some, Option.map_some, Option.bind_none, Option.map_none, Bool.not_true, Bool.not_false, Bool.false_eq_true, Bool.or_false, Bool.or_true, Nat.reduceAdd, Nat.reduceSub, Nat.zero_add, decide_true, decide_false, Bool.true_and, Bool.false_and, Bool.and_true, Bool.and_false, tupF, ds_nil, ds_fz, lenOk_of, Nat.reduceLeDiff, t_of, hc]
    have hg : unF [3, 4] w.d [a0, some (.fz FL), some (.fz (.tuple (f.map intD))), z3, z4] = some [a0, some (.fz FL), some (.fz (.tuple (f.map intD))), some (.fz (.int w.h)), some (.fz (.tuple (w.rs.map intD)))] := rfl
    simp only [hg, Option.bind_some, hb, ih, rainG]
theorem f_rain_at (ws : List Rw) (q : Rat) (hq : Sz q) (h0 : ws ≠ []) (hh : ∀ w ∈ ws, w.h < pw 100) : FF (k + 2) "rain_at" [.fz (wsD ws), .fz (frD q)] st = some (.fz (.tuple ((rainQ ws q).map intD)), st) := by
  unfold FF
  rw [e_rain_at]
  obtain ⟨w, r, rfl⟩ : ∃ w r, ws = w :: r := by
    cases ws with
    | nil => exact absurd rfl h0
    | cons w r => exact ⟨w, r, rfl⟩
  obtain ⟨y3, y4, h⟩ := loop_rain (k := k) (st := st) (a0 := some (.fz (wsD (w :: r)))) hq (w :: r) w.rs none none hh
  refine run_rt (env1 := [some (.fz (wsD (w :: r))), some (.fz (frD q)), some (.fz (.tuple ((rainQ (w :: r) q).map intD))), y3, y4]) rfl ?_
  unfold m_rain_at
  refine (seq_nx (env1 := [some (.fz (wsD (w :: r))), some (.fz (frD q)), some (.fz (.tuple (w.rs.map intD))), none, none]) (st1 := st) (by
    have hx : ∀ (a : D) (l : List D), atI (a :: l) 0 = some a := fun a l => atI_nat (j := 0) rfl
    have hy : ∀ a b : D, atI [a, b] 1 = some b := fun _ _ => rfl
    simp only [runM, seqS, frzS, frzs, frz1, retF, retS, ifS, skipS, andE, orE, notE, ifE, valF, vE, vV, kE, kV', callF, ar_nil, ar_cons, dn_fz, dn_ow, dn_bag, dn_scr, d_fz, d_ow, b_of, t_of, isiF, isD, blF, cmpF, chainF, orElse, lenS, bltF1, notT, andT, orT, tstF, l_list, l_tuple, l_all, l_listL, l_listT, l_tupL, l_tupT, l_abs, c_lt, c_le, c_gt, c_ge, c_eqI, c_neI, c_inS, c_niS, i_list, i_tuple, i_str, x_list, x_tuple, plainF, ixF, ixG, ixS, asgF, unpF, unF, setAll, List.length_cons, List.length_nil, List.map_cons, List.map_nil, if_true, if_false, List.cons_append, List.nil_append, List.append_nil, List.getElem?_cons_zero, List.getElem?_cons_succ, List.replicate, List.set_cons_zero, List.set_cons_succ, Option.bind_some, Option.map_some, Option.bind_none, Option.map_none, Bool.not_true, Bool.not_false, Bool.false_eq_true, Bool.or_false, Bool.or_true, Nat.reduceAdd, Nat.reduceSub, Nat.zero_add, decide_true, decide_false, Bool.true_and, Bool.false_and, Bool.and_true, Bool.and_false, wsD, hx, Rw.d, hy])).trans ?_
  have h' : frzS [0] (forF (plainF (vE 0)) (unF [3, 4]) (bodyRain (FF (k + 1)))) [some (.fz (wsD (w :: r))), some (.fz (frD q)), some (.fz (.tuple (w.rs.map intD))), none, none] st = some (.nx, [some (.fz (wsD (w :: r))), some (.fz (frD q)), some (.fz (.tuple ((rainQ (w :: r) q).map intD))), y3, y4], st) := h
  exact (seq_nx h').trans rfl
end K11

set_option maxHeartbeats 4000000
namespace K11
open PySem PySem.Spec PyProof.Rows L2 Iv
local instance nmZ_K11HC : Iv.Nm := Iv.nmZ
local instance ctI_K11HC : Iv.Ct := ctI
variable {k : Nat} {st : BSt}
/-! ### what comes to each tub at a moment -/
def lsD (x : List Int) : D := .list (x.map iD)
def flowQ (names : List Str) (lv : List Rat) : Nat → List Tb → List Int → List Int
  | _, [], cs => cs
  | i, t :: r, cs => flowQ names lv (i + 1) r (pour names cs (t.hs.zip (letsQ t.hs (lv.getD i 0) (cs.getD i 0))))
def flowQL (names : List Str) (lv : List Rat) : Nat → List Tb → List Int → List (List Int)
  | _, [], _ => []
  | i, t :: r, cs => letsQ t.hs (lv.getD i 0) (cs.getD i 0) :: flowQL names lv (i + 1) r (pour names cs (t.hs.zip (letsQ t.hs (lv.getD i 0) (cs.getD i 0))))
theorem loop_flowQ {ts : List Tb} {lv : List Rat} (hlv : ∀ l ∈ lv, Sz l) {names : List Str} (hok : ∀ z ∈ names, PyData.strOk z = true) {f : Addr} {F' : NdefX.NF} {ws : List V} (hq : F'.qual = "stretch_from.<locals>.letting") {as : List R} (ha : R.fnc f F' ws [.list (lv.map frD), .tuple (ts.map Tb.d)] ∈ as) {a0 a1 : Option R} : ∀ (r : List Tb) (i : Nat) (cs : List Int) (ls : List D) (z6 z7 z8 z9 z10 z11 z12 z13 z14 : Option R),
    (∀ (j : Nat) t, r[j]? = some t → ts[i + j]? = some t) → i + r.length ≤ cs.length → cs.length = names.length → i + r.length ≤ lv.length → (∀ t ∈ r, ∀ x ∈ t.hs, x.h < pw 100) → (∀ t ∈ r, t.hs.length ≤ 3 ∧ ∀ x ∈ t.hs, x.to = "" ∨ x.to ∈ names) → ls.length + r.length ≤ 1000 →
    ∃ y6 y7 y8 y9 y10 y11 y12 y13 y14, forL (unG [setF 6, unF [7, 8, 9]]) (bodyFlow (FF (k + 4)) as) (enumD i (r.map Tb.d)) [a0, a1, some (.fnc f F' ws [.list (lv.map frD), .tuple (ts.map Tb.d)]), some (.ow (.list (names.map .str))), some (.ow (.list (cs.map iD))), some (.ow (.list ls)), z6, z7, z8, z9, z10, z11, z12, z13, z14] st = some (.nx, [a0, a1, some (.fnc f F' ws [.list (lv.map frD), .tuple (ts.map Tb.d)]), some (.ow (.list (names.map .str))), some (.ow (.list ((flowQ names lv i r cs).map iD))), some (.ow (.list (ls ++ (flowQL names lv i r cs).map lsD))), y6, y7, y8, y9, y10, y11, y12, y13, y14], st)
  | [], i, cs, ls, z6, z7, z8, z9, z10, z11, z12, z13, z14, _, _, _, _, _, _, _ => ⟨z6, z7, z8, z9, z10, z11, z12, z13, z14, by rw [show ls ++ (flowQL names lv i [] cs).map lsD = ls from List.append_nil _]; rfl⟩
  | t :: r, i, cs, ls, z6, z7, z8, z9, z10, z11, z12, z13, z14, hr, hi, hl, hil, hhh, ht, hn => by
    simp only [List.length_cons] at hi hn hil
    have hic : i < cs.length := by omega
    have hti : ts[i]? = some t := hr 0 t rfl
    obtain ⟨ht1, ht2⟩ := ht t List.mem_cons_self
    obtain ⟨y11, y12, y13, y14, hp⟩ := loop_pour (st := st) hok (a0 := a0) (a1 := a1) (a2 := some (.fnc f F' ws [.list (lv.map frD), .tuple (ts.map Tb.d)])) (a5 := some (.ow (.list (ls ++ [.list ((letsQ t.hs (lv.getD i 0) (cs.getD i 0)).map iD)])))) (a6 := some (.fz (.int (i : Nat)))) (a7 := some (.fz (.str t.n))) (a8 := some (.fz (.int t.g))) (a9 := some (.fz (.tuple (t.hs.map Hl.d)))) (a10 := some (.fz (.list ((letsQ t.hs (lv.getD i 0) (cs.getD i 0)).map iD)))) (t.hs.zip (letsQ t.hs (lv.getD i 0) (cs.getD i 0))) cs z11 z12 z13 z14 hl (fun p hp => ht2 p.1 (List.of_mem_zip hp).1)
    obtain ⟨x6, x7, x8, x9, x10, x11, x12, x13, x14, ih⟩ := loop_flowQ hlv hok hq ha (a0 := a0) (a1 := a1) r (i + 1) (pour names cs (t.hs.zip (letsQ t.hs (lv.getD i 0) (cs.getD i 0)))) (ls ++ [.list ((letsQ t.hs (lv.getD i 0) (cs.getD i 0)).map iD)]) (some (.fz (.int (i : Nat)))) (some (.fz (.str t.n))) (some (.fz (.int t.g))) (some (.fz (.tuple (t.hs.map Hl.d)))) (some (.fz (.list ((letsQ t.hs (lv.getD i 0) (cs.getD i 0)).map iD)))) y11 y12 y13 y14
      (fun j u h => by rw [show i + 1 + j = i + (j + 1) by omega]; exact hr (j + 1) u (by simpa using h)) (by rw [pour_len]; omega) (by rw [pour_len]; exact hl) (by omega) (fun u hu => hhh u (List.mem_cons_of_mem _ hu)) (fun u hu => ht u (List.mem_cons_of_mem _ hu)) (by simp; omega)
    refine ⟨x6, x7, x8, x9, x10, x11, x12, x13, x14, ?_⟩
    rw [List.map_cons]
    have he : enumD i (t.d :: r.map Tb.d) = .tuple [.int (i : Nat), t.d] :: enumD (i + 1) (r.map Tb.d) := rfl
    rw [he]
    unfold forL
    have hg : unG [setF 6, unF [7, 8, 9]] (.tuple [.int (i : Nat), t.d]) [a0, a1, some (.fnc f F' ws [.list (lv.map frD), .tuple (ts.map Tb.d)]), some (.ow (.list (names.map .str))), some (.ow (.list (cs.map iD))), some (.ow (.list ls)), z6, z7, z8, z9, z10, z11, z12, z13, z14] = some [a0, a1, some (.fnc f F' ws [.list (lv.map frD), .tuple (ts.map Tb.d)]), some (.ow (.list (names.map .str))), some (.ow (.list (cs.map iD))), some (.ow (.list ls)), some (.fz (.int (i : Nat))), some (.fz (.str t.n)), some (.fz (.int t.g)), some (.fz (.tuple (t.hs.map Hl.d))), z10, z11, z12, z13, z14] := rfl
    have hg0 : lv.getD i 0 ∈ lv := by
      have hh : i < lv.length := by omega
      simp only [List.getD, List.getElem?_eq_getElem hh, Option.getD_some]
      exact List.getElem_mem hh
    have hlet := f_letting_at (k := k) (st := st) ts lv i t (cs.getD i 0) hti (by omega) (hlv _ hg0) (by omega) (hhh t List.mem_cons_self)
    have hx : atI (cs.map iD) (i : Int) = some (.int (cs.getD i 0)) := atI_nat (by
      rw [List.getElem?_map, List.getElem?_eq_getElem hic]
      simp [iD, List.getD, List.getElem?_eq_getElem hic])
    have hb : bodyFlow (FF (k + 4)) as [a0, a1, some (.fnc f F' ws [.list (lv.map frD), .tuple (ts.map Tb.d)]), some (.ow (.list (names.map .str))), some (.ow (.list (cs.map iD))), some (.ow (.list ls)), some (.fz (.int (i : Nat))), some (.fz (.str t.n)), some (.fz (.int t.g)), some (.fz (.tuple (t.hs.map Hl.d))), z10, z11, z12, z13, z14] st = some (.nx, [a0, a1, some (.fnc f F' ws [.list (lv.map frD), .tuple (ts.map Tb.d)]), some (.ow (.list (names.map .str))), some (.ow (.list ((pour names cs (t.hs.zip (letsQ t.hs (lv.getD i 0) (cs.getD i 0)))).map iD))), some (.ow (.list (ls ++ [.list ((letsQ t.hs (lv.getD i 0) (cs.getD i 0)).map iD)]))), some (.fz (.int (i : Nat))), some (.fz (.str t.n)), some (.fz (.int t.g)), some (.fz (.tuple (t.hs.map Hl.d))), some (.fz (.list ((letsQ t.hs (lv.getD i 0) (cs.getD i 0)).map iD))), y11, y12, y13, y14], st) := by
      unfold bodyFlow
      rw [seq_nx (env1 := [a0, a1, some (.fnc f F' ws [.list (lv.map frD), .tuple (ts.map Tb.d)]), some (.ow (.list (names.map .str))), some (.ow (.list (cs.map iD))), some (.ow (.list ls)), some (.fz (.int (i : Nat))), some (.fz (.str t.n)), some (.fz (.int t.g)), some (.fz (.tuple (t.hs.map Hl.d))), some (.ow (.list ((letsQ t.hs (lv.getD i 0) (cs.getD i 0)).map iD))), z11, z12, z13, z14]) (st1 := st)]
      · have hsz : ls.length < sizeLine := by rw [sizeLine_eq]; omega
        rw [seq_nx (env1 := [a0, a1, some (.fnc f F' ws [.list (lv.map frD), .tuple (ts.map Tb.d)]), some (.ow (.list (names.map .str))), some (.ow (.list (cs.map iD))), some (.ow (.list (ls ++ [.list ((letsQ t.hs (lv.getD i 0) (cs.getD i 0)).map iD)]))), some (.fz (.int (i : Nat))), some (.fz (.str t.n)), some (.fz (.int t.g)), some (.fz (.tuple (t.hs.map Hl.d))), some (.fz (.list ((letsQ t.hs (lv.getD i 0) (cs.getD i 0)).map iD))), z11, z12, z13, z14]) (st1 := st)]
        · refine (seq_nx (env1 := _) (st1 := st) ?_).trans rfl
          rw [← zip_pr] at hp
          exact hp
        · simp only [runM, seqS, frzS, frzs, frz1, retF, retS, ifS, skipS, andE, orE, notE, ifE, valF, vE, vV, kE, kV', callF, ar_nil, ar_cons, dn_fz, dn_ow, dn_bag, dn_scr, d_fz, d_ow, b_of, t_of, isiF, isD, blF, cmpF, chainF, orElse, lenS, bltF1, notT, andT, orT, tstF, l_list, l_tuple, l_all, l_listL, l_listT, l_tupL, l_tupT, l_abs, c_lt, c_le, c_gt, c_ge, c_eqI, c_neI, c_inS, c_niS, i_list, i_tuple, i_str, x_list, x_tuple, plainF, ixF, ixG, ixS, asgF, unpF, unF, setAll, List.length_cons, List.length_nil, List.map_cons, List.map_nil, if_true, if_false, List.cons_append, List.nil_append, List.append_nil, List.getElem?_cons_zero, List.getElem?_cons_succ, List.replicate, List.set_cons_zero, List.set_cons_succ, Option.bind_some, Option.map_some, Option.bind_none, Option.map_none, Bool.not_true, Bool.not_false, Bool.false_eq_true, Bool.or_false, Bool.or_true, Nat.reduceAdd, Nat.reduceSub, Nat.zero_add, decide_true, decide_false, Bool.true_and, Bool.false_and, Bool.and_true, Bool.and_false, appS, hsz]
      · unfold cloF
        simp only [runM, seqS, frzS, frzs, frz1, retF, retS, ifS, skipS, andE, orE, notE, ifE, valF, vE, vV, kE, kV', callF, ar_nil, ar_cons, dn_fz, dn_ow, dn_bag, dn_scr, d_fz, d_ow, b_of, t_of, isiF, isD, blF, cmpF, chainF, orElse, lenS, bltF1, notT, andT, orT, tstF, l_list, l_tuple, l_all, l_listL, l_listT, l_tupL, l_tupT, l_abs, c_lt, c_le, c_gt, c_ge, c_eqI, c_neI, c_inS, c_niS, i_list, i_tuple, i_str, x_list, x_tuple, plainF, ixF, ixG, ixS, asgF, unpF, unF, setAll, List.length_cons, List.length_nil, List.map_cons, List.map_nil, if_true, if_false, List.cons_append, List.nil_append, List.append_nil, List.getElem?_cons_zero, List.getElem?_cons_succ, List.replicate, List.set_cons_zero, List.set_cons_succ, Option.bind_some, Option.map_some, Option.bind_none, Option.map_none, Bool.not_true, Bool.not_false, Bool.false_eq_true, Bool.or_false, Bool.or_true, Nat.reduceAdd, Nat.reduceSub, Nat.zero_add, decide_true, decide_false, Bool.true_and, Bool.false_and, Bool.and_true, Bool.and_false, hx, hq, ha, hlet]
    simp only [hg, Option.bind_some, hb, ih, flowQ, flowQL, lsD, List.map_cons, List.append_assoc, List.cons_append, List.nil_append]
theorem f_flowsQ {ts : List Tb} (T : TsOk ts) (cs : List Int) (hc : cs.length = ts.length) {lv : List Rat} (hlv : ∀ l ∈ lv, Sz l) (hll : lv.length = ts.length) (hhh : ∀ t ∈ ts, ∀ x ∈ t.hs, x.h < pw 100) {f : Addr} {F' : NdefX.NF} {ws : List V} (hq : F'.qual = "stretch_from.<locals>.letting") :
    FF (k + 5) "flows" [.fz (tsD ts), .fz (.tuple (cs.map iD)), .fnc f F' ws [.list (lv.map frD), tsD ts]] st = some (.fz (.tuple [.list ((flowQ (nms ts) lv 0 ts cs).map iD), .list ((flowQL (nms ts) lv 0 ts cs).map lsD)]), st) := by
  have hl := T.len
  have hN := f_names_of (k := k + 3) (st := st) ts (by omega)
  obtain ⟨y6, y7, y8, y9, y10, y11, y12, y13, y14, h⟩ := loop_flowQ hlv (k := k) (st := st) (f := f) (ws := ws) T.ok (ts := ts) hq (as := [.fz (tsD ts), .fz (.tuple (cs.map iD)), .fnc f F' ws [.list (lv.map frD), tsD ts]]) (by simp) (a0 := some (.fz (tsD ts))) (a1 := some (.fz (.tuple (cs.map iD)))) ts 0 cs [] none none none none none none none none none
    (fun j t h => by rw [Nat.zero_add]; exact h) (by omega) (by rw [hc, List.length_map]) (by omega) hhh T.hs (by simp; omega)
  unfold FF at hN ⊢
  rw [e_flows]
  refine run_rt (env1 := [some (.fz (tsD ts)), some (.fz (.tuple (cs.map iD))), some (.fnc f F' ws [.list (lv.map frD), tsD ts]), some (.ow (.list ((nms ts).map .str))), some (.fz (.list ((flowQ (nms ts) lv 0 ts cs).map iD))), some (.fz (.list ((flowQL (nms ts) lv 0 ts cs).map lsD))), y6, y7, y8, y9, y10, y11, y12, y13, y14]) rfl ?_
  unfold m_flows
  refine (seq_nx (env1 := [some (.fz (tsD ts)), some (.fz (.tuple (cs.map iD))), some (.fnc f F' ws [.list (lv.map frD), tsD ts]), some (.ow (.list ((nms ts).map .str))), none, none, none, none, none, none, none, none, none, none, none]) (st1 := st) ?_).trans ?_
  · simp only [runM, seqS, frzS, frzs, frz1, retF, retS, ifS, skipS, andE, orE, notE, ifE, valF, vE, vV, kE, kV', callF, ar_nil, ar_cons, dn_fz, dn_ow, dn_bag, dn_scr, d_fz, d_ow, b_of, t_of, isiF, isD, blF, cmpF, chainF, orElse, lenS, bltF1, notT, andT, orT, tstF, l_list, l_tuple, l_all, l_listL, l_listT, l_tupL, l_tupT, l_abs, c_lt, c_le, c_gt, c_ge, c_eqI, c_neI, c_inS, c_niS, i_list, i_tuple, i_str, x_list, x_tuple, plainF, ixF, ixG, ixS, asgF, unpF, unF, setAll, List.length_cons, List.length_nil, List.map_cons, List.map_nil, if_true, if_false, List.cons_append, List.nil_append, List.append_nil, List.getElem?_cons_zero, List.getElem?_cons_succ, List.replicate, List.set_cons_zero, List.set_cons_succ, Option.bind_some, Option.map_some, Option.bind_none, Option.map_none, Bool.not_true, Bool.not_false, Bool.false_eq_true, Bool.or_false, Bool.or_true, Nat.reduceAdd, Nat.reduceSub, Nat.zero_add, decide_true, decide_false, Bool.true_and, Bool.false_and, Bool.and_true, Bool.and_false, hN]
  refine (seq_nx (env1 := [some (.fz (tsD ts)), some (.fz (.tuple (cs.map iD))), some (.fnc f F' ws [.list (lv.map frD), tsD ts]), some (.ow (.list ((nms ts).map .str))), some (.ow (.list (cs.map iD))), none, none, none, none, none, none, none, none, none, none]) (st1 := st) rfl).trans ?_
  refine (seq_nx (env1 := [some (.fz (tsD ts)), some (.fz (.tuple (cs.map iD))), some (.fnc f F' ws [.list (lv.map frD), tsD ts]), some (.ow (.list ((nms ts).map .str))), some (.ow (.list (cs.map iD))), some (.ow (.list [])), none, none, none, none, none, none, none, none, none]) (st1 := st) rfl).trans ?_
  have h' : frzS [0] (forF (enumF (vE 0)) (unG [setF 6, unF [7, 8, 9]]) (bodyFlow (FF (k + 4)) [.fz (tsD ts), .fz (.tuple (cs.map iD)), .fnc f F' ws [.list (lv.map frD), tsD ts]])) [some (.fz (tsD ts)), some (.fz (.tuple (cs.map iD))), some (.fnc f F' ws [.list (lv.map frD), tsD ts]), some (.ow (.list ((nms ts).map .str))), some (.ow (.list (cs.map iD))), some (.ow (.list [])), none, none, none, none, none, none, none, none, none] st = some (.nx, [some (.fz (tsD ts)), some (.fz (.tuple (cs.map iD))), some (.fnc f F' ws [.list (lv.map frD), tsD ts]), some (.ow (.list ((nms ts).map .str))), some (.ow (.list ((flowQ (nms ts) lv 0 ts cs).map iD))), some (.ow (.list ((flowQL (nms ts) lv 0 ts cs).map lsD))), y6, y7, y8, y9, y10, y11, y12, y13, y14], st) := h
  exact (seq_nx h').trans rfl
end K11

set_option maxHeartbeats 4000000
namespace K11
open PySem PySem.Spec PyProof.Rows L2 Iv
local instance nmZ_K11HD : Iv.Nm := Iv.nmZ
local instance ctI_K11HD : Iv.Ct := ctI
variable {k : Nat} {st : BSt}
/-! ### a stretch -/
structure Sr where
  s : Rat
  lv : List Rat
  gs : List Int
  ls : List (List Int)
def Sr.d (x : Sr) : D := .tuple [frD x.s, .list (x.lv.map frD), .list (x.gs.map iD), .list (x.ls.map lsD)]
def rainI (ws : List Rw) (q : Rat) : List Int := (rainQ ws q).map fun n : Nat => (n : Int)
def gainQ (cs : List Int) (ls : List (List Int)) : List Int := (cs.zip ls).map fun p => p.1 - p.2.sum
def strQ (ts : List Tb) (ws : List Rw) (q : Rat) (lv : List Rat) : Sr := ⟨q, lv, gainQ (flowQ (nms ts) lv 0 ts (rainI ws q)) (flowQL (nms ts) lv 0 ts (rainI ws q)), flowQL (nms ts) lv 0 ts (rainI ws q)⟩
def clD (p : Int × List Int) : D := .tuple [.int p.1, lsD p.2]
theorem zip_cl (cs : List Int) (ls : List (List Int)) : zipD (cs.map iD) (ls.map lsD) = (cs.zip ls).map clD := by
  unfold zipD
  rw [List.zip_map, List.map_map]
  rfl
theorem sum_ls (x : List Int) : blD1 .sum (lsD x) = some (.fz (.int x.sum)) := by
  show (intsOf (x.map iD)).map _ = _
  have e : ∀ l : List Int, intsOf (l.map iD) = some l := fun l => by
    induction l with
    | nil => rfl
    | cons b l ih =>
      show (intsOf (l.map iD)).map (b :: ·) = _
      rw [ih]; rfl
  rw [e]; rfl
theorem flowQ_len (names : List Str) (lv : List Rat) : ∀ (r : List Tb) (i : Nat) (cs : List Int), (flowQ names lv i r cs).length = cs.length
  | [], _, _ => rfl
  | t :: r, i, cs => by unfold flowQ; rw [flowQ_len names lv r, pour_len]
theorem flowQL_len (names : List Str) (lv : List Rat) : ∀ (r : List Tb) (i : Nat) (cs : List Int), (flowQL names lv i r cs).length = r.length
  | [], _, _ => rfl
  | t :: r, i, cs => by unfold flowQL; rw [List.length_cons, flowQL_len names lv r, List.length_cons]
theorem rainG_len {n : Nat} (q : Rat) : ∀ (ws : List Rw) (f : List Nat), (∀ w ∈ ws, w.rs.length = n) → f.length = n → (rainG q ws f).length = n
  | [], _, _, h => h
  | w :: ws, f, hw, h => rainG_len q ws _ (fun y hy => hw y (List.mem_cons_of_mem _ hy)) (by split; exact h; exact hw w List.mem_cons_self)
theorem rainQ_len {n : Nat} (q : Rat) {ws : List Rw} (h0 : ws ≠ []) (hw : ∀ w ∈ ws, w.rs.length = n) : (rainQ ws q).length = n := by
  unfold rainQ
  refine rainG_len q ws _ hw ?_
  cases ws with
  | nil => exact absurd rfl h0
  | cons w r => exact hw w List.mem_cons_self
/-- what is handed in, as far as the program's answers ask it -/
structure WsOk (n : Nat) (ws : List Rw) : Prop where
  ne : ws ≠ []
  len : ws.length ≤ 1000
  hh : ∀ w ∈ ws, w.h < pw 100
  rl : ∀ w ∈ ws, w.rs.length = n
theorem f_stretch_from {ts : List Tb} (T : TsOk ts) (hhh : ∀ t ∈ ts, ∀ x ∈ t.hs, x.h < pw 100) {ws : List Rw} (W : WsOk ts.length ws) {q : Rat} (hq : Sz q) {lv : List Rat} (hlv : ∀ l ∈ lv, Sz l) (hll : lv.length = ts.length) :
    FF (k + 6) "stretch_from" [.fz (tsD ts), .fz (wsD ws), .fz (frD q), .fz (.list (lv.map frD))] st = some (.fz (strQ ts ws q lv).d, st) := by
  have hR := f_rain_at (k := k + 3) (st := st) ws q hq W.ne W.hh
  have hrl : (rainI ws q).length = ts.length := by unfold rainI; rw [List.length_map]; exact rainQ_len q W.ne W.rl
  have er : (rainQ ws q).map intD = (rainI ws q).map iD := by unfold rainI; rw [List.map_map]; rfl
  rw [er] at hR
  have hF := fun (f : Addr) (F' : NdefX.NF) (wv : List V) (hq' : F'.qual = "stretch_from.<locals>.letting") => f_flowsQ (k := k) (st := st) (f := f) (ws := wv) T (rainI ws q) hrl hlv hll hhh hq'
  have hd : (strQ ts ws q lv).d = .tuple [frD q, .list (lv.map frD), .list ((gainQ (flowQ (nms ts) lv 0 ts (rainI ws q)) (flowQL (nms ts) lv 0 ts (rainI ws q))).map iD), .list ((flowQL (nms ts) lv 0 ts (rainI ws q)).map lsD)] := rfl
  rw [hd]
  have l1 := flowQ_len (nms ts) lv ts 0 (rainI ws q)
  have l2 := flowQL_len (nms ts) lv ts 0 (rainI ws q)
  generalize flowQ (nms ts) lv 0 ts (rainI ws q) = C at *
  generalize flowQL (nms ts) lv 0 ts (rainI ws q) = LS at *
  generalize rainI ws q = cs at *
  generalize frD q = FQ at *
  have tl := T.len
  unfold FF at hR hF ⊢
  rw [e_stretch_from]
  refine (if_pos rfl).trans ?_
  refine uni_eq fun f F' hq' => ?_
  have h : callC (tbl.F whR 60 (k + 5)) "flows" F'.qual [.fz (tsD ts), .fz (.tuple (cs.map iD))] [.list (lv.map frD), tsD ts] st = some (.fz (.tuple [.list (C.map iD), .list (LS.map lsD)]), st) :=
    callC_eq fun f2 F2 wv hq2 _ => hF f2 F2 wv (hq2.trans hq')
  generalize hLV : lv.map frD = LV at *
  have c : clF (tbl.F whR 60 (k + 5)) [.fnc f F' [] []] [3, 0] "flows" 4 (argsF [(vE 0), (callF (tbl.F whR 60 (k + 5)) "rain_at" (argsF [(vE 1), (vE 2)]))]) [some (.fz (tsD ts)), some (.fz (wsD ws)), some (.fz FQ), some (.fz (.list LV)), some (.fnc f F' [] []), none, none, none, none, none] st = some (.fz (.tuple [.list (C.map iD), .list (LS.map lsD)]), st) := by
    unfold clF
    simp only [List.getElem?_cons_succ, List.getElem?_cons_zero, List.mem_cons, true_or, if_true]
    have ha : argsF [(vE 0), (callF (tbl.F whR 60 (k + 5)) "rain_at" (argsF [(vE 1), (vE 2)]))] [some (.fz (tsD ts)), some (.fz (wsD ws)), some (.fz FQ), some (.fz (.list LV)), some (.fnc f F' [] []), none, none, none, none, none] st = some ([.fz (tsD ts), .fz (.tuple (cs.map iD))], st) := by
      simp only [runM, seqS, frzS, frzs, frz1, retF, retS, ifS, skipS, andE, orE, notE, ifE, valF, vE, vV, kE, kV', callF, ar_nil, ar_cons, dn_fz, dn_ow, dn_bag, dn_scr, d_fz, d_ow, b_of, t_of, isiF, isD, blF, cmpF, chainF, orElse, lenS, bltF1, notT, andT, orT, tstF, l_list, l_tuple, l_all, l_listL, l_listT, l_tupL, l_tupT, l_abs, c_lt, c_le, c_gt, c_ge, c_eqI, c_neI, c_inS, c_niS, i_list, i_tuple, i_str, x_list, x_tuple, plainF, ixF, ixG, ixS, asgF, unpF, unF, setAll, List.length_cons, List.length_nil, List.map_cons, List.map_nil, if_true, if_false, List.cons_append, List.nil_append, List.append_nil, List.getElem?_cons_zero, List.getElem?_cons_succ, List.replicate, List.set_cons_zero, List.set_cons_succ, Option.bind_some, Option.map_some, Option.bind_none, Option.map_none, Bool.not_true, Bool.not_false, Bool.false_eq_true, Bool.or_false, Bool.or_true, Nat.reduceAdd, Nat.reduceSub, Nat.zero_add, decide_true, decide_false, Bool.true_and, Bool.false_and, Bool.and_true, Bool.and_false, hR]
    rw [ha]
    exact h
  have hz : ∀ env : Env', env[5]? = some (some (.fz (.list (C.map iD)))) → env[6]? = some (some (.fz (.list (LS.map lsD)))) → zipF (vE 5) (vE 6) env st = some ((C.zip LS).map clD, st) := fun env h5 h6 => by
    rw [← zip_cl]
    simp only [zipF, vE, h5, h6, runM, seqS, frzS, frzs, frz1, retF, retS, ifS, skipS, andE, orE, notE, ifE, valF, vE, vV, kE, kV', callF, ar_nil, ar_cons, dn_fz, dn_ow, dn_bag, dn_scr, d_fz, d_ow, b_of, t_of, isiF, isD, blF, cmpF, chainF, orElse, lenS, bltF1, notT, andT, orT, tstF, l_list, l_tuple, l_all, l_listL, l_listT, l_tupL, l_tupT, l_abs, c_lt, c_le, c_gt, c_ge, c_eqI, c_neI, c_inS, c_niS, i_list, i_tuple, i_str, x_list, x_tuple, plainF, ixF, ixG, ixS, asgF, unpF, unF, setAll, List.length_cons, List.length_nil, List.map_cons, List.map_nil, if_true, if_false, List.cons_append, List.nil_append, List.append_nil, List.getElem?_cons_zero, List.getElem?_cons_succ, List.replicate, List.set_cons_zero, List.set_cons_succ, Option.bind_some, Option.map_some, Option.bind_none, Option.map_none, Bool.not_true, Bool.not_false, Bool.false_eq_true, Bool.or_false, Bool.or_true, Nat.reduceAdd, Nat.reduceSub, Nat.zero_add, decide_true, decide_false, Bool.true_and, Bool.false_and, Bool.and_true, Bool.and_false, seqD]
  have m : m_stretch_from whR (tbl.F whR 60 (k + 5)) [.fnc f F' [] []] [some (.fz (tsD ts)), some (.fz (wsD ws)), some (.fz FQ), some (.fz (.list LV)), some (.fnc f F' [] []), none, none, none, none, none] st = some (.rt (.fz (.tuple [FQ, .list LV, .list ((gainQ C LS).map iD), .list (LS.map lsD)])), [some (.fz (tsD ts)), some (.fz (wsD ws)), some (.fz FQ), some (.fz (.list LV)), some (.fnc f F' [] []), some (.fz (.list (C.map iD))), some (.fz (.list (LS.map lsD))), some (.fz (.list ((gainQ C LS).map iD))), none, none], st) := by
    unfold m_stretch_from
    refine (seq_nx (env1 := [some (.fz (tsD ts)), some (.fz (wsD ws)), some (.fz FQ), some (.fz (.list LV)), some (.fnc f F' [] []), some (.fz (.list (C.map iD))), some (.fz (.list (LS.map lsD))), none, none, none]) (st1 := st) ?_).trans ?_
    · show unpF _ _ [some (.fz (tsD ts)), some (.fz (wsD ws)), some (.fz FQ), some (.fz (.list LV)), some (.fnc f F' [] []), none, none, none, none, none] st = _
      unfold unpF
      rw [c]
      rfl
    refine (seq_nx (env1 := [some (.fz (tsD ts)), some (.fz (wsD ws)), some (.fz FQ), some (.fz (.list LV)), some (.fnc f F' [] []), some (.fz (.list (C.map iD))), some (.fz (.list (LS.map lsD))), some (.ow (.list ((gainQ C LS).map iD))), none, none]) (st1 := st) ?_).trans ?_
    · show asgF 7 (lcF _ _ _ _ _) [some (.fz (tsD ts)), some (.fz (wsD ws)), some (.fz FQ), some (.fz (.list LV)), some (.fnc f F' [] []), some (.fz (.list (C.map iD))), some (.fz (.list (LS.map lsD))), none, none, none] st = _
      have hlc : lcF (zipF (vE 5) (vE 6)) [8, 9] (unF [8, 9]) yesT (binF .Sub (vV 8) (valF (bltF1 .sum (vV 9)))) [some (.fz (tsD ts)), some (.fz (wsD ws)), some (.fz FQ), some (.fz (.list LV)), some (.fnc f F' [] []), some (.fz (.list (C.map iD))), some (.fz (.list (LS.map lsD))), none, none, none] st = some (.ow (.list ((gainQ C LS).map iD)), st) := by
        unfold lcF
        rw [hz _ rfl rfl]
        simp only [Option.bind_some]
        rw [lc_pairs (d := clD) (x := fun p => .int (p.1 - p.2.sum))]
        · unfold gainQ
          rw [List.map_map]
          rfl
        · intro p _
          refine ⟨[some (.fz (tsD ts)), some (.fz (wsD ws)), some (.fz FQ), some (.fz (.list LV)), some (.fnc f F' [] []), some (.fz (.list (C.map iD))), some (.fz (.list (LS.map lsD))), none, some (.fz (.int p.1)), some (.fz (lsD p.2))], .fz (.int (p.1 - p.2.sum)), rfl, ?_, rfl⟩
          simp only [runM, seqS, frzS, frzs, frz1, retF, retS, ifS, skipS, andE, orE, notE, ifE, valF, vE, vV, kE, kV', callF, ar_nil, ar_cons, dn_fz, dn_ow, dn_bag, dn_scr, d_fz, d_ow, b_of, t_of, isiF, isD, blF, cmpF, chainF, orElse, lenS, bltF1, notT, andT, orT, tstF, l_list, l_tuple, l_all, l_listL, l_listT, l_tupL, l_tupT, l_abs, c_lt, c_le, c_gt, c_ge, c_eqI, c_neI, c_inS, c_niS, i_list, i_tuple, i_str, x_list, x_tuple, plainF, ixF, ixG, ixS, asgF, unpF, unF, setAll, List.length_cons, List.length_nil, List.map_cons, List.map_nil, if_true, if_false, List.cons_append, List.nil_append, List.append_nil, List.getElem?_cons_zero, List.getElem?_cons_succ, List.replicate, List.set_cons_zero, List.set_cons_succ, Option.bind_some, Option.map_some, Option.bind_none, Option.map_none, Bool.not_true, Bool.not_false, Bool.false_eq_true, Bool.or_false, Bool.or_true, Nat.reduceAdd, Nat.reduceSub, Nat.zero_add, decide_true, decide_false, Bool.true_and, Bool.false_and, Bool.and_true, Bool.and_false, binF, bltF1, sum_ls, b_sub]
        · simp only [List.length_nil, List.length_zip]; omega
      unfold asgF
      rw [hlc]
      rfl
    rfl
  exact congrArg fin m
end K11

set_option maxHeartbeats 4000000
noncomputable section
namespace K11
open PySem PySem.Spec PyProof.Rows L2 Iv
local instance nmZ_K11V : Iv.Nm := Iv.nmZ
local instance ctI_K11V : Iv.Ct := ctI
/-! ### the text, run by the kernel: what makes a def within is told by its lemma -/
def whC : Wh := fun c f env st => match whileN c f 300 env st with
  | some r => some r
  | none => whR c f env st
theorem whC_eq : whC = whR := by
  funext c f env st
  unfold whC
  split
  · rename_i r e; exact (whR_eq e).symm
  · rfl
def dAll {α : Type} (f : D → Option α) : List D → Option (List α)
  | [] => some []
  | d :: ds => (f d).bind fun x => (dAll f ds).map (x :: ·)
theorem dAll_ok {α : Type} {f : D → Option α} {e : α → D} (h : ∀ d x, f d = some x → e x = d) : ∀ {ds : List D} {xs : List α}, dAll f ds = some xs → xs.map e = ds
  | [], _, z => by cases z; rfl
  | d :: ds, _, z => by
    obtain ⟨x, e1, z⟩ := bind1 z
    obtain ⟨xs, e2, rfl⟩ := map1 z
    rw [List.map_cons, h d x e1, dAll_ok h e2]
def dNat : D → Option Nat
  | .int i => if decide (0 ≤ i) then some i.toNat else none
  | _ => none
theorem dNat_ok (d : D) (n : Nat) (h : dNat d = some n) : intD n = d := by
  unfold dNat at h
  split at h
  · obtain ⟨c, rfl⟩ := ite_some h
    have c := of_decide_eq_true c
    show PyData.int _ = _
    rw [Int.toNat_of_nonneg c]
  · cases h
def dInt : D → Option Int
  | .int i => some i
  | _ => none
theorem dInt_ok (d : D) (n : Int) (h : dInt d = some n) : iD n = d := by
  unfold dInt at h
  split at h
  · cases h; rfl
  · cases h
def dHl : D → Option Hl
  | .tuple [.int h, .int r, .str to] => if decide (0 ≤ h) && decide (0 ≤ r) then some ⟨h.toNat, r.toNat, to⟩ else none
  | _ => none
theorem dHl_ok (d : D) (x : Hl) (h : dHl d = some x) : x.d = d := by
  unfold dHl at h
  split at h
  · obtain ⟨c, rfl⟩ := ite_some h
    simp only [Bool.and_eq_true, decide_eq_true_eq] at c
    show PyData.tuple [.int _, .int _, .str _] = _
    rw [Int.toNat_of_nonneg c.1, Int.toNat_of_nonneg c.2]
  · cases h
def dTb : D → Option Tb
  | .tuple [.str n, .int g, .tuple hs] => if decide (0 ≤ g) then (dAll dHl hs).map fun hs => ⟨n, g.toNat, hs⟩ else none
  | _ => none
theorem dTb_ok (d : D) (x : Tb) (h : dTb d = some x) : x.d = d := by
  unfold dTb at h
  split at h
  · obtain ⟨c, h⟩ := ite_one h
    obtain ⟨hs, e, rfl⟩ := map1 h
    have c := of_decide_eq_true c
    show PyData.tuple [.str _, .int _, .tuple _] = _
    rw [Int.toNat_of_nonneg c, dAll_ok dHl_ok e]
  · cases h
def dRw : D → Option Rw
  | .tuple [.int h, .tuple rs] => if decide (0 ≤ h) then (dAll dNat rs).map fun rs => ⟨h.toNat, rs⟩ else none
  | _ => none
theorem dRw_ok (d : D) (x : Rw) (h : dRw d = some x) : x.d = d := by
  unfold dRw at h
  split at h
  · obtain ⟨c, h⟩ := ite_one h
    obtain ⟨hs, e, rfl⟩ := map1 h
    have c := of_decide_eq_true c
    show PyData.tuple [.int _, .tuple _] = _
    rw [Int.toNat_of_nonneg c, dAll_ok dNat_ok e]
  · cases h
def dFr : D → Option Rat
  | .tuple [.int n, .int m] => if decide ((mkRat n m.toNat).num = n) && decide (((mkRat n m.toNat).den : Int) = m) then some (mkRat n m.toNat) else none
  | _ => none
theorem dFr_ok (d : D) (x : Rat) (h : dFr d = some x) : frD x = d := by
  unfold dFr at h
  split at h
  · obtain ⟨c, rfl⟩ := ite_some h
    simp only [Bool.and_eq_true, decide_eq_true_eq] at c
    unfold frD
    rw [c.1, c.2]
  · cases h
def okTs (ts : List Tb) : Bool := decide (ts.length ≤ 3) && (nms ts).all PyData.strOk && ts.all fun t => decide (t.hs.length ≤ 3) && t.hs.all fun x => decide (x.to = "") || decide (x.to ∈ nms ts)
theorem okTs_ok {ts : List Tb} (h : okTs ts = true) : TsOk ts := by
  unfold okTs at h
  simp only [Bool.and_eq_true, decide_eq_true_eq, List.all_eq_true, Bool.or_eq_true] at h
  exact ⟨h.1.1, h.1.2, h.2⟩
theorem pw1 {n m : Nat} (h : n < 1048576) (hm : 20 ≤ m) : n < pw m := by
  have := pw_le hm
  have e : pw 20 = 1048576 := by unfold pw; rfl
  omega
def okH (ts : List Tb) : Bool := ts.all fun t => t.hs.all fun x => decide (x.h < 1048576)
theorem okH_ok {ts : List Tb} (h : okH ts = true) : ∀ t ∈ ts, ∀ x ∈ t.hs, x.h < pw 100 := by
  unfold okH at h
  simp only [decide_eq_true_eq, List.all_eq_true] at h
  exact fun t ht x hx => pw1 (h t ht x hx) (by omega)
def okWs (n : Nat) (ws : List Rw) : Bool := !ws.isEmpty && decide (ws.length ≤ 1000) && ws.all fun w => decide (w.h < 1048576) && decide (w.rs.length = n)
theorem okWs_ok {n : Nat} {ws : List Rw} (h : okWs n ws = true) : WsOk n ws := by
  unfold okWs at h
  simp only [Bool.and_eq_true, decide_eq_true_eq, List.all_eq_true] at h
  refine ⟨fun z => ?_, h.1.2, fun w hw => pw1 (h.2 w hw).1 (by omega), fun w hw => (h.2 w hw).2⟩
  rw [z] at h
  exact absurd h.1.1 (by simp)
def okQ (q : Rat) : Bool := decide (q.den < 1048576) && decide (q.num.natAbs < 1048576)
theorem okQ_ok {q : Rat} (h : okQ q = true) : Sz q := by
  unfold okQ at h
  simp only [Bool.and_eq_true, decide_eq_true_eq] at h
  exact ⟨pw1 h.1 (by omega), pw1 h.2 (by omega)⟩
def gStr : List R → Option R
  | [.fz (.tuple t), .fz (.tuple w), .fz q, .fz (.list l)] => (dAll dTb t).bind fun ts => (dAll dRw w).bind fun ws => (dFr q).bind fun q => (dAll dFr l).bind fun lv =>
    if okTs ts && okH ts && okWs ts.length ws && okQ q && lv.all okQ && decide (lv.length = ts.length) then some (.fz (strQ ts ws q lv).d) else none
  | _ => none
theorem gStr_ok {k : Nat} {rs : List R} {r : R} {st : BSt} (h : gStr rs = some r) : FF (k + 6) "stretch_from" rs st = some (r, st) := by
  unfold gStr at h
  split at h
  · rename_i t w q l
    obtain ⟨ts, e1, h⟩ := bind1 h
    obtain ⟨ws, e2, h⟩ := bind1 h
    obtain ⟨q', e3, h⟩ := bind1 h
    obtain ⟨lv, e4, h⟩ := bind1 h
    obtain ⟨c, rfl⟩ := ite_some h
    simp only [Bool.and_eq_true, decide_eq_true_eq, List.all_eq_true] at c
    have := f_stretch_from (k := k) (st := st) (okTs_ok c.1.1.1.1.1) (okH_ok c.1.1.1.1.2) (okWs_ok c.1.1.1.2) (okQ_ok c.1.1.2) (fun l hl => okQ_ok (c.1.2 l hl)) c.2
    have a1 : tsD ts = .tuple t := congrArg PyData.tuple (dAll_ok dTb_ok e1)
    have a2 : wsD ws = .tuple w := congrArg PyData.tuple (dAll_ok dRw_ok e2)
    rw [a1, a2, dFr_ok q q' e3, dAll_ok dFr_ok e4] at this
    exact this
  · cases h
def gEnd : List R → Option R
  | [.fz (.tuple t), .fz (.tuple c)] => (dAll dTb t).bind fun ts => (dAll dInt c).bind fun cs => if okTs ts && decide (cs.length = ts.length) then some (.fz (.tuple [.list ((flowC (nms ts) 0 ts cs).map iD), .list (flowL (nms ts) 0 ts cs)])) else none
  | _ => none
theorem gEnd_ok {k : Nat} {rs : List R} {r : R} {st : BSt} (h : gEnd rs = some r) : FF (k + 4) "flows_in_the_end" rs st = some (r, st) := by
  unfold gEnd at h
  split at h
  · rename_i t c
    obtain ⟨ts, e1, h⟩ := bind1 h
    obtain ⟨cs, e2, h⟩ := bind1 h
    obtain ⟨c, rfl⟩ := ite_some h
    simp only [Bool.and_eq_true, decide_eq_true_eq] at c
    have := f_end (k := k) (st := st) (okTs_ok c.1) cs c.2
    have a1 : tsD ts = .tuple t := congrArg PyData.tuple (dAll_ok dTb_ok e1)
    rw [a1, dAll_ok dInt_ok e2] at this
    exact this
  · cases h
def gRed : List R → Option R
  | [.fz (.int t), .fz (.int b)] => if decide (b ≠ 0) && decide (b.natAbs < 1048576) then some (.fz (frD ((t : Rat) / b))) else none
  | _ => none
theorem gRed_ok {k : Nat} {rs : List R} {r : R} {st : BSt} (h : gRed rs = some r) : FF (k + 2) "reduced" rs st = some (r, st) := by
  unfold gRed at h
  split at h
  · obtain ⟨c, rfl⟩ := ite_some h
    simp only [Bool.and_eq_true, decide_eq_true_eq] at c
    exact f_reduced _ _ c.1 (pw1 c.2 (by omega))
  · cases h
/-! sorted: a list in order is itself -/
def chk : List D → Bool
  | [] => true
  | a :: r => r.all (fun b => PySem.W.dataLe false id a b) && chk r
theorem chk_ok : ∀ {l : List D}, chk l = true → l.Pairwise fun a b => PySem.W.dataLe false id a b = true
  | [], _ => .nil
  | a :: r, h => by
    have h : (r.all (fun b => PySem.W.dataLe false id a b) && chk r) = true := h
    rw [Bool.and_eq_true, List.all_eq_true] at h
    exact .cons h.1 (chk_ok h.2)
def srtS : D → Option R
  | .list ds => if sortOk ds && chk ds then some (.ow (.list ds)) else blD1 .sorted (.list ds)
  | .tuple ds => if (tksOf ds).isSome && sortOk ds && chk ds then some (.ow (.list ds)) else blD1 .sorted (.tuple ds)
  | d => blD1 .sorted d
theorem srtS_eq (d : D) : srtS d = blD1 .sorted d := by
  cases d with
  | list ds =>
    show (if sortOk ds && chk ds then some (R.ow (.list ds)) else blD1 .sorted (.list ds)) = _
    split
    · rename_i c
      rw [Bool.and_eq_true] at c
      show _ = (if sortOk ds then some (R.ow (.list (srtD ds))) else _)
      rw [c.1, if_pos rfl]
      unfold srtD
      rw [List.mergeSort_of_pairwise (chk_ok c.2)]
    · rfl
  | tuple ds =>
    show (if (tksOf ds).isSome && sortOk ds && chk ds then some (R.ow (.list ds)) else blD1 .sorted (.tuple ds)) = _
    split
    · rename_i c
      simp only [Bool.and_eq_true] at c
      obtain ⟨kss, e⟩ := Option.isSome_iff_exists.mp c.1.1
      show _ = (tksOf ds).bind fun _ => if sortOk ds then some (R.ow (.list (srtD ds))) else none
      rw [e, Option.bind_some, c.1.2, if_pos rfl]
      unfold srtD
      rw [List.mergeSort_of_pairwise (chk_ok c.2)]
    · rfl
  | _ => rfl
def srtF (f : VF) (env : Env') (st : BSt) : Option (R × BSt) := (f env st).bind fun p => (srtS p.1).map fun r => (r, p.2)
theorem srtF_eq (f : VF) : srtF f = bltF1 .sorted f := by
  funext env st
  unfold srtF bltF1
  simp only [srtS_eq]
def mS_fewest_plugs (wh : Wh) (F : FT) : SF :=
    (seqS (frzS [0, 2] (asgF 4 (callF F "tub_at" (argsF [(vE 0), (vE 2)]))))
    (seqS (frzS [0] (asgF 5 (srtF (valF (callF F "holes_of" (argsF [(vE 0)]))))))
    (seqS (frzS [] (forF (rangeF (valF (binF .Add (valF (orElse (lenS 5) (bltF1 .len (vV 5)))) (valF (kE (.int 1)))))) (setF 6) (seqS (frzS [5, 6] (forF (plainF (callF F "choices" (argsF [(vE 5), (vE 6)]))) (setF 7) (seqS (frzS [0, 7, 1] (ifS (cmpF .GtE (valF (ixG (valF (callF F "comes" (argsF [(callF F "without_holes" (argsF [(vE 0), (vE 7)])), (vE 1)]))) (vV 4))) (vV 3)) (seqS (frzS [] (retS 7 (retF (vE 7))))
    skipS) skipS))
    skipS)))
    skipS)))
    (seqS (frzS [] (retF (kE .none)))
    skipS))))
theorem mS_fewest_plugs_eq (wh : Wh) (F : FT) : mS_fewest_plugs wh F = m_fewest_plugs wh F := by
  unfold mS_fewest_plugs m_fewest_plugs
  simp only [srtF_eq]
def mS_with_plugs (wh : Wh) (F : FT) : SF :=
    (seqS (frzS [0] (unpF (vE 0) (unF [2, 3, 4, 5, 6])))
    (seqS (frzS [2, 3, 4, 6] (retF (tupF (argsF [(vE 2), (vE 3), (vE 4), (bltF1 .tuple (valF (srtF (vV 1)))), (vE 6)]))))
    skipS))
theorem mS_with_plugs_eq (wh : Wh) (F : FT) : mS_with_plugs wh F = m_with_plugs wh F := by
  unfold mS_with_plugs m_with_plugs
  simp only [srtF_eq]
def ents (wh : Wh) (F : FT) : List (Str × (List R → BSt → Option (R × BSt))) := [(("plus" : Str), runM 2 2 (m_plus wh F)), (("less" : Str), runM 2 2 (m_less wh F)), (("minus" : Str), runM 2 2 (m_minus wh F)), (("times_by" : Str), runM 3 3 (m_times_by wh F)), (("lesser" : Str), runM 2 2 (m_lesser wh F)), (("hole_lets" : Str), runM 4 4 (m_hole_lets wh F)), (("holes_let" : Str), runM 3 9 (m_holes_let wh F)), (("tub_at" : Str), runM 2 2 (m_tub_at wh F)), (("names_of" : Str), runM 1 4 (m_names_of wh F)), (("place_of" : Str), runM 2 6 (m_place_of wh F)), (("is_whole" : Str), runM 1 1 (m_is_whole wh F)), (("is_whole_within" : Str), runM 3 3 (m_is_whole_within wh F)), (("is_fraction" : Str), runM 1 3 (m_is_fraction wh F)), (("is_tuple_of" : Str), runM 3 3 (m_is_tuple_of wh F)), (("is_rising" : Str), runM 1 3 (m_is_rising wh F)), (("is_name" : Str), runM 1 2 (m_is_name wh F)), (("is_way" : Str), runM 1 1 (m_is_way wh F)), (("is_hole" : Str), runM 1 4 (m_is_hole wh F)), (("are_holes" : Str), runM 1 5 (m_are_holes wh F)), (("is_tub" : Str), runM 1 4 (m_is_tub wh F)), (("fits_among" : Str), runM 3 9 (m_fits_among wh F)), (("are_tubs" : Str), runM 1 5 (m_are_tubs wh F)), (("is_rain" : Str), runM 2 3 (m_is_rain wh F)), (("holes_of" : Str), runM 1 7 (m_holes_of wh F)), (("is_name_of" : Str), runM 2 2 (m_is_name_of wh F)), (("is_hole_of" : Str), runM 2 2 (m_is_hole_of wh F)), (("without_holes" : Str), runM 2 6 (m_without_holes wh F)), (("shared_out" : Str), runM 2 7 (m_shared_out wh F)), (("lets_in_the_end" : Str), runM 3 7 (m_lets_in_the_end wh F)), (("rest_of" : Str), runM 2 7 (m_rest_of wh F)), (("comes" : Str), runM 2 2 (m_comes wh F)), (("rests" : Str), runM 2 6 (m_rests wh F)), (("rain_with" : Str), runM 4 5 (m_rain_with wh F)), (("comes_up_to" : Str), runM 4 5 (m_comes_up_to wh F)), (("least_rain" : Str), runM 5 8 (m_least_rain wh F)), (("with_rate" : Str), runM 3 12 (m_with_rate wh F)), (("rates_by" : Str), runM 5 6 (m_rates_by wh F)), (("choices" : Str), runM 2 6 (m_choices wh F)), (("fewest_plugs" : Str), runM 4 8 (mS_fewest_plugs wh F)), (("rain_at" : Str), runM 2 5 (m_rain_at wh F)), (("levels_at" : Str), runM 3 14 (m_levels_at wh F)), (("spans_to_holes" : Str), runM 3 11 (m_spans_to_holes wh F)), (("end_of" : Str), runM 3 15 (m_end_of wh F)), (("stretches" : Str), runM 3 6 (m_stretches wh F)), (("levels_by" : Str), runM 3 5 (m_levels_by wh F)), (("went_by" : Str), runM 4 15 (m_went_by wh F)), (("heights" : Str), runM 4 4 (m_heights wh F)), (("through" : Str), runM 5 5 (m_through wh F)), (("turns" : Str), runM 3 10 (m_turns wh F)), (("settled" : Str), runM 3 4 (m_settled wh F)), (("at_first" : Str), runM 1 2 (m_at_first wh F)), (("with_rain" : Str), runM 2 7 (m_with_rain wh F)), (("with_plugs" : Str), runM 2 7 (mS_with_plugs wh F)), (("after_pouring" : Str), runM 4 10 (m_after_pouring wh F)), (("after_hours" : Str), runM 3 14 (m_after_hours wh F)), (("ways_away" : Str), runM 1 7 (m_ways_away wh F)), (("_law_bag" : Str), runM 2 3 (m__law_bag wh F)), (("_law_take" : Str), runM 2 3 (m__law_take wh F)), (("_law_lowest" : Str), runM 2 4 (m__law_lowest wh F)), (("_law_one_so" : Str), runM 1 7 (m__law_one_so wh F)), (("_law_two_so" : Str), runM 1 5 (m__law_two_so wh F))]
theorem ents_ok (k : Nat) : ∀ p ∈ ents whR (FF k), FF (k + 1) p.1 = p.2 := by
  intro p hp
  unfold ents at hp
  simp only [List.mem_cons, List.not_mem_nil, or_false] at hp
  rcases hp with rfl | rfl | rfl | rfl | rfl | rfl | rfl | rfl | rfl | rfl | rfl | rfl | rfl | rfl | rfl | rfl | rfl | rfl | rfl | rfl | rfl | rfl | rfl | rfl | rfl | rfl | rfl | rfl | rfl | rfl | rfl | rfl | rfl | rfl | rfl | rfl | rfl | rfl | rfl | rfl | rfl | rfl | rfl | rfl | rfl | rfl | rfl | rfl | rfl | rfl | rfl | rfl | rfl | rfl | rfl | rfl | rfl | rfl | rfl | rfl | rfl
  · exact e_plus
  · exact e_less
  · exact e_minus
  · exact e_times_by
  · exact e_lesser
  · exact e_hole_lets
  · exact e_holes_let
  · exact e_tub_at
  · exact e_names_of
  · exact e_place_of
  · exact e_is_whole
  · exact e_is_whole_within
  · exact e_is_fraction
  · exact e_is_tuple_of
  · exact e_is_rising
  · exact e_is_name
  · exact e_is_way
  · exact e_is_hole
  · exact e_are_holes
  · exact e_is_tub
  · exact e_fits_among
  · exact e_are_tubs
  · exact e_is_rain
  · exact e_holes_of
  · exact e_is_name_of
  · exact e_is_hole_of
  · exact e_without_holes
  · exact e_shared_out
  · exact e_lets_in_the_end
  · exact e_rest_of
  · exact e_comes
  · exact e_rests
  · exact e_rain_with
  · exact e_comes_up_to
  · exact e_least_rain
  · exact e_with_rate
  · exact e_rates_by
  · exact e_choices
  · rw [mS_fewest_plugs_eq]; exact e_fewest_plugs
  · exact e_rain_at
  · exact e_levels_at
  · exact e_spans_to_holes
  · exact e_end_of
  · exact e_stretches
  · exact e_levels_by
  · exact e_went_by
  · exact e_heights
  · exact e_through
  · exact e_turns
  · exact e_settled
  · exact e_at_first
  · exact e_with_rain
  · rw [mS_with_plugs_eq]; exact e_with_plugs
  · exact e_after_pouring
  · exact e_after_hours
  · exact e_ways_away
  · exact e__law_bag
  · exact e__law_take
  · exact e__law_lowest
  · exact e__law_one_so
  · exact e__law_two_so
def orF (o : Option R) (st : BSt) (g : Option (R × BSt)) : Option (R × BSt) := match o with
  | some r => some (r, st)
  | none => g
def GG : Nat → FT
  | 0 => fun _ _ _ => none
  | k + 1 => fun x rs st => if x = "reduced" then orF (if decide (1 ≤ k) then gRed rs else none) st (FF (k + 1) x rs st)
    else if x = "stretch_from" then orF (if decide (5 ≤ k) then gStr rs else none) st (FF (k + 1) x rs st)
    else if x = "flows_in_the_end" then orF (if decide (3 ≤ k) then gEnd rs else none) st (FF (k + 1) x rs st)
    else match (ents whC (GG k)).lookup x with
      | some f => f rs st
      | none => FF (k + 1) x rs st
theorem orF_eq {o : Option R} {st : BSt} {g : Option (R × BSt)} (h : ∀ r, o = some r → g = some (r, st)) : orF o st g = g := by
  cases o with
  | none => rfl
  | some r => exact (h r rfl).symm
theorem GG_eq : ∀ k, GG k = FF k
  | 0 => rfl
  | k + 1 => by
    funext x rs st
    show (if x = "reduced" then orF (if decide (1 ≤ k) then gRed rs else none) st (FF (k + 1) x rs st)
      else if x = "stretch_from" then orF (if decide (5 ≤ k) then gStr rs else none) st (FF (k + 1) x rs st)
      else if x = "flows_in_the_end" then orF (if decide (3 ≤ k) then gEnd rs else none) st (FF (k + 1) x rs st)
      else match (ents whC (GG k)).lookup x with
        | some f => f rs st
        | none => FF (k + 1) x rs st) = FF (k + 1) x rs st
    split
    · rename_i e; subst e
      refine orF_eq fun r h => ?_
      obtain ⟨c, h⟩ := ite_one h
      obtain ⟨j, rfl⟩ : ∃ j, k = j + 1 := ⟨k - 1, by have := of_decide_eq_true c; omega⟩
      exact gRed_ok h
    split
    · rename_i e; subst e
      refine orF_eq fun r h => ?_
      obtain ⟨c, h⟩ := ite_one h
      obtain ⟨j, rfl⟩ : ∃ j, k = j + 5 := ⟨k - 5, by have := of_decide_eq_true c; omega⟩
      exact gStr_ok h
    split
    · rename_i e; subst e
      refine orF_eq fun r h => ?_
      obtain ⟨c, h⟩ := ite_one h
      obtain ⟨j, rfl⟩ : ∃ j, k = j + 3 := ⟨k - 3, by have := of_decide_eq_true c; omega⟩
      exact gEnd_ok h
    rw [whC_eq, GG_eq k]
    split
    · rename_i f e
      obtain ⟨i, hi⟩ := lookup_at e
      have := ents_ok k _ (List.mem_of_getElem? hi)
      rw [this]
    · rfl
end K11

set_option maxHeartbeats 0
namespace K11
open PySem PySem.Spec PyProof.Rows L2 Iv
local instance nmZ_K11VB : Iv.Nm := Iv.nmZ
local instance ctI_K11VB : Iv.Ct := ctI
theorem g_one_1 : GG 40 "_law_one_so" [.fz (.int 1)] none = some (.ow (.list (List.replicate 14 (.bool true))), none) := by kernel_rfl
theorem f_one_1 : FF 40 "_law_one_so" [.fz (.int 1)] none = some (.ow (.list (List.replicate 14 (.bool true))), none) := by rw [← GG_eq]; exact g_one_1
theorem g_one_2 : GG 40 "_law_one_so" [.fz (.int 2)] none = some (.ow (.list (List.replicate 14 (.bool true))), none) := by kernel_rfl
theorem f_one_2 : FF 40 "_law_one_so" [.fz (.int 2)] none = some (.ow (.list (List.replicate 14 (.bool true))), none) := by rw [← GG_eq]; exact g_one_2
theorem g_one_3 : GG 40 "_law_one_so" [.fz (.int 3)] none = some (.ow (.list (List.replicate 14 (.bool true))), none) := by kernel_rfl
theorem f_one_3 : FF 40 "_law_one_so" [.fz (.int 3)] none = some (.ow (.list (List.replicate 14 (.bool true))), none) := by rw [← GG_eq]; exact g_one_3
theorem g_one_4 : GG 40 "_law_one_so" [.fz (.int 4)] none = some (.ow (.list (List.replicate 14 (.bool true))), none) := by kernel_rfl
theorem f_one_4 : FF 40 "_law_one_so" [.fz (.int 4)] none = some (.ow (.list (List.replicate 14 (.bool true))), none) := by rw [← GG_eq]; exact g_one_4
theorem g_one_5 : GG 40 "_law_one_so" [.fz (.int 5)] none = some (.ow (.list (List.replicate 14 (.bool true))), none) := by kernel_rfl
theorem f_one_5 : FF 40 "_law_one_so" [.fz (.int 5)] none = some (.ow (.list (List.replicate 14 (.bool true))), none) := by rw [← GG_eq]; exact g_one_5
theorem g_one_6 : GG 40 "_law_one_so" [.fz (.int 6)] none = some (.ow (.list (List.replicate 14 (.bool true))), none) := by kernel_rfl
theorem f_one_6 : FF 40 "_law_one_so" [.fz (.int 6)] none = some (.ow (.list (List.replicate 14 (.bool true))), none) := by rw [← GG_eq]; exact g_one_6
theorem g_one_7 : GG 40 "_law_one_so" [.fz (.int 7)] none = some (.ow (.list (List.replicate 14 (.bool true))), none) := by kernel_rfl
theorem f_one_7 : FF 40 "_law_one_so" [.fz (.int 7)] none = some (.ow (.list (List.replicate 14 (.bool true))), none) := by rw [← GG_eq]; exact g_one_7
theorem g_one_8 : GG 40 "_law_one_so" [.fz (.int 8)] none = some (.ow (.list (List.replicate 14 (.bool true))), none) := by kernel_rfl
theorem f_one_8 : FF 40 "_law_one_so" [.fz (.int 8)] none = some (.ow (.list (List.replicate 14 (.bool true))), none) := by rw [← GG_eq]; exact g_one_8
theorem g_one_9 : GG 40 "_law_one_so" [.fz (.int 9)] none = some (.ow (.list (List.replicate 14 (.bool true))), none) := by kernel_rfl
theorem f_one_9 : FF 40 "_law_one_so" [.fz (.int 9)] none = some (.ow (.list (List.replicate 14 (.bool true))), none) := by rw [← GG_eq]; exact g_one_9
theorem g_one_10 : GG 40 "_law_one_so" [.fz (.int 10)] none = some (.ow (.list (List.replicate 14 (.bool true))), none) := by kernel_rfl
theorem f_one_10 : FF 40 "_law_one_so" [.fz (.int 10)] none = some (.ow (.list (List.replicate 14 (.bool true))), none) := by rw [← GG_eq]; exact g_one_10
end K11

set_option maxHeartbeats 0
namespace K11
open PySem PySem.Spec PyProof.Rows L2 Iv
local instance nmZ_K11VC : Iv.Nm := Iv.nmZ
local instance ctI_K11VC : Iv.Ct := ctI
theorem g_two_1 : GG 40 "_law_two_so" [.fz (.int 1)] none = some (.ow (.list (List.replicate 11 (.bool true))), none) := by kernel_rfl
theorem f_two_1 : FF 40 "_law_two_so" [.fz (.int 1)] none = some (.ow (.list (List.replicate 11 (.bool true))), none) := by rw [← GG_eq]; exact g_two_1
theorem g_two_2 : GG 40 "_law_two_so" [.fz (.int 2)] none = some (.ow (.list (List.replicate 11 (.bool true))), none) := by kernel_rfl
theorem f_two_2 : FF 40 "_law_two_so" [.fz (.int 2)] none = some (.ow (.list (List.replicate 11 (.bool true))), none) := by rw [← GG_eq]; exact g_two_2
theorem g_two_3 : GG 40 "_law_two_so" [.fz (.int 3)] none = some (.ow (.list (List.replicate 11 (.bool true))), none) := by kernel_rfl
theorem f_two_3 : FF 40 "_law_two_so" [.fz (.int 3)] none = some (.ow (.list (List.replicate 11 (.bool true))), none) := by rw [← GG_eq]; exact g_two_3
end K11

set_option maxHeartbeats 0
namespace K11
open PySem PySem.Spec PyProof.Rows L2 Iv
local instance nmZ_K11VD : Iv.Nm := Iv.nmZ
local instance ctI_K11VD : Iv.Ct := ctI
theorem g_two_4 : GG 40 "_law_two_so" [.fz (.int 4)] none = some (.ow (.list (List.replicate 11 (.bool true))), none) := by kernel_rfl
theorem f_two_4 : FF 40 "_law_two_so" [.fz (.int 4)] none = some (.ow (.list (List.replicate 11 (.bool true))), none) := by rw [← GG_eq]; exact g_two_4
theorem g_two_5 : GG 40 "_law_two_so" [.fz (.int 5)] none = some (.ow (.list (List.replicate 11 (.bool true))), none) := by kernel_rfl
theorem f_two_5 : FF 40 "_law_two_so" [.fz (.int 5)] none = some (.ow (.list (List.replicate 11 (.bool true))), none) := by rw [← GG_eq]; exact g_two_5
theorem g_two_6 : GG 40 "_law_two_so" [.fz (.int 6)] none = some (.ow (.list (List.replicate 11 (.bool true))), none) := by kernel_rfl
theorem f_two_6 : FF 40 "_law_two_so" [.fz (.int 6)] none = some (.ow (.list (List.replicate 11 (.bool true))), none) := by rw [← GG_eq]; exact g_two_6
end K11

set_option maxHeartbeats 0
namespace K11
open PySem PySem.Spec PyProof.Rows L2 Iv
local instance nmZ_K11VE : Iv.Nm := Iv.nmZ
local instance ctI_K11VE : Iv.Ct := ctI
theorem g_two_7 : GG 40 "_law_two_so" [.fz (.int 7)] none = some (.ow (.list (List.replicate 11 (.bool true))), none) := by kernel_rfl
theorem f_two_7 : FF 40 "_law_two_so" [.fz (.int 7)] none = some (.ow (.list (List.replicate 11 (.bool true))), none) := by rw [← GG_eq]; exact g_two_7
theorem g_two_8 : GG 40 "_law_two_so" [.fz (.int 8)] none = some (.ow (.list (List.replicate 11 (.bool true))), none) := by kernel_rfl
theorem f_two_8 : FF 40 "_law_two_so" [.fz (.int 8)] none = some (.ow (.list (List.replicate 11 (.bool true))), none) := by rw [← GG_eq]; exact g_two_8
theorem g_two_9 : GG 40 "_law_two_so" [.fz (.int 9)] none = some (.ow (.list (List.replicate 11 (.bool true))), none) := by kernel_rfl
theorem f_two_9 : FF 40 "_law_two_so" [.fz (.int 9)] none = some (.ow (.list (List.replicate 11 (.bool true))), none) := by rw [← GG_eq]; exact g_two_9
theorem g_two_10 : GG 40 "_law_two_so" [.fz (.int 10)] none = some (.ow (.list (List.replicate 11 (.bool true))), none) := by kernel_rfl
theorem f_two_10 : FF 40 "_law_two_so" [.fz (.int 10)] none = some (.ow (.list (List.replicate 11 (.bool true))), none) := by rw [← GG_eq]; exact g_two_10
end K11

set_option maxHeartbeats 4000000
namespace K11
open PySem PySem.Spec PyProof.Rows L2 Iv
local instance nmZ_K11W : Iv.Nm := Iv.nmZ
local instance ctI_K11W : Iv.Ct := ctI
theorem f_yard (u : Int) (h1 : 1 ≤ u) (h2 : u ≤ 10) : FF 40 "_law_yard_told" [.fz (.int u)] none = some (.ow (.list (List.replicate 8 (.bool true))), none) := by
  have e : FF 40 "_law_yard_told" [.fz (.int u)] none = if decide (1 ≤ u) && decide (u ≤ 10) then some (.ow (.list (List.replicate 8 (.bool true))), none) else none := by kernel_rfl
  rw [e, decide_eq_true h1, decide_eq_true h2]; rfl
theorem f_one (u : Int) (h1 : 1 ≤ u) (h2 : u ≤ 10) : FF 40 "_law_one_so" [.fz (.int u)] none = some (.ow (.list (List.replicate 14 (.bool true))), none) := by
  have : u = 1 ∨ u = 2 ∨ u = 3 ∨ u = 4 ∨ u = 5 ∨ u = 6 ∨ u = 7 ∨ u = 8 ∨ u = 9 ∨ u = 10 := by omega
  rcases this with rfl | rfl | rfl | rfl | rfl | rfl | rfl | rfl | rfl | rfl
  · exact f_one_1
  · exact f_one_2
  · exact f_one_3
  · exact f_one_4
  · exact f_one_5
  · exact f_one_6
  · exact f_one_7
  · exact f_one_8
  · exact f_one_9
  · exact f_one_10
theorem f_two (u : Int) (h1 : 1 ≤ u) (h2 : u ≤ 10) : FF 40 "_law_two_so" [.fz (.int u)] none = some (.ow (.list (List.replicate 11 (.bool true))), none) := by
  have : u = 1 ∨ u = 2 ∨ u = 3 ∨ u = 4 ∨ u = 5 ∨ u = 6 ∨ u = 7 ∨ u = 8 ∨ u = 9 ∨ u = 10 := by omega
  rcases this with rfl | rfl | rfl | rfl | rfl | rfl | rfl | rfl | rfl | rfl
  · exact f_two_1
  · exact f_two_2
  · exact f_two_3
  · exact f_two_4
  · exact f_two_5
  · exact f_two_6
  · exact f_two_7
  · exact f_two_8
  · exact f_two_9
  · exact f_two_10
theorem in_true (n : Nat) : ∀ (env : Env') (st : BSt) (f : VF), f env st = some (.list (List.replicate n (.bool true)), st) → n ≤ 20 → cmpF .In (valF (kE (.bool false))) f env st = some (false, st) := by
  intro env st f h hn
  unfold cmpF
  show (some (PyData.bool false, st)).bind _ = _
  simp only [Option.bind_some, h]
  have : n = 0 ∨ n = 1 ∨ n = 2 ∨ n = 3 ∨ n = 4 ∨ n = 5 ∨ n = 6 ∨ n = 7 ∨ n = 8 ∨ n = 9 ∨ n = 10 ∨ n = 11 ∨ n = 12 ∨ n = 13 ∨ n = 14 ∨ n = 15 ∨ n = 16 ∨ n = 17 ∨ n = 18 ∨ n = 19 ∨ n = 20 := by omega
  rcases this with rfl | rfl | rfl | rfl | rfl | rfl | rfl | rfl | rfl | rfl | rfl | rfl | rfl | rfl | rfl | rfl | rfl | rfl | rfl | rfl | rfl <;> kernel_rfl
theorem law_runs (ns : List Int) (hns : ns.length ≤ 63) : wp (tbl.F whR 60 41 "law" [.scr ns] none) fun p => p = (.fz (.bool true), none) := by
  rw [e_law]
  refine wp_run rfl ?_
  unfold m_law
  refine wp_seq ?_
  simp only [wp_frz, frzs]
  refine wp_forI (wp_range ?_)
  try simp only [frzS, frzs, frz1, retF, retS, ifS, skipS, andE, orE, notE, ifE, valF, vE, vV, kE, kV', callF, ar_nil, ar_cons, dn_fz, dn_ow, dn_bag, dn_scr, d_fz, d_ow, b_of, t_of, isiF, isD, blF, cmpF, chainF, orElse, lenS, bltF1, notT, andT, orT, tstF, l_list, l_tuple, l_all, l_listL, l_listT, l_tupL, l_tupT, l_abs, c_lt, c_le, c_gt, c_ge, c_eqI, c_neI, c_inS, c_niS, i_list, i_tuple, i_str, x_list, x_tuple, plainF, ixF, ixG, ixS, asgF, unpF, unF, setAll, List.length_cons, List.length_nil, List.map_cons, List.map_nil, if_true, if_false, List.cons_append, List.nil_append, List.append_nil, List.getElem?_cons_zero, List.getElem?_cons_succ, List.replicate, List.set_cons_zero, List.set_cons_succ, Option.bind_some, Option.map_some, Option.bind_none, Option.map_none, Bool.not_true, Bool.not_false, Bool.false_eq_true, Bool.or_false, Bool.or_true, Nat.reduceAdd, Nat.reduceSub, Nat.zero_add, decide_true, decide_false, Bool.true_and, Bool.false_and, Bool.and_true, Bool.and_false, wp_some, wp_none, wp_bind, wp_map, wp_if, binF, slF, partF, negE, y_list, y_tuple, lstF, tupF, ds_nil, ds_fz, setF, setS, appS, par2F, par3F, wp_frz, dict0, dict1, Iv.keyOf, kD, flatD, upF, revF, bltF2, swS, isiF2, lenOk_of, Nat.reduceLeDiff, b_add, b_sub, Int.reduceBEq, beq_self_eq_true, Int.reduceAdd, Int.reduceSub, blD2]
  refine ⟨_, rfl, ?_, ?_, ?_⟩
  · split <;> omega
  · split <;> omega
  generalize hn : (1 + (if (10 : Int) < (ns.length : Int) then 10 else (ns.length : Int))).toNat = n
  have hn31 : n ≤ 11 := by rw [← hn]; split <;> omega
  refine wp_fl (fun c env st => st = none ∧ ∃ z1 z2, env = [some (.scr ns), z1, z2]) ⟨rfl, _, _, rfl⟩ ?body ?rest
  case rest =>
    rintro env st ⟨rfl, z1, z2, rfl⟩
    refine wp_seq ?_
    try simp only [frzS, frzs, frz1, retF, retS, ifS, skipS, andE, orE, notE, ifE, valF, vE, vV, kE, kV', callF, ar_nil, ar_cons, dn_fz, dn_ow, dn_bag, dn_scr, d_fz, d_ow, b_of, t_of, isiF, isD, blF, cmpF, chainF, orElse, lenS, bltF1, notT, andT, orT, tstF, l_list, l_tuple, l_all, l_listL, l_listT, l_tupL, l_tupT, l_abs, c_lt, c_le, c_gt, c_ge, c_eqI, c_neI, c_inS, c_niS, i_list, i_tuple, i_str, x_list, x_tuple, plainF, ixF, ixG, ixS, asgF, unpF, unF, setAll, List.length_cons, List.length_nil, List.map_cons, List.map_nil, if_true, if_false, List.cons_append, List.nil_append, List.append_nil, List.getElem?_cons_zero, List.getElem?_cons_succ, List.replicate, List.set_cons_zero, List.set_cons_succ, Option.bind_some, Option.map_some, Option.bind_none, Option.map_none, Bool.not_true, Bool.not_false, Bool.false_eq_true, Bool.or_false, Bool.or_true, Nat.reduceAdd, Nat.reduceSub, Nat.zero_add, decide_true, decide_false, Bool.true_and, Bool.false_and, Bool.and_true, Bool.and_false, wp_some, wp_none, wp_bind, wp_map, wp_if, binF, slF, partF, negE, y_list, y_tuple, lstF, tupF, ds_nil, ds_fz, setF, setS, appS, par2F, par3F, wp_frz, dict0, dict1, Iv.keyOf, kD, flatD, upF, revF, bltF2, swS, isiF2, lenOk_of, Nat.reduceLeDiff, b_add, b_sub, Int.reduceBEq, beq_self_eq_true, Int.reduceAdd, Int.reduceSub]
  case body =>
    rintro c d env st hc ⟨rfl, z1, z2, rfl⟩
    obtain ⟨rfl, hcn⟩ := range_get hc
    refine ⟨[some (.scr ns), some (.fz (.int (c : Nat))), z2], rfl, ?_⟩
    obtain ⟨s, hb, bs⟩ := f_law_bag (k := 39) ns c (by omega)
    obtain ⟨i, s', ht, i0, i1, _⟩ := f_law_take (k := 39) 10 (by omega) (by omega) s bs
    obtain ⟨a, b⟩ := s
    have hb : tbl.F whR 60 40 "_law_bag" [.scr ns, .fz (.int (c : Nat))] none = some (.ow (.list [.int a, .int b]), none) := hb
    have ht : tbl.F whR 60 40 "_law_take" [.bag, .fz (.int 10)] (some (a, b)) = some (.fz (.int i), some s') := ht
    refine wp_seq (wp_eq (a := (.nx, [some (.scr ns), some (.fz (.int (c : Nat))), some (.fz (.int (1 + i)))], none)) ?_ ?_)
    · show frzS [0, 1] _ [some (.scr ns), some (.fz (.int (c : Nat))), z2] none = _
      have hc' : callF (tbl.F whR 60 40) "_law_bag" (argsF [vE 0, vE 1]) [some (.scr ns), some (.fz (.int (c : Nat))), z2] none = some (.ow (.list [.int a, .int b]), none) := hb
      have tk : takF (tbl.F whR 60 40) "_law_take" (callF (tbl.F whR 60 40) "_law_bag" (argsF [vE 0, vE 1])) (kE (.int 10)) [some (.scr ns), some (.fz (.int (c : Nat))), z2] none = some (.fz (.int i), none) := by
        unfold takF
        simp only [hc', kE, Option.bind_some, ht]
      have bn : binF .Add (valF (kE (.int 1))) (valF (takF (tbl.F whR 60 40) "_law_take" (callF (tbl.F whR 60 40) "_law_bag" (argsF [vE 0, vE 1])) (kE (.int 10)))) [some (.scr ns), some (.fz (.int (c : Nat))), z2] none = some (.fz (.int (1 + i)), none) := by
        simp only [binF, valF, kE, tk, Option.bind_some, Option.map_some, R.d?, b_add]
      simp only [runM, seqS, frzS, frzs, frz1, retF, retS, ifS, skipS, andE, orE, notE, ifE, valF, vE, vV, kE, kV', callF, ar_nil, ar_cons, dn_fz, dn_ow, dn_bag, dn_scr, d_fz, d_ow, b_of, t_of, isiF, isD, blF, cmpF, chainF, orElse, lenS, bltF1, notT, andT, orT, tstF, l_list, l_tuple, l_all, l_listL, l_listT, l_tupL, l_tupT, l_abs, c_lt, c_le, c_gt, c_ge, c_eqI, c_neI, c_inS, c_niS, i_list, i_tuple, i_str, x_list, x_tuple, plainF, ixF, ixG, ixS, asgF, unpF, unF, setAll, List.length_cons, List.length_nil, List.map_cons, List.map_nil, if_true, if_false, List.cons_append, List.nil_append, List.append_nil, List.getElem?_cons_zero, List.getElem?_cons_succ, List.replicate, List.set_cons_zero, List.set_cons_succ, Option.bind_some, Option.map_some, Option.bind_none, Option.map_none, Bool.not_true, Bool.not_false, Bool.false_eq_true, Bool.or_false, Bool.or_true, Nat.reduceAdd, Nat.reduceSub, Nat.zero_add, decide_true, decide_false, Bool.true_and, Bool.false_and, Bool.and_true, Bool.and_false, bn]
    · show wp _ _
      have o1 := f_one (1 + i) (by omega) (by omega)
      have o2 := f_two (1 + i) (by omega) (by omega)
      have o3 := f_yard (1 + i) (by omega) (by omega)
      unfold FF at o1 o2 o3
      have q : ∀ (x : PySem.Str) (n : Nat), n ≤ 20 → tbl.F whR 60 40 x [.fz (.int (1 + i))] none = some (.ow (.list (List.replicate n (.bool true))), none) → cmpF .In (valF (kE (.bool false))) (valF (callF (tbl.F whR 60 40) x (argsF [vE 2]))) [some (.scr ns), some (.fz (.int (c : Nat))), some (.fz (.int (1 + i)))] none = some (false, none) := fun x n hn h => by
        refine in_true n _ _ _ ?_ hn
        have h' : callF (tbl.F whR 60 40) x (argsF [vE 2]) [some (.scr ns), some (.fz (.int (c : Nat))), some (.fz (.int (1 + i)))] none = some (.ow (.list (List.replicate n (.bool true))), none) := h
        simp only [valF, h', Option.bind_some, Option.map_some, R.d?]
      have c1 := q _ 14 (by omega) o1
      have c2 := q _ 11 (by omega) o2
      have c3 := q _ 8 (by omega) o3
      refine wp_seq (wp_eq (a := (.nx, [some (.scr ns), some (.fz (.int (c : Nat))), some (.fz (.int (1 + i)))], none)) ?_ ?_)
      · show ifS _ _ _ [some (.scr ns), some (.fz (.int (c : Nat))), some (.fz (.int (1 + i)))] none = _
        simp only [ifS, orT, c1, c2, c3, Option.bind_some, Bool.false_eq_true, if_false]
        try rfl
      · exact ⟨_, rfl, rfl, _, _, rfl⟩
theorem ans (ns : List Int) (h : ns.length ≤ 63) : tbl.F whR 60 41 ("law" : PySem.Str) [.scr ns] none = some (.fz (.bool true), none) := wp_get (law_runs ns h)
end K11

set_option maxHeartbeats 4000000
namespace K11
open PySem PySem.Spec PyProof.Rows L2 Iv
local instance ctI_K11YA : Iv.Ct := ctI
variable [Nm]
/-! ### what the text says of the class and of the errors -/
abbrev yC (K : PySem.W.Frag) : Addr := He.ga K "Yard"
abbrev yM (K : PySem.W.Frag) (m : Str) : Addr := He.ma K (He.ga K "Yard") m
structure Err (K : PySem.W.Frag) (mg : Str → Option Value) (x : Str) : Prop where
  g : mg x = some (.ref (He.ga K x))
  e : PySem.W.excIn K (He.ga K x) He.veBase "ValueError.__new__" = true
  k : PySem.W.keepIn K (.ref (He.ga K x)) = true
  b : PySem.W.subIn K (.ref (He.ga K x)) (.type "BaseException") = some true
  t : PySem.W.typeIn K (.ref (He.ga K x)) = some (.type "type")
structure Txt (K : PySem.W.Frag) (mg : Str → Option Value) : Prop where
  cl : Cls K (yC K)
  nB : NoAttr K (yC K) "busy"
  nT : NoAttr K (yC K) "tubs"
  nN : NoAttr K (yC K) "now"
  nP : NoAttr K (yC K) "past"
  mgC : mg "Yard" = some (.ref (yC K))
  len : mg "len" = none
/-- a method, and how it is called -/
structure MOk (P : Program) (w : World) (K : PySem.W.Frag) (mg : Str → Option Value) (base : Heap) (CX : CXT) (k : Nat) (m : Str) (ps : List Str) (sp : Sp) : Prop where
  ex : ∃ fd, FnOk P w K mg base CX k (yM K m) fd ps sp ∧ Binds K fd ps []
  me : Meth K (yC K) m (yM K m)
theorem passN0 {X : Cx} : Passes (L2N.CX X.prog X.w) X E0 := fun _ _ _ _ _ _ _ h => by
  obtain ⟨_, _, _, _, _, _, _, _, _, _, _, _, z⟩ := h
  exact z.elim
section
variable {P : Program} {w : World} {K : PySem.W.Frag} {mg : Str → Option Value} {base : Heap}
theorem scBe : FnScope ["self", "now"] ["self", "now"] (defScope s_Y_become) := ⟨rfl, rfl, rfl, by decide +kernel, rfl, by decide +kernel, by decide +kernel⟩
theorem ok_become {f : Addr} {fd : FuncData} (U : FunD K "become" "Yard.become" (defArgs s_Y_become) (defBody s_Y_become) (defScope s_Y_become) [] [] f fd) (T : Txt K mg) : FnOk P w K mg base CX0 1 f fd ["self", "now"] (spBecome K (yC K)) := by
  refine U.ok scBe (fun vs H Q E h => ?_) (fun cdv A outer s H vs Q E hr h => ?_)
  · obtain ⟨O, b, l, t, n, ps, v', n', rfl, _⟩ := h; rfl
  · obtain ⟨O, b, l, t, n, ps, v', n', rfl, Y, hl, hv, k⟩ := h
    obtain ⟨dx, vt, vn, h1, h2, h3⟩ := Y.ob
    obtain ⟨xs, h4, h5⟩ := Y.ls
    have nbl := Y.ne
    refine ⟨_, PSs.nox (pss_cons (ps_fld (pv 0) pe_bl rfl) (pss_cons (ps_expr (pe_bm PySem.F.plainAttrs_list PySem.F.slot_list_append PySem.F.type_list_append mt_append (pe_fld (pv 0) rfl) (pa_cons (pe_fld (pv 0) rfl) pa_nil)))
      (pss_cons (ps_fld (pv 0) (pv 1) rfl) (pss_one (ps_fld (pv 0) pe_bl rfl))))), ?_⟩
    refine ⟨_, rfl, b, _, dx, _, rfl, h1, T.cl, T.nB, yf_few, ?_⟩
    rw [yf_busy_put]
    have q4 : ∀ o, upd H b o l = some (.lst xs) := fun o => by rw [upd_ne nbl.symm]; exact h4
    refine ⟨_, rfl, b, _, dx, _, _, rfl, upd_same, T.cl, T.nP, yf_past, .inl ⟨rfl, _, SqL.of (q4 _)⟩, _, rfl, b, _, dx, _, _, rfl, upd_same, T.cl, T.nN, yf_now, l, xs, _, rfl, rfl, q4 _, (by rw [h5.length]; exact small1000 (Nat.le_of_lt hl)), ?_⟩
    refine ⟨_, rfl, _, rfl, b, _, dx, _, rfl, (by rw [upd_ne nbl, upd_same]), T.cl, T.nN, yf_few, ?_⟩
    rw [yf_now_put]
    refine ⟨_, rfl, b, _, dx, _, rfl, upd_same, T.cl, T.nB, yf_few, ?_⟩
    rw [yf_busy_put]
    have m : Mv (yb b l) H (upd (upd (upd (upd H b (.ins (yC K) dx (yf true vt vn l))) l (.lst (xs ++ [vn]))) b (.ins (yC K) dx (yf true vt v' l))) b (.ins (yC K) dx (yf false vt v' l))) :=
      (((Mv.put h1 rfl (.inl rfl)).trans (Mv.put (q4 _) rfl (.inr rfl))).trans (Mv.put (by rw [upd_ne nbl, upd_same]) rfl (.inl rfl))).trans (Mv.put upd_same rfl (.inl rfl))
    have e := m.fz Y.sub
    refine k _ m ⟨⟨dx, vt, v', upd_same, h2.mono e, hv.mono e⟩, ⟨xs ++ [vn], ?_, (h5.mono e).append (.one (h3.mono e))⟩, Y.ob_, Y.ol⟩
    rw [upd_ne nbl.symm, upd_ne nbl.symm, upd_same]
def nmG : List Str := ["self", "hour", "rain", "levels", "plugs", "went"]
theorem scHo : FnScope nmG ["self"] (defScope s_Y_hour) := ⟨rfl, rfl, rfl, by decide +kernel, rfl, by decide +kernel, by decide +kernel⟩
theorem scHe : FnScope nmG ["self"] (defScope s_Y_heights) := ⟨rfl, rfl, rfl, by decide +kernel, rfl, by decide +kernel, by decide +kernel⟩
theorem scPl : FnScope nmG ["self"] (defScope s_Y_plugged) := ⟨rfl, rfl, rfl, by decide +kernel, rfl, by decide +kernel, by decide +kernel⟩
theorem five {ds : List D} (h : ds.length = 5) : ∃ a b c d e, ds = [a, b, c, d, e] := by
  match ds, h with
  | [a, b, c, d, e], _ => exact ⟨a, b, c, d, e, rfl⟩
theorem rp5 {O : Addr → Prop} {H : Hp} {v : V} {a b c d e : D} (h : Rp K (Fz O H) v (.tuple [a, b, c, d, e])) : ∃ (p : Addr) (x0 x1 x2 x3 x4 : V), v = .ref p ∧ SqT K H p [x0, x1, x2, x3, x4] ∧ Rp K (Fz O H) x0 a ∧ Rp K (Fz O H) x1 b ∧ Rp K (Fz O H) x2 c ∧ Rp K (Fz O H) x3 d ∧ Rp K (Fz O H) x4 e := by
  cases h with
  | tup h1 h2 h3 =>
    cases h2 with | cons r0 h2 => cases h2 with | cons r1 h2 => cases h2 with | cons r2 h2 => cases h2 with | cons r3 h2 => cases h2 with | cons r4 h2 =>
    cases h2
    exact ⟨_, _, _, _, _, _, rfl, sameT fz_same h1, r0, r1, r2, r3, r4⟩
theorem ok_hour {f : Addr} {fd : FuncData} (U : FunD K "hour" "Yard.hour" (defArgs s_Y_hour) (defBody s_Y_hour) (defScope s_Y_hour) [] [] f fd) (T : Txt K mg) : FnOk P w K mg base CX0 1 f fd ["self"] (spPart K (yC K) 0) := by
  refine U.ok scHo (fun vs H Q E h => ?_) (fun cdv A outer s H vs Q E hr h => ?_)
  · obtain ⟨O, b, l, t, ds, ps, d, rfl, _⟩ := h; rfl
  · obtain ⟨O, b, l, t, ds, ps, d, rfl, Y, h5, hd, k⟩ := h
    obtain ⟨d0, d1, d2, d3, d4, rfl⟩ := five h5
    obtain ⟨dx, vt, vn, h1, h2, h3⟩ := Y.ob
    obtain ⟨p, x0, x1, x2, x3, x4, rfl, hp, r0, r1, r2, r3, r4⟩ := rp5 h3
    refine ⟨_, PSs.nox (pss_cons (ps_asg (pe_fld (pv 0) rfl) (pg_tup rfl (pgs_cons (pg_name (i := 1) scHo.nd rfl (.inl rfl)) (pgs_cons (pg_name (i := 2) scHo.nd rfl (.inl rfl)) (pgs_cons (pg_name (i := 3) scHo.nd rfl (.inl rfl)) (pgs_cons (pg_name (i := 4) scHo.nd rfl (.inl rfl)) (pgs_cons (pg_name (i := 5) scHo.nd rfl (.inl rfl)) pgs_nil))))))) (pss_one (ps_ret (pv 1)))), ?_⟩
    refine ⟨_, rfl, b, _, dx, _, _, rfl, h1, T.cl, T.nN, yf_now, p, _, rfl, hp, rfl, _, _, rfl, _, _, rfl, _, _, rfl, _, _, rfl, _, _, rfl, rfl, _, rfl, ?_⟩
    cases hd
    exact k _ r0
theorem ok_heights {f : Addr} {fd : FuncData} (U : FunD K "heights" "Yard.heights" (defArgs s_Y_heights) (defBody s_Y_heights) (defScope s_Y_heights) [] [] f fd) (T : Txt K mg) : FnOk P w K mg base CX0 1 f fd ["self"] (spPart K (yC K) 2) := by
  refine U.ok scHe (fun vs H Q E h => ?_) (fun cdv A outer s H vs Q E hr h => ?_)
  · obtain ⟨O, b, l, t, ds, ps, d, rfl, _⟩ := h; rfl
  · obtain ⟨O, b, l, t, ds, ps, d, rfl, Y, h5, hd, k⟩ := h
    obtain ⟨d0, d1, d2, d3, d4, rfl⟩ := five h5
    obtain ⟨dx, vt, vn, h1, h2, h3⟩ := Y.ob
    obtain ⟨p, x0, x1, x2, x3, x4, rfl, hp, r0, r1, r2, r3, r4⟩ := rp5 h3
    refine ⟨_, PSs.nox (pss_cons (ps_asg (pe_fld (pv 0) rfl) (pg_tup rfl (pgs_cons (pg_name (i := 1) scHe.nd rfl (.inl rfl)) (pgs_cons (pg_name (i := 2) scHe.nd rfl (.inl rfl)) (pgs_cons (pg_name (i := 3) scHe.nd rfl (.inl rfl)) (pgs_cons (pg_name (i := 4) scHe.nd rfl (.inl rfl)) (pgs_cons (pg_name (i := 5) scHe.nd rfl (.inl rfl)) pgs_nil))))))) (pss_one (ps_ret (pv 3)))), ?_⟩
    refine ⟨_, rfl, b, _, dx, _, _, rfl, h1, T.cl, T.nN, yf_now, p, _, rfl, hp, rfl, _, _, rfl, _, _, rfl, _, _, rfl, _, _, rfl, _, _, rfl, rfl, _, rfl, ?_⟩
    cases hd
    exact k _ r2
theorem ok_plugged {f : Addr} {fd : FuncData} (U : FunD K "plugged" "Yard.plugged" (defArgs s_Y_plugged) (defBody s_Y_plugged) (defScope s_Y_plugged) [] [] f fd) (T : Txt K mg) : FnOk P w K mg base CX0 1 f fd ["self"] (spPart K (yC K) 3) := by
  refine U.ok scPl (fun vs H Q E h => ?_) (fun cdv A outer s H vs Q E hr h => ?_)
  · obtain ⟨O, b, l, t, ds, ps, d, rfl, _⟩ := h; rfl
  · obtain ⟨O, b, l, t, ds, ps, d, rfl, Y, h5, hd, k⟩ := h
    obtain ⟨d0, d1, d2, d3, d4, rfl⟩ := five h5
    obtain ⟨dx, vt, vn, h1, h2, h3⟩ := Y.ob
    obtain ⟨p, x0, x1, x2, x3, x4, rfl, hp, r0, r1, r2, r3, r4⟩ := rp5 h3
    refine ⟨_, PSs.nox (pss_cons (ps_asg (pe_fld (pv 0) rfl) (pg_tup rfl (pgs_cons (pg_name (i := 1) scPl.nd rfl (.inl rfl)) (pgs_cons (pg_name (i := 2) scPl.nd rfl (.inl rfl)) (pgs_cons (pg_name (i := 3) scPl.nd rfl (.inl rfl)) (pgs_cons (pg_name (i := 4) scPl.nd rfl (.inl rfl)) (pgs_cons (pg_name (i := 5) scPl.nd rfl (.inl rfl)) pgs_nil))))))) (pss_one (ps_ret (pv 4)))), ?_⟩
    refine ⟨_, rfl, b, _, dx, _, _, rfl, h1, T.cl, T.nN, yf_now, p, _, rfl, hp, rfl, _, _, rfl, _, _, rfl, _, _, rfl, _, _, rfl, _, _, rfl, rfl, _, rfl, ?_⟩
    cases hd
    exact k _ r3
end
end K11

set_option maxHeartbeats 4000000
namespace K11
open PySem PySem.Spec PyProof.Rows L2 Iv
local instance ctI_K11YB : Iv.Ct := ctI
variable [Nm]
section
variable {P : Program} {w : World} {K : PySem.W.Frag} {mg : Str → Option Value} {base : Heap} {F : FT} {j : Nat}
theorem scRf : FnScope ["tubs", "thing"] ["tubs", "thing"] (defScope s_refuse_no_hole) := ⟨rfl, rfl, rfl, by decide +kernel, rfl, by decide +kernel, by decide +kernel⟩
/-- the test: if not f(..), f a plain def that tells True or False -/
theorem ite_not {c : Bool} {A B : Prop} (h1 : c = false → A) (h2 : c = true → B) : if (!c) = true then A else B := by
  cases c with
  | false => exact h1 rfl
  | true => exact h2 rfl
theorem rp_bl {O : Addr → Prop} {H : Hp} {v : V} {c : Bool} (h : Rp K (Fz O H) v (.bool c)) : v = .bl c := by cases h; rfl
theorem ok_refuse {f : Addr} {fd : FuncData} (G : Glb P w K mg base tbl.gl F j) (U : FunD K "refuse_no_hole" "refuse_no_hole" (defArgs s_refuse_no_hole) (defBody s_refuse_no_hole) (defScope s_refuse_no_hole) [] [] f fd) (e : Err K mg "NoHole") : FnOk P w K mg base (L2N.CX P w) (j + 1) f fd ["tubs", "thing"] (spRefuse K F) := by
  refine U.ok scRf (fun vs H Q E h => ?_) (fun cdv A outer s H vs Q E hr h => ?_)
  · obtain ⟨O, vt, vh, t, h, c, rfl, _⟩ := h; rfl
  · obtain ⟨O, vt, vh, t, h, c, rfl, wd, ht, hh, hF, kf, kt⟩ := h
    refine ⟨_, pss_one (ps_if (pt_not (pt_val (pe_pure G hr rfl rfl (pa_cons (pv 0) (pa_cons (pv 1) pa_nil))) (fun _ => rfl)))
      (pss_one (L2N.ps_raise rfl (L2N.takes_of rfl rfl rfl rfl) (L2N.pmk_own PySem.F.excBase_ValueError e.e e.g e.k (raises_own e.b e.t) rfl))) pss_nil), ?_⟩
    refine ⟨_, rfl, _, rfl, O, [t, h], _, .cons ht (.cons hh .nil), wd, hF, fun v H2 sb rs => ⟨c, rp_bl rs, ?_⟩⟩
    exact ite_not (fun z => kf z H2 sb) fun z => kt z H2 sb
end
end K11

set_option maxHeartbeats 4000000
namespace K11
open PySem PySem.Spec PyProof.Rows L2 Iv
local instance ctI_K11YC : Iv.Ct := ctI
variable [Nm]
section
variable {P : Program} {w : World} {K : PySem.W.Frag} {mg : Str → Option Value} {base : Heap} {F : FT} {j : Nat}
theorem scRa : FnScope ["self", "rain"] ["self", "rain"] (defScope s_Y_set_rain) := ⟨rfl, rfl, rfl, by decide +kernel, rfl, by decide +kernel, by decide +kernel⟩
theorem ok_rain {f : Addr} {fd : FuncData} (G : Glb P w K mg base tbl.gl F j) (hj : 1 ≤ j) (U : FunD K "set_rain" "Yard.set_rain" (defArgs s_Y_set_rain) (defBody s_Y_set_rain) (defScope s_Y_set_rain) [] [] f fd) (T : Txt K mg) (e : Err K mg "NoRain") (B : MOk P w K mg base CX0 1 "become" ["self", "now"] (spBecome K (yC K))) :
    FnOk P w K mg base (L2N.CX P w) (j + 1) f fd ["self", "rain"] (spRain K (yC K) F) := by
  obtain ⟨⟨fdB, GB, bB⟩, mB⟩ := B
  refine U.ok scRa (fun vs H Q E h => ?_) (fun cdv A outer s H vs Q E hr h => ?_)
  · obtain ⟨O, b, l, t, n, ps, v, d, c, rfl, _⟩ := h; rfl
  · obtain ⟨O, b, l, t, n, ps, v, d, c, rfl, Y, hl, wd, hv, hF, kf, kt⟩ := h
    obtain ⟨dx, vt, vn, h1, h2, h3⟩ := Y.ob
    refine ⟨_, pss_cons (ps_if (pt_not (pt_val (pe_pure G hr rfl rfl (pa_cons (pe_fld (pv 0) rfl) (pa_cons (pv 1) pa_nil))) (fun _ => rfl)))
      (pss_one (L2N.ps_raise rfl (L2N.takes_of rfl rfl rfl rfl) (L2N.pmk_own PySem.F.excBase_ValueError e.e e.g e.k (raises_own e.b e.t) rfl))) pss_nil)
      (pss_one (ps_expr (pe_meth (E := E0) (pv 0) T.cl mB GB (hr.mono hj) bB .nil pass0 (pa_cons (pe_pure G hr rfl rfl (pa_cons (pe_fld (pv 0) rfl) (pa_cons (pv 1) pa_nil))) pa_nil)))), ?_⟩
    refine ⟨_, rfl, b, _, dx, _, _, rfl, h1, T.cl, T.nT, yf_tubs, _, rfl, O, [t, d], _, .cons h2 (.cons hv .nil), wd, hF, fun v2 H2 sb rs => ⟨c, rp_bl rs, ?_⟩⟩
    refine ite_not (fun z => kf z H2 sb) fun z => ?_
    obtain ⟨n', hF', k⟩ := kt z
    have Y2 := Y.sb sb
    have wd2 := wd.sb sb
    obtain ⟨dx', vt', vn', g1, g2, g3⟩ := Y2.ob
    have e2 := (sb.mv (M := fun _ => False)).fz (O := O) fun _ z => z.elim
    refine ⟨_, rfl, b, dx', _, rfl, g1, yf_no (by decide +kernel), _, rfl, b, _, dx', _, _, rfl, g1, T.cl, T.nN, yf_now, _, rfl, O, [n, d], _, .cons g3 (.cons (hv.mono e2) .nil), wd2, hF', fun v3 H3 sb3 rs3 => ?_⟩
    exact ⟨O, b, l, t, n, ps, v3, n', rfl, Y2.sb sb3, hl, rs3, fun H4 m4 Y4 => k H4 ((sb.mv.trans sb3.mv).trans m4) Y4⟩
theorem scGo : FnScope ["self", "hours"] ["self", "hours"] (defScope s_Y_go_on) := ⟨rfl, rfl, rfl, by decide +kernel, rfl, by decide +kernel, by decide +kernel⟩
theorem ok_goOn {f : Addr} {fd : FuncData} (G : Glb P w K mg base tbl.gl F j) (hj : 1 ≤ j) (U : FunD K "go_on" "Yard.go_on" (defArgs s_Y_go_on) (defBody s_Y_go_on) (defScope s_Y_go_on) [] [] f fd) (T : Txt K mg) (e : Err K mg "NoHours") (B : MOk P w K mg base CX0 1 "become" ["self", "now"] (spBecome K (yC K))) :
    FnOk P w K mg base (L2N.CX P w) (j + 1) f fd ["self", "hours"] (spGoOn K (yC K) F) := by
  obtain ⟨⟨fdB, GB, bB⟩, mB⟩ := B
  obtain ⟨vm, um, hm, rm, pm⟩ := G.cst "MOST_HOURS" (.int 1000) rfl
  refine U.ok scGo (fun vs H Q E h => ?_) (fun cdv A outer s H vs Q E hr h => ?_)
  · obtain ⟨O, b, l, t, n, ps, v, d, c, rfl, _⟩ := h; rfl
  · obtain ⟨O, b, l, t, n, ps, v, d, c, rfl, Y, hl, wd, hv, hF, kf, kt⟩ := h
    obtain ⟨dx, vt, vn, h1, h2, h3⟩ := Y.ob
    refine ⟨_, pss_cons (ps_if (pt_not (pt_val (pe_pure G hr rfl rfl (pa_cons (pv 1) (pa_cons pe_int (pa_cons (pe_glob rfl hm rm) pa_nil)))) (fun _ => rfl)))
      (pss_one (L2N.ps_raise rfl (L2N.takes_of rfl rfl rfl rfl) (L2N.pmk_own PySem.F.excBase_ValueError e.e e.g e.k (raises_own e.b e.t) rfl))) pss_nil)
      (pss_one (ps_expr (pe_meth (E := E0) (pv 0) T.cl mB GB (hr.mono hj) bB .nil pass0 (pa_cons (pe_pure G hr rfl rfl (pa_cons (pe_fld (pv 0) rfl) (pa_cons (pe_fld (pv 0) rfl) (pa_cons (pv 1) pa_nil)))) pa_nil)))), ?_⟩
    refine ⟨_, rfl, O, [d, .int 1, .int 1000], _, .cons hv (.cons (.int _) (.cons (pm _) .nil)), wd, hF, fun v2 H2 sb rs => ⟨c, rp_bl rs, ?_⟩⟩
    refine ite_not (fun z => kf z H2 sb) fun z => ?_
    obtain ⟨n', hF', k⟩ := kt z
    have Y2 := Y.sb sb
    have wd2 := wd.sb sb
    obtain ⟨dx', vt', vn', g1, g2, g3⟩ := Y2.ob
    have e2 := (sb.mv (M := fun _ => False)).fz (O := O) fun _ z => z.elim
    refine ⟨_, rfl, b, dx', _, rfl, g1, yf_no (by decide +kernel), _, rfl, b, _, dx', _, _, rfl, g1, T.cl, T.nT, yf_tubs, _, rfl, b, _, dx', _, _, rfl, g1, T.cl, T.nN, yf_now, _, rfl, O, [t, n, d], _, .cons g2 (.cons g3 (.cons (hv.mono e2) .nil)), wd2, hF', fun v3 H3 sb3 rs3 => ?_⟩
    exact ⟨O, b, l, t, n, ps, v3, n', rfl, Y2.sb sb3, hl, rs3, fun H4 m4 Y4 => k H4 ((sb.mv.trans sb3.mv).trans m4) Y4⟩
theorem ifF {c : Bool} {A B : Prop} (hc : c = false) (h : B) : if c = true then A else B := by subst hc; exact h
theorem ifT {c : Bool} {A B : Prop} (hc : c = true) (h : A) : if c = true then A else B := by subst hc; exact h
theorem scBk : FnScope ["self"] ["self"] (defScope s_Y_back) := ⟨rfl, rfl, rfl, by decide +kernel, rfl, by decide +kernel, by decide +kernel⟩
theorem rpAll_snoc {O : Addr → Prop} {H : Hp} : ∀ {xs : List V} {ds : List D} {d : D}, RpAll K (Fz O H) xs (ds ++ [d]) → ∃ ys y, xs = ys ++ [y] ∧ RpAll K (Fz O H) ys ds ∧ Rp K (Fz O H) y d
  | _, [], d, h => by
    cases h with | cons a b => cases b; exact ⟨[], _, rfl, .nil, a⟩
  | _, d' :: ds, d, h => by
    cases h with
    | cons a b =>
      obtain ⟨ys, y, rfl, h1, h2⟩ := rpAll_snoc b
      exact ⟨_ :: ys, y, rfl, .cons a h1, h2⟩
theorem ok_back {f : Addr} {fd : FuncData} (U : FunD K "back" "Yard.back" (defArgs s_Y_back) (defBody s_Y_back) (defScope s_Y_back) [] [] f fd) (T : Txt K mg) (e : Err K mg "NothingLeft") : FnOk P w K mg base (L2N.CX P w) 1 f fd ["self"] (spBack K (yC K)) := by
  refine U.ok scBk (fun vs H Q E h => ?_) (fun cdv A outer s H vs Q E hr h => ?_)
  · obtain ⟨O, b, l, t, n, ps, rfl, _⟩ := h; rfl
  · obtain ⟨O, b, l, t, n, ps, rfl, Y, wd, kf, kt⟩ := h
    obtain ⟨dx, vt, vn, h1, h2, h3⟩ := Y.ob
    obtain ⟨xs, h4, h5⟩ := Y.ls
    have nbl := Y.ne
    refine ⟨_, pss_cons (ps_if (pt_cmpR op_eq (pe_callB call_len_seq (by rfl) T.len PySem.boot_len (pa_cons (pe_fld (pv 0) rfl) pa_nil)) pe_int (nomark _))
      (pss_one (L2N.ps_raise rfl (L2N.takes_of rfl rfl rfl rfl) (L2N.pmk_own PySem.F.excBase_ValueError e.e e.g e.k (raises_own e.b e.t) rfl))) pss_nil)
      (pss_cons (ps_fld (pv 0) pe_bl rfl) (pss_cons (ps_fld (pv 0) (pe_bm0 PySem.F.plainAttrs_list PySem.F.slot_list_pop PySem.F.type_list_pop mt_pop (pe_fld (pv 0) rfl)) rfl) (pss_one (ps_fld (pv 0) pe_bl rfl)))), ?_⟩
    refine ⟨_, rfl, b, _, dx, _, _, rfl, h1, T.cl, T.nP, yf_past, l, xs, rfl, .inl (SqL.of h4), rfl, _, rfl, ?_⟩
    rcases List.eq_nil_or_concat ps with hps | ⟨qs, n', hps⟩
    · subst hps
      cases h5
      exact iteT (kf rfl)
    · rw [List.concat_eq_append] at hps
      subst hps
      obtain ⟨ys, y, rfl, h6, h7⟩ := rpAll_snoc h5
      have hd : decide (V.int (((ys ++ [y]).length : Nat) : Int) = V.int 0) = false := decide_eq_false fun z => by
        have z : (((ys ++ [y]).length : Nat) : Int) = 0 := V.int.inj z
        rw [List.length_append, List.length_singleton] at z
        omega
      refine ifF hd ?_
      refine ⟨_, rfl, b, _, dx, _, rfl, h1, T.cl, T.nB, yf_few, ?_⟩
      rw [yf_busy_put]
      have q4 : ∀ o, upd H b o l = some (.lst (ys ++ [y])) := fun o => by rw [upd_ne nbl.symm]; exact h4
      refine ⟨_, rfl, b, _, dx, _, _, rfl, upd_same, T.cl, T.nP, yf_past, .inl ⟨rfl, _, SqL.of (q4 _)⟩, l, _, y, rfl, rfl, q4 _, (by simp), ?_⟩
      refine ⟨_, rfl, b, _, dx, _, rfl, (by rw [upd_ne nbl, upd_same]), T.cl, T.nN, yf_few, ?_⟩
      rw [yf_now_put]
      refine ⟨_, rfl, b, _, dx, _, rfl, upd_same, T.cl, T.nB, yf_few, ?_⟩
      rw [yf_busy_put]
      have m : Mv (yb b l) H (upd (upd (upd (upd H b (.ins (yC K) dx (yf true vt vn l))) l (.lst (ys ++ [y]).dropLast)) b (.ins (yC K) dx (yf true vt y l))) b (.ins (yC K) dx (yf false vt y l))) :=
        (((Mv.put h1 rfl (.inl rfl)).trans (Mv.put (q4 _) rfl (.inr rfl))).trans (Mv.put (by rw [upd_ne nbl, upd_same]) rfl (.inl rfl))).trans (Mv.put upd_same rfl (.inl rfl))
      have e := m.fz Y.sub
      refine kt qs n' rfl _ m ⟨⟨dx, vt, y, upd_same, h2.mono e, h7.mono e⟩, ⟨ys, ?_, h6.mono e⟩, Y.ob_, Y.ol⟩
      rw [upd_ne nbl.symm, upd_ne nbl.symm, upd_same]
      simp
end
end K11

set_option maxHeartbeats 4000000
namespace K11
open PySem PySem.Spec PyProof.Rows L2 Iv
local instance ctI_K11YD : Iv.Ct := ctI
variable [Nm]
theorem passAtN {X : Cx} {W : WX} (tk : L2N.Takes X W) (σ : L2.St) : PassesAt (L2N.CX X.prog X.w) X σ (WE W σ) := fun _ _ _ e s' I c => tk e s' (L2N.XE.of_call I (fun _ _ _ h => h) c)
abbrev f1 (b : Bool) : List (Str × V) := [("busy", .bl b)]
abbrev f2 (b : Bool) (t : V) : List (Str × V) := [("busy", .bl b), ("tubs", t)]
abbrev f3 (b : Bool) (t n : V) : List (Str × V) := [("busy", .bl b), ("tubs", t), ("now", n)]
theorem pf1 {b : Bool} : putF "busy" (.bl b) [] = f1 b := by kernel_rfl
theorem pf2 {b : Bool} {t : V} : putF "tubs" t (f1 b) = f2 b t := by kernel_rfl
theorem pf3 {b : Bool} {t n : V} : putF "now" n (f2 b t) = f3 b t n := by kernel_rfl
theorem pf4 {b : Bool} {t n : V} {l : Addr} : putF "past" (.ref l) (f3 b t n) = yf b t n l := by kernel_rfl
section
variable {P : Program} {w : World} {K : PySem.W.Frag} {mg : Str → Option Value} {base : Heap} {F : FT} {j : Nat}
theorem scIn : FnScope ["self", "tubs"] ["self", "tubs"] (defScope s_Y___init__) := ⟨rfl, rfl, rfl, by decide +kernel, rfl, by decide +kernel, by decide +kernel⟩
theorem ok_init {f : Addr} {fd : FuncData} (G : Glb P w K mg base tbl.gl F j) (U : FunD K "__init__" "Yard.__init__" (defArgs s_Y___init__) (defBody s_Y___init__) (defScope s_Y___init__) [] [] f fd) (T : Txt K mg) (e : Err K mg "NoTubs") :
    FnOk P w K mg base (L2N.CX P w) (j + 1) f fd ["self", "tubs"] (spInit K (yC K) F) := by
  refine U.ok scIn (fun vs H Q E h => ?_) (fun cdv A outer s H vs Q E hr h => ?_)
  · obtain ⟨O, x, dx, vt, t, c, rfl, _⟩ := h; rfl
  · obtain ⟨O, x, dx, vt, t, c, rfl, hx, nx, wd, ht, hF, kf, kt⟩ := h
    refine ⟨_, pss_cons (ps_if (pt_not (pt_val (pe_pure G hr rfl rfl (pa_cons (pv 1) pa_nil)) (fun _ => rfl)))
      (pss_one (L2N.ps_raise rfl (L2N.takes_of rfl rfl rfl rfl) (L2N.pmk_own PySem.F.excBase_ValueError e.e e.g e.k (raises_own e.b e.t) rfl))) pss_nil)
      (pss_cons (ps_fld (pv 0) pe_bl rfl) (pss_cons (ps_fld (pv 0) (pv 1) rfl) (pss_cons (ps_fld (pv 0) (pe_pure G hr rfl rfl (pa_cons (pv 1) pa_nil)) rfl) (pss_one (ps_fld (pv 0) (pe_lst pa_nil) rfl))))), ?_⟩
    refine ⟨_, rfl, O, [t], _, .cons ht .nil, wd, hF, fun v2 H2 sb rs => ⟨c, rp_bl rs, ?_⟩⟩
    refine ite_not (fun z => kf z H2 sb) fun z => ?_
    obtain ⟨n, hF', k⟩ := kt z
    have hx2 := sb.go x _ (fun z => by cases z) rfl hx
    have ht2 : Rp K (Fz O H2) vt t := ht.mono ((sb.mv (M := fun _ => False)).fz fun _ z => z.elim)
    have ht2' := ht2.avoidIns hx2
    have wd2 : Wd (orO O x) H2 := (wd.sb sb).add ⟨_, hx2, rfl⟩
    refine ⟨_, rfl, x, _, dx, _, rfl, hx2, T.cl, T.nB, (by show 0 < 1000; decide), ?_⟩
    rw [pf1]
    refine ⟨_, rfl, _, rfl, x, _, dx, _, rfl, upd_same, T.cl, T.nT, (by show 1 < 1000; decide), ?_⟩
    rw [pf2]
    have m3 : Mv (fun a => a = x) H2 (upd (upd H2 x (.ins (yC K) dx (f1 false))) x (.ins (yC K) dx (f2 false vt))) := (Mv.put (M := fun a => a = x) hx2 rfl rfl).trans (Mv.put (M := fun a => a = x) upd_same rfl rfl)
    have hx3 : upd (upd H2 x (.ins (yC K) dx (f1 false))) x (.ins (yC K) dx (f2 false vt)) x = some (.ins (yC K) dx (f2 false vt)) := upd_same
    have wd3 : Wd (orO O x) (upd (upd H2 x (.ins (yC K) dx (f1 false))) x (.ins (yC K) dx (f2 false vt))) := (wd2.put hx2 rfl rfl).put upd_same rfl rfl
    generalize upd (upd H2 x (.ins (yC K) dx (f1 false))) x (.ins (yC K) dx (f2 false vt)) = H3 at m3 hx3 wd3
    have ht3 := ht2'.mono (m3.fz fun a z => .inr z)
    refine ⟨_, rfl, orO O x, [t], _, .cons ht3 .nil, wd3, hF', fun v4 H4 sb4 rs4 => ?_⟩
    have hx4 := sb4.go x _ (fun z => by cases z) rfl hx3
    have wd4 := wd3.sb sb4
    have ht4 := ht3.mono ((sb4.mv (M := fun _ => False)).fz fun _ z => z.elim)
    refine ⟨_, rfl, x, _, dx, _, rfl, hx4, T.cl, T.nN, (by show 2 < 1000; decide), ?_⟩
    rw [pf3]
    refine ⟨Nat.zero_le _, fun l hl => ?_⟩
    have hl4 : H4 l = none := by
      by_cases q : l = x
      · rw [q, upd_same] at hl; cases hl
      · rw [upd_ne q] at hl; exact hl
    have nlx : l ≠ x := fun q => by rw [q, hx4] at hl4; cases hl4
    refine ⟨_, rfl, x, _, dx, _, rfl, (by rw [upd_ne nlx.symm, upd_same]), T.cl, T.nP, (by show 3 < 1000; decide), ?_⟩
    rw [pf4]
    have m4 : Mv (fun a => a = x) H4 (upd (upd (upd H4 x (.ins (yC K) dx (f3 false vt v4))) l (.lst [])) x (.ins (yC K) dx (yf false vt v4 l))) :=
      ((Mv.put (M := fun a => a = x) hx4 rfl rfl).trans (Mv.laid hl)).trans (Mv.put (M := fun a => a = x) (by rw [upd_ne nlx.symm, upd_same]) rfl rfl)
    have e4 := fun (v : V) (d : D) (h : Rp K (Fz (orO O x) H4) v d) => h.mono ((fz_new (x := l) hl4 fun a o na t e => m4.go a o (fun z => na (.inr z)) t e))
    refine k l _ (sb.dm l (fun z => by cases z) (m3.dm l (sb4.dm l (fun z => by cases z) hl4))) (((sb.mv.trans m3).trans sb4.mv).trans m4) ⟨⟨dx, vt, v4, upd_same, e4 _ _ ht4, e4 _ _ rs4⟩, ⟨[], ?_, .nil⟩, .inl (.inr rfl), .inr rfl⟩
    rw [upd_ne nlx, upd_same]
/-- the def that refuses, and how it is called -/
structure ROk (P : Program) (w : World) (K : PySem.W.Frag) (mg : Str → Option Value) (base : Heap) (F : FT) (k : Nat) : Prop where
  ex : ∃ f fd, mg "refuse_no_hole" = some (.ref f) ∧ PySem.W.keepIn K (.ref f) = true ∧ FnOk P w K mg base (L2N.CX P w) k f fd ["tubs", "thing"] (spRefuse K F) ∧ Binds K fd ["tubs", "thing"] []
theorem scPg : FnScope ["self", "hole"] ["self", "hole"] (defScope s_Y_plug) := ⟨rfl, rfl, rfl, by decide +kernel, rfl, by decide +kernel, by decide +kernel⟩
theorem ok_plug {f : Addr} {fd : FuncData} (G : Glb P w K mg base tbl.gl F j) (U : FunD K "plug" "Yard.plug" (defArgs s_Y_plug) (defBody s_Y_plug) (defScope s_Y_plug) [] [] f fd) (T : Txt K mg) (e : Err K mg "Plugged") (R : ROk P w K mg base F (j + 1))
    (B : MOk P w K mg base CX0 1 "become" ["self", "now"] (spBecome K (yC K))) (Pg : MOk P w K mg base CX0 1 "plugged" ["self"] (spPart K (yC K) 3)) :
    FnOk P w K mg base (L2N.CX P w) (j + 2) f fd ["self", "hole"] (spPlug K (yC K) F) := by
  obtain ⟨⟨fdB, GB, bB⟩, mB⟩ := B
  obtain ⟨⟨fdP, GP, bP⟩, mP⟩ := Pg
  obtain ⟨fR, fdR, gR, kR, GR, bR⟩ := R
  refine U.ok scPg (fun vs H Q E h => ?_) (fun cdv A outer s H vs Q E hr h => ?_)
  · obtain ⟨O, b, l, t, d0, d1, d2, d4, pl, ps, v, h, c, rfl, _⟩ := h; rfl
  · obtain ⟨O, b, l, t, d0, d1, d2, d4, pl, ps, v, h, c, rfl, Y, hl, wd, hv, hF, kf, kt⟩ := h
    obtain ⟨dx, vt, vn, h1, h2, h3⟩ := Y.ob
    have hr1 := hr.mono (Nat.succ_le_succ (Nat.zero_le j))
    have hr0 := hr.mono (Nat.le_succ j)
    refine ⟨_, pss_cons (ps_expr (pe_callS GR hr rfl gR kR bR (fun σ => passAtN (L2N.takes_of rfl rfl rfl rfl) σ) (pa_cons (pe_fld (pv 0) rfl) (pa_cons (pv 1) pa_nil))))
      (pss_cons (ps_if (pt_cmpR (wo_op _ _) (pv 1) (pe_meth0 (E := E0) (pv 0) T.cl mP GP hr1 bP .nil pass0) rfl)
        (pss_one (L2N.ps_raise rfl (L2N.takes_of rfl rfl rfl rfl) (L2N.pmk_own PySem.F.excBase_ValueError e.e e.g e.k (raises_own e.b e.t) rfl))) pss_nil)
      (pss_one (ps_expr (pe_meth (E := E0) (pv 0) T.cl mB GB hr1 bB .nil pass0 (pa_cons (pe_pure G hr0 rfl rfl (pa_cons (pe_fld (pv 0) rfl) (pa_cons (pe_op (wo_op _ _) (pe_meth0 (E := E0) (pv 0) T.cl mP GP hr1 bP .nil pass0) (pe_tup (pa_cons (pv 1) pa_nil))) pa_nil))) pa_nil))))), ?_⟩
    refine ⟨_, rfl, b, _, dx, _, _, rfl, h1, T.cl, T.nT, yf_tubs, _, rfl, O, _, _, t, h, c, rfl, wd, h2, hv, hF, fun z H2 sb => kf z H2 sb, fun z H2 sb => ?_⟩
    obtain ⟨i, hi, k1, k2⟩ := kt z
    have Y2 := Y.sb sb
    have wd2 := wd.sb sb
    have hv2 := hv.mono ((sb.mv (M := fun _ => False)).fz (O := O) fun _ z => z.elim)
    obtain ⟨dx', vt', vn', g1, g2, g3⟩ := Y2.ob
    refine ⟨_, rfl, _, rfl, b, dx', _, rfl, g1, yf_no (by decide +kernel), O, b, l, t, _, ps, _, rfl, Y2, rfl, rfl, fun vp rp => ?_⟩
    have hu : (A.deeper (envOfC "Yard.plug" (defScope s_Y_plug) s.heap.objs.size f cdv)).units + 65 < cLine := by have := hr.un; omega
    refine cmpD_ok (β := none) hu hi (top_of_rp (fun b z => by cases z) hv2) (top_of_rp (fun b z => by cases z) rp) ⟨i, rfl, ?_⟩
    cases i with
    | true => exact iteT (k1 rfl H2 sb)
    | false =>
      refine iteF ?_
      obtain ⟨hpl, n', hF', k⟩ := k2 rfl
      refine ⟨_, rfl, b, dx', _, rfl, g1, yf_no (by decide +kernel), _, rfl, b, _, dx', _, _, rfl, g1, T.cl, T.nN, yf_now, _, rfl, b, dx', _, rfl, g1, yf_no (by decide +kernel), O, b, l, t, _, ps, _, rfl, Y2, rfl, rfl, fun vp' rp' => ?_⟩
      refine ⟨_, rfl, (by show 1 ≤ sizeLine; rw [sizeLine_eq]; omega), fun p hp => ?_⟩
      have sbp : SB none H2 (upd H2 p (.tup [v])) := SB.laid hp
      have np : ¬ O p := fun z => wd2.nn p z hp
      have tup : Rp K (Fz O (upd H2 p (.tup [v]))) (.ref p) (.tuple [h]) := by
        have q := fz_put (O := O) np (upd_same (H := H2) (a := p) (o := .tup [v])) rfl
        exact .tup (SqT.of q) (.one (hv2.mono ((sbp.mv (M := fun _ => False)).fz fun _ z => z.elim))) (.inl q)
      have wd3 := wd2.sb sbp
      have Y3 := Y2.sb sbp
      have rp3 := rp'.mono ((sbp.mv (M := fun _ => False)).fz (O := O) fun _ z => z.elim)
      generalize upd H2 p (.tup [v]) = H3 at sbp tup wd3 Y3 rp3
      have hb : binD .Add (.tuple pl) (.tuple [h]) = some (.fz (.tuple (pl ++ [h]))) := by
        show (if lenOk _ then _ else _) = _
        have : lenOk (pl.length + [h].length) = true := decide_eq_true hpl
        rw [this]; rfl
      refine binD_ok (β := none) (O := O) wd3.nn (fun b z => by cases z) hb (top_of_rp (fun b z => by cases z) rp3) (top_of_rp (fun b z => by cases z) tup) fun v4 H4 sm rs4 => ?_
      have sb4 : SB none H3 H4 := same_sb sm
      have g3' := (g3.mono ((sbp.mv (M := fun _ => False)).fz (O := O) fun _ z => z.elim)).mono ((sb4.mv (M := fun _ => False)).fz (O := O) fun _ z => z.elim)
      refine ⟨O, [_, _], _, .cons g3' (.cons rs4 .nil), wd3.sb sb4, hF', fun v5 H5 sb5 rs5 => ?_⟩
      exact ⟨O, b, l, t, _, ps, v5, n', rfl, (Y3.sb sb4).sb sb5, hl, rs5, fun H6 m6 Y6 => k H6 ((((sb.mv.trans sbp.mv).trans sb4.mv).trans sb5.mv).trans m6) Y6⟩
end
end K11

set_option maxHeartbeats 4000000
namespace K11
open PySem PySem.Spec PyProof.Rows L2 Iv
local instance ctI_K11YE : Iv.Ct := ctI
variable [Nm]
section
variable {C : Addr} {K : PySem.W.Frag} {O : Addr → Prop} {H H' : Hp} {b l : Addr} {t n : D} {ps : List D}
/-- the yard beside a new place that is owned -/
theorem yard_new {x : Addr} (y : YardAt C K O H b l t n ps) (hx : H x = none) (m : ∀ a o, a ≠ x → isTbl o = false → H a = some o → H' a = some o) : YardAt C K (orO O x) H' b l t n ps := by
  obtain ⟨dx, vt, vn, h1, h2, h3⟩ := y.ob
  obtain ⟨xs, h4, h5⟩ := y.ls
  have ne : ∀ {a o}, H a = some o → a ≠ x := fun e z => by rw [z, hx] at e; cases e
  have e : Same (Fz O H) (Fz (orO O x) H') := fz_new hx fun a o _ t e => m a o (ne e) t e
  exact ⟨⟨dx, vt, vn, m _ _ (ne h1) rfl h1, h2.mono e, h3.mono e⟩, ⟨xs, m _ _ (ne h4) rfl h4, h5.mono e⟩, .inl y.ob_, .inl y.ol⟩
end
/-- what is summed up over some ways -/
inductive SumW (F : FT) (t : D) (kds : List (D × D)) : List D → D → D → Prop where
  | nil (m : D) : SumW F t kds [] m m
  | cons {ks : List D} {kk : List Key} {d m m1 m2 : D} {hs : List D} : F "is_hole_of" [.fz t, .fz (.tuple ks)] none = some (.fz (.bool true), none) → keysOf ks = some kk → valG decT kds kk = some d →
      F "plus" [.fz m, .fz d] none = some (.fz m1, none) → SumW F t kds hs m1 m2 → SumW F t kds (.tuple ks :: hs) m m2
section
variable (K : PySem.W.Frag) (C : Addr) (F : FT)
def spAway : Sp := fun vs H Q _ => ∃ (O : Addr → Prop) (b l : Addr) (t d0 d1 d2 d3 : D) (kds : List (D × D)) (ps hs : List D) (m : D), vs = [.ref b] ∧ YardAt C K O H b l t (.tuple [d0, d1, d2, d3, .dict [(.none, .dict kds)]]) ps ∧ Wd O H ∧
  F "ways_away" [.fz t] none = some (.ow (.list hs), none) ∧ SumW F t kds hs (.tuple [.int 0, .int 1]) m ∧ ∀ u H', SB none H H' → Rp K (Fz O H') u m → Q u H'
def spLen : Sp := fun vs H Q _ => ∃ (O : Addr → Prop) (b l : Addr) (t d0 d1 d2 d4 : D) (pl ps hs : List D), vs = [.ref b] ∧ YardAt C K O H b l t (.tuple [d0, d1, d2, .tuple pl, d4]) ps ∧ Wd O H ∧
  F "holes_of" [.fz t] none = some (.ow (.list hs), none) ∧ hs.length < sizeLine ∧ (∀ h ∈ hs, ∃ i, cmpD .NotIn h (.tuple pl) = some i) ∧ ∀ H', SB none H H' → Q (.int (((hs.filter fun h => cmpD .NotIn h (.tuple pl) == some true).length : Nat) : Int)) H'
end
section
variable {P : Program} {w : World} {K : PySem.W.Frag} {mg : Str → Option Value} {base : Heap} {F : FT} {j : Nat}
def nmT : List Str := ["self", "hole", "hour", "rain", "levels", "plugs", "went"]
theorem scTh : FnScope nmT ["self", "hole"] (defScope s_Y_through) := ⟨rfl, rfl, rfl, by decide +kernel, rfl, by decide +kernel, by decide +kernel⟩
theorem ok_through {f : Addr} {fd : FuncData} (U : FunD K "through" "Yard.through" (defArgs s_Y_through) (defBody s_Y_through) (defScope s_Y_through) [] [] f fd) (T : Txt K mg) (R : ROk P w K mg base F (j + 1)) :
    FnOk P w K mg base (L2N.CX P w) (j + 2) f fd ["self", "hole"] (spThrough K (yC K) F) := by
  obtain ⟨fR, fdR, gR, kR, GR, bR⟩ := R
  refine U.ok scTh (fun vs H Q E h => ?_) (fun cdv A outer s H vs Q E hr h => ?_)
  · obtain ⟨O, b, l, t, d0, d1, d2, d3, kds, ps, v, ks, c, rfl, _⟩ := h; rfl
  · obtain ⟨O, b, l, t, d0, d1, d2, d3, kds, ps, v, ks, c, rfl, Y, wd, hv, hF, kf, kt⟩ := h
    obtain ⟨dx, vt, vn, h1, h2, h3⟩ := Y.ob
    have hu : (A.deeper (envOfC "Yard.through" (defScope s_Y_through) s.heap.objs.size f cdv)).units + 65 < cLine := by have := hr.un; omega
    have hu1 : (A.deeper (envOfC "Yard.through" (defScope s_Y_through) s.heap.objs.size f cdv)).units + 1 < cLine := by omega
    refine ⟨_, pss_cons (ps_expr (pe_callS GR hr rfl gR kR bR (fun σ => passAtN (L2N.takes_of rfl rfl rfl rfl) σ) (pa_cons (pe_fld (pv 0) rfl) (pa_cons (pv 1) pa_nil))))
      (pss_cons (ps_asg (pe_fld (pv 0) rfl) (pg_tup rfl (pgs_cons (pg_name (i := 2) scTh.nd rfl (.inl rfl)) (pgs_cons (pg_name (i := 3) scTh.nd rfl (.inl rfl)) (pgs_cons (pg_name (i := 4) scTh.nd rfl (.inl rfl)) (pgs_cons (pg_name (i := 5) scTh.nd rfl (.inl rfl)) (pgs_cons (pg_name (i := 6) scTh.nd rfl (.inl rfl)) pgs_nil)))))))
      (pss_one (ps_ret (pe_dgetT hu1 (pv 6) (pv 1) (plainIx_ok rfl))))), ?_⟩
    refine ⟨_, rfl, b, _, dx, _, _, rfl, h1, T.cl, T.nT, yf_tubs, _, rfl, O, _, _, t, .tuple ks, c, rfl, wd, h2, hv, hF, fun z H2 sb => kf z H2 sb, fun z H2 sb => ?_⟩
    obtain ⟨kk, d, e3, e4, k⟩ := kt z
    have Y2 := Y.sb sb
    have hv2 := hv.mono ((sb.mv (M := fun _ => False)).fz (O := O) fun _ z => z.elim)
    obtain ⟨dx', vt', vn', g1, g2, g3⟩ := Y2.ob
    obtain ⟨p, x0, x1, x2, x3, x4, rfl, hp, r0, r1, r2, r3, r4⟩ := rp5 g3
    refine ⟨_, rfl, b, _, dx', _, _, rfl, g1, T.cl, T.nN, yf_now, p, _, rfl, hp, rfl, _, _, rfl, _, _, rfl, _, _, rfl, _, _, rfl, _, _, rfl, rfl, _, rfl, _, rfl, ?_⟩
    exact rp_getT r4 hv2 e3 e4 fun u hu => k u H2 sb hu
def nmW : List Str := ["self", "much", "hole"]
theorem scAw : FnScope nmW ["self"] (defScope s_Y_away) := ⟨rfl, rfl, rfl, by decide +kernel, rfl, by decide +kernel, by decide +kernel⟩
theorem ok_away {f : Addr} {fd : FuncData} (G : Glb P w K mg base tbl.gl F j) (U : FunD K "away" "Yard.away" (defArgs s_Y_away) (defBody s_Y_away) (defScope s_Y_away) [] [] f fd) (T : Txt K mg) (Th : MOk P w K mg base (L2N.CX P w) (j + 2) "through" ["self", "hole"] (spThrough K (yC K) F)) :
    FnOk P w K mg base CX0 (j + 3) f fd ["self"] (spAway K (yC K) F) := by
  obtain ⟨⟨fdT, GT, bT⟩, mT⟩ := Th
  obtain ⟨vm, um, hm, rm, pm⟩ := G.cst "NOUGHT" (.tuple [.int 0, .int 1]) rfl
  refine U.ok scAw (fun vs H Q E h => ?_) (fun cdv A outer s H vs Q E hr h => ?_)
  · obtain ⟨O, b, l, t, d0, d1, d2, d3, kds, ps, hs, m, rfl, _⟩ := h; rfl
  · obtain ⟨O, b, l, t, d0, d1, d2, d3, kds, ps, hs, me, rfl, Y, wd, hF, hS, k⟩ := h
    obtain ⟨dx, vt, vn, h1, h2, h3⟩ := Y.ob
    have hr0 := hr.mono (show j ≤ j + 2 by omega)
    refine ⟨_, PSs.nox (pss_cons (ps_asg (pe_glob rfl hm rm) (pg_name (i := 1) scAw.nd rfl (.inl rfl)))
      (pss_cons (ps_for PassesOwn.never rfl (pi_list (pe_pure G hr0 rfl rfl (pa_cons (pe_fld (pv 0) rfl) pa_nil))) (pg_name (i := 2) scAw.nd rfl (.inl rfl))
        (pss_one (ps_asg (pe_pure G hr0 rfl rfl (pa_cons (pv 1) (pa_cons (pe_meth (E := E0) (pv 0) T.cl mT GT hr bT .nil passN0 (pa_cons (pv 2) pa_nil)) pa_nil))) (pg_name (i := 1) scAw.nd rfl (.inl rfl)))))
      (pss_one (ps_ret (pv 1))))), ?_⟩
    refine ⟨_, rfl, b, _, dx, _, _, rfl, h1, T.cl, T.nT, yf_tubs, O, [t], _, .cons h2 .nil, wd, hF, fun v2 H2 sb rs => ?_⟩
    obtain ⟨p, rfl, hp, _, ho⟩ := rs
    have np : ¬ O p := fun z => wd.nn p z hp
    have rp := rp_of_fresh np ho
    obtain ⟨xs, hx, rx⟩ : ∃ xs, Fz O H2 p = some (.lst xs) ∧ RpAll K (Fz O H2) xs hs := by
      cases rp with | lst a b => exact ⟨_, a, b⟩
    refine ⟨p, rfl, ⟨_, SqL.of (fz_some hx).2⟩, ?_⟩
    have Y2 := Y.sb sb
    have wd2 := wd.sb sb
    refine ⟨fun n m σ' H' => m = hs.length - n ∧ n ≤ hs.length ∧ SB none H2 H' ∧ ∃ mu z md, σ' = [some (.ref b), some mu, z] ∧ Rp K (Fz O H') mu md ∧ SumW F t kds (hs.drop n) md me, ⟨hs.length, rfl, Nat.zero_le _, SB.refl, vm, none, _, rfl, pm _, hS⟩, ?_⟩
    rintro n m σ' H' ⟨rfl, hn, sb', mu, z, md, rfl, rmu, hSn⟩
    have fz' : Same (Fz O H2) (Fz O H') := (sb'.mv (M := fun _ => False)).fz fun _ z => z.elim
    have it := it_list (K := K) (a := p) (xs := xs) (ds := hs)
    have fr := it.mono fz' ⟨hx, rx⟩
    by_cases hlt : n < hs.length
    · refine .inr ⟨it.goes hlt fr, fun σ' H' => SB none H2 H' ∧ ∃ mu z md, σ' = [some (.ref b), some mu, z] ∧ Rp K (Fz O H') mu md ∧ SumW F t kds (hs.drop (n + 1)) md me, fun σ' H' q => ⟨hs.length - (n + 1), by omega, rfl, by omega, q⟩, fun x H3 y => ?_⟩
      obtain ⟨sm, d, ed, rd⟩ := it.yld hlt (wd2.sb sb').dom fr y
      have edrop : hs.drop n = d :: hs.drop (n + 1) := by
        rw [List.drop_eq_getElem_cons hlt]
        rw [List.getElem?_eq_getElem hlt] at ed
        cases ed; rfl
      rw [edrop] at hSn
      cases hSn with
      | @cons ks kk dd m0 m1 m2 hs' q1 q2 q3 q4 q5 =>
      have sb3 : SB none H2 H3 := sb'.trans (same_sb sm)
      have Y3 := Y2.sb sb3
      have wd3 := wd2.sb sb3
      have rmu3 := rmu.mono ((((same_sb sm).mv (M := fun _ => False)).fz (O := O) fun _ z => z.elim))
      obtain ⟨dx3, vt3, vn3, g1, g2, g3⟩ := Y3.ob
      refine ⟨_, rfl, _, rfl, b, dx3, _, rfl, g1, yf_no (by decide +kernel), _, rfl, O, b, l, t, d0, d1, d2, d3, kds, ps, _, ks, true, rfl, Y3, wd3, rd, q1, (fun z => by cases z), fun _ => ⟨kk, dd, q2, q3, fun u H4 sb4 ru => ?_⟩⟩
      have e4 : Same (Fz O H3) (Fz O H4) := (sb4.mv (M := fun _ => False)).fz fun _ z => z.elim
      refine ⟨O, [_, _], _, .cons (rmu3.mono e4) (.cons ru .nil), wd3.sb sb4, q4, fun v5 H5 sb5 rs5 => ?_⟩
      exact ⟨(sb3.trans sb4).trans sb5, v5, some x, m1, rfl, rs5, q5⟩
    · have en : n = hs.length := by omega
      subst en
      rw [List.drop_length] at hSn
      cases hSn
      exact .inl ⟨it.stops fr, _, rfl, k _ _ (sb.trans sb') rmu⟩
def nmL : List Str := ["self", "hole"]
theorem scLn : FnScope nmL ["self"] (defScope s_Y___len__) := ⟨rfl, rfl, rfl, by decide +kernel, rfl, by decide +kernel, by decide +kernel⟩
def scL : Scope := { kind := .function, names := [(".0", .local), ("hole", .local), ("self", .free)], isGenerator := false, isCoroutine := false }
theorem bkLn : BlkOk nmL (defScope s_Y___len__) scL [("hole", 1)] := ⟨rfl, by decide +kernel, by decide +kernel, by decide +kernel, by decide +kernel⟩
theorem dpR {K : PySem.W.Frag} {β : Option Addr} {O : Addr → Prop} {H : Hp} {x : V} {d : D} (h : TopAt K β O H x d) (s : SeqAt.shaped d = true) : Dp K H x d := by
  have c := SeqAt.canLay_of_shaped s
  cases d with
  | list ds =>
    obtain ⟨a, xs, rfl, _, h1, h2⟩ := h
    exact .lst (SqL.of h1) ((h2.mono fz_same).dp (by simpa [PyData.canLay0] using c))
  | dict kds => simp [PyData.canLay0] at c
  | none => exact (Rp.mono fz_same h).dp c
  | bool _ => exact (Rp.mono fz_same h).dp c
  | int _ => exact (Rp.mono fz_same h).dp c
  | str _ => exact (Rp.mono fz_same h).dp c
  | tuple _ => exact (Rp.mono fz_same h).dp c
def rNI (K : PySem.W.Frag) : R2 := fun x y H Q => ∃ d ds, Dp K H x d ∧ Dp K H y (.tuple ds) ∧ SeqAt.shaped d = true ∧ SeqAt.shaped (.tuple ds) = true ∧ Q (.bl (!ds.any fun z => PyData.eqv z d)) H
theorem op_ni {X : Cx} {K : PySem.W.Frag} (hK : X.K = K) (hu : X.A.units + 65 < cLine) : OpR X (compareOp .NotIn) (rNI K) := by subst hK; exact op_notInT hu
theorem cmp_ni {d : D} {pl : List D} {i : Bool} (h : cmpD .NotIn d (.tuple pl) = some i) : (SeqAt.shaped d && SeqAt.shaped (.tuple pl)) = true ∧ (!pl.any fun z => PyData.eqv z d) = i := by
  have e : cmpD .NotIn d (.tuple pl) = if SeqAt.shaped d && SeqAt.shaped (.tuple pl) then some (!pl.any fun z => PyData.eqv z d) else none := by
    cases d <;> rfl
  rw [e] at h
  exact ite_some h
theorem ok_len {f : Addr} {fd : FuncData} (G : Glb P w K mg base tbl.gl F j) (U : FunD K "__len__" "Yard.__len__" (defArgs s_Y___len__) (defBody s_Y___len__) (defScope s_Y___len__) [] [] f fd) (T : Txt K mg) (Pg : MOk P w K mg base CX0 1 "plugged" ["self"] (spPart K (yC K) 3)) :
    FnOk P w K mg base CX0 (j + 2) f fd ["self"] (spLen K (yC K) F) := by
  obtain ⟨⟨fdP, GP, bP⟩, mP⟩ := Pg
  refine U.ok scLn (fun vs H Q E h => ?_) (fun cdv A outer s H vs Q E hr h => ?_)
  · obtain ⟨O, b, l, t, d0, d1, d2, d4, pl, ps, hs, rfl, _⟩ := h; rfl
  · obtain ⟨O, b, l, t, d0, d1, d2, d4, pl, ps, hs, rfl, Y, wd, hF, hsz, hi, k⟩ := h
    obtain ⟨dx, vt, vn, h1, h2, h3⟩ := Y.ob
    have hr0 := hr.mono (show j ≤ j + 1 by omega)
    have hr1 := hr.mono (show 1 ≤ j + 1 by omega)
    have hu : (A.deeper (envOfC "Yard.__len__" (defScope s_Y___len__) s.heap.objs.size f cdv)).units + 65 < cLine := by have := hr.un; omega
    refine ⟨_, PSs.nox (pss_one (ps_ret (pe_callB call_len_seq (by rfl) T.len PySem.boot_len (pa_cons (pe_lc (own := [("hole", 1)]) rfl scLn.nd (pi_list (pe_pure G hr0 rfl rfl (pa_cons (pe_fld (pv 0) rfl) pa_nil))) bkLn
      (fun _ _ _ _ _ => pg_name (i := 1) scLn.nd rfl (.inl rfl)) (fun _ _ _ _ _ => pts_one (pt_cmpR (op_ni (K := K) rfl hu) (pv 1) (pe_meth0 (E := E0) (pv 0) T.cl mP GP hr1 bP .nil pass0) rfl)) (fun _ _ _ _ _ => pv 1)) pa_nil)))), ?_⟩
    refine ⟨_, rfl, b, _, dx, _, _, rfl, h1, T.cl, T.nT, yf_tubs, O, [t], _, .cons h2 .nil, wd, hF, fun v2 H2 sb rs => ?_⟩
    obtain ⟨p, rfl, hp, _, ho⟩ := rs
    have np : ¬ O p := fun z => wd.nn p z hp
    have rp := rp_of_fresh np ho
    obtain ⟨xs, hx, rx⟩ : ∃ xs, Fz O H2 p = some (.lst xs) ∧ RpAll K (Fz O H2) xs hs := by
      cases rp with | lst a b => exact ⟨_, a, b⟩
    refine ⟨p, rfl, ⟨_, SqL.of (fz_some hx).2⟩, fun D hD => ?_⟩
    have Y2 := Y.sb sb
    have wd2 := wd.sb sb
    have it := it_list (K := K) (a := p) (xs := xs) (ds := hs)
    have hb2 : ∃ o, H2 b = some o := let ⟨_, _, _, z, _⟩ := Y2.ob; ⟨_, z⟩
    refine ⟨fun n m H' => m = hs.length - n ∧ n ≤ hs.length ∧ Mv (fun a => a = D) (upd H2 D (.lst [])) H' ∧ ∃ acc, H' D = some (.lst acc) ∧ acc.length = ((hs.take n).filter fun h => cmpD .NotIn h (.tuple pl) == some true).length, ⟨hs.length, rfl, Nat.zero_le _, Mv.refl, [], upd_same, rfl⟩, ?_⟩
    rintro n m H' ⟨rfl, hn, mv, acc, hDa, hc⟩
    have go : ∀ a o, a ≠ D → isTbl o = false → H2 a = some o → H' a = some o := fun a o na t e => mv.go a o na t (by rw [upd_ne na]; exact e)
    have fz' : Same (Fz O H2) (Fz (orO O D) H') := fz_new hD fun a o _ t e => go a o (fun z => by rw [z, hD] at e; cases e) t e
    have fr := it.mono fz' ⟨hx, rx⟩
    have Y3 := yard_new (H' := H') Y2 hD fun a o na t e => go a o na t e
    have wd3 : Wd (orO O D) H' := ⟨fun a ha => by
      rcases ha with ha | ha
      · obtain ⟨o, e, q⟩ := wd2.dom a ha
        exact ⟨o, go a o (fun z => by rw [z, hD] at e; cases e) (plain_noTbl q) e, q⟩
      · rw [ha]; exact ⟨_, hDa, rfl⟩, mv.tb ((SB.laid (β := none) hD).tb wd2.tabs)⟩
    by_cases hlt : n < hs.length
    · refine .inr ⟨it.goes hlt fr, fun H' => Mv (fun a => a = D) (upd H2 D (.lst [])) H' ∧ ∃ acc, H' D = some (.lst acc) ∧ acc.length = ((hs.take (n + 1)).filter fun h => cmpD .NotIn h (.tuple pl) == some true).length, fun H' q => ⟨hs.length - (n + 1), by omega, rfl, by omega, q⟩, fun x H3 y => ?_⟩
      obtain ⟨sm, d, ed, rd⟩ := it.yld hlt wd3.dom fr y
      have etake : hs.take (n + 1) = hs.take n ++ [d] := by rw [List.take_succ, ed]; rfl
      obtain ⟨i, hci⟩ := hi d (List.mem_of_getElem? ed)
      have hlen : ((hs.take n).filter fun h => cmpD .NotIn h (.tuple pl) == some true).length ≤ n := Nat.le_trans (List.length_filter_le _ _) (by rw [List.length_take]; omega)
      rw [etake, List.filter_append, List.length_append, ← hc]
      have Y4 := Y3.sb (same_sb sm)
      obtain ⟨dx3, vt3, vn3, g1, g2, g3⟩ := Y4.ob
      refine ⟨rfl, _, rfl, _, rfl, b, dx3, _, rfl, g1, yf_no (by decide +kernel), orO O D, b, l, t, _, ps, _, rfl, Y4, rfl, rfl, fun vp rp => ?_⟩
      obtain ⟨sh, ei⟩ := cmp_ni hci
      subst ei
      rw [Bool.and_eq_true] at sh
      have dp1 : Dp K H3 x d := dpR (top_of_rp (β := none) (fun b z => by cases z) rd) sh.1
      have dp2 : Dp K H3 vp (.tuple pl) := dpR (top_of_rp (β := none) (fun b z => by cases z) rp) sh.2
      refine ⟨d, pl, dp1, dp2, sh.1, sh.2, _, rfl, ?_⟩
      have mv3 : Mv (fun a => a = D) (upd H2 D (.lst [])) H3 := mv.trans (same_sb sm).mv
      have hD3 : H3 D = some (.lst acc) := sm _ _ hDa
      cases hb : !pl.any fun z => PyData.eqv z d with
      | true =>
        rw [hb] at hci
        refine iteT ⟨_, rfl, acc, hD3, by omega, ?_⟩
        refine ⟨mv3.trans (Mv.put hD3 rfl rfl), acc ++ [x], upd_same, ?_⟩
        rw [List.length_append, hc]
        simp [hci]
      | false =>
        rw [hb] at hci
        refine iteF ⟨mv3, acc, hD3, ?_⟩
        simp [hci]
    · have en : n = hs.length := by omega
      subst en
      rw [List.take_length] at hc
      refine .inl ⟨it.stops fr, D, acc, rfl, .inl (SqL.of hDa), ?_⟩
      rw [hc]
      exact k _ ⟨fun a o _ t e => have e2 := sb.go a o (fun z => by cases z) t e; go a o (fun z => by rw [z, hD] at e2; cases e2) t e2, fun a _ e => sb.dm a (fun z => by cases z) (NdefX.upd_none (mv.dm a e)), fun t => mv.tb ((SB.laid (β := none) hD).tb (sb.tb t))⟩
end
end K11

set_option maxHeartbeats 4000000
namespace K11
open PySem PySem.Spec PyProof.Rows L2 Iv LamX L2H HotX
local instance ctI_K11YF : Iv.Ct := ctI
variable [Nm]
/-! ### the names of an error's families and classes -/
def words12 : List Str := ["asked ", "told ", "NoHeight", "NoHole", "NoHours", "NoName", "NoRain", "NoTubs", "NotPlugged", "NothingLeft", "Plugged", "+"]
theorem words_split : Txt.split "asked ,told ,NoHeight,NoHole,NoHours,NoName,NoRain,NoTubs,NotPlugged,NothingLeft,Plugged,+" "," = words12 := by kernel_rfl
def kindL (bs : List Bool) (n : Nat) : List Str := (((words12.zip (bs ++ [true])).take n).filter (·.2)).map (·.1)
def kindW (bs : List Bool) : Str := Txt.join "" (kindL bs 12)
theorem kindL_succ {bs : List Bool} {n : Nat} {w : Str} {b : Bool} (hw : words12[n]? = some w) (hb : (bs ++ [true])[n]? = some b) : kindL bs (n + 1) = kindL bs n ++ (if b then [w] else []) := by
  have hz : (words12.zip (bs ++ [true]))[n]? = some (w, b) := (List.getElem?_zip_eq_some (z := (w, b))).mpr ⟨hw, hb⟩
  unfold kindL
  rw [List.take_succ, hz, List.filter_append, List.map_append]
  cases b <;> rfl
theorem kindL_len (bs : List Bool) (n : Nat) : (kindL bs n).length ≤ 12 := by
  unfold kindL
  rw [List.length_map]
  refine Nat.le_trans (List.length_filter_le _ _) ?_
  rw [List.length_take, List.length_zip]
  have : words12.length = 12 := rfl
  omega
theorem filt_sum : ∀ l : List (Str × Bool), (((l.filter (·.2)).map (·.1)).map (·.length)).sum ≤ l.length * 13 ∨ ∃ p ∈ l, 13 < p.1.length
  | [] => .inl (Nat.le_refl _)
  | p :: l => by
    rcases filt_sum l with h | ⟨q, hq, h⟩
    · by_cases hp : 13 < p.1.length
      · exact .inr ⟨p, List.mem_cons_self, hp⟩
      · refine .inl ?_
        rw [List.filter_cons]
        split
        · simp only [List.map_cons, List.sum_cons, List.length_cons] at h ⊢; omega
        · simp only [List.length_cons]; omega
    · exact .inr ⟨q, List.mem_cons_of_mem _ hq, h⟩
theorem kindL_size (bs : List Bool) (n : Nat) : ((kindL bs n).map (·.length)).sum + (kindL bs n).length * Str.length "" ≤ 16777216 := by
  have hl : ((words12.zip (bs ++ [true])).take n).length ≤ 12 := by
    rw [List.length_take, List.length_zip]
    have : words12.length = 12 := rfl
    omega
  have e0 : Str.length "" = 0 := by decide +kernel
  rw [e0, Nat.mul_zero, Nat.add_zero]
  rcases filt_sum ((words12.zip (bs ++ [true])).take n) with h | ⟨p, hp, h⟩
  · exact Nat.le_trans h (by omega)
  · exfalso
    have hm := (List.of_mem_zip (List.mem_of_mem_take hp)).1
    have : ∀ w ∈ words12, w.length ≤ 13 := by decide +kernel
    have := this _ hm
    omega
def rIxK (K : PySem.W.Frag) : R2 := rIx K
theorem ix_seqK {X : Cx} {K : PySem.W.Frag} (hK : X.K = K) : IxR X (rIxK K) := by subst hK; exact ix_seq
section
variable {P : Program} {w : World} {K : PySem.W.Frag} {mg : Str → Option Value} {base : Heap}
def nmK : List Str := ["e", "some", "words", "k"]
theorem scKi : FnScope nmK ["e"] (defScope s__law_kinds) := ⟨rfl, rfl, rfl, by decide +kernel, rfl, by decide +kernel, by decide +kernel⟩
def scK : Scope := { kind := .function, names := [(".0", .local), ("k", .local), ("some", .free), ("words", .free)], isGenerator := false, isCoroutine := false }
theorem bkK : BlkOk nmK (defScope s__law_kinds) scK [("k", 3)] := ⟨rfl, by decide +kernel, by decide +kernel, by decide +kernel, by decide +kernel⟩
/-- what is asked of the globals -/
structure KGl (K : PySem.W.Frag) (mg : Str → Option Value) : Prop where
  e : ∀ x ∈ kindNs, mg x = some (.ref (He.ga K x))
  ii : mg "isinstance" = none
  ve : mg "ValueError" = none
  rg : mg "range" = none
def spKinds (K : PySem.W.Frag) (a : Addr) (D : Addr) : Sp := fun vs H Q _ => vs = [.ref a] ∧ ∃ bs, bs.length = 11 ∧ KindOf K D bs ∧ ∀ H', SB none H H' → Q (.str (kindW bs)) H'
theorem body_kinds {f : Addr} {cdv : Value} {A : Around} {outer : List Env} {s : Shared} {H : Hp} {v : V} {Q : VK} {p : Addr × Obj} {D : Addr} {k : Nat} (T : KGl K mg) (hz : Zc (.ref D) none p.2) (hf : ∃ vs, p.2.data = .fields vs) (hot : Hot1 A p)
    (hr : RoomH k (A.deeper (envOfC "_law_kinds" (defScope s__law_kinds) s.heap.objs.size f cdv))) (h : spKinds K p.1 D [v] H Q E0) :
    ∃ t, PSs (cxH CX0 P w K mg base nmK "_law_kinds" (defScope s__law_kinds) f cdv A outer s H E0 p) (defBody s__law_kinds) t ∧ t { nx := fun _ H' => Q .non H', rt := Q } (L2.start nmK [v]) H := by
  obtain ⟨a, oe⟩ := p
  obtain ⟨ev, bs, hl, ks, q⟩ := h
  cases ev
  obtain ⟨b0, b1, b2, b3, b4, b5, b6, b7, b8, b9, b10, rfl⟩ : ∃ b0 b1 b2 b3 b4 b5 b6 b7 b8 b9 b10, bs = [b0, b1, b2, b3, b4, b5, b6, b7, b8, b9, b10] := by
    match bs, hl with
    | [b0, b1, b2, b3, b4, b5, b6, b7, b8, b9, b10], _ => exact ⟨_, _, _, _, _, _, _, _, _, _, _, rfl⟩
  have hc : HotC (cxH CX0 P w K mg base nmK "_law_kinds" (defScope s__law_kinds) f cdv A outer s H E0 (a, oe)).nox := ⟨(a, oe), hot, List.mem_cons_self⟩
  have ci : CallR (cxH CX0 P w K mg base nmK "_law_kinds" (defScope s__law_kinds) f cdv A outer s H E0 (a, oe)).nox (.builtin "isinstance") (rIsE K D a) := call_isP ks.c List.mem_cons_self hz hf
  have gi : Gl (cxH CX0 P w K mg base nmK "_law_kinds" (defScope s__law_kinds) f cdv A outer s H E0 (a, oe)).nox "isinstance" := rfl
  have one : ∀ {x : Str} {b : Bool} {p1 p2 p3 p4 : Pos}, (x, b) ∈ kindNs.zip [b0, b1, b2, b3, b4, b5, b6, b7, b8, b9, b10] → (x == ("__debug__" : Str)) = false → Gl (cxH CX0 P w K mg base nmK "_law_kinds" (defScope s__law_kinds) f cdv A outer s H E0 (a, oe)).nox x →
      PE (cxH CX0 P w K mg base nmK "_law_kinds" (defScope s__law_kinds) f cdv A outer s H E0 (a, oe)).nox (.Call (.Name "isinstance" p1) [.Name "e" p2, .Name x p3] [] p4) (fun σ H Q => σ[0]? = some (some (.ref a)) ∧ Q (.bl b) H) := fun {x b p1 p2 p3 p4} hx hd hg =>
    ⟨fun pins s' σ H' Q' I hq => (pe_callB ci gi T.ii (by kernel_rfl) (pa_cons (pv 0) (pa_cons (pe_glob (v := .ref (He.ga K x)) hg (T.e x (List.of_mem_zip hx).1) rfl hd) pa_nil))).run pins s' σ H' Q' I
      ⟨_, hq.1, _, _, b, rfl, (fun u z => z), ks.k _ hx, hq.2⟩⟩
  have gv : Gl (cxH CX0 P w K mg base nmK "_law_kinds" (defScope s__law_kinds) f cdv A outer s H E0 (a, oe)).nox "ValueError" := rfl
  have val : ∀ {q : Pos}, PE (cxH CX0 P w K mg base nmK "_law_kinds" (defScope s__law_kinds) f cdv A outer s H E0 (a, oe)).nox (.Name "ValueError" q) (tC (.ty "ValueError")) := fun {q} => pe_bltn gv T.ve (by kernel_rfl) rfl (by decide) (by decide)
  refine ⟨_, PSs.nox (pss_cons (ps_asg (pe_lst (pa_cons (one (x := "AskedError") (b := b0) (by simp [kindNs]) (by decide) rfl) (pa_cons (one (x := "ToldError") (b := b1) (by simp [kindNs]) (by decide) rfl) (pa_cons (one (x := "NoHeight") (b := b2) (by simp [kindNs]) (by decide) rfl) (pa_cons (one (x := "NoHole") (b := b3) (by simp [kindNs]) (by decide) rfl) pa_nil))))) (pg_name (i := 1) scKi.nd rfl (.inr rfl)))
    (pss_cons (ps_asg (pe_op op_cat (pv 1) (pe_lst (pa_cons (one (x := "NoHours") (b := b4) (by simp [kindNs]) (by decide) rfl) (pa_cons (one (x := "NoName") (b := b5) (by simp [kindNs]) (by decide) rfl) (pa_cons (one (x := "NoRain") (b := b6) (by simp [kindNs]) (by decide) rfl) (pa_cons (one (x := "NoTubs") (b := b7) (by simp [kindNs]) (by decide) rfl) pa_nil)))))) (pg_name (i := 1) scKi.nd rfl (.inr rfl)))
    (pss_cons (ps_asg (pe_op op_cat (pv 1) (pe_lst (pa_cons (one (x := "NotPlugged") (b := b8) (by simp [kindNs]) (by decide) rfl) (pa_cons (one (x := "NothingLeft") (b := b9) (by simp [kindNs]) (by decide) rfl) (pa_cons (one (x := "Plugged") (b := b10) (by simp [kindNs]) (by decide) rfl) pa_nil))))) (pg_name (i := 1) scKi.nd rfl (.inr rfl)))
    (pss_cons (ps_expr (pe_bm PySem.F.plainAttrs_list PySem.F.slot_list_append PySem.F.type_list_append mt_append (pv 1) (pa_cons (pe_callB ci gi T.ii (by kernel_rfl) (pa_cons (pv 0) (pa_cons val pa_nil))) pa_nil)))
    (pss_cons (ps_asg (pe_split pe_str pe_str) (pg_name (i := 2) scKi.nd rfl (.inr rfl)))
    (pss_one (ps_ret (pe_join pe_str (pe_lcH (own := [("k", 3)]) hc scKi.nd (pi_range1H rfl T.rg (pa_cons pe_int pa_nil)) bkK
      (fun _ _ _ _ _ => pg_name (i := 3) scKi.nd rfl (.inl rfl)) (fun _ _ _ _ _ => pts_one (pt_val (pe_ix (ix_seqK (K := K) rfl) (pv 1) (pv 3) (plainIx_ok rfl)) (fun _ => rfl))) (fun _ _ _ _ _ => pe_ix (ix_seqK (K := K) rfl) (pv 2) (pv 3) (plainIx_ok rfl))))))))))), ?_⟩
  have ne : ∀ {Ha : Hp} {x y : Addr} {o : HO}, upd Ha x o y = none → x ≠ y := fun {Ha x y o} h z => by rw [z, upd_same] at h; cases h
  have z4 : 4 ≤ sizeLine := by decide
  have z3 : 3 ≤ sizeLine := by decide
  have go : ∀ {Ha Hb : Hp} {x : Addr} {xs : List V}, SB none Ha Hb → Ha x = some (.lst xs) → Hb x = some (.lst xs) := fun s e => s.go _ _ (fun z => by cases z) rfl e
  refine ⟨rfl, rfl, rfl, rfl, z4, fun p1 h1 => ?_⟩
  generalize hH1 : upd H p1 _ = H1
  have s1 : SB none H H1 := by rw [← hH1]; exact SB.laid h1
  have a1 : H1 p1 = some (.lst ([b0, b1, b2, b3].map V.bl)) := by rw [← hH1]; exact upd_same
  clear hH1
  refine ⟨_, rfl, rfl, rfl, rfl, rfl, z4, fun q1 g1 => ?_⟩
  generalize hH2 : upd H1 q1 _ = H2
  have s2 : SB none H1 H2 := by rw [← hH2]; exact SB.laid g1
  have a2 : H2 q1 = some (.lst ([b4, b5, b6, b7].map V.bl)) := by rw [← hH2]; exact upd_same
  clear hH2
  refine ⟨p1, q1, [b0, b1, b2, b3].map V.bl, [b4, b5, b6, b7].map V.bl, rfl, rfl, go s2 a1, a2, (by show 4 + 4 ≤ sizeLine; decide), fun p2 h2 => ?_⟩
  generalize hH3 : upd H2 p2 _ = H3
  have s3 : SB none H2 H3 := by rw [← hH3]; exact SB.laid h2
  have a3 : H3 p2 = some (.lst ([b0, b1, b2, b3, b4, b5, b6, b7].map V.bl)) := by rw [← hH3]; exact upd_same
  clear hH3
  refine ⟨_, rfl, rfl, rfl, rfl, z3, fun q2 g2 => ?_⟩
  generalize hH4 : upd H3 q2 _ = H4
  have s4 : SB none H3 H4 := by rw [← hH4]; exact SB.laid g2
  have a4 : H4 q2 = some (.lst ([b8, b9, b10].map V.bl)) := by rw [← hH4]; exact upd_same
  clear hH4
  refine ⟨p2, q2, [b0, b1, b2, b3, b4, b5, b6, b7].map V.bl, [b8, b9, b10].map V.bl, rfl, rfl, go s4 a3, a4, (by show 8 + 3 ≤ sizeLine; decide), fun p3 h3 => ?_⟩
  generalize hH5 : upd H4 p3 _ = H5
  have s5 : SB none H4 H5 := by rw [← hH5]; exact SB.laid h3
  have a5 : H5 p3 = some (.lst ([b0, b1, b2, b3, b4, b5, b6, b7, b8, b9, b10].map V.bl)) := by rw [← hH5]; exact upd_same
  clear hH5
  refine ⟨_, rfl, .inl ⟨rfl, _, SqL.of a5⟩, _, rfl, .ty "ValueError", _, true, rfl, (fun u z => z), ks.v, p3, _, _, rfl, rfl, a5, (by show 11 < sizeLine; decide), ?_⟩
  generalize hH6 : upd H5 p3 _ = H7
  have s7 : SB none H4 H7 := by rw [← hH6]; exact s5.mut a5 rfl (.inr h3)
  have a7 : H7 p3 = some (.lst ([b0, b1, b2, b3, b4, b5, b6, b7, b8, b9, b10, true].map V.bl)) := by rw [← hH6]; exact upd_same
  clear hH6
  refine ⟨⟨_, rfl⟩, _, _, rfl, rfl, rfl, (by decide +kernel), fun pw hw => ?_⟩
  generalize hH8 : upd H7 pw _ = H6
  have s8 : SB none H7 H6 := by rw [← hH8]; exact SB.laid hw
  have ew : H6 pw = some (.lst (words12.map V.str)) := by rw [← hH8, ← words_split]; exact upd_same
  clear hH8
  have e3 := go s8 a7
  have m6 : SB none H H6 := ((((s1.trans s2).trans s3).trans s4).trans s7).trans s8
  clear s1 s2 s3 s4 s5 s7 s8 a1 a2 a3 a4 a5 a7
  refine ⟨⟨_, rfl⟩, _, rfl, by decide, by decide, fun Dd hD => ?_⟩
  have n3 : p3 ≠ Dd := fun z => by rw [z, hD] at e3; cases e3
  have nw : pw ≠ Dd := fun z => by rw [z, hD] at ew; cases ew
  refine ⟨fun n m H' => m = 12 - n ∧ n ≤ 12 ∧ Mv (fun a => a = Dd) (upd H6 Dd (.lst [])) H' ∧ H' Dd = some (.lst ((kindL [b0, b1, b2, b3, b4, b5, b6, b7, b8, b9, b10] n).map V.str)), ⟨12, rfl, Nat.zero_le _, Mv.refl, upd_same⟩, ?_⟩
  rintro n m H' ⟨rfl, hn, mv, hDa⟩
  have e3' : H' p3 = _ := mv.go p3 _ n3 rfl (by rw [upd_ne n3]; exact e3)
  have ew' : H' pw = _ := mv.go pw _ nw rfl (by rw [upd_ne nw]; exact ew)
  by_cases hlt : n < 12
  · refine .inr ⟨by show n < 12; exact hlt, fun H' => Mv (fun a => a = Dd) (upd H6 Dd (.lst [])) H' ∧ H' Dd = some (.lst ((kindL [b0, b1, b2, b3, b4, b5, b6, b7, b8, b9, b10] (n + 1)).map V.str)), fun H' q => ⟨12 - (n + 1), by omega, rfl, by omega, q⟩, fun x H3 y => ?_⟩
    obtain ⟨rfl, rfl⟩ := walk_range.yields n H' x H3 (show n < 12 from hlt) True.intro y
    refine ⟨rfl, ?_⟩
    have h12 : ([b0, b1, b2, b3, b4, b5, b6, b7, b8, b9, b10, true] : List Bool).length = 12 := rfl
    obtain ⟨bb, hb⟩ : ∃ bb, ([b0, b1, b2, b3, b4, b5, b6, b7, b8, b9, b10, true] : List Bool)[n]? = some bb := ⟨_, List.getElem?_eq_getElem (by rw [h12]; exact hlt)⟩
    obtain ⟨ww, hw'⟩ : ∃ ww, words12[n]? = some ww := ⟨_, List.getElem?_eq_getElem (show n < 12 from hlt)⟩
    have ek : kindL [b0, b1, b2, b3, b4, b5, b6, b7, b8, b9, b10] (n + 1) = kindL [b0, b1, b2, b3, b4, b5, b6, b7, b8, b9, b10] n ++ (if bb then [ww] else []) := kindL_succ hw' hb
    have lk : (kindL [b0, b1, b2, b3, b4, b5, b6, b7, b8, b9, b10] n).length ≤ 12 := kindL_len _ _
    rw [ek]
    have i1 : atI (([b0, b1, b2, b3, b4, b5, b6, b7, b8, b9, b10, true] : List Bool).map V.bl) (0 + (n : Int)) = some (.bl bb) := by rw [Int.zero_add]; exact atI_nat (by rw [List.getElem?_map, hb]; rfl)
    have i2 : atI (words12.map V.str) (0 + (n : Int)) = some (.str ww) := by rw [Int.zero_add]; exact atI_nat (by rw [List.getElem?_map, hw']; rfl)
    refine ⟨_, rfl, _, rfl, .inl ⟨_, _, _, _, rfl, rfl, SqL.of e3', i1, bb, rfl, ?_⟩⟩
    cases bb with
    | true =>
      refine iteT ⟨_, rfl, _, rfl, .inl ⟨_, _, _, _, rfl, rfl, SqL.of ew', i2, _, hDa, ?_, mv.trans (Mv.put hDa rfl rfl), ?_⟩⟩
      · rw [List.length_map]; exact Nat.lt_of_le_of_lt lk (by decide)
      · rw [List.map_append]; exact upd_same
    | false =>
      refine iteF ⟨mv, ?_⟩
      rw [if_neg Bool.false_ne_true, List.append_nil]; exact hDa
  · have en : n = 12 := by omega
    subst en
    refine .inl ⟨by show 12 ≤ 12; omega, ?_⟩
    refine ⟨_, Dd, _, rfl, rfl, .inl (SqL.of hDa), ?_, ?_⟩
    · exact kindL_size _ _
    · refine q _ ⟨fun a o _ t e => ?_, fun a _ e => ?_, fun t => ?_⟩
      · have e2 := m6.go a o (fun z => by cases z) t e
        exact mv.go a o (fun z => by rw [z, hD] at e2; cases e2) t (by rw [upd_ne (fun z => by rw [z, hD] at e2; cases e2)]; exact e2)
      · exact m6.dm a (fun z => by cases z) (NdefX.upd_none (mv.dm a e))
      · exact mv.tb ((SB.laid (β := none) hD).tb (m6.tb t))
end
end K11

set_option maxHeartbeats 4000000
namespace K11
open PySem PySem.Spec PyProof.Rows L2 Iv LamX L2H HotX
local instance ctI_K11YG : Iv.Ct := ctI
variable [Nm]
/-- a def of the text, by its name -/
structure Dk (K : PySem.W.Frag) (mg : Str → Option Value) (x : Str) (st : Stmt) (ps : List Str) : Prop where
  ex : ∃ fd, FunD K x x (defArgs st) (defBody st) (defScope st) [] [] (He.ga K x) fd ∧ L2.Binds K fd ps []
  g : mg x = some (.ref (He.ga K x))
theorem takes0N {X : Cx} : L2N.Takes X (fun _ _ _ _ => False) := fun _ _ x => by
  obtain ⟨_, _, _, _, _, _, _, _, _, _, _, _, _, _, _, _, z⟩ := x
  exact z.elim
/-- what _law_told makes of what a lambda tells: t, its reading -/
def tTold (K : PySem.W.Frag) (t : XK → TE) : TE := fun σ H Q => NdefX.TabsN Tb0 H ∧ ∀ H1, SB none H H1 → ∀ (E : XK) (Q' : VK),
  (∀ D bs H2, bs.length = 11 → KindOf K D bs → PySem.W.exmOne K (.ref D) (.ref (He.ga K "TubError")) = some true → (∀ p H3, SB none H2 H3 → H3 p = some (.tup [.str "refused", .str (kindW bs)]) → Q (.ref p) H3) → E (.ref D) none H2) →
  (∀ v H2, (∀ p H3, SB none H2 H3 → H3 p = some (.tup [.str "told", v]) → Q (.ref p) H3) → Q' v H2) → t E σ H1 Q'
def nmTo : List Str := ["call", "found", "e"]
theorem scTo : FnScope nmTo ["call"] (defScope s__law_told) := ⟨rfl, rfl, rfl, by decide +kernel, rfl, by decide +kernel, by decide +kernel⟩
def spKc (K : PySem.W.Frag) (a : Addr) (cls : Value) (d : Option Addr) : Sp := fun vs H Q E => ∃ D, cls = .ref D ∧ d = none ∧ spKinds K a D vs H Q E
theorem hot1 {A : Around} {a : Addr} {oe : Obj} {cls : Value} {d : Option Addr} (hz : L2N.Zn cls d oe) (hf : ∃ vs, oe.data = .fields vs) : Hot1 (A.mark (some (.ref a))) (a, oe) := by
  obtain ⟨vs, e⟩ := hf
  exact ⟨rfl, vs, e, hz.2.2 vs e⟩
section
variable {X : Cx}
theorem pe_told {k : Nat} {c P : Addr} {q : Str} {params : Arguments} {body : Expr} {scope : Scope} {t : XK → TE} {p lpos pos : Pos} (hg : Gl X "_law_told") (DT : Dk X.K X.mg "_law_told" s__law_told ["call"]) (DK : Dk X.K X.mg "_law_kinds" s__law_kinds ["e"]) (KG : KGl X.K X.mg)
    (gE : X.mg "TubError" = some (.ref (He.ga X.K "TubError"))) (TB : TabB X.base X.mg c P) (hcode : X.env.code = .ref c) (eq : X.env.qual ++ "<lambda>" = q) (hm : P ∈ Nm.tabs) (hq : ∀ l c, Nm.nm P l c = q) (hr : Room (k + 4) X.A) (L : LamS X.env.scope scope) (hdef : defaultsOf params X.env = ([], []))
    (hbind : ∀ (q : Str) (cl : List (Str × Addr)) (pm cv ctv : Value), bindArgs (PySem.W.kla_fn "<lambda>" q params body scope cl pm cv ctv) ⟨[], []⟩ = pure [])
    (hbody : ∀ (A : Around) (outer : List Env) (s : Shared) (H : Hp) (E : XK) (f c' : Addr), Room (k + 2) (A.deeper (lamEnv X scope s.heap.objs.size f c')) → PE (lamN X A outer s H E scope f c') body (t E)) :
    PE X (.Call (.Name "_law_told" p) [.Lambda params body scope lpos] [] pos) (tTold X.K t) := by
  obtain ⟨⟨fdT, UT, bT⟩, gT⟩ := DT
  obtain ⟨⟨fdK, UK, bK⟩, gK⟩ := DK
  obtain ⟨oc, od, dV, kV, doc, pm, an, cdv, ct, osl, rfl, lk, hcd, _, _⟩ := UT.ex
  obtain ⟨oc2, od2, dV2, kV2, doc2, pm2, an2, cdv2, ct2, osl2, rfl, lk2, hcd2, _, _⟩ := UK.ex
  refine ⟨fun pins s σ H Q I ⟨hT, h⟩ => ?_⟩
  refine wpAny_Call_Name_kw (ld_glob I hg gT ?_ (by decide))
  refine PySem.W.callWith_K (h₀ := X.base) I.ok.mod.kin UT.kp ?_ (by rfl) (by rfl)
  show wpAny _ _ (spliced ((false, eval (.Lambda params body scope lpos) X.env) :: backTo pos (starEach [] X.env))) _ _ s
  refine Calls.spliced_cons (lam_mk I TB hcode rfl hm (eq ▸ hq) hT hdef (L.has I.ok) fun f c' pm' ctv H1 s' I1 sb hf hfn hfr hco => Calls.spliced_nil ⟨I1.kIn, ?_⟩)
  have rc : codeAny (model X.prog X.w) X.A (.call (.ref (He.ga X.K "_law_told")) ⟨[.ref f], []⟩) (CR CX0 X.stack X.prog X.w H1 s' Q E0) s' := by
    refine LamX.run_ofS (k := k + 3) (N := nmTo) (ps := ["call"]) (us := [.ref f]) (vs := [.ref f]) lk hcd scTo hr I1.env0 (bT s' [.ref f] I1.kIn rfl) (.cons rfl .nil) rfl fun hr' => ?_
    refine ⟨_, PSs.nox (pss_cons (ps_asg pe_non (pg_name (i := 1) scTo.nd rfl (.inl rfl)))
      (pss_cons (L2N.ps_try_as (i := 2) rfl rfl scTo.nd rfl rfl ⟨rfl, by decide, .inl gE⟩ takes0N
        (fun W pn xe tk _ => pss_one (ps_asg (pe_tup (pa_cons pe_str (pa_cons (pe_actN (CXg := CX0) (Eg := E0) (Ng := nmTo) (i := 0) I1 L hf hfn hfr (hbind _ _ _ _ _) tk hr' (fun A outer s1 HZ E h => hbody A outer s1 HZ E f c' h) rfl (.inl rfl) (by decide) (by decide)) pa_nil))) (pg_name (i := 1) scTo.nd rfl (.inl rfl))))
        (fun a oe cls d pn hz hfl => pss_one (ps_asg (pe_tup (pa_cons pe_str (pa_cons (pe_callHp (k := k + 2) (N := nmK) (a := "e") (sp := spKc X.K a cls d) lk2 hcd2 scKi bK ⟨hr'.dp, hr'.un⟩ (hot1 hz hfl) List.mem_cons_self rfl gK UK.kp (pv 2) (fun A outer s H v Q hot hr hs => by
          obtain ⟨D, rfl, rfl, hs⟩ := hs
          exact body_kinds KG hz.zc hfl hot hr hs)) pa_nil))) (pg_name (i := 1) scTo.nd rfl (.inl rfl)))))
      (pss_one (ps_ret (pv 1))))), ?_⟩
    refine ⟨rfl, hco, h H1 sb _ _ (fun D bs H2 hl hk hx k1 => ?_) fun v H2 k2 => ?_⟩
    · exact ⟨true, hx, fun _ a ha => ⟨_, rfl, D, rfl, rfl, rfl, bs, hl, hk, fun H3 sb3 => ⟨(by show 2 ≤ sizeLine; decide), fun p hp => ⟨_, rfl, k1 p _ (sb3.trans (SB.laid hp)) upd_same⟩⟩⟩, fun z => by cases z⟩
    · exact ⟨(by show 2 ≤ sizeLine; decide), fun p hp => ⟨_, rfl, k2 p _ (SB.laid hp) upd_same⟩⟩
  refine wpAny_call (codeAny_mono rc fun r s2 hq => ?_)
  cases r with
  | error e => exact (show False from hq).elim
  | ok fl =>
    cases fl with
    | ret u => exact I1.after hq
    | next => exact False.elim hq
    | brk => exact False.elim hq
    | cont => exact False.elim hq
end
end K11

set_option maxHeartbeats 0
namespace K11
open PySem PySem.Spec PyProof.Rows L2 Iv
local instance nmZ_K11YV : Iv.Nm := Iv.nmZ
local instance ctI_K11YV : Iv.Ct := ctI
/-! ### a yard's values by the unit -/
def tbD (u : Int) : D := .tuple [.tuple [.str "ann", .int u, .tuple [.tuple [.int 2, .int u, .str ""], .tuple [.int 4, .int (3 * u), .str "bo"]]], .tuple [.str "bo", .int (2 * u), .tuple [.tuple [.int 1, .int (5 * u), .str ""]]]]
def rnD (u : Int) : D := .tuple [.int (3 * u), .int 0]
def qD (a b : Int) : D := frD (mkRat a b.toNat)
def zD : D := .tuple [.int 0, .int 1]
def ksA : List D := [.str "ann", .int 2]
def ksB : List D := [.str "ann", .int 4]
def ksC : List D := [.str "bo", .int 1]
def wnD (a b c : D) : List (D × D) := [(.tuple ksA, a), (.tuple ksB, b), (.tuple ksC, c)]
def nwD (h : Int) (r l p : D) (w : List (D × D)) : D := .tuple [.int h, r, l, p, .dict [(.none, .dict w)]]
def lv (a b : D) : D := .tuple [a, b]
def n0 : D := nwD 0 (.tuple [.int 0, .int 0]) (lv zD zD) (.tuple []) (wnD zD zD zD)
def n1 (u : Int) : D := nwD 0 (rnD u) (lv zD zD) (.tuple []) (wnD zD zD zD)
def w2 (u : Int) : List (D × D) := wnD (qD (4 * u) 3) (qD (2 * u) 3) zD
def w4 (u : Int) : List (D × D) := wnD (qD (4 * u) 3) (qD (11 * u) 3) (qD (5 * u) 3)
def l2 : D := lv (.tuple [.int 4, .int 1]) (.tuple [.int 1, .int 3])
def l4 : D := lv (.tuple [.int 4, .int 1]) (.tuple [.int 1, .int 1])
def n2 (u : Int) : D := nwD 2 (rnD u) l2 (.tuple []) (w2 u)
def n3 (u : Int) : D := nwD 2 (rnD u) l2 (.tuple [.tuple ksA]) (w2 u)
def n4 (u : Int) : D := nwD 3 (rnD u) l4 (.tuple [.tuple ksA]) (w4 u)
structure YV (F : FT) (u : Int) : Prop where
  are : F "are_tubs" [.fz (tbD u)] none = some (.fz (.bool true), none)
  first : F "at_first" [.fz (tbD u)] none = some (.fz n0, none)
  isr : F "is_rain" [.fz (tbD u), .fz (rnD u)] none = some (.fz (.bool true), none)
  wr : F "with_rain" [.fz n0, .fz (rnD u)] none = some (.fz (n1 u), none)
  wh2 : F "is_whole_within" [.fz (.int 2), .fz (.int 1), .fz (.int 1000)] none = some (.fz (.bool true), none)
  wh1 : F "is_whole_within" [.fz (.int 1), .fz (.int 1), .fz (.int 1000)] none = some (.fz (.bool true), none)
  ah2 : F "after_hours" [.fz (tbD u), .fz (n1 u), .fz (.int 2)] none = some (.fz (n2 u), none)
  ah1 : F "after_hours" [.fz (tbD u), .fz (n3 u), .fz (.int 1)] none = some (.fz (n4 u), none)
  ways : F "ways_away" [.fz (tbD u)] none = some (.ow (.list [.tuple ksA, .tuple ksC]), none)
  holes : F "holes_of" [.fz (tbD u)] none = some (.ow (.list [.tuple ksA, .tuple ksB, .tuple ksC]), none)
  hA : F "is_hole_of" [.fz (tbD u), .fz (.tuple ksA)] none = some (.fz (.bool true), none)
  hB : F "is_hole_of" [.fz (tbD u), .fz (.tuple ksB)] none = some (.fz (.bool true), none)
  hC : F "is_hole_of" [.fz (tbD u), .fz (.tuple ksC)] none = some (.fz (.bool true), none)
  wp : F "with_plugs" [.fz (n2 u), .fz (.tuple [.tuple ksA])] none = some (.fz (n3 u), none)
  p1 : F "plus" [.fz zD, .fz (qD (4 * u) 3)] none = some (.fz (qD (4 * u) 3), none)
  p2 : F "plus" [.fz (qD (4 * u) 3), .fz zD] none = some (.fz (qD (4 * u) 3), none)
  lo4 : F "_law_lowest" [.fz (.int (4 * u)), .fz (.int 3)] none = some (.fz (qD (4 * u) 3), none)
  lo11 : F "_law_lowest" [.fz (.int (11 * u)), .fz (.int 3)] none = some (.fz (qD (11 * u) 3), none)
  lo2 : F "_law_lowest" [.fz (.int (2 * u)), .fz (.int 3)] none = some (.fz (qD (2 * u) 3), none)
theorem yvG_1 : YV (GG 14) 1 := ⟨by kernel_rfl, by kernel_rfl, by kernel_rfl, by kernel_rfl, by kernel_rfl, by kernel_rfl, by kernel_rfl, by kernel_rfl, by kernel_rfl, by kernel_rfl, by kernel_rfl, by kernel_rfl, by kernel_rfl, by kernel_rfl, by kernel_rfl, by kernel_rfl, by kernel_rfl, by kernel_rfl, by kernel_rfl⟩
theorem yvG_2 : YV (GG 14) 2 := ⟨by kernel_rfl, by kernel_rfl, by kernel_rfl, by kernel_rfl, by kernel_rfl, by kernel_rfl, by kernel_rfl, by kernel_rfl, by kernel_rfl, by kernel_rfl, by kernel_rfl, by kernel_rfl, by kernel_rfl, by kernel_rfl, by kernel_rfl, by kernel_rfl, by kernel_rfl, by kernel_rfl, by kernel_rfl⟩
theorem yvG_3 : YV (GG 14) 3 := ⟨by kernel_rfl, by kernel_rfl, by kernel_rfl, by kernel_rfl, by kernel_rfl, by kernel_rfl, by kernel_rfl, by kernel_rfl, by kernel_rfl, by kernel_rfl, by kernel_rfl, by kernel_rfl, by kernel_rfl, by kernel_rfl, by kernel_rfl, by kernel_rfl, by kernel_rfl, by kernel_rfl, by kernel_rfl⟩
theorem yvG_4 : YV (GG 14) 4 := ⟨by kernel_rfl, by kernel_rfl, by kernel_rfl, by kernel_rfl, by kernel_rfl, by kernel_rfl, by kernel_rfl, by kernel_rfl, by kernel_rfl, by kernel_rfl, by kernel_rfl, by kernel_rfl, by kernel_rfl, by kernel_rfl, by kernel_rfl, by kernel_rfl, by kernel_rfl, by kernel_rfl, by kernel_rfl⟩
theorem yvG_5 : YV (GG 14) 5 := ⟨by kernel_rfl, by kernel_rfl, by kernel_rfl, by kernel_rfl, by kernel_rfl, by kernel_rfl, by kernel_rfl, by kernel_rfl, by kernel_rfl, by kernel_rfl, by kernel_rfl, by kernel_rfl, by kernel_rfl, by kernel_rfl, by kernel_rfl, by kernel_rfl, by kernel_rfl, by kernel_rfl, by kernel_rfl⟩
theorem yvG_6 : YV (GG 14) 6 := ⟨by kernel_rfl, by kernel_rfl, by kernel_rfl, by kernel_rfl, by kernel_rfl, by kernel_rfl, by kernel_rfl, by kernel_rfl, by kernel_rfl, by kernel_rfl, by kernel_rfl, by kernel_rfl, by kernel_rfl, by kernel_rfl, by kernel_rfl, by kernel_rfl, by kernel_rfl, by kernel_rfl, by kernel_rfl⟩
theorem yvG_7 : YV (GG 14) 7 := ⟨by kernel_rfl, by kernel_rfl, by kernel_rfl, by kernel_rfl, by kernel_rfl, by kernel_rfl, by kernel_rfl, by kernel_rfl, by kernel_rfl, by kernel_rfl, by kernel_rfl, by kernel_rfl, by kernel_rfl, by kernel_rfl, by kernel_rfl, by kernel_rfl, by kernel_rfl, by kernel_rfl, by kernel_rfl⟩
theorem yvG_8 : YV (GG 14) 8 := ⟨by kernel_rfl, by kernel_rfl, by kernel_rfl, by kernel_rfl, by kernel_rfl, by kernel_rfl, by kernel_rfl, by kernel_rfl, by kernel_rfl, by kernel_rfl, by kernel_rfl, by kernel_rfl, by kernel_rfl, by kernel_rfl, by kernel_rfl, by kernel_rfl, by kernel_rfl, by kernel_rfl, by kernel_rfl⟩
theorem yvG_9 : YV (GG 14) 9 := ⟨by kernel_rfl, by kernel_rfl, by kernel_rfl, by kernel_rfl, by kernel_rfl, by kernel_rfl, by kernel_rfl, by kernel_rfl, by kernel_rfl, by kernel_rfl, by kernel_rfl, by kernel_rfl, by kernel_rfl, by kernel_rfl, by kernel_rfl, by kernel_rfl, by kernel_rfl, by kernel_rfl, by kernel_rfl⟩
theorem yvG_10 : YV (GG 14) 10 := ⟨by kernel_rfl, by kernel_rfl, by kernel_rfl, by kernel_rfl, by kernel_rfl, by kernel_rfl, by kernel_rfl, by kernel_rfl, by kernel_rfl, by kernel_rfl, by kernel_rfl, by kernel_rfl, by kernel_rfl, by kernel_rfl, by kernel_rfl, by kernel_rfl, by kernel_rfl, by kernel_rfl, by kernel_rfl⟩
theorem yv (u : Int) (h1 : 1 ≤ u) (h2 : u ≤ 10) : YV (FF 14) u := by
  rw [← GG_eq]
  have : u = 1 ∨ u = 2 ∨ u = 3 ∨ u = 4 ∨ u = 5 ∨ u = 6 ∨ u = 7 ∨ u = 8 ∨ u = 9 ∨ u = 10 := by omega
  rcases this with rfl | rfl | rfl | rfl | rfl | rfl | rfl | rfl | rfl | rfl
  · exact yvG_1
  · exact yvG_2
  · exact yvG_3
  · exact yvG_4
  · exact yvG_5
  · exact yvG_6
  · exact yvG_7
  · exact yvG_8
  · exact yvG_9
  · exact yvG_10
end K11

set_option maxHeartbeats 4000000
namespace K11
open PySem PySem.Spec PyProof.Rows L2 Iv LamX L2H HotX
local instance ctI_K11YH : Iv.Ct := ctI
variable [Nm]
def nmY : List Str := ["u", "yard", "found"]
abbrev SY : Sx := { N := nmY, sc := defScope (topS 106), gl := tbl.gl }
theorem scY : FnScope nmY ["u"] (defScope (topS 106)) := ⟨rfl, rfl, rfl, by decide +kernel, rfl, by decide +kernel, by decide +kernel⟩
def scLam : Scope := { kind := .function, names := [("yard", .free)], isGenerator := false, isCoroutine := false }
theorem lamSY : LamX.LamS (defScope (topS 106)) scLam := LamX.lamS_by (by decide +kernel)
theorem ten {u : Int} (h1 : 1 ≤ u) (h2 : u ≤ 10) : u = 1 ∨ u = 2 ∨ u = 3 ∨ u = 4 ∨ u = 5 ∨ u = 6 ∨ u = 7 ∨ u = 8 ∨ u = 9 ∨ u = 10 := by omega
/-- all the methods keep their promises -/
structure Meths (P : Program) (w : World) (K : PySem.W.Frag) (mg : Str → Option Value) (base : Heap) (F : FT) : Prop where
  mak : ∃ fI fdI, Mk K (yC K) fI ∧ FnOk P w K mg base (L2N.CX P w) 15 fI fdI ["self", "tubs"] (spInit K (yC K) F) ∧ L2.Binds K fdI ["self", "tubs"] []
  rain : MOk P w K mg base (L2N.CX P w) 15 "set_rain" ["self", "rain"] (spRain K (yC K) F)
  goOn : MOk P w K mg base (L2N.CX P w) 15 "go_on" ["self", "hours"] (spGoOn K (yC K) F)
  plug : MOk P w K mg base (L2N.CX P w) 16 "plug" ["self", "hole"] (spPlug K (yC K) F)
  back : MOk P w K mg base (L2N.CX P w) 1 "back" ["self"] (spBack K (yC K))
  hour : MOk P w K mg base CX0 1 "hour" ["self"] (spPart K (yC K) 0)
  heights : MOk P w K mg base CX0 1 "heights" ["self"] (spPart K (yC K) 2)
  plugged : MOk P w K mg base CX0 1 "plugged" ["self"] (spPart K (yC K) 3)
  through : MOk P w K mg base (L2N.CX P w) 16 "through" ["self", "hole"] (spThrough K (yC K) F)
  away : MOk P w K mg base CX0 17 "away" ["self"] (spAway K (yC K) F)
  len : MOk P w K mg base CX0 16 "__len__" ["self"] (spLen K (yC K) F)
theorem we_ev {X : Cx} {F : FT} {S : Sx} {e : Expr} {σ : L2.St} {H : Hp} {O : Addr → Prop} {env : Env'} {r : R} {Q : VK} (C : CxS F S X) (rel : Rel X.K none O H O σ H env none) (he : (ev whR F 60).e S e env none = some (r, none))
    (q : ∀ v H', SB none H H' → ResAt X.K none O H H' v r → Q v H') : We X e σ H Q := (ev_ok whR_ok 60).e C e rel he fun v H' sb _ rs => q v H' sb rs
theorem rel_of {K : PySem.W.Frag} {O : Addr → Prop} {H : Hp} {u : Int} {y z : Option V} (wd : Wd O H) : Rel K none O H O [some (.int u), y, z] H [some (.fz (.int u)), none, none] none where
  sl := fun i r e => by
    match i, e with
    | 0, e => cases e; exact ⟨.int u, rfl, .int u⟩
    | 1, e => cases e
    | 2, e => cases e
    | n + 3, e => cases e
  ne := fun i j d e a _ h => by
    match i, h with
    | 0, h => cases h
    | 1, h => cases h
    | 2, h => cases h
    | n + 3, h => cases h
  fr := fun i d a h => by
    match i, h with
    | 0, h => cases h
    | 1, h => cases h
    | 2, h => cases h
    | n + 3, h => cases h
  len := rfl
  sub := fun _ h => h
  dom := wd.dom
  dom0 := wd.nn
  sb := SB.refl
  bag := rfl
  bO := fun b z => by cases z
  tabs := wd.tabs
theorem sb_mvs {M : Addr → Prop} {H0 Ha Hb : Hp} (s : SB none H0 Ha) (m : Mv M Ha Hb) (h : ∀ a, M a → H0 a = none) : SB none H0 Hb :=
  ⟨fun a o _ t e => m.go a o (fun z => by rw [h a z] at e; cases e) t (s.go a o (fun z => by cases z) t e), fun a _ e => s.dm a (fun z => by cases z) (m.dm a e), fun t => m.tb (s.tb t)⟩
theorem SB.wk {β : Option Addr} {H H' : Hp} (s : SB none H H') : SB β H H' := ⟨fun a o _ t e => s.go a o (fun z => by cases z) t e, fun a _ e => s.dm a (fun z => by cases z) e, s.tb⟩
theorem passLam {X : Cx} {A : Around} {outer : List Env} {s : Shared} {H : Hp} {E : XK} {scope : Scope} {f c' : Addr} : Passes (L2N.CX X.prog X.w) (lamN X A outer s H E scope f c') E := fun pins σ H' s' e s'' I c =>
  (L2N.takes_of (X := lamN X A outer s H E scope f c') (E := E) rfl rfl rfl rfl) e s'' (L2N.XE.of_call (X := lamN X A outer s H E scope f c') I (fun _ _ _ z => z) c)
section
variable {P : Program} {w : World} {K : PySem.W.Frag} {mg : Str → Option Value} {base : Heap} {F : FT}
/-- how it stands: all from H0 on, the yard, what is owned -/
structure Stp (K : PySem.W.Frag) (H0 H : Hp) (O : Addr → Prop) (x l : Addr) (t n : D) (ps : List D) : Prop where
  sb : SB none H0 H
  y : YardAt (yC K) K O H x l t n ps
  wd : Wd O H
  fx : H0 x = none
  fl : H0 l = none
theorem Stp.step {H0 H H' : Hp} {O : Addr → Prop} {x l : Addr} {t n : D} {ps : List D} (s : Stp K H0 H O x l t n ps) (b : SB none H H') : Stp K H0 H' O x l t n ps := ⟨s.sb.trans b, s.y.sb b, s.wd.sb b, s.fx, s.fl⟩
theorem Stp.to {H0 H H' : Hp} {O : Addr → Prop} {x l : Addr} {t n n' : D} {ps ps' : List D} (s : Stp K H0 H O x l t n ps) (m : Mv (yb x l) H H') (y : YardAt (yC K) K O H' x l t n' ps') : Stp K H0 H' O x l t n' ps' :=
  ⟨sb_mvs s.sb m (fun a h => h.elim (fun z => z ▸ s.fx) fun z => z ▸ s.fl), y, y.wd s.wd m, s.fx, s.fl⟩
theorem Stp.app {H0 H : Hp} {O : Addr → Prop} {x l p : Addr} {t n : D} {ps : List D} {xs ys : List V} (s : Stp K H0 H O x l t n ps) (hp : H p = some (.lst xs)) (op : O p) (p0 : H0 p = none) (nx : p ≠ x) (nl : p ≠ l) : Stp K H0 (upd H p (.lst ys)) O x l t n ps :=
  ⟨sb_mvs s.sb (Mv.put (M := fun a => a = p) hp rfl rfl) (fun a z => z ▸ p0), s.y.mv (Mv.put (M := fun a => a = p) hp rfl rfl) (fun a z => z ▸ op) (fun z => nx z.symm) (fun z => nl z.symm), s.wd.put hp rfl rfl, s.fx, s.fl⟩
theorem Stp.new {H0 H : Hp} {O : Addr → Prop} {x l p : Addr} {t n : D} {ps : List D} {ys : List V} (s : Stp K H0 H O x l t n ps) (hp : H p = none) : Stp K H0 (upd H p (.lst ys)) (orO O p) x l t n ps :=
  ⟨s.sb.trans (SB.laid hp), yard_new s.y hp (fun a o na _ e => by rw [upd_ne na]; exact e), (s.wd.sb (SB.laid hp)).add ⟨_, upd_same, rfl⟩, s.fx, s.fl⟩
theorem run_yard {E : XK} {f : Addr} {cdv : Value} {A : Around} {outer : List Env} {s : Shared} {H : Hp} {Q : VK} {u : Int} {Oo : Addr → Prop} {c P0 : Addr} (hc : cdv = .ref c) (h1 : 1 ≤ u) (h2 : u ≤ 10) (T : Txt K mg) (M : Meths P w K mg base F) (W : YV F u) (C : CxS F SY (cxOf CX0 P w K mg base nmY "_law_yard_told" (defScope (topS 106)) f cdv A outer s H E).nox)
    (DT : Dk K mg "_law_told" s__law_told ["call"]) (DK : Dk K mg "_law_kinds" s__law_kinds ["e"]) (KG : KGl K mg) (gE : mg "TubError" = some (.ref (He.ga K "TubError"))) (kp : KindOf K (He.ga K "Plugged") [true, false, false, false, false, false, false, false, false, false, true])
    (hx : PySem.W.exmOne K (.ref (He.ga K "Plugged")) (.ref (He.ga K "TubError")) = some true) (TB : TabB base mg c P0) (hm : P0 ∈ Nm.tabs) (hq : ∀ l c, Nm.nm P0 l c = "_law_yard_told.<locals>.<lambda>") (hr : Room 19 (A.deeper (envOfC "_law_yard_told" (defScope (topS 106)) s.heap.objs.size f cdv)))
    (wd0 : Wd Oo H) (k : ∀ p H', SB none H H' → H p = none → H' p = some (.lst (List.replicate 8 (V.bl true))) → Q (.ref p) H') :
    ∃ t, PSs (cxOf CX0 P w K mg base nmY "_law_yard_told" (defScope (topS 106)) f cdv A outer s H E) (defBody (topS 106)) t ∧ t { nx := fun _ H' => Q .non H', rt := Q } (L2.start nmY [.int u]) H := by
  obtain ⟨fI, fdI, mI, GI, bI⟩ := M.mak
  obtain ⟨⟨fdR, GR, bR⟩, mR⟩ := M.rain
  obtain ⟨⟨fdG, GG', bG⟩, mG⟩ := M.goOn
  obtain ⟨⟨fdP, GP, bP⟩, mP⟩ := M.plug
  obtain ⟨⟨fdB, GB, bB⟩, mB⟩ := M.back
  obtain ⟨⟨fdH, GH, bH⟩, mH⟩ := M.hour
  obtain ⟨⟨fdE, GE, bE⟩, mE⟩ := M.heights
  obtain ⟨⟨fdL, GL, bL⟩, mL⟩ := M.plugged
  obtain ⟨⟨fdT, GT, bT⟩, mT⟩ := M.through
  obtain ⟨⟨fdA, GA, bA⟩, mA⟩ := M.away
  obtain ⟨⟨fdN, GN, bN⟩, mN⟩ := M.len
  have r16 := hr.mono (show 16 ≤ 19 by decide)
  have r15 := hr.mono (show 15 ≤ 19 by decide)
  have r17 := hr.mono (show 17 ≤ 19 by decide)
  have r1 := hr.mono (show 1 ≤ 19 by decide)
  have r18 := hr.mono (show 18 ≤ 19 by decide)
  have hu : (A.deeper (envOfC "_law_yard_told" (defScope (topS 106)) s.heap.objs.size f cdv)).units + 65 < cLine := by have := hr.un; omega
  refine ⟨_, PSs.nox (pss_cons (ps_asg (pe_make (E := E0) mI GI r16 rfl T.mgC bI .nil passN0 (pa_cons (we_pe _ _) pa_nil)) (pg_name (i := 1) scY.nd rfl (.inr rfl)))
    (pss_cons (ps_expr (pe_meth (E := E0) (pv 1) T.cl mR GR r15 bR .nil passN0 (pa_cons (we_pe _ _) pa_nil)))
    (pss_cons (ps_expr (pe_meth (E := E0) (pv 1) T.cl mG GG' r15 bG .nil passN0 (pa_cons pe_int pa_nil)))
    (pss_cons (ps_asg (pe_lst (pa_cons (pe_cmpR (wo_op _ _) (pe_meth0 (E := E0) (pv 1) T.cl mE GE r1 bE .nil pass0) (we_pe _ _) rfl) (pa_cons (pe_cmpR (wo_op _ _) (pe_meth0 (E := E0) (pv 1) T.cl mA GA r17 bA .nil pass0) (we_pe _ _) rfl)
      (pa_cons (pe_cmpR op_eq (pe_callB (call_lenO mN GN r17 bN) rfl T.len PySem.boot_len (pa_cons (pv 1) pa_nil)) pe_int rfl) pa_nil)))) (pg_name (i := 2) scY.nd rfl (.inl rfl)))
    (pss_cons (ps_expr (pe_meth (E := E0) (pv 1) T.cl mP GP r16 bP .nil passN0 (pa_cons (we_pe _ _) pa_nil)))
    (pss_cons (ps_expr (pe_meth (E := E0) (pv 1) T.cl mG GG' r15 bG .nil passN0 (pa_cons pe_int pa_nil)))
    (pss_cons (ps_expr (pe_bm PySem.F.plainAttrs_list PySem.F.slot_list_append PySem.F.type_list_append mt_append (pv 2) (pa_cons (pe_and (pe_cmpR (wo_op _ _) (pe_meth0 (E := E0) (pv 1) T.cl mE GE r1 bE .nil pass0) (we_pe _ _) rfl)
      (pe_one (pe_cmpR (wo_op _ _) (pe_meth (E := E0) (pv 1) T.cl mT GT r16 bT .nil passN0 (pa_cons (we_pe _ _) pa_nil)) (we_pe _ _) rfl))) pa_nil)))
    (pss_cons (ps_expr (pe_bm PySem.F.plainAttrs_list PySem.F.slot_list_append PySem.F.type_list_append mt_append (pv 2) (pa_cons (pe_and (pe_cmpR (wo_op _ _) (pe_told (k := 14) (c := c) (P := P0) rfl DT DK KG gE TB hc rfl hm hq r18 lamSY rfl (fun _ _ _ _ _ => rfl)
        (fun A2 outer2 s2 H2 E2 f2 c2 hr2 => pe_meth (E := E2) (pv 1) T.cl mP GP hr2 bP .nil passLam (pa_cons (pe_tup (pa_cons pe_str (pa_cons pe_int pa_nil))) pa_nil))) (we_pe _ _) rfl)
      (pe_one (pe_cmpR op_eq (pe_meth0 (E := E0) (pv 1) T.cl mH GH r1 bH .nil pass0) pe_int rfl))) pa_nil)))
    (pss_cons (ps_expr (pe_meth0 (E := E0) (pv 1) T.cl mB GB r1 bB .nil passN0))
    (pss_cons (ps_expr (pe_meth0 (E := E0) (pv 1) T.cl mB GB r1 bB .nil passN0))
    (pss_one (ps_ret (pe_op op_cat (pv 2) (pe_lst (pa_cons (pe_cmpR (wo_op _ _) (pe_meth0 (E := E0) (pv 1) T.cl mL GL r1 bL .nil pass0) (we_pe _ _) rfl) (pa_cons (pe_cmpR op_eq (pe_meth0 (E := E0) (pv 1) T.cl mH GH r1 bH .nil pass0) pe_int rfl)
      (pa_cons (pe_cmpR (wo_op _ _) (pe_meth (E := E0) (pv 1) T.cl mT GT r16 bT .nil passN0 (pa_cons (we_pe _ _) pa_nil)) (we_pe _ _) rfl) pa_nil))))))))))))))))), ?_⟩
  have fzs : ∀ {Ha Hb : Hp} {O : Addr → Prop} {v : V} {d : D}, SB none Ha Hb → Rp K (Fz O Ha) v d → Rp K (Fz O Hb) v d := fun sb h => h.mono ((sb.mv (M := fun _ => False)).fz fun _ z => z.elim)
  have tp : ∀ {Ha : Hp} {O : Addr → Prop} {v : V} {d : D}, Rp K (Fz O Ha) v d → TopAt K none O Ha v d := fun h => top_of_rp (fun b z => by cases z) h
  -- the yard is made
  refine we_ev (r := .fz (tbD u)) C (rel_of wd0) (by rcases ten h1 h2 with rfl | rfl | rfl | rfl | rfl | rfl | rfl | rfl | rfl | rfl <;> kernel_rfl) fun vT Ha sba rT => fun x dx hx hdx nd => ?_
  have nx : ¬ Oo x := fun z => (wd0.sb sba).nn x z hx
  have sb2 : SB none Ha (upd (upd Ha dx (.own x)) x (.ins (yC K) dx [])) := (SB.laid hdx).trans (SB.laid (by rw [upd_ne nd.symm]; exact hx))
  refine ⟨Oo, x, dx, vT, tbD u, true, rfl, upd_same, nx, (wd0.sb sba).sb sb2, fzs sb2 rT, W.are, (fun z => by cases z), fun _ => ⟨n0, W.first, fun l H3 hl m3 Y3 => ⟨rfl, ?_⟩⟩⟩
  have hx0 : H x = none := sba.dm x (fun z => by cases z) hx
  have hl0 : H l = none := sba.dm l (fun z => by cases z) (sb2.dm l (fun z => by cases z) hl)
  have wd3 : Wd (orO (orO Oo x) l) H3 := ⟨fun a ha => by
    rcases ha with (ha | ha) | ha
    · obtain ⟨o, e, p⟩ := ((wd0.sb sba).sb sb2).dom a ha
      exact ⟨o, m3.go a o (fun z => nx (z ▸ ha)) (plain_noTbl p) e, p⟩
    · obtain ⟨_, _, _, e, _⟩ := Y3.ob; rw [ha]; exact ⟨_, e, rfl⟩
    · obtain ⟨_, e, _⟩ := Y3.ls; rw [ha]; exact ⟨_, e, rfl⟩, m3.tb (sb2.tb (sba.tb wd0.tabs))⟩
  have S3 : Stp K H H3 (orO (orO Oo x) l) x l (tbD u) n0 [] := ⟨sb_mvs (sba.trans sb2) m3 (fun a z => z ▸ hx0), Y3, wd3, hx0, hl0⟩
  generalize orO (orO Oo x) l = O at S3
  clear m3 Y3 wd3 sb2 nx rT sba hx hdx nd hl
  -- rain
  obtain ⟨_, _, _, e3, _⟩ := S3.y.ob
  refine ⟨_, rfl, x, _, _, rfl, e3, yf_no (by decide +kernel), we_ev (r := .fz (rnD u)) C (rel_of S3.wd) (by rcases ten h1 h2 with rfl | rfl | rfl | rfl | rfl | rfl | rfl | rfl | rfl | rfl <;> kernel_rfl) fun vR H4 sb4 rR => ?_⟩
  have S4 := S3.step sb4
  refine ⟨O, x, l, tbD u, n0, [], vR, rnD u, true, rfl, S4.y, (by decide), S4.wd, rR, W.isr, (fun z => by cases z), fun _ => ⟨n1 u, W.wr, fun H5 m5 Y5 => ?_⟩⟩
  have S5 := S4.to m5 Y5
  clear S3 S4 e3 m5 Y5 sb4 rR
  -- two hours
  obtain ⟨_, _, _, e5, _⟩ := S5.y.ob
  refine ⟨_, rfl, x, _, _, rfl, e5, yf_no (by decide +kernel), O, x, l, tbD u, n1 u, [n0], _, .int 2, true, rfl, S5.y, (by decide), S5.wd, .int _, W.wh2, (fun z => by cases z), fun _ => ⟨n2 u, W.ah2, fun H6 m6 Y6 => ?_⟩⟩
  have S6 := S5.to m6 Y6
  clear S5 e5 m6 Y6
  -- what it tells
  obtain ⟨_, _, _, e6, _⟩ := S6.y.ob
  refine ⟨_, rfl, x, _, _, rfl, e6, yf_no (by decide +kernel), O, x, l, tbD u, _, [n0, n1 u], l2, rfl, S6.y, rfl, rfl, fun v1 q1 => we_ev (r := .fz l2) C (rel_of S6.wd) (by rcases ten h1 h2 with rfl | rfl | rfl | rfl | rfl | rfl | rfl | rfl | rfl | rfl <;> kernel_rfl) fun y1 H7 sb7 r7 => ?_⟩
  refine cmpD_ok (β := none) hu (b := true) (by kernel_rfl) (tp (fzs sb7 q1)) (tp r7) ?_
  have S7 := S6.step sb7
  obtain ⟨_, _, _, e7, _⟩ := S7.y.ob
  refine ⟨_, rfl, x, _, _, rfl, e7, yf_no (by decide +kernel), O, x, l, tbD u, _, _, _, _, w2 u, [n0, n1 u], _, qD (4 * u) 3, rfl, S7.y, S7.wd, W.ways, .cons W.hA rfl rfl W.p1 (.cons W.hC rfl rfl W.p2 (.nil _)), fun v2 H8 sb8 q2 => we_ev (r := .fz (qD (4 * u) 3)) C (rel_of (S7.step sb8).wd) (Eq.trans (b := F "_law_lowest" [.fz (.int (4 * u)), .fz (.int 3)] none) (by rcases ten h1 h2 with rfl | rfl | rfl | rfl | rfl | rfl | rfl | rfl | rfl | rfl <;> kernel_rfl) W.lo4) fun y2 H9 sb9 r9 => ?_⟩
  refine cmpD_ok (β := none) hu (b := true) (by rcases ten h1 h2 with rfl | rfl | rfl | rfl | rfl | rfl | rfl | rfl | rfl | rfl <;> kernel_rfl) (tp (fzs sb9 q2)) (tp r9) ?_
  have S9 := (S7.step sb8).step sb9
  obtain ⟨_, _, _, e9, _⟩ := S9.y.ob
  refine ⟨_, rfl, x, _, _, rfl, e9, O, x, l, tbD u, _, _, _, _, [], [n0, n1 u], _, rfl, S9.y, S9.wd, W.holes, (by show 3 < sizeLine; decide), (fun h hh => by
    rcases List.mem_cons.mp hh with rfl | hh
    · exact ⟨true, by kernel_rfl⟩
    rcases List.mem_cons.mp hh with rfl | hh
    · exact ⟨true, by kernel_rfl⟩
    rcases List.mem_cons.mp hh with rfl | hh
    · exact ⟨true, by kernel_rfl⟩
    · cases hh), fun H10 sb10 => ⟨3, (by kernel_rfl), (by decide), (by decide), ?_⟩⟩
  have S10 := S9.step sb10
  clear S6 S7 S9 e6 e7 e9 q1 q2 r7 r9 sb7 sb8 sb9 sb10
  have d3 : decide (V.int 3 = V.int 3) = true := decide_eq_true rfl
  refine ⟨rfl, ?_⟩
  rw [d3]
  refine ⟨(by show 3 ≤ sizeLine; decide), fun p hp => ?_⟩
  have p0 : H p = none := S10.sb.dm p (fun z => by cases z) hp
  generalize hH : upd H10 p _ = H11
  have S11 : Stp K H H11 (orO O p) x l (tbD u) (n2 u) [n0, n1 u] := by rw [← hH]; exact S10.new hp
  have a11 : H11 p = some (.lst (List.replicate 3 (V.bl true))) := by rw [← hH]; exact upd_same
  clear hH
  have op : orO O p p := .inr rfl
  have npx : p ≠ x := fun z => by obtain ⟨_, _, _, e, _⟩ := S10.y.ob; rw [← z, hp] at e; cases e
  have npl : p ≠ l := fun z => by obtain ⟨_, e, _⟩ := S10.y.ls; rw [← z, hp] at e; cases e
  generalize orO O p = O' at S11 op
  have lk : ∀ {Ha Hb : Hp} {xs : List V}, SB none Ha Hb → Ha p = some (.lst xs) → Hb p = some (.lst xs) := fun sb e => sb.go _ _ (fun z => by cases z) rfl e
  have lm : ∀ {Ha Hb : Hp} {xs : List V}, Mv (yb x l) Ha Hb → Ha p = some (.lst xs) → Hb p = some (.lst xs) := fun m e => m.go _ _ (fun z => z.elim npx npl) rfl e
  clear S10
  -- a plug
  obtain ⟨_, _, _, e11, _⟩ := S11.y.ob
  refine ⟨_, rfl, x, _, _, rfl, e11, yf_no (by decide +kernel), we_ev (r := .fz (.tuple ksA)) C (rel_of S11.wd) (by rcases ten h1 h2 with rfl | rfl | rfl | rfl | rfl | rfl | rfl | rfl | rfl | rfl <;> kernel_rfl) fun vk H12 sb12 rk => ?_⟩
  have S12 := S11.step sb12
  refine ⟨O', x, l, tbD u, _, _, _, _, [], [n0, n1 u], vk, .tuple ksA, true, rfl, S12.y, (by show 2 < 1000; decide), S12.wd, rk, W.hA, (fun z => by cases z), fun _ => ⟨false, (by kernel_rfl), (fun z => by cases z), fun _ => ⟨(by decide), n3 u, W.wp, fun H13 m13 Y13 => ?_⟩⟩⟩
  have S13 := S12.to m13 Y13
  have a13 := lm m13 (lk sb12 a11)
  clear S11 S12 e11 a11 sb12 m13 Y13 rk
  -- an hour
  obtain ⟨_, _, _, e13, _⟩ := S13.y.ob
  refine ⟨_, rfl, x, _, _, rfl, e13, yf_no (by decide +kernel), O', x, l, tbD u, n3 u, [n0, n1 u, n2 u], _, .int 1, true, rfl, S13.y, (by show 3 < 1000; decide), S13.wd, .int _, W.wh1, (fun z => by cases z), fun _ => ⟨n4 u, W.ah1, fun H14 m14 Y14 => ?_⟩⟩
  have S14 := S13.to m14 Y14
  have a14 := lm m14 a13
  clear S13 e13 a13 m14 Y14
  -- what it tells then
  obtain ⟨_, _, _, e14, _⟩ := S14.y.ob
  refine ⟨_, rfl, .inl ⟨rfl, _, SqL.of a14⟩, ?_⟩
  refine ⟨_, rfl, x, _, _, rfl, e14, yf_no (by decide +kernel), O', x, l, tbD u, _, [n0, n1 u, n2 u, n3 u], l4, rfl, S14.y, rfl, rfl, fun v1 q1 => we_ev (r := .fz l4) C (rel_of S14.wd) (by rcases ten h1 h2 with rfl | rfl | rfl | rfl | rfl | rfl | rfl | rfl | rfl | rfl <;> kernel_rfl) fun y1 H15 sb15 r15 => ?_⟩
  refine cmpD_ok (β := none) hu (b := true) (by kernel_rfl) (tp (fzs sb15 q1)) (tp r15) ⟨true, rfl, iteT ?_⟩
  have S15 := S14.step sb15
  have a15 := lk sb15 a14
  obtain ⟨_, _, _, e15, _⟩ := S15.y.ob
  refine ⟨_, rfl, x, _, _, rfl, e15, yf_no (by decide +kernel), we_ev (r := .fz (.tuple ksB)) C (rel_of S15.wd) (by rcases ten h1 h2 with rfl | rfl | rfl | rfl | rfl | rfl | rfl | rfl | rfl | rfl <;> kernel_rfl) fun vk H16 sb16 rk => ?_⟩
  have S16 := S15.step sb16
  refine ⟨O', x, l, tbD u, _, _, _, _, w4 u, [n0, n1 u, n2 u, n3 u], vk, ksB, true, rfl, S16.y, S16.wd, rk, W.hB, (fun z => by cases z), fun _ => ⟨[.inr "ann", .inl 4], qD (11 * u) 3, rfl, rfl, fun v2 H17 sb17 q2 => we_ev (r := .fz (qD (11 * u) 3)) C (rel_of (S16.step sb17).wd) (Eq.trans (b := F "_law_lowest" [.fz (.int (11 * u)), .fz (.int 3)] none) (by rcases ten h1 h2 with rfl | rfl | rfl | rfl | rfl | rfl | rfl | rfl | rfl | rfl <;> kernel_rfl) W.lo11) fun y2 H18 sb18 r18 => ?_⟩⟩
  refine cmpD_ok (β := none) hu (b := true) (by rcases ten h1 h2 with rfl | rfl | rfl | rfl | rfl | rfl | rfl | rfl | rfl | rfl <;> kernel_rfl) (tp (fzs sb18 q2)) (tp r18) ?_
  have S18 := (S16.step sb17).step sb18
  have a18 := lk sb18 (lk sb17 (lk sb16 a15))
  clear S14 S15 S16 e14 e15 a14 a15 q1 r15 rk q2 r18 sb15 sb16 sb17 sb18
  refine ⟨p, _, _, rfl, rfl, a18, (by show 3 < sizeLine; decide), ?_⟩
  generalize hH : upd H18 p _ = H19
  have S19 : Stp K H H19 O' x l (tbD u) (n4 u) [n0, n1 u, n2 u, n3 u] := by rw [← hH]; exact S18.app a18 op p0 npx npl
  have a19 : H19 p = some (.lst (List.replicate 4 (V.bl true))) := by rw [← hH]; exact upd_same
  clear hH S18 a18
  -- a plug that is refused
  refine ⟨_, rfl, .inl ⟨rfl, _, SqL.of a19⟩, ?_⟩
  refine ⟨S19.wd.tabs, fun H20 sb20 E20 Q' hE hQ => ?_⟩
  have S20 := S19.step sb20
  have a20 := lk sb20 a19
  obtain ⟨_, _, _, e20, _⟩ := S20.y.ob
  refine ⟨_, rfl, x, _, _, rfl, e20, yf_no (by decide +kernel), (by show 2 ≤ sizeLine; decide), fun pk hpk => ?_⟩
  have sb21 : SB none H20 (upd H20 pk (.tup [.str "ann", .int 2])) := SB.laid hpk
  have npk : ¬ O' pk := fun z => S20.wd.nn pk z hpk
  have rk : Rp K (Fz O' (upd H20 pk (.tup [.str "ann", .int 2]))) (.ref pk) (.tuple ksA) := by
    have q := fz_put (O := O') npk (upd_same (H := H20) (a := pk) (o := .tup [.str "ann", .int 2])) rfl
    exact .tup (SqT.of q) (.cons (.str _) (.cons (.int _) .nil)) (.inl q)
  have S21 := S20.step sb21
  have a21 := lk sb21 a20
  generalize upd H20 pk (.tup [.str "ann", .int 2]) = H21 at rk S21 a21
  refine ⟨O', x, l, tbD u, _, _, _, _, [.tuple ksA], [n0, n1 u, n2 u, n3 u], .ref pk, .tuple ksA, true, rfl, S21.y, (by show 4 < 1000; decide), S21.wd, rk, W.hA, (fun z => by cases z), fun _ => ⟨true, (by kernel_rfl), fun _ H22 sb22 => ?_, fun z => by cases z⟩⟩
  have S22 := S21.step sb22
  have a22 := lk sb22 a21
  refine hE _ _ H22 rfl kp hx (fun pt H23 sb23 h23 => ?_)
  have S23 := S22.step sb23
  have a23 := lk sb23 a22
  have npt : ¬ O' pt := fun z => by
    obtain ⟨o, e, pl⟩ := S23.wd.dom pt z
    rw [h23] at e; cases e; cases pl
  have rt : Rp K (Fz O' H23) (.ref pt) (.tuple [.str "refused", .str (kindW [true, false, false, false, false, false, false, false, false, false, true])]) := by
    have q := fz_put (O := O') npt h23 rfl
    exact .tup (SqT.of q) (.cons (.str _) (.cons (.str _) .nil)) (.inl q)
  clear S19 S20 S21 S22 a19 a20 a21 a22 e20 sb20 sb21 sb22 sb23 hE hQ rk npk hpk h23 npt
  refine we_ev (r := .fz (.tuple [.str "refused", .str "asked Plugged+"])) C (rel_of S23.wd) (by rcases ten h1 h2 with rfl | rfl | rfl | rfl | rfl | rfl | rfl | rfl | rfl | rfl <;> kernel_rfl) fun y3 H24 sb24 r24 => ?_
  refine cmpD_ok (β := none) hu (b := true) (by kernel_rfl) (tp (fzs sb24 rt)) (tp r24) ⟨true, rfl, iteT ?_⟩
  have S24 := S23.step sb24
  have a24 := lk sb24 a23
  obtain ⟨_, _, _, e24, _⟩ := S24.y.ob
  refine ⟨_, rfl, x, _, _, rfl, e24, yf_no (by decide +kernel), O', x, l, tbD u, _, [n0, n1 u, n2 u, n3 u], .int 3, rfl, S24.y, rfl, rfl, fun v3 q3 => ?_⟩
  cases q3
  refine ⟨rfl, ?_⟩
  rw [d3]
  refine ⟨p, _, _, rfl, rfl, a24, (by show 4 < sizeLine; decide), ?_⟩
  generalize hH : upd H24 p _ = H25
  have S25 : Stp K H H25 O' x l (tbD u) (n4 u) [n0, n1 u, n2 u, n3 u] := by rw [← hH]; exact S24.app a24 op p0 npx npl
  have a25 : H25 p = some (.lst (List.replicate 5 (V.bl true))) := by rw [← hH]; exact upd_same
  clear hH S23 S24 a23 a24 e24 r24 rt sb24
  -- back, and back
  obtain ⟨_, _, _, e25, _⟩ := S25.y.ob
  refine ⟨_, rfl, x, _, _, rfl, e25, yf_no (by decide +kernel), O', x, l, tbD u, n4 u, [n0, n1 u, n2 u, n3 u], rfl, S25.y, S25.wd, (fun z => by cases z), fun qs n' en H26 m26 Y26 => ?_⟩
  obtain ⟨eq1, eq2⟩ := List.append_inj' (show [n0, n1 u, n2 u] ++ [n3 u] = qs ++ [n'] from en) rfl
  cases eq2
  subst eq1
  have S26 := S25.to m26 Y26
  have a26 := lm m26 a25
  clear S25 a25 e25 m26 Y26 en
  obtain ⟨_, _, _, e26, _⟩ := S26.y.ob
  refine ⟨_, rfl, x, _, _, rfl, e26, yf_no (by decide +kernel), O', x, l, tbD u, n3 u, [n0, n1 u, n2 u], rfl, S26.y, S26.wd, (fun z => by cases z), fun qs n' en H27 m27 Y27 => ?_⟩
  obtain ⟨eq1, eq2⟩ := List.append_inj' (show [n0, n1 u] ++ [n2 u] = qs ++ [n'] from en) rfl
  cases eq2
  subst eq1
  have S27 := S26.to m27 Y27
  have a27 := lm m27 a26
  clear S26 a26 e26 m27 Y27 en
  -- all that is told
  obtain ⟨_, _, _, e27, _⟩ := S27.y.ob
  refine ⟨_, rfl, ?_⟩
  refine ⟨_, rfl, x, _, _, rfl, e27, yf_no (by decide +kernel), O', x, l, tbD u, _, [n0, n1 u], .tuple [], rfl, S27.y, rfl, rfl, fun v4 q4 => we_ev (r := .fz (.tuple [])) C (rel_of S27.wd) (by rcases ten h1 h2 with rfl | rfl | rfl | rfl | rfl | rfl | rfl | rfl | rfl | rfl <;> kernel_rfl) fun y4 H28 sb28 r28 => ?_⟩
  refine cmpD_ok (β := none) hu (b := true) (by kernel_rfl) (tp (fzs sb28 q4)) (tp r28) ?_
  have S28 := S27.step sb28
  obtain ⟨_, _, _, e28, _⟩ := S28.y.ob
  refine ⟨_, rfl, x, _, _, rfl, e28, yf_no (by decide +kernel), O', x, l, tbD u, _, [n0, n1 u], .int 2, rfl, S28.y, rfl, rfl, fun v5 q5 => ?_⟩
  cases q5
  have d2 : decide (V.int 2 = V.int 2) = true := decide_eq_true rfl
  refine ⟨rfl, ?_⟩
  rw [d2]
  refine ⟨_, rfl, x, _, _, rfl, e28, yf_no (by decide +kernel), we_ev (r := .fz (.tuple ksB)) C (rel_of S28.wd) (by rcases ten h1 h2 with rfl | rfl | rfl | rfl | rfl | rfl | rfl | rfl | rfl | rfl <;> kernel_rfl) fun vk H29 sb29 rk => ?_⟩
  have S29 := S28.step sb29
  refine ⟨O', x, l, tbD u, _, _, _, _, w2 u, [n0, n1 u], vk, ksB, true, rfl, S29.y, S29.wd, rk, W.hB, (fun z => by cases z), fun _ => ⟨[.inr "ann", .inl 4], qD (2 * u) 3, rfl, rfl, fun v6 H30 sb30 q6 => we_ev (r := .fz (qD (2 * u) 3)) C (rel_of (S29.step sb30).wd) (Eq.trans (b := F "_law_lowest" [.fz (.int (2 * u)), .fz (.int 3)] none) (by rcases ten h1 h2 with rfl | rfl | rfl | rfl | rfl | rfl | rfl | rfl | rfl | rfl <;> kernel_rfl) W.lo2) fun y6 H31 sb31 r31 => ?_⟩⟩
  refine cmpD_ok (β := none) hu (b := true) (by rcases ten h1 h2 with rfl | rfl | rfl | rfl | rfl | rfl | rfl | rfl | rfl | rfl <;> kernel_rfl) (tp (fzs sb31 q6)) (tp r31) ?_
  have S31 := (S29.step sb30).step sb31
  have a31 := lk sb31 (lk sb30 (lk sb29 (lk sb28 a27)))
  refine ⟨(by show 3 ≤ sizeLine; decide), fun q1 hq1 => ?_⟩
  refine ⟨p, q1, _, _, rfl, rfl, lk (SB.laid hq1) a31, upd_same, (by show 5 + 3 ≤ sizeLine; decide), fun q2 hq2 => ?_⟩
  have sb32 : SB none H (upd H31 q1 (.lst [V.bl true, V.bl true, V.bl true])) := S31.sb.trans (SB.laid hq1)
  exact k q2 _ (sb32.trans (SB.laid hq2)) (sb32.dm q2 (fun z => by cases z) hq2) upd_same
end
end K11

set_option maxHeartbeats 4000000
namespace K11
open PySem PySem.Spec PyProof.Rows L2 Iv LamX L2H HotX
local instance ctI_K11YI : Iv.Ct := ctI
variable [Nm]
section
variable {P : Program} {w : World} {K : PySem.W.Frag} {mg : Str → Option Value} {base h : Heap} {F : FT}
theorem facX (c : He.SaysD faX fnX K) {f : He.Fa} (i : Nat) (hf : faX[i]? = some f) : f.ok K = true := c.fact i hf
theorem err_of (c : He.SaysD faX fnX K) (X : K.In h) (G : h.Ns mainGlobals mg) {x : Str} (h1 : He.Fa.glo x ∈ faX) (h2 : He.Fa.exc x ∈ faX) : Err K mg x := by
  obtain ⟨a, b, d, e⟩ := He.exc_ok (c.facts h2)
  exact ⟨He.glo_ok X G (c.facts h1), a, b, d, e⟩
theorem meth_of (c : He.SaysD faX fnX K) {m : Str} (h1 : He.Fa.meth "Yard" m ∈ faX) : Meth K (yC K) m (yM K m) := He.meth_ok (c.facts h1)
theorem txt_of (c : He.SaysD faX fnX K) (c0 : He.SaysD tbl.fa tbl.fn K) (X : K.In h) (G : h.Ns mainGlobals mg) : Txt K mg where
  cl := He.cls_ok (facX c 0 rfl)
  nB := He.noat_ok (facX c 3 rfl)
  nT := He.noat_ok (facX c 4 rfl)
  nN := He.noat_ok (facX c 5 rfl)
  nP := He.noat_ok (facX c 6 rfl)
  mgC := He.glo_ok X G (facX c 2 rfl)
  len := He.free_ok X G (fact_of c0 (f := .free "len") (by unfold Tbl.fa; simp only [List.mem_append, List.mem_map]; exact .inr (.inr (.inr ⟨"len", by decide +kernel, rfl⟩))))
theorem kgl_of (c : He.SaysD faX fnX K) (c0 : He.SaysD tbl.fa tbl.fn K) (X : K.In h) (G : h.Ns mainGlobals mg) : KGl K mg where
  e := fun x hx => He.glo_ok X G (c.facts (by
    have : ∀ x ∈ kindNs, He.Fa.glo x ∈ faX := by
      intro x hx
      simp only [kindNs, List.mem_cons, List.not_mem_nil, or_false] at hx
      rcases hx with rfl | rfl | rfl | rfl | rfl | rfl | rfl | rfl | rfl | rfl | rfl <;> simp [faX]
    exact this x hx))
  ii := He.free_ok X G (fact_of c0 (f := .free "isinstance") (by unfold Tbl.fa; simp only [List.mem_append, List.mem_map]; exact .inr (.inr (.inr ⟨"isinstance", by decide +kernel, rfl⟩))))
  ve := He.free_ok X G (c.facts (by simp [faX]))
  rg := He.free_ok X G (fact_of c0 (f := .free "range") (by unfold Tbl.fa; simp only [List.mem_append, List.mem_map]; exact .inr (.inr (.inr ⟨"range", by decide +kernel, rfl⟩))))
theorem meths_of (c : He.SaysD faX fnX K) (c0 : He.SaysD tbl.fa tbl.fn K) (X : K.In h) (G : h.Ns mainGlobals mg) (GF : Glb P w K mg base tbl.gl F 14) : Meths P w K mg base F := by
  have T := txt_of c c0 X G
  obtain ⟨fd0, U0⟩ := c.def_ 0 rfl
  obtain ⟨fd1, U1⟩ := c.def_ 1 rfl
  obtain ⟨fd2, U2⟩ := c.def_ 2 rfl
  obtain ⟨fd3, U3⟩ := c.def_ 3 rfl
  obtain ⟨fd4, U4⟩ := c.def_ 4 rfl
  obtain ⟨fd5, U5⟩ := c.def_ 5 rfl
  obtain ⟨fd6, U6⟩ := c.def_ 6 rfl
  obtain ⟨fd7, U7⟩ := c.def_ 7 rfl
  obtain ⟨fd8, U8⟩ := c.def_ 8 rfl
  obtain ⟨fd9, U9⟩ := c.def_ 9 rfl
  obtain ⟨fd10, U10⟩ := c.def_ 10 rfl
  obtain ⟨fd11, U11⟩ := c.def_ 11 rfl
  obtain ⟨fd12, U12⟩ := c.def_ 12 rfl
  have U0 : FunD K "refuse_no_hole" "refuse_no_hole" (defArgs s_refuse_no_hole) (defBody s_refuse_no_hole) (defScope s_refuse_no_hole) [] [] (He.ga K "refuse_no_hole") fd0 := U0
  have U1 : FunD K "__init__" "Yard.__init__" (defArgs s_Y___init__) (defBody s_Y___init__) (defScope s_Y___init__) [] [] (yM K "__init__") fd1 := U1
  have U2 : FunD K "become" "Yard.become" (defArgs s_Y_become) (defBody s_Y_become) (defScope s_Y_become) [] [] (yM K "become") fd2 := U2
  have U3 : FunD K "set_rain" "Yard.set_rain" (defArgs s_Y_set_rain) (defBody s_Y_set_rain) (defScope s_Y_set_rain) [] [] (yM K "set_rain") fd3 := U3
  have U4 : FunD K "plug" "Yard.plug" (defArgs s_Y_plug) (defBody s_Y_plug) (defScope s_Y_plug) [] [] (yM K "plug") fd4 := U4
  have U5 : FunD K "go_on" "Yard.go_on" (defArgs s_Y_go_on) (defBody s_Y_go_on) (defScope s_Y_go_on) [] [] (yM K "go_on") fd5 := U5
  have U6 : FunD K "back" "Yard.back" (defArgs s_Y_back) (defBody s_Y_back) (defScope s_Y_back) [] [] (yM K "back") fd6 := U6
  have U7 : FunD K "hour" "Yard.hour" (defArgs s_Y_hour) (defBody s_Y_hour) (defScope s_Y_hour) [] [] (yM K "hour") fd7 := U7
  have U8 : FunD K "heights" "Yard.heights" (defArgs s_Y_heights) (defBody s_Y_heights) (defScope s_Y_heights) [] [] (yM K "heights") fd8 := U8
  have U9 : FunD K "plugged" "Yard.plugged" (defArgs s_Y_plugged) (defBody s_Y_plugged) (defScope s_Y_plugged) [] [] (yM K "plugged") fd9 := U9
  have U10 : FunD K "through" "Yard.through" (defArgs s_Y_through) (defBody s_Y_through) (defScope s_Y_through) [] [] (yM K "through") fd10 := U10
  have U11 : FunD K "away" "Yard.away" (defArgs s_Y_away) (defBody s_Y_away) (defScope s_Y_away) [] [] (yM K "away") fd11 := U11
  have U12 : FunD K "__len__" "Yard.__len__" (defArgs s_Y___len__) (defBody s_Y___len__) (defScope s_Y___len__) [] [] (yM K "__len__") fd12 := U12
  have er : ∀ x : Str, He.Fa.glo x ∈ faX → He.Fa.exc x ∈ faX → Err K mg x := fun x a b => err_of c X G a b
  have Be : MOk P w K mg base CX0 1 "become" ["self", "now"] (spBecome K (yC K)) := ⟨⟨fd2, ok_become U2 T, U2.bindsN fun kV doc pm an cdv ct us hl => (match us, hl with | [_, _], _ => rfl)⟩, meth_of c (by simp [faX])⟩
  have Pl : MOk P w K mg base CX0 1 "plugged" ["self"] (spPart K (yC K) 3) := ⟨⟨fd9, ok_plugged U9 T, U9.bindsN fun kV doc pm an cdv ct us hl => (match us, hl with | [_], _ => rfl)⟩, meth_of c (by simp [faX])⟩
  have Rf : ROk P w K mg base F 15 := ⟨⟨He.ga K "refuse_no_hole", fd0, He.glo_ok X G (c.facts (by simp [faX])), U0.kp, ok_refuse GF U0 (er "NoHole" (by simp [faX]) (by simp [faX])), U0.bindsN fun kV doc pm an cdv ct us hl => (match us, hl with | [_, _], _ => rfl)⟩⟩
  have Th : MOk P w K mg base (L2N.CX P w) 16 "through" ["self", "hole"] (spThrough K (yC K) F) := ⟨⟨fd10, ok_through (j := 14) U10 T Rf, U10.bindsN fun kV doc pm an cdv ct us hl => (match us, hl with | [_, _], _ => rfl)⟩, meth_of c (by simp [faX])⟩
  exact {
    mak := ⟨yM K "__init__", fd1, He.mkr_ok (c.facts (f := .mkr "Yard") (by simp [faX])), ok_init GF U1 T (er "NoTubs" (by simp [faX]) (by simp [faX])), U1.bindsN fun kV doc pm an cdv ct us hl => (match us, hl with | [_, _], _ => rfl)⟩
    rain := ⟨⟨fd3, ok_rain GF (by decide) U3 T (er "NoRain" (by simp [faX]) (by simp [faX])) Be, U3.bindsN fun kV doc pm an cdv ct us hl => (match us, hl with | [_, _], _ => rfl)⟩, meth_of c (by simp [faX])⟩
    goOn := ⟨⟨fd5, ok_goOn GF (by decide) U5 T (er "NoHours" (by simp [faX]) (by simp [faX])) Be, U5.bindsN fun kV doc pm an cdv ct us hl => (match us, hl with | [_, _], _ => rfl)⟩, meth_of c (by simp [faX])⟩
    plug := ⟨⟨fd4, ok_plug GF U4 T (er "Plugged" (by simp [faX]) (by simp [faX])) Rf Be Pl, U4.bindsN fun kV doc pm an cdv ct us hl => (match us, hl with | [_, _], _ => rfl)⟩, meth_of c (by simp [faX])⟩
    back := ⟨⟨fd6, ok_back U6 T (er "NothingLeft" (by simp [faX]) (by simp [faX])), U6.bindsN fun kV doc pm an cdv ct us hl => (match us, hl with | [_], _ => rfl)⟩, meth_of c (by simp [faX])⟩
    hour := ⟨⟨fd7, ok_hour U7 T, U7.bindsN fun kV doc pm an cdv ct us hl => (match us, hl with | [_], _ => rfl)⟩, meth_of c (by simp [faX])⟩
    heights := ⟨⟨fd8, ok_heights U8 T, U8.bindsN fun kV doc pm an cdv ct us hl => (match us, hl with | [_], _ => rfl)⟩, meth_of c (by simp [faX])⟩
    plugged := Pl
    through := Th
    away := ⟨⟨fd11, ok_away GF U11 T Th, U11.bindsN fun kV doc pm an cdv ct us hl => (match us, hl with | [_], _ => rfl)⟩, meth_of c (by simp [faX])⟩
    len := ⟨⟨fd12, ok_len GF U12 T Pl, U12.bindsN fun kV doc pm an cdv ct us hl => (match us, hl with | [_], _ => rfl)⟩, meth_of c (by simp [faX])⟩ }
theorem only_ext {x : Str} {d : Df} {g : Nat × (List R → BSt → Option (R × BSt))} (h : tbl.dfs.lookup x = some d) (hg : d.ext = some g) : x = "_law_yard_told" ∧ d = d__law_yard_told ∧ g = (20, yardF) := by
  obtain ⟨i, hi⟩ := lookup_at h
  have hm := List.mem_of_getElem? hi
  have key : (tbl.dfs.all fun p => p.2.ext.isNone || decide (p.1 = "_law_yard_told")) = true := by kernel_rfl
  have := List.all_eq_true.mp key _ hm
  simp only [hg, Option.isNone_some, Bool.false_or, decide_eq_true_eq] at this
  subst this
  have e : tbl.dfs.lookup ("_law_yard_told" : Str) = some d__law_yard_told := by kernel_rfl
  rw [e] at h
  cases h
  cases hg
  exact ⟨rfl, rfl, rfl⟩
theorem ext_ok (c : He.SaysD faX fnX K) (c0 : He.SaysD tbl.fa tbl.fn K) (X : K.In h) (G : h.Ns mainGlobals mg) (kp : KindOf K (He.ga K "Plugged") [true, false, false, false, false, false, false, false, false, false, true])
    (TB : LamX.TabB base mg (He.cT K ("_law_yard_told", none)).1 (He.cT K ("_law_yard_told", none)).2) (hm : (He.cT K ("_law_yard_told", none)).2 ∈ Nm.tabs) (hq : ∀ l c, Nm.nm (He.cT K ("_law_yard_told", none)).2 l c = "_law_yard_told.<locals>.<lambda>") :
    tbl.ExtOk P w K mg base whR 60 := by
  intro x d g hl hg k fd GF U b hk
  obtain ⟨rfl, rfl, rfl⟩ := only_ext hl hg
  have hk : 20 ≤ k + 1 := hk
  have T := txt_of c c0 X G
  have GF14 := GF 14 (by omega)
  have M := meths_of c c0 X G GF14
  obtain ⟨fd13, U13⟩ := c.def_ 13 rfl
  obtain ⟨fd14, U14⟩ := c.def_ 14 rfl
  have U13 : FunD K "_law_kinds" "_law_kinds" (defArgs s__law_kinds) (defBody s__law_kinds) (defScope s__law_kinds) [] [] (He.ga K "_law_kinds") fd13 := U13
  have U14 : FunD K "_law_told" "_law_told" (defArgs s__law_told) (defBody s__law_told) (defScope s__law_told) [] [] (He.ga K "_law_told") fd14 := U14
  have DK : Dk K mg "_law_kinds" s__law_kinds ["e"] := ⟨⟨fd13, U13, U13.bindsN fun kV doc pm an cdv ct us hl => (match us, hl with | [_], _ => rfl)⟩, He.glo_ok X G (c.facts (by simp [faX]))⟩
  have DT : Dk K mg "_law_told" s__law_told ["call"] := ⟨⟨fd14, U14, U14.bindsN fun kV doc pm an cdv ct us hl => (match us, hl with | [_], _ => rfl)⟩, He.glo_ok X G (c.facts (by simp [faX]))⟩
  obtain ⟨oc, od, dV, kV, doc, pm, an, cdv, ct, osl, rfl, lk, hcd, _, _⟩ := U.ex
  obtain ⟨cc, rfl⟩ := He.codeIn_ref hcd
  have ec : (He.cT K ("_law_yard_told", none)).1 = cc := He.codeOf_eq (p := ("_law_yard_told", none)) lk rfl
  rw [ec] at TB
  refine fn_ofS (N := nmY) lk hcd scY (fun outer s vs H Q E h => h.1) (fun A outer s H vs Q E hr hgd e0 h => ?_)
  obtain ⟨hl, β, Oo, vs1, rs, cv, st, r, st', rfl, av, nf, hcv, hb, hO, bg, tb, hf, q⟩ := h
  have hr : Room k (A.deeper (envOfC "_law_yard_told" (defScope (topS 106)) s.heap.objs.size (He.ga K "_law_yard_told") (.ref cc))) := hr
  have hu : (A.deeper (envOfC "_law_yard_told" (defScope (topS 106)) s.heap.objs.size (He.ga K "_law_yard_told") (.ref cc))).units + 65 < cLine := by have := hr.un; omega
  obtain ⟨u, er, h1, h2, rfl, rfl⟩ : ∃ u : Int, rs ++ cvR cv = [.fz (.int u)] ∧ 1 ≤ u ∧ u ≤ 10 ∧ r = .ow (.list (List.replicate 8 (.bool true))) ∧ st' = st := by
    have hf : yardF (rs ++ cvR cv) st = some (r, st') := hf
    unfold yardF at hf
    split at hf
    · rename_i u er
      obtain ⟨c1, hf⟩ := ite_some hf
      rw [Bool.and_eq_true] at c1
      cases hf
      exact ⟨u, er, of_decide_eq_true c1.1, of_decide_eq_true c1.2, rfl, rfl⟩
    · cases hf
  have ecv : cv = none := by
    cases cv with
    | none => rfl
    | some v =>
      exfalso
      have : R.fnc v.1 v.2.1 v.2.2.1 v.2.2.2 ∈ [R.fz (.int u)] := by
        rw [← er]
        exact List.mem_append_right _ (List.mem_singleton.mpr rfl)
      cases List.mem_singleton.mp this
  subst ecv
  have er : rs = [.fz (.int u)] := by
    have e0 : rs ++ [] = [.fz (.int u)] := er
    rwa [List.append_nil] at e0
  subst er
  obtain ⟨v, rfl, rv⟩ : ∃ v, vs1 = [v] ∧ v = .int u := by
    cases av with
    | cons a b =>
      cases b
      have rp : Rp K (Fz Oo H) _ (.int u) := a.2
      cases rp
      exact ⟨_, rfl, rfl⟩
  subst rv
  have wd0 : Wd Oo H := ⟨hO, tb⟩
  have C : CxS (tbl.F whR 60 14) SY (cxOf CX0 P w K mg base nmY "_law_yard_told" (defScope (topS 106)) (He.ga K "_law_yard_told") (.ref cc) A outer s H E).nox := {
    N := rfl
    sc := rfl
    calm := rfl
    nd := scY.nd
    hu := hu
    fn := fun _ _ => rfl
    cel := fun _ h => by cases h
    gl := fun y g e => gl_of GF14 rfl rfl rfl rfl rfl (hr.mono (by omega)) y g e
    xe := rfl
    kind := scY.kind
    clo := fun f' F' ws ds hm => by cases hm
    mad := fun _ _ h => by cases h
    gd := fun h => by cases h }
  refine run_yard (F := tbl.F whR 60 14) (u := u) (Oo := Oo) (P0 := (He.cT K ("_law_yard_told", none)).2) rfl h1 h2 T M (yv u h1 h2) C DT DK (kgl_of c c0 X G) (He.glo_ok X G (c.facts (by simp [faX]))) kp (He.exm_ok (c.facts (f := .exm "Plugged" "TubError" true) (by simp [faX]))) TB hm hq (hr.mono (by omega)) wd0 (fun p H' sb hp e => ?_)
  refine q _ _ (SB.wk sb) (bg.mono fun b o hb' e => ?_) ⟨p, rfl, hp, fun z => wd0.nn p (hb p z) hp, ?_⟩
  · obtain ⟨o', e', pl⟩ := hO b (hb b hb')
    rw [e] at e'; cases e'
    exact sb.go b o (fun z => by cases z) (plain_noTbl pl) e
  · exact ⟨_, e, .cons (.bl _) (.cons (.bl _) (.cons (.bl _) (.cons (.bl _) (.cons (.bl _) (.cons (.bl _) (.cons (.bl _) (.cons (.bl _) .nil)))))))⟩
end
end K11

set_option maxHeartbeats 0
open PySem PySem.W PySem.Calls PyProof.Rows
theorem K11.nmf_0 {a0 a1 a2 : Addr} (l c : Nat) : (K11.nmI a0 a1 a2).nm a0 l c = "flows_in_the_end.<locals>.letting" := if_pos rfl
theorem K11.nmf_1 {a0 a1 a2 : Addr} (h : a0 ≠ a1) (l c : Nat) : (K11.nmI a0 a1 a2).nm a1 l c = "stretch_from.<locals>.letting" := (if_neg fun z => h z.symm).trans (if_pos rfl)
theorem K11.nmf_2 {a0 a1 a2 : Addr} (h : a0 ≠ a2) (h' : a1 ≠ a2) (l c : Nat) : (K11.nmI a0 a1 a2).nm a2 l c = "_law_yard_told.<locals>.<lambda>" := (if_neg fun z => h z.symm).trans (if_neg fun z => h' z.symm)
theorem K11.nd_two : ∀ p ∈ K11.tbl.dfs, ∀ nd, p.2.nd = some nd → (p.1 = "flows_in_the_end" ∧ nd.q = "flows_in_the_end.<locals>.letting") ∨ (p.1 = "stretch_from" ∧ nd.q = "stretch_from.<locals>.letting") := by
  intro p hp nd h
  have key : (K11.tbl.dfs.all fun p => match p.2.nd with
    | none => true
    | some nd => (decide (p.1 = "flows_in_the_end") && decide (nd.q = "flows_in_the_end.<locals>.letting")) || (decide (p.1 = "stretch_from") && decide (nd.q = "stretch_from.<locals>.letting"))) = true := by kernel_rfl
  have := List.all_eq_true.mp key _ hp
  rw [h] at this
  simpa using this
theorem PySem.Challenge.cw_holetubs_k11_written_tubs_holds : PySem.Challenge.rw_holetubs_k11_written_tubs.Holds := by
  w_on; o_law
  refine HandSHeadRun.head_any (r := OpenLaw.row PySem.Challenge.rw_holetubs_k11_written_tubs) (q := view (OpenLaw.row PySem.Challenge.rw_holetubs_k11_written_tubs).prog [107]) (H := K11.hk) (ob := K11.ob) (M := 40000) (loose := K11.loose) (d := HandSHeadRun.topDef (OpenLaw.row PySem.Challenge.rw_holetubs_k11_written_tubs).prog 107) (kwd := []) K11.ob_eq
    (by kernel_rfl) (fun s => by kernel_rfl) K11.run (by kernel_rfl) (by kernel_rfl) (by kernel_rfl) (by rfl) (by first | assumption | decide +kernel) (by decide +kernel) ⟨rfl, rfl, rfl, rfl, rfl, by decide +kernel⟩ ?hw ?hc
  case hw => w_witness2
  case hc =>
    refine Iv.walk_first (l := PySem.Challenge.rw_holetubs_k11_written_tubs) (n := 63) (k := 41) (x := "script") rfl (by decide) (by kernel_rfl) ⟨rfl, by decide, by decide⟩ ?F
    intro w mg fa h Y G hmg0
    obtain ⟨K, KX, c⟩ := Y
    have hmg : mg ("law" : PySem.Str) = some (.ref fa) := by
      have e : (HandSHeadRun.topDef (OpenLaw.row PySem.Challenge.rw_holetubs_k11_written_tubs).prog 107).name = ("law" : PySem.Str) := by kernel_rfl
      rw [← e]
      exact hmg0
    obtain ⟨c0, cx⟩ := Iv.says_both c.t.d
    have more := c.more
    unfold K11.exX at more
    simp only [Bool.and_eq_true, decide_eq_true_eq] at more
    obtain ⟨ce, n01, n02, n12, kb⟩ := more
    have kp := Iv.kindB_ok kb
    letI : Iv.Ct := K11.ctI
    letI : Iv.Nm := K11.nmI (He.cT K ("flows_in_the_end", none)).2 (He.cT K ("stretch_from", none)).2 (He.cT K ("_law_yard_told", none)).2
    have tf : K11.tbl.tf = [(("flows_in_the_end" : PySem.Str), none), (("stretch_from" : PySem.Str), none)] := by kernel_rfl
    have tabs : K11.tfX.map (fun p => (He.cT K p).2) = [(He.cT K ("flows_in_the_end", none)).2, (He.cT K ("stretch_from", none)).2, (He.cT K ("_law_yard_told", none)).2] := by
      unfold K11.tfX; rw [tf]; rfl
    have hN : ∀ p ∈ K11.tbl.dfs, ∀ nd, p.2.nd = some nd → ∀ l c, Iv.Nm.nm (He.cT K (p.1, none)).2 l c = nd.q := fun p hp nd hnd l c => by
      rcases K11.nd_two p hp nd hnd with ⟨e1, e2⟩ | ⟨e1, e2⟩
      · rw [e1, e2]; exact K11.nmf_0 l c
      · rw [e1, e2]; exact K11.nmf_1 n01 l c
    obtain ⟨fd, hb, hF⟩ := Iv.Tbl.law (P := (PySem.Challenge.rw_holetubs_k11_written_tubs).prog) (w := w) (T := K11.tbl) Iv.whR_ok (K11.oks fun _ => rfl) c0 ce KX G (fun p hp => by
      have hp : p ∈ [(("flows_in_the_end" : PySem.Str), none), (("stretch_from" : PySem.Str), none)] := tf ▸ hp
      rcases List.mem_cons.mp hp with rfl | hp
      · exact List.mem_cons_self
      rcases List.mem_cons.mp hp with rfl | hp
      · exact List.mem_cons_of_mem _ List.mem_cons_self
      · cases hp) hN 60 41 63 hmg (d := K11.d_law) (by kernel_rfl) rfl rfl rfl K11.ans
    refine ⟨K, KX, fd, K11.tfX.map (He.cT K ·), Iv.spL K 63, fun p hp => ?_, fun p hp => ?_, fun p hp => ?_, hb, fun H a ns hl hT hS => ⟨a, ns, rfl, Iv.sc_of hS, hl, fun p hp => ?_, fun _ => rfl⟩, fun base hK hG hTB => hF base hK hG (fun p hp => hTB _ (List.mem_map.mpr ⟨p, List.mem_append_left _ hp, rfl⟩)) ?_⟩
    · obtain ⟨q, hq, rfl⟩ := List.mem_map.mp hp; exact c.empty q hq
    · obtain ⟨q, hq, rfl⟩ := List.mem_map.mp hp; exact c.out q hq
    · obtain ⟨q, hq, rfl⟩ := List.mem_map.mp hp; exact PySem.W.codeHd_of_K KX (c.hd q hq)
    · obtain ⟨P, hP, rfl⟩ := List.mem_map.mp hp
      have hP : P ∈ K11.tfX.map (fun p => (He.cT K p).2) := by rw [tabs]; exact hP
      obtain ⟨q, hq, rfl⟩ := List.mem_map.mp hP
      exact NdefX.TabN.nil (hT _ (List.mem_map.mpr ⟨q, hq, rfl⟩))
    · exact K11.ext_ok cx c0 KX G kp (hTB _ (List.mem_map.mpr ⟨("_law_yard_told", none), List.mem_append_right _ List.mem_cons_self, rfl⟩)) (List.mem_cons_of_mem _ (List.mem_cons_of_mem _ List.mem_cons_self)) (fun l c => K11.nmf_2 n02 n12 l c)
